/- Part of a proof. -/
import Derived.Test.YtekhjalgmlflpaaGreatDoorKba
set_option linter.all false
section
namespace Go.V
open Go
set_option linter.defProp false
section
variable {P : Program} {G : Glob} {n : Nat} {γ : Nat} {tm : Nat → VV} {H : Nat → Option VObj} {nx : Nat} {df : List VDef} {K : St → Prop} {Kd : List Nat → List Nat → St → Prop} {Qp : VV → St → Prop}
 {d : Option Tmp} {ty : TypeId} {pos : String} {af : Array Edge} {g : Option (Nat × Bool)}
section
variable {a b : Prop} {x y : VV} {k : VV → Prop}
theorem Ki : guardK (.lit (.bool true)) true a b = a := by simp [guardK]
theorem Kj : guardK (.lit (.bool true)) false a b = b := by simp [guardK]
theorem Kk : guardK (.lit (.bool false)) true a b = b := by simp [guardK]
theorem Kl : guardK (.lit (.bool false)) false a b = a := by simp [guardK]
theorem Km {w : Bool} : guardK (.lit undef) w a b = b := rfl
theorem Kn : pickK (.lit (.bool true)) x y k = k x := by simp [pickK]
theorem Ko : pickK (.lit (.bool false)) x y k = k y := by simp [pickK]
theorem Kp : condK (.lit (.bool true)) a b = a := by simp [condK]
theorem Kq : condK (.lit (.bool false)) a b = b := by simp [condK]
end
theorem lO : leafL [] = true := rfl
theorem lP {x : VV} {xs : List VV} : leafL (x :: xs) = (x.leaf && leafL xs) := rfl
theorem Ks {k : IntKind} {i : Int} : (VV.lit (.int k i)).leaf = true := rfl
theorem Vu {b : Bool} : (VV.lit (.bool b)).leaf = true := rfl
theorem Vv {b : ByteArray} : (VV.lit (.string b)).leaf = true := rfl
theorem Kt {b : Option Addr} {l c : Nat} : (VV.lit (.slice b l c)).leaf = true := rfl
theorem uR {cs : List VV} {k : Nat} {f : Bool} : (VV.sl cs k f).leaf = true := rfl
theorem Ku {β o l e c : Nat} : (VV.ref β o l e c).leaf = true := rfl
theorem Kv {cs : List VV} : vcells (.agg cs) = if leafL cs = true then some cs else none := by simp only [vcells, Bp]
theorem vcells1 {x : VV} (h : x.leaf = true) : vcells x = some [x] := by
 cases x <;> first | rfl | (simp [vcells, h]; done) | cases h
theorem Kw {k : IntKind} {i : Int} : vcells (.lit (.int k i)) = some [.lit (.int k i)] := rfl
theorem Ky {b : Bool} : vcells (.lit (.bool b)) = some [.lit (.bool b)] := rfl
theorem Kz {b : Option Addr} {l c : Nat} : vcells (.lit (.slice b l c)) = some [.lit (.slice b l c)] := rfl
theorem K7 {cs : List VV} {k : Nat} {f : Bool} : vcells (.sl cs k f) = some [.sl cs k f] := rfl
theorem KA {β o l e c : Nat} : vcells (.ref β o l e c) = some [.ref β o l e c] := rfl
theorem Zq {cs xs : List VV} {off : Nat} : overwrite cs off xs = cs.take off ++ (xs ++ cs.drop (off + xs.length)) := by simp [overwrite, List.append_assoc]
def vzl (P : Program) (t : TypeId) : Option (List VV) := (vzero P t).map fun z => z.toList.map ofVal1
theorem KB {t : TypeId} : aS P G γ ⟨d, .alloc t, ty, pos, af, g⟩ ⟨tm, H, nx, df⟩ K Qp = (match vzl P t with | some cs => fin d γ tm H nx df K (.ptr γ 0) (.new (.cells (some t) cs)) | none => False) := by
 rw [KC]; unfold vzl; cases vzero P t <;> rfl
theorem Zr {t : TypeId} : dbodyK P G γ ⟨d, .alloc t, ty, pos, af, g⟩ ⟨tm, H, nx, df⟩ Kd = (match vzl P t with | some cs => fin d γ tm H nx df (Kd (rdV ⟨d, .alloc t, ty, pos, af, g⟩ (ev G tm)) [γ]) (.ptr γ 0) (.new (.cells (some t) cs)) | none => False) := by
 rw [KD]; unfold vzl; cases vzero P t <;> rfl
def vstoreV (P : Program) (H : Nat → Option VObj) (t : TypeId) (a x : VV) : Option (VV × VEff) := match a with
  | .ptr β off => match H β, vcells x, szT P t with
   | some (.cells el cs), some xs, some n => if xs.length = n ∧ off + n ≤ cs.length then some (.any, .upd β (.cells el (overwrite cs off xs))) else none
   | _, _, _ => none
  | _ => none
theorem KE {t : TypeId} {a x : Operand} : aS P G γ ⟨d, .store t a x, ty, pos, af, g⟩ ⟨tm, H, nx, df⟩ K Qp = oeK (vstoreV P H t (ev G tm a) (ev G tm x)) (fun y e => fin d γ tm H nx df K y e) := by
 rw [KG]; rfl
theorem KH {t : TypeId} {x : VV} {β off : Nat} : vstoreV P H t (.ptr β off) x = (match H β, vcells x, szT P t with
   | some (.cells el cs), some xs, some n => if xs.length = n ∧ off + n ≤ cs.length then some (.any, .upd β (.cells el (overwrite cs off xs))) else none
   | _, _, _ => none) := rfl
end
def eI (n : Int) : List VV := [.lit (.int .i64 n)]
def rX (n : Int) : List VV := [.lit (.int .u8 n)]
def eB (b : Bool) : List VV := [.lit (.bool b)]
def eS (s : ByteArray) : List VV := [.lit (.string s)]
def eSl {α : Type} (enc : α → List VV) (xs : List α) : List VV := [.sl (aa enc xs) xs.length false]
theorem eI_eq {n : Int} : eI n = [.lit (.int .i64 n)] := rfl
theorem uS {n : Int} : rX n = [.lit (.int .u8 n)] := rfl
theorem eB_eq {b : Bool} : eB b = [.lit (.bool b)] := rfl
theorem eS_eq {s : ByteArray} : eS s = [.lit (.string s)] := rfl
theorem uT {α : Type} {enc : α → List VV} {xs : List α} : eSl enc xs = [.sl (aa enc xs) xs.length false] := rfl
structure EncOk {α : Type} (enc : α → List VV) : Prop where
 tree : ∀ x, treeL (enc x) = true
 norm : ∀ x, normL (enc x) = enc x
 shown : ∀ x H d, (enc x).map (showV H d) = enc x
theorem eI_ok : EncOk eI := ⟨fun _ => rfl, fun _ => rfl, fun _ _ d => by cases d <;> rfl⟩
theorem uU : EncOk rX := ⟨fun _ => rfl, fun _ => rfl, fun _ _ d => by cases d <;> rfl⟩
theorem eB_ok : EncOk eB := ⟨fun _ => rfl, fun _ => rfl, fun _ _ d => by cases d <;> rfl⟩
theorem eS_ok : EncOk eS := ⟨fun _ => rfl, fun _ => rfl, fun _ _ d => by cases d <;> rfl⟩
section
variable {α : Type} {enc : α → List VV} (h : EncOk enc)
include h
theorem EncOk.treeL (xs : List α) : Go.V.treeL (aa enc xs) = true := KI h.tree xs
theorem EncOk.normL (xs : List α) : Go.V.normL (aa enc xs) = aa enc xs := KJ h.norm xs
theorem EncOk.showL (xs : List α) (H : Nat → Option VObj) (d : Nat) : (aa enc xs).map (showV H d) = aa enc xs := Vw (fun x => h.shown x H d) xs
theorem EncOk.sl : EncOk (eSl enc) := ⟨fun x => by simp [eSl, Go.V.treeL, VV.tree, h.treeL], fun x => by simp [eSl, Go.V.normL, normV, h.normL], fun x H d => by cases d <;> rfl⟩
end
theorem EncOk.of {α : Type} {enc : α → List VV} (h1 : ∀ x, Go.V.treeL (enc x) = true) (h2 : ∀ x, Go.V.normL (enc x) = enc x) (h3 : ∀ x H d, (enc x).map (showV H d) = enc x) : EncOk enc := ⟨h1, h2, h3⟩
theorem KK {H : Nat → Option VObj} {d : Nat} {v : Value} : showV H d (.lit v) = .lit v := by cases d <;> rfl
theorem KL {H : Nat → Option VObj} {d n : Nat} {cs : List VV} {f : Bool} : showV H d (.sl cs n f) = .sl cs n f := by cases d <;> rfl
theorem cA {H : Nat → Option VObj} {d β off len es cp : Nat} : showV H (d + 1) (.ref β off len es cp) = (match H β with
   | some (.cells _ cs) => if off ≤ cs.length then .sl (((cs.drop off).take (len * es)).map (showV H d)) len false else .ref β off len es cp
   | _ => .ref β off len es cp) := rfl
theorem KM {H : Nat → Option VObj} {d : Nat} {cs : List VV} : showV H (d + 1) (.agg cs) = .agg (cs.map (showV H d)) := rfl
theorem KN {H : Nat → Option VObj} {d : Nat} {cs : List VV} : showV H (d + 1) (.tup cs) = .tup (cs.map (showV H d)) := rfl
theorem Bq {cs : List VV} {n : Nat} {f : Bool} : normV (.sl cs n f) = .sl (normL cs) n false := by simp [normV]
theorem Vx : normV (.lit (.slice none 0 0)) = .sl [] 0 false := by simp [normV]
theorem KP {cs : List VV} : normV (.agg cs) = .agg (normL cs) := by simp [normV]
theorem KQ {cs : List VV} : normV (.tup cs) = .tup (normL cs) := by simp [normV]
theorem Vy {k : IntKind} {n : Int} : normV (.lit (.int k n)) = .lit (.int k n) := by simp [normV]
theorem Vz {b : Bool} : normV (.lit (.bool b)) = .lit (.bool b) := by simp [normV]
theorem Zs {b : ByteArray} : normV (.lit (.string b)) = .lit (.string b) := by simp [normV]
theorem uN : normL [] = [] := rfl
theorem uM {x : VV} {xs : List VV} : normL (x :: xs) = normV x :: normL xs := by simp [normL]
theorem KR : VV.tree .any = true := rfl
def vs := (And.intro (And.intro (And.intro (And.intro (And.intro (And.intro @KS (And.intro @KT @KU)) (And.intro (And.intro @KV @KW) (And.intro @KX @KY))) (And.intro (And.intro (And.intro @KZ @Lb) (And.intro @Lc @Zt)) (And.intro (And.intro @Ld @Le) (And.intro @Lf @Lg)))) (And.intro (And.intro (And.intro @Lh (And.intro @Li @Lj)) (And.intro (And.intro @Lk @Ll) (And.intro @Lm @Ln))) (And.intro (And.intro (And.intro @Lo @Lp) (And.intro @Zu @Lq)) (And.intro (And.intro @zn @Br) (And.intro @Ls @Lt))))) (And.intro (And.intro (And.intro (And.intro @nu (And.intro @nv @Lu)) (And.intro (And.intro @nw @mQ) (And.intro @Lv @Lw))) (And.intro (And.intro (And.intro @Lx @Ly) (And.intro @Lz @L0)) (And.intro (And.intro @argsTm1 @argsTm2) (And.intro @L4 @L5)))) (And.intro (And.intro (And.intro (And.intro @L6 @L7) (And.intro @L8 @Zv)) (And.intro (And.intro @L9 @LA) (And.intro @Zw @LC))) (And.intro (And.intro (And.intro @Zx @LF) (And.intro @LG @LH)) (And.intro (And.intro @LI @LJ) (And.intro @LK @Zy)))))) (And.intro (And.intro (And.intro (And.intro (And.intro @LL (And.intro @LM @Zz)) (And.intro (And.intro @LN @LP) (And.intro @LQ @LS))) (And.intro (And.intro (And.intro @LU @LV) (And.intro @argsTm3 @argsTm4)) (And.intro (And.intro @Bs @Bt) (And.intro @Bu @LW)))) (And.intro (And.intro (And.intro (And.intro @LY @LZ) (And.intro @Ma @Ki)) (And.intro (And.intro @Kj @Kk) (And.intro @Kl @Km))) (And.intro (And.intro (And.intro @Kn @Ko) (And.intro @Kp @Kq)) (And.intro (And.intro @Mb @Mc) (And.intro @Md @KE))))) (And.intro (And.intro (And.intro (And.intro @KH (And.intro @KB @Me)) (And.intro (And.intro @lO @lP) (And.intro @Ks @Kt))) (And.intro (And.intro (And.intro @uR @Ku) (And.intro @Kv @Kw)) (And.intro (And.intro @Ky @Kz) (And.intro @K7 @KA)))) (And.intro (And.intro (And.intro (And.intro @Zq @Z0) (And.intro @Zr @Z1)) (And.intro (And.intro @Z2 @Mf) (And.intro @Mg @Mh))) (And.intro (And.intro (And.intro @Mi @Mj) (And.intro @bG @fm)) (And.intro (And.intro @Mk @Ml) (And.intro @bU @bV)))))))
section
variable {i : Nat} {a : Oper} {l : List Oper} {x : VV} {xs ys : List VV}
theorem Mm : (a :: l)[i + 1]? = l[i]? := rfl
theorem Mn : (a :: l)[0]? = some a := rfl
theorem Mo : (x :: xs)[i + 1]? = xs[i]? := rfl
theorem Mp : (x :: xs)[0]? = some x := rfl
theorem Mq {f : Oper → Option Tmp} : (some a).bind f = f a := rfl
theorem Mr {f : List VV → Option VV} : (some xs).bind f = f xs := rfl
theorem Ms : (a :: l).length = l.length + 1 := rfl
theorem Mt : ([] : List Oper).length = 0 := rfl
theorem Mu : (x :: xs).length = xs.length + 1 := rfl
theorem Mv : ([] : List VV).length = 0 := rfl
theorem Mw {f : Operand → VV} {o : Operand} {os : List Operand} : (o :: os).map f = f o :: os.map f := rfl
theorem Mx {f : Operand → VV} : ([] : List Operand).map f = [] := rfl
theorem My {f : Nat × Operand → Nat × VV} {o : Nat × Operand} {os : List (Nat × Operand)} : (o :: os).map f = f o :: os.map f := rfl
theorem Mz {f : Nat × Operand → Nat × VV} : ([] : List (Nat × Operand)).map f = [] := rfl
theorem M0 {f : VV → VV} : (x :: xs).map f = f x :: xs.map f := rfl
theorem M1 {f : VV → VV} : ([] : List VV).map f = [] := rfl
theorem py : (x :: xs) ++ ys = x :: (xs ++ ys) := rfl
theorem pz : [] ++ ys = ys := rfl
theorem M3 : (x :: xs).drop (i + 1) = xs.drop i := rfl
theorem M4 : xs.drop 0 = xs := by simp
theorem M5 : (x :: xs).take (i + 1) = x :: xs.take i := rfl
theorem M6 : xs.take 0 = [] := by simp
theorem M7 {o : VObj} : (some o).isSome = true := rfl
end
def cr := (And.intro (And.intro (And.intro (And.intro (And.intro @Mm @Mn) (And.intro @Mo @Mp)) (And.intro (And.intro @Mq @Mr) (And.intro @Ms @Mt))) (And.intro (And.intro (And.intro @Mu @Mv) (And.intro @Mw @Mx)) (And.intro (And.intro @My @Mz) (And.intro @M0 @M1)))) (And.intro (And.intro (And.intro (And.intro @py @pz) (And.intro @M3 @M4)) (And.intro (And.intro @M5 @M6) (And.intro @M7 @Nat.zero_add))) (And.intro (And.intro (And.intro @true_and @and_true) (And.intro @Bool.not_true @Bool.not_false)) (And.intro (And.intro @Bool.and_self @decide_true) (And.intro @decide_false (And.intro @Nat.add_assoc @Nat.zero_le))))))
def nrm := (And.intro (And.intro (And.intro (And.intro @Bq @Vx) (And.intro @KP (And.intro @KQ @Vy))) (And.intro (And.intro @Vz @Zs) (And.intro @uN (And.intro @uM @eI_ok.normL)))) (And.intro (And.intro (And.intro @uU.normL @eB_ok.normL) (And.intro @eS_ok.normL (And.intro @KK @KL))) (And.intro (And.intro @KM (And.intro @KN @eI_ok.showL)) (And.intro @uU.showL (And.intro @eB_ok.showL @eS_ok.showL)))))
def tre := (And.intro (And.intro (And.intro @Br @zn) (And.intro @Ls (And.intro @Bs @Bt))) (And.intro (And.intro @Bu (And.intro @eI_ok.treeL @uU.treeL)) (And.intro @eB_ok.treeL (And.intro @eS_ok.treeL @KR))))
end Go.V
end
