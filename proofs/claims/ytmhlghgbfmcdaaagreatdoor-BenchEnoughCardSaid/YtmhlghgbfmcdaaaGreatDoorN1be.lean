/- Part of a proof. -/
import Derived.Test.YtmhlghgbfmcdaaaGreatDoorN1bd
set_option linter.all false
section
namespace Go.V
open Go
set_option linter.defProp false
section
variable {P : Program} {G : Glob} {n : Nat} {γ : Nat} {tm : Nat → VV} {H : Nat → Option VObj} {nx : Nat} {df : List VDef} {K : St → Prop} {Kd : List Nat → List Nat → St → Prop} {Qp : VV → St → Prop}
 {d : Option Tmp} {ty : TypeId} {pos : String} {af : Array Edge} {g : Option (Nat × Bool)}
section
variable {a b : Prop} {x y : VV} {k : VV → Prop}
theorem zx : guardK (.lit (.bool true)) true a b = a := by simp [guardK]
theorem zy : guardK (.lit (.bool true)) false a b = b := by simp [guardK]
theorem zz : guardK (.lit (.bool false)) true a b = b := by simp [guardK]
theorem z1 : guardK (.lit (.bool false)) false a b = a := by simp [guardK]
theorem z2 {w : Bool} : guardK (.lit undef) w a b = b := rfl
theorem z3 : pickK (.lit (.bool true)) x y k = k x := by simp [pickK]
theorem z4 : pickK (.lit (.bool false)) x y k = k y := by simp [pickK]
theorem z6 : condK (.lit (.bool true)) a b = a := by simp [condK]
theorem z7 : condK (.lit (.bool false)) a b = b := by simp [condK]
end
theorem eN : leafL [] = true := rfl
theorem eO {x : VV} {xs : List VV} : leafL (x :: xs) = (x.leaf && leafL xs) := rfl
theorem EN {k : IntKind} {i : Int} : (VV.lit (.int k i)).leaf = true := rfl
theorem EO {b : Bool} : (VV.lit (.bool b)).leaf = true := rfl
theorem EP {b : ByteArray} : (VV.lit (.string b)).leaf = true := rfl
theorem ES {b : Option Addr} {l c : Nat} : (VV.lit (.slice b l c)).leaf = true := rfl
theorem oG {cs : List VV} {k : Nat} {f : Bool} : (VV.sl cs k f).leaf = true := rfl
theorem z8 {β o l e c : Nat} : (VV.ref β o l e c).leaf = true := rfl
theorem ET {cs : List VV} : aJ (.agg cs) = if leafL cs = true then some cs else none := by simp only [aJ, nk]
theorem vcells1 {x : VV} (h : x.leaf = true) : aJ x = some [x] := by
 cases x <;> first | rfl | (simp [aJ, h]; done) | cases h
theorem z9 {k : IntKind} {i : Int} : aJ (.lit (.int k i)) = some [.lit (.int k i)] := rfl
theorem Ky {b : Bool} : aJ (.lit (.bool b)) = some [.lit (.bool b)] := rfl
theorem Kz {b : ByteArray} : aJ (.lit (.string b)) = some [.lit (.string b)] := rfl
theorem zA {b : Option Addr} {l c : Nat} : aJ (.lit (.slice b l c)) = some [.lit (.slice b l c)] := rfl
theorem zB {cs : List VV} {k : Nat} {f : Bool} : aJ (.sl cs k f) = some [.sl cs k f] := rfl
theorem K2 {β o l e c : Nat} : aJ (.ref β o l e c) = some [.ref β o l e c] := rfl
theorem K9 {cs xs : List VV} {off : Nat} : overwrite cs off xs = cs.take off ++ (xs ++ cs.drop (off + xs.length)) := by simp [overwrite, List.append_assoc]
def vzl (P : Program) (t : TypeId) : Option (List VV) := (vzero P t).map fun z => z.toList.map ofVal1
theorem KA {t : TypeId} : aF P G γ ⟨d, .alloc t, ty, pos, af, g⟩ ⟨tm, H, nx, df⟩ K Qp = (match vzl P t with | some cs => fin d γ tm H nx df K (.ptr γ 0) (.new (.cells (some t) cs)) | none => False) := by
 rw [uo]; unfold vzl; cases vzero P t <;> rfl
theorem KB {t : TypeId} : aw P G γ ⟨d, .alloc t, ty, pos, af, g⟩ ⟨tm, H, nx, df⟩ Kd = (match vzl P t with | some cs => fin d γ tm H nx df (Kd (rdV ⟨d, .alloc t, ty, pos, af, g⟩ (ev G tm)) [γ]) (.ptr γ 0) (.new (.cells (some t) cs)) | none => False) := by
 rw [KC]; unfold vzl; cases vzero P t <;> rfl
def vstoreV (P : Program) (H : Nat → Option VObj) (t : TypeId) (a x : VV) : Option (VV × VEff) := match a with
  | .ptr β off => match H β, aJ x, szT P t with
   | some (.cells el cs), some xs, some n => if xs.length = n ∧ off + n ≤ cs.length then some (.any, .upd β (.cells el (overwrite cs off xs))) else none
   | _, _, _ => none
  | _ => none
theorem KD {t : TypeId} {a x : Operand} : aF P G γ ⟨d, .store t a x, ty, pos, af, g⟩ ⟨tm, H, nx, df⟩ K Qp = oeK (vstoreV P H t (ev G tm a) (ev G tm x)) (fun y e => fin d γ tm H nx df K y e) := by
 rw [Iw]; rfl
theorem KE {t : TypeId} {x : VV} {β off : Nat} : vstoreV P H t (.ptr β off) x = (match H β, aJ x, szT P t with
   | some (.cells el cs), some xs, some n => if xs.length = n ∧ off + n ≤ cs.length then some (.any, .upd β (.cells el (overwrite cs off xs))) else none
   | _, _, _ => none) := rfl
end
def eI (n : Int) : List VV := [.lit (.int .i64 n)]
def jP (n : Int) : List VV := [.lit (.int .u8 n)]
def eB (b : Bool) : List VV := [.lit (.bool b)]
def eS (s : ByteArray) : List VV := [.lit (.string s)]
def eSl {α : Type} (enc : α → List VV) (xs : List α) : List VV := [.sl (aa enc xs) xs.length false]
theorem eI_eq {n : Int} : eI n = [.lit (.int .i64 n)] := rfl
theorem oE {n : Int} : jP n = [.lit (.int .u8 n)] := rfl
theorem eB_eq {b : Bool} : eB b = [.lit (.bool b)] := rfl
theorem eS_eq {s : ByteArray} : eS s = [.lit (.string s)] := rfl
theorem oF {α : Type} {enc : α → List VV} {xs : List α} : eSl enc xs = [.sl (aa enc xs) xs.length false] := rfl
structure EncOk {α : Type} (enc : α → List VV) : Prop where
 tree : ∀ x, treeL (enc x) = true
 norm : ∀ x, normL (enc x) = enc x
 shown : ∀ x H d, (enc x).map (showV H d) = enc x
theorem eI_ok : EncOk eI := ⟨fun _ => rfl, fun _ => rfl, fun _ _ d => by cases d <;> rfl⟩
theorem kZ : EncOk jP := ⟨fun _ => rfl, fun _ => rfl, fun _ _ d => by cases d <;> rfl⟩
theorem eB_ok : EncOk eB := ⟨fun _ => rfl, fun _ => rfl, fun _ _ d => by cases d <;> rfl⟩
theorem eS_ok : EncOk eS := ⟨fun _ => rfl, fun _ => rfl, fun _ _ d => by cases d <;> rfl⟩
section
variable {α : Type} {enc : α → List VV} (h : EncOk enc)
include h
theorem EncOk.treeL (xs : List α) : Go.V.treeL (aa enc xs) = true := wx h.tree xs
theorem EncOk.normL (xs : List α) : Go.V.normL (aa enc xs) = aa enc xs := wv h.norm xs
theorem EncOk.showL (xs : List α) (H : Nat → Option VObj) (d : Nat) : (aa enc xs).map (showV H d) = aa enc xs := F4 (fun x => h.shown x H d) xs
theorem EncOk.sl : EncOk (eSl enc) := ⟨fun x => by simp [eSl, Go.V.treeL, VV.tree, h.treeL], fun x => by simp [eSl, Go.V.normL, normV, h.normL], fun x H d => by cases d <;> rfl⟩
end
theorem EncOk.of {α : Type} {enc : α → List VV} (h1 : ∀ x, Go.V.treeL (enc x) = true) (h2 : ∀ x, Go.V.normL (enc x) = enc x) (h3 : ∀ x H d, (enc x).map (showV H d) = enc x) : EncOk enc := ⟨h1, h2, h3⟩
theorem zC {H : Nat → Option VObj} {d : Nat} {v : Value} : showV H d (.lit v) = .lit v := by cases d <;> rfl
theorem zD {H : Nat → Option VObj} {d n : Nat} {cs : List VV} {f : Bool} : showV H d (.sl cs n f) = .sl cs n f := by cases d <;> rfl
theorem dE {H : Nat → Option VObj} {d β off len es cp : Nat} : showV H (d + 1) (.ref β off len es cp) = (match H β with
   | some (.cells _ cs) => if off ≤ cs.length then .sl (((cs.drop off).take (len * es)).map (showV H d)) len false else .ref β off len es cp
   | _ => .ref β off len es cp) := rfl
theorem zE {H : Nat → Option VObj} {d : Nat} {cs : List VV} : showV H (d + 1) (.agg cs) = .agg (cs.map (showV H d)) := rfl
theorem zF {H : Nat → Option VObj} {d : Nat} {cs : List VV} : showV H (d + 1) (.tup cs) = .tup (cs.map (showV H d)) := rfl
theorem EZ {cs : List VV} {n : Nat} {f : Bool} : normV (.sl cs n f) = .sl (normL cs) n false := by simp [normV]
theorem EY : normV (.lit (.slice none 0 0)) = .sl [] 0 false := by simp [normV]
theorem Fa {cs : List VV} : normV (.agg cs) = .agg (normL cs) := by simp [normV]
theorem zG {cs : List VV} : normV (.tup cs) = .tup (normL cs) := by simp [normV]
theorem EV {k : IntKind} {n : Int} : normV (.lit (.int k n)) = .lit (.int k n) := by simp [normV]
theorem yq {b : Bool} : normV (.lit (.bool b)) = .lit (.bool b) := by simp [normV]
theorem KG {b : ByteArray} : normV (.lit (.string b)) = .lit (.string b) := by simp [normV]
theorem jR : normL [] = [] := rfl
theorem jQ {x : VV} {xs : List VV} : normL (x :: xs) = normV x :: normL xs := by simp [normL]
theorem zH : VV.tree .any = true := rfl
def vs := (And.intro (And.intro (And.intro (And.intro (And.intro (And.intro (And.intro @u7 @I0) (And.intro @uB @u9)) (And.intro (And.intro @uD @uC) (And.intro @uA @I1))) (And.intro (And.intro (And.intro @uF @uE) (And.intro @I8 @uH)) (And.intro (And.intro @uG @u5) (And.intro @u6 @ub)))) (And.intro (And.intro (And.intro (And.intro @ug @uf) (And.intro @IB @uh)) (And.intro (And.intro @Iq @uk) (And.intro @um @ui))) (And.intro (And.intro (And.intro @uj @It) (And.intro @uu @ux)) (And.intro (And.intro @Ef @uy) (And.intro @uz (And.intro @lS @jK)))))) (And.intro (And.intro (And.intro (And.intro (And.intro @uI @lT) (And.intro @jI @uL)) (And.intro (And.intro @uK @uQ) (And.intro @uT @uc))) (And.intro (And.intro (And.intro @ue @argsTm1) (And.intro @argsTm2 @KH)) (And.intro (And.intro @KI @KJ) (And.intro @zI (And.intro @KK @KL))))) (And.intro (And.intro (And.intro (And.intro @KM @KN) (And.intro @KO @KP)) (And.intro (And.intro @KQ @KR) (And.intro @zJ @zK))) (And.intro (And.intro (And.intro @KS @zL) (And.intro @KT @KU)) (And.intro (And.intro @Ir @Is) (And.intro @Ee (And.intro @Iu @Ix))))))) (And.intro (And.intro (And.intro (And.intro (And.intro (And.intro @uO @uP) (And.intro @uM @uN)) (And.intro (And.intro @uR @uS) (And.intro @argsTm3 @argsTm4))) (And.intro (And.intro (And.intro @argsTm5 @nw) (And.intro @Eg @Eh)) (And.intro (And.intro @JG @JH) (And.intro @wm (And.intro @wo @zx))))) (And.intro (And.intro (And.intro (And.intro @zy @zz) (And.intro @z1 @z2)) (And.intro (And.intro @z3 @z4) (And.intro @z6 @z7))) (And.intro (And.intro (And.intro @uv @Iz) (And.intro @ur @Iy)) (And.intro (And.intro @KD @KE) (And.intro @KA (And.intro @uq @eN)))))) (And.intro (And.intro (And.intro (And.intro (And.intro @eO @EN) (And.intro @EO @EP)) (And.intro (And.intro @ES @oG) (And.intro @z8 @ET))) (And.intro (And.intro (And.intro @z9 @Ky) (And.intro @Kz @zA)) (And.intro (And.intro @zB @K2) (And.intro @K9 (And.intro @Iv @KB))))) (And.intro (And.intro (And.intro (And.intro @zM @KV) (And.intro @KW @KX)) (And.intro (And.intro @KY @u2) (And.intro @u3 @u4))) (And.intro (And.intro (And.intro @uJ @IC) (And.intro @ud @aP)) (And.intro (And.intro @b9 @I2) (And.intro @I9 (And.intro @bO @bN))))))))
section
variable {i : Nat} {a : Oper} {l : List Oper} {x : VV} {xs ys : List VV}
theorem zN : (a :: l)[i + 1]? = l[i]? := rfl
theorem zO : (a :: l)[0]? = some a := rfl
theorem zP : (x :: xs)[i + 1]? = xs[i]? := rfl
theorem zQ : (x :: xs)[0]? = some x := rfl
theorem zR {f : Oper → Option Tmp} : (some a).bind f = f a := rfl
theorem zS {f : List VV → Option VV} : (some xs).bind f = f xs := rfl
theorem zT {f : VV → VV} : (some x).map f = some (f x) := rfl
theorem zU : (a :: l).length = l.length + 1 := rfl
theorem zV : ([] : List Oper).length = 0 := rfl
theorem zW : (x :: xs).length = xs.length + 1 := rfl
theorem zX : ([] : List VV).length = 0 := rfl
theorem zY {f : Operand → VV} {o : Operand} {os : List Operand} : (o :: os).map f = f o :: os.map f := rfl
theorem zZ {f : Operand → VV} : ([] : List Operand).map f = [] := rfl
theorem Aa {f : Nat × Operand → Nat × VV} {o : Nat × Operand} {os : List (Nat × Operand)} : (o :: os).map f = f o :: os.map f := rfl
theorem Ab {f : Nat × Operand → Nat × VV} : ([] : List (Nat × Operand)).map f = [] := rfl
theorem Ac {f : VV → VV} : (x :: xs).map f = f x :: xs.map f := rfl
theorem Ad {f : VV → VV} : ([] : List VV).map f = [] := rfl
theorem p9 : (x :: xs) ++ ys = x :: (xs ++ ys) := rfl
theorem pA : [] ++ ys = ys := rfl
theorem Ae : (x :: xs).drop (i + 1) = xs.drop i := rfl
theorem Af : xs.drop 0 = xs := by simp
theorem Ag : (x :: xs).take (i + 1) = x :: xs.take i := rfl
theorem Ah : xs.take 0 = [] := by simp
theorem Ai {o : VObj} : (some o).isSome = true := rfl
theorem m_nil : (([] : List Nat) = []) = True := by simp
theorem m_ne {a b : Bool} : (a ≠ b) = ¬ (a = b) := rfl
theorem m_neN {a b : Nat} : (a ≠ b) = ¬ (a = b) := rfl
end
def cr := (And.intro (And.intro (And.intro (And.intro (And.intro @zN (And.intro @zO @zP)) (And.intro @zQ (And.intro @zR @zS))) (And.intro (And.intro @zT (And.intro @zU @zV)) (And.intro (And.intro @zW @zX) (And.intro @zY @zZ)))) (And.intro (And.intro (And.intro @Aa (And.intro @Ab @Ac)) (And.intro @Ad (And.intro @p9 @pA))) (And.intro (And.intro @Ae (And.intro @Af @Ag)) (And.intro (And.intro @Ah @Ai) (And.intro @m_nil @m_ne))))) (And.intro (And.intro (And.intro (And.intro @m_neN (And.intro @Nat.zero_add @not_true_eq_false)) (And.intro @not_false_eq_true (And.intro @false_implies @true_implies))) (And.intro (And.intro @true_and (And.intro @and_true @false_and)) (And.intro (And.intro @and_false @Bool.false_eq_true) (And.intro @Bool.true_eq_false @Bool.not_true)))) (And.intro (And.intro (And.intro @Bool.not_false (And.intro @Bool.and_self @decide_true)) (And.intro (And.intro @decide_false @Nat.add_assoc) (And.intro @Nat.zero_mul @Nat.one_mul))) (And.intro (And.intro @Nat.zero_le (And.intro @true_or @or_true)) (And.intro (And.intro @false_or @or_false) (And.intro @not_true @not_false_iff))))))
def nrm := (And.intro (And.intro (And.intro (And.intro @EZ @EY) (And.intro @Fa (And.intro @zG @EV))) (And.intro (And.intro @yq @KG) (And.intro @jR (And.intro @jQ @eI_ok.normL)))) (And.intro (And.intro (And.intro @kZ.normL @eB_ok.normL) (And.intro @eS_ok.normL (And.intro @zC @zD))) (And.intro (And.intro @zE (And.intro @zF @eI_ok.showL)) (And.intro @kZ.showL (And.intro @eB_ok.showL @eS_ok.showL)))))
def tre := (And.intro (And.intro (And.intro @Ef @ux) (And.intro @uy (And.intro @nw @Eg))) (And.intro (And.intro @Eh (And.intro @eI_ok.treeL @kZ.treeL)) (And.intro @eB_ok.treeL (And.intro @eS_ok.treeL @zH))))
end Go.V
end
