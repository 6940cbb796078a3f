/- Part of a proof. -/
import Derived.Test.YtmhlghgbfmcdaaaGreatDoorE1bd
set_option linter.all false
section
namespace Go.V
open Go
set_option linter.defProp false
section
variable {P : Program} {G : Glob} {n : Nat} {γ : Nat} {tm : Nat → VV} {H : Nat → Option VObj} {nx : Nat} {df : List VDef} {K : St → Prop} {Kd : List Nat → List Nat → St → Prop} {Qp : VV → St → Prop}
 {d : Option Tmp} {ty : TypeId} {pos : String} {af : Array Edge} {g : Option (Nat × Bool)}
section
variable {a b : Prop} {x y : VV} {k : VV → Prop}
theorem F2 : guardK (.lit (.bool true)) true a b = a := by simp [guardK]
theorem F3 : guardK (.lit (.bool true)) false a b = b := by simp [guardK]
theorem F4 : guardK (.lit (.bool false)) true a b = b := by simp [guardK]
theorem F5 : guardK (.lit (.bool false)) false a b = a := by simp [guardK]
theorem F6 {w : Bool} : guardK (.lit undef) w a b = b := rfl
theorem F7 : pickK (.lit (.bool true)) x y k = k x := by simp [pickK]
theorem F8 : pickK (.lit (.bool false)) x y k = k y := by simp [pickK]
theorem F9 : condK (.lit (.bool true)) a b = a := by simp [condK]
theorem FA : condK (.lit (.bool false)) a b = b := by simp [condK]
end
theorem hJ : leafL [] = true := rfl
theorem hO {x : VV} {xs : List VV} : leafL (x :: xs) = (x.leaf && leafL xs) := rfl
theorem zK {k : IntKind} {i : Int} : (VV.lit (.int k i)).leaf = true := rfl
theorem zL {b : Bool} : (VV.lit (.bool b)).leaf = true := rfl
theorem zM {b : ByteArray} : (VV.lit (.string b)).leaf = true := rfl
theorem zN {b : Option Addr} {l c : Nat} : (VV.lit (.slice b l c)).leaf = true := rfl
theorem zO {cs : List VV} {k : Nat} {f : Bool} : (VV.sl cs k f).leaf = true := rfl
theorem FB {β o l e c : Nat} : (VV.ref β o l e c).leaf = true := rfl
theorem Iv {cs : List VV} : aK (.agg cs) = if leafL cs = true then some cs else none := by simp only [aK, vb]
theorem vcells1 {x : VV} (h : x.leaf = true) : aK x = some [x] := by
 cases x <;> first | rfl | (simp [aK, h]; done) | cases h
theorem P1 {k : IntKind} {i : Int} : aK (.lit (.int k i)) = some [.lit (.int k i)] := rfl
theorem P2 {b : Bool} : aK (.lit (.bool b)) = some [.lit (.bool b)] := rfl
theorem P3 {b : ByteArray} : aK (.lit (.string b)) = some [.lit (.string b)] := rfl
theorem P4 {b : Option Addr} {l c : Nat} : aK (.lit (.slice b l c)) = some [.lit (.slice b l c)] := rfl
theorem FC {cs : List VV} {k : Nat} {f : Bool} : aK (.sl cs k f) = some [.sl cs k f] := rfl
theorem FD {β o l e c : Nat} : aK (.ref β o l e c) = some [.ref β o l e c] := rfl
theorem P5 {cs xs : List VV} {off : Nat} : overwrite cs off xs = cs.take off ++ (xs ++ cs.drop (off + xs.length)) := by simp [overwrite, List.append_assoc]
def vzl (P : Program) (t : TypeId) : Option (List VV) := (vzero P t).map fun z => z.toList.map ofVal1
theorem P6 {t : TypeId} : aJ P G γ ⟨d, .alloc t, ty, pos, af, g⟩ ⟨tm, H, nx, df⟩ K Qp = (match vzl P t with | some cs => fin d γ tm H nx df K (.ptr γ 0) (.new (.cells (some t) cs)) | none => False) := by
 rw [N5]; unfold vzl; cases vzero P t <;> rfl
theorem P7 {t : TypeId} : aD P G γ ⟨d, .alloc t, ty, pos, af, g⟩ ⟨tm, H, nx, df⟩ Kd = (match vzl P t with | some cs => fin d γ tm H nx df (Kd (rdV ⟨d, .alloc t, ty, pos, af, g⟩ (ev G tm)) [γ]) (.ptr γ 0) (.new (.cells (some t) cs)) | none => False) := by
 rw [P8]; unfold vzl; cases vzero P t <;> rfl
def vstoreV (P : Program) (H : Nat → Option VObj) (t : TypeId) (a x : VV) : Option (VV × VEff) := match a with
  | .ptr β off => match H β, aK x, szT P t with
   | some (.cells el cs), some xs, some n => if xs.length = n ∧ off + n ≤ cs.length then some (.any, .upd β (.cells el (overwrite cs off xs))) else none
   | _, _, _ => none
  | _ => none
theorem P9 {t : TypeId} {a x : Operand} : aJ P G γ ⟨d, .store t a x, ty, pos, af, g⟩ ⟨tm, H, nx, df⟩ K Qp = oeK (vstoreV P H t (ev G tm a) (ev G tm x)) (fun y e => fin d γ tm H nx df K y e) := by
 rw [N7]; rfl
theorem PA {t : TypeId} {x : VV} {β off : Nat} : vstoreV P H t (.ptr β off) x = (match H β, aK x, szT P t with
   | some (.cells el cs), some xs, some n => if xs.length = n ∧ off + n ≤ cs.length then some (.any, .upd β (.cells el (overwrite cs off xs))) else none
   | _, _, _ => none) := rfl
end
def eI (n : Int) : List VV := [.lit (.int .i64 n)]
def n0 (n : Int) : List VV := [.lit (.int .u8 n)]
def eB (b : Bool) : List VV := [.lit (.bool b)]
def eS (s : ByteArray) : List VV := [.lit (.string s)]
def eSl {α : Type} (enc : α → List VV) (xs : List α) : List VV := [.sl (aa enc xs) xs.length false]
theorem eI_eq {n : Int} : eI n = [.lit (.int .i64 n)] := rfl
theorem nR {n : Int} : n0 n = [.lit (.int .u8 n)] := rfl
theorem eB_eq {b : Bool} : eB b = [.lit (.bool b)] := rfl
theorem eS_eq {s : ByteArray} : eS s = [.lit (.string s)] := rfl
theorem nS {α : Type} {enc : α → List VV} {xs : List α} : eSl enc xs = [.sl (aa enc xs) xs.length false] := rfl
structure EncOk {α : Type} (enc : α → List VV) : Prop where
 tree : ∀ x, treeL (enc x) = true
 norm : ∀ x, normL (enc x) = enc x
 shown : ∀ x H d, (enc x).map (showV H d) = enc x
theorem eI_ok : EncOk eI := ⟨fun _ => rfl, fun _ => rfl, fun _ _ d => by cases d <;> rfl⟩
theorem pH : EncOk n0 := ⟨fun _ => rfl, fun _ => rfl, fun _ _ d => by cases d <;> rfl⟩
theorem eB_ok : EncOk eB := ⟨fun _ => rfl, fun _ => rfl, fun _ _ d => by cases d <;> rfl⟩
theorem eS_ok : EncOk eS := ⟨fun _ => rfl, fun _ => rfl, fun _ _ d => by cases d <;> rfl⟩
section
variable {α : Type} {enc : α → List VV} (h : EncOk enc)
include h
theorem EncOk.treeL (xs : List α) : Go.V.treeL (aa enc xs) = true := yT h.tree xs
theorem EncOk.normL (xs : List α) : Go.V.normL (aa enc xs) = aa enc xs := yS h.norm xs
theorem EncOk.showL (xs : List α) (H : Nat → Option VObj) (d : Nat) : (aa enc xs).map (showV H d) = aa enc xs := JH (fun x => h.shown x H d) xs
theorem EncOk.sl : EncOk (eSl enc) := ⟨fun x => by simp [eSl, Go.V.treeL, VV.tree, h.treeL], fun x => by simp [eSl, Go.V.normL, normV, h.normL], fun x H d => by cases d <;> rfl⟩
end
theorem EncOk.of {α : Type} {enc : α → List VV} (h1 : ∀ x, Go.V.treeL (enc x) = true) (h2 : ∀ x, Go.V.normL (enc x) = enc x) (h3 : ∀ x H d, (enc x).map (showV H d) = enc x) : EncOk enc := ⟨h1, h2, h3⟩
theorem FE {H : Nat → Option VObj} {d : Nat} {v : Value} : showV H d (.lit v) = .lit v := by cases d <;> rfl
theorem FG {H : Nat → Option VObj} {d n : Nat} {cs : List VV} {f : Bool} : showV H d (.sl cs n f) = .sl cs n f := by cases d <;> rfl
theorem fY {H : Nat → Option VObj} {d β off len es cp : Nat} : showV H (d + 1) (.ref β off len es cp) = (match H β with
   | some (.cells _ cs) => if off ≤ cs.length then .sl (((cs.drop off).take (len * es)).map (showV H d)) len false else .ref β off len es cp
   | _ => .ref β off len es cp) := rfl
theorem FH {H : Nat → Option VObj} {d : Nat} {cs : List VV} : showV H (d + 1) (.agg cs) = .agg (cs.map (showV H d)) := rfl
theorem FI {H : Nat → Option VObj} {d : Nat} {cs : List VV} : showV H (d + 1) (.tup cs) = .tup (cs.map (showV H d)) := rfl
theorem Iz {cs : List VV} {n : Nat} {f : Bool} : normV (.sl cs n f) = .sl (normL cs) n false := by simp [normV]
theorem Iy : normV (.lit (.slice none 0 0)) = .sl [] 0 false := by simp [normV]
theorem I0 {cs : List VV} : normV (.agg cs) = .agg (normL cs) := by simp [normV]
theorem FJ {cs : List VV} : normV (.tup cs) = .tup (normL cs) := by simp [normV]
theorem Iw {k : IntKind} {n : Int} : normV (.lit (.int k n)) = .lit (.int k n) := by simp [normV]
theorem B4 {b : Bool} : normV (.lit (.bool b)) = .lit (.bool b) := by simp [normV]
theorem PB {b : ByteArray} : normV (.lit (.string b)) = .lit (.string b) := by simp [normV]
theorem n3 : normL [] = [] := rfl
theorem n2 {x : VV} {xs : List VV} : normL (x :: xs) = normV x :: normL xs := by simp [normL]
theorem FK : VV.tree .any = true := rfl
def vs := (And.intro (And.intro (And.intro (And.intro (And.intro (And.intro (And.intro @D5 @NC) (And.intro @D8 @D6)) (And.intro (And.intro @DA @D9) (And.intro @D7 @ND))) (And.intro (And.intro (And.intro @DC @DB) (And.intro @NF @NG)) (And.intro (And.intro @DE @D3) (And.intro @D4 @Dj)))) (And.intro (And.intro (And.intro (And.intro @Dp @Dn) (And.intro @NI @Dq)) (And.intro (And.intro @N1 @Dt) (And.intro @Du @Dr))) (And.intro (And.intro (And.intro @Ds @N4) (And.intro @Dx @Jv)) (And.intro (And.intro @Ju @Jw) (And.intro @Dz (And.intro @np @nq)))))) (And.intro (And.intro (And.intro (And.intro (And.intro @DF @nr) (And.intro @md @DI)) (And.intro (And.intro @DH @DO) (And.intro @DS @Dk))) (And.intro (And.intro (And.intro @Dm @argsTm1) (And.intro @argsTm2 @PC)) (And.intro (And.intro @PD @PE) (And.intro @FL (And.intro @PF @PG))))) (And.intro (And.intro (And.intro (And.intro @PH @FM) (And.intro @PI @PJ)) (And.intro (And.intro @PK @PL) (And.intro @FN @FO))) (And.intro (And.intro (And.intro @PM @FP) (And.intro @PN @PO)) (And.intro (And.intro @N2 @N3) (And.intro @Jt (And.intro @Dw @N8))))))) (And.intro (And.intro (And.intro (And.intro (And.intro (And.intro @DL @DM) (And.intro @DJ @DK)) (And.intro (And.intro @DP @DQ) (And.intro @argsTm3 @argsTm4))) (And.intro (And.intro (And.intro @argsTm5 @t9) (And.intro @t7 @t8)) (And.intro (And.intro @yN @L2) (And.intro @yL (And.intro @yM @F2))))) (And.intro (And.intro (And.intro (And.intro @F3 @F4) (And.intro @F5 @F6)) (And.intro (And.intro @F7 @F8) (And.intro @F9 @FA))) (And.intro (And.intro (And.intro @Dy @NB) (And.intro @N9 @NA)) (And.intro (And.intro @P9 @PA) (And.intro @P6 (And.intro @Dv @hJ)))))) (And.intro (And.intro (And.intro (And.intro (And.intro @hO @zK) (And.intro @zL @zM)) (And.intro (And.intro @zN @zO) (And.intro @FB @Iv))) (And.intro (And.intro (And.intro @P1 @P2) (And.intro @P3 @P4)) (And.intro (And.intro @FC @FD) (And.intro @P5 (And.intro @N6 @P7))))) (And.intro (And.intro (And.intro (And.intro @FQ @PQ) (And.intro @PR @PS)) (And.intro (And.intro @PT @D0) (And.intro @D1 @D2))) (And.intro (And.intro (And.intro @DG @NJ) (And.intro @Dl @aV)) (And.intro (And.intro @aX @DD) (And.intro @NH (And.intro @cE @cD))))))))
section
variable {i : Nat} {a : Oper} {l : List Oper} {x : VV} {xs ys : List VV}
theorem FR : (a :: l)[i + 1]? = l[i]? := rfl
theorem FT : (a :: l)[0]? = some a := rfl
theorem FU : (x :: xs)[i + 1]? = xs[i]? := rfl
theorem FV : (x :: xs)[0]? = some x := rfl
theorem FW {f : Oper → Option Tmp} : (some a).bind f = f a := rfl
theorem FX {f : List VV → Option VV} : (some xs).bind f = f xs := rfl
theorem FY {f : VV → VV} : (some x).map f = some (f x) := rfl
theorem FZ : (a :: l).length = l.length + 1 := rfl
theorem Ga : ([] : List Oper).length = 0 := rfl
theorem Gb : (x :: xs).length = xs.length + 1 := rfl
theorem Gc : ([] : List VV).length = 0 := rfl
theorem Gd {f : Operand → VV} {o : Operand} {os : List Operand} : (o :: os).map f = f o :: os.map f := rfl
theorem Ge {f : Operand → VV} : ([] : List Operand).map f = [] := rfl
theorem Gf {f : Nat × Operand → Nat × VV} {o : Nat × Operand} {os : List (Nat × Operand)} : (o :: os).map f = f o :: os.map f := rfl
theorem Gg {f : Nat × Operand → Nat × VV} : ([] : List (Nat × Operand)).map f = [] := rfl
theorem Gh {f : VV → VV} : (x :: xs).map f = f x :: xs.map f := rfl
theorem Gi {f : VV → VV} : ([] : List VV).map f = [] := rfl
theorem dv : (x :: xs) ++ ys = x :: (xs ++ ys) := rfl
theorem dw : [] ++ ys = ys := rfl
theorem Gj : (x :: xs).drop (i + 1) = xs.drop i := rfl
theorem Gk : xs.drop 0 = xs := by simp
theorem Gl : (x :: xs).take (i + 1) = x :: xs.take i := rfl
theorem Gm : xs.take 0 = [] := by simp
theorem Gn {o : VObj} : (some o).isSome = true := rfl
theorem m_nil : (([] : List Nat) = []) = True := by simp
theorem m_ne {a b : Bool} : (a ≠ b) = ¬ (a = b) := rfl
theorem m_neN {a b : Nat} : (a ≠ b) = ¬ (a = b) := rfl
end
def cr := (And.intro (And.intro (And.intro (And.intro (And.intro @FR (And.intro @FT @FU)) (And.intro @FV (And.intro @FW @FX))) (And.intro (And.intro @FY (And.intro @FZ @Ga)) (And.intro (And.intro @Gb @Gc) (And.intro @Gd @Ge)))) (And.intro (And.intro (And.intro @Gf (And.intro @Gg @Gh)) (And.intro @Gi (And.intro @dv @dw))) (And.intro (And.intro @Gj (And.intro @Gk @Gl)) (And.intro (And.intro @Gm @Gn) (And.intro @m_nil @m_ne))))) (And.intro (And.intro (And.intro (And.intro @m_neN (And.intro @Nat.zero_add @not_true_eq_false)) (And.intro @not_false_eq_true (And.intro @false_implies @true_implies))) (And.intro (And.intro @true_and (And.intro @and_true @false_and)) (And.intro (And.intro @and_false @Bool.false_eq_true) (And.intro @Bool.true_eq_false @Bool.not_true)))) (And.intro (And.intro (And.intro @Bool.not_false (And.intro @Bool.and_self @decide_true)) (And.intro (And.intro @decide_false @Nat.add_assoc) (And.intro @Nat.zero_mul @Nat.one_mul))) (And.intro (And.intro @Nat.zero_le (And.intro @true_or @or_true)) (And.intro (And.intro @false_or @or_false) (And.intro @not_true @not_false_iff))))))
def nrm := (And.intro (And.intro (And.intro (And.intro @Iz @Iy) (And.intro @I0 (And.intro @FJ @Iw))) (And.intro (And.intro @B4 @PB) (And.intro @n3 (And.intro @n2 @eI_ok.normL)))) (And.intro (And.intro (And.intro @pH.normL @eB_ok.normL) (And.intro @eS_ok.normL (And.intro @FE @FG))) (And.intro (And.intro @FH (And.intro @FI @eI_ok.showL)) (And.intro @pH.showL (And.intro @eB_ok.showL @eS_ok.showL)))))
def tre := (And.intro (And.intro (And.intro @Ju @Jv) (And.intro @Jw (And.intro @t9 @t7))) (And.intro (And.intro @t8 (And.intro @eI_ok.treeL @pH.treeL)) (And.intro @eB_ok.treeL (And.intro @eS_ok.treeL @FK))))
end Go.V
end
