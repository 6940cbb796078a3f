/- Part of a proof. -/
import Derived.Test.YtlkognggeadanaaGreatDoorDbc
set_option linter.all false
section
namespace Go.V
open Go
set_option linter.defProp false
section
variable {P : Program} {G : Glob} {n : Nat} {γ : Nat} {tm : Nat → VV} {H : Nat → Option VObj} {nx : Nat} {df : List VDef} {K : St → Prop} {Kd : List Nat → List Nat → St → Prop} {Qp : VV → St → Prop}
 {d : Option Tmp} {ty : TypeId} {pos : String} {af : Array Edge} {g : Option (Nat × Bool)}
section
variable {a b : Prop} {x y : VV} {k : VV → Prop}
theorem Nk : guardK (.lit (.bool true)) true a b = a := by simp [guardK]
theorem Nl : guardK (.lit (.bool true)) false a b = b := by simp [guardK]
theorem Nm : guardK (.lit (.bool false)) true a b = b := by simp [guardK]
theorem Nn : guardK (.lit (.bool false)) false a b = a := by simp [guardK]
theorem No {w : Bool} : guardK (.lit undef) w a b = b := rfl
theorem Np : pickK (.lit (.bool true)) x y k = k x := by simp [pickK]
theorem Nq : pickK (.lit (.bool false)) x y k = k y := by simp [pickK]
theorem Nr : condK (.lit (.bool true)) a b = a := by simp [condK]
theorem Ns : condK (.lit (.bool false)) a b = b := by simp [condK]
end
theorem kV : leafL [] = true := rfl
theorem kW {x : VV} {xs : List VV} : leafL (x :: xs) = (x.leaf && leafL xs) := rfl
theorem yM {k : IntKind} {i : Int} : (VV.lit (.int k i)).leaf = true := rfl
theorem yN {b : Bool} : (VV.lit (.bool b)).leaf = true := rfl
theorem yO {b : ByteArray} : (VV.lit (.string b)).leaf = true := rfl
theorem yP {b : Option Addr} {l c : Nat} : (VV.lit (.slice b l c)).leaf = true := rfl
theorem yQ {cs : List VV} {k : Nat} {f : Bool} : (VV.sl cs k f).leaf = true := rfl
theorem Nt {β o l e c : Nat} : (VV.ref β o l e c).leaf = true := rfl
theorem II {cs : List VV} : aY (.agg cs) = if leafL cs = true then some cs else none := by simp only [aY, Gd]
theorem vcells1 {x : VV} (h : x.leaf = true) : aY x = some [x] := by
 cases x <;> first | rfl | (simp [aY, h]; done) | cases h
theorem Nu {k : IntKind} {i : Int} : aY (.lit (.int k i)) = some [.lit (.int k i)] := rfl
theorem Nv {b : Bool} : aY (.lit (.bool b)) = some [.lit (.bool b)] := rfl
theorem Y6 {b : ByteArray} : aY (.lit (.string b)) = some [.lit (.string b)] := rfl
theorem Nw {b : Option Addr} {l c : Nat} : aY (.lit (.slice b l c)) = some [.lit (.slice b l c)] := rfl
theorem Nx {cs : List VV} {k : Nat} {f : Bool} : aY (.sl cs k f) = some [.sl cs k f] := rfl
theorem Ny {β o l e c : Nat} : aY (.ref β o l e c) = some [.ref β o l e c] := rfl
theorem Y7 {cs xs : List VV} {off : Nat} : overwrite cs off xs = cs.take off ++ (xs ++ cs.drop (off + xs.length)) := by simp [overwrite, List.append_assoc]
def vzl (P : Program) (t : TypeId) : Option (List VV) := (vzero P t).map fun z => z.toList.map ofVal1
theorem Nz {t : TypeId} : aT P G γ ⟨d, .alloc t, ty, pos, af, g⟩ ⟨tm, H, nx, df⟩ K Qp = (match vzl P t with | some cs => fin d γ tm H nx df K (.ptr γ 0) (.new (.cells (some t) cs)) | none => False) := by
 rw [N0]; unfold vzl; cases vzero P t <;> rfl
theorem Y8 {t : TypeId} : aN P G γ ⟨d, .alloc t, ty, pos, af, g⟩ ⟨tm, H, nx, df⟩ Kd = (match vzl P t with | some cs => fin d γ tm H nx df (Kd (rdV ⟨d, .alloc t, ty, pos, af, g⟩ (ev G tm)) [γ]) (.ptr γ 0) (.new (.cells (some t) cs)) | none => False) := by
 rw [Lk]; unfold vzl; cases vzero P t <;> rfl
def vstoreV (P : Program) (H : Nat → Option VObj) (t : TypeId) (a x : VV) : Option (VV × VEff) := match a with
  | .ptr β off => match H β, aY x, szT P t with
   | some (.cells el cs), some xs, some n => if xs.length = n ∧ off + n ≤ cs.length then some (.any, .upd β (.cells el (overwrite cs off xs))) else none
   | _, _, _ => none
  | _ => none
theorem N1 {t : TypeId} {a x : Operand} : aT P G γ ⟨d, .store t a x, ty, pos, af, g⟩ ⟨tm, H, nx, df⟩ K Qp = oeK (vstoreV P H t (ev G tm a) (ev G tm x)) (fun y e => fin d γ tm H nx df K y e) := by
 rw [N2]; rfl
theorem N3 {t : TypeId} {x : VV} {β off : Nat} : vstoreV P H t (.ptr β off) x = (match H β, aY x, szT P t with
   | some (.cells el cs), some xs, some n => if xs.length = n ∧ off + n ≤ cs.length then some (.any, .upd β (.cells el (overwrite cs off xs))) else none
   | _, _, _ => none) := rfl
end
def eI (n : Int) : List VV := [.lit (.int .i64 n)]
def tO (n : Int) : List VV := [.lit (.int .u8 n)]
def eB (b : Bool) : List VV := [.lit (.bool b)]
def eS (s : ByteArray) : List VV := [.lit (.string s)]
def eSl {α : Type} (enc : α → List VV) (xs : List α) : List VV := [.sl (aa enc xs) xs.length false]
theorem eI_eq {n : Int} : eI n = [.lit (.int .i64 n)] := rfl
theorem pS {n : Int} : tO n = [.lit (.int .u8 n)] := rfl
theorem eB_eq {b : Bool} : eB b = [.lit (.bool b)] := rfl
theorem eS_eq {s : ByteArray} : eS s = [.lit (.string s)] := rfl
theorem pT {α : Type} {enc : α → List VV} {xs : List α} : eSl enc xs = [.sl (aa enc xs) xs.length false] := rfl
structure EncOk {α : Type} (enc : α → List VV) : Prop where
 tree : ∀ x, treeL (enc x) = true
 norm : ∀ x, normL (enc x) = enc x
 shown : ∀ x H d, (enc x).map (showV H d) = enc x
theorem eI_ok : EncOk eI := ⟨fun _ => rfl, fun _ => rfl, fun _ _ d => by cases d <;> rfl⟩
theorem ya : EncOk tO := ⟨fun _ => rfl, fun _ => rfl, fun _ _ d => by cases d <;> rfl⟩
theorem eB_ok : EncOk eB := ⟨fun _ => rfl, fun _ => rfl, fun _ _ d => by cases d <;> rfl⟩
theorem eS_ok : EncOk eS := ⟨fun _ => rfl, fun _ => rfl, fun _ _ d => by cases d <;> rfl⟩
section
variable {α : Type} {enc : α → List VV} (h : EncOk enc)
include h
theorem EncOk.treeL (xs : List α) : Go.V.treeL (aa enc xs) = true := Kk h.tree xs
theorem EncOk.normL (xs : List α) : Go.V.normL (aa enc xs) = aa enc xs := Kl h.norm xs
theorem EncOk.showL (xs : List α) (H : Nat → Option VObj) (d : Nat) : (aa enc xs).map (showV H d) = aa enc xs := T1 (fun x => h.shown x H d) xs
theorem EncOk.sl : EncOk (eSl enc) := ⟨fun x => by simp [eSl, Go.V.treeL, VV.tree, h.treeL], fun x => by simp [eSl, Go.V.normL, normV, h.normL], fun x H d => by cases d <;> rfl⟩
end
theorem EncOk.of {α : Type} {enc : α → List VV} (h1 : ∀ x, Go.V.treeL (enc x) = true) (h2 : ∀ x, Go.V.normL (enc x) = enc x) (h3 : ∀ x H d, (enc x).map (showV H d) = enc x) : EncOk enc := ⟨h1, h2, h3⟩
theorem N4 {H : Nat → Option VObj} {d : Nat} {v : Value} : showV H d (.lit v) = .lit v := by cases d <;> rfl
theorem N5 {H : Nat → Option VObj} {d n : Nat} {cs : List VV} {f : Bool} : showV H d (.sl cs n f) = .sl cs n f := by cases d <;> rfl
theorem nF {H : Nat → Option VObj} {d β : Nat} : showV H (d + 1) (.mp β) = (match H β with
   | some (.map es) => .mt (es.map (·.1)) ((es.map (·.2)).map (showV H d))
   | _ => .mp β) := rfl
theorem ep {H : Nat → Option VObj} {d β off len es cp : Nat} : showV H (d + 1) (.ref β off len es cp) = (match H β with
   | some (.cells _ cs) => if off ≤ cs.length then .sl (((cs.drop off).take (len * es)).map (showV H d)) len false else .ref β off len es cp
   | _ => .ref β off len es cp) := rfl
theorem N6 {H : Nat → Option VObj} {d : Nat} {cs : List VV} : showV H (d + 1) (.agg cs) = .agg (cs.map (showV H d)) := rfl
theorem N7 {H : Nat → Option VObj} {d : Nat} {cs : List VV} : showV H (d + 1) (.tup cs) = .tup (cs.map (showV H d)) := rfl
theorem B7 {cs : List VV} {n : Nat} {f : Bool} : normV (.sl cs n f) = .sl (normL cs) n false := by simp [normV]
theorem S5 : normV (.lit (.slice none 0 0)) = .sl [] 0 false := by simp [normV]
theorem S7 {cs : List VV} : normV (.agg cs) = .agg (normL cs) := by simp [normV]
theorem N8 {cs : List VV} : normV (.tup cs) = .tup (normL cs) := by simp [normV]
theorem S4 {k : IntKind} {n : Int} : normV (.lit (.int k n)) = .lit (.int k n) := by simp [normV]
theorem IW {b : Bool} : normV (.lit (.bool b)) = .lit (.bool b) := by simp [normV]
theorem Y9 {b : ByteArray} : normV (.lit (.string b)) = .lit (.string b) := by simp [normV]
theorem wz : normL [] = [] := rfl
theorem wy {x : VV} {xs : List VV} : normL (x :: xs) = normV x :: normL xs := by simp [normL]
theorem N9 : VV.tree .any = true := rfl
def vs := (And.intro (And.intro (And.intro (And.intro (And.intro (And.intro (And.intro @NA @NB) (And.intro @NC @ND)) (And.intro (And.intro @CQ @NF) (And.intro @NG @NH))) (And.intro (And.intro (And.intro @NI @NJ) (And.intro @YA @NK)) (And.intro (And.intro @NL @NM) (And.intro @NN @NO)))) (And.intro (And.intro (And.intro (And.intro @NP @NQ) (And.intro @YB @NR)) (And.intro (And.intro @NS @NT) (And.intro @NU @NV))) (And.intro (And.intro (And.intro @NW @YC) (And.intro @NX @U6)) (And.intro (And.intro @U7 @Eg) (And.intro @NY (And.intro @qd @si)))))) (And.intro (And.intro (And.intro (And.intro (And.intro @NZ @Ca) (And.intro @yX @Oa)) (And.intro (And.intro @Ob @Oc) (And.intro @Od @Oe))) (And.intro (And.intro (And.intro @Of @argsTm1) (And.intro @argsTm2 @Ls)) (And.intro (And.intro @Lp @Lq) (And.intro @Lb (And.intro @Lc @X1))))) (And.intro (And.intro (And.intro (And.intro @Ld @Le) (And.intro @X2 @Lf)) (And.intro (And.intro @X3 @Lg) (And.intro @Lh @Li))) (And.intro (And.intro (And.intro @Lj @Ln) (And.intro @X5 @Lo)) (And.intro (And.intro @YD @Og) (And.intro @U8 (And.intro @Oh @YE))))))) (And.intro (And.intro (And.intro (And.intro (And.intro (And.intro @Oi @Oj) (And.intro @Ok @Ol)) (And.intro (And.intro @Om @On) (And.intro @argsTm3 @argsTm4))) (And.intro (And.intro (And.intro @argsTm5 @Eh) (And.intro @Ei @Ej)) (And.intro (And.intro @Oo @Oq) (And.intro @Ot (And.intro @Ou @Nk))))) (And.intro (And.intro (And.intro (And.intro @Nl @Nm) (And.intro @Nn @No)) (And.intro (And.intro @Np @Nq) (And.intro @Nr @Ns))) (And.intro (And.intro (And.intro @Ov @Ow) (And.intro @Ox @YF)) (And.intro (And.intro @N1 @N3) (And.intro @Nz (And.intro @Oy @kV)))))) (And.intro (And.intro (And.intro (And.intro (And.intro @kW @yM) (And.intro @yN @yO)) (And.intro (And.intro @yP @yQ) (And.intro @Nt @II))) (And.intro (And.intro (And.intro @Nu @Nv) (And.intro @Y6 @Nw)) (And.intro (And.intro @Nx @Ny) (And.intro @Y7 (And.intro @YG @Y8))))) (And.intro (And.intro (And.intro (And.intro @Ll @X4) (And.intro @X7 @Lm)) (And.intro (And.intro @X6 @Oz) (And.intro @O0 @O1))) (And.intro (And.intro (And.intro @O2 @O3) (And.intro @O4 @bw)) (And.intro (And.intro @bx @O5) (And.intro @O6 (And.intro @ej @ei))))))))
section
variable {i : Nat} {a : Oper} {l : List Oper} {x : VV} {xs ys : List VV}
theorem O7 : (a :: l)[i + 1]? = l[i]? := rfl
theorem O8 : (a :: l)[0]? = some a := rfl
theorem O9 : (x :: xs)[i + 1]? = xs[i]? := rfl
theorem OA : (x :: xs)[0]? = some x := rfl
theorem OB {f : Oper → Option Tmp} : (some a).bind f = f a := rfl
theorem OC {f : List VV → Option VV} : (some xs).bind f = f xs := rfl
theorem OD {f : VV → VV} : (some x).map f = some (f x) := rfl
theorem OE : (a :: l).length = l.length + 1 := rfl
theorem OF : ([] : List Oper).length = 0 := rfl
theorem OG : (x :: xs).length = xs.length + 1 := rfl
theorem OH : ([] : List VV).length = 0 := rfl
theorem OI {f : Operand → VV} {o : Operand} {os : List Operand} : (o :: os).map f = f o :: os.map f := rfl
theorem OJ {f : Operand → VV} : ([] : List Operand).map f = [] := rfl
theorem OK {f : Nat × Operand → Nat × VV} {o : Nat × Operand} {os : List (Nat × Operand)} : (o :: os).map f = f o :: os.map f := rfl
theorem OL {f : Nat × Operand → Nat × VV} : ([] : List (Nat × Operand)).map f = [] := rfl
theorem OM {f : VV → VV} : (x :: xs).map f = f x :: xs.map f := rfl
theorem ON {f : VV → VV} : ([] : List VV).map f = [] := rfl
theorem dp : (x :: xs) ++ ys = x :: (xs ++ ys) := rfl
theorem dq : [] ++ ys = ys := rfl
theorem OO : (x :: xs).drop (i + 1) = xs.drop i := rfl
theorem OP : xs.drop 0 = xs := by simp
theorem OQ : (x :: xs).take (i + 1) = x :: xs.take i := rfl
theorem OR : xs.take 0 = [] := by simp
theorem OS {o : VObj} : (some o).isSome = true := rfl
theorem m_nil : (([] : List Nat) = []) = True := by simp
theorem m_ne {a b : Bool} : (a ≠ b) = ¬ (a = b) := rfl
theorem m_neN {a b : Nat} : (a ≠ b) = ¬ (a = b) := rfl
end
def cr := (And.intro (And.intro (And.intro (And.intro (And.intro @O7 (And.intro @O8 @O9)) (And.intro @OA (And.intro @OB @OC))) (And.intro (And.intro @OD (And.intro @OE @OF)) (And.intro (And.intro @OG @OH) (And.intro @OI @OJ)))) (And.intro (And.intro (And.intro @OK (And.intro @OL @OM)) (And.intro @ON (And.intro @dp @dq))) (And.intro (And.intro @OO (And.intro @OP @OQ)) (And.intro (And.intro @OR @OS) (And.intro @m_nil @m_ne))))) (And.intro (And.intro (And.intro (And.intro @m_neN (And.intro @Nat.zero_add @not_true_eq_false)) (And.intro @not_false_eq_true (And.intro @false_implies @true_implies))) (And.intro (And.intro @true_and (And.intro @and_true @false_and)) (And.intro (And.intro @and_false @Bool.false_eq_true) (And.intro @Bool.true_eq_false @Bool.not_true)))) (And.intro (And.intro (And.intro @Bool.not_false (And.intro @Bool.and_self @decide_true)) (And.intro (And.intro @decide_false @Nat.add_assoc) (And.intro @Nat.zero_mul @Nat.one_mul))) (And.intro (And.intro @Nat.zero_le (And.intro @true_or @or_true)) (And.intro (And.intro @false_or @or_false) (And.intro @not_true @not_false_iff))))))
def nrm := (And.intro (And.intro (And.intro (And.intro @B7 @S5) (And.intro @S7 (And.intro @N8 @S4))) (And.intro (And.intro @IW @Y9) (And.intro @wz (And.intro @wy @eI_ok.normL)))) (And.intro (And.intro (And.intro @ya.normL @eB_ok.normL) (And.intro @eS_ok.normL (And.intro @N4 @N5))) (And.intro (And.intro @N6 (And.intro @N7 @eI_ok.showL)) (And.intro @ya.showL (And.intro @eB_ok.showL @eS_ok.showL)))))
def tre := (And.intro (And.intro (And.intro @U7 @U6) (And.intro @Eg (And.intro @Eh @Ei))) (And.intro (And.intro @Ej (And.intro @eI_ok.treeL @ya.treeL)) (And.intro @eB_ok.treeL (And.intro @eS_ok.treeL @N9))))
end Go.V
end
