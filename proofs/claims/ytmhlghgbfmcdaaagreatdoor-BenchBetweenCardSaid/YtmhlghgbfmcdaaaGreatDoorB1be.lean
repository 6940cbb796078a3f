/- Part of a proof. -/
import Derived.Test.YtmhlghgbfmcdaaaGreatDoorB1bd
set_option linter.all false
section
namespace Go.V
open Go
set_option linter.defProp false
section
variable {P : Program} {G : Glob} {n : Nat} {γ : Nat} {tm : Nat → VV} {H : Nat → Option VObj} {nx : Nat} {df : List VDef} {K : St → Prop} {Kd : List Nat → List Nat → St → Prop} {Qp : VV → St → Prop}
 {d : Option Tmp} {ty : TypeId} {pos : String} {af : Array Edge} {g : Option (Nat × Bool)}
section
variable {a b : Prop} {x y : VV} {k : VV → Prop}
theorem G1 : guardK (.lit (.bool true)) true a b = a := by simp [guardK]
theorem G2 : guardK (.lit (.bool true)) false a b = b := by simp [guardK]
theorem G3 : guardK (.lit (.bool false)) true a b = b := by simp [guardK]
theorem G4 : guardK (.lit (.bool false)) false a b = a := by simp [guardK]
theorem G5 {w : Bool} : guardK (.lit undef) w a b = b := rfl
theorem G6 : pickK (.lit (.bool true)) x y k = k x := by simp [pickK]
theorem G7 : pickK (.lit (.bool false)) x y k = k y := by simp [pickK]
theorem G8 : condK (.lit (.bool true)) a b = a := by simp [condK]
theorem G9 : condK (.lit (.bool false)) a b = b := by simp [condK]
end
theorem fw : leafL [] = true := rfl
theorem fx {x : VV} {xs : List VV} : leafL (x :: xs) = (x.leaf && leafL xs) := rfl
theorem vm {k : IntKind} {i : Int} : (VV.lit (.int k i)).leaf = true := rfl
theorem vn {b : Bool} : (VV.lit (.bool b)).leaf = true := rfl
theorem vo {b : ByteArray} : (VV.lit (.string b)).leaf = true := rfl
theorem vp {b : Option Addr} {l c : Nat} : (VV.lit (.slice b l c)).leaf = true := rfl
theorem vq {cs : List VV} {k : Nat} {f : Bool} : (VV.sl cs k f).leaf = true := rfl
theorem GA {β o l e c : Nat} : (VV.ref β o l e c).leaf = true := rfl
theorem HX {cs : List VV} : aJ (.agg cs) = if leafL cs = true then some cs else none := by simp only [aJ, ur]
theorem vcells1 {x : VV} (h : x.leaf = true) : aJ x = some [x] := by
 cases x <;> first | rfl | (simp [aJ, h]; done) | cases h
theorem Q9 {k : IntKind} {i : Int} : aJ (.lit (.int k i)) = some [.lit (.int k i)] := rfl
theorem QA {b : Bool} : aJ (.lit (.bool b)) = some [.lit (.bool b)] := rfl
theorem QB {b : ByteArray} : aJ (.lit (.string b)) = some [.lit (.string b)] := rfl
theorem QC {b : Option Addr} {l c : Nat} : aJ (.lit (.slice b l c)) = some [.lit (.slice b l c)] := rfl
theorem GB {cs : List VV} {k : Nat} {f : Bool} : aJ (.sl cs k f) = some [.sl cs k f] := rfl
theorem GC {β o l e c : Nat} : aJ (.ref β o l e c) = some [.ref β o l e c] := rfl
theorem QD {cs xs : List VV} {off : Nat} : overwrite cs off xs = cs.take off ++ (xs ++ cs.drop (off + xs.length)) := by simp [overwrite, List.append_assoc]
def vzl (P : Program) (t : TypeId) : Option (List VV) := (vzero P t).map fun z => z.toList.map ofVal1
theorem QE {t : TypeId} : aG P G γ ⟨d, .alloc t, ty, pos, af, g⟩ ⟨tm, H, nx, df⟩ K Qp = (match vzl P t with | some cs => fin d γ tm H nx df K (.ptr γ 0) (.new (.cells (some t) cs)) | none => False) := by
 rw [PF]; unfold vzl; cases vzero P t <;> rfl
theorem QF {t : TypeId} : aB P G γ ⟨d, .alloc t, ty, pos, af, g⟩ ⟨tm, H, nx, df⟩ Kd = (match vzl P t with | some cs => fin d γ tm H nx df (Kd (rdV ⟨d, .alloc t, ty, pos, af, g⟩ (ev G tm)) [γ]) (.ptr γ 0) (.new (.cells (some t) cs)) | none => False) := by
 rw [My]; unfold vzl; cases vzero P t <;> rfl
def vstoreV (P : Program) (H : Nat → Option VObj) (t : TypeId) (a x : VV) : Option (VV × VEff) := match a with
  | .ptr β off => match H β, aJ x, szT P t with
   | some (.cells el cs), some xs, some n => if xs.length = n ∧ off + n ≤ cs.length then some (.any, .upd β (.cells el (overwrite cs off xs))) else none
   | _, _, _ => none
  | _ => none
theorem QG {t : TypeId} {a x : Operand} : aG P G γ ⟨d, .store t a x, ty, pos, af, g⟩ ⟨tm, H, nx, df⟩ K Qp = oeK (vstoreV P H t (ev G tm a) (ev G tm x)) (fun y e => fin d γ tm H nx df K y e) := by
 rw [PI]; rfl
theorem QH {t : TypeId} {x : VV} {β off : Nat} : vstoreV P H t (.ptr β off) x = (match H β, aJ x, szT P t with
   | some (.cells el cs), some xs, some n => if xs.length = n ∧ off + n ≤ cs.length then some (.any, .upd β (.cells el (overwrite cs off xs))) else none
   | _, _, _ => none) := rfl
end
def eI (n : Int) : List VV := [.lit (.int .i64 n)]
def nv (n : Int) : List VV := [.lit (.int .u8 n)]
def eB (b : Bool) : List VV := [.lit (.bool b)]
def eS (s : ByteArray) : List VV := [.lit (.string s)]
def eSl {α : Type} (enc : α → List VV) (xs : List α) : List VV := [.sl (aa enc xs) xs.length false]
theorem eI_eq {n : Int} : eI n = [.lit (.int .i64 n)] := rfl
theorem kR {n : Int} : nv n = [.lit (.int .u8 n)] := rfl
theorem eB_eq {b : Bool} : eB b = [.lit (.bool b)] := rfl
theorem eS_eq {s : ByteArray} : eS s = [.lit (.string s)] := rfl
theorem kS {α : Type} {enc : α → List VV} {xs : List α} : eSl enc xs = [.sl (aa enc xs) xs.length false] := rfl
structure EncOk {α : Type} (enc : α → List VV) : Prop where
 tree : ∀ x, treeL (enc x) = true
 norm : ∀ x, normL (enc x) = enc x
 shown : ∀ x H d, (enc x).map (showV H d) = enc x
theorem eI_ok : EncOk eI := ⟨fun _ => rfl, fun _ => rfl, fun _ _ d => by cases d <;> rfl⟩
theorem qg : EncOk nv := ⟨fun _ => rfl, fun _ => rfl, fun _ _ d => by cases d <;> rfl⟩
theorem eB_ok : EncOk eB := ⟨fun _ => rfl, fun _ => rfl, fun _ _ d => by cases d <;> rfl⟩
theorem eS_ok : EncOk eS := ⟨fun _ => rfl, fun _ => rfl, fun _ _ d => by cases d <;> rfl⟩
section
variable {α : Type} {enc : α → List VV} (h : EncOk enc)
include h
theorem EncOk.treeL (xs : List α) : Go.V.treeL (aa enc xs) = true := Gt h.tree xs
theorem EncOk.normL (xs : List α) : Go.V.normL (aa enc xs) = aa enc xs := Gu h.norm xs
theorem EncOk.showL (xs : List α) (H : Nat → Option VObj) (d : Nat) : (aa enc xs).map (showV H d) = aa enc xs := Lb (fun x => h.shown x H d) xs
theorem EncOk.sl : EncOk (eSl enc) := ⟨fun x => by simp [eSl, Go.V.treeL, VV.tree, h.treeL], fun x => by simp [eSl, Go.V.normL, normV, h.normL], fun x H d => by cases d <;> rfl⟩
end
theorem EncOk.of {α : Type} {enc : α → List VV} (h1 : ∀ x, Go.V.treeL (enc x) = true) (h2 : ∀ x, Go.V.normL (enc x) = enc x) (h3 : ∀ x H d, (enc x).map (showV H d) = enc x) : EncOk enc := ⟨h1, h2, h3⟩
theorem GD {H : Nat → Option VObj} {d : Nat} {v : Value} : showV H d (.lit v) = .lit v := by cases d <;> rfl
theorem GF {H : Nat → Option VObj} {d n : Nat} {cs : List VV} {f : Bool} : showV H d (.sl cs n f) = .sl cs n f := by cases d <;> rfl
theorem jB {H : Nat → Option VObj} {d β off len es cp : Nat} : showV H (d + 1) (.ref β off len es cp) = (match H β with
   | some (.cells _ cs) => if off ≤ cs.length then .sl (((cs.drop off).take (len * es)).map (showV H d)) len false else .ref β off len es cp
   | _ => .ref β off len es cp) := rfl
theorem GG {H : Nat → Option VObj} {d : Nat} {cs : List VV} : showV H (d + 1) (.agg cs) = .agg (cs.map (showV H d)) := rfl
theorem GH {H : Nat → Option VObj} {d : Nat} {cs : List VV} : showV H (d + 1) (.tup cs) = .tup (cs.map (showV H d)) := rfl
theorem sa {cs : List VV} {n : Nat} {f : Bool} : normV (.sl cs n f) = .sl (normL cs) n false := by simp [normV]
theorem Ib : normV (.lit (.slice none 0 0)) = .sl [] 0 false := by simp [normV]
theorem Ic {cs : List VV} : normV (.agg cs) = .agg (normL cs) := by simp [normV]
theorem GI {cs : List VV} : normV (.tup cs) = .tup (normL cs) := by simp [normV]
theorem HY {k : IntKind} {n : Int} : normV (.lit (.int k n)) = .lit (.int k n) := by simp [normV]
theorem wX {b : Bool} : normV (.lit (.bool b)) = .lit (.bool b) := by simp [normV]
theorem QI {b : ByteArray} : normV (.lit (.string b)) = .lit (.string b) := by simp [normV]
theorem nu : normL [] = [] := rfl
theorem nt {x : VV} {xs : List VV} : normL (x :: xs) = normV x :: normL xs := by simp [normL]
theorem GJ : VV.tree .any = true := rfl
def vs := (And.intro (And.intro (And.intro (And.intro (And.intro (And.intro (And.intro @F6 @PN) (And.intro @F9 @F7)) (And.intro (And.intro @FB @FA) (And.intro @F8 @PO))) (And.intro (And.intro (And.intro @FD @FC) (And.intro @PQ @PR)) (And.intro (And.intro @FG @F4) (And.intro @F5 @Fj)))) (And.intro (And.intro (And.intro (And.intro @Fp @Fo) (And.intro @PT @Fq)) (And.intro (And.intro @PB @Fu) (And.intro @Fv @Fs))) (And.intro (And.intro (And.intro @Ft @PE) (And.intro @Fy @K8)) (And.intro (And.intro @K7 @KA) (And.intro @F0 (And.intro @nD @nE)))))) (And.intro (And.intro (And.intro (And.intro (And.intro @FH @nG) (And.intro @vd @FK)) (And.intro (And.intro @FJ @FP) (And.intro @FT @Fk))) (And.intro (And.intro (And.intro @Fm @argsTm1) (And.intro @argsTm2 @MC)) (And.intro (And.intro @MA @MB) (And.intro @Ag (And.intro @Ah @Mq))))) (And.intro (And.intro (And.intro (And.intro @Mr @Ms) (And.intro @Mt @Mu)) (And.intro (And.intro @Mv @Mw) (And.intro @Ai @Aj))) (And.intro (And.intro (And.intro @Mx @Al) (And.intro @M0 @M6)) (And.intro (And.intro @PC @PD) (And.intro @Jc (And.intro @PG @PJ))))))) (And.intro (And.intro (And.intro (And.intro (And.intro (And.intro @FN @FO) (And.intro @FL @FM)) (And.intro (And.intro @FQ @FR) (And.intro @argsTm3 @argsTm4))) (And.intro (And.intro (And.intro @argsTm5 @uM) (And.intro @uK @uL)) (And.intro (And.intro @Q6 @Q7) (And.intro @Gx (And.intro @Gy @G1))))) (And.intro (And.intro (And.intro (And.intro @G2 @G3) (And.intro @G4 @G5)) (And.intro (And.intro @G6 @G7) (And.intro @G8 @G9))) (And.intro (And.intro (And.intro @Fz @PM) (And.intro @PK @PL)) (And.intro (And.intro @QG @QH) (And.intro @QE (And.intro @Fx @fw)))))) (And.intro (And.intro (And.intro (And.intro (And.intro @fx @vm) (And.intro @vn @vo)) (And.intro (And.intro @vp @vq) (And.intro @GA @HX))) (And.intro (And.intro (And.intro @Q9 @QA) (And.intro @QB @QC)) (And.intro (And.intro @GB @GC) (And.intro @QD (And.intro @PH @QF))))) (And.intro (And.intro (And.intro (And.intro @Ak @Mz) (And.intro @M4 @M1)) (And.intro (And.intro @M3 @F1) (And.intro @F2 @F3))) (And.intro (And.intro (And.intro @FI @PU) (And.intro @Fl @bf)) (And.intro (And.intro @bg @FE) (And.intro @PS (And.intro @dY @dX))))))))
section
variable {i : Nat} {a : Oper} {l : List Oper} {x : VV} {xs ys : List VV}
theorem GK : (a :: l)[i + 1]? = l[i]? := rfl
theorem GL : (a :: l)[0]? = some a := rfl
theorem GM : (x :: xs)[i + 1]? = xs[i]? := rfl
theorem GN : (x :: xs)[0]? = some x := rfl
theorem GO {f : Oper → Option Tmp} : (some a).bind f = f a := rfl
theorem GP {f : List VV → Option VV} : (some xs).bind f = f xs := rfl
theorem GQ {f : VV → VV} : (some x).map f = some (f x) := rfl
theorem GR : (a :: l).length = l.length + 1 := rfl
theorem GS : ([] : List Oper).length = 0 := rfl
theorem GU : (x :: xs).length = xs.length + 1 := rfl
theorem GV : ([] : List VV).length = 0 := rfl
theorem GW {f : Operand → VV} {o : Operand} {os : List Operand} : (o :: os).map f = f o :: os.map f := rfl
theorem GX {f : Operand → VV} : ([] : List Operand).map f = [] := rfl
theorem GY {f : Nat × Operand → Nat × VV} {o : Nat × Operand} {os : List (Nat × Operand)} : (o :: os).map f = f o :: os.map f := rfl
theorem GZ {f : Nat × Operand → Nat × VV} : ([] : List (Nat × Operand)).map f = [] := rfl
theorem Ha {f : VV → VV} : (x :: xs).map f = f x :: xs.map f := rfl
theorem Hb {f : VV → VV} : ([] : List VV).map f = [] := rfl
theorem fj : (x :: xs) ++ ys = x :: (xs ++ ys) := rfl
theorem fk : [] ++ ys = ys := rfl
theorem Hc : (x :: xs).drop (i + 1) = xs.drop i := rfl
theorem Hd : xs.drop 0 = xs := by simp
theorem He : (x :: xs).take (i + 1) = x :: xs.take i := rfl
theorem Hf : xs.take 0 = [] := by simp
theorem Hg {o : VObj} : (some o).isSome = true := rfl
theorem m_nil : (([] : List Nat) = []) = True := by simp
theorem m_ne {a b : Bool} : (a ≠ b) = ¬ (a = b) := rfl
theorem m_neN {a b : Nat} : (a ≠ b) = ¬ (a = b) := rfl
end
def cr := (And.intro (And.intro (And.intro (And.intro (And.intro @GK (And.intro @GL @GM)) (And.intro @GN (And.intro @GO @GP))) (And.intro (And.intro @GQ (And.intro @GR @GS)) (And.intro (And.intro @GU @GV) (And.intro @GW @GX)))) (And.intro (And.intro (And.intro @GY (And.intro @GZ @Ha)) (And.intro @Hb (And.intro @fj @fk))) (And.intro (And.intro @Hc (And.intro @Hd @He)) (And.intro (And.intro @Hf @Hg) (And.intro @m_nil @m_ne))))) (And.intro (And.intro (And.intro (And.intro @m_neN (And.intro @Nat.zero_add @not_true_eq_false)) (And.intro @not_false_eq_true (And.intro @false_implies @true_implies))) (And.intro (And.intro @true_and (And.intro @and_true @false_and)) (And.intro (And.intro @and_false @Bool.false_eq_true) (And.intro @Bool.true_eq_false @Bool.not_true)))) (And.intro (And.intro (And.intro @Bool.not_false (And.intro @Bool.and_self @decide_true)) (And.intro (And.intro @decide_false @Nat.add_assoc) (And.intro @Nat.zero_mul @Nat.one_mul))) (And.intro (And.intro @Nat.zero_le (And.intro @true_or @or_true)) (And.intro (And.intro @false_or @or_false) (And.intro @not_true @not_false_iff))))))
def nrm := (And.intro (And.intro (And.intro (And.intro @sa @Ib) (And.intro @Ic (And.intro @GI @HY))) (And.intro (And.intro @wX @QI) (And.intro @nu (And.intro @nt @eI_ok.normL)))) (And.intro (And.intro (And.intro @qg.normL @eB_ok.normL) (And.intro @eS_ok.normL (And.intro @GD @GF))) (And.intro (And.intro @GG (And.intro @GH @eI_ok.showL)) (And.intro @qg.showL (And.intro @eB_ok.showL @eS_ok.showL)))))
def tre := (And.intro (And.intro (And.intro @K7 @K8) (And.intro @KA (And.intro @uM @uK))) (And.intro (And.intro @uL (And.intro @eI_ok.treeL @qg.treeL)) (And.intro @eB_ok.treeL (And.intro @eS_ok.treeL @GJ))))
end Go.V
end
