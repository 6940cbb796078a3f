/- Part of a proof. -/
import Derived.Test.YtlkognggeadanaaGreatDoorIbc
set_option linter.all false
section
namespace Go.V
open Go
set_option linter.defProp false
section
variable {P : Program} {G : Glob} {n : Nat} {γ : Nat} {tm : Nat → VV} {H : Nat → Option VObj} {nx : Nat} {df : List VDef} {K : St → Prop} {Kd : List Nat → List Nat → St → Prop} {Qp : VV → St → Prop}
 {d : Option Tmp} {ty : TypeId} {pos : String} {af : Array Edge} {g : Option (Nat × Bool)}
section
variable {a b : Prop} {x y : VV} {k : VV → Prop}
theorem El : guardK (.lit (.bool true)) true a b = a := by simp [guardK]
theorem Em : guardK (.lit (.bool true)) false a b = b := by simp [guardK]
theorem En : guardK (.lit (.bool false)) true a b = b := by simp [guardK]
theorem Eo : guardK (.lit (.bool false)) false a b = a := by simp [guardK]
theorem Ep {w : Bool} : guardK (.lit undef) w a b = b := rfl
theorem Er : pickK (.lit (.bool true)) x y k = k x := by simp [pickK]
theorem Es : pickK (.lit (.bool false)) x y k = k y := by simp [pickK]
theorem Et : condK (.lit (.bool true)) a b = a := by simp [condK]
theorem Eu : condK (.lit (.bool false)) a b = b := by simp [condK]
end
theorem k6 : leafL [] = true := rfl
theorem k7 {x : VV} {xs : List VV} : leafL (x :: xs) = (x.leaf && leafL xs) := rfl
theorem Bv {k : IntKind} {i : Int} : (VV.lit (.int k i)).leaf = true := rfl
theorem Bw {b : Bool} : (VV.lit (.bool b)).leaf = true := rfl
theorem Bx {b : ByteArray} : (VV.lit (.string b)).leaf = true := rfl
theorem By {b : Option Addr} {l c : Nat} : (VV.lit (.slice b l c)).leaf = true := rfl
theorem Bz {cs : List VV} {k : Nat} {f : Bool} : (VV.sl cs k f).leaf = true := rfl
theorem Ev {β o l e c : Nat} : (VV.ref β o l e c).leaf = true := rfl
theorem Ew {cs : List VV} : aU (.agg cs) = if leafL cs = true then some cs else none := by simp only [aU, wW]
theorem vcells1 {x : VV} (h : x.leaf = true) : aU x = some [x] := by
 cases x <;> first | rfl | (simp [aU, h]; done) | cases h
theorem Ex {k : IntKind} {i : Int} : aU (.lit (.int k i)) = some [.lit (.int k i)] := rfl
theorem Ey {b : Bool} : aU (.lit (.bool b)) = some [.lit (.bool b)] := rfl
theorem SK {b : ByteArray} : aU (.lit (.string b)) = some [.lit (.string b)] := rfl
theorem Ez {b : Option Addr} {l c : Nat} : aU (.lit (.slice b l c)) = some [.lit (.slice b l c)] := rfl
theorem E0 {cs : List VV} {k : Nat} {f : Bool} : aU (.sl cs k f) = some [.sl cs k f] := rfl
theorem E1 {β o l e c : Nat} : aU (.ref β o l e c) = some [.ref β o l e c] := rfl
theorem SL {cs xs : List VV} {off : Nat} : overwrite cs off xs = cs.take off ++ (xs ++ cs.drop (off + xs.length)) := by simp [overwrite, List.append_assoc]
def vzl (P : Program) (t : TypeId) : Option (List VV) := (vzero P t).map fun z => z.toList.map ofVal1
theorem E2 {t : TypeId} : aS P G γ ⟨d, .alloc t, ty, pos, af, g⟩ ⟨tm, H, nx, df⟩ K Qp = (match vzl P t with | some cs => fin d γ tm H nx df K (.ptr γ 0) (.new (.cells (some t) cs)) | none => False) := by
 rw [E3]; unfold vzl; cases vzero P t <;> rfl
theorem SM {t : TypeId} : aJ P G γ ⟨d, .alloc t, ty, pos, af, g⟩ ⟨tm, H, nx, df⟩ Kd = (match vzl P t with | some cs => fin d γ tm H nx df (Kd (rdV ⟨d, .alloc t, ty, pos, af, g⟩ (ev G tm)) [γ]) (.ptr γ 0) (.new (.cells (some t) cs)) | none => False) := by
 rw [E4]; unfold vzl; cases vzero P t <;> rfl
def vstoreV (P : Program) (H : Nat → Option VObj) (t : TypeId) (a x : VV) : Option (VV × VEff) := match a with
  | .ptr β off => match H β, aU x, szT P t with
   | some (.cells el cs), some xs, some n => if xs.length = n ∧ off + n ≤ cs.length then some (.any, .upd β (.cells el (overwrite cs off xs))) else none
   | _, _, _ => none
  | _ => none
theorem E5 {t : TypeId} {a x : Operand} : aS P G γ ⟨d, .store t a x, ty, pos, af, g⟩ ⟨tm, H, nx, df⟩ K Qp = oeK (vstoreV P H t (ev G tm a) (ev G tm x)) (fun y e => fin d γ tm H nx df K y e) := by
 rw [E6]; rfl
theorem E7 {t : TypeId} {x : VV} {β off : Nat} : vstoreV P H t (.ptr β off) x = (match H β, aU x, szT P t with
   | some (.cells el cs), some xs, some n => if xs.length = n ∧ off + n ≤ cs.length then some (.any, .upd β (.cells el (overwrite cs off xs))) else none
   | _, _, _ => none) := rfl
end
def eI (n : Int) : List VV := [.lit (.int .i64 n)]
def rk (n : Int) : List VV := [.lit (.int .u8 n)]
def eB (b : Bool) : List VV := [.lit (.bool b)]
def eS (s : ByteArray) : List VV := [.lit (.string s)]
def eSl {α : Type} (enc : α → List VV) (xs : List α) : List VV := [.sl (aa enc xs) xs.length false]
theorem eI_eq {n : Int} : eI n = [.lit (.int .i64 n)] := rfl
theorem qb {n : Int} : rk n = [.lit (.int .u8 n)] := rfl
theorem eB_eq {b : Bool} : eB b = [.lit (.bool b)] := rfl
theorem eS_eq {s : ByteArray} : eS s = [.lit (.string s)] := rfl
theorem qc {α : Type} {enc : α → List VV} {xs : List α} : eSl enc xs = [.sl (aa enc xs) xs.length false] := rfl
structure EncOk {α : Type} (enc : α → List VV) : Prop where
 tree : ∀ x, treeL (enc x) = true
 norm : ∀ x, normL (enc x) = enc x
 shown : ∀ x H d, (enc x).map (showV H d) = enc x
theorem eI_ok : EncOk eI := ⟨fun _ => rfl, fun _ => rfl, fun _ _ d => by cases d <;> rfl⟩
theorem sH : EncOk rk := ⟨fun _ => rfl, fun _ => rfl, fun _ _ d => by cases d <;> rfl⟩
theorem eB_ok : EncOk eB := ⟨fun _ => rfl, fun _ => rfl, fun _ _ d => by cases d <;> rfl⟩
theorem eS_ok : EncOk eS := ⟨fun _ => rfl, fun _ => rfl, fun _ _ d => by cases d <;> rfl⟩
section
variable {α : Type} {enc : α → List VV} (h : EncOk enc)
include h
theorem EncOk.treeL (xs : List α) : Go.V.treeL (aa enc xs) = true := E8 h.tree xs
theorem EncOk.normL (xs : List α) : Go.V.normL (aa enc xs) = aa enc xs := E9 h.norm xs
theorem EncOk.showL (xs : List α) (H : Nat → Option VObj) (d : Nat) : (aa enc xs).map (showV H d) = aa enc xs := Pq (fun x => h.shown x H d) xs
theorem EncOk.sl : EncOk (eSl enc) := ⟨fun x => by simp [eSl, Go.V.treeL, VV.tree, h.treeL], fun x => by simp [eSl, Go.V.normL, normV, h.normL], fun x H d => by cases d <;> rfl⟩
end
theorem EncOk.of {α : Type} {enc : α → List VV} (h1 : ∀ x, Go.V.treeL (enc x) = true) (h2 : ∀ x, Go.V.normL (enc x) = enc x) (h3 : ∀ x H d, (enc x).map (showV H d) = enc x) : EncOk enc := ⟨h1, h2, h3⟩
theorem EA {H : Nat → Option VObj} {d : Nat} {v : Value} : showV H d (.lit v) = .lit v := by cases d <;> rfl
theorem EB {H : Nat → Option VObj} {d n : Nat} {cs : List VV} {f : Bool} : showV H d (.sl cs n f) = .sl cs n f := by cases d <;> rfl
theorem jR {H : Nat → Option VObj} {d β : Nat} : showV H (d + 1) (.mp β) = (match H β with
   | some (.map es) => .mt (es.map (·.1)) ((es.map (·.2)).map (showV H d))
   | _ => .mp β) := rfl
theorem eu {H : Nat → Option VObj} {d β off len es cp : Nat} : showV H (d + 1) (.ref β off len es cp) = (match H β with
   | some (.cells _ cs) => if off ≤ cs.length then .sl (((cs.drop off).take (len * es)).map (showV H d)) len false else .ref β off len es cp
   | _ => .ref β off len es cp) := rfl
theorem EC {H : Nat → Option VObj} {d : Nat} {cs : List VV} : showV H (d + 1) (.agg cs) = .agg (cs.map (showV H d)) := rfl
theorem ED {H : Nat → Option VObj} {d : Nat} {cs : List VV} : showV H (d + 1) (.tup cs) = .tup (cs.map (showV H d)) := rfl
theorem xe {cs : List VV} {n : Nat} {f : Bool} : normV (.sl cs n f) = .sl (normL cs) n false := by simp [normV]
theorem Pr : normV (.lit (.slice none 0 0)) = .sl [] 0 false := by simp [normV]
theorem Ps {cs : List VV} : normV (.agg cs) = .agg (normL cs) := by simp [normV]
theorem EE {cs : List VV} : normV (.tup cs) = .tup (normL cs) := by simp [normV]
theorem Pt {k : IntKind} {n : Int} : normV (.lit (.int k n)) = .lit (.int k n) := by simp [normV]
theorem EF {b : Bool} : normV (.lit (.bool b)) = .lit (.bool b) := by simp [normV]
theorem SN {b : ByteArray} : normV (.lit (.string b)) = .lit (.string b) := by simp [normV]
theorem rl : normL [] = [] := rfl
theorem rn {x : VV} {xs : List VV} : normL (x :: xs) = normV x :: normL xs := by simp [normL]
theorem EG : VV.tree .any = true := rfl
def vs := (And.intro (And.intro (And.intro (And.intro (And.intro (And.intro (And.intro @EH @EI) (And.intro @EJ @EK)) (And.intro (And.intro @EL @EM) (And.intro @EN @EO))) (And.intro (And.intro (And.intro @EP @ES) (And.intro @SO @ET)) (And.intro (And.intro @EU @EV) (And.intro @EW @EX)))) (And.intro (And.intro (And.intro (And.intro @EY @EZ) (And.intro @SP @Fa)) (And.intro (And.intro @Fb @Fc) (And.intro @Fe @Ff))) (And.intro (And.intro (And.intro @Fg @SQ) (And.intro @Fh @Pu)) (And.intro (And.intro @Pv @xf) (And.intro @Fi (And.intro @m3 @sJ)))))) (And.intro (And.intro (And.intro (And.intro (And.intro @Fj @uY) (And.intro @sK @Fk)) (And.intro (And.intro @Fl @Fm) (And.intro @Fo @Fp))) (And.intro (And.intro (And.intro @Fq @argsTm1) (And.intro @argsTm2 @Fs)) (And.intro (And.intro @Ft @Fu) (And.intro @Fv (And.intro @Fx @SS))))) (And.intro (And.intro (And.intro (And.intro @Fy @Fz) (And.intro @SU @F0)) (And.intro (And.intro @SV @F1) (And.intro @F2 @F3))) (And.intro (And.intro (And.intro @F4 @F5) (And.intro @SW @F6)) (And.intro (And.intro @SX @F7) (And.intro @Pw (And.intro @F8 @SY))))))) (And.intro (And.intro (And.intro (And.intro (And.intro (And.intro @F9 @FA) (And.intro @FB @FC)) (And.intro (And.intro @FD @FE) (And.intro @argsTm3 @argsTm4))) (And.intro (And.intro (And.intro @argsTm5 @xg) (And.intro @xh @xi)) (And.intro (And.intro @FF @FG) (And.intro @FH (And.intro @FI @El))))) (And.intro (And.intro (And.intro (And.intro @Em @En) (And.intro @Eo @Ep)) (And.intro (And.intro @Er @Es) (And.intro @Et @Eu))) (And.intro (And.intro (And.intro @FJ @FK) (And.intro @FM @SZ)) (And.intro (And.intro @E5 @E7) (And.intro @E2 (And.intro @FN @k6)))))) (And.intro (And.intro (And.intro (And.intro (And.intro @k7 @Bv) (And.intro @Bw @Bx)) (And.intro (And.intro @By @Bz) (And.intro @Ev @Ew))) (And.intro (And.intro (And.intro @Ex @Ey) (And.intro @SK @Ez)) (And.intro (And.intro @E0 @E1) (And.intro @SL (And.intro @Ta @SM))))) (And.intro (And.intro (And.intro (And.intro @FO @Tb) (And.intro @Tc @FP)) (And.intro (And.intro @Td @FQ) (And.intro @FR @FT))) (And.intro (And.intro (And.intro @FU @FV) (And.intro @FW @bl)) (And.intro (And.intro @bI @FX) (And.intro @FY (And.intro @cW @cX))))))))
section
variable {i : Nat} {a : Oper} {l : List Oper} {x : VV} {xs ys : List VV}
theorem FZ : (a :: l)[i + 1]? = l[i]? := rfl
theorem Ga : (a :: l)[0]? = some a := rfl
theorem Gb : (x :: xs)[i + 1]? = xs[i]? := rfl
theorem Gc : (x :: xs)[0]? = some x := rfl
theorem Gd {f : Oper → Option Tmp} : (some a).bind f = f a := rfl
theorem Ge {f : List VV → Option VV} : (some xs).bind f = f xs := rfl
theorem Gf {f : VV → VV} : (some x).map f = some (f x) := rfl
theorem Gg : (a :: l).length = l.length + 1 := rfl
theorem Gh : ([] : List Oper).length = 0 := rfl
theorem Gi : (x :: xs).length = xs.length + 1 := rfl
theorem Gj : ([] : List VV).length = 0 := rfl
theorem Gk {f : Operand → VV} {o : Operand} {os : List Operand} : (o :: os).map f = f o :: os.map f := rfl
theorem Gl {f : Operand → VV} : ([] : List Operand).map f = [] := rfl
theorem Gm {f : Nat × Operand → Nat × VV} {o : Nat × Operand} {os : List (Nat × Operand)} : (o :: os).map f = f o :: os.map f := rfl
theorem Gn {f : Nat × Operand → Nat × VV} : ([] : List (Nat × Operand)).map f = [] := rfl
theorem Gp {f : VV → VV} : (x :: xs).map f = f x :: xs.map f := rfl
theorem Gq {f : VV → VV} : ([] : List VV).map f = [] := rfl
theorem eW : (x :: xs) ++ ys = x :: (xs ++ ys) := rfl
theorem eX : [] ++ ys = ys := rfl
theorem Gr : (x :: xs).drop (i + 1) = xs.drop i := rfl
theorem Gs : xs.drop 0 = xs := by simp
theorem Gt : (x :: xs).take (i + 1) = x :: xs.take i := rfl
theorem Gu : xs.take 0 = [] := by simp
theorem Gv {o : VObj} : (some o).isSome = true := rfl
theorem m_nil : (([] : List Nat) = []) = True := by simp
theorem m_ne {a b : Bool} : (a ≠ b) = ¬ (a = b) := rfl
theorem m_neN {a b : Nat} : (a ≠ b) = ¬ (a = b) := rfl
end
def cr := (And.intro (And.intro (And.intro (And.intro (And.intro @FZ (And.intro @Ga @Gb)) (And.intro @Gc (And.intro @Gd @Ge))) (And.intro (And.intro @Gf (And.intro @Gg @Gh)) (And.intro (And.intro @Gi @Gj) (And.intro @Gk @Gl)))) (And.intro (And.intro (And.intro @Gm (And.intro @Gn @Gp)) (And.intro @Gq (And.intro @eW @eX))) (And.intro (And.intro @Gr (And.intro @Gs @Gt)) (And.intro (And.intro @Gu @Gv) (And.intro @m_nil @m_ne))))) (And.intro (And.intro (And.intro (And.intro @m_neN (And.intro @Nat.zero_add @not_true_eq_false)) (And.intro @not_false_eq_true (And.intro @false_implies @true_implies))) (And.intro (And.intro @true_and (And.intro @and_true @false_and)) (And.intro (And.intro @and_false @Bool.false_eq_true) (And.intro @Bool.true_eq_false @Bool.not_true)))) (And.intro (And.intro (And.intro @Bool.not_false (And.intro @Bool.and_self @decide_true)) (And.intro (And.intro @decide_false @Nat.add_assoc) (And.intro @Nat.zero_mul @Nat.one_mul))) (And.intro (And.intro @Nat.zero_le (And.intro @true_or @or_true)) (And.intro (And.intro @false_or @or_false) (And.intro @not_true @not_false_iff))))))
def nrm := (And.intro (And.intro (And.intro (And.intro @xe @Pr) (And.intro @Ps (And.intro @EE @Pt))) (And.intro (And.intro @EF @SN) (And.intro @rl (And.intro @rn @eI_ok.normL)))) (And.intro (And.intro (And.intro @sH.normL @eB_ok.normL) (And.intro @eS_ok.normL (And.intro @EA @EB))) (And.intro (And.intro @EC (And.intro @ED @eI_ok.showL)) (And.intro @sH.showL (And.intro @eB_ok.showL @eS_ok.showL)))))
def tre := (And.intro (And.intro (And.intro @Pv @Pu) (And.intro @xf (And.intro @xg @xh))) (And.intro (And.intro @xi (And.intro @eI_ok.treeL @sH.treeL)) (And.intro @eB_ok.treeL (And.intro @eS_ok.treeL @EG))))
end Go.V
end
