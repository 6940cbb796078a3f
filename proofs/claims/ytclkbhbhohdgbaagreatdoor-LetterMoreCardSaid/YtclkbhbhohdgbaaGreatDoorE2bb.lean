/- Part of a proof. -/
import Derived.Test.YtclkbhbhohdgbaaGreatDoorE2ba
set_option linter.all false
section
namespace Go.V
open Go
set_option linter.defProp false
variable {x : VV} {xs cs : List VV} {k : IntKind} {b : Bool} {l c β off : Nat} {t : TypeId}
section
variable {P : Program} {G : Gb} {n : Nat} {γ : Nat} {tm : Nat → VV} {H : Nat → Option Vo} {nx : Nat} {df : List VDef} {K : St → Prop} {Kd : List Nat → List Nat → St → Prop} {Qp : VV → St → Prop}
 {d : Option Tmp} {ty : TypeId} {pos : String} {af : Array Edge} {g : Option (Nat × Bool)}
section
variable {a b : Prop} {x y : VV} {k : VV → Prop}
theorem Qq : guardK (.lit (.bool true)) true a b = a := by simp [guardK]
theorem Qr : guardK (.lit (.bool true)) false a b = b := by simp [guardK]
theorem Qs : guardK (.lit (.bool false)) true a b = b := by simp [guardK]
theorem Qt : guardK (.lit (.bool false)) false a b = a := by simp [guardK]
theorem Qu {w : Bool} : guardK (.lit undef) w a b = b := rfl
theorem Qv : pickK (.lit (.bool true)) x y k = k x := by simp [pickK]
theorem Qw : pickK (.lit (.bool false)) x y k = k y := by simp [pickK]
theorem Qx : condK (.lit (.bool true)) a b = a := by simp [condK]
theorem Qy : condK (.lit (.bool false)) a b = b := by simp [condK]
end
theorem iI : leafL [] = true := rfl
theorem iJ : leafL (x :: xs) = (x.leaf && leafL xs) := rfl
theorem B7 {i : Int} : (VV.lit (.int k i)).leaf = true := rfl
theorem B8 : (VV.lit (.bool b)).leaf = true := rfl
theorem B9 {b : ByteArray} : (VV.lit (.string b)).leaf = true := rfl
theorem BA {b : Option Addr} : (VV.lit (.slice b l c)).leaf = true := rfl
theorem BB {k : Nat} {f : Bool} : (VV.sl cs k f).leaf = true := rfl
theorem Qz {o e : Nat} : (VV.ref β o l e c).leaf = true := rfl
theorem Pu : bc (.agg cs) = if leafL cs = true then some cs else none := by simp only [bc, xm]
theorem vcells1 (h : x.leaf = true) : bc x = some [x] := by
 cases x <;> first | rfl | (simp [bc, h]; done) | cases h
theorem Q0 {i : Int} : bc (.lit (.int k i)) = some [.lit (.int k i)] := rfl
theorem Q1 : bc (.lit (.bool b)) = some [.lit (.bool b)] := rfl
theorem ZN {b : ByteArray} : bc (.lit (.string b)) = some [.lit (.string b)] := rfl
theorem Q2 {b : Option Addr} : bc (.lit (.slice b l c)) = some [.lit (.slice b l c)] := rfl
theorem Q3 {k : Nat} {f : Bool} : bc (.sl cs k f) = some [.sl cs k f] := rfl
theorem Q4 {o e : Nat} : bc (.ref β o l e c) = some [.ref β o l e c] := rfl
theorem ZO : overwrite cs off xs = cs.take off ++ (xs ++ cs.drop (off + xs.length)) := by simp [overwrite, List.append_assoc]
def vzl (P : Program) (t : TypeId) : Option (List VV) := (vzero P t).map fun z => z.toList.map ofVal1
theorem Q5 : bd P G γ ⟨d, .alloc t, ty, pos, af, g⟩ ⟨tm, H, nx, df⟩ K Qp = (match vzl P t with | some cs => fin d γ tm H nx df K (.ptr γ 0) (.new (.cells (some t) cs)) | none => False) := by
 rw [Hj]; unfold vzl; cases vzero P t <;> rfl
theorem ZP : aR P G γ ⟨d, .alloc t, ty, pos, af, g⟩ ⟨tm, H, nx, df⟩ Kd = (match vzl P t with | some cs => fin d γ tm H nx df (Kd (rdV ⟨d, .alloc t, ty, pos, af, g⟩ (ev G tm)) [γ]) (.ptr γ 0) (.new (.cells (some t) cs)) | none => False) := by
 rw [Q6]; unfold vzl; cases vzero P t <;> rfl
def vstoreV (P : Program) (H : Nat → Option Vo) (t : TypeId) (a x : VV) : Option (VV × Ve) := match a with
  | .ptr β off => match H β, bc x, szT P t with
   | some (.cells el cs), some xs, some n => if xs.length = n ∧ off + n ≤ cs.length then some (.any, .upd β (.cells el (overwrite cs off xs))) else none
   | _, _, _ => none
  | _ => none
theorem Q7 {a x : Operand} : bd P G γ ⟨d, .store t a x, ty, pos, af, g⟩ ⟨tm, H, nx, df⟩ K Qp = oeK (vstoreV P H t (ev G tm a) (ev G tm x)) (fun y e => fin d γ tm H nx df K y e) := by
 rw [Hm]; rfl
theorem Q8 : vstoreV P H t (.ptr β off) x = (match H β, bc x, szT P t with
   | some (.cells el cs), some xs, some n => if xs.length = n ∧ off + n ≤ cs.length then some (.any, .upd β (.cells el (overwrite cs off xs))) else none
   | _, _, _ => none) := rfl
end
def eI (n : Int) : List VV := [.lit (.int .i64 n)]
def qq (n : Int) : List VV := [.lit (.int .u8 n)]
def eB (b : Bool) : List VV := [.lit (.bool b)]
def eS (s : ByteArray) : List VV := [.lit (.string s)]
def eSl {α : Type} (enc : α → List VV) (xs : List α) : List VV := [.sl (ad enc xs) xs.length false]
variable {n : Int}
theorem eI_eq : eI n = [.lit (.int .i64 n)] := rfl
theorem pq : qq n = [.lit (.int .u8 n)] := rfl
theorem eB_eq : eB b = [.lit (.bool b)] := rfl
theorem eS_eq {s : ByteArray} : eS s = [.lit (.string s)] := rfl
theorem pr {α : Type} {enc : α → List VV} {xs : List α} : eSl enc xs = [.sl (ad enc xs) xs.length false] := rfl
structure EncOk {α : Type} (enc : α → List VV) : Prop where
 tree : ∀ x, tl (enc x) = true
 norm : ∀ x, normL (enc x) = enc x
 shown : ∀ x H d, (enc x).map (showV H d) = enc x
theorem eI_ok : EncOk eI := ⟨fun _ => rfl, fun _ => rfl, fun _ _ d => by cases d <;> rfl⟩
theorem we : EncOk qq := ⟨fun _ => rfl, fun _ => rfl, fun _ _ d => by cases d <;> rfl⟩
theorem eB_ok : EncOk eB := ⟨fun _ => rfl, fun _ => rfl, fun _ _ d => by cases d <;> rfl⟩
theorem eS_ok : EncOk eS := ⟨fun _ => rfl, fun _ => rfl, fun _ _ d => by cases d <;> rfl⟩
section
variable {α : Type} {enc : α → List VV} (h : EncOk enc)
include h
theorem EncOk.treeL (xs : List α) : Go.V.tl (ad enc xs) = true := JJ h.tree xs
theorem EncOk.normL (xs : List α) : Go.V.normL (ad enc xs) = ad enc xs := JI h.norm xs
theorem EncOk.showL (xs : List α) (H : Nat → Option Vo) (d : Nat) : (ad enc xs).map (showV H d) = ad enc xs := UC (fun x => h.shown x H d) xs
theorem EncOk.sl : EncOk (eSl enc) := ⟨fun x => by simp [eSl, Go.V.tl, VV.tree, h.treeL], fun x => by simp [eSl, Go.V.normL, normV, h.normL], fun x H d => by cases d <;> rfl⟩
end
theorem EncOk.of {α : Type} {enc : α → List VV} (h1 : ∀ x, Go.V.tl (enc x) = true) (h2 : ∀ x, Go.V.normL (enc x) = enc x) (h3 : ∀ x H d, (enc x).map (showV H d) = enc x) : EncOk enc := ⟨h1, h2, h3⟩
variable {H : Nat → Option Vo} {d : Nat}
theorem Q9 {v : Value} : showV H d (.lit v) = .lit v := by cases d <;> rfl
theorem QA {n : Nat} {f : Bool} : showV H d (.sl cs n f) = .sl cs n f := by cases d <;> rfl
theorem lI : showV H (d + 1) (.mp β) = (match H β with
   | some (.map es) => .mt (es.map (·.1)) ((es.map (·.2)).map (showV H d))
   | _ => .mp β) := rfl
theorem cw {len es cp : Nat} : showV H (d + 1) (.ref β off len es cp) = (match H β with
   | some (.cells _ cs) => if off ≤ cs.length then .sl (((cs.drop off).take (len * es)).map (showV H d)) len false else .ref β off len es cp
   | _ => .ref β off len es cp) := rfl
theorem QB : showV H (d + 1) (.agg cs) = .agg (cs.map (showV H d)) := rfl
theorem QC : showV H (d + 1) (.tup cs) = .tup (cs.map (showV H d)) := rfl
theorem Cm {n : Nat} {f : Bool} : normV (.sl cs n f) = .sl (normL cs) n false := by simp [normV]
theorem U3 : normV (.lit (.slice none 0 0)) = .sl [] 0 false := by simp [normV]
theorem U4 : normV (.agg cs) = .agg (normL cs) := by simp [normV]
theorem QD : normV (.tup cs) = .tup (normL cs) := by simp [normV]
theorem Ck : normV (.lit (.int k n)) = .lit (.int k n) := by simp [normV]
theorem E4 : normV (.lit (.bool b)) = .lit (.bool b) := by simp [normV]
theorem ZQ {b : ByteArray} : normV (.lit (.string b)) = .lit (.string b) := by simp [normV]
theorem uk : normL [] = [] := rfl
theorem uj : normL (x :: xs) = normV x :: normL xs := by simp [normL]
theorem QE : VV.tree .any = true := rfl
def vs := (qZj (qZj (qZj (qZj (qZj (qZj (qZj @Hy @HE) (qZj @HB @Hz)) (qZj (qZj @HD @HC) (qZj @HA @HF))) (qZj (qZj (qZj @HH @HG) (qZj @Wi @S3)) (qZj (qZj @HJ @Hw) (qZj @Hx @GR)))) (qZj (qZj (qZj (qZj @GY @GX) (qZj @Wj @GZ)) (qZj (qZj @Hd @Hh) (qZj @Hi @He))) (qZj (qZj (qZj @Hf @We) (qZj @Hp @S2)) (qZj (qZj @S1 @zm) (qZj @Hs (qZj @gi @gT)))))) (qZj (qZj (qZj (qZj (qZj @HL @gj) (qZj @fL @HP)) (qZj (qZj @HO @HU) (qZj @HX @GU))) (qZj (qZj (qZj @GW @argsTm1) (qZj @argsTm2 @QF)) (qZj (qZj @QG @QH) (qZj @QI (qZj @QJ @ZR))))) (qZj (qZj (qZj (qZj @QK @QL) (qZj @ZS @QM)) (qZj (qZj @ZT @QN) (qZj @QO @QP))) (qZj (qZj (qZj @QQ @QR) (qZj @ZU @QS)) (qZj (qZj @Wd @Hg) (qZj @S0 (qZj @Hl @Wg))))))) (qZj (qZj (qZj (qZj (qZj (qZj @HS @HT) (qZj @HQ @HR)) (qZj (qZj @HV @HW) (qZj @argsTm3 @argsTm4))) (qZj (qZj (qZj @argsTm5 @zp) (qZj @zn @zo)) (qZj (qZj @J9 @JB) (qZj @J7 (qZj @J8 @Qq))))) (qZj (qZj (qZj (qZj @Qr @Qs) (qZj @Qt @Qu)) (qZj (qZj @Qv @Qw) (qZj @Qx @Qy))) (qZj (qZj (qZj @Hr @Hq) (qZj @Ho @Wh)) (qZj (qZj @Q7 @Q8) (qZj @Q5 (qZj @Hk @iI)))))) (qZj (qZj (qZj (qZj (qZj @iJ @B7) (qZj @B8 @B9)) (qZj (qZj @BA @BB) (qZj @Qz @Pu))) (qZj (qZj (qZj @Q0 @Q1) (qZj @ZN @Q2)) (qZj (qZj @Q3 @Q4) (qZj @ZO (qZj @Wf @ZP))))) (qZj (qZj (qZj (qZj @QT @ZV) (qZj @ZW @QU)) (qZj (qZj @ZX @Ht) (qZj @Hu @Hv))) (qZj (qZj (qZj @HM @HN) (qZj @GV @aQ)) (qZj (qZj @bp @HI) (qZj @HK (qZj @cq @cn))))))))
variable {f : Nat × Operand → Nat × VV}
section
variable {i : Nat} {a : Oper} {l : List Oper} {x : VV} {xs ys : List VV}
theorem QV : (a :: l)[i + 1]? = l[i]? := rfl
theorem QW : (a :: l)[0]? = some a := rfl
theorem QX : (x :: xs)[i + 1]? = xs[i]? := rfl
theorem QY : (x :: xs)[0]? = some x := rfl
theorem QZ {f : Oper → Option Tmp} : (some a).bind f = f a := rfl
theorem Ra {f : List VV → Option VV} : (some xs).bind f = f xs := rfl
theorem Rb {f : VV → VV} : (some x).map f = some (f x) := rfl
theorem Rd : (a :: l).length = l.length + 1 := rfl
theorem Re : ([] : List Oper).length = 0 := rfl
theorem Rf : (x :: xs).length = xs.length + 1 := rfl
theorem Rg : ([] : List VV).length = 0 := rfl
theorem Rh {f : Operand → VV} {o : Operand} {os : List Operand} : (o :: os).map f = f o :: os.map f := rfl
theorem Ri {f : Operand → VV} : ([] : List Operand).map f = [] := rfl
theorem Rj {o : Nat × Operand} {os : List (Nat × Operand)} : (o :: os).map f = f o :: os.map f := rfl
theorem Rk : ([] : List (Nat × Operand)).map f = [] := rfl
theorem Rm {f : VV → VV} : (x :: xs).map f = f x :: xs.map f := rfl
theorem Rn {f : VV → VV} : ([] : List VV).map f = [] := rfl
theorem cW : (x :: xs) ++ ys = x :: (xs ++ ys) := rfl
theorem cX : [] ++ ys = ys := rfl
theorem Ro : (x :: xs).drop (i + 1) = xs.drop i := rfl
theorem Rq : xs.drop 0 = xs := by simp
theorem Rr : (x :: xs).take (i + 1) = x :: xs.take i := rfl
theorem Rs : xs.take 0 = [] := by simp
theorem Rt {o : Vo} : (some o).isSome = true := rfl
theorem m_nil : (([] : List Nat) = []) = True := by simp
theorem m_ne {a : Bool} : (a ≠ b) = ¬ (a = b) := rfl
theorem m_neN {a b : Nat} : (a ≠ b) = ¬ (a = b) := rfl
end
def cr := (qZj (qZj (qZj (qZj (qZj @QV (qZj @QW @QX)) (qZj @QY (qZj @QZ @Ra))) (qZj (qZj @Rb (qZj @Rd @Re)) (qZj (qZj @Rf @Rg) (qZj @Rh @Ri)))) (qZj (qZj (qZj @Rj (qZj @Rk @Rm)) (qZj @Rn (qZj @cW @cX))) (qZj (qZj @Ro (qZj @Rq @Rr)) (qZj (qZj @Rs @Rt) (qZj @m_nil @m_ne))))) (qZj (qZj (qZj (qZj @m_neN (qZj @Nat.zero_add @not_true_eq_false)) (qZj @not_false_eq_true (qZj @false_implies @true_implies))) (qZj (qZj @true_and (qZj @and_true @false_and)) (qZj (qZj @and_false @Bool.false_eq_true) (qZj @Bool.true_eq_false @Bool.not_true)))) (qZj (qZj (qZj @Bool.not_false (qZj @Bool.and_self @decide_true)) (qZj (qZj @decide_false @Nat.add_assoc) (qZj @Nat.zero_mul @Nat.one_mul))) (qZj (qZj @Nat.zero_le (qZj @true_or @or_true)) (qZj (qZj @false_or @or_false) (qZj @not_true @not_false_iff))))))
def nrm := (qZj (qZj (qZj (qZj @Cm @U3) (qZj @U4 (qZj @QD @Ck))) (qZj (qZj @E4 @ZQ) (qZj @uk (qZj @uj @eI_ok.normL)))) (qZj (qZj (qZj @we.normL @eB_ok.normL) (qZj @eS_ok.normL (qZj @Q9 @QA))) (qZj (qZj @QB (qZj @QC @eI_ok.showL)) (qZj @we.showL (qZj @eB_ok.showL @eS_ok.showL)))))
def tre := (qZj (qZj (qZj @S1 @S2) (qZj @zm (qZj @zp @zn))) (qZj (qZj @zo (qZj @eI_ok.treeL @we.treeL)) (qZj @eB_ok.treeL (qZj @eS_ok.treeL @QE))))
end Go.V
end
