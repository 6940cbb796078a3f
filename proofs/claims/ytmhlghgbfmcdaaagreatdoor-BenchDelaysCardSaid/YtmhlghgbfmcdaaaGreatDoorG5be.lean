/- Part of a proof. -/
import Derived.Test.YtmhlghgbfmcdaaaGreatDoorG5bd
set_option linter.all false
section
namespace Go.V
open Go
set_option linter.defProp false
section
variable {P : Program} {G : Glob} {n : Nat} {γ : Nat} {tm : Nat → VV} {H : Nat → Option VObj} {nx : Nat} {df : List VDef} {K : St → Prop} {Kd : List Nat → List Nat → St → Prop} {Qp : VV → St → Prop}
 {d : Option Tmp} {ty : TypeId} {pos : String} {af : Array Edge} {g : Option (Nat × Bool)}
section
variable {a b : Prop} {x y : VV} {k : VV → Prop}
theorem O8 : guardK (.lit (.bool true)) true a b = a := by simp [guardK]
theorem O9 : guardK (.lit (.bool true)) false a b = b := by simp [guardK]
theorem OA : guardK (.lit (.bool false)) true a b = b := by simp [guardK]
theorem OB : guardK (.lit (.bool false)) false a b = a := by simp [guardK]
theorem OC {w : Bool} : guardK (.lit undef) w a b = b := rfl
theorem OD : pickK (.lit (.bool true)) x y k = k x := by simp [pickK]
theorem OE : pickK (.lit (.bool false)) x y k = k y := by simp [pickK]
theorem OF : condK (.lit (.bool true)) a b = a := by simp [condK]
theorem OG : condK (.lit (.bool false)) a b = b := by simp [condK]
end
theorem ll : leafL [] = true := rfl
theorem ln {x : VV} {xs : List VV} : leafL (x :: xs) = (x.leaf && leafL xs) := rfl
theorem C3 {k : IntKind} {i : Int} : (VV.lit (.int k i)).leaf = true := rfl
theorem C4 {b : Bool} : (VV.lit (.bool b)).leaf = true := rfl
theorem C5 {b : ByteArray} : (VV.lit (.string b)).leaf = true := rfl
theorem C6 {b : Option Addr} {l c : Nat} : (VV.lit (.slice b l c)).leaf = true := rfl
theorem C7 {cs : List VV} {k : Nat} {f : Bool} : (VV.sl cs k f).leaf = true := rfl
theorem OH {β o l e c : Nat} : (VV.ref β o l e c).leaf = true := rfl
theorem QG {cs : List VV} : aW (.agg cs) = if leafL cs = true then some cs else none := by simp only [aW, yC]
theorem vcells1 {x : VV} (h : x.leaf = true) : aW x = some [x] := by
 cases x <;> first | rfl | (simp [aW, h]; done) | cases h
theorem OI {k : IntKind} {i : Int} : aW (.lit (.int k i)) = some [.lit (.int k i)] := rfl
theorem Yl {b : Bool} : aW (.lit (.bool b)) = some [.lit (.bool b)] := rfl
theorem Ym {b : ByteArray} : aW (.lit (.string b)) = some [.lit (.string b)] := rfl
theorem OJ {b : Option Addr} {l c : Nat} : aW (.lit (.slice b l c)) = some [.lit (.slice b l c)] := rfl
theorem OK {cs : List VV} {k : Nat} {f : Bool} : aW (.sl cs k f) = some [.sl cs k f] := rfl
theorem OL {β o l e c : Nat} : aW (.ref β o l e c) = some [.ref β o l e c] := rfl
theorem Yn {cs xs : List VV} {off : Nat} : overwrite cs off xs = cs.take off ++ (xs ++ cs.drop (off + xs.length)) := by simp [overwrite, List.append_assoc]
def vzl (P : Program) (t : TypeId) : Option (List VV) := (vzero P t).map fun z => z.toList.map ofVal1
theorem Yo {t : TypeId} : aS P G γ ⟨d, .alloc t, ty, pos, af, g⟩ ⟨tm, H, nx, df⟩ K Qp = (match vzl P t with | some cs => fin d γ tm H nx df K (.ptr γ 0) (.new (.cells (some t) cs)) | none => False) := by
 rw [EB]; unfold vzl; cases vzero P t <;> rfl
theorem Yp {t : TypeId} : aL P G γ ⟨d, .alloc t, ty, pos, af, g⟩ ⟨tm, H, nx, df⟩ Kd = (match vzl P t with | some cs => fin d γ tm H nx df (Kd (rdV ⟨d, .alloc t, ty, pos, af, g⟩ (ev G tm)) [γ]) (.ptr γ 0) (.new (.cells (some t) cs)) | none => False) := by
 rw [Xk]; unfold vzl; cases vzero P t <;> rfl
def vstoreV (P : Program) (H : Nat → Option VObj) (t : TypeId) (a x : VV) : Option (VV × VEff) := match a with
  | .ptr β off => match H β, aW x, szT P t with
   | some (.cells el cs), some xs, some n => if xs.length = n ∧ off + n ≤ cs.length then some (.any, .upd β (.cells el (overwrite cs off xs))) else none
   | _, _, _ => none
  | _ => none
theorem Yq {t : TypeId} {a x : Operand} : aS P G γ ⟨d, .store t a x, ty, pos, af, g⟩ ⟨tm, H, nx, df⟩ K Qp = oeK (vstoreV P H t (ev G tm a) (ev G tm x)) (fun y e => fin d γ tm H nx df K y e) := by
 rw [EF]; rfl
theorem Yr {t : TypeId} {x : VV} {β off : Nat} : vstoreV P H t (.ptr β off) x = (match H β, aW x, szT P t with
   | some (.cells el cs), some xs, some n => if xs.length = n ∧ off + n ≤ cs.length then some (.any, .upd β (.cells el (overwrite cs off xs))) else none
   | _, _, _ => none) := rfl
end
def eI (n : Int) : List VV := [.lit (.int .i64 n)]
def rl (n : Int) : List VV := [.lit (.int .u8 n)]
def eB (b : Bool) : List VV := [.lit (.bool b)]
def eS (s : ByteArray) : List VV := [.lit (.string s)]
def eSl {α : Type} (enc : α → List VV) (xs : List α) : List VV := [.sl (ae enc xs) xs.length false]
theorem eI_eq {n : Int} : eI n = [.lit (.int .i64 n)] := rfl
theorem pK {n : Int} : rl n = [.lit (.int .u8 n)] := rfl
theorem eB_eq {b : Bool} : eB b = [.lit (.bool b)] := rfl
theorem eS_eq {s : ByteArray} : eS s = [.lit (.string s)] := rfl
theorem pL {α : Type} {enc : α → List VV} {xs : List α} : eSl enc xs = [.sl (ae enc xs) xs.length false] := rfl
structure EncOk {α : Type} (enc : α → List VV) : Prop where
 tree : ∀ x, treeL (enc x) = true
 norm : ∀ x, normL (enc x) = enc x
 shown : ∀ x H d, (enc x).map (showV H d) = enc x
theorem eI_ok : EncOk eI := ⟨fun _ => rfl, fun _ => rfl, fun _ _ d => by cases d <;> rfl⟩
theorem v5 : EncOk rl := ⟨fun _ => rfl, fun _ => rfl, fun _ _ d => by cases d <;> rfl⟩
theorem eB_ok : EncOk eB := ⟨fun _ => rfl, fun _ => rfl, fun _ _ d => by cases d <;> rfl⟩
theorem eS_ok : EncOk eS := ⟨fun _ => rfl, fun _ => rfl, fun _ _ d => by cases d <;> rfl⟩
section
variable {α : Type} {enc : α → List VV} (h : EncOk enc)
include h
theorem EncOk.treeL (xs : List α) : Go.V.treeL (ae enc xs) = true := GG h.tree xs
theorem EncOk.normL (xs : List α) : Go.V.normL (ae enc xs) = ae enc xs := GF h.norm xs
theorem EncOk.showL (xs : List α) (H : Nat → Option VObj) (d : Nat) : (ae enc xs).map (showV H d) = ae enc xs := Rv (fun x => h.shown x H d) xs
theorem EncOk.sl : EncOk (eSl enc) := ⟨fun x => by simp [eSl, Go.V.treeL, VV.tree, h.treeL], fun x => by simp [eSl, Go.V.normL, normV, h.normL], fun x H d => by cases d <;> rfl⟩
end
theorem EncOk.of {α : Type} {enc : α → List VV} (h1 : ∀ x, Go.V.treeL (enc x) = true) (h2 : ∀ x, Go.V.normL (enc x) = enc x) (h3 : ∀ x H d, (enc x).map (showV H d) = enc x) : EncOk enc := ⟨h1, h2, h3⟩
theorem OM {H : Nat → Option VObj} {d : Nat} {v : Value} : showV H d (.lit v) = .lit v := by cases d <;> rfl
theorem ON {H : Nat → Option VObj} {d n : Nat} {cs : List VV} {f : Bool} : showV H d (.sl cs n f) = .sl cs n f := by cases d <;> rfl
theorem gq {H : Nat → Option VObj} {d β off len es cp : Nat} : showV H (d + 1) (.ref β off len es cp) = (match H β with
   | some (.cells _ cs) => if off ≤ cs.length then .sl (((cs.drop off).take (len * es)).map (showV H d)) len false else .ref β off len es cp
   | _ => .ref β off len es cp) := rfl
theorem OO {H : Nat → Option VObj} {d : Nat} {cs : List VV} : showV H (d + 1) (.agg cs) = .agg (cs.map (showV H d)) := rfl
theorem OP {H : Nat → Option VObj} {d : Nat} {cs : List VV} : showV H (d + 1) (.tup cs) = .tup (cs.map (showV H d)) := rfl
theorem zg {cs : List VV} {n : Nat} {f : Bool} : normV (.sl cs n f) = .sl (normL cs) n false := by simp [normV]
theorem QJ : normV (.lit (.slice none 0 0)) = .sl [] 0 false := by simp [normV]
theorem QK {cs : List VV} : normV (.agg cs) = .agg (normL cs) := by simp [normV]
theorem OQ {cs : List VV} : normV (.tup cs) = .tup (normL cs) := by simp [normV]
theorem QH {k : IntKind} {n : Int} : normV (.lit (.int k n)) = .lit (.int k n) := by simp [normV]
theorem IX {b : Bool} : normV (.lit (.bool b)) = .lit (.bool b) := by simp [normV]
theorem Ys {b : ByteArray} : normV (.lit (.string b)) = .lit (.string b) := by simp [normV]
theorem sY : normL [] = [] := rfl
theorem sX {x : VV} {xs : List VV} : normL (x :: xs) = normV x :: normL xs := by simp [normL]
theorem OR : VV.tree .any = true := rfl
def vs := (And.intro (And.intro (And.intro (And.intro (And.intro (And.intro (And.intro @EP @EX) (And.intro @EU @ES)) (And.intro (And.intro @EW @EV) (And.intro @ET @EY))) (And.intro (And.intro (And.intro @Fa @EZ) (And.intro @T3 @PF)) (And.intro (And.intro @Fc @EN) (And.intro @EO @Ey)))) (And.intro (And.intro (And.intro (And.intro @E3 @E2) (And.intro @T5 @E4)) (And.intro (And.intro @E5 @E9) (And.intro @EA @E6))) (And.intro (And.intro (And.intro @E7 @Ty) (And.intro @EH @PE)) (And.intro (And.intro @PD @xS) (And.intro @EJ (And.intro @sq @su)))))) (And.intro (And.intro (And.intro (And.intro (And.intro @Fe @sv) (And.intro @qX @Fh)) (And.intro (And.intro @Fg @Fm) (And.intro @Fq @Ez))) (And.intro (And.intro (And.intro @E1 @argsTm1) (And.intro @argsTm2 @NR)) (And.intro (And.intro @NQ @Xu) (And.intro @ND (And.intro @NF @Xh))))) (And.intro (And.intro (And.intro (And.intro @NG @NH) (And.intro @Xi @NI)) (And.intro (And.intro @Xj @NJ) (And.intro @NK @NL))) (And.intro (And.intro (And.intro @NM @NO) (And.intro @Xm @NP)) (And.intro (And.intro @Tx @E8) (And.intro @PC (And.intro @ED @T0))))))) (And.intro (And.intro (And.intro (And.intro (And.intro (And.intro @Fk @Fl) (And.intro @Fi @Fj)) (And.intro (And.intro @Fo @Fp) (And.intro @argsTm3 @argsTm4))) (And.intro (And.intro (And.intro @argsTm5 @xV) (And.intro @xT @xU)) (And.intro (And.intro @GB @Ux) (And.intro @G9 (And.intro @GA @O8))))) (And.intro (And.intro (And.intro (And.intro @O9 @OA) (And.intro @OB @OC)) (And.intro (And.intro @OD @OE) (And.intro @OF @OG))) (And.intro (And.intro (And.intro @EI @T2) (And.intro @EG @T1)) (And.intro (And.intro @Yq @Yr) (And.intro @Yo (And.intro @EC @ll)))))) (And.intro (And.intro (And.intro (And.intro (And.intro @ln @C3) (And.intro @C4 @C5)) (And.intro (And.intro @C6 @C7) (And.intro @OH @QG))) (And.intro (And.intro (And.intro @OI @Yl) (And.intro @Ym @OJ)) (And.intro (And.intro @OK @OL) (And.intro @Yn (And.intro @Tz @Yp))))) (And.intro (And.intro (And.intro (And.intro @NN @Xl) (And.intro @Xp @Xn)) (And.intro (And.intro @Xo @EK) (And.intro @EL @EM))) (And.intro (And.intro (And.intro @Ff @T6) (And.intro @E0 @bc)) (And.intro (And.intro @bm @Fb) (And.intro @T4 (And.intro @ck @cj))))))))
section
variable {i : Nat} {a : Oper} {l : List Oper} {x : VV} {xs ys : List VV}
theorem OS : (a :: l)[i + 1]? = l[i]? := rfl
theorem OT : (a :: l)[0]? = some a := rfl
theorem OU : (x :: xs)[i + 1]? = xs[i]? := rfl
theorem OV : (x :: xs)[0]? = some x := rfl
theorem OW {f : Oper → Option Tmp} : (some a).bind f = f a := rfl
theorem OX {f : List VV → Option VV} : (some xs).bind f = f xs := rfl
theorem OY {f : VV → VV} : (some x).map f = some (f x) := rfl
theorem OZ : (a :: l).length = l.length + 1 := rfl
theorem Pa : ([] : List Oper).length = 0 := rfl
theorem Pb : (x :: xs).length = xs.length + 1 := rfl
theorem Pc : ([] : List VV).length = 0 := rfl
theorem Pd {f : Operand → VV} {o : Operand} {os : List Operand} : (o :: os).map f = f o :: os.map f := rfl
theorem Pe {f : Operand → VV} : ([] : List Operand).map f = [] := rfl
theorem Pf {f : Nat × Operand → Nat × VV} {o : Nat × Operand} {os : List (Nat × Operand)} : (o :: os).map f = f o :: os.map f := rfl
theorem Pg {f : Nat × Operand → Nat × VV} : ([] : List (Nat × Operand)).map f = [] := rfl
theorem Ph {f : VV → VV} : (x :: xs).map f = f x :: xs.map f := rfl
theorem Pj {f : VV → VV} : ([] : List VV).map f = [] := rfl
theorem gd : (x :: xs) ++ ys = x :: (xs ++ ys) := rfl
theorem gf : [] ++ ys = ys := rfl
theorem Pk : (x :: xs).drop (i + 1) = xs.drop i := rfl
theorem Pl : xs.drop 0 = xs := by simp
theorem Pm : (x :: xs).take (i + 1) = x :: xs.take i := rfl
theorem Pn : xs.take 0 = [] := by simp
theorem Po {o : VObj} : (some o).isSome = true := rfl
theorem m_nil : (([] : List Nat) = []) = True := by simp
theorem m_ne {a b : Bool} : (a ≠ b) = ¬ (a = b) := rfl
theorem m_neN {a b : Nat} : (a ≠ b) = ¬ (a = b) := rfl
end
def cr := (And.intro (And.intro (And.intro (And.intro (And.intro @OS (And.intro @OT @OU)) (And.intro @OV (And.intro @OW @OX))) (And.intro (And.intro @OY (And.intro @OZ @Pa)) (And.intro (And.intro @Pb @Pc) (And.intro @Pd @Pe)))) (And.intro (And.intro (And.intro @Pf (And.intro @Pg @Ph)) (And.intro @Pj (And.intro @gd @gf))) (And.intro (And.intro @Pk (And.intro @Pl @Pm)) (And.intro (And.intro @Pn @Po) (And.intro @m_nil @m_ne))))) (And.intro (And.intro (And.intro (And.intro @m_neN (And.intro @Nat.zero_add @not_true_eq_false)) (And.intro @not_false_eq_true (And.intro @false_implies @true_implies))) (And.intro (And.intro @true_and (And.intro @and_true @false_and)) (And.intro (And.intro @and_false @Bool.false_eq_true) (And.intro @Bool.true_eq_false @Bool.not_true)))) (And.intro (And.intro (And.intro @Bool.not_false (And.intro @Bool.and_self @decide_true)) (And.intro (And.intro @decide_false @Nat.add_assoc) (And.intro @Nat.zero_mul @Nat.one_mul))) (And.intro (And.intro @Nat.zero_le (And.intro @true_or @or_true)) (And.intro (And.intro @false_or @or_false) (And.intro @not_true @not_false_iff))))))
def nrm := (And.intro (And.intro (And.intro (And.intro @zg @QJ) (And.intro @QK (And.intro @OQ @QH))) (And.intro (And.intro @IX @Ys) (And.intro @sY (And.intro @sX @eI_ok.normL)))) (And.intro (And.intro (And.intro @v5.normL @eB_ok.normL) (And.intro @eS_ok.normL (And.intro @OM @ON))) (And.intro (And.intro @OO (And.intro @OP @eI_ok.showL)) (And.intro @v5.showL (And.intro @eB_ok.showL @eS_ok.showL)))))
def tre := (And.intro (And.intro (And.intro @PD @PE) (And.intro @xS (And.intro @xV @xT))) (And.intro (And.intro @xU (And.intro @eI_ok.treeL @v5.treeL)) (And.intro @eB_ok.treeL (And.intro @eS_ok.treeL @OR))))
end Go.V
end
