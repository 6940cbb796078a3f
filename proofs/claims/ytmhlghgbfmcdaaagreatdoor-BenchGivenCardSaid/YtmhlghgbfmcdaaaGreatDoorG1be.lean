/- Part of a proof. -/
import Derived.Test.YtmhlghgbfmcdaaaGreatDoorG1bd
set_option linter.all false
section
namespace Go.V
open Go
set_option linter.defProp false
section
variable {P : Program} {G : Glob} {n : Nat} {γ : Nat} {tm : Nat → VV} {H : Nat → Option VObj} {nx : Nat} {df : List VDef} {K : St → Prop} {Kd : List Nat → List Nat → St → Prop} {Qp : VV → St → Prop}
 {d : Option Tmp} {ty : TypeId} {pos : String} {af : Array Edge} {g : Option (Nat × Bool)}
section
variable {a b : Prop} {x y : VV} {k : VV → Prop}
theorem EU : guardK (.lit (.bool true)) true a b = a := by simp [guardK]
theorem EV : guardK (.lit (.bool true)) false a b = b := by simp [guardK]
theorem EW : guardK (.lit (.bool false)) true a b = b := by simp [guardK]
theorem EX : guardK (.lit (.bool false)) false a b = a := by simp [guardK]
theorem EY {w : Bool} : guardK (.lit undef) w a b = b := rfl
theorem EZ : pickK (.lit (.bool true)) x y k = k x := by simp [pickK]
theorem Fa : pickK (.lit (.bool false)) x y k = k y := by simp [pickK]
theorem Fb : condK (.lit (.bool true)) a b = a := by simp [condK]
theorem Fc : condK (.lit (.bool false)) a b = b := by simp [condK]
end
theorem dT : leafL [] = true := rfl
theorem dU {x : VV} {xs : List VV} : leafL (x :: xs) = (x.leaf && leafL xs) := rfl
theorem wE {k : IntKind} {i : Int} : (VV.lit (.int k i)).leaf = true := rfl
theorem wF {b : Bool} : (VV.lit (.bool b)).leaf = true := rfl
theorem wG {b : ByteArray} : (VV.lit (.string b)).leaf = true := rfl
theorem wH {b : Option Addr} {l c : Nat} : (VV.lit (.slice b l c)).leaf = true := rfl
theorem lK {cs : List VV} {k : Nat} {f : Bool} : (VV.sl cs k f).leaf = true := rfl
theorem Fe {β o l e c : Nat} : (VV.ref β o l e c).leaf = true := rfl
theorem HT {cs : List VV} : aQ (.agg cs) = if leafL cs = true then some cs else none := by simp only [aQ, pr]
theorem vcells1 {x : VV} (h : x.leaf = true) : aQ x = some [x] := by
 cases x <;> first | rfl | (simp [aQ, h]; done) | cases h
theorem Ff {k : IntKind} {i : Int} : aQ (.lit (.int k i)) = some [.lit (.int k i)] := rfl
theorem P5 {b : Bool} : aQ (.lit (.bool b)) = some [.lit (.bool b)] := rfl
theorem P6 {b : ByteArray} : aQ (.lit (.string b)) = some [.lit (.string b)] := rfl
theorem Fg {b : Option Addr} {l c : Nat} : aQ (.lit (.slice b l c)) = some [.lit (.slice b l c)] := rfl
theorem Fh {cs : List VV} {k : Nat} {f : Bool} : aQ (.sl cs k f) = some [.sl cs k f] := rfl
theorem P7 {β o l e c : Nat} : aQ (.ref β o l e c) = some [.ref β o l e c] := rfl
theorem P8 {cs xs : List VV} {off : Nat} : overwrite cs off xs = cs.take off ++ (xs ++ cs.drop (off + xs.length)) := by simp [overwrite, List.append_assoc]
def vzl (P : Program) (t : TypeId) : Option (List VV) := (vzero P t).map fun z => z.toList.map ofVal1
theorem P9 {t : TypeId} : aM P G γ ⟨d, .alloc t, ty, pos, af, g⟩ ⟨tm, H, nx, df⟩ K Qp = (match vzl P t with | some cs => fin d γ tm H nx df K (.ptr γ 0) (.new (.cells (some t) cs)) | none => False) := by
 rw [O4]; unfold vzl; cases vzero P t <;> rfl
theorem PA {t : TypeId} : aF P G γ ⟨d, .alloc t, ty, pos, af, g⟩ ⟨tm, H, nx, df⟩ Kd = (match vzl P t with | some cs => fin d γ tm H nx df (Kd (rdV ⟨d, .alloc t, ty, pos, af, g⟩ (ev G tm)) [γ]) (.ptr γ 0) (.new (.cells (some t) cs)) | none => False) := by
 rw [PB]; unfold vzl; cases vzero P t <;> rfl
def vstoreV (P : Program) (H : Nat → Option VObj) (t : TypeId) (a x : VV) : Option (VV × VEff) := match a with
  | .ptr β off => match H β, aQ x, szT P t with
   | some (.cells el cs), some xs, some n => if xs.length = n ∧ off + n ≤ cs.length then some (.any, .upd β (.cells el (overwrite cs off xs))) else none
   | _, _, _ => none
  | _ => none
theorem PC {t : TypeId} {a x : Operand} : aM P G γ ⟨d, .store t a x, ty, pos, af, g⟩ ⟨tm, H, nx, df⟩ K Qp = oeK (vstoreV P H t (ev G tm a) (ev G tm x)) (fun y e => fin d γ tm H nx df K y e) := by
 rw [CK]; rfl
theorem PD {t : TypeId} {x : VV} {β off : Nat} : vstoreV P H t (.ptr β off) x = (match H β, aQ x, szT P t with
   | some (.cells el cs), some xs, some n => if xs.length = n ∧ off + n ≤ cs.length then some (.any, .upd β (.cells el (overwrite cs off xs))) else none
   | _, _, _ => none) := rfl
end
def eI (n : Int) : List VV := [.lit (.int .i64 n)]
def ku (n : Int) : List VV := [.lit (.int .u8 n)]
def eB (b : Bool) : List VV := [.lit (.bool b)]
def eS (s : ByteArray) : List VV := [.lit (.string s)]
def eSl {α : Type} (enc : α → List VV) (xs : List α) : List VV := [.sl (ae enc xs) xs.length false]
theorem eI_eq {n : Int} : eI n = [.lit (.int .i64 n)] := rfl
theorem lI {n : Int} : ku n = [.lit (.int .u8 n)] := rfl
theorem eB_eq {b : Bool} : eB b = [.lit (.bool b)] := rfl
theorem eS_eq {s : ByteArray} : eS s = [.lit (.string s)] := rfl
theorem lJ {α : Type} {enc : α → List VV} {xs : List α} : eSl enc xs = [.sl (ae enc xs) xs.length false] := rfl
structure EncOk {α : Type} (enc : α → List VV) : Prop where
 tree : ∀ x, treeL (enc x) = true
 norm : ∀ x, normL (enc x) = enc x
 shown : ∀ x H d, (enc x).map (showV H d) = enc x
theorem eI_ok : EncOk eI := ⟨fun _ => rfl, fun _ => rfl, fun _ _ d => by cases d <;> rfl⟩
theorem ny : EncOk ku := ⟨fun _ => rfl, fun _ => rfl, fun _ _ d => by cases d <;> rfl⟩
theorem eB_ok : EncOk eB := ⟨fun _ => rfl, fun _ => rfl, fun _ _ d => by cases d <;> rfl⟩
theorem eS_ok : EncOk eS := ⟨fun _ => rfl, fun _ => rfl, fun _ _ d => by cases d <;> rfl⟩
section
variable {α : Type} {enc : α → List VV} (h : EncOk enc)
include h
theorem EncOk.treeL (xs : List α) : Go.V.treeL (ae enc xs) = true := Bs h.tree xs
theorem EncOk.normL (xs : List α) : Go.V.normL (ae enc xs) = ae enc xs := Bt h.norm xs
theorem EncOk.showL (xs : List α) (H : Nat → Option VObj) (d : Nat) : (ae enc xs).map (showV H d) = ae enc xs := IV (fun x => h.shown x H d) xs
theorem EncOk.sl : EncOk (eSl enc) := ⟨fun x => by simp [eSl, Go.V.treeL, VV.tree, h.treeL], fun x => by simp [eSl, Go.V.normL, normV, h.normL], fun x H d => by cases d <;> rfl⟩
end
theorem EncOk.of {α : Type} {enc : α → List VV} (h1 : ∀ x, Go.V.treeL (enc x) = true) (h2 : ∀ x, Go.V.normL (enc x) = enc x) (h3 : ∀ x H d, (enc x).map (showV H d) = enc x) : EncOk enc := ⟨h1, h2, h3⟩
theorem Fi {H : Nat → Option VObj} {d : Nat} {v : Value} : showV H d (.lit v) = .lit v := by cases d <;> rfl
theorem Fj {H : Nat → Option VObj} {d n : Nat} {cs : List VV} {f : Bool} : showV H d (.sl cs n f) = .sl cs n f := by cases d <;> rfl
theorem ej {H : Nat → Option VObj} {d β off len es cp : Nat} : showV H (d + 1) (.ref β off len es cp) = (match H β with
   | some (.cells _ cs) => if off ≤ cs.length then .sl (((cs.drop off).take (len * es)).map (showV H d)) len false else .ref β off len es cp
   | _ => .ref β off len es cp) := rfl
theorem Fk {H : Nat → Option VObj} {d : Nat} {cs : List VV} : showV H (d + 1) (.agg cs) = .agg (cs.map (showV H d)) := rfl
theorem Fl {H : Nat → Option VObj} {d : Nat} {cs : List VV} : showV H (d + 1) (.tup cs) = .tup (cs.map (showV H d)) := rfl
theorem qK {cs : List VV} {n : Nat} {f : Bool} : normV (.sl cs n f) = .sl (normL cs) n false := by simp [normV]
theorem HX : normV (.lit (.slice none 0 0)) = .sl [] 0 false := by simp [normV]
theorem HY {cs : List VV} : normV (.agg cs) = .agg (normL cs) := by simp [normV]
theorem Fm {cs : List VV} : normV (.tup cs) = .tup (normL cs) := by simp [normV]
theorem HV {k : IntKind} {n : Int} : normV (.lit (.int k n)) = .lit (.int k n) := by simp [normV]
theorem yF {b : Bool} : normV (.lit (.bool b)) = .lit (.bool b) := by simp [normV]
theorem PE {b : ByteArray} : normV (.lit (.string b)) = .lit (.string b) := by simp [normV]
theorem lV : normL [] = [] := rfl
theorem lU {x : VV} {xs : List VV} : normL (x :: xs) = normV x :: normL xs := by simp [normL]
theorem Fo : VV.tree .any = true := rfl
def vs := (And.intro (And.intro (And.intro (And.intro (And.intro (And.intro (And.intro @CW @Dc) (And.intro @CZ @CX)) (And.intro (And.intro @Db @Da) (And.intro @CY @O9))) (And.intro (And.intro (And.intro @De @Dd) (And.intro @OB @Dg)) (And.intro (And.intro @Df @CU) (And.intro @CV @C6)))) (And.intro (And.intro (And.intro (And.intro @CB @CA) (And.intro @OD @CD)) (And.intro (And.intro @O0 @CG) (And.intro @CH @CE))) (And.intro (And.intro (And.intro @CF @O3) (And.intro @CM @yU)) (And.intro (And.intro @Jl @yW) (And.intro @CP (And.intro @iJ @mY)))))) (And.intro (And.intro (And.intro (And.intro (And.intro @Dh @so) (And.intro @pj @Dk)) (And.intro (And.intro @Dj @Dq) (And.intro @Dt @C7))) (And.intro (And.intro (And.intro @C9 @argsTm1) (And.intro @argsTm2 @PF)) (And.intro (And.intro @Fp @PG) (And.intro @Fq (And.intro @Fs @PH))))) (And.intro (And.intro (And.intro (And.intro @Ft @Fu) (And.intro @PI @PJ)) (And.intro (And.intro @PK @PL) (And.intro @Fv @Fx))) (And.intro (And.intro (And.intro @PM @Fy) (And.intro @PN @Fz)) (And.intro (And.intro @O1 @O2) (And.intro @IJ (And.intro @CJ @O6))))))) (And.intro (And.intro (And.intro (And.intro (And.intro (And.intro @Dn @Dp) (And.intro @Dl @Dm)) (And.intro (And.intro @Dr @Ds) (And.intro @argsTm3 @argsTm4))) (And.intro (And.intro (And.intro @argsTm5 @sn) (And.intro @sm @Jm)) (And.intro (And.intro @OZ @Pa) (And.intro @DF (And.intro @DG @EU))))) (And.intro (And.intro (And.intro (And.intro @EV @EW) (And.intro @EX @EY)) (And.intro (And.intro @EZ @Fa) (And.intro @Fb @Fc))) (And.intro (And.intro (And.intro @CN @O8) (And.intro @CL @O7)) (And.intro (And.intro @PC @PD) (And.intro @P9 (And.intro @CI @dT)))))) (And.intro (And.intro (And.intro (And.intro (And.intro @dU @wE) (And.intro @wF @wG)) (And.intro (And.intro @wH @lK) (And.intro @Fe @HT))) (And.intro (And.intro (And.intro @Ff @P5) (And.intro @P6 @Fg)) (And.intro (And.intro @Fh @P7) (And.intro @P8 (And.intro @O5 @PA))))) (And.intro (And.intro (And.intro (And.intro @F0 @PO) (And.intro @PQ @PR)) (And.intro (And.intro @PS @CQ) (And.intro @CS @CT))) (And.intro (And.intro (And.intro @Di @OE) (And.intro @C8 @aX)) (And.intro (And.intro @b2 @OA) (And.intro @OC (And.intro @bY @bX))))))))
section
variable {i : Nat} {a : Oper} {l : List Oper} {x : VV} {xs ys : List VV}
theorem F1 : (a :: l)[i + 1]? = l[i]? := rfl
theorem F2 : (a :: l)[0]? = some a := rfl
theorem F3 : (x :: xs)[i + 1]? = xs[i]? := rfl
theorem F4 : (x :: xs)[0]? = some x := rfl
theorem F5 {f : Oper → Option Tmp} : (some a).bind f = f a := rfl
theorem F6 {f : List VV → Option VV} : (some xs).bind f = f xs := rfl
theorem F7 {f : VV → VV} : (some x).map f = some (f x) := rfl
theorem F8 : (a :: l).length = l.length + 1 := rfl
theorem F9 : ([] : List Oper).length = 0 := rfl
theorem FA : (x :: xs).length = xs.length + 1 := rfl
theorem FB : ([] : List VV).length = 0 := rfl
theorem FC {f : Operand → VV} {o : Operand} {os : List Operand} : (o :: os).map f = f o :: os.map f := rfl
theorem FD {f : Operand → VV} : ([] : List Operand).map f = [] := rfl
theorem FE {f : Nat × Operand → Nat × VV} {o : Nat × Operand} {os : List (Nat × Operand)} : (o :: os).map f = f o :: os.map f := rfl
theorem FG {f : Nat × Operand → Nat × VV} : ([] : List (Nat × Operand)).map f = [] := rfl
theorem FH {f : VV → VV} : (x :: xs).map f = f x :: xs.map f := rfl
theorem FI {f : VV → VV} : ([] : List VV).map f = [] := rfl
theorem gJ : (x :: xs) ++ ys = x :: (xs ++ ys) := rfl
theorem gL : [] ++ ys = ys := rfl
theorem FJ : (x :: xs).drop (i + 1) = xs.drop i := rfl
theorem FK : xs.drop 0 = xs := by simp
theorem FL : (x :: xs).take (i + 1) = x :: xs.take i := rfl
theorem FM : xs.take 0 = [] := by simp
theorem FN {o : VObj} : (some o).isSome = true := rfl
theorem m_nil : (([] : List Nat) = []) = True := by simp
theorem m_ne {a b : Bool} : (a ≠ b) = ¬ (a = b) := rfl
theorem m_neN {a b : Nat} : (a ≠ b) = ¬ (a = b) := rfl
end
def cr := (And.intro (And.intro (And.intro (And.intro (And.intro @F1 (And.intro @F2 @F3)) (And.intro @F4 (And.intro @F5 @F6))) (And.intro (And.intro @F7 (And.intro @F8 @F9)) (And.intro (And.intro @FA @FB) (And.intro @FC @FD)))) (And.intro (And.intro (And.intro @FE (And.intro @FG @FH)) (And.intro @FI (And.intro @gJ @gL))) (And.intro (And.intro @FJ (And.intro @FK @FL)) (And.intro (And.intro @FM @FN) (And.intro @m_nil @m_ne))))) (And.intro (And.intro (And.intro (And.intro @m_neN (And.intro @Nat.zero_add @not_true_eq_false)) (And.intro @not_false_eq_true (And.intro @false_implies @true_implies))) (And.intro (And.intro @true_and (And.intro @and_true @false_and)) (And.intro (And.intro @and_false @Bool.false_eq_true) (And.intro @Bool.true_eq_false @Bool.not_true)))) (And.intro (And.intro (And.intro @Bool.not_false (And.intro @Bool.and_self @decide_true)) (And.intro (And.intro @decide_false @Nat.add_assoc) (And.intro @Nat.zero_mul @Nat.one_mul))) (And.intro (And.intro @Nat.zero_le (And.intro @true_or @or_true)) (And.intro (And.intro @false_or @or_false) (And.intro @not_true @not_false_iff))))))
def nrm := (And.intro (And.intro (And.intro (And.intro @qK @HX) (And.intro @HY (And.intro @Fm @HV))) (And.intro (And.intro @yF @PE) (And.intro @lV (And.intro @lU @eI_ok.normL)))) (And.intro (And.intro (And.intro @ny.normL @eB_ok.normL) (And.intro @eS_ok.normL (And.intro @Fi @Fj))) (And.intro (And.intro @Fk (And.intro @Fl @eI_ok.showL)) (And.intro @ny.showL (And.intro @eB_ok.showL @eS_ok.showL)))))
def tre := (And.intro (And.intro (And.intro @Jl @yU) (And.intro @yW (And.intro @sn @sm))) (And.intro (And.intro @Jm (And.intro @eI_ok.treeL @ny.treeL)) (And.intro @eB_ok.treeL (And.intro @eS_ok.treeL @Fo))))
end Go.V
end
