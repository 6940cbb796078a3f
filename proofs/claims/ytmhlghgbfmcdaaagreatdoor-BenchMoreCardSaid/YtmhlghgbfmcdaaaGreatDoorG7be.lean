/- Part of a proof. -/
import Derived.Test.YtmhlghgbfmcdaaaGreatDoorG7bd
set_option linter.all false
section
namespace Go.V
open Go
set_option linter.defProp false
section
variable {P : Program} {G : Glob} {n : Nat} {γ : Nat} {tm : Nat → VV} {H : Nat → Option VObj} {nx : Nat} {df : List VDef} {K : St → Prop} {Kd : List Nat → List Nat → St → Prop} {Qp : VV → St → Prop}
 {d : Option Tmp} {ty : TypeId} {pos : String} {af : Array Edge} {g : Option (Nat × Bool)}
section
variable {a b : Prop} {x y : VV} {k : VV → Prop}
theorem C6 : guardK (.lit (.bool true)) true a b = a := by simp [guardK]
theorem C7 : guardK (.lit (.bool true)) false a b = b := by simp [guardK]
theorem C8 : guardK (.lit (.bool false)) true a b = b := by simp [guardK]
theorem C9 : guardK (.lit (.bool false)) false a b = a := by simp [guardK]
theorem CA {w : Bool} : guardK (.lit undef) w a b = b := rfl
theorem CB : pickK (.lit (.bool true)) x y k = k x := by simp [pickK]
theorem CD : pickK (.lit (.bool false)) x y k = k y := by simp [pickK]
theorem CE : condK (.lit (.bool true)) a b = a := by simp [condK]
theorem CF : condK (.lit (.bool false)) a b = b := by simp [condK]
end
theorem j1 : leafL [] = true := rfl
theorem j2 {x : VV} {xs : List VV} : leafL (x :: xs) = (x.leaf && leafL xs) := rfl
theorem wW {k : IntKind} {i : Int} : (VV.lit (.int k i)).leaf = true := rfl
theorem wX {b : Bool} : (VV.lit (.bool b)).leaf = true := rfl
theorem wY {b : ByteArray} : (VV.lit (.string b)).leaf = true := rfl
theorem wZ {b : Option Addr} {l c : Nat} : (VV.lit (.slice b l c)).leaf = true := rfl
theorem xa {cs : List VV} {k : Nat} {f : Bool} : (VV.sl cs k f).leaf = true := rfl
theorem CG {β o l e c : Nat} : (VV.ref β o l e c).leaf = true := rfl
theorem KI {cs : List VV} : aR (.agg cs) = if leafL cs = true then some cs else none := by simp only [aR, qF]
theorem vcells1 {x : VV} (h : x.leaf = true) : aR x = some [x] := by
 cases x <;> first | rfl | (simp [aR, h]; done) | cases h
theorem CH {k : IntKind} {i : Int} : aR (.lit (.int k i)) = some [.lit (.int k i)] := rfl
theorem Pt {b : Bool} : aR (.lit (.bool b)) = some [.lit (.bool b)] := rfl
theorem Pu {b : ByteArray} : aR (.lit (.string b)) = some [.lit (.string b)] := rfl
theorem CI {b : Option Addr} {l c : Nat} : aR (.lit (.slice b l c)) = some [.lit (.slice b l c)] := rfl
theorem CJ {cs : List VV} {k : Nat} {f : Bool} : aR (.sl cs k f) = some [.sl cs k f] := rfl
theorem CK {β o l e c : Nat} : aR (.ref β o l e c) = some [.ref β o l e c] := rfl
theorem Pv {cs xs : List VV} {off : Nat} : overwrite cs off xs = cs.take off ++ (xs ++ cs.drop (off + xs.length)) := by simp [overwrite, List.append_assoc]
def vzl (P : Program) (t : TypeId) : Option (List VV) := (vzero P t).map fun z => z.toList.map ofVal1
theorem Pw {t : TypeId} : aK P G γ ⟨d, .alloc t, ty, pos, af, g⟩ ⟨tm, H, nx, df⟩ K Qp = (match vzl P t with | some cs => fin d γ tm H nx df K (.ptr γ 0) (.new (.cells (some t) cs)) | none => False) := by
 rw [Px]; unfold vzl; cases vzero P t <;> rfl
theorem Py {t : TypeId} : aF P G γ ⟨d, .alloc t, ty, pos, af, g⟩ ⟨tm, H, nx, df⟩ Kd = (match vzl P t with | some cs => fin d γ tm H nx df (Kd (rdV ⟨d, .alloc t, ty, pos, af, g⟩ (ev G tm)) [γ]) (.ptr γ 0) (.new (.cells (some t) cs)) | none => False) := by
 rw [Pz]; unfold vzl; cases vzero P t <;> rfl
def vstoreV (P : Program) (H : Nat → Option VObj) (t : TypeId) (a x : VV) : Option (VV × VEff) := match a with
  | .ptr β off => match H β, aR x, szT P t with
   | some (.cells el cs), some xs, some n => if xs.length = n ∧ off + n ≤ cs.length then some (.any, .upd β (.cells el (overwrite cs off xs))) else none
   | _, _, _ => none
  | _ => none
theorem P0 {t : TypeId} {a x : Operand} : aK P G γ ⟨d, .store t a x, ty, pos, af, g⟩ ⟨tm, H, nx, df⟩ K Qp = oeK (vstoreV P H t (ev G tm a) (ev G tm x)) (fun y e => fin d γ tm H nx df K y e) := by
 rw [P1]; rfl
theorem P2 {t : TypeId} {x : VV} {β off : Nat} : vstoreV P H t (.ptr β off) x = (match H β, aR x, szT P t with
   | some (.cells el cs), some xs, some n => if xs.length = n ∧ off + n ≤ cs.length then some (.any, .upd β (.cells el (overwrite cs off xs))) else none
   | _, _, _ => none) := rfl
end
def eI (n : Int) : List VV := [.lit (.int .i64 n)]
def m6 (n : Int) : List VV := [.lit (.int .u8 n)]
def eB (b : Bool) : List VV := [.lit (.bool b)]
def eS (s : ByteArray) : List VV := [.lit (.string s)]
def eSl {α : Type} (enc : α → List VV) (xs : List α) : List VV := [.sl (ae enc xs) xs.length false]
theorem eI_eq {n : Int} : eI n = [.lit (.int .i64 n)] := rfl
theorem m7 {n : Int} : m6 n = [.lit (.int .u8 n)] := rfl
theorem eB_eq {b : Bool} : eB b = [.lit (.bool b)] := rfl
theorem eS_eq {s : ByteArray} : eS s = [.lit (.string s)] := rfl
theorem m8 {α : Type} {enc : α → List VV} {xs : List α} : eSl enc xs = [.sl (ae enc xs) xs.length false] := rfl
structure EncOk {α : Type} (enc : α → List VV) : Prop where
 tree : ∀ x, treeL (enc x) = true
 norm : ∀ x, normL (enc x) = enc x
 shown : ∀ x H d, (enc x).map (showV H d) = enc x
theorem eI_ok : EncOk eI := ⟨fun _ => rfl, fun _ => rfl, fun _ _ d => by cases d <;> rfl⟩
theorem pA : EncOk m6 := ⟨fun _ => rfl, fun _ => rfl, fun _ _ d => by cases d <;> rfl⟩
theorem eB_ok : EncOk eB := ⟨fun _ => rfl, fun _ => rfl, fun _ _ d => by cases d <;> rfl⟩
theorem eS_ok : EncOk eS := ⟨fun _ => rfl, fun _ => rfl, fun _ _ d => by cases d <;> rfl⟩
section
variable {α : Type} {enc : α → List VV} (h : EncOk enc)
include h
theorem EncOk.treeL (xs : List α) : Go.V.treeL (ae enc xs) = true := AP h.tree xs
theorem EncOk.normL (xs : List α) : Go.V.normL (ae enc xs) = ae enc xs := AO h.norm xs
theorem EncOk.showL (xs : List α) (H : Nat → Option VObj) (d : Nat) : (ae enc xs).map (showV H d) = ae enc xs := KJ (fun x => h.shown x H d) xs
theorem EncOk.sl : EncOk (eSl enc) := ⟨fun x => by simp [eSl, Go.V.treeL, VV.tree, h.treeL], fun x => by simp [eSl, Go.V.normL, normV, h.normL], fun x H d => by cases d <;> rfl⟩
end
theorem EncOk.of {α : Type} {enc : α → List VV} (h1 : ∀ x, Go.V.treeL (enc x) = true) (h2 : ∀ x, Go.V.normL (enc x) = enc x) (h3 : ∀ x H d, (enc x).map (showV H d) = enc x) : EncOk enc := ⟨h1, h2, h3⟩
theorem CL {H : Nat → Option VObj} {d : Nat} {v : Value} : showV H d (.lit v) = .lit v := by cases d <;> rfl
theorem CM {H : Nat → Option VObj} {d n : Nat} {cs : List VV} {f : Bool} : showV H d (.sl cs n f) = .sl cs n f := by cases d <;> rfl
theorem jO {H : Nat → Option VObj} {d β off len es cp : Nat} : showV H (d + 1) (.ref β off len es cp) = (match H β with
   | some (.cells _ cs) => if off ≤ cs.length then .sl (((cs.drop off).take (len * es)).map (showV H d)) len false else .ref β off len es cp
   | _ => .ref β off len es cp) := rfl
theorem CN {H : Nat → Option VObj} {d : Nat} {cs : List VV} : showV H (d + 1) (.agg cs) = .agg (cs.map (showV H d)) := rfl
theorem CP {H : Nat → Option VObj} {d : Nat} {cs : List VV} : showV H (d + 1) (.tup cs) = .tup (cs.map (showV H d)) := rfl
theorem KK {cs : List VV} {n : Nat} {f : Bool} : normV (.sl cs n f) = .sl (normL cs) n false := by simp [normV]
theorem KL : normV (.lit (.slice none 0 0)) = .sl [] 0 false := by simp [normV]
theorem KM {cs : List VV} : normV (.agg cs) = .agg (normL cs) := by simp [normV]
theorem CQ {cs : List VV} : normV (.tup cs) = .tup (normL cs) := by simp [normV]
theorem KN {k : IntKind} {n : Int} : normV (.lit (.int k n)) = .lit (.int k n) := by simp [normV]
theorem CS {b : Bool} : normV (.lit (.bool b)) = .lit (.bool b) := by simp [normV]
theorem P3 {b : ByteArray} : normV (.lit (.string b)) = .lit (.string b) := by simp [normV]
theorem pC : normL [] = [] := rfl
theorem pD {x : VV} {xs : List VV} : normL (x :: xs) = normV x :: normL xs := by simp [normL]
theorem CT : VV.tree .any = true := rfl
def vs := (And.intro (And.intro (And.intro (And.intro (And.intro (And.intro (And.intro @CU @CV) (And.intro @CW @CX)) (And.intro (And.intro @CY @CZ) (And.intro @Da @P4))) (And.intro (And.intro (And.intro @Db @Dc) (And.intro @P5 @KO)) (And.intro (And.intro @Dd @De) (And.intro @Df @Dg)))) (And.intro (And.intro (And.intro (And.intro @Dh @Di) (And.intro @P6 @Dj)) (And.intro (And.intro @P7 @Dk) (And.intro @Dl @Dm))) (And.intro (And.intro (And.intro @Dn @P8) (And.intro @Dp @Dq)) (And.intro (And.intro @KP @Dr) (And.intro @Ds (And.intro @kn @oM)))))) (And.intro (And.intro (And.intro (And.intro (And.intro @Dt @sN) (And.intro @qO @Du)) (And.intro (And.intro @Dv @Dw) (And.intro @Dx @Dy))) (And.intro (And.intro (And.intro @Dz @argsTm1) (And.intro @argsTm2 @P9)) (And.intro (And.intro @D0 @PA) (And.intro @D1 (And.intro @D2 @PB))))) (And.intro (And.intro (And.intro (And.intro @D3 @D4) (And.intro @PC @PD)) (And.intro (And.intro @PE @PF) (And.intro @D5 @D6))) (And.intro (And.intro (And.intro @PG @D7) (And.intro @PH @D8)) (And.intro (And.intro @PI @D9) (And.intro @II (And.intro @PJ @PK))))))) (And.intro (And.intro (And.intro (And.intro (And.intro (And.intro @DA @DB) (And.intro @DC @DD)) (And.intro (And.intro @DE @DF) (And.intro @argsTm3 @argsTm4))) (And.intro (And.intro (And.intro @argsTm5 @tI) (And.intro @KQ @tJ)) (And.intro (And.intro @NK @NL) (And.intro @AK (And.intro @AL @C6))))) (And.intro (And.intro (And.intro (And.intro @C7 @C8) (And.intro @C9 @CA)) (And.intro (And.intro @CB @CD) (And.intro @CE @CF))) (And.intro (And.intro (And.intro @DG @PL) (And.intro @PM @PN)) (And.intro (And.intro @P0 @P2) (And.intro @Pw (And.intro @DH @j1)))))) (And.intro (And.intro (And.intro (And.intro (And.intro @j2 @wW) (And.intro @wX @wY)) (And.intro (And.intro @wZ @xa) (And.intro @CG @KI))) (And.intro (And.intro (And.intro @CH @Pt) (And.intro @Pu @CI)) (And.intro (And.intro @CJ @CK) (And.intro @Pv (And.intro @PO @Py))))) (And.intro (And.intro (And.intro (And.intro @DI @PQ) (And.intro @PR @PS)) (And.intro (And.intro @PT @DJ) (And.intro @DK @DL))) (And.intro (And.intro (And.intro @DM @PU) (And.intro @DN @aU)) (And.intro (And.intro @bg @DO) (And.intro @PV (And.intro @di @dh))))))))
section
variable {i : Nat} {a : Oper} {l : List Oper} {x : VV} {xs ys : List VV}
theorem DP : (a :: l)[i + 1]? = l[i]? := rfl
theorem DQ : (a :: l)[0]? = some a := rfl
theorem DS : (x :: xs)[i + 1]? = xs[i]? := rfl
theorem DT : (x :: xs)[0]? = some x := rfl
theorem DU {f : Oper → Option Tmp} : (some a).bind f = f a := rfl
theorem DV {f : List VV → Option VV} : (some xs).bind f = f xs := rfl
theorem DW {f : VV → VV} : (some x).map f = some (f x) := rfl
theorem DX : (a :: l).length = l.length + 1 := rfl
theorem DY : ([] : List Oper).length = 0 := rfl
theorem DZ : (x :: xs).length = xs.length + 1 := rfl
theorem Ea : ([] : List VV).length = 0 := rfl
theorem Eb {f : Operand → VV} {o : Operand} {os : List Operand} : (o :: os).map f = f o :: os.map f := rfl
theorem Ec {f : Operand → VV} : ([] : List Operand).map f = [] := rfl
theorem Ee {f : Nat × Operand → Nat × VV} {o : Nat × Operand} {os : List (Nat × Operand)} : (o :: os).map f = f o :: os.map f := rfl
theorem Ef {f : Nat × Operand → Nat × VV} : ([] : List (Nat × Operand)).map f = [] := rfl
theorem Eg {f : VV → VV} : (x :: xs).map f = f x :: xs.map f := rfl
theorem Eh {f : VV → VV} : ([] : List VV).map f = [] := rfl
theorem iu : (x :: xs) ++ ys = x :: (xs ++ ys) := rfl
theorem iv : [] ++ ys = ys := rfl
theorem Ei : (x :: xs).drop (i + 1) = xs.drop i := rfl
theorem Ej : xs.drop 0 = xs := by simp
theorem Ek : (x :: xs).take (i + 1) = x :: xs.take i := rfl
theorem El : xs.take 0 = [] := by simp
theorem Em {o : VObj} : (some o).isSome = true := rfl
theorem m_nil : (([] : List Nat) = []) = True := by simp
theorem m_ne {a b : Bool} : (a ≠ b) = ¬ (a = b) := rfl
theorem m_neN {a b : Nat} : (a ≠ b) = ¬ (a = b) := rfl
end
def cr := (And.intro (And.intro (And.intro (And.intro (And.intro @DP (And.intro @DQ @DS)) (And.intro @DT (And.intro @DU @DV))) (And.intro (And.intro @DW (And.intro @DX @DY)) (And.intro (And.intro @DZ @Ea) (And.intro @Eb @Ec)))) (And.intro (And.intro (And.intro @Ee (And.intro @Ef @Eg)) (And.intro @Eh (And.intro @iu @iv))) (And.intro (And.intro @Ei (And.intro @Ej @Ek)) (And.intro (And.intro @El @Em) (And.intro @m_nil @m_ne))))) (And.intro (And.intro (And.intro (And.intro @m_neN (And.intro @Nat.zero_add @not_true_eq_false)) (And.intro @not_false_eq_true (And.intro @false_implies @true_implies))) (And.intro (And.intro @true_and (And.intro @and_true @false_and)) (And.intro (And.intro @and_false @Bool.false_eq_true) (And.intro @Bool.true_eq_false @Bool.not_true)))) (And.intro (And.intro (And.intro @Bool.not_false (And.intro @Bool.and_self @decide_true)) (And.intro (And.intro @decide_false @Nat.add_assoc) (And.intro @Nat.zero_mul @Nat.one_mul))) (And.intro (And.intro @Nat.zero_le (And.intro @true_or @or_true)) (And.intro (And.intro @false_or @or_false) (And.intro @not_true @not_false_iff))))))
def nrm := (And.intro (And.intro (And.intro (And.intro @KK @KL) (And.intro @KM (And.intro @CQ @KN))) (And.intro (And.intro @CS @P3) (And.intro @pC (And.intro @pD @eI_ok.normL)))) (And.intro (And.intro (And.intro @pA.normL @eB_ok.normL) (And.intro @eS_ok.normL (And.intro @CL @CM))) (And.intro (And.intro @CN (And.intro @CP @eI_ok.showL)) (And.intro @pA.showL (And.intro @eB_ok.showL @eS_ok.showL)))))
def tre := (And.intro (And.intro (And.intro @KP @Dq) (And.intro @Dr (And.intro @tI @KQ))) (And.intro (And.intro @tJ (And.intro @eI_ok.treeL @pA.treeL)) (And.intro @eB_ok.treeL (And.intro @eS_ok.treeL @CT))))
end Go.V
end
