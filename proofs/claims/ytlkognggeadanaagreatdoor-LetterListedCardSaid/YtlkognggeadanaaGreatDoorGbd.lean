/- Part of a proof. -/
import Derived.Test.YtlkognggeadanaaGreatDoorGbc
set_option linter.all false
section
namespace Go.V
open Go
set_option linter.defProp false
section
variable {P : Program} {G : Glob} {n : Nat} {γ : Nat} {tm : Nat → VV} {H : Nat → Option VObj} {nx : Nat} {df : List VDef} {K : St → Prop} {Kd : List Nat → List Nat → St → Prop} {Qp : VV → St → Prop}
 {d : Option Tmp} {ty : TypeId} {pos : String} {af : Array Edge} {g : Option (Nat × Bool)}
section
variable {a b : Prop} {x y : VV} {k : VV → Prop}
theorem Mk : guardK (.lit (.bool true)) true a b = a := by simp [guardK]
theorem Ml : guardK (.lit (.bool true)) false a b = b := by simp [guardK]
theorem Mm : guardK (.lit (.bool false)) true a b = b := by simp [guardK]
theorem Mn : guardK (.lit (.bool false)) false a b = a := by simp [guardK]
theorem Mo {w : Bool} : guardK (.lit undef) w a b = b := rfl
theorem Mp : pickK (.lit (.bool true)) x y k = k x := by simp [pickK]
theorem Mq : pickK (.lit (.bool false)) x y k = k y := by simp [pickK]
theorem Mr : condK (.lit (.bool true)) a b = a := by simp [condK]
theorem Ms : condK (.lit (.bool false)) a b = b := by simp [condK]
end
theorem lI : leafL [] = true := rfl
theorem lJ {x : VV} {xs : List VV} : leafL (x :: xs) = (x.leaf && leafL xs) := rfl
theorem De {k : IntKind} {i : Int} : (VV.lit (.int k i)).leaf = true := rfl
theorem Df {b : Bool} : (VV.lit (.bool b)).leaf = true := rfl
theorem Dg {b : ByteArray} : (VV.lit (.string b)).leaf = true := rfl
theorem Dh {b : Option Addr} {l c : Nat} : (VV.lit (.slice b l c)).leaf = true := rfl
theorem Di {cs : List VV} {k : Nat} {f : Bool} : (VV.sl cs k f).leaf = true := rfl
theorem Mt {β o l e c : Nat} : (VV.ref β o l e c).leaf = true := rfl
theorem JY {cs : List VV} : aX (.agg cs) = if leafL cs = true then some cs else none := by simp only [aX, xu]
theorem vcells1 {x : VV} (h : x.leaf = true) : aX x = some [x] := by
 cases x <;> first | rfl | (simp [aX, h]; done) | cases h
theorem Mu {k : IntKind} {i : Int} : aX (.lit (.int k i)) = some [.lit (.int k i)] := rfl
theorem Mv {b : Bool} : aX (.lit (.bool b)) = some [.lit (.bool b)] := rfl
theorem WB {b : ByteArray} : aX (.lit (.string b)) = some [.lit (.string b)] := rfl
theorem Mw {b : Option Addr} {l c : Nat} : aX (.lit (.slice b l c)) = some [.lit (.slice b l c)] := rfl
theorem Mx {cs : List VV} {k : Nat} {f : Bool} : aX (.sl cs k f) = some [.sl cs k f] := rfl
theorem My {β o l e c : Nat} : aX (.ref β o l e c) = some [.ref β o l e c] := rfl
theorem WC {cs xs : List VV} {off : Nat} : overwrite cs off xs = cs.take off ++ (xs ++ cs.drop (off + xs.length)) := by simp [overwrite, List.append_assoc]
def vzl (P : Program) (t : TypeId) : Option (List VV) := (vzero P t).map fun z => z.toList.map ofVal1
theorem Mz {t : TypeId} : aU P G γ ⟨d, .alloc t, ty, pos, af, g⟩ ⟨tm, H, nx, df⟩ K Qp = (match vzl P t with | some cs => fin d γ tm H nx df K (.ptr γ 0) (.new (.cells (some t) cs)) | none => False) := by
 rw [M0]; unfold vzl; cases vzero P t <;> rfl
theorem WD {t : TypeId} : aL P G γ ⟨d, .alloc t, ty, pos, af, g⟩ ⟨tm, H, nx, df⟩ Kd = (match vzl P t with | some cs => fin d γ tm H nx df (Kd (rdV ⟨d, .alloc t, ty, pos, af, g⟩ (ev G tm)) [γ]) (.ptr γ 0) (.new (.cells (some t) cs)) | none => False) := by
 rw [KT]; unfold vzl; cases vzero P t <;> rfl
def vstoreV (P : Program) (H : Nat → Option VObj) (t : TypeId) (a x : VV) : Option (VV × VEff) := match a with
  | .ptr β off => match H β, aX x, szT P t with
   | some (.cells el cs), some xs, some n => if xs.length = n ∧ off + n ≤ cs.length then some (.any, .upd β (.cells el (overwrite cs off xs))) else none
   | _, _, _ => none
  | _ => none
theorem M1 {t : TypeId} {a x : Operand} : aU P G γ ⟨d, .store t a x, ty, pos, af, g⟩ ⟨tm, H, nx, df⟩ K Qp = oeK (vstoreV P H t (ev G tm a) (ev G tm x)) (fun y e => fin d γ tm H nx df K y e) := by
 rw [M3]; rfl
theorem M4 {t : TypeId} {x : VV} {β off : Nat} : vstoreV P H t (.ptr β off) x = (match H β, aX x, szT P t with
   | some (.cells el cs), some xs, some n => if xs.length = n ∧ off + n ≤ cs.length then some (.any, .upd β (.cells el (overwrite cs off xs))) else none
   | _, _, _ => none) := rfl
end
def eI (n : Int) : List VV := [.lit (.int .i64 n)]
def sP (n : Int) : List VV := [.lit (.int .u8 n)]
def eB (b : Bool) : List VV := [.lit (.bool b)]
def eS (s : ByteArray) : List VV := [.lit (.string s)]
def eSl {α : Type} (enc : α → List VV) (xs : List α) : List VV := [.sl (aa enc xs) xs.length false]
theorem eI_eq {n : Int} : eI n = [.lit (.int .i64 n)] := rfl
theorem rv {n : Int} : sP n = [.lit (.int .u8 n)] := rfl
theorem eB_eq {b : Bool} : eB b = [.lit (.bool b)] := rfl
theorem eS_eq {s : ByteArray} : eS s = [.lit (.string s)] := rfl
theorem ry {α : Type} {enc : α → List VV} {xs : List α} : eSl enc xs = [.sl (aa enc xs) xs.length false] := rfl
structure EncOk {α : Type} (enc : α → List VV) : Prop where
 tree : ∀ x, treeL (enc x) = true
 norm : ∀ x, normL (enc x) = enc x
 shown : ∀ x H d, (enc x).map (showV H d) = enc x
theorem eI_ok : EncOk eI := ⟨fun _ => rfl, fun _ => rfl, fun _ _ d => by cases d <;> rfl⟩
theorem vp : EncOk sP := ⟨fun _ => rfl, fun _ => rfl, fun _ _ d => by cases d <;> rfl⟩
theorem eB_ok : EncOk eB := ⟨fun _ => rfl, fun _ => rfl, fun _ _ d => by cases d <;> rfl⟩
theorem eS_ok : EncOk eS := ⟨fun _ => rfl, fun _ => rfl, fun _ _ d => by cases d <;> rfl⟩
section
variable {α : Type} {enc : α → List VV} (h : EncOk enc)
include h
theorem EncOk.treeL (xs : List α) : Go.V.treeL (aa enc xs) = true := Ex h.tree xs
theorem EncOk.normL (xs : List α) : Go.V.normL (aa enc xs) = aa enc xs := Ew h.norm xs
theorem EncOk.showL (xs : List α) (H : Nat → Option VObj) (d : Nat) : (aa enc xs).map (showV H d) = aa enc xs := Qu (fun x => h.shown x H d) xs
theorem EncOk.sl : EncOk (eSl enc) := ⟨fun x => by simp [eSl, Go.V.treeL, VV.tree, h.treeL], fun x => by simp [eSl, Go.V.normL, normV, h.normL], fun x H d => by cases d <;> rfl⟩
end
theorem EncOk.of {α : Type} {enc : α → List VV} (h1 : ∀ x, Go.V.treeL (enc x) = true) (h2 : ∀ x, Go.V.normL (enc x) = enc x) (h3 : ∀ x H d, (enc x).map (showV H d) = enc x) : EncOk enc := ⟨h1, h2, h3⟩
theorem M5 {H : Nat → Option VObj} {d : Nat} {v : Value} : showV H d (.lit v) = .lit v := by cases d <;> rfl
theorem M6 {H : Nat → Option VObj} {d n : Nat} {cs : List VV} {f : Bool} : showV H d (.sl cs n f) = .sl cs n f := by cases d <;> rfl
theorem kc {H : Nat → Option VObj} {d β : Nat} : showV H (d + 1) (.mp β) = (match H β with
   | some (.map es) => .mt (es.map (·.1)) ((es.map (·.2)).map (showV H d))
   | _ => .mp β) := rfl
theorem eF {H : Nat → Option VObj} {d β off len es cp : Nat} : showV H (d + 1) (.ref β off len es cp) = (match H β with
   | some (.cells _ cs) => if off ≤ cs.length then .sl (((cs.drop off).take (len * es)).map (showV H d)) len false else .ref β off len es cp
   | _ => .ref β off len es cp) := rfl
theorem M7 {H : Nat → Option VObj} {d : Nat} {cs : List VV} : showV H (d + 1) (.agg cs) = .agg (cs.map (showV H d)) := rfl
theorem M8 {H : Nat → Option VObj} {d : Nat} {cs : List VV} : showV H (d + 1) (.tup cs) = .tup (cs.map (showV H d)) := rfl
theorem AS {cs : List VV} {n : Nat} {f : Bool} : normV (.sl cs n f) = .sl (normL cs) n false := by simp [normV]
theorem R0 : normV (.lit (.slice none 0 0)) = .sl [] 0 false := by simp [normV]
theorem AU {cs : List VV} : normV (.agg cs) = .agg (normL cs) := by simp [normV]
theorem M9 {cs : List VV} : normV (.tup cs) = .tup (normL cs) := by simp [normV]
theorem AQ {k : IntKind} {n : Int} : normV (.lit (.int k n)) = .lit (.int k n) := by simp [normV]
theorem Ko {b : Bool} : normV (.lit (.bool b)) = .lit (.bool b) := by simp [normV]
theorem WE {b : ByteArray} : normV (.lit (.string b)) = .lit (.string b) := by simp [normV]
theorem wq : normL [] = [] := rfl
theorem wo {x : VV} {xs : List VV} : normL (x :: xs) = normV x :: normL xs := by simp [normL]
theorem MA : VV.tree .any = true := rfl
def vs := (And.intro (And.intro (And.intro (And.intro (And.intro (And.intro (And.intro @MB @MC) (And.intro @MD @ME)) (And.intro (And.intro @MF @MG) (And.intro @MH @MI))) (And.intro (And.intro (And.intro @MJ @MK) (And.intro @WG @ML)) (And.intro (And.intro @MM @MN) (And.intro @MO @MP)))) (And.intro (And.intro (And.intro (And.intro @MQ @MR) (And.intro @WH @MS)) (And.intro (And.intro @MT @MU) (And.intro @MV @MW))) (And.intro (And.intro (And.intro @MX @WI) (And.intro @MY @Sz)) (And.intro (And.intro @S0 @BM) (And.intro @MZ (And.intro @mW @ur)))))) (And.intro (And.intro (And.intro (And.intro (And.intro @Na @vu) (And.intro @sZ @Nb)) (And.intro (And.intro @Nc @Nd) (And.intro @Nf @Ng))) (And.intro (And.intro (And.intro @Nh @argsTm1) (And.intro @argsTm2 @Lb)) (And.intro (And.intro @KY @KZ) (And.intro @KK (And.intro @KL @VD))))) (And.intro (And.intro (And.intro (And.intro @KM @KN) (And.intro @VE @KO)) (And.intro (And.intro @VF @KP) (And.intro @KQ @KR))) (And.intro (And.intro (And.intro @KS @KW) (And.intro @VH @KX)) (And.intro (And.intro @WJ @Ni) (And.intro @S1 (And.intro @Nj @WK))))))) (And.intro (And.intro (And.intro (And.intro (And.intro (And.intro @Nk @Nl) (And.intro @Nm @Nn)) (And.intro (And.intro @No @Np) (And.intro @argsTm3 @argsTm4))) (And.intro (And.intro (And.intro @argsTm5 @BN) (And.intro @BO @BP)) (And.intro (And.intro @Ep @Es) (And.intro @En (And.intro @Eo @Mk))))) (And.intro (And.intro (And.intro (And.intro @Ml @Mm) (And.intro @Mn @Mo)) (And.intro (And.intro @Mp @Mq) (And.intro @Mr @Ms))) (And.intro (And.intro (And.intro @Nq @Nr) (And.intro @Ns @WL)) (And.intro (And.intro @M1 @M4) (And.intro @Mz (And.intro @Nt @lI)))))) (And.intro (And.intro (And.intro (And.intro (And.intro @lJ @De) (And.intro @Df @Dg)) (And.intro (And.intro @Dh @Di) (And.intro @Mt @JY))) (And.intro (And.intro (And.intro @Mu @Mv) (And.intro @WB @Mw)) (And.intro (And.intro @Mx @My) (And.intro @WC (And.intro @WM @WD))))) (And.intro (And.intro (And.intro (And.intro @KU @VG) (And.intro @VJ @KV)) (And.intro (And.intro @VI @Nu) (And.intro @Nv @Nw))) (And.intro (And.intro (And.intro @Nx @Ny) (And.intro @Nz @bt)) (And.intro (And.intro @bY @N0) (And.intro @N1 (And.intro @dA @d6))))))))
section
variable {i : Nat} {a : Oper} {l : List Oper} {x : VV} {xs ys : List VV}
theorem N2 : (a :: l)[i + 1]? = l[i]? := rfl
theorem N3 : (a :: l)[0]? = some a := rfl
theorem N4 : (x :: xs)[i + 1]? = xs[i]? := rfl
theorem N5 : (x :: xs)[0]? = some x := rfl
theorem N6 {f : Oper → Option Tmp} : (some a).bind f = f a := rfl
theorem N7 {f : List VV → Option VV} : (some xs).bind f = f xs := rfl
theorem N8 {f : VV → VV} : (some x).map f = some (f x) := rfl
theorem N9 : (a :: l).length = l.length + 1 := rfl
theorem NA : ([] : List Oper).length = 0 := rfl
theorem NB : (x :: xs).length = xs.length + 1 := rfl
theorem NC : ([] : List VV).length = 0 := rfl
theorem ND {f : Operand → VV} {o : Operand} {os : List Operand} : (o :: os).map f = f o :: os.map f := rfl
theorem NF {f : Operand → VV} : ([] : List Operand).map f = [] := rfl
theorem NG {f : Nat × Operand → Nat × VV} {o : Nat × Operand} {os : List (Nat × Operand)} : (o :: os).map f = f o :: os.map f := rfl
theorem NH {f : Nat × Operand → Nat × VV} : ([] : List (Nat × Operand)).map f = [] := rfl
theorem NI {f : VV → VV} : (x :: xs).map f = f x :: xs.map f := rfl
theorem NJ {f : VV → VV} : ([] : List VV).map f = [] := rfl
theorem fG : (x :: xs) ++ ys = x :: (xs ++ ys) := rfl
theorem fH : [] ++ ys = ys := rfl
theorem NK : (x :: xs).drop (i + 1) = xs.drop i := rfl
theorem NL : xs.drop 0 = xs := by simp
theorem NM : (x :: xs).take (i + 1) = x :: xs.take i := rfl
theorem NN : xs.take 0 = [] := by simp
theorem NO {o : VObj} : (some o).isSome = true := rfl
theorem m_nil : (([] : List Nat) = []) = True := by simp
theorem m_ne {a b : Bool} : (a ≠ b) = ¬ (a = b) := rfl
theorem m_neN {a b : Nat} : (a ≠ b) = ¬ (a = b) := rfl
end
def cr := (And.intro (And.intro (And.intro (And.intro (And.intro @N2 (And.intro @N3 @N4)) (And.intro @N5 (And.intro @N6 @N7))) (And.intro (And.intro @N8 (And.intro @N9 @NA)) (And.intro (And.intro @NB @NC) (And.intro @ND @NF)))) (And.intro (And.intro (And.intro @NG (And.intro @NH @NI)) (And.intro @NJ (And.intro @fG @fH))) (And.intro (And.intro @NK (And.intro @NL @NM)) (And.intro (And.intro @NN @NO) (And.intro @m_nil @m_ne))))) (And.intro (And.intro (And.intro (And.intro @m_neN (And.intro @Nat.zero_add @not_true_eq_false)) (And.intro @not_false_eq_true (And.intro @false_implies @true_implies))) (And.intro (And.intro @true_and (And.intro @and_true @false_and)) (And.intro (And.intro @and_false @Bool.false_eq_true) (And.intro @Bool.true_eq_false @Bool.not_true)))) (And.intro (And.intro (And.intro @Bool.not_false (And.intro @Bool.and_self @decide_true)) (And.intro (And.intro @decide_false @Nat.add_assoc) (And.intro @Nat.zero_mul @Nat.one_mul))) (And.intro (And.intro @Nat.zero_le (And.intro @true_or @or_true)) (And.intro (And.intro @false_or @or_false) (And.intro @not_true @not_false_iff))))))
def nrm := (And.intro (And.intro (And.intro (And.intro @AS @R0) (And.intro @AU (And.intro @M9 @AQ))) (And.intro (And.intro @Ko @WE) (And.intro @wq (And.intro @wo @eI_ok.normL)))) (And.intro (And.intro (And.intro @vp.normL @eB_ok.normL) (And.intro @eS_ok.normL (And.intro @M5 @M6))) (And.intro (And.intro @M7 (And.intro @M8 @eI_ok.showL)) (And.intro @vp.showL (And.intro @eB_ok.showL @eS_ok.showL)))))
def tre := (And.intro (And.intro (And.intro @S0 @Sz) (And.intro @BM (And.intro @BN @BO))) (And.intro (And.intro @BP (And.intro @eI_ok.treeL @vp.treeL)) (And.intro @eB_ok.treeL (And.intro @eS_ok.treeL @MA))))
end Go.V
end
