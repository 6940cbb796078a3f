/- Part of a proof. -/
import Derived.Test.YtlkognggeadanaaGreatDoorEbc
set_option linter.all false
section
namespace Go.V
open Go
set_option linter.defProp false
section
variable {P : Program} {G : Glob} {n : Nat} {γ : Nat} {tm : Nat → VV} {H : Nat → Option VObj} {nx : Nat} {df : List VDef} {K : St → Prop} {Kd : List Nat → List Nat → St → Prop} {Qp : VV → St → Prop}
 {d : Option Tmp} {ty : TypeId} {pos : String} {af : Array Edge} {g : Option (Nat × Bool)}
section
variable {a b : Prop} {x y : VV} {k : VV → Prop}
theorem Ky : guardK (.lit (.bool true)) true a b = a := by simp [guardK]
theorem Kz : guardK (.lit (.bool true)) false a b = b := by simp [guardK]
theorem K1 : guardK (.lit (.bool false)) true a b = b := by simp [guardK]
theorem K2 : guardK (.lit (.bool false)) false a b = a := by simp [guardK]
theorem K8 {w : Bool} : guardK (.lit undef) w a b = b := rfl
theorem KA : pickK (.lit (.bool true)) x y k = k x := by simp [pickK]
theorem KB : pickK (.lit (.bool false)) x y k = k y := by simp [pickK]
theorem KC : condK (.lit (.bool true)) a b = a := by simp [condK]
theorem KD : condK (.lit (.bool false)) a b = b := by simp [condK]
end
theorem lL : leafL [] = true := rfl
theorem lM {x : VV} {xs : List VV} : leafL (x :: xs) = (x.leaf && leafL xs) := rfl
theorem CK {k : IntKind} {i : Int} : (VV.lit (.int k i)).leaf = true := rfl
theorem CL {b : Bool} : (VV.lit (.bool b)).leaf = true := rfl
theorem CM {b : ByteArray} : (VV.lit (.string b)).leaf = true := rfl
theorem CN {b : Option Addr} {l c : Nat} : (VV.lit (.slice b l c)).leaf = true := rfl
theorem CP {cs : List VV} {k : Nat} {f : Bool} : (VV.sl cs k f).leaf = true := rfl
theorem KE {β o l e c : Nat} : (VV.ref β o l e c).leaf = true := rfl
theorem IJ {cs : List VV} : aX (.agg cs) = if leafL cs = true then some cs else none := by simp only [aX, Ay]
theorem vcells1 {x : VV} (h : x.leaf = true) : aX x = some [x] := by
 cases x <;> first | rfl | (simp [aX, h]; done) | cases h
theorem KG {k : IntKind} {i : Int} : aX (.lit (.int k i)) = some [.lit (.int k i)] := rfl
theorem KH {b : Bool} : aX (.lit (.bool b)) = some [.lit (.bool b)] := rfl
theorem VH {b : ByteArray} : aX (.lit (.string b)) = some [.lit (.string b)] := rfl
theorem KI {b : Option Addr} {l c : Nat} : aX (.lit (.slice b l c)) = some [.lit (.slice b l c)] := rfl
theorem KJ {cs : List VV} {k : Nat} {f : Bool} : aX (.sl cs k f) = some [.sl cs k f] := rfl
theorem KK {β o l e c : Nat} : aX (.ref β o l e c) = some [.ref β o l e c] := rfl
theorem VI {cs xs : List VV} {off : Nat} : overwrite cs off xs = cs.take off ++ (xs ++ cs.drop (off + xs.length)) := by simp [overwrite, List.append_assoc]
def vzl (P : Program) (t : TypeId) : Option (List VV) := (vzero P t).map fun z => z.toList.map ofVal1
theorem KL {t : TypeId} : aU P G γ ⟨d, .alloc t, ty, pos, af, g⟩ ⟨tm, H, nx, df⟩ K Qp = (match vzl P t with | some cs => fin d γ tm H nx df K (.ptr γ 0) (.new (.cells (some t) cs)) | none => False) := by
 rw [KM]; unfold vzl; cases vzero P t <;> rfl
theorem VJ {t : TypeId} : aL P G γ ⟨d, .alloc t, ty, pos, af, g⟩ ⟨tm, H, nx, df⟩ Kd = (match vzl P t with | some cs => fin d γ tm H nx df (Kd (rdV ⟨d, .alloc t, ty, pos, af, g⟩ (ev G tm)) [γ]) (.ptr γ 0) (.new (.cells (some t) cs)) | none => False) := by
 rw [DW]; unfold vzl; cases vzero P t <;> rfl
def vstoreV (P : Program) (H : Nat → Option VObj) (t : TypeId) (a x : VV) : Option (VV × VEff) := match a with
  | .ptr β off => match H β, aX x, szT P t with
   | some (.cells el cs), some xs, some n => if xs.length = n ∧ off + n ≤ cs.length then some (.any, .upd β (.cells el (overwrite cs off xs))) else none
   | _, _, _ => none
  | _ => none
theorem KN {t : TypeId} {a x : Operand} : aU P G γ ⟨d, .store t a x, ty, pos, af, g⟩ ⟨tm, H, nx, df⟩ K Qp = oeK (vstoreV P H t (ev G tm a) (ev G tm x)) (fun y e => fin d γ tm H nx df K y e) := by
 rw [KO]; rfl
theorem KP {t : TypeId} {x : VV} {β off : Nat} : vstoreV P H t (.ptr β off) x = (match H β, aX x, szT P t with
   | some (.cells el cs), some xs, some n => if xs.length = n ∧ off + n ≤ cs.length then some (.any, .upd β (.cells el (overwrite cs off xs))) else none
   | _, _, _ => none) := rfl
end
def eI (n : Int) : List VV := [.lit (.int .i64 n)]
def td (n : Int) : List VV := [.lit (.int .u8 n)]
def eB (b : Bool) : List VV := [.lit (.bool b)]
def eS (s : ByteArray) : List VV := [.lit (.string s)]
def eSl {α : Type} (enc : α → List VV) (xs : List α) : List VV := [.sl (aa enc xs) xs.length false]
theorem eI_eq {n : Int} : eI n = [.lit (.int .i64 n)] := rfl
theorem rK {n : Int} : td n = [.lit (.int .u8 n)] := rfl
theorem eB_eq {b : Bool} : eB b = [.lit (.bool b)] := rfl
theorem eS_eq {s : ByteArray} : eS s = [.lit (.string s)] := rfl
theorem rL {α : Type} {enc : α → List VV} {xs : List α} : eSl enc xs = [.sl (aa enc xs) xs.length false] := rfl
structure EncOk {α : Type} (enc : α → List VV) : Prop where
 tree : ∀ x, treeL (enc x) = true
 norm : ∀ x, normL (enc x) = enc x
 shown : ∀ x H d, (enc x).map (showV H d) = enc x
theorem eI_ok : EncOk eI := ⟨fun _ => rfl, fun _ => rfl, fun _ _ d => by cases d <;> rfl⟩
theorem uY : EncOk td := ⟨fun _ => rfl, fun _ => rfl, fun _ _ d => by cases d <;> rfl⟩
theorem eB_ok : EncOk eB := ⟨fun _ => rfl, fun _ => rfl, fun _ _ d => by cases d <;> rfl⟩
theorem eS_ok : EncOk eS := ⟨fun _ => rfl, fun _ => rfl, fun _ _ d => by cases d <;> rfl⟩
section
variable {α : Type} {enc : α → List VV} (h : EncOk enc)
include h
theorem EncOk.treeL (xs : List α) : Go.V.treeL (aa enc xs) = true := E4 h.tree xs
theorem EncOk.normL (xs : List α) : Go.V.normL (aa enc xs) = aa enc xs := E5 h.norm xs
theorem EncOk.showL (xs : List α) (H : Nat → Option VObj) (d : Nat) : (aa enc xs).map (showV H d) = aa enc xs := PR (fun x => h.shown x H d) xs
theorem EncOk.sl : EncOk (eSl enc) := ⟨fun x => by simp [eSl, Go.V.treeL, VV.tree, h.treeL], fun x => by simp [eSl, Go.V.normL, normV, h.normL], fun x H d => by cases d <;> rfl⟩
end
theorem EncOk.of {α : Type} {enc : α → List VV} (h1 : ∀ x, Go.V.treeL (enc x) = true) (h2 : ∀ x, Go.V.normL (enc x) = enc x) (h3 : ∀ x H d, (enc x).map (showV H d) = enc x) : EncOk enc := ⟨h1, h2, h3⟩
theorem KQ {H : Nat → Option VObj} {d : Nat} {v : Value} : showV H d (.lit v) = .lit v := by cases d <;> rfl
theorem KR {H : Nat → Option VObj} {d n : Nat} {cs : List VV} {f : Bool} : showV H d (.sl cs n f) = .sl cs n f := by cases d <;> rfl
theorem mA {H : Nat → Option VObj} {d β : Nat} : showV H (d + 1) (.mp β) = (match H β with
   | some (.map es) => .mt (es.map (·.1)) ((es.map (·.2)).map (showV H d))
   | _ => .mp β) := rfl
theorem fu {H : Nat → Option VObj} {d β off len es cp : Nat} : showV H (d + 1) (.ref β off len es cp) = (match H β with
   | some (.cells _ cs) => if off ≤ cs.length then .sl (((cs.drop off).take (len * es)).map (showV H d)) len false else .ref β off len es cp
   | _ => .ref β off len es cp) := rfl
theorem KS {H : Nat → Option VObj} {d : Nat} {cs : List VV} : showV H (d + 1) (.agg cs) = .agg (cs.map (showV H d)) := rfl
theorem KT {H : Nat → Option VObj} {d : Nat} {cs : List VV} : showV H (d + 1) (.tup cs) = .tup (cs.map (showV H d)) := rfl
theorem zy {cs : List VV} {n : Nat} {f : Bool} : normV (.sl cs n f) = .sl (normL cs) n false := by simp [normV]
theorem QS : normV (.lit (.slice none 0 0)) = .sl [] 0 false := by simp [normV]
theorem QV {cs : List VV} : normV (.agg cs) = .agg (normL cs) := by simp [normV]
theorem KU {cs : List VV} : normV (.tup cs) = .tup (normL cs) := by simp [normV]
theorem QR {k : IntKind} {n : Int} : normV (.lit (.int k n)) = .lit (.int k n) := by simp [normV]
theorem IU {b : Bool} : normV (.lit (.bool b)) = .lit (.bool b) := by simp [normV]
theorem VK {b : ByteArray} : normV (.lit (.string b)) = .lit (.string b) := by simp [normV]
theorem w7 : normL [] = [] := rfl
theorem w6 {x : VV} {xs : List VV} : normL (x :: xs) = normV x :: normL xs := by simp [normL]
theorem KV : VV.tree .any = true := rfl
def vs := (And.intro (And.intro (And.intro (And.intro (And.intro (And.intro (And.intro @KW @KX) (And.intro @KY @KZ)) (And.intro (And.intro @Lb @Lc) (And.intro @Ld @Le))) (And.intro (And.intro (And.intro @Lf @Lg) (And.intro @VL @Lh)) (And.intro (And.intro @Li @Lj) (And.intro @Lk @Ll)))) (And.intro (And.intro (And.intro (And.intro @Lm @Ln) (And.intro @VM @Lo)) (And.intro (And.intro @Lp @Lq) (And.intro @Ls @Lt))) (And.intro (And.intro (And.intro @Lu @VN) (And.intro @Lv @R9)) (And.intro (And.intro @RA @Az) (And.intro @Lw (And.intro @qh @uZ)))))) (And.intro (And.intro (And.intro (And.intro (And.intro @Lz @AA) (And.intro @xk @L0)) (And.intro (And.intro @L1 @L4) (And.intro @L5 @L6))) (And.intro (And.intro (And.intro @L7 @argsTm1) (And.intro @argsTm2 @Ee)) (And.intro (And.intro @Eb @Ec) (And.intro @DM (And.intro @DN @Tz))))) (And.intro (And.intro (And.intro (And.intro @DO @DP) (And.intro @T0 @DQ)) (And.intro (And.intro @T1 @DS) (And.intro @DT @DU))) (And.intro (And.intro (And.intro @DV @DZ) (And.intro @T3 @Ea)) (And.intro (And.intro @VO @L8) (And.intro @QG (And.intro @L9 @VP))))))) (And.intro (And.intro (And.intro (And.intro (And.intro (And.intro @LA @LC) (And.intro @LF @LG)) (And.intro (And.intro @LH @LI) (And.intro @argsTm3 @argsTm4))) (And.intro (And.intro (And.intro @argsTm5 @AB) (And.intro @AD @AE)) (And.intro (And.intro @LJ @LK) (And.intro @LL (And.intro @LM @Ky))))) (And.intro (And.intro (And.intro (And.intro @Kz @K1) (And.intro @K2 @K8)) (And.intro (And.intro @KA @KB) (And.intro @KC @KD))) (And.intro (And.intro (And.intro @LN @LP) (And.intro @LQ @VQ)) (And.intro (And.intro @KN @KP) (And.intro @KL (And.intro @LS @lL)))))) (And.intro (And.intro (And.intro (And.intro (And.intro @lM @CK) (And.intro @CL @CM)) (And.intro (And.intro @CN @CP) (And.intro @KE @IJ))) (And.intro (And.intro (And.intro @KG @KH) (And.intro @VH @KI)) (And.intro (And.intro @KJ @KK) (And.intro @VI (And.intro @VR @VJ))))) (And.intro (And.intro (And.intro (And.intro @DX @T2) (And.intro @T5 @DY)) (And.intro (And.intro @T4 @LU) (And.intro @LV @LW))) (And.intro (And.intro (And.intro @LY @LZ) (And.intro @Ma @br)) (And.intro (And.intro @bW @Mb) (And.intro @Mc (And.intro @dT @dU))))))))
section
variable {i : Nat} {a : Oper} {l : List Oper} {x : VV} {xs ys : List VV}
theorem Md : (a :: l)[i + 1]? = l[i]? := rfl
theorem Me : (a :: l)[0]? = some a := rfl
theorem Mf : (x :: xs)[i + 1]? = xs[i]? := rfl
theorem Mg : (x :: xs)[0]? = some x := rfl
theorem Mh {f : Oper → Option Tmp} : (some a).bind f = f a := rfl
theorem Mi {f : List VV → Option VV} : (some xs).bind f = f xs := rfl
theorem Mj {f : VV → VV} : (some x).map f = some (f x) := rfl
theorem Mk : (a :: l).length = l.length + 1 := rfl
theorem Ml : ([] : List Oper).length = 0 := rfl
theorem Mm : (x :: xs).length = xs.length + 1 := rfl
theorem Mn : ([] : List VV).length = 0 := rfl
theorem Mo {f : Operand → VV} {o : Operand} {os : List Operand} : (o :: os).map f = f o :: os.map f := rfl
theorem Mp {f : Operand → VV} : ([] : List Operand).map f = [] := rfl
theorem Mq {f : Nat × Operand → Nat × VV} {o : Nat × Operand} {os : List (Nat × Operand)} : (o :: os).map f = f o :: os.map f := rfl
theorem Mr {f : Nat × Operand → Nat × VV} : ([] : List (Nat × Operand)).map f = [] := rfl
theorem Ms {f : VV → VV} : (x :: xs).map f = f x :: xs.map f := rfl
theorem Mt {f : VV → VV} : ([] : List VV).map f = [] := rfl
theorem fT : (x :: xs) ++ ys = x :: (xs ++ ys) := rfl
theorem fU : [] ++ ys = ys := rfl
theorem Mu : (x :: xs).drop (i + 1) = xs.drop i := rfl
theorem Mv : xs.drop 0 = xs := by simp
theorem Mw : (x :: xs).take (i + 1) = x :: xs.take i := rfl
theorem Mx : xs.take 0 = [] := by simp
theorem My {o : VObj} : (some o).isSome = true := rfl
theorem m_nil : (([] : List Nat) = []) = True := by simp
theorem m_ne {a b : Bool} : (a ≠ b) = ¬ (a = b) := rfl
theorem m_neN {a b : Nat} : (a ≠ b) = ¬ (a = b) := rfl
end
def cr := (And.intro (And.intro (And.intro (And.intro (And.intro @Md (And.intro @Me @Mf)) (And.intro @Mg (And.intro @Mh @Mi))) (And.intro (And.intro @Mj (And.intro @Mk @Ml)) (And.intro (And.intro @Mm @Mn) (And.intro @Mo @Mp)))) (And.intro (And.intro (And.intro @Mq (And.intro @Mr @Ms)) (And.intro @Mt (And.intro @fT @fU))) (And.intro (And.intro @Mu (And.intro @Mv @Mw)) (And.intro (And.intro @Mx @My) (And.intro @m_nil @m_ne))))) (And.intro (And.intro (And.intro (And.intro @m_neN (And.intro @Nat.zero_add @not_true_eq_false)) (And.intro @not_false_eq_true (And.intro @false_implies @true_implies))) (And.intro (And.intro @true_and (And.intro @and_true @false_and)) (And.intro (And.intro @and_false @Bool.false_eq_true) (And.intro @Bool.true_eq_false @Bool.not_true)))) (And.intro (And.intro (And.intro @Bool.not_false (And.intro @Bool.and_self @decide_true)) (And.intro (And.intro @decide_false @Nat.add_assoc) (And.intro @Nat.zero_mul @Nat.one_mul))) (And.intro (And.intro @Nat.zero_le (And.intro @true_or @or_true)) (And.intro (And.intro @false_or @or_false) (And.intro @not_true @not_false_iff))))))
def nrm := (And.intro (And.intro (And.intro (And.intro @zy @QS) (And.intro @QV (And.intro @KU @QR))) (And.intro (And.intro @IU @VK) (And.intro @w7 (And.intro @w6 @eI_ok.normL)))) (And.intro (And.intro (And.intro @uY.normL @eB_ok.normL) (And.intro @eS_ok.normL (And.intro @KQ @KR))) (And.intro (And.intro @KS (And.intro @KT @eI_ok.showL)) (And.intro @uY.showL (And.intro @eB_ok.showL @eS_ok.showL)))))
def tre := (And.intro (And.intro (And.intro @RA @R9) (And.intro @Az (And.intro @AB @AD))) (And.intro (And.intro @AE (And.intro @eI_ok.treeL @uY.treeL)) (And.intro @eB_ok.treeL (And.intro @eS_ok.treeL @KV))))
end Go.V
end
