/- Part of a proof. -/
import Derived.Test.YtmhlghgbfmcdaaaGreatDoorL1bd
set_option linter.all false
section
namespace Go.V
open Go
set_option linter.defProp false
section
variable {P : Program} {G : Glob} {n : Nat} {γ : Nat} {tm : Nat → VV} {H : Nat → Option VObj} {nx : Nat} {df : List VDef} {K : St → Prop} {Kd : List Nat → List Nat → St → Prop} {Qp : VV → St → Prop}
 {d : Option Tmp} {ty : TypeId} {pos : String} {af : Array Edge} {g : Option (Nat × Bool)}
section
variable {a b : Prop} {x y : VV} {k : VV → Prop}
theorem HF : guardK (.lit (.bool true)) true a b = a := by simp [guardK]
theorem HG : guardK (.lit (.bool true)) false a b = b := by simp [guardK]
theorem HH : guardK (.lit (.bool false)) true a b = b := by simp [guardK]
theorem HI : guardK (.lit (.bool false)) false a b = a := by simp [guardK]
theorem HJ {w : Bool} : guardK (.lit undef) w a b = b := rfl
theorem HK : pickK (.lit (.bool true)) x y k = k x := by simp [pickK]
theorem HL : pickK (.lit (.bool false)) x y k = k y := by simp [pickK]
theorem HM : condK (.lit (.bool true)) a b = a := by simp [condK]
theorem HN : condK (.lit (.bool false)) a b = b := by simp [condK]
end
theorem iE : leafL [] = true := rfl
theorem iF {x : VV} {xs : List VV} : leafL (x :: xs) = (x.leaf && leafL xs) := rfl
theorem wX {k : IntKind} {i : Int} : (VV.lit (.int k i)).leaf = true := rfl
theorem wY {b : Bool} : (VV.lit (.bool b)).leaf = true := rfl
theorem wZ {b : ByteArray} : (VV.lit (.string b)).leaf = true := rfl
theorem xa {b : Option Addr} {l c : Nat} : (VV.lit (.slice b l c)).leaf = true := rfl
theorem xc {cs : List VV} {k : Nat} {f : Bool} : (VV.sl cs k f).leaf = true := rfl
theorem HO {β o l e c : Nat} : (VV.ref β o l e c).leaf = true := rfl
theorem JR {cs : List VV} : aK (.agg cs) = if leafL cs = true then some cs else none := by simp only [aK, wO]
theorem vcells1 {x : VV} (h : x.leaf = true) : aK x = some [x] := by
 cases x <;> first | rfl | (simp [aK, h]; done) | cases h
theorem HP {k : IntKind} {i : Int} : aK (.lit (.int k i)) = some [.lit (.int k i)] := rfl
theorem RT {b : Bool} : aK (.lit (.bool b)) = some [.lit (.bool b)] := rfl
theorem RU {b : ByteArray} : aK (.lit (.string b)) = some [.lit (.string b)] := rfl
theorem RV {b : Option Addr} {l c : Nat} : aK (.lit (.slice b l c)) = some [.lit (.slice b l c)] := rfl
theorem HQ {cs : List VV} {k : Nat} {f : Bool} : aK (.sl cs k f) = some [.sl cs k f] := rfl
theorem HR {β o l e c : Nat} : aK (.ref β o l e c) = some [.ref β o l e c] := rfl
theorem RW {cs xs : List VV} {off : Nat} : overwrite cs off xs = cs.take off ++ (xs ++ cs.drop (off + xs.length)) := by simp [overwrite, List.append_assoc]
def vzl (P : Program) (t : TypeId) : Option (List VV) := (vzero P t).map fun z => z.toList.map ofVal1
theorem RX {t : TypeId} : aH P G γ ⟨d, .alloc t, ty, pos, af, g⟩ ⟨tm, H, nx, df⟩ K Qp = (match vzl P t with | some cs => fin d γ tm H nx df K (.ptr γ 0) (.new (.cells (some t) cs)) | none => False) := by
 rw [Dp]; unfold vzl; cases vzero P t <;> rfl
theorem RY {t : TypeId} : aB P G γ ⟨d, .alloc t, ty, pos, af, g⟩ ⟨tm, H, nx, df⟩ Kd = (match vzl P t with | some cs => fin d γ tm H nx df (Kd (rdV ⟨d, .alloc t, ty, pos, af, g⟩ (ev G tm)) [γ]) (.ptr γ 0) (.new (.cells (some t) cs)) | none => False) := by
 rw [PI]; unfold vzl; cases vzero P t <;> rfl
def vstoreV (P : Program) (H : Nat → Option VObj) (t : TypeId) (a x : VV) : Option (VV × VEff) := match a with
  | .ptr β off => match H β, aK x, szT P t with
   | some (.cells el cs), some xs, some n => if xs.length = n ∧ off + n ≤ cs.length then some (.any, .upd β (.cells el (overwrite cs off xs))) else none
   | _, _, _ => none
  | _ => none
theorem RZ {t : TypeId} {a x : Operand} : aH P G γ ⟨d, .store t a x, ty, pos, af, g⟩ ⟨tm, H, nx, df⟩ K Qp = oeK (vstoreV P H t (ev G tm a) (ev G tm x)) (fun y e => fin d γ tm H nx df K y e) := by
 rw [Ds]; rfl
theorem Sa {t : TypeId} {x : VV} {β off : Nat} : vstoreV P H t (.ptr β off) x = (match H β, aK x, szT P t with
   | some (.cells el cs), some xs, some n => if xs.length = n ∧ off + n ≤ cs.length then some (.any, .upd β (.cells el (overwrite cs off xs))) else none
   | _, _, _ => none) := rfl
end
def eI (n : Int) : List VV := [.lit (.int .i64 n)]
def rV (n : Int) : List VV := [.lit (.int .u8 n)]
def eB (b : Bool) : List VV := [.lit (.bool b)]
def eS (s : ByteArray) : List VV := [.lit (.string s)]
def eSl {α : Type} (enc : α → List VV) (xs : List α) : List VV := [.sl (aa enc xs) xs.length false]
theorem eI_eq {n : Int} : eI n = [.lit (.int .i64 n)] := rfl
theorem mZ {n : Int} : rV n = [.lit (.int .u8 n)] := rfl
theorem eB_eq {b : Bool} : eB b = [.lit (.bool b)] := rfl
theorem eS_eq {s : ByteArray} : eS s = [.lit (.string s)] := rfl
theorem na {α : Type} {enc : α → List VV} {xs : List α} : eSl enc xs = [.sl (aa enc xs) xs.length false] := rfl
structure EncOk {α : Type} (enc : α → List VV) : Prop where
 tree : ∀ x, treeL (enc x) = true
 norm : ∀ x, normL (enc x) = enc x
 shown : ∀ x H d, (enc x).map (showV H d) = enc x
theorem eI_ok : EncOk eI := ⟨fun _ => rfl, fun _ => rfl, fun _ _ d => by cases d <;> rfl⟩
theorem rR : EncOk rV := ⟨fun _ => rfl, fun _ => rfl, fun _ _ d => by cases d <;> rfl⟩
theorem eB_ok : EncOk eB := ⟨fun _ => rfl, fun _ => rfl, fun _ _ d => by cases d <;> rfl⟩
theorem eS_ok : EncOk eS := ⟨fun _ => rfl, fun _ => rfl, fun _ _ d => by cases d <;> rfl⟩
section
variable {α : Type} {enc : α → List VV} (h : EncOk enc)
include h
theorem EncOk.treeL (xs : List α) : Go.V.treeL (aa enc xs) = true := yJ h.tree xs
theorem EncOk.normL (xs : List α) : Go.V.normL (aa enc xs) = aa enc xs := yI h.norm xs
theorem EncOk.showL (xs : List α) (H : Nat → Option VObj) (d : Nat) : (aa enc xs).map (showV H d) = aa enc xs := JC (fun x => h.shown x H d) xs
theorem EncOk.sl : EncOk (eSl enc) := ⟨fun x => by simp [eSl, Go.V.treeL, VV.tree, h.treeL], fun x => by simp [eSl, Go.V.normL, normV, h.normL], fun x H d => by cases d <;> rfl⟩
end
theorem EncOk.of {α : Type} {enc : α → List VV} (h1 : ∀ x, Go.V.treeL (enc x) = true) (h2 : ∀ x, Go.V.normL (enc x) = enc x) (h3 : ∀ x H d, (enc x).map (showV H d) = enc x) : EncOk enc := ⟨h1, h2, h3⟩
theorem HS {H : Nat → Option VObj} {d : Nat} {v : Value} : showV H d (.lit v) = .lit v := by cases d <;> rfl
theorem HT {H : Nat → Option VObj} {d n : Nat} {cs : List VV} {f : Bool} : showV H d (.sl cs n f) = .sl cs n f := by cases d <;> rfl
theorem gG {H : Nat → Option VObj} {d β off len es cp : Nat} : showV H (d + 1) (.ref β off len es cp) = (match H β with
   | some (.cells _ cs) => if off ≤ cs.length then .sl (((cs.drop off).take (len * es)).map (showV H d)) len false else .ref β off len es cp
   | _ => .ref β off len es cp) := rfl
theorem HU {H : Nat → Option VObj} {d : Nat} {cs : List VV} : showV H (d + 1) (.agg cs) = .agg (cs.map (showV H d)) := rfl
theorem HV {H : Nat → Option VObj} {d : Nat} {cs : List VV} : showV H (d + 1) (.tup cs) = .tup (cs.map (showV H d)) := rfl
theorem tO {cs : List VV} {n : Nat} {f : Bool} : normV (.sl cs n f) = .sl (normL cs) n false := by simp [normV]
theorem JU : normV (.lit (.slice none 0 0)) = .sl [] 0 false := by simp [normV]
theorem JV {cs : List VV} : normV (.agg cs) = .agg (normL cs) := by simp [normV]
theorem HW {cs : List VV} : normV (.tup cs) = .tup (normL cs) := by simp [normV]
theorem JS {k : IntKind} {n : Int} : normV (.lit (.int k n)) = .lit (.int k n) := by simp [normV]
theorem zb {b : Bool} : normV (.lit (.bool b)) = .lit (.bool b) := by simp [normV]
theorem Sb {b : ByteArray} : normV (.lit (.string b)) = .lit (.string b) := by simp [normV]
theorem p7 : normL [] = [] := rfl
theorem pz {x : VV} {xs : List VV} : normL (x :: xs) = normV x :: normL xs := by simp [normL]
theorem HX : VV.tree .any = true := rfl
def vs := (And.intro (And.intro (And.intro (And.intro (And.intro (And.intro (And.intro @D1 @O0) (And.intro @D4 @D2)) (And.intro (And.intro @D6 @D5) (And.intro @D3 @O1))) (And.intro (And.intro (And.intro @D8 @D7) (And.intro @O3 @O4)) (And.intro (And.intro @D9 @Dz) (And.intro @D0 @Dd)))) (And.intro (And.intro (And.intro (And.intro @Di @Dh) (And.intro @O6 @Dj)) (And.intro (And.intro @Oo @Dm) (And.intro @Dn @Dk))) (And.intro (And.intro (And.intro @Dl @Ou) (And.intro @Dt @KK)) (And.intro (And.intro @KJ @uI) (And.intro @Dv (And.intro @pT @pV)))))) (And.intro (And.intro (And.intro (And.intro (And.intro @DA @pU) (And.intro @oc @DD)) (And.intro (And.intro @DC @DI) (And.intro @DL @De))) (And.intro (And.intro (And.intro @Dg @argsTm1) (And.intro @argsTm2 @PU)) (And.intro (And.intro @F4 @PT) (And.intro @Fv (And.intro @PB @PC))))) (And.intro (And.intro (And.intro (And.intro @Fx @Fy) (And.intro @PD @PE)) (And.intro (And.intro @PF @PG) (And.intro @Fz @F0))) (And.intro (And.intro (And.intro @PH @F2) (And.intro @PK @F3)) (And.intro (And.intro @Oq @Ot) (And.intro @KI (And.intro @Dr @Ow))))))) (And.intro (And.intro (And.intro (And.intro (And.intro (And.intro @DG @DH) (And.intro @DE @DF)) (And.intro (And.intro @DJ @DK) (And.intro @argsTm3 @argsTm4))) (And.intro (And.intro (And.intro @argsTm5 @uK) (And.intro @uJ @KL)) (And.intro (And.intro @yD @MS) (And.intro @yB (And.intro @yC @HF))))) (And.intro (And.intro (And.intro (And.intro @HG @HH) (And.intro @HI @HJ)) (And.intro (And.intro @HK @HL) (And.intro @HM @HN))) (And.intro (And.intro (And.intro @Du @Oz) (And.intro @Ox @Oy)) (And.intro (And.intro @RZ @Sa) (And.intro @RX (And.intro @Dq @iE)))))) (And.intro (And.intro (And.intro (And.intro (And.intro @iF @wX) (And.intro @wY @wZ)) (And.intro (And.intro @xa @xc) (And.intro @HO @JR))) (And.intro (And.intro (And.intro @HP @RT) (And.intro @RU @RV)) (And.intro (And.intro @HQ @HR) (And.intro @RW (And.intro @Ov @RY))))) (And.intro (And.intro (And.intro (And.intro @F1 @PJ) (And.intro @PN @PL)) (And.intro (And.intro @PM @Dw) (And.intro @Dx @Dy))) (And.intro (And.intro (And.intro @DB @O7) (And.intro @Df @aS)) (And.intro (And.intro @aT @O2) (And.intro @O5 (And.intro @cE @cF))))))))
section
variable {i : Nat} {a : Oper} {l : List Oper} {x : VV} {xs ys : List VV}
theorem HY : (a :: l)[i + 1]? = l[i]? := rfl
theorem HZ : (a :: l)[0]? = some a := rfl
theorem Ia : (x :: xs)[i + 1]? = xs[i]? := rfl
theorem Ib : (x :: xs)[0]? = some x := rfl
theorem Ic {f : Oper → Option Tmp} : (some a).bind f = f a := rfl
theorem Ie {f : List VV → Option VV} : (some xs).bind f = f xs := rfl
theorem Ig {f : VV → VV} : (some x).map f = some (f x) := rfl
theorem Ih : (a :: l).length = l.length + 1 := rfl
theorem Ii : ([] : List Oper).length = 0 := rfl
theorem Ij : (x :: xs).length = xs.length + 1 := rfl
theorem Ik : ([] : List VV).length = 0 := rfl
theorem Il {f : Operand → VV} {o : Operand} {os : List Operand} : (o :: os).map f = f o :: os.map f := rfl
theorem Im {f : Operand → VV} : ([] : List Operand).map f = [] := rfl
theorem Io {f : Nat × Operand → Nat × VV} {o : Nat × Operand} {os : List (Nat × Operand)} : (o :: os).map f = f o :: os.map f := rfl
theorem Ip {f : Nat × Operand → Nat × VV} : ([] : List (Nat × Operand)).map f = [] := rfl
theorem Iq {f : VV → VV} : (x :: xs).map f = f x :: xs.map f := rfl
theorem Ir {f : VV → VV} : ([] : List VV).map f = [] := rfl
theorem cY : (x :: xs) ++ ys = x :: (xs ++ ys) := rfl
theorem cZ : [] ++ ys = ys := rfl
theorem Is : (x :: xs).drop (i + 1) = xs.drop i := rfl
theorem It : xs.drop 0 = xs := by simp
theorem Iu : (x :: xs).take (i + 1) = x :: xs.take i := rfl
theorem Iv : xs.take 0 = [] := by simp
theorem Iw {o : VObj} : (some o).isSome = true := rfl
theorem m_nil : (([] : List Nat) = []) = True := by simp
theorem m_ne {a b : Bool} : (a ≠ b) = ¬ (a = b) := rfl
theorem m_neN {a b : Nat} : (a ≠ b) = ¬ (a = b) := rfl
end
def cr := (And.intro (And.intro (And.intro (And.intro (And.intro @HY (And.intro @HZ @Ia)) (And.intro @Ib (And.intro @Ic @Ie))) (And.intro (And.intro @Ig (And.intro @Ih @Ii)) (And.intro (And.intro @Ij @Ik) (And.intro @Il @Im)))) (And.intro (And.intro (And.intro @Io (And.intro @Ip @Iq)) (And.intro @Ir (And.intro @cY @cZ))) (And.intro (And.intro @Is (And.intro @It @Iu)) (And.intro (And.intro @Iv @Iw) (And.intro @m_nil @m_ne))))) (And.intro (And.intro (And.intro (And.intro @m_neN (And.intro @Nat.zero_add @not_true_eq_false)) (And.intro @not_false_eq_true (And.intro @false_implies @true_implies))) (And.intro (And.intro @true_and (And.intro @and_true @false_and)) (And.intro (And.intro @and_false @Bool.false_eq_true) (And.intro @Bool.true_eq_false @Bool.not_true)))) (And.intro (And.intro (And.intro @Bool.not_false (And.intro @Bool.and_self @decide_true)) (And.intro (And.intro @decide_false @Nat.add_assoc) (And.intro @Nat.zero_mul @Nat.one_mul))) (And.intro (And.intro @Nat.zero_le (And.intro @true_or @or_true)) (And.intro (And.intro @false_or @or_false) (And.intro @not_true @not_false_iff))))))
def nrm := (And.intro (And.intro (And.intro (And.intro @tO @JU) (And.intro @JV (And.intro @HW @JS))) (And.intro (And.intro @zb @Sb) (And.intro @p7 (And.intro @pz @eI_ok.normL)))) (And.intro (And.intro (And.intro @rR.normL @eB_ok.normL) (And.intro @eS_ok.normL (And.intro @HS @HT))) (And.intro (And.intro @HU (And.intro @HV @eI_ok.showL)) (And.intro @rR.showL (And.intro @eB_ok.showL @eS_ok.showL)))))
def tre := (And.intro (And.intro (And.intro @KJ @KK) (And.intro @uI (And.intro @uK @uJ))) (And.intro (And.intro @KL (And.intro @eI_ok.treeL @rR.treeL)) (And.intro @eB_ok.treeL (And.intro @eS_ok.treeL @HX))))
end Go.V
end
