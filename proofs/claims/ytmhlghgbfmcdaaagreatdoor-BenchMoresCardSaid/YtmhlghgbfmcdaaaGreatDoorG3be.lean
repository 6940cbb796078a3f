/- Part of a proof. -/
import Derived.Test.YtmhlghgbfmcdaaaGreatDoorG3bd
set_option linter.all false
section
namespace Go.V
open Go
set_option linter.defProp false
section
variable {P : Program} {G : Glob} {n : Nat} {γ : Nat} {tm : Nat → VV} {H : Nat → Option VObj} {nx : Nat} {df : List VDef} {K : St → Prop} {Kd : List Nat → List Nat → St → Prop} {Qp : VV → St → Prop}
 {d : Option Tmp} {ty : TypeId} {pos : String} {af : Array Edge} {g : Option (Nat × Bool)}
section
variable {a b : Prop} {x y : VV} {k : VV → Prop}
theorem Hv : guardK (.lit (.bool true)) true a b = a := by simp [guardK]
theorem Hw : guardK (.lit (.bool true)) false a b = b := by simp [guardK]
theorem Hx : guardK (.lit (.bool false)) true a b = b := by simp [guardK]
theorem Hy : guardK (.lit (.bool false)) false a b = a := by simp [guardK]
theorem Hz {w : Bool} : guardK (.lit undef) w a b = b := rfl
theorem HA : pickK (.lit (.bool true)) x y k = k x := by simp [pickK]
theorem HB : pickK (.lit (.bool false)) x y k = k y := by simp [pickK]
theorem HC : condK (.lit (.bool true)) a b = a := by simp [condK]
theorem HD : condK (.lit (.bool false)) a b = b := by simp [condK]
end
theorem fQ : leafL [] = true := rfl
theorem fR {x : VV} {xs : List VV} : leafL (x :: xs) = (x.leaf && leafL xs) := rfl
theorem yi {k : IntKind} {i : Int} : (VV.lit (.int k i)).leaf = true := rfl
theorem yj {b : Bool} : (VV.lit (.bool b)).leaf = true := rfl
theorem yk {b : ByteArray} : (VV.lit (.string b)).leaf = true := rfl
theorem ym {b : Option Addr} {l c : Nat} : (VV.lit (.slice b l c)).leaf = true := rfl
theorem yn {cs : List VV} {k : Nat} {f : Bool} : (VV.sl cs k f).leaf = true := rfl
theorem HE {β o l e c : Nat} : (VV.ref β o l e c).leaf = true := rfl
theorem JP {cs : List VV} : aT (.agg cs) = if leafL cs = true then some cs else none := by simp only [aT, rV]
theorem vcells1 {x : VV} (h : x.leaf = true) : aT x = some [x] := by
 cases x <;> first | rfl | (simp [aT, h]; done) | cases h
theorem HF {k : IntKind} {i : Int} : aT (.lit (.int k i)) = some [.lit (.int k i)] := rfl
theorem RB {b : Bool} : aT (.lit (.bool b)) = some [.lit (.bool b)] := rfl
theorem RE {b : ByteArray} : aT (.lit (.string b)) = some [.lit (.string b)] := rfl
theorem HG {b : Option Addr} {l c : Nat} : aT (.lit (.slice b l c)) = some [.lit (.slice b l c)] := rfl
theorem HI {cs : List VV} {k : Nat} {f : Bool} : aT (.sl cs k f) = some [.sl cs k f] := rfl
theorem HJ {β o l e c : Nat} : aT (.ref β o l e c) = some [.ref β o l e c] := rfl
theorem RF {cs xs : List VV} {off : Nat} : overwrite cs off xs = cs.take off ++ (xs ++ cs.drop (off + xs.length)) := by simp [overwrite, List.append_assoc]
def vzl (P : Program) (t : TypeId) : Option (List VV) := (vzero P t).map fun z => z.toList.map ofVal1
theorem RG {t : TypeId} : aP P G γ ⟨d, .alloc t, ty, pos, af, g⟩ ⟨tm, H, nx, df⟩ K Qp = (match vzl P t with | some cs => fin d γ tm H nx df K (.ptr γ 0) (.new (.cells (some t) cs)) | none => False) := by
 rw [El]; unfold vzl; cases vzero P t <;> rfl
theorem RH {t : TypeId} : aH P G γ ⟨d, .alloc t, ty, pos, af, g⟩ ⟨tm, H, nx, df⟩ Kd = (match vzl P t with | some cs => fin d γ tm H nx df (Kd (rdV ⟨d, .alloc t, ty, pos, af, g⟩ (ev G tm)) [γ]) (.ptr γ 0) (.new (.cells (some t) cs)) | none => False) := by
 rw [Re]; unfold vzl; cases vzero P t <;> rfl
def vstoreV (P : Program) (H : Nat → Option VObj) (t : TypeId) (a x : VV) : Option (VV × VEff) := match a with
  | .ptr β off => match H β, aT x, szT P t with
   | some (.cells el cs), some xs, some n => if xs.length = n ∧ off + n ≤ cs.length then some (.any, .upd β (.cells el (overwrite cs off xs))) else none
   | _, _, _ => none
  | _ => none
theorem RI {t : TypeId} {a x : Operand} : aP P G γ ⟨d, .store t a x, ty, pos, af, g⟩ ⟨tm, H, nx, df⟩ K Qp = oeK (vstoreV P H t (ev G tm a) (ev G tm x)) (fun y e => fin d γ tm H nx df K y e) := by
 rw [Ep]; rfl
theorem RJ {t : TypeId} {x : VV} {β off : Nat} : vstoreV P H t (.ptr β off) x = (match H β, aT x, szT P t with
   | some (.cells el cs), some xs, some n => if xs.length = n ∧ off + n ≤ cs.length then some (.any, .upd β (.cells el (overwrite cs off xs))) else none
   | _, _, _ => none) := rfl
end
def eI (n : Int) : List VV := [.lit (.int .i64 n)]
def qC (n : Int) : List VV := [.lit (.int .u8 n)]
def eB (b : Bool) : List VV := [.lit (.bool b)]
def eS (s : ByteArray) : List VV := [.lit (.string s)]
def eSl {α : Type} (enc : α → List VV) (xs : List α) : List VV := [.sl (ae enc xs) xs.length false]
theorem eI_eq {n : Int} : eI n = [.lit (.int .i64 n)] := rfl
theorem nX {n : Int} : qC n = [.lit (.int .u8 n)] := rfl
theorem eB_eq {b : Bool} : eB b = [.lit (.bool b)] := rfl
theorem eS_eq {s : ByteArray} : eS s = [.lit (.string s)] := rfl
theorem nY {α : Type} {enc : α → List VV} {xs : List α} : eSl enc xs = [.sl (ae enc xs) xs.length false] := rfl
structure EncOk {α : Type} (enc : α → List VV) : Prop where
 tree : ∀ x, treeL (enc x) = true
 norm : ∀ x, normL (enc x) = enc x
 shown : ∀ x H d, (enc x).map (showV H d) = enc x
theorem eI_ok : EncOk eI := ⟨fun _ => rfl, fun _ => rfl, fun _ _ d => by cases d <;> rfl⟩
theorem qs : EncOk qC := ⟨fun _ => rfl, fun _ => rfl, fun _ _ d => by cases d <;> rfl⟩
theorem eB_ok : EncOk eB := ⟨fun _ => rfl, fun _ => rfl, fun _ _ d => by cases d <;> rfl⟩
theorem eS_ok : EncOk eS := ⟨fun _ => rfl, fun _ => rfl, fun _ _ d => by cases d <;> rfl⟩
section
variable {α : Type} {enc : α → List VV} (h : EncOk enc)
include h
theorem EncOk.treeL (xs : List α) : Go.V.treeL (ae enc xs) = true := BC h.tree xs
theorem EncOk.normL (xs : List α) : Go.V.normL (ae enc xs) = ae enc xs := BD h.norm xs
theorem EncOk.showL (xs : List α) (H : Nat → Option VObj) (d : Nat) : (ae enc xs).map (showV H d) = ae enc xs := KL (fun x => h.shown x H d) xs
theorem EncOk.sl : EncOk (eSl enc) := ⟨fun x => by simp [eSl, Go.V.treeL, VV.tree, h.treeL], fun x => by simp [eSl, Go.V.normL, normV, h.normL], fun x H d => by cases d <;> rfl⟩
end
theorem EncOk.of {α : Type} {enc : α → List VV} (h1 : ∀ x, Go.V.treeL (enc x) = true) (h2 : ∀ x, Go.V.normL (enc x) = enc x) (h3 : ∀ x H d, (enc x).map (showV H d) = enc x) : EncOk enc := ⟨h1, h2, h3⟩
theorem HK {H : Nat → Option VObj} {d : Nat} {v : Value} : showV H d (.lit v) = .lit v := by cases d <;> rfl
theorem HL {H : Nat → Option VObj} {d n : Nat} {cs : List VV} {f : Bool} : showV H d (.sl cs n f) = .sl cs n f := by cases d <;> rfl
theorem eD {H : Nat → Option VObj} {d β off len es cp : Nat} : showV H (d + 1) (.ref β off len es cp) = (match H β with
   | some (.cells _ cs) => if off ≤ cs.length then .sl (((cs.drop off).take (len * es)).map (showV H d)) len false else .ref β off len es cp
   | _ => .ref β off len es cp) := rfl
theorem HM {H : Nat → Option VObj} {d : Nat} {cs : List VV} : showV H (d + 1) (.agg cs) = .agg (cs.map (showV H d)) := rfl
theorem HN {H : Nat → Option VObj} {d : Nat} {cs : List VV} : showV H (d + 1) (.tup cs) = .tup (cs.map (showV H d)) := rfl
theorem sR {cs : List VV} {n : Nat} {f : Bool} : normV (.sl cs n f) = .sl (normL cs) n false := by simp [normV]
theorem JU : normV (.lit (.slice none 0 0)) = .sl [] 0 false := by simp [normV]
theorem JW {cs : List VV} : normV (.agg cs) = .agg (normL cs) := by simp [normV]
theorem HO {cs : List VV} : normV (.tup cs) = .tup (normL cs) := by simp [normV]
theorem JR {k : IntKind} {n : Int} : normV (.lit (.int k n)) = .lit (.int k n) := by simp [normV]
theorem Af {b : Bool} : normV (.lit (.bool b)) = .lit (.bool b) := by simp [normV]
theorem RK {b : ByteArray} : normV (.lit (.string b)) = .lit (.string b) := by simp [normV]
theorem oq : normL [] = [] := rfl
theorem mD {x : VV} {xs : List VV} : normL (x :: xs) = normV x :: normL xs := by simp [normL]
theorem HP : VV.tree .any = true := rfl
def vs := (And.intro (And.intro (And.intro (And.intro (And.intro (And.intro (And.intro @E0 @E6) (And.intro @E3 @E1)) (And.intro (And.intro @E5 @E4) (And.intro @E2 @P4))) (And.intro (And.intro (And.intro @E8 @E7) (And.intro @P6 @EA)) (And.intro (And.intro @E9 @Ey) (And.intro @Ez @DY)))) (And.intro (And.intro (And.intro (And.intro @Ee @Ec) (And.intro @P8 @Ef)) (And.intro (And.intro @Px @Ej) (And.intro @Ek @Eg))) (And.intro (And.intro (And.intro @Eh @Pz) (And.intro @Es @At)) (And.intro (And.intro @LN @Av) (And.intro @Eu (And.intro @kV @pJ)))))) (And.intro (And.intro (And.intro (And.intro (And.intro @EB @kW) (And.intro @jM @EF)) (And.intro (And.intro @ED @EK) (And.intro @EN @DZ))) (And.intro (And.intro (And.intro @Eb @argsTm1) (And.intro @argsTm2 @Rq)) (And.intro (And.intro @GS @Ro) (And.intro @GL (And.intro @QU @QV))))) (And.intro (And.intro (And.intro (And.intro @GM @QW) (And.intro @QX @QY)) (And.intro (And.intro @QZ @Rc) (And.intro @GN @GO))) (And.intro (And.intro (And.intro @Rd @GQ) (And.intro @Rg @GR)) (And.intro (And.intro @Py @Ei) (And.intro @LM (And.intro @Eo @P1))))))) (And.intro (And.intro (And.intro (And.intro (And.intro (And.intro @EI @EJ) (And.intro @EG @EH)) (And.intro (And.intro @EL @EM) (And.intro @argsTm3 @argsTm4))) (And.intro (And.intro (And.intro @argsTm5 @uF) (And.intro @uD @uE)) (And.intro (And.intro @HQ @RL) (And.intro @HR (And.intro @HS @Hv))))) (And.intro (And.intro (And.intro (And.intro @Hw @Hx) (And.intro @Hy @Hz)) (And.intro (And.intro @HA @HB) (And.intro @HC @HD))) (And.intro (And.intro (And.intro @Et @P3) (And.intro @Er @P2)) (And.intro (And.intro @RI @RJ) (And.intro @RG (And.intro @Em @fQ)))))) (And.intro (And.intro (And.intro (And.intro (And.intro @fR @yi) (And.intro @yj @yk)) (And.intro (And.intro @ym @yn) (And.intro @HE @JP))) (And.intro (And.intro (And.intro @HF @RB) (And.intro @RE @HG)) (And.intro (And.intro @HI @HJ) (And.intro @RF (And.intro @P0 @RH))))) (And.intro (And.intro (And.intro (And.intro @GP @Rf) (And.intro @Rj @Rh)) (And.intro (And.intro @Ri @Ev) (And.intro @Ew @Ex))) (And.intro (And.intro (And.intro @EC @P9) (And.intro @Ea @aK)) (And.intro (And.intro @bk @P5) (And.intro @P7 (And.intro @cv @cw))))))))
section
variable {i : Nat} {a : Oper} {l : List Oper} {x : VV} {xs ys : List VV}
theorem HT : (a :: l)[i + 1]? = l[i]? := rfl
theorem HU : (a :: l)[0]? = some a := rfl
theorem HV : (x :: xs)[i + 1]? = xs[i]? := rfl
theorem HW : (x :: xs)[0]? = some x := rfl
theorem HX {f : Oper → Option Tmp} : (some a).bind f = f a := rfl
theorem HY {f : List VV → Option VV} : (some xs).bind f = f xs := rfl
theorem HZ {f : VV → VV} : (some x).map f = some (f x) := rfl
theorem Ia : (a :: l).length = l.length + 1 := rfl
theorem Ib : ([] : List Oper).length = 0 := rfl
theorem Ic : (x :: xs).length = xs.length + 1 := rfl
theorem Ie : ([] : List VV).length = 0 := rfl
theorem Ig {f : Operand → VV} {o : Operand} {os : List Operand} : (o :: os).map f = f o :: os.map f := rfl
theorem Ih {f : Operand → VV} : ([] : List Operand).map f = [] := rfl
theorem Ii {f : Nat × Operand → Nat × VV} {o : Nat × Operand} {os : List (Nat × Operand)} : (o :: os).map f = f o :: os.map f := rfl
theorem Ij {f : Nat × Operand → Nat × VV} : ([] : List (Nat × Operand)).map f = [] := rfl
theorem Ik {f : VV → VV} : (x :: xs).map f = f x :: xs.map f := rfl
theorem Il {f : VV → VV} : ([] : List VV).map f = [] := rfl
theorem fE : (x :: xs) ++ ys = x :: (xs ++ ys) := rfl
theorem fF : [] ++ ys = ys := rfl
theorem Im : (x :: xs).drop (i + 1) = xs.drop i := rfl
theorem Io : xs.drop 0 = xs := by simp
theorem Ip : (x :: xs).take (i + 1) = x :: xs.take i := rfl
theorem Iq : xs.take 0 = [] := by simp
theorem Ir {o : VObj} : (some o).isSome = true := rfl
theorem m_nil : (([] : List Nat) = []) = True := by simp
theorem m_ne {a b : Bool} : (a ≠ b) = ¬ (a = b) := rfl
theorem m_neN {a b : Nat} : (a ≠ b) = ¬ (a = b) := rfl
end
def cr := (And.intro (And.intro (And.intro (And.intro (And.intro @HT (And.intro @HU @HV)) (And.intro @HW (And.intro @HX @HY))) (And.intro (And.intro @HZ (And.intro @Ia @Ib)) (And.intro (And.intro @Ic @Ie) (And.intro @Ig @Ih)))) (And.intro (And.intro (And.intro @Ii (And.intro @Ij @Ik)) (And.intro @Il (And.intro @fE @fF))) (And.intro (And.intro @Im (And.intro @Io @Ip)) (And.intro (And.intro @Iq @Ir) (And.intro @m_nil @m_ne))))) (And.intro (And.intro (And.intro (And.intro @m_neN (And.intro @Nat.zero_add @not_true_eq_false)) (And.intro @not_false_eq_true (And.intro @false_implies @true_implies))) (And.intro (And.intro @true_and (And.intro @and_true @false_and)) (And.intro (And.intro @and_false @Bool.false_eq_true) (And.intro @Bool.true_eq_false @Bool.not_true)))) (And.intro (And.intro (And.intro @Bool.not_false (And.intro @Bool.and_self @decide_true)) (And.intro (And.intro @decide_false @Nat.add_assoc) (And.intro @Nat.zero_mul @Nat.one_mul))) (And.intro (And.intro @Nat.zero_le (And.intro @true_or @or_true)) (And.intro (And.intro @false_or @or_false) (And.intro @not_true @not_false_iff))))))
def nrm := (And.intro (And.intro (And.intro (And.intro @sR @JU) (And.intro @JW (And.intro @HO @JR))) (And.intro (And.intro @Af @RK) (And.intro @oq (And.intro @mD @eI_ok.normL)))) (And.intro (And.intro (And.intro @qs.normL @eB_ok.normL) (And.intro @eS_ok.normL (And.intro @HK @HL))) (And.intro (And.intro @HM (And.intro @HN @eI_ok.showL)) (And.intro @qs.showL (And.intro @eB_ok.showL @eS_ok.showL)))))
def tre := (And.intro (And.intro (And.intro @LN @At) (And.intro @Av (And.intro @uF @uD))) (And.intro (And.intro @uE (And.intro @eI_ok.treeL @qs.treeL)) (And.intro @eB_ok.treeL (And.intro @eS_ok.treeL @HP))))
end Go.V
end
