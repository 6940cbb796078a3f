/- Part of a proof. -/
import Derived.Test.YtmhlghgbfmcdaaaGreatDoorG4bd
set_option linter.all false
section
namespace Go.V
open Go
set_option linter.defProp false
section
variable {P : Program} {G : Glob} {n : Nat} {γ : Nat} {tm : Nat → VV} {H : Nat → Option VObj} {nx : Nat} {df : List VDef} {K : St → Prop} {Kd : List Nat → List Nat → St → Prop} {Qp : VV → St → Prop}
 {d : Option Tmp} {ty : TypeId} {pos : String} {af : Array Edge} {g : Option (Nat × Bool)}
section
variable {a b : Prop} {x y : VV} {k : VV → Prop}
theorem Is : guardK (.lit (.bool true)) true a b = a := by simp [guardK]
theorem It : guardK (.lit (.bool true)) false a b = b := by simp [guardK]
theorem Iu : guardK (.lit (.bool false)) true a b = b := by simp [guardK]
theorem Iv : guardK (.lit (.bool false)) false a b = a := by simp [guardK]
theorem Iw {w : Bool} : guardK (.lit undef) w a b = b := rfl
theorem Ix : pickK (.lit (.bool true)) x y k = k x := by simp [pickK]
theorem Iy : pickK (.lit (.bool false)) x y k = k y := by simp [pickK]
theorem Iz : condK (.lit (.bool true)) a b = a := by simp [condK]
theorem I8 : condK (.lit (.bool false)) a b = b := by simp [condK]
end
theorem gg : leafL [] = true := rfl
theorem gh {x : VV} {xs : List VV} : leafL (x :: xs) = (x.leaf && leafL xs) := rfl
theorem C6 {k : IntKind} {i : Int} : (VV.lit (.int k i)).leaf = true := rfl
theorem C7 {b : Bool} : (VV.lit (.bool b)).leaf = true := rfl
theorem C8 {b : ByteArray} : (VV.lit (.string b)).leaf = true := rfl
theorem C9 {b : Option Addr} {l c : Nat} : (VV.lit (.slice b l c)).leaf = true := rfl
theorem pk {cs : List VV} {k : Nat} {f : Bool} : (VV.sl cs k f).leaf = true := rfl
theorem IC {β o l e c : Nat} : (VV.ref β o l e c).leaf = true := rfl
theorem LG {cs : List VV} : aT (.agg cs) = if leafL cs = true then some cs else none := by simp only [aT, qM]
theorem vcells1 {x : VV} (h : x.leaf = true) : aT x = some [x] := by
 cases x <;> first | rfl | (simp [aT, h]; done) | cases h
theorem ID {k : IntKind} {i : Int} : aT (.lit (.int k i)) = some [.lit (.int k i)] := rfl
theorem Su {b : Bool} : aT (.lit (.bool b)) = some [.lit (.bool b)] := rfl
theorem Sv {b : ByteArray} : aT (.lit (.string b)) = some [.lit (.string b)] := rfl
theorem IE {b : Option Addr} {l c : Nat} : aT (.lit (.slice b l c)) = some [.lit (.slice b l c)] := rfl
theorem IF {cs : List VV} {k : Nat} {f : Bool} : aT (.sl cs k f) = some [.sl cs k f] := rfl
theorem Sw {β o l e c : Nat} : aT (.ref β o l e c) = some [.ref β o l e c] := rfl
theorem Sx {cs xs : List VV} {off : Nat} : overwrite cs off xs = cs.take off ++ (xs ++ cs.drop (off + xs.length)) := by simp [overwrite, List.append_assoc]
def vzl (P : Program) (t : TypeId) : Option (List VV) := (vzero P t).map fun z => z.toList.map ofVal1
theorem Sy {t : TypeId} : aN P G γ ⟨d, .alloc t, ty, pos, af, g⟩ ⟨tm, H, nx, df⟩ K Qp = (match vzl P t with | some cs => fin d γ tm H nx df K (.ptr γ 0) (.new (.cells (some t) cs)) | none => False) := by
 rw [zF]; unfold vzl; cases vzero P t <;> rfl
theorem Sz {t : TypeId} : aH P G γ ⟨d, .alloc t, ty, pos, af, g⟩ ⟨tm, H, nx, df⟩ Kd = (match vzl P t with | some cs => fin d γ tm H nx df (Kd (rdV ⟨d, .alloc t, ty, pos, af, g⟩ (ev G tm)) [γ]) (.ptr γ 0) (.new (.cells (some t) cs)) | none => False) := by
 rw [Sb]; unfold vzl; cases vzero P t <;> rfl
def vstoreV (P : Program) (H : Nat → Option VObj) (t : TypeId) (a x : VV) : Option (VV × VEff) := match a with
  | .ptr β off => match H β, aT x, szT P t with
   | some (.cells el cs), some xs, some n => if xs.length = n ∧ off + n ≤ cs.length then some (.any, .upd β (.cells el (overwrite cs off xs))) else none
   | _, _, _ => none
  | _ => none
theorem S0 {t : TypeId} {a x : Operand} : aN P G γ ⟨d, .store t a x, ty, pos, af, g⟩ ⟨tm, H, nx, df⟩ K Qp = oeK (vstoreV P H t (ev G tm a) (ev G tm x)) (fun y e => fin d γ tm H nx df K y e) := by
 rw [zI]; rfl
theorem S1 {t : TypeId} {x : VV} {β off : Nat} : vstoreV P H t (.ptr β off) x = (match H β, aT x, szT P t with
   | some (.cells el cs), some xs, some n => if xs.length = n ∧ off + n ≤ cs.length then some (.any, .upd β (.cells el (overwrite cs off xs))) else none
   | _, _, _ => none) := rfl
end
def eI (n : Int) : List VV := [.lit (.int .i64 n)]
def vb (n : Int) : List VV := [.lit (.int .u8 n)]
def eB (b : Bool) : List VV := [.lit (.bool b)]
def eS (s : ByteArray) : List VV := [.lit (.string s)]
def eSl {α : Type} (enc : α → List VV) (xs : List α) : List VV := [.sl (ae enc xs) xs.length false]
theorem eI_eq {n : Int} : eI n = [.lit (.int .i64 n)] := rfl
theorem ph {n : Int} : vb n = [.lit (.int .u8 n)] := rfl
theorem eB_eq {b : Bool} : eB b = [.lit (.bool b)] := rfl
theorem eS_eq {s : ByteArray} : eS s = [.lit (.string s)] := rfl
theorem pj {α : Type} {enc : α → List VV} {xs : List α} : eSl enc xs = [.sl (ae enc xs) xs.length false] := rfl
structure EncOk {α : Type} (enc : α → List VV) : Prop where
 tree : ∀ x, treeL (enc x) = true
 norm : ∀ x, normL (enc x) = enc x
 shown : ∀ x H d, (enc x).map (showV H d) = enc x
theorem eI_ok : EncOk eI := ⟨fun _ => rfl, fun _ => rfl, fun _ _ d => by cases d <;> rfl⟩
theorem pG : EncOk vb := ⟨fun _ => rfl, fun _ => rfl, fun _ _ d => by cases d <;> rfl⟩
theorem eB_ok : EncOk eB := ⟨fun _ => rfl, fun _ => rfl, fun _ _ d => by cases d <;> rfl⟩
theorem eS_ok : EncOk eS := ⟨fun _ => rfl, fun _ => rfl, fun _ _ d => by cases d <;> rfl⟩
section
variable {α : Type} {enc : α → List VV} (h : EncOk enc)
include h
theorem EncOk.treeL (xs : List α) : Go.V.treeL (ae enc xs) = true := Hg h.tree xs
theorem EncOk.normL (xs : List α) : Go.V.normL (ae enc xs) = ae enc xs := Hh h.norm xs
theorem EncOk.showL (xs : List α) (H : Nat → Option VObj) (d : Nat) : (ae enc xs).map (showV H d) = ae enc xs := Mw (fun x => h.shown x H d) xs
theorem EncOk.sl : EncOk (eSl enc) := ⟨fun x => by simp [eSl, Go.V.treeL, VV.tree, h.treeL], fun x => by simp [eSl, Go.V.normL, normV, h.normL], fun x H d => by cases d <;> rfl⟩
end
theorem EncOk.of {α : Type} {enc : α → List VV} (h1 : ∀ x, Go.V.treeL (enc x) = true) (h2 : ∀ x, Go.V.normL (enc x) = enc x) (h3 : ∀ x H d, (enc x).map (showV H d) = enc x) : EncOk enc := ⟨h1, h2, h3⟩
theorem IG {H : Nat → Option VObj} {d : Nat} {v : Value} : showV H d (.lit v) = .lit v := by cases d <;> rfl
theorem IH {H : Nat → Option VObj} {d n : Nat} {cs : List VV} {f : Bool} : showV H d (.sl cs n f) = .sl cs n f := by cases d <;> rfl
theorem gF {H : Nat → Option VObj} {d β off len es cp : Nat} : showV H (d + 1) (.ref β off len es cp) = (match H β with
   | some (.cells _ cs) => if off ≤ cs.length then .sl (((cs.drop off).take (len * es)).map (showV H d)) len false else .ref β off len es cp
   | _ => .ref β off len es cp) := rfl
theorem II {H : Nat → Option VObj} {d : Nat} {cs : List VV} : showV H (d + 1) (.agg cs) = .agg (cs.map (showV H d)) := rfl
theorem IJ {H : Nat → Option VObj} {d : Nat} {cs : List VV} : showV H (d + 1) (.tup cs) = .tup (cs.map (showV H d)) := rfl
theorem va {cs : List VV} {n : Nat} {f : Bool} : normV (.sl cs n f) = .sl (normL cs) n false := by simp [normV]
theorem LJ : normV (.lit (.slice none 0 0)) = .sl [] 0 false := by simp [normV]
theorem LL {cs : List VV} : normV (.agg cs) = .agg (normL cs) := by simp [normV]
theorem IK {cs : List VV} : normV (.tup cs) = .tup (normL cs) := by simp [normV]
theorem LH {k : IntKind} {n : Int} : normV (.lit (.int k n)) = .lit (.int k n) := by simp [normV]
theorem Ex {b : Bool} : normV (.lit (.bool b)) = .lit (.bool b) := by simp [normV]
theorem S2 {b : ByteArray} : normV (.lit (.string b)) = .lit (.string b) := by simp [normV]
theorem qJ : normL [] = [] := rfl
theorem oV {x : VV} {xs : List VV} : normL (x :: xs) = normV x :: normL xs := by simp [normL]
theorem IL : VV.tree .any = true := rfl
def vs := (And.intro (And.intro (And.intro (And.intro (And.intro (And.intro (And.intro @zU @Aa) (And.intro @zX @zV)) (And.intro (And.intro @zZ @zY) (And.intro @zW @OH))) (And.intro (And.intro (And.intro @Ac @Ab) (And.intro @OJ @Ae)) (And.intro (And.intro @Ad @zS) (And.intro @zT @z3)))) (And.intro (And.intro (And.intro (And.intro @z8 @z7) (And.intro @OL @z9)) (And.intro (And.intro @OA @zD) (And.intro @zE @zA))) (And.intro (And.intro (And.intro @zB @OC) (And.intro @zK @zM)) (And.intro (And.intro @KD @zN) (And.intro @zO (And.intro @jA @oc)))))) (And.intro (And.intro (And.intro (And.intro (And.intro @Af @jB) (And.intro @jj @Ai)) (And.intro (And.intro @Ah @An) (And.intro @Aq @z4))) (And.intro (And.intro (And.intro @z6 @argsTm1) (And.intro @argsTm2 @Sm)) (And.intro (And.intro @HQ @Sl) (And.intro @HG (And.intro @HI @RV))))) (And.intro (And.intro (And.intro (And.intro @HJ @HK) (And.intro @RW @RX)) (And.intro (And.intro @RY @RZ) (And.intro @HL @HM))) (And.intro (And.intro (And.intro @Sa @HO) (And.intro @Sd @HP)) (And.intro (And.intro @OB @zC) (And.intro @KC (And.intro @zH @OE))))))) (And.intro (And.intro (And.intro (And.intro (And.intro (And.intro @Al @Am) (And.intro @Aj @Ak)) (And.intro (And.intro @Ao @Ap) (And.intro @argsTm3 @argsTm4))) (And.intro (And.intro (And.intro @argsTm5 @sP) (And.intro @KE @sO)) (And.intro (And.intro @Iq @Sr) (And.intro @Io (And.intro @Ip @Is))))) (And.intro (And.intro (And.intro (And.intro @It @Iu) (And.intro @Iv @Iw)) (And.intro (And.intro @Ix @Iy) (And.intro @Iz @I8))) (And.intro (And.intro (And.intro @zL @OG) (And.intro @zJ @OF)) (And.intro (And.intro @S0 @S1) (And.intro @Sy (And.intro @zG @gg)))))) (And.intro (And.intro (And.intro (And.intro (And.intro @gh @C6) (And.intro @C7 @C8)) (And.intro (And.intro @C9 @pk) (And.intro @IC @LG))) (And.intro (And.intro (And.intro @ID @Su) (And.intro @Sv @IE)) (And.intro (And.intro @IF @Sw) (And.intro @Sx (And.intro @OD @Sz))))) (And.intro (And.intro (And.intro (And.intro @HN @Sc) (And.intro @Sg @Se)) (And.intro (And.intro @Sf @zP) (And.intro @zQ @zR))) (And.intro (And.intro (And.intro @Ag @OM) (And.intro @z5 @aF)) (And.intro (And.intro @ba @OI) (And.intro @OK (And.intro @cJ @cI))))))))
section
variable {i : Nat} {a : Oper} {l : List Oper} {x : VV} {xs ys : List VV}
theorem IM : (a :: l)[i + 1]? = l[i]? := rfl
theorem IN : (a :: l)[0]? = some a := rfl
theorem IP : (x :: xs)[i + 1]? = xs[i]? := rfl
theorem IQ : (x :: xs)[0]? = some x := rfl
theorem IS {f : Oper → Option Tmp} : (some a).bind f = f a := rfl
theorem IT {f : List VV → Option VV} : (some xs).bind f = f xs := rfl
theorem IU {f : VV → VV} : (some x).map f = some (f x) := rfl
theorem IV : (a :: l).length = l.length + 1 := rfl
theorem IW : ([] : List Oper).length = 0 := rfl
theorem IX : (x :: xs).length = xs.length + 1 := rfl
theorem IY : ([] : List VV).length = 0 := rfl
theorem IZ {f : Operand → VV} {o : Operand} {os : List Operand} : (o :: os).map f = f o :: os.map f := rfl
theorem Ja {f : Operand → VV} : ([] : List Operand).map f = [] := rfl
theorem Jb {f : Nat × Operand → Nat × VV} {o : Nat × Operand} {os : List (Nat × Operand)} : (o :: os).map f = f o :: os.map f := rfl
theorem Jc {f : Nat × Operand → Nat × VV} : ([] : List (Nat × Operand)).map f = [] := rfl
theorem Jd {f : VV → VV} : (x :: xs).map f = f x :: xs.map f := rfl
theorem Je {f : VV → VV} : ([] : List VV).map f = [] := rfl
theorem fF : (x :: xs) ++ ys = x :: (xs ++ ys) := rfl
theorem fG : [] ++ ys = ys := rfl
theorem Jf : (x :: xs).drop (i + 1) = xs.drop i := rfl
theorem Jg : xs.drop 0 = xs := by simp
theorem Jh : (x :: xs).take (i + 1) = x :: xs.take i := rfl
theorem Ji : xs.take 0 = [] := by simp
theorem Jj {o : VObj} : (some o).isSome = true := rfl
theorem m_nil : (([] : List Nat) = []) = True := by simp
theorem m_ne {a b : Bool} : (a ≠ b) = ¬ (a = b) := rfl
theorem m_neN {a b : Nat} : (a ≠ b) = ¬ (a = b) := rfl
end
def cr := (And.intro (And.intro (And.intro (And.intro (And.intro @IM (And.intro @IN @IP)) (And.intro @IQ (And.intro @IS @IT))) (And.intro (And.intro @IU (And.intro @IV @IW)) (And.intro (And.intro @IX @IY) (And.intro @IZ @Ja)))) (And.intro (And.intro (And.intro @Jb (And.intro @Jc @Jd)) (And.intro @Je (And.intro @fF @fG))) (And.intro (And.intro @Jf (And.intro @Jg @Jh)) (And.intro (And.intro @Ji @Jj) (And.intro @m_nil @m_ne))))) (And.intro (And.intro (And.intro (And.intro @m_neN (And.intro @Nat.zero_add @not_true_eq_false)) (And.intro @not_false_eq_true (And.intro @false_implies @true_implies))) (And.intro (And.intro @true_and (And.intro @and_true @false_and)) (And.intro (And.intro @and_false @Bool.false_eq_true) (And.intro @Bool.true_eq_false @Bool.not_true)))) (And.intro (And.intro (And.intro @Bool.not_false (And.intro @Bool.and_self @decide_true)) (And.intro (And.intro @decide_false @Nat.add_assoc) (And.intro @Nat.zero_mul @Nat.one_mul))) (And.intro (And.intro @Nat.zero_le (And.intro @true_or @or_true)) (And.intro (And.intro @false_or @or_false) (And.intro @not_true @not_false_iff))))))
def nrm := (And.intro (And.intro (And.intro (And.intro @va @LJ) (And.intro @LL (And.intro @IK @LH))) (And.intro (And.intro @Ex @S2) (And.intro @qJ (And.intro @oV @eI_ok.normL)))) (And.intro (And.intro (And.intro @pG.normL @eB_ok.normL) (And.intro @eS_ok.normL (And.intro @IG @IH))) (And.intro (And.intro @II (And.intro @IJ @eI_ok.showL)) (And.intro @pG.showL (And.intro @eB_ok.showL @eS_ok.showL)))))
def tre := (And.intro (And.intro (And.intro @KD @zM) (And.intro @zN (And.intro @sP @KE))) (And.intro (And.intro @sO (And.intro @eI_ok.treeL @pG.treeL)) (And.intro @eB_ok.treeL (And.intro @eS_ok.treeL @IL))))
end Go.V
end
