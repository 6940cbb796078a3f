/- Part of a proof. -/
import Derived.Test.YtmhlghgbfmcdaaaGreatDoorG6bd
set_option linter.all false
section
namespace Go.V
open Go
set_option linter.defProp false
section
variable {P : Program} {G : Glob} {n : Nat} {γ : Nat} {tm : Nat → VV} {H : Nat → Option VObj} {nx : Nat} {df : List VDef} {K : St → Prop} {Kd : List Nat → List Nat → St → Prop} {Qp : VV → St → Prop}
 {d : Option Tmp} {ty : TypeId} {pos : String} {af : Array Edge} {g : Option (Nat × Bool)}
section
variable {a b : Prop} {x y : VV} {k : VV → Prop}
theorem Ir : guardK (.lit (.bool true)) true a b = a := by simp [guardK]
theorem Is : guardK (.lit (.bool true)) false a b = b := by simp [guardK]
theorem It : guardK (.lit (.bool false)) true a b = b := by simp [guardK]
theorem Iu : guardK (.lit (.bool false)) false a b = a := by simp [guardK]
theorem Iv {w : Bool} : guardK (.lit undef) w a b = b := rfl
theorem Iw : pickK (.lit (.bool true)) x y k = k x := by simp [pickK]
theorem Ix : pickK (.lit (.bool false)) x y k = k y := by simp [pickK]
theorem Iy : condK (.lit (.bool true)) a b = a := by simp [condK]
theorem Iz : condK (.lit (.bool false)) a b = b := by simp [condK]
end
theorem j0 : leafL [] = true := rfl
theorem j1 {x : VV} {xs : List VV} : leafL (x :: xs) = (x.leaf && leafL xs) := rfl
theorem FX {k : IntKind} {i : Int} : (VV.lit (.int k i)).leaf = true := rfl
theorem FY {b : Bool} : (VV.lit (.bool b)).leaf = true := rfl
theorem FZ {b : ByteArray} : (VV.lit (.string b)).leaf = true := rfl
theorem Ga {b : Option Addr} {l c : Nat} : (VV.lit (.slice b l c)).leaf = true := rfl
theorem qc {cs : List VV} {k : Nat} {f : Bool} : (VV.sl cs k f).leaf = true := rfl
theorem I2 {β o l e c : Nat} : (VV.ref β o l e c).leaf = true := rfl
theorem M4 {cs : List VV} : aY (.agg cs) = if leafL cs = true then some cs else none := by simp only [aY, tn]
theorem vcells1 {x : VV} (h : x.leaf = true) : aY x = some [x] := by
 cases x <;> first | rfl | (simp [aY, h]; done) | cases h
theorem I8 {k : IntKind} {i : Int} : aY (.lit (.int k i)) = some [.lit (.int k i)] := rfl
theorem IC {b : Bool} : aY (.lit (.bool b)) = some [.lit (.bool b)] := rfl
theorem Sz {b : ByteArray} : aY (.lit (.string b)) = some [.lit (.string b)] := rfl
theorem ID {b : Option Addr} {l c : Nat} : aY (.lit (.slice b l c)) = some [.lit (.slice b l c)] := rfl
theorem IE {cs : List VV} {k : Nat} {f : Bool} : aY (.sl cs k f) = some [.sl cs k f] := rfl
theorem IF {β o l e c : Nat} : aY (.ref β o l e c) = some [.ref β o l e c] := rfl
theorem S0 {cs xs : List VV} {off : Nat} : overwrite cs off xs = cs.take off ++ (xs ++ cs.drop (off + xs.length)) := by simp [overwrite, List.append_assoc]
def vzl (P : Program) (t : TypeId) : Option (List VV) := (vzero P t).map fun z => z.toList.map ofVal1
theorem IG {t : TypeId} : aR P G γ ⟨d, .alloc t, ty, pos, af, g⟩ ⟨tm, H, nx, df⟩ K Qp = (match vzl P t with | some cs => fin d γ tm H nx df K (.ptr γ 0) (.new (.cells (some t) cs)) | none => False) := by
 rw [DJ]; unfold vzl; cases vzero P t <;> rfl
theorem S1 {t : TypeId} : aJ P G γ ⟨d, .alloc t, ty, pos, af, g⟩ ⟨tm, H, nx, df⟩ Kd = (match vzl P t with | some cs => fin d γ tm H nx df (Kd (rdV ⟨d, .alloc t, ty, pos, af, g⟩ (ev G tm)) [γ]) (.ptr γ 0) (.new (.cells (some t) cs)) | none => False) := by
 rw [Od]; unfold vzl; cases vzero P t <;> rfl
def vstoreV (P : Program) (H : Nat → Option VObj) (t : TypeId) (a x : VV) : Option (VV × VEff) := match a with
  | .ptr β off => match H β, aY x, szT P t with
   | some (.cells el cs), some xs, some n => if xs.length = n ∧ off + n ≤ cs.length then some (.any, .upd β (.cells el (overwrite cs off xs))) else none
   | _, _, _ => none
  | _ => none
theorem S2 {t : TypeId} {a x : Operand} : aR P G γ ⟨d, .store t a x, ty, pos, af, g⟩ ⟨tm, H, nx, df⟩ K Qp = oeK (vstoreV P H t (ev G tm a) (ev G tm x)) (fun y e => fin d γ tm H nx df K y e) := by
 rw [DM]; rfl
theorem IH {t : TypeId} {x : VV} {β off : Nat} : vstoreV P H t (.ptr β off) x = (match H β, aY x, szT P t with
   | some (.cells el cs), some xs, some n => if xs.length = n ∧ off + n ≤ cs.length then some (.any, .upd β (.cells el (overwrite cs off xs))) else none
   | _, _, _ => none) := rfl
end
def eI (n : Int) : List VV := [.lit (.int .i64 n)]
def qg (n : Int) : List VV := [.lit (.int .u8 n)]
def eB (b : Bool) : List VV := [.lit (.bool b)]
def eS (s : ByteArray) : List VV := [.lit (.string s)]
def eSl {α : Type} (enc : α → List VV) (xs : List α) : List VV := [.sl (ae enc xs) xs.length false]
theorem eI_eq {n : Int} : eI n = [.lit (.int .i64 n)] := rfl
theorem qa {n : Int} : qg n = [.lit (.int .u8 n)] := rfl
theorem eB_eq {b : Bool} : eB b = [.lit (.bool b)] := rfl
theorem eS_eq {s : ByteArray} : eS s = [.lit (.string s)] := rfl
theorem qb {α : Type} {enc : α → List VV} {xs : List α} : eSl enc xs = [.sl (ae enc xs) xs.length false] := rfl
structure EncOk {α : Type} (enc : α → List VV) : Prop where
 tree : ∀ x, treeL (enc x) = true
 norm : ∀ x, normL (enc x) = enc x
 shown : ∀ x H d, (enc x).map (showV H d) = enc x
theorem eI_ok : EncOk eI := ⟨fun _ => rfl, fun _ => rfl, fun _ _ d => by cases d <;> rfl⟩
theorem qL : EncOk qg := ⟨fun _ => rfl, fun _ => rfl, fun _ _ d => by cases d <;> rfl⟩
theorem eB_ok : EncOk eB := ⟨fun _ => rfl, fun _ => rfl, fun _ _ d => by cases d <;> rfl⟩
theorem eS_ok : EncOk eS := ⟨fun _ => rfl, fun _ => rfl, fun _ _ d => by cases d <;> rfl⟩
section
variable {α : Type} {enc : α → List VV} (h : EncOk enc)
include h
theorem EncOk.treeL (xs : List α) : Go.V.treeL (ae enc xs) = true := zX h.tree xs
theorem EncOk.normL (xs : List α) : Go.V.normL (ae enc xs) = ae enc xs := zW h.norm xs
theorem EncOk.showL (xs : List α) (H : Nat → Option VObj) (d : Nat) : (ae enc xs).map (showV H d) = ae enc xs := Ni (fun x => h.shown x H d) xs
theorem EncOk.sl : EncOk (eSl enc) := ⟨fun x => by simp [eSl, Go.V.treeL, VV.tree, h.treeL], fun x => by simp [eSl, Go.V.normL, normV, h.normL], fun x H d => by cases d <;> rfl⟩
end
theorem EncOk.of {α : Type} {enc : α → List VV} (h1 : ∀ x, Go.V.treeL (enc x) = true) (h2 : ∀ x, Go.V.normL (enc x) = enc x) (h3 : ∀ x H d, (enc x).map (showV H d) = enc x) : EncOk enc := ⟨h1, h2, h3⟩
theorem II {H : Nat → Option VObj} {d : Nat} {v : Value} : showV H d (.lit v) = .lit v := by cases d <;> rfl
theorem IJ {H : Nat → Option VObj} {d n : Nat} {cs : List VV} {f : Bool} : showV H d (.sl cs n f) = .sl cs n f := by cases d <;> rfl
theorem fp {H : Nat → Option VObj} {d β off len es cp : Nat} : showV H (d + 1) (.ref β off len es cp) = (match H β with
   | some (.cells _ cs) => if off ≤ cs.length then .sl (((cs.drop off).take (len * es)).map (showV H d)) len false else .ref β off len es cp
   | _ => .ref β off len es cp) := rfl
theorem IK {H : Nat → Option VObj} {d : Nat} {cs : List VV} : showV H (d + 1) (.agg cs) = .agg (cs.map (showV H d)) := rfl
theorem IL {H : Nat → Option VObj} {d : Nat} {cs : List VV} : showV H (d + 1) (.tup cs) = .tup (cs.map (showV H d)) := rfl
theorem va {cs : List VV} {n : Nat} {f : Bool} : normV (.sl cs n f) = .sl (normL cs) n false := by simp [normV]
theorem M7 : normV (.lit (.slice none 0 0)) = .sl [] 0 false := by simp [normV]
theorem M8 {cs : List VV} : normV (.agg cs) = .agg (normL cs) := by simp [normV]
theorem IM {cs : List VV} : normV (.tup cs) = .tup (normL cs) := by simp [normV]
theorem M5 {k : IntKind} {n : Int} : normV (.lit (.int k n)) = .lit (.int k n) := by simp [normV]
theorem ET {b : Bool} : normV (.lit (.bool b)) = .lit (.bool b) := by simp [normV]
theorem S3 {b : ByteArray} : normV (.lit (.string b)) = .lit (.string b) := by simp [normV]
theorem qf : normL [] = [] := rfl
theorem nK {x : VV} {xs : List VV} : normL (x :: xs) = normV x :: normL xs := by simp [normL]
theorem IN : VV.tree .any = true := rfl
def vs := (And.intro (And.intro (And.intro (And.intro (And.intro (And.intro (And.intro @DY @Ef) (And.intro @Eb @DZ)) (And.intro (And.intro @Ee @Ec) (And.intro @Ea @Eg))) (And.intro (And.intro (And.intro @Ei @Eh) (And.intro @PW @El)) (And.intro (And.intro @Ek @DW) (And.intro @DX @D6)))) (And.intro (And.intro (And.intro (And.intro @DC @DB) (And.intro @PX @DD)) (And.intro (And.intro @PQ @DH) (And.intro @DI @DE))) (And.intro (And.intro (And.intro @DF @PS) (And.intro @DO @Md)) (And.intro (And.intro @Mc @tU) (And.intro @DS (And.intro @pq @pw)))))) (And.intro (And.intro (And.intro (And.intro (And.intro @Eo @pv) (And.intro @nk @Es)) (And.intro (And.intro @Er @Ex) (And.intro @E0 @D8))) (And.intro (And.intro (And.intro @DA @argsTm1) (And.intro @argsTm2 @Aj)) (And.intro (And.intro @Ai @On) (And.intro @zY (And.intro @zZ @NY))))) (And.intro (And.intro (And.intro (And.intro @Aa @Ab) (And.intro @NZ @Oa)) (And.intro (And.intro @Ob @Oc) (And.intro @Ac @Ad))) (And.intro (And.intro (And.intro @Ae @Ag) (And.intro @Of @Ah)) (And.intro (And.intro @PR @DG) (And.intro @Lx (And.intro @DL @PU))))))) (And.intro (And.intro (And.intro (And.intro (And.intro (And.intro @Ev @Ew) (And.intro @Et @Eu)) (And.intro (And.intro @Ey @Ez) (And.intro @argsTm3 @argsTm4))) (And.intro (And.intro (And.intro @argsTm5 @tX) (And.intro @tV @tW)) (And.intro (And.intro @zR @NW) (And.intro @zP (And.intro @zQ @Ir))))) (And.intro (And.intro (And.intro (And.intro @Is @It) (And.intro @Iu @Iv)) (And.intro (And.intro @Iw @Ix) (And.intro @Iy @Iz))) (And.intro (And.intro (And.intro @DQ @DP) (And.intro @DN @PV)) (And.intro (And.intro @S2 @IH) (And.intro @IG (And.intro @DK @j0)))))) (And.intro (And.intro (And.intro (And.intro (And.intro @j1 @FX) (And.intro @FY @FZ)) (And.intro (And.intro @Ga @qc) (And.intro @I2 @M4))) (And.intro (And.intro (And.intro @I8 @IC) (And.intro @Sz @ID)) (And.intro (And.intro @IE @IF) (And.intro @S0 (And.intro @PT @S1))))) (And.intro (And.intro (And.intro (And.intro @Af @Oe) (And.intro @Oi @Og)) (And.intro (And.intro @Oh @DT) (And.intro @DU @DV))) (And.intro (And.intro (And.intro @Ep @PY) (And.intro @D9 @ba)) (And.intro (And.intro @bj @Ej) (And.intro @Em (And.intro @bY @bX))))))))
section
variable {i : Nat} {a : Oper} {l : List Oper} {x : VV} {xs ys : List VV}
theorem IP : (a :: l)[i + 1]? = l[i]? := rfl
theorem IQ : (a :: l)[0]? = some a := rfl
theorem IS : (x :: xs)[i + 1]? = xs[i]? := rfl
theorem IT : (x :: xs)[0]? = some x := rfl
theorem IU {f : Oper → Option Tmp} : (some a).bind f = f a := rfl
theorem IV {f : List VV → Option VV} : (some xs).bind f = f xs := rfl
theorem IW {f : VV → VV} : (some x).map f = some (f x) := rfl
theorem IX : (a :: l).length = l.length + 1 := rfl
theorem IY : ([] : List Oper).length = 0 := rfl
theorem IZ : (x :: xs).length = xs.length + 1 := rfl
theorem Ja : ([] : List VV).length = 0 := rfl
theorem Jb {f : Operand → VV} {o : Operand} {os : List Operand} : (o :: os).map f = f o :: os.map f := rfl
theorem Jc {f : Operand → VV} : ([] : List Operand).map f = [] := rfl
theorem Jd {f : Nat × Operand → Nat × VV} {o : Nat × Operand} {os : List (Nat × Operand)} : (o :: os).map f = f o :: os.map f := rfl
theorem Je {f : Nat × Operand → Nat × VV} : ([] : List (Nat × Operand)).map f = [] := rfl
theorem Jf {f : VV → VV} : (x :: xs).map f = f x :: xs.map f := rfl
theorem Jg {f : VV → VV} : ([] : List VV).map f = [] := rfl
theorem gx : (x :: xs) ++ ys = x :: (xs ++ ys) := rfl
theorem gy : [] ++ ys = ys := rfl
theorem Jh : (x :: xs).drop (i + 1) = xs.drop i := rfl
theorem Ji : xs.drop 0 = xs := by simp
theorem Jj : (x :: xs).take (i + 1) = x :: xs.take i := rfl
theorem Jk : xs.take 0 = [] := by simp
theorem Jl {o : VObj} : (some o).isSome = true := rfl
theorem m_nil : (([] : List Nat) = []) = True := by simp
theorem m_ne {a b : Bool} : (a ≠ b) = ¬ (a = b) := rfl
theorem m_neN {a b : Nat} : (a ≠ b) = ¬ (a = b) := rfl
end
def cr := (And.intro (And.intro (And.intro (And.intro (And.intro @IP (And.intro @IQ @IS)) (And.intro @IT (And.intro @IU @IV))) (And.intro (And.intro @IW (And.intro @IX @IY)) (And.intro (And.intro @IZ @Ja) (And.intro @Jb @Jc)))) (And.intro (And.intro (And.intro @Jd (And.intro @Je @Jf)) (And.intro @Jg (And.intro @gx @gy))) (And.intro (And.intro @Jh (And.intro @Ji @Jj)) (And.intro (And.intro @Jk @Jl) (And.intro @m_nil @m_ne))))) (And.intro (And.intro (And.intro (And.intro @m_neN (And.intro @Nat.zero_add @not_true_eq_false)) (And.intro @not_false_eq_true (And.intro @false_implies @true_implies))) (And.intro (And.intro @true_and (And.intro @and_true @false_and)) (And.intro (And.intro @and_false @Bool.false_eq_true) (And.intro @Bool.true_eq_false @Bool.not_true)))) (And.intro (And.intro (And.intro @Bool.not_false (And.intro @Bool.and_self @decide_true)) (And.intro (And.intro @decide_false @Nat.add_assoc) (And.intro @Nat.zero_mul @Nat.one_mul))) (And.intro (And.intro @Nat.zero_le (And.intro @true_or @or_true)) (And.intro (And.intro @false_or @or_false) (And.intro @not_true @not_false_iff))))))
def nrm := (And.intro (And.intro (And.intro (And.intro @va @M7) (And.intro @M8 (And.intro @IM @M5))) (And.intro (And.intro @ET @S3) (And.intro @qf (And.intro @nK @eI_ok.normL)))) (And.intro (And.intro (And.intro @qL.normL @eB_ok.normL) (And.intro @eS_ok.normL (And.intro @II @IJ))) (And.intro (And.intro @IK (And.intro @IL @eI_ok.showL)) (And.intro @qL.showL (And.intro @eB_ok.showL @eS_ok.showL)))))
def tre := (And.intro (And.intro (And.intro @Mc @Md) (And.intro @tU (And.intro @tX @tV))) (And.intro (And.intro @tW (And.intro @eI_ok.treeL @qL.treeL)) (And.intro @eB_ok.treeL (And.intro @eS_ok.treeL @IN))))
end Go.V
end
