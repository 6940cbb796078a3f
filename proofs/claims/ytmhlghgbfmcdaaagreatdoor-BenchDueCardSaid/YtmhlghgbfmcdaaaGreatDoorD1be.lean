/- Part of a proof. -/
import Derived.Test.YtmhlghgbfmcdaaaGreatDoorD1bd
set_option linter.all false
section
namespace Go.V
open Go
set_option linter.defProp false
section
variable {P : Program} {G : Glob} {n : Nat} {γ : Nat} {tm : Nat → VV} {H : Nat → Option VObj} {nx : Nat} {df : List VDef} {K : St → Prop} {Kd : List Nat → List Nat → St → Prop} {Qp : VV → St → Prop}
 {d : Option Tmp} {ty : TypeId} {pos : String} {af : Array Edge} {g : Option (Nat × Bool)}
section
variable {a b : Prop} {x y : VV} {k : VV → Prop}
theorem Dr : guardK (.lit (.bool true)) true a b = a := by simp [guardK]
theorem Ds : guardK (.lit (.bool true)) false a b = b := by simp [guardK]
theorem Dt : guardK (.lit (.bool false)) true a b = b := by simp [guardK]
theorem Du : guardK (.lit (.bool false)) false a b = a := by simp [guardK]
theorem Dv {w : Bool} : guardK (.lit undef) w a b = b := rfl
theorem Dw : pickK (.lit (.bool true)) x y k = k x := by simp [pickK]
theorem Dx : pickK (.lit (.bool false)) x y k = k y := by simp [pickK]
theorem Dy : condK (.lit (.bool true)) a b = a := by simp [condK]
theorem Dz : condK (.lit (.bool false)) a b = b := by simp [condK]
end
theorem fS : leafL [] = true := rfl
theorem fT {x : VV} {xs : List VV} : leafL (x :: xs) = (x.leaf && leafL xs) := rfl
theorem sC {k : IntKind} {i : Int} : (VV.lit (.int k i)).leaf = true := rfl
theorem sD {b : Bool} : (VV.lit (.bool b)).leaf = true := rfl
theorem sE {b : ByteArray} : (VV.lit (.string b)).leaf = true := rfl
theorem sF {b : Option Addr} {l c : Nat} : (VV.lit (.slice b l c)).leaf = true := rfl
theorem sG {cs : List VV} {k : Nat} {f : Bool} : (VV.sl cs k f).leaf = true := rfl
theorem D0 {β o l e c : Nat} : (VV.ref β o l e c).leaf = true := rfl
theorem Fs {cs : List VV} : aK (.agg cs) = if leafL cs = true then some cs else none := by simp only [aK, sO]
theorem vcells1 {x : VV} (h : x.leaf = true) : aK x = some [x] := by
 cases x <;> first | rfl | (simp [aK, h]; done) | cases h
theorem No {k : IntKind} {i : Int} : aK (.lit (.int k i)) = some [.lit (.int k i)] := rfl
theorem Np {b : Bool} : aK (.lit (.bool b)) = some [.lit (.bool b)] := rfl
theorem Nq {b : ByteArray} : aK (.lit (.string b)) = some [.lit (.string b)] := rfl
theorem D1 {b : Option Addr} {l c : Nat} : aK (.lit (.slice b l c)) = some [.lit (.slice b l c)] := rfl
theorem D2 {cs : List VV} {k : Nat} {f : Bool} : aK (.sl cs k f) = some [.sl cs k f] := rfl
theorem Nr {β o l e c : Nat} : aK (.ref β o l e c) = some [.ref β o l e c] := rfl
theorem Ns {cs xs : List VV} {off : Nat} : overwrite cs off xs = cs.take off ++ (xs ++ cs.drop (off + xs.length)) := by simp [overwrite, List.append_assoc]
def vzl (P : Program) (t : TypeId) : Option (List VV) := (vzero P t).map fun z => z.toList.map ofVal1
theorem Nt {t : TypeId} : aH P G γ ⟨d, .alloc t, ty, pos, af, g⟩ ⟨tm, H, nx, df⟩ K Qp = (match vzl P t with | some cs => fin d γ tm H nx df K (.ptr γ 0) (.new (.cells (some t) cs)) | none => False) := by
 rw [ur]; unfold vzl; cases vzero P t <;> rfl
theorem Nu {t : TypeId} : aA P G γ ⟨d, .alloc t, ty, pos, af, g⟩ ⟨tm, H, nx, df⟩ Kd = (match vzl P t with | some cs => fin d γ tm H nx df (Kd (rdV ⟨d, .alloc t, ty, pos, af, g⟩ (ev G tm)) [γ]) (.ptr γ 0) (.new (.cells (some t) cs)) | none => False) := by
 rw [IG]; unfold vzl; cases vzero P t <;> rfl
def vstoreV (P : Program) (H : Nat → Option VObj) (t : TypeId) (a x : VV) : Option (VV × VEff) := match a with
  | .ptr β off => match H β, aK x, szT P t with
   | some (.cells el cs), some xs, some n => if xs.length = n ∧ off + n ≤ cs.length then some (.any, .upd β (.cells el (overwrite cs off xs))) else none
   | _, _, _ => none
  | _ => none
theorem Nv {t : TypeId} {a x : Operand} : aH P G γ ⟨d, .store t a x, ty, pos, af, g⟩ ⟨tm, H, nx, df⟩ K Qp = oeK (vstoreV P H t (ev G tm a) (ev G tm x)) (fun y e => fin d γ tm H nx df K y e) := by
 rw [Ie]; rfl
theorem Nw {t : TypeId} {x : VV} {β off : Nat} : vstoreV P H t (.ptr β off) x = (match H β, aK x, szT P t with
   | some (.cells el cs), some xs, some n => if xs.length = n ∧ off + n ≤ cs.length then some (.any, .upd β (.cells el (overwrite cs off xs))) else none
   | _, _, _ => none) := rfl
end
def eI (n : Int) : List VV := [.lit (.int .i64 n)]
def kW (n : Int) : List VV := [.lit (.int .u8 n)]
def eB (b : Bool) : List VV := [.lit (.bool b)]
def eS (s : ByteArray) : List VV := [.lit (.string s)]
def eSl {α : Type} (enc : α → List VV) (xs : List α) : List VV := [.sl (aa enc xs) xs.length false]
theorem eI_eq {n : Int} : eI n = [.lit (.int .i64 n)] := rfl
theorem jV {n : Int} : kW n = [.lit (.int .u8 n)] := rfl
theorem eB_eq {b : Bool} : eB b = [.lit (.bool b)] := rfl
theorem eS_eq {s : ByteArray} : eS s = [.lit (.string s)] := rfl
theorem jW {α : Type} {enc : α → List VV} {xs : List α} : eSl enc xs = [.sl (aa enc xs) xs.length false] := rfl
structure EncOk {α : Type} (enc : α → List VV) : Prop where
 tree : ∀ x, treeL (enc x) = true
 norm : ∀ x, normL (enc x) = enc x
 shown : ∀ x H d, (enc x).map (showV H d) = enc x
theorem eI_ok : EncOk eI := ⟨fun _ => rfl, fun _ => rfl, fun _ _ d => by cases d <;> rfl⟩
theorem nf : EncOk kW := ⟨fun _ => rfl, fun _ => rfl, fun _ _ d => by cases d <;> rfl⟩
theorem eB_ok : EncOk eB := ⟨fun _ => rfl, fun _ => rfl, fun _ _ d => by cases d <;> rfl⟩
theorem eS_ok : EncOk eS := ⟨fun _ => rfl, fun _ => rfl, fun _ _ d => by cases d <;> rfl⟩
section
variable {α : Type} {enc : α → List VV} (h : EncOk enc)
include h
theorem EncOk.treeL (xs : List α) : Go.V.treeL (aa enc xs) = true := zZ h.tree xs
theorem EncOk.normL (xs : List α) : Go.V.normL (aa enc xs) = aa enc xs := zY h.norm xs
theorem EncOk.showL (xs : List α) (H : Nat → Option VObj) (d : Nat) : (aa enc xs).map (showV H d) = aa enc xs := Hw (fun x => h.shown x H d) xs
theorem EncOk.sl : EncOk (eSl enc) := ⟨fun x => by simp [eSl, Go.V.treeL, VV.tree, h.treeL], fun x => by simp [eSl, Go.V.normL, normV, h.normL], fun x H d => by cases d <;> rfl⟩
end
theorem EncOk.of {α : Type} {enc : α → List VV} (h1 : ∀ x, Go.V.treeL (enc x) = true) (h2 : ∀ x, Go.V.normL (enc x) = enc x) (h3 : ∀ x H d, (enc x).map (showV H d) = enc x) : EncOk enc := ⟨h1, h2, h3⟩
theorem D3 {H : Nat → Option VObj} {d : Nat} {v : Value} : showV H d (.lit v) = .lit v := by cases d <;> rfl
theorem D4 {H : Nat → Option VObj} {d n : Nat} {cs : List VV} {f : Bool} : showV H d (.sl cs n f) = .sl cs n f := by cases d <;> rfl
theorem fv {H : Nat → Option VObj} {d β off len es cp : Nat} : showV H (d + 1) (.ref β off len es cp) = (match H β with
   | some (.cells _ cs) => if off ≤ cs.length then .sl (((cs.drop off).take (len * es)).map (showV H d)) len false else .ref β off len es cp
   | _ => .ref β off len es cp) := rfl
theorem D5 {H : Nat → Option VObj} {d : Nat} {cs : List VV} : showV H (d + 1) (.agg cs) = .agg (cs.map (showV H d)) := rfl
theorem D6 {H : Nat → Option VObj} {d : Nat} {cs : List VV} : showV H (d + 1) (.tup cs) = .tup (cs.map (showV H d)) := rfl
theorem qs {cs : List VV} {n : Nat} {f : Bool} : normV (.sl cs n f) = .sl (normL cs) n false := by simp [normV]
theorem Gc : normV (.lit (.slice none 0 0)) = .sl [] 0 false := by simp [normV]
theorem Gd {cs : List VV} : normV (.agg cs) = .agg (normL cs) := by simp [normV]
theorem D7 {cs : List VV} : normV (.tup cs) = .tup (normL cs) := by simp [normV]
theorem FZ {k : IntKind} {n : Int} : normV (.lit (.int k n)) = .lit (.int k n) := by simp [normV]
theorem Al {b : Bool} : normV (.lit (.bool b)) = .lit (.bool b) := by simp [normV]
theorem Nx {b : ByteArray} : normV (.lit (.string b)) = .lit (.string b) := by simp [normV]
theorem mm : normL [] = [] := rfl
theorem ml {x : VV} {xs : List VV} : normL (x :: xs) = normV x :: normL xs := by simp [normL]
theorem D8 : VV.tree .any = true := rfl
def vs := (And.intro (And.intro (And.intro (And.intro (And.intro (And.intro (And.intro @u6 @Ik) (And.intro @uA @u7)) (And.intro (And.intro @uC @uB) (And.intro @u9 @Il))) (And.intro (And.intro (And.intro @uE @uD) (And.intro @Im @uH)) (And.intro (And.intro @uG @u4) (And.intro @u5 @ud)))) (And.intro (And.intro (And.intro (And.intro @ui @uh) (And.intro @Ip @uj)) (And.intro (And.intro @HX @uo) (And.intro @uq @uk))) (And.intro (And.intro (And.intro @um @Ia) (And.intro @uv @ED)) (And.intro (And.intro @EC @EF) (And.intro @uy (And.intro @lL @lM)))))) (And.intro (And.intro (And.intro (And.intro (And.intro @uI @uK) (And.intro @sq @uM)) (And.intro (And.intro @uL @uR) (And.intro @uU @ue))) (And.intro (And.intro (And.intro @ug @argsTm1) (And.intro @argsTm2 @IV)) (And.intro (And.intro @IT @IU) (And.intro @vn (And.intro @I7 @I8))))) (And.intro (And.intro (And.intro (And.intro @I9 @IA) (And.intro @IB @IC)) (And.intro (And.intro @ID @IE) (And.intro @vo @vp))) (And.intro (And.intro (And.intro @IF @vr) (And.intro @II @IN)) (And.intro (And.intro @HY @HZ) (And.intro @EB (And.intro @Ib @Ig))))))) (And.intro (And.intro (And.intro (And.intro (And.intro (And.intro @uP @uQ) (And.intro @uN @uO)) (And.intro (And.intro @uS @uT) (And.intro @argsTm3 @argsTm4))) (And.intro (And.intro (And.intro @argsTm5 @oZ) (And.intro @EG @EH)) (And.intro (And.intro @zT @KD) (And.intro @zR (And.intro @zS @Dr))))) (And.intro (And.intro (And.intro (And.intro @Ds @Dt) (And.intro @Du @Dv)) (And.intro (And.intro @Dw @Dx) (And.intro @Dy @Dz))) (And.intro (And.intro (And.intro @ux @Ij) (And.intro @Ih @Ii)) (And.intro (And.intro @Nv @Nw) (And.intro @Nt (And.intro @uu @fS)))))) (And.intro (And.intro (And.intro (And.intro (And.intro @fT @sC) (And.intro @sD @sE)) (And.intro (And.intro @sF @sG) (And.intro @D0 @Fs))) (And.intro (And.intro (And.intro @No @Np) (And.intro @Nq @D1)) (And.intro (And.intro @D2 @Nr) (And.intro @Ns (And.intro @Ic @Nu))))) (And.intro (And.intro (And.intro (And.intro @vq @IH) (And.intro @IL @IJ)) (And.intro (And.intro @IK @uz) (And.intro @u2 @u3))) (And.intro (And.intro (And.intro @uJ @Iq) (And.intro @uf @bc)) (And.intro (And.intro @bf @uF) (And.intro @Io (And.intro @bV @bU))))))))
section
variable {i : Nat} {a : Oper} {l : List Oper} {x : VV} {xs ys : List VV}
theorem D9 : (a :: l)[i + 1]? = l[i]? := rfl
theorem DA : (a :: l)[0]? = some a := rfl
theorem DB : (x :: xs)[i + 1]? = xs[i]? := rfl
theorem DC : (x :: xs)[0]? = some x := rfl
theorem DD {f : Oper → Option Tmp} : (some a).bind f = f a := rfl
theorem DE {f : List VV → Option VV} : (some xs).bind f = f xs := rfl
theorem DF {f : VV → VV} : (some x).map f = some (f x) := rfl
theorem DG : (a :: l).length = l.length + 1 := rfl
theorem DH : ([] : List Oper).length = 0 := rfl
theorem DI : (x :: xs).length = xs.length + 1 := rfl
theorem DJ : ([] : List VV).length = 0 := rfl
theorem DK {f : Operand → VV} {o : Operand} {os : List Operand} : (o :: os).map f = f o :: os.map f := rfl
theorem DL {f : Operand → VV} : ([] : List Operand).map f = [] := rfl
theorem DM {f : Nat × Operand → Nat × VV} {o : Nat × Operand} {os : List (Nat × Operand)} : (o :: os).map f = f o :: os.map f := rfl
theorem DO {f : Nat × Operand → Nat × VV} : ([] : List (Nat × Operand)).map f = [] := rfl
theorem DP {f : VV → VV} : (x :: xs).map f = f x :: xs.map f := rfl
theorem DQ {f : VV → VV} : ([] : List VV).map f = [] := rfl
theorem dY : (x :: xs) ++ ys = x :: (xs ++ ys) := rfl
theorem dZ : [] ++ ys = ys := rfl
theorem DS : (x :: xs).drop (i + 1) = xs.drop i := rfl
theorem DT : xs.drop 0 = xs := by simp
theorem DU : (x :: xs).take (i + 1) = x :: xs.take i := rfl
theorem DV : xs.take 0 = [] := by simp
theorem DW {o : VObj} : (some o).isSome = true := rfl
theorem m_nil : (([] : List Nat) = []) = True := by simp
theorem m_ne {a b : Bool} : (a ≠ b) = ¬ (a = b) := rfl
theorem m_neN {a b : Nat} : (a ≠ b) = ¬ (a = b) := rfl
end
def cr := (And.intro (And.intro (And.intro (And.intro (And.intro @D9 (And.intro @DA @DB)) (And.intro @DC (And.intro @DD @DE))) (And.intro (And.intro @DF (And.intro @DG @DH)) (And.intro (And.intro @DI @DJ) (And.intro @DK @DL)))) (And.intro (And.intro (And.intro @DM (And.intro @DO @DP)) (And.intro @DQ (And.intro @dY @dZ))) (And.intro (And.intro @DS (And.intro @DT @DU)) (And.intro (And.intro @DV @DW) (And.intro @m_nil @m_ne))))) (And.intro (And.intro (And.intro (And.intro @m_neN (And.intro @Nat.zero_add @not_true_eq_false)) (And.intro @not_false_eq_true (And.intro @false_implies @true_implies))) (And.intro (And.intro @true_and (And.intro @and_true @false_and)) (And.intro (And.intro @and_false @Bool.false_eq_true) (And.intro @Bool.true_eq_false @Bool.not_true)))) (And.intro (And.intro (And.intro @Bool.not_false (And.intro @Bool.and_self @decide_true)) (And.intro (And.intro @decide_false @Nat.add_assoc) (And.intro @Nat.zero_mul @Nat.one_mul))) (And.intro (And.intro @Nat.zero_le (And.intro @true_or @or_true)) (And.intro (And.intro @false_or @or_false) (And.intro @not_true @not_false_iff))))))
def nrm := (And.intro (And.intro (And.intro (And.intro @qs @Gc) (And.intro @Gd (And.intro @D7 @FZ))) (And.intro (And.intro @Al @Nx) (And.intro @mm (And.intro @ml @eI_ok.normL)))) (And.intro (And.intro (And.intro @nf.normL @eB_ok.normL) (And.intro @eS_ok.normL (And.intro @D3 @D4))) (And.intro (And.intro @D5 (And.intro @D6 @eI_ok.showL)) (And.intro @nf.showL (And.intro @eB_ok.showL @eS_ok.showL)))))
def tre := (And.intro (And.intro (And.intro @EC @ED) (And.intro @EF (And.intro @oZ @EG))) (And.intro (And.intro @EH (And.intro @eI_ok.treeL @nf.treeL)) (And.intro @eB_ok.treeL (And.intro @eS_ok.treeL @D8))))
end Go.V
end
