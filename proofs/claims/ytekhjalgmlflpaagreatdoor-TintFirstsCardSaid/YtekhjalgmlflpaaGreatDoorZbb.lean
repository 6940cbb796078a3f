/- Part of a proof. -/
import Derived.Test.YtekhjalgmlflpaaGreatDoorZba
set_option linter.all false
section
namespace Go.V
open Go
set_option linter.defProp false
section
variable {P : Program} {G : Glob} {n : Nat} {γ : Nat} {tm : Nat → VV} {H : Nat → Option VObj} {nx : Nat} {df : List VDef} {K : St → Prop} {Kd : List Nat → List Nat → St → Prop} {Qp : VV → St → Prop}
 {d : Option Tmp} {ty : TypeId} {pos : String} {af : Array Edge} {g : Option (Nat × Bool)}
section
variable {a b : Prop} {x y : VV} {k : VV → Prop}
theorem HU : guardK (.lit (.bool true)) true a b = a := by simp [guardK]
theorem HV : guardK (.lit (.bool true)) false a b = b := by simp [guardK]
theorem HW : guardK (.lit (.bool false)) true a b = b := by simp [guardK]
theorem HX : guardK (.lit (.bool false)) false a b = a := by simp [guardK]
theorem HY {w : Bool} : guardK (.lit undef) w a b = b := rfl
theorem HZ : pickK (.lit (.bool true)) x y k = k x := by simp [pickK]
theorem Ia : pickK (.lit (.bool false)) x y k = k y := by simp [pickK]
theorem Ib : condK (.lit (.bool true)) a b = a := by simp [condK]
theorem Ic : condK (.lit (.bool false)) a b = b := by simp [condK]
end
theorem mw : leafL [] = true := rfl
theorem my {x : VV} {xs : List VV} : leafL (x :: xs) = (x.leaf && leafL xs) := rfl
theorem Ie {k : IntKind} {i : Int} : (VV.lit (.int k i)).leaf = true := rfl
theorem RL {b : Bool} : (VV.lit (.bool b)).leaf = true := rfl
theorem RN {b : ByteArray} : (VV.lit (.string b)).leaf = true := rfl
theorem Ig {b : Option Addr} {l c : Nat} : (VV.lit (.slice b l c)).leaf = true := rfl
theorem vj {cs : List VV} {k : Nat} {f : Bool} : (VV.sl cs k f).leaf = true := rfl
theorem Ih {β o l e c : Nat} : (VV.ref β o l e c).leaf = true := rfl
theorem Ii {cs : List VV} : vcells (.agg cs) = if leafL cs = true then some cs else none := by simp only [vcells, xq]
theorem vcells1 {x : VV} (h : x.leaf = true) : vcells x = some [x] := by
 cases x <;> first | rfl | (simp [vcells, h]; done) | cases h
theorem Ij {k : IntKind} {i : Int} : vcells (.lit (.int k i)) = some [.lit (.int k i)] := rfl
theorem Ik {b : Bool} : vcells (.lit (.bool b)) = some [.lit (.bool b)] := rfl
theorem Il {b : Option Addr} {l c : Nat} : vcells (.lit (.slice b l c)) = some [.lit (.slice b l c)] := rfl
theorem Im {cs : List VV} {k : Nat} {f : Bool} : vcells (.sl cs k f) = some [.sl cs k f] := rfl
theorem Io {β o l e c : Nat} : vcells (.ref β o l e c) = some [.ref β o l e c] := rfl
theorem VG {cs xs : List VV} {off : Nat} : overwrite cs off xs = cs.take off ++ (xs ++ cs.drop (off + xs.length)) := by simp [overwrite, List.append_assoc]
def vzl (P : Program) (t : TypeId) : Option (List VV) := (vzero P t).map fun z => z.toList.map ofVal1
theorem Ip {t : TypeId} : aU P G γ ⟨d, .alloc t, ty, pos, af, g⟩ ⟨tm, H, nx, df⟩ K Qp = (match vzl P t with | some cs => fin d γ tm H nx df K (.ptr γ 0) (.new (.cells (some t) cs)) | none => False) := by
 rw [Iq]; unfold vzl; cases vzero P t <;> rfl
theorem VH {t : TypeId} : dbodyK P G γ ⟨d, .alloc t, ty, pos, af, g⟩ ⟨tm, H, nx, df⟩ Kd = (match vzl P t with | some cs => fin d γ tm H nx df (Kd (rdV ⟨d, .alloc t, ty, pos, af, g⟩ (ev G tm)) [γ]) (.ptr γ 0) (.new (.cells (some t) cs)) | none => False) := by
 rw [F5]; unfold vzl; cases vzero P t <;> rfl
def vstoreV (P : Program) (H : Nat → Option VObj) (t : TypeId) (a x : VV) : Option (VV × VEff) := match a with
  | .ptr β off => match H β, vcells x, szT P t with
   | some (.cells el cs), some xs, some n => if xs.length = n ∧ off + n ≤ cs.length then some (.any, .upd β (.cells el (overwrite cs off xs))) else none
   | _, _, _ => none
  | _ => none
theorem Ir {t : TypeId} {a x : Operand} : aU P G γ ⟨d, .store t a x, ty, pos, af, g⟩ ⟨tm, H, nx, df⟩ K Qp = oeK (vstoreV P H t (ev G tm a) (ev G tm x)) (fun y e => fin d γ tm H nx df K y e) := by
 rw [Is]; rfl
theorem It {t : TypeId} {x : VV} {β off : Nat} : vstoreV P H t (.ptr β off) x = (match H β, vcells x, szT P t with
   | some (.cells el cs), some xs, some n => if xs.length = n ∧ off + n ≤ cs.length then some (.any, .upd β (.cells el (overwrite cs off xs))) else none
   | _, _, _ => none) := rfl
end
def eI (n : Int) : List VV := [.lit (.int .i64 n)]
def vk (n : Int) : List VV := [.lit (.int .u8 n)]
def eB (b : Bool) : List VV := [.lit (.bool b)]
def eS (s : ByteArray) : List VV := [.lit (.string s)]
def eSl {α : Type} (enc : α → List VV) (xs : List α) : List VV := [.sl (aa enc xs) xs.length false]
theorem eI_eq {n : Int} : eI n = [.lit (.int .i64 n)] := rfl
theorem vl {n : Int} : vk n = [.lit (.int .u8 n)] := rfl
theorem eB_eq {b : Bool} : eB b = [.lit (.bool b)] := rfl
theorem eS_eq {s : ByteArray} : eS s = [.lit (.string s)] := rfl
theorem vm {α : Type} {enc : α → List VV} {xs : List α} : eSl enc xs = [.sl (aa enc xs) xs.length false] := rfl
structure EncOk {α : Type} (enc : α → List VV) : Prop where
 tree : ∀ x, treeL (enc x) = true
 norm : ∀ x, normL (enc x) = enc x
 shown : ∀ x H d, (enc x).map (showV H d) = enc x
theorem eI_ok : EncOk eI := ⟨fun _ => rfl, fun _ => rfl, fun _ _ d => by cases d <;> rfl⟩
theorem vn : EncOk vk := ⟨fun _ => rfl, fun _ => rfl, fun _ _ d => by cases d <;> rfl⟩
theorem eB_ok : EncOk eB := ⟨fun _ => rfl, fun _ => rfl, fun _ _ d => by cases d <;> rfl⟩
theorem eS_ok : EncOk eS := ⟨fun _ => rfl, fun _ => rfl, fun _ _ d => by cases d <;> rfl⟩
section
variable {α : Type} {enc : α → List VV} (h : EncOk enc)
include h
theorem EncOk.treeL (xs : List α) : Go.V.treeL (aa enc xs) = true := Iu h.tree xs
theorem EncOk.normL (xs : List α) : Go.V.normL (aa enc xs) = aa enc xs := Iv h.norm xs
theorem EncOk.showL (xs : List α) (H : Nat → Option VObj) (d : Nat) : (aa enc xs).map (showV H d) = aa enc xs := RO (fun x => h.shown x H d) xs
theorem EncOk.sl : EncOk (eSl enc) := ⟨fun x => by simp [eSl, Go.V.treeL, VV.tree, h.treeL], fun x => by simp [eSl, Go.V.normL, normV, h.normL], fun x H d => by cases d <;> rfl⟩
end
theorem EncOk.of {α : Type} {enc : α → List VV} (h1 : ∀ x, Go.V.treeL (enc x) = true) (h2 : ∀ x, Go.V.normL (enc x) = enc x) (h3 : ∀ x H d, (enc x).map (showV H d) = enc x) : EncOk enc := ⟨h1, h2, h3⟩
theorem Iw {H : Nat → Option VObj} {d : Nat} {v : Value} : showV H d (.lit v) = .lit v := by cases d <;> rfl
theorem Ix {H : Nat → Option VObj} {d n : Nat} {cs : List VV} {f : Bool} : showV H d (.sl cs n f) = .sl cs n f := by cases d <;> rfl
theorem bT {H : Nat → Option VObj} {d β off len es cp : Nat} : showV H (d + 1) (.ref β off len es cp) = (match H β with
   | some (.cells _ cs) => if off ≤ cs.length then .sl (((cs.drop off).take (len * es)).map (showV H d)) len false else .ref β off len es cp
   | _ => .ref β off len es cp) := rfl
theorem Iy {H : Nat → Option VObj} {d : Nat} {cs : List VV} : showV H (d + 1) (.agg cs) = .agg (cs.map (showV H d)) := rfl
theorem Iz {H : Nat → Option VObj} {d : Nat} {cs : List VV} : showV H (d + 1) (.tup cs) = .tup (cs.map (showV H d)) := rfl
theorem zD {cs : List VV} {n : Nat} {f : Bool} : normV (.sl cs n f) = .sl (normL cs) n false := by simp [normV]
theorem zE : normV (.lit (.slice none 0 0)) = .sl [] 0 false := by simp [normV]
theorem RP {cs : List VV} : normV (.agg cs) = .agg (normL cs) := by simp [normV]
theorem I1 {cs : List VV} : normV (.tup cs) = .tup (normL cs) := by simp [normV]
theorem RQ {k : IntKind} {n : Int} : normV (.lit (.int k n)) = .lit (.int k n) := by simp [normV]
theorem RT {b : Bool} : normV (.lit (.bool b)) = .lit (.bool b) := by simp [normV]
theorem VI {b : ByteArray} : normV (.lit (.string b)) = .lit (.string b) := by simp [normV]
theorem xi : normL [] = [] := rfl
theorem xh {x : VV} {xs : List VV} : normL (x :: xs) = normV x :: normL xs := by simp [normL]
theorem I2 : VV.tree .any = true := rfl
def vs := (And.intro (And.intro (And.intro (And.intro (And.intro (And.intro @I6 (And.intro @I7 @I8)) (And.intro (And.intro @IA @IB) (And.intro @IC @ID))) (And.intro (And.intro (And.intro @IE @IF) (And.intro @IG @VJ)) (And.intro (And.intro @IH @II) (And.intro @IJ @IK)))) (And.intro (And.intro (And.intro @IL (And.intro @IM @IN)) (And.intro (And.intro @IP @IQ) (And.intro @IS @IT))) (And.intro (And.intro (And.intro @IU @IV) (And.intro @VK @IW)) (And.intro (And.intro @uX @xj) (And.intro @IX @IY))))) (And.intro (And.intro (And.intro (And.intro @nN (And.intro @qX @IZ)) (And.intro (And.intro @nO @nh) (And.intro @Ja @Jb))) (And.intro (And.intro (And.intro @Jc @Jd) (And.intro @Je @Jf)) (And.intro (And.intro @argsTm1 @argsTm2) (And.intro @FB @F8)))) (And.intro (And.intro (And.intro (And.intro @F9 @Fv) (And.intro @Fx @U2)) (And.intro (And.intro @Fy @Fz) (And.intro @U3 @F0))) (And.intro (And.intro (And.intro @U4 @F1) (And.intro @F2 @F3)) (And.intro (And.intro @F4 @F6) (And.intro @F7 @VL)))))) (And.intro (And.intro (And.intro (And.intro (And.intro @Jg (And.intro @Jh @VM)) (And.intro (And.intro @Ji @Jj) (And.intro @Jk @Jl))) (And.intro (And.intro (And.intro @Jm @Jn) (And.intro @argsTm3 @argsTm4)) (And.intro (And.intro @zF @zG) (And.intro @zH @Jo)))) (And.intro (And.intro (And.intro @Jp (And.intro @Jq @Jr)) (And.intro (And.intro @HU @HV) (And.intro @HW @HX))) (And.intro (And.intro (And.intro @HY @HZ) (And.intro @Ia @Ib)) (And.intro (And.intro @Ic @Js) (And.intro @Jt @Ju))))) (And.intro (And.intro (And.intro (And.intro @Ir (And.intro @It @Ip)) (And.intro (And.intro @Jv @mw) (And.intro @my @Ie))) (And.intro (And.intro (And.intro @Ig @vj) (And.intro @Ih @Ii)) (And.intro (And.intro @Ij @Ik) (And.intro @Il @Im)))) (And.intro (And.intro (And.intro (And.intro @Io @VG) (And.intro @VN @VH)) (And.intro (And.intro @U5 @U6) (And.intro @Jw @Jx))) (And.intro (And.intro (And.intro @Jy @Jz) (And.intro @bp @cO)) (And.intro (And.intro @J1 @J2) (And.intro @bM @bL)))))))
section
variable {i : Nat} {a : Oper} {l : List Oper} {x : VV} {xs ys : List VV}
theorem J3 : (a :: l)[i + 1]? = l[i]? := rfl
theorem J4 : (a :: l)[0]? = some a := rfl
theorem J5 : (x :: xs)[i + 1]? = xs[i]? := rfl
theorem J6 : (x :: xs)[0]? = some x := rfl
theorem J7 {f : Oper → Option Tmp} : (some a).bind f = f a := rfl
theorem J8 {f : List VV → Option VV} : (some xs).bind f = f xs := rfl
theorem J9 : (a :: l).length = l.length + 1 := rfl
theorem JA : ([] : List Oper).length = 0 := rfl
theorem JB : (x :: xs).length = xs.length + 1 := rfl
theorem JC : ([] : List VV).length = 0 := rfl
theorem JD {f : Operand → VV} {o : Operand} {os : List Operand} : (o :: os).map f = f o :: os.map f := rfl
theorem JE {f : Operand → VV} : ([] : List Operand).map f = [] := rfl
theorem JF {f : Nat × Operand → Nat × VV} {o : Nat × Operand} {os : List (Nat × Operand)} : (o :: os).map f = f o :: os.map f := rfl
theorem JG {f : Nat × Operand → Nat × VV} : ([] : List (Nat × Operand)).map f = [] := rfl
theorem JH {f : VV → VV} : (x :: xs).map f = f x :: xs.map f := rfl
theorem JI {f : VV → VV} : ([] : List VV).map f = [] := rfl
theorem rl : (x :: xs) ++ ys = x :: (xs ++ ys) := rfl
theorem rn : [] ++ ys = ys := rfl
theorem JJ : (x :: xs).drop (i + 1) = xs.drop i := rfl
theorem JK : xs.drop 0 = xs := by simp
theorem JL : (x :: xs).take (i + 1) = x :: xs.take i := rfl
theorem JM : xs.take 0 = [] := by simp
theorem JN {o : VObj} : (some o).isSome = true := rfl
end
def cr := (And.intro (And.intro (And.intro (And.intro (And.intro @J3 @J4) (And.intro @J5 @J6)) (And.intro (And.intro @J7 @J8) (And.intro @J9 @JA))) (And.intro (And.intro (And.intro @JB @JC) (And.intro @JD @JE)) (And.intro (And.intro @JF @JG) (And.intro @JH @JI)))) (And.intro (And.intro (And.intro (And.intro @rl @rn) (And.intro @JJ @JK)) (And.intro (And.intro @JL @JM) (And.intro @JN @Nat.zero_add))) (And.intro (And.intro (And.intro @true_and @and_true) (And.intro @Bool.not_true @Bool.not_false)) (And.intro (And.intro @Bool.and_self @decide_true) (And.intro @decide_false (And.intro @Nat.add_assoc @Nat.zero_le))))))
def nrm := (And.intro (And.intro (And.intro (And.intro @zD @zE) (And.intro @RP (And.intro @I1 @RQ))) (And.intro (And.intro @RT @VI) (And.intro @xi (And.intro @xh @eI_ok.normL)))) (And.intro (And.intro (And.intro @vn.normL @eB_ok.normL) (And.intro @eS_ok.normL (And.intro @Iw @Ix))) (And.intro (And.intro @Iy (And.intro @Iz @eI_ok.showL)) (And.intro @vn.showL (And.intro @eB_ok.showL @eS_ok.showL)))))
def tre := (And.intro (And.intro (And.intro @xj @uX) (And.intro @IX (And.intro @zF @zG))) (And.intro (And.intro @zH (And.intro @eI_ok.treeL @vn.treeL)) (And.intro @eB_ok.treeL (And.intro @eS_ok.treeL @I2))))
end Go.V
end
