/- Part of a proof. -/
import Derived.Test.YtmhlghgbfmcdaaaGreatDoorS1bd
set_option linter.all false
section
namespace Go.V
open Go
set_option linter.defProp false
section
variable {P : Program} {G : Glob} {n : Nat} {γ : Nat} {tm : Nat → VV} {H : Nat → Option VObj} {nx : Nat} {df : List VDef} {K : St → Prop} {Kd : List Nat → List Nat → St → Prop} {Qp : VV → St → Prop}
 {d : Option Tmp} {ty : TypeId} {pos : String} {af : Array Edge} {g : Option (Nat × Bool)}
section
variable {a b : Prop} {x y : VV} {k : VV → Prop}
theorem yi : guardK (.lit (.bool true)) true a b = a := by simp [guardK]
theorem yj : guardK (.lit (.bool true)) false a b = b := by simp [guardK]
theorem yk : guardK (.lit (.bool false)) true a b = b := by simp [guardK]
theorem ym : guardK (.lit (.bool false)) false a b = a := by simp [guardK]
theorem yn {w : Bool} : guardK (.lit undef) w a b = b := rfl
theorem yo : pickK (.lit (.bool true)) x y k = k x := by simp [pickK]
theorem yp : pickK (.lit (.bool false)) x y k = k y := by simp [pickK]
theorem yq : condK (.lit (.bool true)) a b = a := by simp [condK]
theorem yr : condK (.lit (.bool false)) a b = b := by simp [condK]
end
theorem fc : leafL [] = true := rfl
theorem fe {x : VV} {xs : List VV} : leafL (x :: xs) = (x.leaf && leafL xs) := rfl
theorem s7 {k : IntKind} {i : Int} : (VV.lit (.int k i)).leaf = true := rfl
theorem s8 {b : Bool} : (VV.lit (.bool b)).leaf = true := rfl
theorem s9 {b : ByteArray} : (VV.lit (.string b)).leaf = true := rfl
theorem sA {b : Option Addr} {l c : Nat} : (VV.lit (.slice b l c)).leaf = true := rfl
theorem sB {cs : List VV} {k : Nat} {f : Bool} : (VV.sl cs k f).leaf = true := rfl
theorem yu {β o l e c : Nat} : (VV.ref β o l e c).leaf = true := rfl
theorem Gs {cs : List VV} : aH (.agg cs) = if leafL cs = true then some cs else none := by simp only [aH, nh]
theorem vcells1 {x : VV} (h : x.leaf = true) : aH x = some [x] := by
 cases x <;> first | rfl | (simp [aH, h]; done) | cases h
theorem L4 {k : IntKind} {i : Int} : aH (.lit (.int k i)) = some [.lit (.int k i)] := rfl
theorem L5 {b : Bool} : aH (.lit (.bool b)) = some [.lit (.bool b)] := rfl
theorem L6 {b : ByteArray} : aH (.lit (.string b)) = some [.lit (.string b)] := rfl
theorem L7 {b : Option Addr} {l c : Nat} : aH (.lit (.slice b l c)) = some [.lit (.slice b l c)] := rfl
theorem yv {cs : List VV} {k : Nat} {f : Bool} : aH (.sl cs k f) = some [.sl cs k f] := rfl
theorem L8 {β o l e c : Nat} : aH (.ref β o l e c) = some [.ref β o l e c] := rfl
theorem L9 {cs xs : List VV} {off : Nat} : overwrite cs off xs = cs.take off ++ (xs ++ cs.drop (off + xs.length)) := by simp [overwrite, List.append_assoc]
def vzl (P : Program) (t : TypeId) : Option (List VV) := (vzero P t).map fun z => z.toList.map ofVal1
theorem LA {t : TypeId} : aF P G γ ⟨d, .alloc t, ty, pos, af, g⟩ ⟨tm, H, nx, df⟩ K Qp = (match vzl P t with | some cs => fin d γ tm H nx df K (.ptr γ 0) (.new (.cells (some t) cs)) | none => False) := by
 rw [yw]; unfold vzl; cases vzero P t <;> rfl
theorem LB {t : TypeId} : aA P G γ ⟨d, .alloc t, ty, pos, af, g⟩ ⟨tm, H, nx, df⟩ Kd = (match vzl P t with | some cs => fin d γ tm H nx df (Kd (rdV ⟨d, .alloc t, ty, pos, af, g⟩ (ev G tm)) [γ]) (.ptr γ 0) (.new (.cells (some t) cs)) | none => False) := by
 rw [J6]; unfold vzl; cases vzero P t <;> rfl
def vstoreV (P : Program) (H : Nat → Option VObj) (t : TypeId) (a x : VV) : Option (VV × VEff) := match a with
  | .ptr β off => match H β, aH x, szT P t with
   | some (.cells el cs), some xs, some n => if xs.length = n ∧ off + n ≤ cs.length then some (.any, .upd β (.cells el (overwrite cs off xs))) else none
   | _, _, _ => none
  | _ => none
theorem LC {t : TypeId} {a x : Operand} : aF P G γ ⟨d, .store t a x, ty, pos, af, g⟩ ⟨tm, H, nx, df⟩ K Qp = oeK (vstoreV P H t (ev G tm a) (ev G tm x)) (fun y e => fin d γ tm H nx df K y e) := by
 rw [LD]; rfl
theorem LF {t : TypeId} {x : VV} {β off : Nat} : vstoreV P H t (.ptr β off) x = (match H β, aH x, szT P t with
   | some (.cells el cs), some xs, some n => if xs.length = n ∧ off + n ≤ cs.length then some (.any, .upd β (.cells el (overwrite cs off xs))) else none
   | _, _, _ => none) := rfl
end
def eI (n : Int) : List VV := [.lit (.int .i64 n)]
def kn (n : Int) : List VV := [.lit (.int .u8 n)]
def eB (b : Bool) : List VV := [.lit (.bool b)]
def eS (s : ByteArray) : List VV := [.lit (.string s)]
def eSl {α : Type} (enc : α → List VV) (xs : List α) : List VV := [.sl (aa enc xs) xs.length false]
theorem eI_eq {n : Int} : eI n = [.lit (.int .i64 n)] := rfl
theorem jt {n : Int} : kn n = [.lit (.int .u8 n)] := rfl
theorem eB_eq {b : Bool} : eB b = [.lit (.bool b)] := rfl
theorem eS_eq {s : ByteArray} : eS s = [.lit (.string s)] := rfl
theorem ju {α : Type} {enc : α → List VV} {xs : List α} : eSl enc xs = [.sl (aa enc xs) xs.length false] := rfl
structure EncOk {α : Type} (enc : α → List VV) : Prop where
 tree : ∀ x, treeL (enc x) = true
 norm : ∀ x, normL (enc x) = enc x
 shown : ∀ x H d, (enc x).map (showV H d) = enc x
theorem eI_ok : EncOk eI := ⟨fun _ => rfl, fun _ => rfl, fun _ _ d => by cases d <;> rfl⟩
theorem lS : EncOk kn := ⟨fun _ => rfl, fun _ => rfl, fun _ _ d => by cases d <;> rfl⟩
theorem eB_ok : EncOk eB := ⟨fun _ => rfl, fun _ => rfl, fun _ _ d => by cases d <;> rfl⟩
theorem eS_ok : EncOk eS := ⟨fun _ => rfl, fun _ => rfl, fun _ _ d => by cases d <;> rfl⟩
section
variable {α : Type} {enc : α → List VV} (h : EncOk enc)
include h
theorem EncOk.treeL (xs : List α) : Go.V.treeL (aa enc xs) = true := vJ h.tree xs
theorem EncOk.normL (xs : List α) : Go.V.normL (aa enc xs) = aa enc xs := vK h.norm xs
theorem EncOk.showL (xs : List α) (H : Nat → Option VObj) (d : Nat) : (aa enc xs).map (showV H d) = aa enc xs := Fq (fun x => h.shown x H d) xs
theorem EncOk.sl : EncOk (eSl enc) := ⟨fun x => by simp [eSl, Go.V.treeL, VV.tree, h.treeL], fun x => by simp [eSl, Go.V.normL, normV, h.normL], fun x H d => by cases d <;> rfl⟩
end
theorem EncOk.of {α : Type} {enc : α → List VV} (h1 : ∀ x, Go.V.treeL (enc x) = true) (h2 : ∀ x, Go.V.normL (enc x) = enc x) (h3 : ∀ x H d, (enc x).map (showV H d) = enc x) : EncOk enc := ⟨h1, h2, h3⟩
theorem yx {H : Nat → Option VObj} {d : Nat} {v : Value} : showV H d (.lit v) = .lit v := by cases d <;> rfl
theorem yy {H : Nat → Option VObj} {d n : Nat} {cs : List VV} {f : Bool} : showV H d (.sl cs n f) = .sl cs n f := by cases d <;> rfl
theorem eC {H : Nat → Option VObj} {d β off len es cp : Nat} : showV H (d + 1) (.ref β off len es cp) = (match H β with
   | some (.cells _ cs) => if off ≤ cs.length then .sl (((cs.drop off).take (len * es)).map (showV H d)) len false else .ref β off len es cp
   | _ => .ref β off len es cp) := rfl
theorem yz {H : Nat → Option VObj} {d : Nat} {cs : List VV} : showV H (d + 1) (.agg cs) = .agg (cs.map (showV H d)) := rfl
theorem y6 {H : Nat → Option VObj} {d : Nat} {cs : List VV} : showV H (d + 1) (.tup cs) = .tup (cs.map (showV H d)) := rfl
theorem pL {cs : List VV} {n : Nat} {f : Bool} : normV (.sl cs n f) = .sl (normL cs) n false := by simp [normV]
theorem Gt : normV (.lit (.slice none 0 0)) = .sl [] 0 false := by simp [normV]
theorem Gu {cs : List VV} : normV (.agg cs) = .agg (normL cs) := by simp [normV]
theorem y7 {cs : List VV} : normV (.tup cs) = .tup (normL cs) := by simp [normV]
theorem Gv {k : IntKind} {n : Int} : normV (.lit (.int k n)) = .lit (.int k n) := by simp [normV]
theorem y8 {b : Bool} : normV (.lit (.bool b)) = .lit (.bool b) := by simp [normV]
theorem LG {b : ByteArray} : normV (.lit (.string b)) = .lit (.string b) := by simp [normV]
theorem lT : normL [] = [] := rfl
theorem lU {x : VV} {xs : List VV} : normL (x :: xs) = normV x :: normL xs := by simp [normL]
theorem y9 : VV.tree .any = true := rfl
def vs := (And.intro (And.intro (And.intro (And.intro (And.intro (And.intro (And.intro @yA @LH) (And.intro @yB @yC)) (And.intro (And.intro @yD @yE) (And.intro @yF @LI))) (And.intro (And.intro (And.intro @yG @yH) (And.intro @LJ @yI)) (And.intro (And.intro @yJ @yK) (And.intro @yL @yM)))) (And.intro (And.intro (And.intro (And.intro @yN @yO) (And.intro @LK @yP)) (And.intro (And.intro @LL @yQ) (And.intro @yR @yS))) (And.intro (And.intro (And.intro @yT @LM) (And.intro @yU @Gw)) (And.intro (And.intro @Gx @Gy) (And.intro @yV (And.intro @lV @lW)))))) (And.intro (And.intro (And.intro (And.intro (And.intro @yW @yX) (And.intro @sC @yY)) (And.intro (And.intro @yZ @za) (And.intro @zb @zc))) (And.intro (And.intro (And.intro @zd @argsTm1) (And.intro @argsTm2 @JJ)) (And.intro (And.intro @JH @JI) (And.intro @v8 (And.intro @v9 @Jz))))) (And.intro (And.intro (And.intro (And.intro @J0 @vA) (And.intro @J1 @J2)) (And.intro (And.intro @J3 @J4) (And.intro @vB @vC))) (And.intro (And.intro (And.intro @J5 @vE) (And.intro @J8 @JD)) (And.intro (And.intro @LN @ze) (And.intro @Fz (And.intro @LO @LP))))))) (And.intro (And.intro (And.intro (And.intro (And.intro (And.intro @zf @zg) (And.intro @zh @zi)) (And.intro (And.intro @zj @zk) (And.intro @argsTm3 @argsTm4))) (And.intro (And.intro (And.intro @argsTm5 @pM) (And.intro @pN @Gz)) (And.intro (And.intro @zl @LQ) (And.intro @zm (And.intro @zn @yi))))) (And.intro (And.intro (And.intro (And.intro @yj @yk) (And.intro @ym @yn)) (And.intro (And.intro @yo @yp) (And.intro @yq @yr))) (And.intro (And.intro (And.intro @zo @LS) (And.intro @LU @LV)) (And.intro (And.intro @LC @LF) (And.intro @LA (And.intro @zp @fc)))))) (And.intro (And.intro (And.intro (And.intro (And.intro @fe @s7) (And.intro @s8 @s9)) (And.intro (And.intro @sA @sB) (And.intro @yu @Gs))) (And.intro (And.intro (And.intro @L4 @L5) (And.intro @L6 @L7)) (And.intro (And.intro @yv @L8) (And.intro @L9 (And.intro @LW @LB))))) (And.intro (And.intro (And.intro (And.intro @vD @J7) (And.intro @JB @J9)) (And.intro (And.intro @JA @zq) (And.intro @zr @zt))) (And.intro (And.intro (And.intro @zu @LX) (And.intro @zw @aX)) (And.intro (And.intro @aY @LY) (And.intro @LZ (And.intro @bT @bS))))))))
section
variable {i : Nat} {a : Oper} {l : List Oper} {x : VV} {xs ys : List VV}
theorem zx : (a :: l)[i + 1]? = l[i]? := rfl
theorem zy : (a :: l)[0]? = some a := rfl
theorem zz : (x :: xs)[i + 1]? = xs[i]? := rfl
theorem z1 : (x :: xs)[0]? = some x := rfl
theorem z2 {f : Oper → Option Tmp} : (some a).bind f = f a := rfl
theorem z3 {f : List VV → Option VV} : (some xs).bind f = f xs := rfl
theorem z4 {f : VV → VV} : (some x).map f = some (f x) := rfl
theorem z5 : (a :: l).length = l.length + 1 := rfl
theorem z6 : ([] : List Oper).length = 0 := rfl
theorem z7 : (x :: xs).length = xs.length + 1 := rfl
theorem z8 : ([] : List VV).length = 0 := rfl
theorem z9 {f : Operand → VV} {o : Operand} {os : List Operand} : (o :: os).map f = f o :: os.map f := rfl
theorem zA {f : Operand → VV} : ([] : List Operand).map f = [] := rfl
theorem zB {f : Nat × Operand → Nat × VV} {o : Nat × Operand} {os : List (Nat × Operand)} : (o :: os).map f = f o :: os.map f := rfl
theorem zC {f : Nat × Operand → Nat × VV} : ([] : List (Nat × Operand)).map f = [] := rfl
theorem zD {f : VV → VV} : (x :: xs).map f = f x :: xs.map f := rfl
theorem zE {f : VV → VV} : ([] : List VV).map f = [] := rfl
theorem fq : (x :: xs) ++ ys = x :: (xs ++ ys) := rfl
theorem fu : [] ++ ys = ys := rfl
theorem zF : (x :: xs).drop (i + 1) = xs.drop i := rfl
theorem zG : xs.drop 0 = xs := by simp
theorem zH : (x :: xs).take (i + 1) = x :: xs.take i := rfl
theorem zI : xs.take 0 = [] := by simp
theorem zJ {o : VObj} : (some o).isSome = true := rfl
theorem m_nil : (([] : List Nat) = []) = True := by simp
theorem m_ne {a b : Bool} : (a ≠ b) = ¬ (a = b) := rfl
theorem m_neN {a b : Nat} : (a ≠ b) = ¬ (a = b) := rfl
end
def cr := (And.intro (And.intro (And.intro (And.intro (And.intro @zx (And.intro @zy @zz)) (And.intro @z1 (And.intro @z2 @z3))) (And.intro (And.intro @z4 (And.intro @z5 @z6)) (And.intro (And.intro @z7 @z8) (And.intro @z9 @zA)))) (And.intro (And.intro (And.intro @zB (And.intro @zC @zD)) (And.intro @zE (And.intro @fq @fu))) (And.intro (And.intro @zF (And.intro @zG @zH)) (And.intro (And.intro @zI @zJ) (And.intro @m_nil @m_ne))))) (And.intro (And.intro (And.intro (And.intro @m_neN (And.intro @Nat.zero_add @not_true_eq_false)) (And.intro @not_false_eq_true (And.intro @false_implies @true_implies))) (And.intro (And.intro @true_and (And.intro @and_true @false_and)) (And.intro (And.intro @and_false @Bool.false_eq_true) (And.intro @Bool.true_eq_false @Bool.not_true)))) (And.intro (And.intro (And.intro @Bool.not_false (And.intro @Bool.and_self @decide_true)) (And.intro (And.intro @decide_false @Nat.add_assoc) (And.intro @Nat.zero_mul @Nat.one_mul))) (And.intro (And.intro @Nat.zero_le (And.intro @true_or @or_true)) (And.intro (And.intro @false_or @or_false) (And.intro @not_true @not_false_iff))))))
def nrm := (And.intro (And.intro (And.intro (And.intro @pL @Gt) (And.intro @Gu (And.intro @y7 @Gv))) (And.intro (And.intro @y8 @LG) (And.intro @lT (And.intro @lU @eI_ok.normL)))) (And.intro (And.intro (And.intro @lS.normL @eB_ok.normL) (And.intro @eS_ok.normL (And.intro @yx @yy))) (And.intro (And.intro @yz (And.intro @y6 @eI_ok.showL)) (And.intro @lS.showL (And.intro @eB_ok.showL @eS_ok.showL)))))
def tre := (And.intro (And.intro (And.intro @Gx @Gw) (And.intro @Gy (And.intro @pM @pN))) (And.intro (And.intro @Gz (And.intro @eI_ok.treeL @lS.treeL)) (And.intro @eB_ok.treeL (And.intro @eS_ok.treeL @y9))))
end Go.V
end
