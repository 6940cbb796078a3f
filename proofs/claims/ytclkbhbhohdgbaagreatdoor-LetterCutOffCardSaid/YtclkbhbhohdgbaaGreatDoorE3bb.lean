/- Part of a proof. -/
import Derived.Test.YtclkbhbhohdgbaaGreatDoorE3ba
set_option linter.all false
section
namespace Go.V
open Go
set_option linter.defProp false
variable {x : VV} {xs cs : List VV} {k : IntKind} {b : Bool} {l c β off : Nat} {t : TypeId}
section
variable {P : Program} {G : Gb} {n : Nat} {γ : Nat} {tm : Nat → VV} {H : Nat → Option Vo} {nx : Nat} {df : List VDef} {K : St → Prop} {Kd : List Nat → List Nat → St → Prop} {Qp : VV → St → Prop}
 {d : Option Tmp} {ty : TypeId} {pos : String} {af : Array Edge} {g : Option (Nat × Bool)}
section
variable {a b : Prop} {x y : VV} {k : VV → Prop}
theorem QO : guardK (.lit (.bool true)) true a b = a := by simp [guardK]
theorem QP : guardK (.lit (.bool true)) false a b = b := by simp [guardK]
theorem QQ : guardK (.lit (.bool false)) true a b = b := by simp [guardK]
theorem QR : guardK (.lit (.bool false)) false a b = a := by simp [guardK]
theorem QS {w : Bool} : guardK (.lit undef) w a b = b := rfl
theorem QT : pickK (.lit (.bool true)) x y k = k x := by simp [pickK]
theorem QU : pickK (.lit (.bool false)) x y k = k y := by simp [pickK]
theorem QV : condK (.lit (.bool true)) a b = a := by simp [condK]
theorem QW : condK (.lit (.bool false)) a b = b := by simp [condK]
end
theorem iB : leafL [] = true := rfl
theorem iC : leafL (x :: xs) = (x.leaf && leafL xs) := rfl
theorem Cb {i : Int} : (VV.lit (.int k i)).leaf = true := rfl
theorem Cc : (VV.lit (.bool b)).leaf = true := rfl
theorem Cd {b : ByteArray} : (VV.lit (.string b)).leaf = true := rfl
theorem Ce {b : Option Addr} : (VV.lit (.slice b l c)).leaf = true := rfl
theorem Cf {k : Nat} {f : Bool} : (VV.sl cs k f).leaf = true := rfl
theorem QX {o e : Nat} : (VV.ref β o l e c).leaf = true := rfl
theorem Qu : aW (.agg cs) = if leafL cs = true then some cs else none := by simp only [aW, ya]
theorem vcells1 (h : x.leaf = true) : aW x = some [x] := by
 cases x <;> first | rfl | (simp [aW, h]; done) | cases h
theorem QY {i : Int} : aW (.lit (.int k i)) = some [.lit (.int k i)] := rfl
theorem QZ : aW (.lit (.bool b)) = some [.lit (.bool b)] := rfl
theorem ztn {b : ByteArray} : aW (.lit (.string b)) = some [.lit (.string b)] := rfl
theorem Ra {b : Option Addr} : aW (.lit (.slice b l c)) = some [.lit (.slice b l c)] := rfl
theorem Rb {k : Nat} {f : Bool} : aW (.sl cs k f) = some [.sl cs k f] := rfl
theorem Rd {o e : Nat} : aW (.ref β o l e c) = some [.ref β o l e c] := rfl
theorem zwi : overwrite cs off xs = cs.take off ++ (xs ++ cs.drop (off + xs.length)) := by simp [overwrite, List.append_assoc]
def vzl (P : Program) (t : TypeId) : Option (List VV) := (vzero P t).map fun z => z.toList.map ofVal1
theorem Re : aX P G γ ⟨d, .alloc t, ty, pos, af, g⟩ ⟨tm, H, nx, df⟩ K Qp = (match vzl P t with | some cs => fin d γ tm H nx df K (.ptr γ 0) (.new (.cells (some t) cs)) | none => False) := by
 rw [ME]; unfold vzl; cases vzero P t <;> rfl
theorem zwd : aM P G γ ⟨d, .alloc t, ty, pos, af, g⟩ ⟨tm, H, nx, df⟩ Kd = (match vzl P t with | some cs => fin d γ tm H nx df (Kd (rdV ⟨d, .alloc t, ty, pos, af, g⟩ (ev G tm)) [γ]) (.ptr γ 0) (.new (.cells (some t) cs)) | none => False) := by
 rw [Gn]; unfold vzl; cases vzero P t <;> rfl
def vstoreV (P : Program) (H : Nat → Option Vo) (t : TypeId) (a x : VV) : Option (VV × Ve) := match a with
  | .ptr β off => match H β, aW x, szT P t with
   | some (.cells el cs), some xs, some n => if xs.length = n ∧ off + n ≤ cs.length then some (.any, .upd β (.cells el (overwrite cs off xs))) else none
   | _, _, _ => none
  | _ => none
theorem Rf {a x : Operand} : aX P G γ ⟨d, .store t a x, ty, pos, af, g⟩ ⟨tm, H, nx, df⟩ K Qp = oeK (vstoreV P H t (ev G tm a) (ev G tm x)) (fun y e => fin d γ tm H nx df K y e) := by
 rw [MH]; rfl
theorem Rg : vstoreV P H t (.ptr β off) x = (match H β, aW x, szT P t with
   | some (.cells el cs), some xs, some n => if xs.length = n ∧ off + n ≤ cs.length then some (.any, .upd β (.cells el (overwrite cs off xs))) else none
   | _, _, _ => none) := rfl
end
def eI (n : Int) : List VV := [.lit (.int .i64 n)]
def wC (n : Int) : List VV := [.lit (.int .u8 n)]
def eB (b : Bool) : List VV := [.lit (.bool b)]
def eS (s : ByteArray) : List VV := [.lit (.string s)]
def eSl {α : Type} (enc : α → List VV) (xs : List α) : List VV := [.sl (ad enc xs) xs.length false]
variable {n : Int}
theorem eI_eq : eI n = [.lit (.int .i64 n)] := rfl
theorem qj : wC n = [.lit (.int .u8 n)] := rfl
theorem eB_eq : eB b = [.lit (.bool b)] := rfl
theorem eS_eq {s : ByteArray} : eS s = [.lit (.string s)] := rfl
theorem qk {α : Type} {enc : α → List VV} {xs : List α} : eSl enc xs = [.sl (ad enc xs) xs.length false] := rfl
structure EncOk {α : Type} (enc : α → List VV) : Prop where
 tree : ∀ x, tl (enc x) = true
 norm : ∀ x, normL (enc x) = enc x
 shown : ∀ x H d, (enc x).map (showV H d) = enc x
theorem eI_ok : EncOk eI := ⟨fun _ => rfl, fun _ => rfl, fun _ _ d => by cases d <;> rfl⟩
theorem wD : EncOk wC := ⟨fun _ => rfl, fun _ => rfl, fun _ _ d => by cases d <;> rfl⟩
theorem eB_ok : EncOk eB := ⟨fun _ => rfl, fun _ => rfl, fun _ _ d => by cases d <;> rfl⟩
theorem eS_ok : EncOk eS := ⟨fun _ => rfl, fun _ => rfl, fun _ _ d => by cases d <;> rfl⟩
section
variable {α : Type} {enc : α → List VV} (h : EncOk enc)
include h
theorem EncOk.treeL (xs : List α) : Go.V.tl (ad enc xs) = true := NR h.tree xs
theorem EncOk.normL (xs : List α) : Go.V.normL (ad enc xs) = ad enc xs := NT h.norm xs
theorem EncOk.showL (xs : List α) (H : Nat → Option Vo) (d : Nat) : (ad enc xs).map (showV H d) = ad enc xs := Vk (fun x => h.shown x H d) xs
theorem EncOk.sl : EncOk (eSl enc) := ⟨fun x => by simp [eSl, Go.V.tl, VV.tree, h.treeL], fun x => by simp [eSl, Go.V.normL, normV, h.normL], fun x H d => by cases d <;> rfl⟩
end
theorem EncOk.of {α : Type} {enc : α → List VV} (h1 : ∀ x, Go.V.tl (enc x) = true) (h2 : ∀ x, Go.V.normL (enc x) = enc x) (h3 : ∀ x H d, (enc x).map (showV H d) = enc x) : EncOk enc := ⟨h1, h2, h3⟩
variable {H : Nat → Option Vo} {d : Nat}
theorem Rh {v : Value} : showV H d (.lit v) = .lit v := by cases d <;> rfl
theorem Ri {n : Nat} {f : Bool} : showV H d (.sl cs n f) = .sl cs n f := by cases d <;> rfl
theorem m5 : showV H (d + 1) (.mp β) = (match H β with
   | some (.map es) => .mt (es.map (·.1)) ((es.map (·.2)).map (showV H d))
   | _ => .mp β) := rfl
theorem dx {len es cp : Nat} : showV H (d + 1) (.ref β off len es cp) = (match H β with
   | some (.cells _ cs) => if off ≤ cs.length then .sl (((cs.drop off).take (len * es)).map (showV H d)) len false else .ref β off len es cp
   | _ => .ref β off len es cp) := rfl
theorem Rj : showV H (d + 1) (.agg cs) = .agg (cs.map (showV H d)) := rfl
theorem Rk : showV H (d + 1) (.tup cs) = .tup (cs.map (showV H d)) := rfl
theorem CG {n : Nat} {f : Bool} : normV (.sl cs n f) = .sl (normL cs) n false := by simp [normV]
theorem CF : normV (.lit (.slice none 0 0)) = .sl [] 0 false := by simp [normV]
theorem Vt : normV (.agg cs) = .agg (normL cs) := by simp [normV]
theorem Rm : normV (.tup cs) = .tup (normL cs) := by simp [normV]
theorem Vr : normV (.lit (.int k n)) = .lit (.int k n) := by simp [normV]
theorem Q3 : normV (.lit (.bool b)) = .lit (.bool b) := by simp [normV]
theorem zwy {b : ByteArray} : normV (.lit (.string b)) = .lit (.string b) := by simp [normV]
theorem wB : normL [] = [] := rfl
theorem wA : normL (x :: xs) = normV x :: normL xs := by simp [normL]
theorem Rn : VV.tree .any = true := rfl
def vs := (qZk (qZk (qZk (qZk (qZk (qZk (qZk @MS @MY) (qZk @MV @MT)) (qZk (qZk @MX @MW) (qZk @MU @MZ))) (qZk (qZk (qZk @Nb @Na) (qZk @Z4 @Tb)) (qZk (qZk @Nd @MQ) (qZk @MR @Mz)))) (qZk (qZk (qZk (qZk @M6 @M5) (qZk @Z5 @M7)) (qZk (qZk @M8 @MC) (qZk @MD @M9))) (qZk (qZk (qZk @MA @Z0) (qZk @MJ @UX)) (qZk (qZk @UW @Bt) (qZk @MM (qZk @kV @mW)))))) (qZk (qZk (qZk (qZk (qZk @Ng @kW) (qZk @kM @Nk)) (qZk (qZk @Nj @Np) (qZk @Ns @M1))) (qZk (qZk (qZk @M4 @argsTm1) (qZk @argsTm2 @Gw)) (qZk (qZk @Gt @Gu) (qZk @Ge (qZk @Gf @Wz))))) (qZk (qZk (qZk (qZk @Gg @Gh) (qZk @W6 @Gi)) (qZk (qZk @W7 @Gj) (qZk @Gk @Gl))) (qZk (qZk (qZk @Gm @Gr) (qZk @W9 @Gs)) (qZk (qZk @Zz @MB) (qZk @UO (qZk @MG @Z2))))))) (qZk (qZk (qZk (qZk (qZk (qZk @Nn @No) (qZk @Nl @Nm)) (qZk (qZk @Nq @Nr) (qZk @argsTm3 @argsTm4))) (qZk (qZk (qZk @argsTm5 @Bw) (qZk @Bu @Bv)) (qZk (qZk @Ro @Rq) (qZk @Rr (qZk @Rs @QO))))) (qZk (qZk (qZk (qZk @QP @QQ) (qZk @QR @QS)) (qZk (qZk @QT @QU) (qZk @QV @QW))) (qZk (qZk (qZk @ML @MK) (qZk @MI @Z3)) (qZk (qZk @Rf @Rg) (qZk @Re (qZk @MF @iB)))))) (qZk (qZk (qZk (qZk (qZk @iC @Cb) (qZk @Cc @Cd)) (qZk (qZk @Ce @Cf) (qZk @QX @Qu))) (qZk (qZk (qZk @QY @QZ) (qZk @ztn @Ra)) (qZk (qZk @Rb @Rd) (qZk @zwi (qZk @Z1 @zwd))))) (qZk (qZk (qZk (qZk @Gp @W8) (qZk @WB @Gq)) (qZk (qZk @WA @MN) (qZk @MO @MP))) (qZk (qZk (qZk @Nh @Ni) (qZk @M3 @bk)) (qZk (qZk @bF @Nc) (qZk @Nf (qZk @cN @cM))))))))
variable {f : Nat × Operand → Nat × VV}
section
variable {i : Nat} {a : Oper} {l : List Oper} {x : VV} {xs ys : List VV}
theorem Rt : (a :: l)[i + 1]? = l[i]? := rfl
theorem Ru : (a :: l)[0]? = some a := rfl
theorem Rv : (x :: xs)[i + 1]? = xs[i]? := rfl
theorem Rw : (x :: xs)[0]? = some x := rfl
theorem Rx {f : Oper → Option Tmp} : (some a).bind f = f a := rfl
theorem Ry {f : List VV → Option VV} : (some xs).bind f = f xs := rfl
theorem Rz {f : VV → VV} : (some x).map f = some (f x) := rfl
theorem R0 : (a :: l).length = l.length + 1 := rfl
theorem R1 : ([] : List Oper).length = 0 := rfl
theorem R2 : (x :: xs).length = xs.length + 1 := rfl
theorem R3 : ([] : List VV).length = 0 := rfl
theorem R4 {f : Operand → VV} {o : Operand} {os : List Operand} : (o :: os).map f = f o :: os.map f := rfl
theorem R5 {f : Operand → VV} : ([] : List Operand).map f = [] := rfl
theorem R6 {o : Nat × Operand} {os : List (Nat × Operand)} : (o :: os).map f = f o :: os.map f := rfl
theorem R7 : ([] : List (Nat × Operand)).map f = [] := rfl
theorem R8 {f : VV → VV} : (x :: xs).map f = f x :: xs.map f := rfl
theorem R9 {f : VV → VV} : ([] : List VV).map f = [] := rfl
theorem eW : (x :: xs) ++ ys = x :: (xs ++ ys) := rfl
theorem eX : [] ++ ys = ys := rfl
theorem RA : (x :: xs).drop (i + 1) = xs.drop i := rfl
theorem RB : xs.drop 0 = xs := by simp
theorem RC : (x :: xs).take (i + 1) = x :: xs.take i := rfl
theorem RE : xs.take 0 = [] := by simp
theorem RF {o : Vo} : (some o).isSome = true := rfl
theorem m_nil : (([] : List Nat) = []) = True := by simp
theorem m_ne {a : Bool} : (a ≠ b) = ¬ (a = b) := rfl
theorem m_neN {a b : Nat} : (a ≠ b) = ¬ (a = b) := rfl
end
def cr := (qZk (qZk (qZk (qZk (qZk @Rt (qZk @Ru @Rv)) (qZk @Rw (qZk @Rx @Ry))) (qZk (qZk @Rz (qZk @R0 @R1)) (qZk (qZk @R2 @R3) (qZk @R4 @R5)))) (qZk (qZk (qZk @R6 (qZk @R7 @R8)) (qZk @R9 (qZk @eW @eX))) (qZk (qZk @RA (qZk @RB @RC)) (qZk (qZk @RE @RF) (qZk @m_nil @m_ne))))) (qZk (qZk (qZk (qZk @m_neN (qZk @Nat.zero_add @not_true_eq_false)) (qZk @not_false_eq_true (qZk @false_implies @true_implies))) (qZk (qZk @true_and (qZk @and_true @false_and)) (qZk (qZk @and_false @Bool.false_eq_true) (qZk @Bool.true_eq_false @Bool.not_true)))) (qZk (qZk (qZk @Bool.not_false (qZk @Bool.and_self @decide_true)) (qZk (qZk @decide_false @Nat.add_assoc) (qZk @Nat.zero_mul @Nat.one_mul))) (qZk (qZk @Nat.zero_le (qZk @true_or @or_true)) (qZk (qZk @false_or @or_false) (qZk @not_true @not_false_iff))))))
def nrm := (qZk (qZk (qZk (qZk @CG @CF) (qZk @Vt (qZk @Rm @Vr))) (qZk (qZk @Q3 @zwy) (qZk @wB (qZk @wA @eI_ok.normL)))) (qZk (qZk (qZk @wD.normL @eB_ok.normL) (qZk @eS_ok.normL (qZk @Rh @Ri))) (qZk (qZk @Rj (qZk @Rk @eI_ok.showL)) (qZk @wD.showL (qZk @eB_ok.showL @eS_ok.showL)))))
def tre := (qZk (qZk (qZk @UW @UX) (qZk @Bt (qZk @Bw @Bu))) (qZk (qZk @Bv (qZk @eI_ok.treeL @wD.treeL)) (qZk @eB_ok.treeL (qZk @eS_ok.treeL @Rn))))
end Go.V
end
