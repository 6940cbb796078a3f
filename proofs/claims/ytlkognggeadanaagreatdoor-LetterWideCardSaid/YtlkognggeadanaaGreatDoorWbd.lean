/- Part of a proof. -/
import Derived.Test.YtlkognggeadanaaGreatDoorWbc
set_option linter.all false
section
namespace Go.V
open Go
set_option linter.defProp false
section
variable {P : Program} {G : Glob} {n : Nat} {γ : Nat} {tm : Nat → VV} {H : Nat → Option VObj} {nx : Nat} {df : List VDef} {K : St → Prop} {Kd : List Nat → List Nat → St → Prop} {Qp : VV → St → Prop}
 {d : Option Tmp} {ty : TypeId} {pos : String} {af : Array Edge} {g : Option (Nat × Bool)}
section
variable {a b : Prop} {x y : VV} {k : VV → Prop}
theorem LW : guardK (.lit (.bool true)) true a b = a := by simp [guardK]
theorem LX : guardK (.lit (.bool true)) false a b = b := by simp [guardK]
theorem LY : guardK (.lit (.bool false)) true a b = b := by simp [guardK]
theorem LZ : guardK (.lit (.bool false)) false a b = a := by simp [guardK]
theorem Ma {w : Bool} : guardK (.lit undef) w a b = b := rfl
theorem Mb : pickK (.lit (.bool true)) x y k = k x := by simp [pickK]
theorem Mc : pickK (.lit (.bool false)) x y k = k y := by simp [pickK]
theorem Md : condK (.lit (.bool true)) a b = a := by simp [condK]
theorem Me : condK (.lit (.bool false)) a b = b := by simp [condK]
end
theorem fT : leafL [] = true := rfl
theorem fU {x : VV} {xs : List VV} : leafL (x :: xs) = (x.leaf && leafL xs) := rfl
theorem FW {k : IntKind} {i : Int} : (VV.lit (.int k i)).leaf = true := rfl
theorem FX {b : Bool} : (VV.lit (.bool b)).leaf = true := rfl
theorem FY {b : ByteArray} : (VV.lit (.string b)).leaf = true := rfl
theorem FZ {b : Option Addr} {l c : Nat} : (VV.lit (.slice b l c)).leaf = true := rfl
theorem Ga {cs : List VV} {k : Nat} {f : Bool} : (VV.sl cs k f).leaf = true := rfl
theorem Mf {β o l e c : Nat} : (VV.ref β o l e c).leaf = true := rfl
theorem Mg {cs : List VV} : aS (.agg cs) = if leafL cs = true then some cs else none := by simp only [aS, F6]
theorem vcells1 {x : VV} (h : x.leaf = true) : aS x = some [x] := by
 cases x <;> first | rfl | (simp [aS, h]; done) | cases h
theorem Mh {k : IntKind} {i : Int} : aS (.lit (.int k i)) = some [.lit (.int k i)] := rfl
theorem Mi {b : Bool} : aS (.lit (.bool b)) = some [.lit (.bool b)] := rfl
theorem Z7 {b : ByteArray} : aS (.lit (.string b)) = some [.lit (.string b)] := rfl
theorem Mj {b : Option Addr} {l c : Nat} : aS (.lit (.slice b l c)) = some [.lit (.slice b l c)] := rfl
theorem Mk {cs : List VV} {k : Nat} {f : Bool} : aS (.sl cs k f) = some [.sl cs k f] := rfl
theorem Ml {β o l e c : Nat} : aS (.ref β o l e c) = some [.ref β o l e c] := rfl
theorem Z8 {cs xs : List VV} {off : Nat} : overwrite cs off xs = cs.take off ++ (xs ++ cs.drop (off + xs.length)) := by simp [overwrite, List.append_assoc]
def vzl (P : Program) (t : TypeId) : Option (List VV) := (vzero P t).map fun z => z.toList.map ofVal1
theorem Z9 {t : TypeId} : aU P G γ ⟨d, .alloc t, ty, pos, af, g⟩ ⟨tm, H, nx, df⟩ K Qp = (match vzl P t with | some cs => fin d γ tm H nx df K (.ptr γ 0) (.new (.cells (some t) cs)) | none => False) := by
 rw [Mm]; unfold vzl; cases vzero P t <;> rfl
theorem ZA {t : TypeId} : aN P G γ ⟨d, .alloc t, ty, pos, af, g⟩ ⟨tm, H, nx, df⟩ Kd = (match vzl P t with | some cs => fin d γ tm H nx df (Kd (rdV ⟨d, .alloc t, ty, pos, af, g⟩ (ev G tm)) [γ]) (.ptr γ 0) (.new (.cells (some t) cs)) | none => False) := by
 rw [Mn]; unfold vzl; cases vzero P t <;> rfl
def vstoreV (P : Program) (H : Nat → Option VObj) (t : TypeId) (a x : VV) : Option (VV × VEff) := match a with
  | .ptr β off => match H β, aS x, szT P t with
   | some (.cells el cs), some xs, some n => if xs.length = n ∧ off + n ≤ cs.length then some (.any, .upd β (.cells el (overwrite cs off xs))) else none
   | _, _, _ => none
  | _ => none
theorem Mo {t : TypeId} {a x : Operand} : aU P G γ ⟨d, .store t a x, ty, pos, af, g⟩ ⟨tm, H, nx, df⟩ K Qp = oeK (vstoreV P H t (ev G tm a) (ev G tm x)) (fun y e => fin d γ tm H nx df K y e) := by
 rw [Mp]; rfl
theorem Mq {t : TypeId} {x : VV} {β off : Nat} : vstoreV P H t (.ptr β off) x = (match H β, aS x, szT P t with
   | some (.cells el cs), some xs, some n => if xs.length = n ∧ off + n ≤ cs.length then some (.any, .upd β (.cells el (overwrite cs off xs))) else none
   | _, _, _ => none) := rfl
end
def eI (n : Int) : List VV := [.lit (.int .i64 n)]
def tf (n : Int) : List VV := [.lit (.int .u8 n)]
def eB (b : Bool) : List VV := [.lit (.bool b)]
def eS (s : ByteArray) : List VV := [.lit (.string s)]
def eSl {α : Type} (enc : α → List VV) (xs : List α) : List VV := [.sl (ad enc xs) xs.length false]
theorem eI_eq {n : Int} : eI n = [.lit (.int .i64 n)] := rfl
theorem tP {n : Int} : tf n = [.lit (.int .u8 n)] := rfl
theorem eB_eq {b : Bool} : eB b = [.lit (.bool b)] := rfl
theorem eS_eq {s : ByteArray} : eS s = [.lit (.string s)] := rfl
theorem tQ {α : Type} {enc : α → List VV} {xs : List α} : eSl enc xs = [.sl (ad enc xs) xs.length false] := rfl
structure EncOk {α : Type} (enc : α → List VV) : Prop where
 tree : ∀ x, treeL (enc x) = true
 norm : ∀ x, normL (enc x) = enc x
 shown : ∀ x H d, (enc x).map (showV H d) = enc x
theorem eI_ok : EncOk eI := ⟨fun _ => rfl, fun _ => rfl, fun _ _ d => by cases d <;> rfl⟩
theorem xa : EncOk tf := ⟨fun _ => rfl, fun _ => rfl, fun _ _ d => by cases d <;> rfl⟩
theorem eB_ok : EncOk eB := ⟨fun _ => rfl, fun _ => rfl, fun _ _ d => by cases d <;> rfl⟩
theorem eS_ok : EncOk eS := ⟨fun _ => rfl, fun _ => rfl, fun _ _ d => by cases d <;> rfl⟩
section
variable {α : Type} {enc : α → List VV} (h : EncOk enc)
include h
theorem EncOk.treeL (xs : List α) : Go.V.treeL (ad enc xs) = true := Kb h.tree xs
theorem EncOk.normL (xs : List α) : Go.V.normL (ad enc xs) = ad enc xs := Ka h.norm xs
theorem EncOk.showL (xs : List α) (H : Nat → Option VObj) (d : Nat) : (ad enc xs).map (showV H d) = ad enc xs := Vt (fun x => h.shown x H d) xs
theorem EncOk.sl : EncOk (eSl enc) := ⟨fun x => by simp [eSl, Go.V.treeL, VV.tree, h.treeL], fun x => by simp [eSl, Go.V.normL, normV, h.normL], fun x H d => by cases d <;> rfl⟩
end
theorem EncOk.of {α : Type} {enc : α → List VV} (h1 : ∀ x, Go.V.treeL (enc x) = true) (h2 : ∀ x, Go.V.normL (enc x) = enc x) (h3 : ∀ x H d, (enc x).map (showV H d) = enc x) : EncOk enc := ⟨h1, h2, h3⟩
theorem Mr {H : Nat → Option VObj} {d : Nat} {v : Value} : showV H d (.lit v) = .lit v := by cases d <;> rfl
theorem Ms {H : Nat → Option VObj} {d n : Nat} {cs : List VV} {f : Bool} : showV H d (.sl cs n f) = .sl cs n f := by cases d <;> rfl
theorem iY {H : Nat → Option VObj} {d β : Nat} : showV H (d + 1) (.mp β) = (match H β with
   | some (.map es) => .mt (es.map (·.1)) ((es.map (·.2)).map (showV H d))
   | _ => .mp β) := rfl
theorem eK {H : Nat → Option VObj} {d β off len es cp : Nat} : showV H (d + 1) (.ref β off len es cp) = (match H β with
   | some (.cells _ cs) => if off ≤ cs.length then .sl (((cs.drop off).take (len * es)).map (showV H d)) len false else .ref β off len es cp
   | _ => .ref β off len es cp) := rfl
theorem Mt {H : Nat → Option VObj} {d : Nat} {cs : List VV} : showV H (d + 1) (.agg cs) = .agg (cs.map (showV H d)) := rfl
theorem Mu {H : Nat → Option VObj} {d : Nat} {cs : List VV} : showV H (d + 1) (.tup cs) = .tup (cs.map (showV H d)) := rfl
theorem BW {cs : List VV} {n : Nat} {f : Bool} : normV (.sl cs n f) = .sl (normL cs) n false := by simp [normV]
theorem VS : normV (.lit (.slice none 0 0)) = .sl [] 0 false := by simp [normV]
theorem VT {cs : List VV} : normV (.agg cs) = .agg (normL cs) := by simp [normV]
theorem Mv {cs : List VV} : normV (.tup cs) = .tup (normL cs) := by simp [normV]
theorem VU {k : IntKind} {n : Int} : normV (.lit (.int k n)) = .lit (.int k n) := by simp [normV]
theorem Hy {b : Bool} : normV (.lit (.bool b)) = .lit (.bool b) := by simp [normV]
theorem ZB {b : ByteArray} : normV (.lit (.string b)) = .lit (.string b) := by simp [normV]
theorem wX : normL [] = [] := rfl
theorem wW {x : VV} {xs : List VV} : normL (x :: xs) = normV x :: normL xs := by simp [normL]
theorem Mw : VV.tree .any = true := rfl
def vs := (And.intro (And.intro (And.intro (And.intro (And.intro (And.intro (And.intro @Mx @My) (And.intro @Mz @M0)) (And.intro (And.intro @M1 @M3) (And.intro @M4 @M5))) (And.intro (And.intro (And.intro @M6 @M7) (And.intro @ZC @M8)) (And.intro (And.intro @M9 @MA) (And.intro @MB @MC)))) (And.intro (And.intro (And.intro (And.intro @MD @ME) (And.intro @ZD @MF)) (And.intro (And.intro @MG @MH) (And.intro @MI @MJ))) (And.intro (And.intro (And.intro @MK @ZE) (And.intro @ML @VW)) (And.intro (And.intro @VX @BX) (And.intro @MM (And.intro @rn @rp)))))) (And.intro (And.intro (And.intro (And.intro (And.intro @MN @BY) (And.intro @yC @MO)) (And.intro (And.intro @MP @MQ) (And.intro @MR @MS))) (And.intro (And.intro (And.intro @MT @argsTm1) (And.intro @argsTm2 @MU)) (And.intro (And.intro @MV @ZF) (And.intro @MW (And.intro @MX @ZG))))) (And.intro (And.intro (And.intro (And.intro @MY @MZ) (And.intro @ZH @ZI)) (And.intro (And.intro @ZJ @ZK) (And.intro @Na @Nb))) (And.intro (And.intro (And.intro @Nc @Nd) (And.intro @ZL @Nf)) (And.intro (And.intro @ZM @Ng) (And.intro @UF (And.intro @Nh @ZN))))))) (And.intro (And.intro (And.intro (And.intro (And.intro (And.intro @Ni @Nj) (And.intro @Nk @Nl)) (And.intro (And.intro @Nm @Nn) (And.intro @argsTm3 @argsTm4))) (And.intro (And.intro (And.intro @argsTm5 @BZ) (And.intro @Ca @Cb)) (And.intro (And.intro @JU @JW) (And.intro @JS (And.intro @JT @LW))))) (And.intro (And.intro (And.intro (And.intro @LX @LY) (And.intro @LZ @Ma)) (And.intro (And.intro @Mb @Mc) (And.intro @Md @Me))) (And.intro (And.intro (And.intro @No @Np) (And.intro @Nq @ZO)) (And.intro (And.intro @Mo @Mq) (And.intro @Z9 (And.intro @Nr @fT)))))) (And.intro (And.intro (And.intro (And.intro (And.intro @fU @FW) (And.intro @FX @FY)) (And.intro (And.intro @FZ @Ga) (And.intro @Mf @Mg))) (And.intro (And.intro (And.intro @Mh @Mi) (And.intro @Z7 @Mj)) (And.intro (And.intro @Mk @Ml) (And.intro @Z8 (And.intro @ZP @ZA))))) (And.intro (And.intro (And.intro (And.intro @Ns @ZQ) (And.intro @ZR @Nt)) (And.intro (And.intro @ZS @Nu) (And.intro @Nv @Nw))) (And.intro (And.intro (And.intro @Nx @Ny) (And.intro @Nz @cq)) (And.intro (And.intro @ct @N0) (And.intro @ZT (And.intro @dQ @dP))))))))
section
variable {i : Nat} {a : Oper} {l : List Oper} {x : VV} {xs ys : List VV}
theorem N1 : (a :: l)[i + 1]? = l[i]? := rfl
theorem N2 : (a :: l)[0]? = some a := rfl
theorem N3 : (x :: xs)[i + 1]? = xs[i]? := rfl
theorem N4 : (x :: xs)[0]? = some x := rfl
theorem N5 {f : Oper → Option Tmp} : (some a).bind f = f a := rfl
theorem N6 {f : List VV → Option VV} : (some xs).bind f = f xs := rfl
theorem N7 {f : VV → VV} : (some x).map f = some (f x) := rfl
theorem N8 : (a :: l).length = l.length + 1 := rfl
theorem N9 : ([] : List Oper).length = 0 := rfl
theorem NA : (x :: xs).length = xs.length + 1 := rfl
theorem NB : ([] : List VV).length = 0 := rfl
theorem NC {f : Operand → VV} {o : Operand} {os : List Operand} : (o :: os).map f = f o :: os.map f := rfl
theorem ND {f : Operand → VV} : ([] : List Operand).map f = [] := rfl
theorem NF {f : Nat × Operand → Nat × VV} {o : Nat × Operand} {os : List (Nat × Operand)} : (o :: os).map f = f o :: os.map f := rfl
theorem NG {f : Nat × Operand → Nat × VV} : ([] : List (Nat × Operand)).map f = [] := rfl
theorem NH {f : VV → VV} : (x :: xs).map f = f x :: xs.map f := rfl
theorem NI {f : VV → VV} : ([] : List VV).map f = [] := rfl
theorem fV : (x :: xs) ++ ys = x :: (xs ++ ys) := rfl
theorem fW : [] ++ ys = ys := rfl
theorem NJ : (x :: xs).drop (i + 1) = xs.drop i := rfl
theorem NK : xs.drop 0 = xs := by simp
theorem NL : (x :: xs).take (i + 1) = x :: xs.take i := rfl
theorem NM : xs.take 0 = [] := by simp
theorem NN {o : VObj} : (some o).isSome = true := rfl
theorem m_nil : (([] : List Nat) = []) = True := by simp
theorem m_ne {a b : Bool} : (a ≠ b) = ¬ (a = b) := rfl
theorem m_neN {a b : Nat} : (a ≠ b) = ¬ (a = b) := rfl
end
def cr := (And.intro (And.intro (And.intro (And.intro (And.intro @N1 (And.intro @N2 @N3)) (And.intro @N4 (And.intro @N5 @N6))) (And.intro (And.intro @N7 (And.intro @N8 @N9)) (And.intro (And.intro @NA @NB) (And.intro @NC @ND)))) (And.intro (And.intro (And.intro @NF (And.intro @NG @NH)) (And.intro @NI (And.intro @fV @fW))) (And.intro (And.intro @NJ (And.intro @NK @NL)) (And.intro (And.intro @NM @NN) (And.intro @m_nil @m_ne))))) (And.intro (And.intro (And.intro (And.intro @m_neN (And.intro @Nat.zero_add @not_true_eq_false)) (And.intro @not_false_eq_true (And.intro @false_implies @true_implies))) (And.intro (And.intro @true_and (And.intro @and_true @false_and)) (And.intro (And.intro @and_false @Bool.false_eq_true) (And.intro @Bool.true_eq_false @Bool.not_true)))) (And.intro (And.intro (And.intro @Bool.not_false (And.intro @Bool.and_self @decide_true)) (And.intro (And.intro @decide_false @Nat.add_assoc) (And.intro @Nat.zero_mul @Nat.one_mul))) (And.intro (And.intro @Nat.zero_le (And.intro @true_or @or_true)) (And.intro (And.intro @false_or @or_false) (And.intro @not_true @not_false_iff))))))
def nrm := (And.intro (And.intro (And.intro (And.intro @BW @VS) (And.intro @VT (And.intro @Mv @VU))) (And.intro (And.intro @Hy @ZB) (And.intro @wX (And.intro @wW @eI_ok.normL)))) (And.intro (And.intro (And.intro @xa.normL @eB_ok.normL) (And.intro @eS_ok.normL (And.intro @Mr @Ms))) (And.intro (And.intro @Mt (And.intro @Mu @eI_ok.showL)) (And.intro @xa.showL (And.intro @eB_ok.showL @eS_ok.showL)))))
def tre := (And.intro (And.intro (And.intro @VX @VW) (And.intro @BX (And.intro @BZ @Ca))) (And.intro (And.intro @Cb (And.intro @eI_ok.treeL @xa.treeL)) (And.intro @eB_ok.treeL (And.intro @eS_ok.treeL @Mw))))
end Go.V
end
