/- Part of a proof. -/
import Derived.Test.YtmhlghgbfmcdaaaGreatDoorS1bk
set_option linter.all false
set_option maxRecDepth 4000
set_option maxHeartbeats 40000000
section
namespace Go.V
open Go Go.Proofs IntKind
def ij (ai : GBk) (ag : List Int) : List GBs → Int → (List GSpan) → (List (GBe × Int)) → Option (LOut ((List GSpan) × Int) ((List GSpan) × (List (GBe × Int))))
 | [], ik, b2, b5 => some (.go (b2, b5))
 | e0 :: p0, ik, b2, b5 => Option.bind (oX ai ag ([ik]) b5) (fun r4 => cond (roomOk 16 (List.length (b2 ++ [r4.1]))) (ij ai ag p0 (ik + 1) (b2 ++ [r4.1]) r4.2) none)
def oY (ai : GBk) (ag : List Int) : Option ((List GSpan) × Int) := Option.bind (m5 ai) (fun r1 => cond (r1) (Option.bind (m7 ai ag) (fun r2 => cond (r2) (cond (lenOk ai.Strokes) (lbind (ij ai ag ai.Strokes 0 ([] : List GSpan) ([] : List (GBe × Int))) (fun r6 => some r6) (fun c5 => some (c5.1, 0)) (fun _ _ => none)) none) (some (([] : List GSpan), 2)))) (some (([] : List GSpan), 2)))
theorem K2 (ai : GBk) (ag : List Int) (R : (List GSpan) × Int) (h : oY ai ag = some R) : ah Tryz.prog G0 22 [.agg (cGBk ai), .sl (aa eI ag) (List.length ag) false] (.tree (.tup [.sl (aa cGSpan R.1) (List.length R.1) false, .lit (.int .i64 R.2)])) := by
 refine ah.runR mixed Tryz.call22 Tryz.func22 rfl (by simp [Tryz.ntmps22]; kernel_rfl) ?_
 obtain ⟨KF, h, kF, kN⟩ := bU h
 simp only [oY] at h
 obtain ⟨r7, o8, h⟩ := optI h kN
 try simp only [hs] at h
 simp only [vz, mq, mqm, vsi, tyf, mqt, nm, seval]
 refine ktree (args0 := [.agg (cGBk ai)]) (by first | (simp only [nrm, aG, @bZ] <;> rfl) | rfl) (by simp only [tre, tytre, mqr, Bool.and_self]) (EC _ _ o8) ?_
 refine bx (fun tm => tm 1 = .sl (aa eI ag) (List.length ag) false ∧ tm 2 = .ptr 0 0 ∧ tm 10 = .lit (.bool r7) ∧ True) (by refine ⟨?_, ?_, ?_, trivial⟩ <;> first | (simp only [ua, bm, nm, seval] <;> rfl) | rfl) ?_
 rintro tm ⟨e9, aV, bc, _⟩
 cases bG : (r7)
 ·simp only [bG, hs] at h
  try simp only [vz, mq, mqm, vsi, tyf, mqt, e9, aV, bc, bG, nm, seval]
  refine bR (x := (.tup [.lit (.slice none 0 0), .lit (.int .i64 2)])) (by first | (simp only [Tryz.results22, resV, resL, resV1, bS, bT, uw, cr, tyf, mqt, bG, nm, seval] <;> rfl) | rfl) ?_
  obtain rfl := kF _ h
  refine eR ?_ ?_
  ·simp only [tre, tytre, mqr, Bool.and_self]
  ·first | (simp only [outV, uw, eC, cr, tyf, mqt, nrm, aG, e9, aV, bc, bG, nm, seval] <;> rfl) | rfl
 simp only [bG, hs] at h
 obtain ⟨jg, vg, h⟩ := optI h kN
 try simp only [hs] at h
 simp only [vz, mq, mqm, vsi, tyf, mqt, e9, aV, bc, bG, nm, seval]
 refine ktree (args0 := [.agg (cGBk ai), .sl (aa eI ag) (List.length ag) false]) (by first | (simp only [nrm, aG, @bZ] <;> rfl) | rfl) (by simp only [tre, tytre, mqr, Bool.and_self]) (ED _ _ _ vg) ?_
 refine bx (fun tm => tm 1 = .sl (aa eI ag) (List.length ag) false ∧ tm 2 = .ptr 0 0 ∧ tm 12 = .lit (.bool false) ∧ tm 15 = .lit (.bool jg) ∧ True) (by refine ⟨e9, aV, ?_, ?_, trivial⟩ <;> first | (simp only [ua, bm, e9, aV, bc, bG, nm, seval] <;> rfl) | rfl) ?_
 rintro tm ⟨bL, bn, bh, bp, _⟩
 cases bC : (jg)
 ·simp only [bC, hs] at h
  try simp only [vz, mq, mqm, vsi, tyf, mqt, bG, bL, bn, bh, bp, bC, nm, seval]
  refine bR (x := (.tup [.lit (.slice none 0 0), .lit (.int .i64 2)])) (by first | (simp only [Tryz.results22, resV, resL, resV1, bS, bT, uw, cr, tyf, mqt, bG, bC, nm, seval] <;> rfl) | rfl) ?_
  obtain rfl := kF _ h
  refine eR ?_ ?_
  ·simp only [tre, tytre, mqr, Bool.and_self]
  ·first | (simp only [outV, uw, eC, cr, tyf, mqt, nrm, aG, bG, bL, bn, bh, bp, bC, nm, seval] <;> rfl) | rfl
 simp only [bC, hs] at h
 try simp only [vz, mq, mqm, vsi, tyf, mqt, bG, bL, bn, bh, bp, bC, nm, seval]
 refine kopen ?_
 rw [mV]
 refine aq.run mixed Tryz.call69 Tryz.func69 rfl (by simp [Tryz.ntmps69]; kernel_rfl) ?_
 try simp only [vz, mq, mqm, vsi, tyf, mqt, bG, bC, nm, seval]
 refine bR (x := (.agg ((cGBk ai) ++ [.sl (aa eI ag) (List.length ag) false] ++ [.mp 21]))) (by first | (simp only [Tryz.results69, resV, resL, resV1, bS, bT, uw, cr, tyf, mqt, bG, bC, nm, seval] <;> rfl) | rfl) ?_
 cases ed : (lenOk ai.Strokes)
 ·simp only [ed, hs] at h
  exact absurd h kN
 simp only [ed, hs] at h
 simp only [vz, mq, mqm, vsi, tyf, mqt, bG, bC, bL, bn, bh, bp, ed, nm, seval]
 obtain ⟨K8, h, K9, oZ, KA, jk⟩ := fh h kN
 obtain ⟨KB, xm, h⟩ := call4 h
 obtain ⟨KC, jl⟩ : ∃ I : Nat → St → Prop, I = (fun m st => ∃ (gP : List GBs) (aU : Int) (b6 : List GSpan) (fG : List (GBe × Int)) (fV : VV), m = List.length gP ∧ 0 ≤ aU ∧ List.drop (Int.toNat aU) ai.Strokes = gP ∧ st.df = [] ∧ 29 ≤ st.nx ∧ st.H 21 = some (.map (encM aL bO fG)) ∧ st.H 15 = some (.cells (some 92) ((cGBk ai) ++ [.sl (aa eI ag) (List.length ag) false] ++ [.mp 21])) ∧ st.tm 6 = .ptr 15 0 ∧ st.tm 23 = .lit (.int .i64 (List.length ai.Strokes : Int)) ∧ st.tm 7 = fV ∧ st.tm 24 = .lit (.int .i64 aU) ∧ ((∃ (β : Nat) (el : Option TypeId), fV = .ref β 0 (List.length b6) 2 (List.length b6) ∧ β < st.nx ∧ β ≠ 21 ∧ β ≠ 15 ∧ st.H β = some (.cells el (aa cGSpan b6))) ∨ (fV = .lit (.slice none 0 0) ∧ b6 = [])) ∧ K8 (KB gP aU b6 fG)) := ⟨_, rfl⟩
 refine loopK mixed (by kernel_rfl) KC (List.length ai.Strokes) (by rw [jl]; refine ⟨ai.Strokes, 0, ([] : List GSpan), ([] : List (GBe × Int)), .lit (.slice none 0 0), rfl, Int.le_refl _, rfl, rfl, (show 29 ≤ 29 by omega), ?_, ?_, ?_, ?_, ?_, ?_, Or.inr ⟨rfl, rfl⟩, h⟩ <;> first | (simp only [ua, bm, bG, bC, bL, bn, bh, bp, nm, seval] <;> rfl) | rfl) ?_
 rintro m ⟨tm, H, eg, df⟩ hinv
 rw [jl] at hinv
 obtain ⟨gP, aU, b6, fG, fV, rfl, cT, dA, hdf, xn, dq, dr, bu, bB, bY, aW, il, h⟩ := hinv
 simp only at hdf xn dq dr bu bB bY aW il
 have dy := gF (m := 29) (b := eg) (by omega)
 subst hdf xm
 rcases il with ⟨jY, im, rfl, xo, xq, xr, eA⟩ | ⟨rfl, rfl⟩
 ·have iq := gm xo
  have ir := ne_f xq
  have iu := ne_f xr
  cases gP with
  | nil =>
   have dw : (decide (aU < (List.length ai.Strokes : Int))) = false := fj cT dA
   simp only [ij, hs, reduceCtorEq] at h
   replace h := oZ _ h
   try dsimp only at h
   try simp only [hs] at h
   try simp only [vz, mq, mqm, vsi, tyf, mqt, bG, bC, ed, dy, bu, bB, bY, aW, dq, dr, iq, eA, ir, iu, dw, nm, seval]
   refine bR (x := (.tup [.ref jY 0 (List.length b6) 2 (List.length b6), .lit (.int .i64 0)])) (by first | (simp only [Tryz.results22, resV, resL, resV1, bS, bT, uw, cr, tyf, mqt, bG, bC, ed, dy, dq, dr, iq, eA, ir, iu, dw, nm, seval] <;> rfl) | rfl) ?_
   obtain rfl := kF _ h
   refine eR ?_ ?_
   ·simp only [tre, tytre, mqr, Bool.and_self]
   ·first | (simp only [outV, uw, eC, cr, tyf, mqt, nrm, aG, bG, bC, ed, dy, bu, bB, bY, aW, dq, dr, iq, eA, ir, iu, dw, nm, seval] <;> rfl) | rfl
  | cons cR gP =>
   have pa : (decide (aU < (List.length ai.Strokes : Int))) = true := fk cT dA
   have lA := dg cT dA
   have dt := fm cT dA ed
   simp only [ij, hs, reduceCtorEq] at h
   obtain ⟨jZ, KD, h⟩ := optI h jk
   try simp only [hs] at h
   simp only [vz, mq, mqm, vsi, tyf, mqt, bG, bC, ed, dy, bu, bB, bY, aW, dq, dr, iq, eA, ir, iu, pa, (aK lA), dt, nm, seval]
   refine kupdF (args' := [.agg ((cGBk ai) ++ [.sl (aa eI ag) (List.length ag) false] ++ [.mp 21]), .sl (aa eI ([aU])) (List.length ([aU])) false]) (g := (eg + 6)) (el := (some 3)) (cs := aa eI ([aU])) (by first | rfl | assumption | (simp only [aX, aY, eh, dy, dq, dr, iq, eA, ir, iu, nm, seval] <;> rfl) | (simp only [aX, aY, fD, fU, fq, fu, tyf, mqt, bG, bC, ed, dy, bu, bB, bY, aW, dq, dr, iq, eA, ir, iu, pa, (aK lA), dt, nm, seval]; done)) ⟨.same, Frozen.own (el := (some 3)) (cs := aa eI ([aU])) (by first | rfl | assumption | (simp only [aX, aY, eh, dy, dq, dr, iq, eA, ir, iu, nm, seval] <;> rfl) | (simp only [aX, aY, fD, fU, fq, fu, tyf, mqt, bG, bC, ed, dy, bu, bB, bY, aW, dq, dr, iq, eA, ir, iu, pa, (aK lA), dt, nm, seval]; done)) (eI_ok.treeL _) (dR (w := 1) (enc := eI) (fun _ => rfl) _), trivial⟩ (VUpd.at (β := 21) (y := (fun _ => .agg (cGSpan jZ.1))) (FL _ _ _ _ _ KD) (by omega) (by first | rfl | assumption | (simp only [aX, aY, dy, dq, dr, iq, eA, ir, iu, nm, seval] <;> rfl)) (by first | rfl | (simp only [nrm, aG, @bZ, @d4] <;> rfl) | (simp only [tyf, mqt, List.cons_append, List.nil_append, nrm, aG, @bZ, @d4] <;> rfl)) (dP (fun _ => rfl) _)) ?_
   refine dY (fun tm => tm 6 = .ptr 15 0 ∧ tm 23 = .lit (.int .i64 (List.length ai.Strokes : Int)) ∧ tm 24 = .lit (.int .i64 aU) ∧ tm 27 = .ref jY 0 (List.length b6) 2 (List.length b6) ∧ tm 31 = .agg (cGSpan jZ.1) ∧ True) (by refine ⟨bu, bB, aW, ?_, ?_, trivial⟩ <;> first | (simp only [ua, bm, bG, bC, dy, bu, bB, bY, aW, dq, dr, iq, eA, ir, iu, pa, dt, nm, seval] <;> rfl) | rfl) ?_
   rintro tm ⟨dM, cU, cV, cb, ck, _⟩
   have iM := And.intro bG (And.intro bC (And.intro ed (And.intro dy (And.intro dq (And.intro dr (And.intro iq (And.intro eA (And.intro ir (And.intro iu (And.intro pa dt))))))))))
   cases lB : (roomOk 16 (List.length (b6 ++ [jZ.1])))
   ·simp only [lB, hs] at h
    exact absurd h jk
   simp only [lB, hs] at h
   simp only [vz, mq, mqm, vsi, tyf, mqt, iM, (aK lA), dM, cU, cV, cb, ck, lB, nm, seval]
   refine k_app (w := 2) (enc := cGSpan) (xs := b6) (ys := ([jZ.1])) (el := im) (mW := (some 35)) (fun _ => rfl) pb pc Tryz.underlying31 (by first | rfl | assumption | (simp only [aX, aY, jm, iM, nm, seval] <;> rfl) | (simp only [aX, aY, fD, fU, fq, fu, tyf, mqt, iM, (aK lA), dM, cU, cV, cb, ck, lB, nm, seval]; done)) (by first | rfl | assumption | (simp only [aX, aY, jm, iM, nm, seval] <;> rfl) | (simp only [aX, aY, fD, fU, fq, fu, tyf, mqt, iM, (aK lA), dM, cU, cV, cb, ck, lB, nm, seval]; done)) (Nat.zero_lt_succ _) lB ?_
   simp only [vz, mq, mqm, vsi, tyf, mqt, iM, (aK lA), dM, cU, cV, cb, ck, lB, nm, seval]
   exact ⟨List.length gP, Nat.lt_succ_self _, by rw [jl]; refine ⟨gP, aU + 1, (b6 ++ [jZ.1]), jZ.2, .ref (eg + 9) 0 (List.length (b6 ++ [jZ.1])) 2 (List.length (b6 ++ [jZ.1])), rfl, Int.le_trans cT (Int.le_add_one (Int.le_refl _)), dh cT dA, rfl, (show 29 ≤ eg + 13 by omega), ?_, ?_, dM, cU, ?_, ?_, Or.inl ⟨eg + 9, (sameEl im 35), rfl, (by first | omega | (simp only [nm, seval]; done) | (simp only [nm, seval]; omega)), (by first | omega | (intro hh; simp only [iM, reduceCtorEq] at hh)), (by first | omega | (intro hh; simp only [iM, reduceCtorEq] at hh)), ?_⟩, (by first | exact h | (simp only [iM]; exact h))⟩ <;> first | (simp only [ua, bm, iM, dM, cU, cV, cb, ck, nm, seval] <;> rfl) | rfl⟩
 ·cases gP with
  | nil =>
   have cW : (decide (aU < (List.length ai.Strokes : Int))) = false := fj cT dA
   simp only [ij, hs, reduceCtorEq] at h
   replace h := oZ _ h
   try dsimp only at h
   try simp only [hs] at h
   try simp only [vz, mq, mqm, vsi, tyf, mqt, bG, bC, ed, dy, bu, bB, bY, aW, dq, dr, cW, nm, seval]
   refine bR (x := (.tup [.lit (.slice none 0 0), .lit (.int .i64 0)])) (by first | (simp only [Tryz.results22, resV, resL, resV1, bS, bT, uw, cr, tyf, mqt, bG, bC, ed, dy, dq, dr, cW, nm, seval] <;> rfl) | rfl) ?_
   obtain rfl := kF _ h
   refine eR ?_ ?_
   ·simp only [tre, tytre, mqr, Bool.and_self]
   ·first | (simp only [outV, uw, eC, cr, tyf, mqt, nrm, aG, bG, bC, ed, dy, bu, bB, bY, aW, dq, dr, cW, nm, seval] <;> rfl) | rfl
  | cons cR gP =>
   have pd : (decide (aU < (List.length ai.Strokes : Int))) = true := fk cT dA
   have mX := dg cT dA
   have pf := fm cT dA ed
   simp only [ij, hs, reduceCtorEq] at h
   obtain ⟨ka, KE, h⟩ := optI h jk
   try simp only [hs] at h
   simp only [vz, mq, mqm, vsi, tyf, mqt, bG, bC, ed, dy, bu, bB, bY, aW, dq, dr, pd, (aK mX), pf, nm, seval]
   refine kupdF (args' := [.agg ((cGBk ai) ++ [.sl (aa eI ag) (List.length ag) false] ++ [.mp 21]), .sl (aa eI ([aU])) (List.length ([aU])) false]) (g := (eg + 6)) (el := (some 3)) (cs := aa eI ([aU])) (by first | rfl | assumption | (simp only [aX, aY, eh, dy, dq, dr, nm, seval] <;> rfl) | (simp only [aX, aY, fD, fU, fq, fu, tyf, mqt, bG, bC, ed, dy, bu, bB, bY, aW, dq, dr, pd, (aK mX), pf, nm, seval]; done)) ⟨.same, Frozen.own (el := (some 3)) (cs := aa eI ([aU])) (by first | rfl | assumption | (simp only [aX, aY, eh, dy, dq, dr, nm, seval] <;> rfl) | (simp only [aX, aY, fD, fU, fq, fu, tyf, mqt, bG, bC, ed, dy, bu, bB, bY, aW, dq, dr, pd, (aK mX), pf, nm, seval]; done)) (eI_ok.treeL _) (dR (w := 1) (enc := eI) (fun _ => rfl) _), trivial⟩ (VUpd.at (β := 21) (y := (fun _ => .agg (cGSpan ka.1))) (FL _ _ _ _ _ KE) (by omega) (by first | rfl | assumption | (simp only [aX, aY, dy, dq, dr, nm, seval] <;> rfl)) (by first | rfl | (simp only [nrm, aG, @bZ, @d4] <;> rfl) | (simp only [tyf, mqt, List.cons_append, List.nil_append, nrm, aG, @bZ, @d4] <;> rfl)) (dP (fun _ => rfl) _)) ?_
   refine dY (fun tm => tm 6 = .ptr 15 0 ∧ tm 23 = .lit (.int .i64 (List.length ai.Strokes : Int)) ∧ tm 24 = .lit (.int .i64 aU) ∧ tm 27 = .lit (.slice none 0 0) ∧ tm 31 = .agg (cGSpan ka.1) ∧ True) (by refine ⟨bu, bB, aW, ?_, ?_, trivial⟩ <;> first | (simp only [ua, bm, bG, bC, dy, bu, bB, bY, aW, dq, dr, pd, pf, nm, seval] <;> rfl) | rfl) ?_
   rintro tm ⟨eu, gI, gX, sj, sk, _⟩
   have kc := And.intro bG (And.intro bC (And.intro ed (And.intro dy (And.intro dq (And.intro dr (And.intro pd pf))))))
   cases mY : (roomOk 16 (List.length (([] : List GSpan) ++ [ka.1])))
   ·simp only [mY, hs] at h
    exact absurd h jk
   simp only [mY, hs] at h
   simp only [vz, mq, mqm, vsi, tyf, mqt, kc, (aK mX), eu, gI, gX, sj, sk, mY, nm, seval]
   refine pg (w := 2) (enc := cGSpan) (ys := ([ka.1])) (mW := (some 35)) (fun _ => rfl) pb pc Tryz.underlying31 (by first | rfl | assumption | (simp only [aX, aY, jm, kc, nm, seval] <;> rfl) | (simp only [aX, aY, fD, fU, fq, fu, tyf, mqt, kc, (aK mX), eu, gI, gX, sj, sk, mY, nm, seval]; done)) (Nat.zero_lt_succ _) mY ?_
   simp only [vz, mq, mqm, vsi, tyf, mqt, kc, (aK mX), eu, gI, gX, sj, sk, mY, nm, seval]
   exact ⟨List.length gP, Nat.lt_succ_self _, by rw [jl]; refine ⟨gP, aU + 1, (([] : List GSpan) ++ [ka.1]), ka.2, .ref (eg + 9) 0 (List.length (([] : List GSpan) ++ [ka.1])) 2 (List.length (([] : List GSpan) ++ [ka.1])), rfl, Int.le_trans cT (Int.le_add_one (Int.le_refl _)), dh cT dA, rfl, (show 29 ≤ eg + 13 by omega), ?_, ?_, eu, gI, ?_, ?_, Or.inl ⟨eg + 9, (some 35), rfl, (by first | omega | (simp only [nm, seval]; done) | (simp only [nm, seval]; omega)), (by first | omega | (intro hh; simp only [kc, reduceCtorEq] at hh)), (by first | omega | (intro hh; simp only [kc, reduceCtorEq] at hh)), ?_⟩, (by first | exact h | (simp only [kc]; exact h))⟩ <;> first | (simp only [ua, bm, kc, eu, gI, gX, sj, sk, nm, seval] <;> rfl) | rfl⟩




theorem setAF {α : Type} {enc : α → List VV} {w : Nat} {xs : List α} {x : α} {i : Int} (o m : Nat) (he : ∀ x, (enc x).length = w) (hm : o + m ≤ w) (h : getI xs i = some x) : (i.toNat * w + o + m ≤ (aa enc xs).length) = True := by
 have h1 := of_eq_true (setA (w := w) (enc := enc) he h)
 exact eq_true (by omega)
theorem KG (A X B : List VV) (o : Nat) (cs : List VV) (h : o + cs.length ≤ X.length) : overwrite (A ++ (X ++ B)) (A.length + o) cs = A ++ (overwrite X o cs ++ B) := by
 unfold overwrite
 rw [List.take_append, List.take_of_length_le (Nat.le_add_right _ _), show A.length + o - A.length = o by omega, List.take_append_of_le_length (by omega),
  List.drop_append, List.drop_of_length_le (by omega), List.nil_append, show A.length + o + cs.length - A.length = o + cs.length by omega, List.drop_append_of_le_length h]
 simp only [List.append_assoc]
theorem setBF {α : Type} {enc : α → List VV} {w : Nat} {xs : List α} {x : α} {i : Int} (o : Nat) (cs : List VV) (v : α) (he : ∀ x, (enc x).length = w) (hc : o + cs.length ≤ w) (h : getI xs i = some x) (hv : enc v = overwrite (enc x) o cs) : overwrite (aa enc xs) (i.toNat * w + o) cs = aa enc (xs.set i.toNat v) := by
 obtain ⟨h0, h1, h2⟩ := kd h
 have hn : i.toNat < xs.length := by omega
 have e1 : xs = xs.take i.toNat ++ (x :: xs.drop (i.toNat + 1)) := by
  rw [← h2, List.take_append_drop]
 have e2 : xs.set i.toNat v = xs.take i.toNat ++ (v :: xs.drop (i.toNat + 1)) := by
  rw [List.set_eq_take_append_cons_drop, if_pos hn]
 have hl : (xs.take i.toNat).length = i.toNat := by rw [List.length_take]; omega
 have e3 : aa enc xs = aa enc (xs.take i.toNat) ++ (enc x ++ aa enc (xs.drop (i.toNat + 1))) := by
  conv => lhs; rw [e1, mS]
  rfl
 have e4 : (aa enc (xs.take i.toNat)).length = i.toNat * w := by rw [dR he, hl]
 rw [e3, ← e4, KG _ _ _ _ _ (by rw [he]; exact hc), ← hv, e2, mS]
 rfl
def ph (xs : List GBs) : Option (List GBs) := cond (neB xs) (cond (roomOk 56 xs.length) (some xs) none) none
theorem FM (xs R : List GBs) (h : ph xs = some R) : ah Tryz.prog G0 136 [.sl (aa cGBs xs) xs.length false] (.own (aa cGBs R) R.length 5) := by
 unfold ph at h
 cases hn : neB xs with
 | false => rw [hn] at h; cases h
 | true =>
 cases hr : roomOk 56 xs.length with
 | false => rw [hn, hr] at h; cases h
 | true =>
 rw [hn, hr] at h
 simp only [cond_true, Option.some.injEq] at h
 subst h
 have hc : aa cGBs xs ≠ [] := by
  cases xs with
  | nil => cases hn
  | cons a l => intro hh; cases hh
 have hnil : ∀ (H : Nat → Option VObj) (x y : Operand), binV Tryz.prog H .eql 23 x y (.sl (aa cGBs xs) xs.length false) (.lit (.slice none 0 0)) = some (.lit (.bool false)) := fun H x y => KH Tryz.underlying23 hc
 have hb : ar Tryz.prog 23 0 [] = some ([], 5) := by kernel_rfl
 refine ah.run mixed Tryz.call136 Tryz.func136 rfl (by simp [Tryz.ntmps136]; kernel_rfl) ?_
 simp only [vz, tyf, hnil, hb, List.map_nil, seval]
 refine xt (w := 5) (enc := cGBs) (xs := ([] : List GBs)) (ys := xs) (el := some 49) (fun _ => rfl) oA oB Tryz.underlying23 rfl hn (by rw [List.nil_append]; exact hr) ?_
 simp only [vz, tyf, List.nil_append, seval]
 refine ⟨rfl, .ref 5 0 xs.length 5 xs.length, by simp [Tryz.results136, resV, resL, resV1, upd], (aa cGBs xs).length + 1, 5, _, aa cGBs xs, ⟨_, rfl⟩, by simp only [aX, aY, seval] <;> rfl, mZ _ _ (dB.treeL xs) (Nat.lt_succ_self _)⟩
def lC (xb : GBk) (xp : List Int) (xs : Int) : Nat → Int → (List (GBe × Int)) → Option (LOut ((Int) × List (GBe × Int)) (Int × (List (GBe × Int))))
 | 0, dz, b5 => some (.go (dz, b5))
 | k0 + 1, dz, b5 => Option.bind (ph xb.Strokes) (fun r5 => Option.bind (getI r5 xs) (fun x6 => Option.bind (lD (GBk.mk xb.Apprentices xb.Boards (List.set r5 (Int.toNat xs) (GBs.mk x6.Board x6.Round (GSpan.mk x6.Hours.Low (i64.wrap (x6.Hours.High + (dz + 1)))) x6.Needs))) xp ([] : List (GBe × Int))) (fun r7 => Option.bind (lD xb xp b5) (fun r8 => cond (r7.1 == r8.1) (lC xb xp xs k0 (dz + 1) r8.2) (some (.go (dz, r8.2)))))))
def sn (xb : GBk) (xp : List Int) (xs : Int) (l0 : List (GBe × Int)) : Option ((Int) × List (GBe × Int)) := cond (boundOk 9) (lbind (lC xb xp xs (Int.toNat (9 - 0)) 0 l0) (fun la => some la) (fun c9 => some (c9.1, c9.2)) (fun _ _ => none)) none
theorem KI (xb : GBk) (xp : List Int) (xs : Int) (l0 : List (GBe × Int)) (R : (Int) × List (GBe × Int)) (h : sn xb xp xs l0 = some R) : VUpd Tryz.prog G0 81 (fun β => [.agg [.lit (.int .i64 xb.Apprentices), .sl (aa eI xb.Boards) (List.length xb.Boards) false, .sl (aa cGBs xb.Strokes) (List.length xb.Strokes) false, .sl (aa eI xp) (List.length xp) false, .mp β], .lit (.int .i64 xs)]) (encM aL bO l0) (encM aL bO R.2) (fun _ => .lit (.int .i64 R.1)) := by
 intro aT nx hlt
 have aO := gm (β := aT) (nx := nx) hlt
 refine aq.run mixed Tryz.call81 Tryz.func81 rfl (by simp [Tryz.ntmps81]; kernel_rfl) ?_
 obtain ⟨KF, h, kF, kN⟩ := bU h
 simp only [sn] at h
 cases ke : (boundOk 9)
 ·simp only [ke, hs] at h
  exact absurd h kN
 simp only [ke, hs] at h
 simp only [vz, mq, mqm, flr, vsi, tyf, mqt, aO, ke, nm, seval]
 obtain ⟨KJ, h, KK, jn, KL, eX⟩ := fh h kN
 obtain ⟨KM, xu, h⟩ := call3 h
 obtain ⟨KN, jo⟩ : ∃ I : Nat → St → Prop, I = (fun m st => ∃ (iN : Nat) (aN : Int) (fH : List (GBe × Int)), iN = m ∧ loOk aN = true ∧ Int.toNat (9 - aN) = iN ∧ st.df = [] ∧ nx + 3 ≤ st.nx ∧ st.H aT = some (.map (encM aL bO fH)) ∧ st.H nx = some (.cells (some 92) ((cGBk xb) ++ [.sl (aa eI xp) (List.length xp) false] ++ [.mp aT])) ∧ st.tm 1 = .lit (.int .i64 xs) ∧ st.tm 2 = .ptr nx 0 ∧ st.tm 5 = .lit (.int .i64 aN) ∧ KJ (KM iN aN fH)) := ⟨_, rfl⟩
 refine loopK mixed (by kernel_rfl) KN (Int.toNat (9 - 0)) (by rw [jo]; refine ⟨Int.toNat (9 - 0), 0, l0, rfl, (by rfl), rfl, rfl, (show nx + 3 ≤ nx + 3 by omega), ?_, ?_, ?_, ?_, ?_, h⟩ <;> first | (simp only [ua, bm, aO, nm, seval] <;> rfl) | rfl) ?_
 rintro m ⟨tm, H, c8, df⟩ hinv
 rw [jo] at hinv
 obtain ⟨iN, aN, fH, rfl, lE, iv, hdf, xv, lF, fL, bL, bn, bh, h⟩ := hinv
 simp only at hdf xv lF fL bL bn bh
 have na := nZ (a := nx) (m := 3) (b := c8) (by omega)
 have gE := gm (β := aT) (nx := c8) (by omega)
 subst hdf xu
 cases iN with
 | zero =>
  have de : (decide (aN < 9)) = false := KO iv
  simp only [lC, hs, reduceCtorEq] at h
  simp only [vz, mq, mqm, flr, vsi, tyf, mqt, aO, ke, na, gE, bL, bn, bh, lF, fL, de, nm, seval]
  refine Fy (fun tm => tm 1 = .lit (.int .i64 xs) ∧ tm 2 = .ptr nx 0 ∧ tm 5 = .lit (.int .i64 aN) ∧ True) (by refine ⟨bL, bn, bh, trivial⟩ <;> first | (simp only [ua, bm, aO, na, gE, bL, bn, bh, lF, fL, de, nm, seval] <;> rfl) | rfl) ?_
  rintro tm ⟨cD, b4, bf, _⟩
  have gQ := And.intro aO (And.intro ke (And.intro na (And.intro gE (And.intro lF (And.intro fL de)))))
  refine FN mixed 9 [([true, true, true, true, true, true, true, false, false, false, false, false, false], 7)] [false, false, false, false, false, false, false, false, true, false, true, true, true] [false, false, false, false, false, false, false, false, true, true, true, true, true] (by kernel_rfl) ?_
  refine FO ?_
  simp only [vz, mq, mqm, flr, vsi, tyf, mqt, gQ, cD, b4, bf, nm, seval]
  refine nc ⟨?_, ?_⟩
  ·try simp only [gq, gu, cP, gv, and_true, true_and]
   repeat' (first | exact trivial | refine And.intro ?_ ?_ | rw [cP] | rw [gw] | exact Or.inl (by decide +kernel) | exact Or.inl (by dsimp only; decide +kernel) | (refine Or.inr ⟨?_, ?_⟩ <;> simp; done) | (refine Or.inr ⟨?_, ?_⟩ <;> simp <;> omega) | (refine Or.inr ⟨?_, ?_⟩ <;> simp [VEff.wr] <;> omega))
  refine ⟨?_, ?_⟩
  ·refine jq rfl ?_
   try simp only [vz, mq, mqm, flr, vsi, tyf, mqt, gQ, cD, b4, bf, nm, seval]
   refine FP ?_
   simp only [vz, mq, mqm, flr, vsi, tyf, mqt, gQ, cD, b4, bf, nm, seval]
   refine nc ⟨?_, ?_⟩
   ·try simp only [gq, gu, cP, gv, and_true, true_and]
    repeat' (first | exact trivial | refine And.intro ?_ ?_ | rw [cP] | rw [gw] | exact Or.inl (by decide +kernel) | exact Or.inl (by dsimp only; decide +kernel) | (refine Or.inr ⟨?_, ?_⟩ <;> simp; done) | (refine Or.inr ⟨?_, ?_⟩ <;> simp <;> omega) | (refine Or.inr ⟨?_, ?_⟩ <;> simp [VEff.wr] <;> omega))
   replace h := jn _ h
   try dsimp only at h
   try simp only [hs] at h
   try simp only [vz, mq, mqm, flr, vsi, tyf, mqt, gQ, cD, b4, bf, nm, seval]
   refine bR (x := (.lit (.int .i64 aN))) (by first | (simp only [Tryz.results81, resV, resL, resV1, bS, bT, uw, cr, tyf, mqt, gQ, nm, seval] <;> rfl) | rfl) ?_
   obtain rfl := kF _ h
   refine ⟨(by first | rfl | assumption | (simp only [aX, aY, gQ, nm, seval] <;> rfl)), ?_⟩
   exact sq_of (fQ (by first | (simp only [tre, tytre, mqr, Bool.and_self]; done) | rfl) rfl)
  refine pj rfl ?_
  try simp only [vz, mq, mqm, flr, vsi, tyf, mqt, gQ, cD, b4, bf, nm, seval]
  refine ⟨?_, ?_⟩
  ·try simp only [gq, gu, cP, gv, and_true, true_and]
   repeat' (first | exact trivial | refine And.intro ?_ ?_ | rw [cP] | rw [gw] | exact Or.inl (by decide +kernel) | exact Or.inl (by dsimp only; decide +kernel) | (refine Or.inr ⟨?_, ?_⟩ <;> simp; done) | (refine Or.inr ⟨?_, ?_⟩ <;> simp <;> omega) | (refine Or.inr ⟨?_, ?_⟩ <;> simp [VEff.wr] <;> omega))
  refine jq rfl ?_
  try simp only [vz, mq, mqm, flr, vsi, tyf, mqt, gQ, cD, b4, bf, nm, seval]
  refine FQ ?_
  simp only [vz, mq, mqm, flr, vsi, tyf, mqt, gQ, cD, b4, bf, nm, seval]
  refine nc ⟨?_, ?_⟩
  ·try simp only [gq, gu, cP, gv, and_true, true_and]
   repeat' (first | exact trivial | refine And.intro ?_ ?_ | rw [cP] | rw [gw] | exact Or.inl (by decide +kernel) | exact Or.inl (by dsimp only; decide +kernel) | (refine Or.inr ⟨?_, ?_⟩ <;> simp; done) | (refine Or.inr ⟨?_, ?_⟩ <;> simp <;> omega) | (refine Or.inr ⟨?_, ?_⟩ <;> simp [VEff.wr] <;> omega))
  replace h := jn _ h
  try dsimp only at h
  try simp only [hs] at h
  try simp only [vz, mq, mqm, flr, vsi, tyf, mqt, gQ, cD, b4, bf, nm, seval]
  refine bR (x := (.lit (.int .i64 aN))) (by first | (simp only [Tryz.results81, resV, resL, resV1, bS, bT, uw, cr, tyf, mqt, gQ, nm, seval] <;> rfl) | rfl) ?_
  obtain rfl := kF _ h
  refine ⟨(by first | rfl | assumption | (simp only [aX, aY, gQ, nm, seval] <;> rfl)), ?_⟩
  exact sq_of (fQ (by first | (simp only [tre, tytre, mqr, Bool.and_self]; done) | rfl) rfl)
 | succ iN =>
  have xw : (decide (aN < 9)) = true := xx iv
  have xy := xz lE iv ke
  simp only [lC, hs, reduceCtorEq] at h
  simp only [vz, mq, mqm, flr, vsi, tyf, mqt, aO, ke, na, gE, bL, bn, bh, lF, fL, xw, xy, nm, seval]
  refine Fy (fun tm => tm 1 = .lit (.int .i64 xs) ∧ tm 2 = .ptr nx 0 ∧ tm 5 = .lit (.int .i64 aN) ∧ True) (by refine ⟨bL, bn, bh, trivial⟩ <;> first | (simp only [ua, bm, aO, na, gE, bL, bn, bh, lF, fL, xw, xy, nm, seval] <;> rfl) | rfl) ?_
  rintro tm ⟨aW, bQ, bA, _⟩
  have bt := And.intro aO (And.intro ke (And.intro na (And.intro gE (And.intro lF (And.intro fL (And.intro xw xy))))))
  refine FN mixed 9 [([true, true, true, true, true, true, true, false, false, false, false, false, false], 7)] [false, false, false, false, false, false, false, false, true, false, true, true, true] [false, false, false, false, false, false, false, false, true, true, true, true, true] (by kernel_rfl) ?_
  refine FO ?_
  simp only [vz, mq, mqm, flr, vsi, tyf, mqt, bt, aW, bQ, bA, nm, seval]
  refine nc ⟨?_, ?_⟩
  ·try simp only [gq, gu, cP, gv, and_true, true_and]
   repeat' (first | exact trivial | refine And.intro ?_ ?_ | rw [cP] | rw [gw] | exact Or.inl (by decide +kernel) | exact Or.inl (by dsimp only; decide +kernel) | (refine Or.inr ⟨?_, ?_⟩ <;> simp; done) | (refine Or.inr ⟨?_, ?_⟩ <;> simp <;> omega) | (refine Or.inr ⟨?_, ?_⟩ <;> simp [VEff.wr] <;> omega))
  refine ⟨?_, ?_⟩
  ·refine jq rfl ?_
   try simp only [vz, mq, mqm, flr, vsi, tyf, mqt, bt, aW, bQ, bA, nm, seval]
   refine kopen ?_
   rw [mV]
   refine aq.run mixed Tryz.call112 Tryz.func112 rfl (by simp [Tryz.ntmps112]; kernel_rfl) ?_
   obtain ⟨iw, KP, h⟩ := optI h eX
   try simp only [hs] at h
   simp only [vz, mq, mqm, flr, vsi, tyf, mqt, bt, nm, seval]
   refine kown (args0 := [.sl (aa cGBs xb.Strokes) (List.length xb.Strokes) false]) (by first | (simp only [nrm, aG, @bZ] <;> rfl) | rfl) (by simp only [tre, tytre, mqr, Bool.and_self]) (FM _ _ KP) ?_
   obtain ⟨b7, cn, h⟩ := optI h eX
   try simp only [hs] at h
   have dt := setAF (w := 5) (enc := cGBs) 3 1 (fun _ => rfl) (by decide) cn
   have eE := setBF (w := 5) (enc := cGBs) 3 [.lit (.int .i64 (i64.wrap (b7.Hours.High + (aN + 1))))] (GBs.mk b7.Board b7.Round (GSpan.mk b7.Hours.Low (i64.wrap (b7.Hours.High + (aN + 1)))) b7.Needs) (fun _ => rfl) (Nat.le_of_ble_eq_true rfl) cn rfl
   simp only [vz, mq, mqm, flr, vsi, tyf, mqt, (aS cn), nm, seval] at eE
   have eY := setC (w := 5) (enc := cGBs) iw (Int.toNat xs) (GBs.mk b7.Board b7.Round (GSpan.mk b7.Hours.Low (i64.wrap (b7.Hours.High + (aN + 1)))) b7.Needs) (fun _ => rfl)
   try simp only [vz, mq, mqm, flr, vsi, tyf, mqt, bt, (aP cn), (aS cn), dt, eE, eY, nm, seval]
   refine kopen ?_
   rw [mV]
   refine aq.freeze1 (args' := [.agg ([.lit (.int .i64 xb.Apprentices)] ++ [.sl (aa eI xb.Boards) (List.length xb.Boards) false] ++ [.sl (aa cGBs (List.set iw (Int.toNat xs) (GBs.mk b7.Board b7.Round (GSpan.mk b7.Hours.Low (i64.wrap (b7.Hours.High + (aN + 1)))) b7.Needs))) (List.length iw) false]), .sl (aa eI xp) (List.length xp) false]) (γ := (c8 + 21)) (el := none) (cs := aa cGBs (List.set iw (Int.toNat xs) (GBs.mk b7.Board b7.Round (GSpan.mk b7.Hours.Low (i64.wrap (b7.Hours.High + (aN + 1)))) b7.Needs))) ?_ ?_ ?_
   ·exact (by first | rfl | assumption | (simp only [aX, aY, ix, bt, nm, seval] <;> rfl) | (simp only [aX, aY, fD, fU, fq, fu, tyf, mqt, bt, (aP cn), (aS cn), dt, eE, eY, nm, seval]; done))
   ·exact ⟨Frozen.agg3 (γ := (c8 + 21)) (n := List.length iw) (w := 5) (cp := List.length iw) (x := .lit (.int .i64 xb.Apprentices)) (y := .sl (aa eI xb.Boards) (List.length xb.Boards) false) (el := none) (cs := aa cGBs (List.set iw (Int.toNat xs) (GBs.mk b7.Board b7.Round (GSpan.mk b7.Hours.Low (i64.wrap (b7.Hours.High + (aN + 1)))) b7.Needs))) (by first | rfl | (simp only [tre, tytre, mqr, Bool.and_self]; done)) (by first | rfl | (simp only [tre, tytre, mqr, Bool.and_self]; done)) (by first | rfl | assumption | (simp only [aX, aY, ix, bt, nm, seval] <;> rfl) | (simp only [aX, aY, fD, fU, fq, fu, tyf, mqt, bt, (aP cn), (aS cn), dt, eE, eY, nm, seval]; done)) (dB.treeL _) (by simp only [List.length_set, dR (w := 5) (enc := cGBs) (fun _ => rfl)]), .same, trivial⟩
   refine aq.run mixed Tryz.call69 Tryz.func69 rfl (by simp [Tryz.ntmps69]; kernel_rfl) ?_
   try simp only [vz, mq, mqm, flr, vsi, tyf, mqt, bt, (aP cn), (aS cn), dt, eE, eY, nm, seval]
   refine bR (x := (.agg ([.lit (.int .i64 xb.Apprentices)] ++ [.sl (aa eI xb.Boards) (List.length xb.Boards) false] ++ [.sl (aa cGBs (List.set iw (Int.toNat xs) (GBs.mk b7.Board b7.Round (GSpan.mk b7.Hours.Low (i64.wrap (b7.Hours.High + (aN + 1)))) b7.Needs))) (List.length (List.set iw (Int.toNat xs) (GBs.mk b7.Board b7.Round (GSpan.mk b7.Hours.Low (i64.wrap (b7.Hours.High + (aN + 1)))) b7.Needs))) false] ++ [.sl (aa eI xp) (List.length xp) false] ++ [.mp (c8 + 46)]))) (by first | (simp only [Tryz.results69, resV, resL, resV1, bS, bT, uw, cr, tyf, mqt, bt, (aP cn), (aS cn), dt, eE, eY, nm, seval] <;> rfl) | rfl) ?_
   try simp only [vz, mq, mqm, flr, vsi, tyf, mqt, bt, (aP cn), (aS cn), dt, eE, eY, nm, seval]
   refine bR (x := (.agg ([.lit (.int .i64 xb.Apprentices)] ++ [.sl (aa eI xb.Boards) (List.length xb.Boards) false] ++ [.sl (aa cGBs (List.set iw (Int.toNat xs) (GBs.mk b7.Board b7.Round (GSpan.mk b7.Hours.Low (i64.wrap (b7.Hours.High + (aN + 1)))) b7.Needs))) (List.length (List.set iw (Int.toNat xs) (GBs.mk b7.Board b7.Round (GSpan.mk b7.Hours.Low (i64.wrap (b7.Hours.High + (aN + 1)))) b7.Needs))) false] ++ [.sl (aa eI xp) (List.length xp) false] ++ [.mp (c8 + 46)]))) (by first | (simp only [Tryz.results112, resV, resL, resV1, bS, bT, uw, cr, tyf, mqt, bt, (aP cn), (aS cn), dt, eE, eY, nm, seval] <;> rfl) | rfl) ?_
   try simp only [vz, mq, mqm, flr, vsi, tyf, mqt, bt, (aP cn), (aS cn), dt, eE, eY, aW, bQ, bA, nm, seval]
   refine FP ?_
   obtain ⟨so, nf, h⟩ := optI h eX
   try simp only [hs] at h
   simp only [vz, mq, mqm, flr, vsi, tyf, mqt, bt, (aP cn), (aS cn), dt, eE, eY, aW, bQ, bA, nm, seval]
   refine dkupd (VUpd.at (β := c8 + 46) (y := (fun _ => .lit (.int .i64 so.1))) (sq _ _ _ _ nf) (by omega) (by first | rfl | assumption | (simp only [aX, aY, bt, nm, seval] <;> rfl)) (by first | rfl | (simp only [nrm, aG, @bZ, @d4, List.length_set] <;> rfl)) (dP (fun _ => rfl) _)) ?_
   refine dY (fun tm => tm 1 = .lit (.int .i64 xs) ∧ tm 2 = .ptr nx 0 ∧ tm 5 = .lit (.int .i64 aN) ∧ tm 8 = .lit (.bool true) ∧ tm 14 = .lit (.int .i64 so.1) ∧ True) (by refine ⟨aW, bQ, bA, ?_, ?_, trivial⟩ <;> first | (simp only [ua, bm, bt, dt, eE, eY, aW, bQ, bA, nm, seval] <;> rfl) | rfl) ?_
   rintro tm ⟨cU, cV, cb, ck, eJ, _⟩
   obtain ⟨lg, u7, h⟩ := optI h eX
   try simp only [hs] at h
   simp only [vz, mq, mqm, flr, vsi, tyf, mqt, bt, (aP cn), (aS cn), dt, eE, eY, cU, cV, cb, ck, eJ, nm, seval]
   refine dkupd (VUpd.at (β := aT) (y := (fun _ => .lit (.int .i64 lg.1))) (sq _ _ _ _ u7) (by omega) (by first | rfl | assumption | (simp only [aX, aY, bt, nm, seval] <;> rfl)) (by first | rfl | (simp only [nrm, aG, @bZ, @d4] <;> rfl)) (dP (fun _ => rfl) _)) ?_
   refine dY (fun tm => tm 1 = .lit (.int .i64 xs) ∧ tm 2 = .ptr nx 0 ∧ tm 5 = .lit (.int .i64 aN) ∧ tm 8 = .lit (.bool true) ∧ tm 14 = .lit (.int .i64 so.1) ∧ tm 16 = .lit (.int .i64 lg.1) ∧ True) (by refine ⟨cU, cV, cb, ?_, eJ, ?_, trivial⟩ <;> first | (simp only [ua, bm, bt, dt, eE, eY, cU, cV, cb, ck, eJ, nm, seval] <;> rfl) | rfl) ?_
   rintro tm ⟨fy, dj, cO, dN, dO, eu, _⟩
   simp only [vz, mq, mqm, flr, vsi, tyf, mqt, bt, (aP cn), (aS cn), dt, eE, eY, fy, dj, cO, dN, dO, eu, nm, seval]
   refine nc ⟨?_, ?_⟩
   ·try simp only [gq, gu, cP, gv, and_true, true_and]
    repeat' (first | exact trivial | refine And.intro ?_ ?_ | rw [cP] | rw [gw] | exact Or.inl (by decide +kernel) | exact Or.inl (by dsimp only; decide +kernel) | (refine Or.inr ⟨?_, ?_⟩ <;> simp; done) | (refine Or.inr ⟨?_, ?_⟩ <;> simp <;> omega) | (refine Or.inr ⟨?_, ?_⟩ <;> simp [VEff.wr] <;> omega))
   cases eN : (so.1 == lg.1)
   ·simp only [eN, hs] at h
    replace h := jn _ h
    try dsimp only at h
    try simp only [hs] at h
    try simp only [vz, mq, mqm, flr, vsi, tyf, mqt, bt, (aP cn), (aS cn), dt, eE, eY, fy, dj, cO, dN, dO, eu, eN, nm, seval]
    refine bR (x := (.lit (.int .i64 aN))) (by first | (simp only [Tryz.results81, resV, resL, resV1, bS, bT, uw, cr, tyf, mqt, bt, (aP cn), (aS cn), dt, eE, eY, eN, nm, seval] <;> rfl) | rfl) ?_
    obtain rfl := kF _ h
    refine ⟨(by first | rfl | assumption | (simp only [aX, aY, bt, nm, seval] <;> rfl)), ?_⟩
    exact sq_of (fQ (by first | (simp only [tre, tytre, mqr, Bool.and_self]; done) | rfl) rfl)
   simp only [eN, hs] at h
   simp only [vz, mq, mqm, flr, vsi, tyf, mqt, bt, (aP cn), (aS cn), dt, eE, eY, fy, dj, cO, dN, dO, eu, eN, nm, seval]
   exact ⟨iN, Nat.lt_succ_self _, by rw [jo]; refine ⟨iN, aN + 1, lg.2, rfl, pk lE, pn iv, rfl, (show nx + 3 ≤ c8 + 52 by omega), ?_, ?_, fy, dj, ?_, (by first | exact h | (simp only [bt, eN]; exact h))⟩ <;> first | (simp only [ua, bm, bt, dt, eE, eY, fy, dj, cO, dN, dO, eu, eN, nm, seval] <;> rfl) | rfl⟩
  refine pj rfl ?_
  try simp only [vz, mq, mqm, flr, vsi, tyf, mqt, bt, aW, bQ, bA, nm, seval]
  refine ⟨?_, ?_⟩
  ·try simp only [gq, gu, cP, gv, and_true, true_and]
   repeat' (first | exact trivial | refine And.intro ?_ ?_ | rw [cP] | rw [gw] | exact Or.inl (by decide +kernel) | exact Or.inl (by dsimp only; decide +kernel) | (refine Or.inr ⟨?_, ?_⟩ <;> simp; done) | (refine Or.inr ⟨?_, ?_⟩ <;> simp <;> omega) | (refine Or.inr ⟨?_, ?_⟩ <;> simp [VEff.wr] <;> omega))
  refine jq rfl ?_
  try simp only [vz, mq, mqm, flr, vsi, tyf, mqt, bt, aW, bQ, bA, nm, seval]
  refine kopen ?_
  rw [mV]
  refine aq.run mixed Tryz.call112 Tryz.func112 rfl (by simp [Tryz.ntmps112]; kernel_rfl) ?_
  obtain ⟨iy, rN, h⟩ := optI h eX
  try simp only [hs] at h
  simp only [vz, mq, mqm, flr, vsi, tyf, mqt, bt, nm, seval]
  refine kown (args0 := [.sl (aa cGBs xb.Strokes) (List.length xb.Strokes) false]) (by first | (simp only [nrm, aG, @bZ] <;> rfl) | rfl) (by simp only [tre, tytre, mqr, Bool.and_self]) (FM _ _ rN) ?_
  obtain ⟨b8, cq, h⟩ := optI h eX
  try simp only [hs] at h
  have eZ := setAF (w := 5) (enc := cGBs) 3 1 (fun _ => rfl) (by decide) cq
  have eF := setBF (w := 5) (enc := cGBs) 3 [.lit (.int .i64 (i64.wrap (b8.Hours.High + (aN + 1))))] (GBs.mk b8.Board b8.Round (GSpan.mk b8.Hours.Low (i64.wrap (b8.Hours.High + (aN + 1)))) b8.Needs) (fun _ => rfl) (Nat.le_of_ble_eq_true rfl) cq rfl
  simp only [vz, mq, mqm, flr, vsi, tyf, mqt, (aS cq), nm, seval] at eF
  have fa := setC (w := 5) (enc := cGBs) iy (Int.toNat xs) (GBs.mk b8.Board b8.Round (GSpan.mk b8.Hours.Low (i64.wrap (b8.Hours.High + (aN + 1)))) b8.Needs) (fun _ => rfl)
  try simp only [vz, mq, mqm, flr, vsi, tyf, mqt, bt, (aP cq), (aS cq), eZ, eF, fa, nm, seval]
  refine kopen ?_
  rw [mV]
  refine aq.freeze1 (args' := [.agg ([.lit (.int .i64 xb.Apprentices)] ++ [.sl (aa eI xb.Boards) (List.length xb.Boards) false] ++ [.sl (aa cGBs (List.set iy (Int.toNat xs) (GBs.mk b8.Board b8.Round (GSpan.mk b8.Hours.Low (i64.wrap (b8.Hours.High + (aN + 1)))) b8.Needs))) (List.length iy) false]), .sl (aa eI xp) (List.length xp) false]) (γ := (c8 + 21)) (el := none) (cs := aa cGBs (List.set iy (Int.toNat xs) (GBs.mk b8.Board b8.Round (GSpan.mk b8.Hours.Low (i64.wrap (b8.Hours.High + (aN + 1)))) b8.Needs))) ?_ ?_ ?_
  ·exact (by first | rfl | assumption | (simp only [aX, aY, ix, bt, nm, seval] <;> rfl) | (simp only [aX, aY, fD, fU, fq, fu, tyf, mqt, bt, (aP cq), (aS cq), eZ, eF, fa, nm, seval]; done))
  ·exact ⟨Frozen.agg3 (γ := (c8 + 21)) (n := List.length iy) (w := 5) (cp := List.length iy) (x := .lit (.int .i64 xb.Apprentices)) (y := .sl (aa eI xb.Boards) (List.length xb.Boards) false) (el := none) (cs := aa cGBs (List.set iy (Int.toNat xs) (GBs.mk b8.Board b8.Round (GSpan.mk b8.Hours.Low (i64.wrap (b8.Hours.High + (aN + 1)))) b8.Needs))) (by first | rfl | (simp only [tre, tytre, mqr, Bool.and_self]; done)) (by first | rfl | (simp only [tre, tytre, mqr, Bool.and_self]; done)) (by first | rfl | assumption | (simp only [aX, aY, ix, bt, nm, seval] <;> rfl) | (simp only [aX, aY, fD, fU, fq, fu, tyf, mqt, bt, (aP cq), (aS cq), eZ, eF, fa, nm, seval]; done)) (dB.treeL _) (by simp only [List.length_set, dR (w := 5) (enc := cGBs) (fun _ => rfl)]), .same, trivial⟩
  refine aq.run mixed Tryz.call69 Tryz.func69 rfl (by simp [Tryz.ntmps69]; kernel_rfl) ?_
  try simp only [vz, mq, mqm, flr, vsi, tyf, mqt, bt, (aP cq), (aS cq), eZ, eF, fa, nm, seval]
  refine bR (x := (.agg ([.lit (.int .i64 xb.Apprentices)] ++ [.sl (aa eI xb.Boards) (List.length xb.Boards) false] ++ [.sl (aa cGBs (List.set iy (Int.toNat xs) (GBs.mk b8.Board b8.Round (GSpan.mk b8.Hours.Low (i64.wrap (b8.Hours.High + (aN + 1)))) b8.Needs))) (List.length (List.set iy (Int.toNat xs) (GBs.mk b8.Board b8.Round (GSpan.mk b8.Hours.Low (i64.wrap (b8.Hours.High + (aN + 1)))) b8.Needs))) false] ++ [.sl (aa eI xp) (List.length xp) false] ++ [.mp (c8 + 46)]))) (by first | (simp only [Tryz.results69, resV, resL, resV1, bS, bT, uw, cr, tyf, mqt, bt, (aP cq), (aS cq), eZ, eF, fa, nm, seval] <;> rfl) | rfl) ?_
  try simp only [vz, mq, mqm, flr, vsi, tyf, mqt, bt, (aP cq), (aS cq), eZ, eF, fa, nm, seval]
  refine bR (x := (.agg ([.lit (.int .i64 xb.Apprentices)] ++ [.sl (aa eI xb.Boards) (List.length xb.Boards) false] ++ [.sl (aa cGBs (List.set iy (Int.toNat xs) (GBs.mk b8.Board b8.Round (GSpan.mk b8.Hours.Low (i64.wrap (b8.Hours.High + (aN + 1)))) b8.Needs))) (List.length (List.set iy (Int.toNat xs) (GBs.mk b8.Board b8.Round (GSpan.mk b8.Hours.Low (i64.wrap (b8.Hours.High + (aN + 1)))) b8.Needs))) false] ++ [.sl (aa eI xp) (List.length xp) false] ++ [.mp (c8 + 46)]))) (by first | (simp only [Tryz.results112, resV, resL, resV1, bS, bT, uw, cr, tyf, mqt, bt, (aP cq), (aS cq), eZ, eF, fa, nm, seval] <;> rfl) | rfl) ?_
  try simp only [vz, mq, mqm, flr, vsi, tyf, mqt, bt, (aP cq), (aS cq), eZ, eF, fa, aW, bQ, bA, nm, seval]
  refine FQ ?_
  obtain ⟨su, KQ, h⟩ := optI h eX
  try simp only [hs] at h
  simp only [vz, mq, mqm, flr, vsi, tyf, mqt, bt, (aP cq), (aS cq), eZ, eF, fa, aW, bQ, bA, nm, seval]
  refine dkupd (VUpd.at (β := c8 + 46) (y := (fun _ => .lit (.int .i64 su.1))) (sq _ _ _ _ KQ) (by omega) (by first | rfl | assumption | (simp only [aX, aY, bt, nm, seval] <;> rfl)) (by first | rfl | (simp only [nrm, aG, @bZ, @d4, List.length_set] <;> rfl)) (dP (fun _ => rfl) _)) ?_
  refine dY (fun tm => tm 1 = .lit (.int .i64 xs) ∧ tm 2 = .ptr nx 0 ∧ tm 5 = .lit (.int .i64 aN) ∧ tm 8 = .lit (.bool true) ∧ tm 14 = .lit (.int .i64 su.1) ∧ tm 15 = .agg ((cGBk xb) ++ [.sl (aa eI xp) (List.length xp) false] ++ [.mp aT]) ∧ True) (by refine ⟨aW, bQ, bA, ?_, ?_, ?_, trivial⟩ <;> first | (simp only [ua, bm, bt, eZ, eF, fa, aW, bQ, bA, nm, seval] <;> rfl) | rfl) ?_
  rintro tm ⟨x4, x5, x7, FR, x8, mQ, _⟩
  obtain ⟨sv, KR, h⟩ := optI h eX
  try simp only [hs] at h
  simp only [vz, mq, mqm, flr, vsi, tyf, mqt, bt, (aP cq), (aS cq), eZ, eF, fa, x4, x5, x7, FR, x8, mQ, nm, seval]
  refine dkupd (VUpd.at (β := aT) (y := (fun _ => .lit (.int .i64 sv.1))) (sq _ _ _ _ KR) (by omega) (by first | rfl | assumption | (simp only [aX, aY, bt, nm, seval] <;> rfl)) (by first | rfl | (simp only [nrm, aG, @bZ, @d4] <;> rfl)) (dP (fun _ => rfl) _)) ?_
  refine dY (fun tm => tm 1 = .lit (.int .i64 xs) ∧ tm 2 = .ptr nx 0 ∧ tm 5 = .lit (.int .i64 aN) ∧ tm 8 = .lit (.bool true) ∧ tm 14 = .lit (.int .i64 su.1) ∧ tm 16 = .lit (.int .i64 sv.1) ∧ True) (by refine ⟨x4, x5, x7, ?_, x8, ?_, trivial⟩ <;> first | (simp only [ua, bm, bt, eZ, eF, fa, x4, x5, x7, FR, x8, mQ, nm, seval] <;> rfl) | rfl) ?_
  rintro tm ⟨jh, jP, jQ, jR, jS, jT, _⟩
  simp only [vz, mq, mqm, flr, vsi, tyf, mqt, bt, (aP cq), (aS cq), eZ, eF, fa, jh, jP, jQ, jR, jS, jT, nm, seval]
  refine nc ⟨?_, ?_⟩
  ·try simp only [gq, gu, cP, gv, and_true, true_and]
   repeat' (first | exact trivial | refine And.intro ?_ ?_ | rw [cP] | rw [gw] | exact Or.inl (by decide +kernel) | exact Or.inl (by dsimp only; decide +kernel) | (refine Or.inr ⟨?_, ?_⟩ <;> simp; done) | (refine Or.inr ⟨?_, ?_⟩ <;> simp <;> omega) | (refine Or.inr ⟨?_, ?_⟩ <;> simp [VEff.wr] <;> omega))
  cases lG : (su.1 == sv.1)
  ·simp only [lG, hs] at h
   replace h := jn _ h
   try dsimp only at h
   try simp only [hs] at h
   try simp only [vz, mq, mqm, flr, vsi, tyf, mqt, bt, (aP cq), (aS cq), eZ, eF, fa, jh, jP, jQ, jR, jS, jT, lG, nm, seval]
   refine bR (x := (.lit (.int .i64 aN))) (by first | (simp only [Tryz.results81, resV, resL, resV1, bS, bT, uw, cr, tyf, mqt, bt, (aP cq), (aS cq), eZ, eF, fa, lG, nm, seval] <;> rfl) | rfl) ?_
   obtain rfl := kF _ h
   refine ⟨(by first | rfl | assumption | (simp only [aX, aY, bt, nm, seval] <;> rfl)), ?_⟩
   exact sq_of (fQ (by first | (simp only [tre, tytre, mqr, Bool.and_self]; done) | rfl) rfl)
  simp only [lG, hs] at h
  simp only [vz, mq, mqm, flr, vsi, tyf, mqt, bt, (aP cq), (aS cq), eZ, eF, fa, jh, jP, jQ, jR, jS, jT, lG, nm, seval]
  exact ⟨iN, Nat.lt_succ_self _, by rw [jo]; refine ⟨iN, aN + 1, sv.2, rfl, pk lE, pn iv, rfl, (show nx + 3 ≤ c8 + 52 by omega), ?_, ?_, jh, jP, ?_, (by first | exact h | (simp only [bt, lG]; exact h))⟩ <;> first | (simp only [ua, bm, bt, eZ, eF, fa, jh, jP, jQ, jR, jS, jT, lG, nm, seval] <;> rfl) | rfl⟩
def oE (ai : GBk) (ag : List Int) (aC : Int) : Option (Int × Int) := Option.bind (m5 ai) (fun r1 => cond (r1) (Option.bind (m7 ai ag) (fun r2 => cond (r2) (Option.bind (nN ai aC) (fun r3 => cond (r3) (Option.bind (sn ai ag aC ([] : List (GBe × Int))) (fun r4 => some (r4.1, 0))) (some (0, 2)))) (some (0, 2)))) (some (0, 2)))
theorem Jt (ai : GBk) (ag : List Int) (aC : Int) (R : Int × Int) (h : oE ai ag aC = some R) : ah Tryz.prog G0 43 [.agg (cGBk ai), .sl (aa eI ag) (List.length ag) false, .lit (.int .i64 aC)] (.tree (.tup [.lit (.int .i64 R.1), .lit (.int .i64 R.2)])) := by
 refine ah.runR mixed Tryz.call43 Tryz.func43 rfl (by simp [Tryz.ntmps43]; kernel_rfl) ?_
 obtain ⟨KF, h, kF, kN⟩ := bU h
 simp only [oE] at h
 obtain ⟨r5, o6, h⟩ := optI h kN
 try simp only [hs] at h
 simp only [vz, mq, mqm, vsi, tyf, mqt, nm, seval]
 refine ktree (args0 := [.agg (cGBk ai)]) (by first | (simp only [nrm, aG, @bZ] <;> rfl) | rfl) (by simp only [tre, tytre, mqr, Bool.and_self]) (EC _ _ o6) ?_
 refine bx (fun tm => tm 1 = .sl (aa eI ag) (List.length ag) false ∧ tm 2 = .lit (.int .i64 aC) ∧ tm 3 = .ptr 0 0 ∧ tm 9 = .lit (.bool r5) ∧ True) (by refine ⟨?_, ?_, ?_, ?_, trivial⟩ <;> first | (simp only [ua, bm, nm, seval] <;> rfl) | rfl) ?_
 rintro tm ⟨e7, e8, e9, aV, _⟩
 cases bF : (r5)
 ·simp only [bF, hs] at h
  try simp only [vz, mq, mqm, vsi, tyf, mqt, e7, e8, e9, aV, bF, nm, seval]
  refine bR (x := (.tup [.lit (.int .i64 0), .lit (.int .i64 2)])) (by first | (simp only [Tryz.results43, resV, resL, resV1, bS, bT, uw, cr, tyf, mqt, bF, nm, seval] <;> rfl) | rfl) ?_
  obtain rfl := kF _ h
  refine eR ?_ ?_
  ·simp only [tre, tytre, mqr, Bool.and_self]
  ·first | (simp only [outV, uw, eC, cr, tyf, mqt, nrm, aG, e7, e8, e9, aV, bF, nm, seval] <;> rfl) | rfl
 simp only [bF, hs] at h
 obtain ⟨FT, jB, h⟩ := optI h kN
 try simp only [hs] at h
 simp only [vz, mq, mqm, vsi, tyf, mqt, e7, e8, e9, aV, bF, nm, seval]
 refine ktree (args0 := [.agg (cGBk ai), .sl (aa eI ag) (List.length ag) false]) (by first | (simp only [nrm, aG, @bZ] <;> rfl) | rfl) (by simp only [tre, tytre, mqr, Bool.and_self]) (ED _ _ _ jB) ?_
 refine bx (fun tm => tm 1 = .sl (aa eI ag) (List.length ag) false ∧ tm 2 = .lit (.int .i64 aC) ∧ tm 3 = .ptr 0 0 ∧ tm 11 = .lit (.bool false) ∧ tm 14 = .lit (.bool FT) ∧ True) (by refine ⟨e7, e8, e9, ?_, ?_, trivial⟩ <;> first | (simp only [ua, bm, e7, e8, e9, aV, bF, nm, seval] <;> rfl) | rfl) ?_
 rintro tm ⟨b3, bL, bn, bh, bp, _⟩
 cases bC : (FT)
 ·simp only [bC, hs] at h
  try simp only [vz, mq, mqm, vsi, tyf, mqt, bF, b3, bL, bn, bh, bp, bC, nm, seval]
  refine bR (x := (.tup [.lit (.int .i64 0), .lit (.int .i64 2)])) (by first | (simp only [Tryz.results43, resV, resL, resV1, bS, bT, uw, cr, tyf, mqt, bF, bC, nm, seval] <;> rfl) | rfl) ?_
  obtain rfl := kF _ h
  refine eR ?_ ?_
  ·simp only [tre, tytre, mqr, Bool.and_self]
  ·first | (simp only [outV, uw, eC, cr, tyf, mqt, nrm, aG, bF, b3, bL, bn, bh, bp, bC, nm, seval] <;> rfl) | rfl
 simp only [bC, hs] at h
 obtain ⟨gM, eO, h⟩ := optI h kN
 try simp only [hs] at h
 simp only [vz, mq, mqm, vsi, tyf, mqt, bF, b3, bL, bn, bh, bp, bC, nm, seval]
 refine ktree (args0 := [.agg (cGBk ai), .lit (.int .i64 aC)]) (by first | (simp only [nrm, aG, @bZ] <;> rfl) | rfl) (by simp only [tre, tytre, mqr, Bool.and_self]) (I8 _ _ _ eO) ?_
 refine bx (fun tm => tm 1 = .sl (aa eI ag) (List.length ag) false ∧ tm 2 = .lit (.int .i64 aC) ∧ tm 3 = .ptr 0 0 ∧ tm 17 = .lit (.bool false) ∧ tm 20 = .lit (.bool gM) ∧ True) (by refine ⟨b3, bL, bn, ?_, ?_, trivial⟩ <;> first | (simp only [ua, bm, bF, b3, bL, bn, bh, bp, bC, nm, seval] <;> rfl) | rfl) ?_
 rintro tm ⟨b4, bf, bu, bB, bY, _⟩
 cases gA : (gM)
 ·simp only [gA, hs] at h
  try simp only [vz, mq, mqm, vsi, tyf, mqt, bF, bC, b4, bf, bu, bB, bY, gA, nm, seval]
  refine bR (x := (.tup [.lit (.int .i64 0), .lit (.int .i64 2)])) (by first | (simp only [Tryz.results43, resV, resL, resV1, bS, bT, uw, cr, tyf, mqt, bF, bC, gA, nm, seval] <;> rfl) | rfl) ?_
  obtain rfl := kF _ h
  refine eR ?_ ?_
  ·simp only [tre, tytre, mqr, Bool.and_self]
  ·first | (simp only [outV, uw, eC, cr, tyf, mqt, nrm, aG, bF, bC, b4, bf, bu, bB, bY, gA, nm, seval] <;> rfl) | rfl
 simp only [gA, hs] at h
 try simp only [vz, mq, mqm, vsi, tyf, mqt, bF, bC, b4, bf, bu, bB, bY, gA, nm, seval]
 refine kopen ?_
 rw [mV]
 refine aq.run mixed Tryz.call69 Tryz.func69 rfl (by simp [Tryz.ntmps69]; kernel_rfl) ?_
 try simp only [vz, mq, mqm, vsi, tyf, mqt, bF, bC, gA, nm, seval]
 refine bR (x := (.agg ((cGBk ai) ++ [.sl (aa eI ag) (List.length ag) false] ++ [.mp 29]))) (by first | (simp only [Tryz.results69, resV, resL, resV1, bS, bT, uw, cr, tyf, mqt, bF, bC, gA, nm, seval] <;> rfl) | rfl) ?_
 obtain ⟨xA, KS, h⟩ := optI h kN
 try simp only [hs] at h
 simp only [vz, mq, mqm, vsi, tyf, mqt, bF, bC, gA, b4, bf, bu, bB, bY, nm, seval]
 refine kupd (VUpd.at (β := 29) (y := (fun _ => .lit (.int .i64 xA.1))) (KI _ _ _ _ _ KS) (by omega) (by first | rfl | assumption | (simp only [aX, aY, nm, seval] <;> rfl)) (by first | rfl | (simp only [nrm, aG, @bZ, @d4] <;> rfl)) (dP (fun _ => rfl) _)) ?_
 refine dY (fun tm => tm 27 = .lit (.int .i64 xA.1) ∧ True) (by refine ⟨?_, trivial⟩ <;> first | (simp only [ua, bm, bF, bC, gA, b4, bf, bu, bB, bY, nm, seval] <;> rfl) | rfl) ?_
 rintro tm ⟨cj, _⟩
 try simp only [vz, mq, mqm, vsi, tyf, mqt, bF, bC, gA, cj, nm, seval]
 refine bR (x := (.tup [.lit (.int .i64 xA.1), .lit (.int .i64 0)])) (by first | (simp only [Tryz.results43, resV, resL, resV1, bS, bT, uw, cr, tyf, mqt, bF, bC, gA, nm, seval] <;> rfl) | rfl) ?_
 obtain rfl := kF _ h
 refine eR ?_ ?_
 ·simp only [tre, tytre, mqr, Bool.and_self]
 ·first | (simp only [outV, uw, eC, cr, tyf, mqt, nrm, aG, bF, bC, gA, cj, nm, seval] <;> rfl) | rfl
def lH  : List GSpan → Int → Int → Option (LOut (Int) (Int))
 | [], ia, b2 => some (.go b2)
 | e0 :: p0, ia, b2 => lH p0 (ia + 1) (if b2 < e0.High then e0.High else b2)
def mP (ai : GBk) (ag : List Int) : Option (Int) := Option.bind (oY ai ag) (fun r1 => cond (r1.2 != 0) (some (-1)) (cond ((List.length r1.1 : Int) != (List.length ag : Int)) (some (-1)) (cond (lenOk r1.1) (lbind (lH r1.1 0 0) (fun r3 => some r3) (fun c2 => some c2) (fun _ _ => none)) none)))
theorem Ff (ai : GBk) (ag : List Int) (R : Int) (h : mP ai ag = some R) : ah Tryz.prog G0 50 [.agg (cGBk ai), .sl (aa eI ag) (List.length ag) false] (.tree (.lit (.int .i64 R))) := by
 refine ah.runR mixed Tryz.call50 Tryz.func50 rfl (by simp [Tryz.ntmps50]; kernel_rfl) ?_
 obtain ⟨KF, h, kF, kN⟩ := bU h
 simp only [mP] at h
 obtain ⟨r4, o5, h⟩ := optI h kN
 try simp only [hs] at h
 simp only [vz, tyf, nm, seval]
 refine ktA (K2 _ _ _ o5) ?_
 refine bx (fun tm => tm 1 = .sl (aa eI ag) (List.length ag) false ∧ tm 12 = .tup [.sl (aa cGSpan r4.1) (List.length r4.1) false, .lit (.int .i64 r4.2)] ∧ True) (by refine ⟨?_, ?_, trivial⟩ <;> first | (simp only [ua, nm, seval] <;> rfl) | rfl) ?_
 rintro tm ⟨e6, e7, _⟩
 cases d8 : (r4.2 != 0)
 ·simp only [d8, hs] at h
  cases d9 : ((List.length r4.1 : Int) != (List.length ag : Int))
  ·simp only [d9, hs] at h
   cases kf : (lenOk r4.1)
   ·simp only [kf, hs] at h
    exact absurd h kN
   simp only [kf, hs] at h
   simp only [vz, tyf, e6, e7, d8, d9, kf, nm, seval]
   obtain ⟨KT, h, KU, xB, KV, KW⟩ := fh h kN
   obtain ⟨KX, xC, h⟩ := call3 h
   obtain ⟨KY, lI⟩ : ∃ I : Nat → St → Prop, I = (fun m st => ∃ (kh : List GSpan) (cQ : Int) (dU : Int), m = List.length kh ∧ 0 ≤ cQ ∧ List.drop (Int.toNat cQ) r4.1 = kh ∧ st.df = [] ∧ 21 ≤ st.nx ∧ st.tm 5 = .sl (aa cGSpan r4.1) (List.length r4.1) false ∧ st.tm 7 = .lit (.int .i64 dU) ∧ st.tm 8 = .lit (.int .i64 cQ) ∧ KT (KX kh cQ dU)) := ⟨_, rfl⟩
   refine loopK mixed (by kernel_rfl) KY (List.length r4.1) (by rw [lI]; refine ⟨r4.1, 0, 0, rfl, Int.le_refl _, rfl, rfl, (show 21 ≤ 21 by omega), ?_, ?_, ?_, h⟩ <;> first | (simp only [ua, e6, e7, d8, d9, nm, seval] <;> rfl) | rfl) ?_
   rintro m ⟨tm, H, po, df⟩ hinv
   rw [lI] at hinv
   obtain ⟨kh, cQ, dU, rfl, gB, iz, hdf, xD, bl, br, b3, h⟩ := hinv
   simp only at hdf xD bl br b3
   have cu := gF (m := 21) (b := po) (by omega)
   subst hdf xC
   cases kh with
   | nil =>
    have dX : (decide (cQ < (List.length r4.1 : Int))) = false := fj gB iz
    simp only [lH, hs, reduceCtorEq] at h
    replace h := xB _ h
    try dsimp only at h
    try simp only [hs] at h
    try simp only [vz, tyf, d8, d9, kf, cu, bl, br, b3, dX, nm, seval]
    refine bR (x := (.lit (.int .i64 dU))) (by first | (simp only [Tryz.results50, resV, resL, resV1, bS, bT, uw, cr, tyf, d8, d9, kf, cu, dX, nm, seval] <;> rfl) | rfl) ?_
    obtain rfl := kF _ h
    refine eR ?_ ?_
    ·simp only [tre, tytre, Bool.and_self]
    ·first | (simp only [outV, uw, eC, cr, tyf, nrm, aG, d8, d9, kf, cu, bl, br, b3, dX, nm, seval] <;> rfl) | rfl
   | cons aV kh =>
    have bM : (decide (cQ < (List.length r4.1 : Int))) = true := fk gB iz
    have lv := dg gB iz
    have ki := fm gB iz kf
    simp only [lH, hs, reduceCtorEq] at h
    simp only [vz, tyf, d8, d9, kf, cu, bl, br, b3, bM, (xE lv), ki, nm, seval]
    exact ⟨List.length kh, Nat.lt_succ_self _, by rw [lI]; refine ⟨kh, cQ + 1, (if dU < aV.High then aV.High else dU), rfl, Int.le_trans gB (Int.le_add_one (Int.le_refl _)), dh gB iz, rfl, (show 21 ≤ po + 15 by omega), bl, ?_, ?_, (by first | exact h | (simp only [d8, d9, bM]; exact h))⟩ <;> first | (simp only [ua, d8, d9, cu, bl, br, b3, bM, ki, nm, seval] <;> rfl) | rfl⟩
  simp only [d9, hs] at h
  try simp only [vz, tyf, e6, e7, d8, d9, nm, seval]
  refine bR (x := (.lit (.int .i64 (-1)))) (by first | (simp only [Tryz.results50, resV, resL, resV1, bS, bT, uw, cr, tyf, d8, d9, nm, seval] <;> rfl) | rfl) ?_
  obtain rfl := kF _ h
  refine eR ?_ ?_
  ·simp only [tre, tytre, Bool.and_self]
  ·first | (simp only [outV, uw, eC, cr, tyf, nrm, aG, e6, e7, d8, d9, nm, seval] <;> rfl) | rfl
 simp only [d8, hs] at h
 try simp only [vz, tyf, e6, e7, d8, nm, seval]
 refine bR (x := (.lit (.int .i64 (-1)))) (by first | (simp only [Tryz.results50, resV, resL, resV1, bS, bT, uw, cr, tyf, d8, nm, seval] <;> rfl) | rfl) ?_
 obtain rfl := kF _ h
 refine eR ?_ ?_
 ·simp only [tre, tytre, Bool.and_self]
 ·first | (simp only [outV, uw, eC, cr, tyf, nrm, aG, e6, e7, d8, nm, seval] <;> rfl) | rfl
theorem room16 {n : Nat} (h : n ≤ 1000) : roomOk 16 n = true := by simp [roomOk]; omega
theorem room56 {n : Nat} (h : n ≤ 1000) : roomOk 56 n = true := by simp [roomOk]; omega
theorem oI {α : Type} {xs : List α} (h : 1 ≤ xs.length) : neB xs = true := by cases xs with | nil => simp at h | cons a p => rfl
def endS (b : GBk) (pl : List Int) (i : Nat) : GSpan := ⟨EE b pl 0 i, EE b pl 1 i⟩
def endsL (b : GBk) (pl : List Int) : List GSpan := (List.range b.Strokes.length).map (endS b pl)
theorem pq {x : Int} (h : 0 ≤ x) : mxL [x] = x := by show max 0 x = x; omega
theorem pr {b : GBk} (hb : BOk b) {pl : List Int} (hp : pl.length = b.Strokes.length) : ∀ (p : List GBs) (i : Nat) (acc : List GSpan) (l : List (GBe × Int)), i + p.length = b.Strokes.length → acc.length = i → InvE b pl l →
  ∃ l', ij b pl p i acc l = some (.go (acc ++ (List.range' i p.length).map (endS b pl), l'))
 | [], i, acc, l, _, _, _ => ⟨l, by simp [ij]⟩
 | s :: p, i, acc, l, hi, ha, hl => by
  have hns := hb.ns
  simp only [List.length_cons] at hi
  obtain ⟨l1, e1, cF⟩ := xF hb.h hp hl (p := [(i : Int)]) (fun k hk => by rw [List.mem_singleton.1 hk]; omega) (by simp)
  obtain ⟨l2, e2⟩ := pr hb hp p (i + 1) (acc ++ [endS b pl i]) l1 (by omega) (by simp [ha]) cF
  refine ⟨l2, ?_⟩
  simp only [ij, e1, Option.bind_some]
  have h0 := EE_b hb.h pl 0 (s := i) (by omega)
  have h1 := EE_b hb.h pl 1 (s := i) (by omega)
  simp only [List.map_cons, List.map_nil, Int.toNat_natCast]
  rw [pq h0.1, pq h1.1, room16 (by simp; omega), cond_true]
  have : ((i : Int) + 1) = ((i + 1 : Nat) : Int) := by omega
  rw [this]
  show ij b pl p ((i + 1 : Nat) : Int) (acc ++ [endS b pl i]) l1 = _
  rw [e2]
  simp [List.range'_succ]
theorem xG {b : GBk} (h : Len b) (pl : List Int) : oY b pl = some (if benchB b && planB b pl then (endsL b pl, 0) else ([], 2)) := by
 unfold oY
 rw [EM h, EW h]
 cases hB : benchB b with
 | false => rfl
 | true =>
  cases hP : planB b pl with
  | false => rfl
  | true =>
   have hb := rV.1 hB
   obtain ⟨l', e⟩ := pr hb (oh.1 hP).len b.Strokes 0 [] [] (by simp) rfl InvE.nil
   simp only [Option.bind_some, cond_true, Bool.and_self, if_true]
   rw [fO h.st, cond_true]
   have e' : ij b pl b.Strokes 0 [] [] = _ := e
   rw [e']
   simp [lbind, endsL, List.range_eq_range']
theorem FU (b : GBk) (pl : List Int) : (endsL b pl).length = b.Strokes.length := by simp [endsL]
theorem pv {b : GBk} {pl : List Int} : ∀ (k i : Nat) (c : Int), lH ((List.range' i k).map (endS b pl)) c (tkF (EE b pl 1) i) = some (.go (tkF (EE b pl 1) (i + k)))
 | 0, i, c => rfl
 | k + 1, i, c => by
  have := pv (b := b) (pl := pl) k (i + 1) (c + 1)
  simp only [List.range'_succ, List.map_cons, lH]
  have e : (if tkF (EE b pl 1) i < (endS b pl i).High then (endS b pl i).High else tkF (EE b pl 1) i) = tkF (EE b pl 1) (i + 1) := by
   show (if tkF (EE b pl 1) i < EE b pl 1 i then EE b pl 1 i else tkF (EE b pl 1) i) = max (tkF (EE b pl 1) i) (EE b pl 1 i)
   split <;> omega
  rw [e, this]
  congr 3
  omega
theorem oJ {b : GBk} (h : Len b) {pl : List Int} (hB : benchB b = true) (hP : planB b pl = true) : mP b pl = some (TK b pl) := by
 have hl := (oh.1 hP).len
 unfold mP
 rw [xG h, hB, hP]
 simp only [Bool.and_self, if_true, Option.bind_some]
 have e1 : ((0 : Int) != 0) = false := rfl
 have e2 : (((endsL b pl).length : Int) != (pl.length : Int)) = false := by rw [FU, hl]; simp
 rw [e1, cond_false, e2, cond_false, fO (by rw [FU]; exact h.st), cond_true]
 have := pv (b := b) (pl := pl) b.Strokes.length 0 0
 rw [← List.range_eq_range'] at this
 have e3 : lH (endsL b pl) 0 0 = some (.go (TK b pl)) := by
  unfold endsL TK
  rw [show tkF (EE b pl 1) b.Strokes.length = tkF (EE b pl 1) (0 + b.Strokes.length) by rw [Nat.zero_add]]
  exact this
 rw [e3]
 rfl
theorem EE_36 {b : GBk} (hb : BOk b) (pl : List Int) (hr : Int) {s : Nat} (hs : s < b.Strokes.length) : EE b pl hr s ≤ 36 := by
 have h2 := pw (hd := hF pl) (d := dF b hr) hb.h.nd (m := 6) (fun k => by
  refine ⟨(hb.h.d hr k).1, ?_⟩
  unfold dF
  split
  ·rename_i x hx
   have := (hb.s hx).hr
   split <;> omega
  ·omega) s
 have := hb.ns
 unfold EE
 omega
theorem TK_b {b : GBk} (hb : BOk b) (pl : List Int) : 1 ≤ TK b pl ∧ TK b pl ≤ 36 := by
 have hns := hb.ns
 have h1 : EE b pl 1 0 ≤ TK b pl := lJ (by omega)
 have h2 : TK b pl ≤ 36 := lK (by omega) fun k hk => EE_36 hb pl 1 hk
 have h3 := EE_eq hb.h pl 1 0
 have h4 := BB_b hb.h pl 1 (s := 0) (by omega)
 have h5 : 1 ≤ dF b 1 0 := by
  obtain ⟨x, e1, e2⟩ := getS (b := b) (s := 0) (Int.le_refl _) (by simp; omega)
  have e2' : b.Strokes[0]? = some x := e2
  have := (hb.s e2').hr
  unfold dF
  rw [e2']
  simp
  omega
 omega
def longS (x : GBs) (k : Int) : GBs := ⟨x.Board, x.Round, ⟨x.Hours.Low, x.Hours.High + k⟩, x.Needs⟩
def bump (b : GBk) (s : Nat) (x : GBs) (k : Int) : GBk := ⟨b.Apprentices, b.Boards, b.Strokes.set s (longS x k)⟩
theorem lx (b : GBk) (s : Nat) (x : GBs) (k : Int) : (bump b s x k).Strokes.length = b.Strokes.length := by simp [bump]
theorem oH {b : GBk} {s : Nat} {x : GBs} {k : Int} (i : Nat) : (bump b s x k).Strokes[i]? = if s = i ∧ i < b.Strokes.length then some (longS x k) else b.Strokes[i]? := by
 simp only [bump, List.getElem?_set]
 by_cases e : s = i
 ·subst e
  by_cases h : s < b.Strokes.length
  ·simp [h]
  ·simp [h]
 ·simp [e]
theorem xH {b : GBk} (hb : BOk b) {s : Nat} {x : GBs} (hx : b.Strokes[s]? = some x) {k : Int} (h0 : 0 ≤ k) (h1 : k ≤ 9) : BH (bump b s x k) := by
 refine ⟨by rw [lx]; exact hb.ns, fun {i y} hy => ?_⟩
 rw [oH] at hy
 split at hy
 ·rename_i e
  cases hy
  obtain ⟨rfl, _⟩ := e
  have := hb.s hx
  have h2 := this.hr
  exact ⟨this.nd, this.ad, by show 0 ≤ x.Hours.Low ∧ x.Hours.Low ≤ 15 ∧ 0 ≤ x.Hours.High + k ∧ x.Hours.High + k ≤ 15; omega⟩
 ·exact hb.h.s hy
theorem xI {b : GBk} {s : Nat} {x : GBs} (hx : b.Strokes[s]? = some x) (k : Int) : nF (bump b s x k) = nF b := by
 funext i
 unfold nF
 rw [oH]
 by_cases e : s = i ∧ i < b.Strokes.length
 ·rw [if_pos e, ← e.1, hx]
  rfl
 ·rw [if_neg e]
theorem xJ {b : GBk} {s : Nat} {x : GBs} (hx : b.Strokes[s]? = some x) (k : Int) (i : Nat) : dF (bump b s x k) 1 i = if i = s then dF b 1 i + k else dF b 1 i := by
 unfold dF
 rw [oH]
 have hlt : s < b.Strokes.length := (List.getElem?_eq_some_iff.1 hx).1
 by_cases e : i = s
 ·subst e
  rw [if_pos ⟨rfl, hlt⟩, if_pos rfl, hx]
  simp [longS]
 ·rw [if_neg (fun h => e h.1.symm), if_neg e]
theorem ly {b : GBk} (hb : BOk b) {s : Nat} {x : GBs} (hx : b.Strokes[s]? = some x) (pl : List Int) {j k : Int} (h0 : 0 ≤ j) (h1 : j ≤ k) : TK (bump b s x j) pl ≤ TK (bump b s x k) pl := by
 unfold TK
 rw [lx, lx]
 refine xK fun i hi => ?_
 unfold EE
 rw [xI hx, xI hx]
 refine Ed_le hb.h.nd (fun q => ?_) i
 rw [xJ hx, xJ hx]
 split <;> omega
theorem lz {b : GBk} {s : Nat} {x : GBs} (hx : b.Strokes[s]? = some x) (pl : List Int) : TK (bump b s x 0) pl = TK b pl := by
 unfold TK
 rw [lx]
 refine xL fun i hi => ?_
 unfold EE
 rw [xI hx]
 congr 1
 funext q
 rw [xJ hx]
 split <;> omega
def spF (b : GBk) (pl : List Int) (s : Nat) (x : GBs) : Nat → Int → Int
 | 0, c => c
 | k + 1, c => if TK (bump b s x (c + 1)) pl = TK b pl then spF b pl s x k (c + 1) else c
theorem px {b : GBk} (hb : BOk b) {pl : List Int} (hp : pl.length = b.Strokes.length) {s : Int} (da : 0 ≤ s) {x : GBs} (hx : b.Strokes[s.toNat]? = some x) : ∀ (k : Nat) (c : Int) (l : List (GBe × Int)), 0 ≤ c → c + k = 9 → InvE b pl l →
  ∃ l', lC b pl s k c l = some (.go (spF b pl s.toNat x k c, l'))
 | 0, c, l, _, _, _ => ⟨l, rfl⟩
 | k + 1, c, l, h0, h1, hl => by
  have hns := hb.ns
  have hlt : s.toNat < b.Strokes.length := (List.getElem?_eq_some_iff.1 hx).1
  have hx' := (hb.s hx).hr
  have hg : getI b.Strokes s = some x := by unfold getI; rw [if_pos da]; exact hx
  have hB := xH hb hx (k := c + 1) (by omega) (by omega)
  obtain ⟨l1, e1, _⟩ := FV hB (pl := pl) (by rw [lx]; exact hp) (InvE.nil (b := bump b s.toNat x (c + 1)) (pl := pl))
  obtain ⟨l2, e2, dC⟩ := FV hb.h hp hl
  have hc : ph b.Strokes = some b.Strokes := by
   unfold ph
   rw [oI hns.1, cond_true, room56 (by omega), cond_true]
  simp only [lC, hc, hg, Option.bind_some]
  rw [fP (by omega) (by omega)]
  have e1' : lD ⟨b.Apprentices, b.Boards, b.Strokes.set s.toNat ⟨x.Board, x.Round, ⟨x.Hours.Low, x.Hours.High + (c + 1)⟩, x.Needs⟩⟩ pl [] = _ := e1
  rw [e1', Option.bind_some, e2, Option.bind_some]
  unfold spF
  by_cases h : TK (bump b s.toNat x (c + 1)) pl = TK b pl
  ·obtain ⟨l3, e3⟩ := px hb hp da hx k (c + 1) l2 (by omega) (by omega) dC
   rw [if_pos h]
   simp only [h, beq_self_eq_true, cond_true]
   exact ⟨l3, e3⟩
  ·rw [if_neg h, show (TK (bump b s.toNat x (c + 1)) pl == TK b pl) = false by simpa using h, cond_false]
   exact ⟨l2, rfl⟩
theorem v5 {b : GBk} (h : Len b) {pl : List Int} (hB : benchB b = true) (hP : planB b pl = true) {s : Int} (da : 0 ≤ s) {x : GBs} (hx : b.Strokes[s.toNat]? = some x) : oE b pl s = some (spF b pl s.toNat x 9 0, 0) := by
 have hlt : s.toNat < b.Strokes.length := (List.getElem?_eq_some_iff.1 hx).1
 obtain ⟨l', e⟩ := px (rV.1 hB) (oh.1 hP).len da hx 9 0 [] (Int.le_refl _) rfl InvE.nil
 unfold oE sn
 rw [EM h, EW h, Jh h, hB, hP]
 have hI : inB 0 ((b.Strokes.length : Int) - 1) s = true := og.2 (by omega)
 have hbo : boundOk 9 = true := by decide
 rw [hI, hbo]
 simp only [Option.bind_some, cond_true]
 have e' : lC b pl s (Int.toNat (9 - 0)) 0 [] = _ := e
 rw [e']
 rfl
theorem spF_b {b : GBk} {pl : List Int} {s : Nat} {x : GBs} : ∀ (k : Nat) (c : Int), c ≤ spF b pl s x k c ∧ spF b pl s x k c ≤ c + k
 | 0, c => by simp [spF]
 | k + 1, c => by
  have := spF_b (b := b) (pl := pl) (s := s) (x := x) k (c + 1)
  unfold spF
  split <;> omega
theorem oM {b : GBk} {pl : List Int} {s : Nat} {x : GBs} : ∀ (k : Nat) (c : Int), (∀ j, c < j → j ≤ spF b pl s x k c → TK (bump b s x j) pl = TK b pl) ∧ (spF b pl s x k c < c + k → TK (bump b s x (spF b pl s x k c + 1)) pl ≠ TK b pl)
 | 0, c => ⟨fun j h1 h2 => by simp [spF] at h2; omega, fun h => by simp [spF] at h⟩
 | k + 1, c => by
  have ih := oM (b := b) (pl := pl) (s := s) (x := x) k (c + 1)
  unfold spF
  split
  ·rename_i h
   refine ⟨fun j h1 h2 => ?_, fun h' => ih.2 (by omega)⟩
   by_cases e : j = c + 1
   ·rw [e]; exact h
   ·exact ih.1 j (by omega) h2
  ·rename_i h
   exact ⟨fun j h1 h2 => by omega, fun _ => h⟩
end Go.V
end
