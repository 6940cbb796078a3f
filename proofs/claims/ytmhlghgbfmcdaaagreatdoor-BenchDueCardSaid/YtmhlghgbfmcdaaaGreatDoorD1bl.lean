/- Part of a proof. -/
import Derived.Test.YtmhlghgbfmcdaaaGreatDoorD1bk
set_option linter.all false
set_option maxRecDepth 4000
set_option maxHeartbeats 40000000
section
namespace Go.V
open Go Go.Proofs
def jE (ah : GBk) (ae : List Int) : List Int → Int → (List Int) → (List (GBe × Int)) → Option (LOut ((List Int) × Int) ((List Int) × (List (GBe × Int))))
 | [], cn, bx, bH => some (.go (bx, bH))
 | e0 :: p0, cn, bx, bH => Option.bind (oW ah ae cn bH) (fun r4 => cond (roomOk 8 (List.length (bx ++ [r4.1]))) (jE ah ae p0 (cn + 1) (bx ++ [r4.1]) r4.2) none)
def rb (ah : GBk) (ae : List Int) : Option ((List Int) × Int) := Option.bind (kK ah) (fun r1 => cond (r1) (Option.bind (kL ah ae) (fun r2 => cond (r2) (cond (aI ah.Boards) (lbind (jE ah ae ah.Boards 0 ([] : List Int) ([] : List (GBe × Int))) (fun r6 => some r6) (fun c5 => some (c5.1, 0)) (fun _ _ => none)) none) (some (([] : List Int), 2)))) (some (([] : List Int), 2)))
theorem Mu (ah : GBk) (ae : List Int) (R : (List Int) × Int) (h : rb ah ae = some R) : ai Tryz.prog G0 36 [.agg (cGBk ah), .sl (aa eI ae) (List.length ae) false] (.tree (.tup [.sl (aa eI R.1) (List.length R.1) false, .lit (.int .i64 R.2)])) := by
 refine ai.runR mixed Tryz.call36 Tryz.func36 rfl (by simp [Tryz.ntmps36]; kernel_rfl) ?_
 obtain ⟨KF, h, kF, kN⟩ := cy h
 simp only [rb] at h
 obtain ⟨r7, o8, h⟩ := optI h kN
 try simp only [hs] at h
 simp only [vz, mq, mqm, vsi, tyf, mqt, nm, seval]
 refine ktree (args0 := [.agg (cGBk ah)]) (by first | (simp only [nrm, aB, @bP] <;> rfl) | rfl) (by simp only [tre, aO, mqr, Bool.and_self]) (sj _ _ o8) ?_
 refine bF (fun tm => tm 1 = .sl (aa eI ae) (List.length ae) false ∧ tm 2 = .ptr 0 0 ∧ tm 10 = .lit (.bool r7) ∧ True) (by refine ⟨?_, ?_, ?_, trivial⟩ <;> first | (simp only [ua, bm, nm, seval] <;> rfl) | rfl) ?_
 rintro tm ⟨e9, aW, aY, _⟩
 cases aU : (r7)
 ·simp only [aU, hs] at h
  try simp only [vz, mq, mqm, vsi, tyf, mqt, e9, aW, aY, aU, nm, seval]
  refine bT (x := (.tup [.lit (.slice none 0 0), .lit (.int .i64 2)])) (by first | (simp only [Tryz.results36, resV, resL, resV1, bU, bV, uw, cr, tyf, mqt, aU, nm, seval] <;> rfl) | rfl) ?_
  obtain rfl := kF _ h
  refine fh ?_ ?_
  ·simp only [tre, aO, mqr, Bool.and_self]
  ·first | (simp only [outV, uw, fv, cr, tyf, mqt, nrm, aB, e9, aW, aY, aU, nm, seval] <;> rfl) | rfl
 simp only [aU, hs] at h
 obtain ⟨iG, lI, h⟩ := optI h kN
 try simp only [hs] at h
 simp only [vz, mq, mqm, vsi, tyf, mqt, e9, aW, aY, aU, nm, seval]
 refine ktree (args0 := [.agg (cGBk ah), .sl (aa eI ae) (List.length ae) false]) (by first | (simp only [nrm, aB, @bP] <;> rfl) | rfl) (by simp only [tre, aO, mqr, Bool.and_self]) (sk _ _ _ lI) ?_
 refine bF (fun tm => tm 1 = .sl (aa eI ae) (List.length ae) false ∧ tm 2 = .ptr 0 0 ∧ tm 12 = .lit (.bool false) ∧ tm 15 = .lit (.bool iG) ∧ True) (by refine ⟨e9, aW, ?_, ?_, trivial⟩ <;> first | (simp only [ua, bm, e9, aW, aY, aU, nm, seval] <;> rfl) | rfl) ?_
 rintro tm ⟨b3, bI, b2, bl, _⟩
 cases bj : (iG)
 ·simp only [bj, hs] at h
  try simp only [vz, mq, mqm, vsi, tyf, mqt, aU, b3, bI, b2, bl, bj, nm, seval]
  refine bT (x := (.tup [.lit (.slice none 0 0), .lit (.int .i64 2)])) (by first | (simp only [Tryz.results36, resV, resL, resV1, bU, bV, uw, cr, tyf, mqt, aU, bj, nm, seval] <;> rfl) | rfl) ?_
  obtain rfl := kF _ h
  refine fh ?_ ?_
  ·simp only [tre, aO, mqr, Bool.and_self]
  ·first | (simp only [outV, uw, fv, cr, tyf, mqt, nrm, aB, aU, b3, bI, b2, bl, bj, nm, seval] <;> rfl) | rfl
 simp only [bj, hs] at h
 try simp only [vz, mq, mqm, vsi, tyf, mqt, aU, b3, bI, b2, bl, bj, nm, seval]
 refine kopen ?_
 rw [sm]
 refine an.run mixed Tryz.call69 Tryz.func69 rfl (by simp [Tryz.ntmps69]; kernel_rfl) ?_
 try simp only [vz, mq, mqm, vsi, tyf, mqt, aU, bj, nm, seval]
 refine bT (x := (.agg ((cGBk ah) ++ [.sl (aa eI ae) (List.length ae) false] ++ [.mp 21]))) (by first | (simp only [Tryz.results69, resV, resL, resV1, bU, bV, uw, cr, tyf, mqt, aU, bj, nm, seval] <;> rfl) | rfl) ?_
 cases bB : (aI ah.Boards)
 ·simp only [bB, hs] at h
  exact absurd h kN
 simp only [bB, hs] at h
 simp only [vz, mq, mqm, vsi, tyf, mqt, aU, bj, b3, bI, b2, bl, bB, nm, seval]
 obtain ⟨oN, h, oO, fQ, oP, cP⟩ := fO h kN
 obtain ⟨oQ, iH, h⟩ := call4 h
 obtain ⟨oR, cQ⟩ : ∃ I : Nat → St → Prop, I = (fun m st => ∃ (cb : List Int) (aw : Int) (aR : List Int) (bJ : List (GBe × Int)) (bN : VV), m = List.length cb ∧ 0 ≤ aw ∧ List.drop (Int.toNat aw) ah.Boards = cb ∧ st.df = [] ∧ 29 ≤ st.nx ∧ st.H 21 = some (.map (encM aN bM bJ)) ∧ st.H 15 = some (.cells (some 92) ((cGBk ah) ++ [.sl (aa eI ae) (List.length ae) false] ++ [.mp 21])) ∧ st.tm 6 = .ptr 15 0 ∧ st.tm 23 = .lit (.int .i64 (List.length ah.Boards : Int)) ∧ st.tm 7 = bN ∧ st.tm 24 = .lit (.int .i64 aw) ∧ ((∃ (β : Nat) (el : Option TypeId), bN = .ref β 0 (List.length aR) 1 (List.length aR) ∧ β < st.nx ∧ β ≠ 21 ∧ β ≠ 15 ∧ st.H β = some (.cells el (aa eI aR))) ∨ (bN = .lit (.slice none 0 0) ∧ aR = [])) ∧ oN (oQ cb aw aR bJ)) := ⟨_, rfl⟩
 refine loopK mixed (by kernel_rfl) oR (List.length ah.Boards) (by rw [cQ]; refine ⟨ah.Boards, 0, ([] : List Int), ([] : List (GBe × Int)), .lit (.slice none 0 0), rfl, Int.le_refl _, rfl, rfl, (show 29 ≤ 29 by omega), ?_, ?_, ?_, ?_, ?_, ?_, Or.inr ⟨rfl, rfl⟩, h⟩ <;> first | (simp only [ua, bm, aU, bj, b3, bI, b2, bl, nm, seval] <;> rfl) | rfl) ?_
 rintro m ⟨tm, H, bC, df⟩ hinv
 rw [cQ] at hinv
 obtain ⟨cb, aw, aR, bJ, bN, rfl, bg, bn, hdf, iI, b4, b5, bp, bz, bw, aX, cq, h⟩ := hinv
 simp only at hdf iI b4 b5 bp bz bw aX cq
 have bA := gM (m := 29) (b := bC) (by omega)
 subst hdf iH
 rcases cq with ⟨dB, ct, rfl, iJ, iK, iL, cz⟩ | ⟨rfl, rfl⟩
 ·have de := gb iJ
  have dg := ne_f iK
  have dh := ne_f iL
  cases cb with
  | nil =>
   have cM : (decide (aw < (List.length ah.Boards : Int))) = false := eM bg bn
   simp only [jE, hs, reduceCtorEq] at h
   replace h := fQ _ h
   try dsimp only at h
   try simp only [hs] at h
   try simp only [vz, mq, mqm, vsi, tyf, mqt, aU, bj, bB, bA, bp, bz, bw, aX, b4, b5, de, cz, dg, dh, cM, nm, seval]
   refine bT (x := (.tup [.ref dB 0 (List.length aR) 1 (List.length aR), .lit (.int .i64 0)])) (by first | (simp only [Tryz.results36, resV, resL, resV1, bU, bV, uw, cr, tyf, mqt, aU, bj, bB, bA, b4, b5, de, cz, dg, dh, cM, nm, seval] <;> rfl) | rfl) ?_
   obtain rfl := kF _ h
   refine fh ?_ ?_
   ·simp only [tre, aO, mqr, Bool.and_self]
   ·first | (simp only [outV, uw, fv, cr, tyf, mqt, nrm, aB, aU, bj, bB, bA, bp, bz, bw, aX, b4, b5, de, cz, dg, dh, cM, nm, seval] <;> rfl) | rfl
  | cons cu cb =>
   have h9 : (decide (aw < (List.length ah.Boards : Int))) = true := eO bg bn
   have fw := cO bg bn
   have hC := eP bg bn bB
   simp only [jE, hs, reduceCtorEq] at h
   obtain ⟨cL, lE, h⟩ := optI h cP
   try simp only [hs] at h
   simp only [vz, mq, mqm, vsi, tyf, mqt, aU, bj, bB, bA, bp, bz, bw, aX, b4, b5, de, cz, dg, dh, h9, (aE fw), hC, nm, seval]
   refine kupd (VUpd.at (β := 21) (y := (fun _ => .lit (.int .i64 cL.1))) (E9 _ _ _ _ _ lE) (by omega) (by first | rfl | assumption | (simp only [bc, bf, bA, b4, b5, de, cz, dg, dh, nm, seval] <;> rfl)) (by first | rfl | (simp only [nrm, aB, @bP, @dA] <;> rfl)) (dQ (fun _ => rfl) _)) ?_
   refine ec (fun tm => tm 6 = .ptr 15 0 ∧ tm 23 = .lit (.int .i64 (List.length ah.Boards : Int)) ∧ tm 24 = .lit (.int .i64 aw) ∧ tm 27 = .ref dB 0 (List.length aR) 1 (List.length aR) ∧ tm 30 = .lit (.int .i64 cL.1) ∧ True) (by refine ⟨bp, bz, aX, ?_, ?_, trivial⟩ <;> first | (simp only [ua, bm, aU, bj, bA, bp, bz, bw, aX, b4, b5, de, cz, dg, dh, h9, hC, nm, seval] <;> rfl) | rfl) ?_
   rintro tm ⟨cB, cC, eK, cD, cE, _⟩
   have cF := And.intro aU (And.intro bj (And.intro bB (And.intro bA (And.intro b4 (And.intro b5 (And.intro de (And.intro cz (And.intro dg (And.intro dh (And.intro h9 hC))))))))))
   cases eg : (roomOk 8 (List.length (aR ++ [cL.1])))
   ·simp only [eg, hs] at h
    exact absurd h cP
   simp only [eg, hs] at h
   simp only [vz, mq, mqm, vsi, tyf, mqt, cF, (aE fw), cB, cC, eK, cD, cE, eg, nm, seval]
   refine k_app (w := 1) (enc := eI) (xs := aR) (ys := ([cL.1])) (el := ct) (i0 := (some 60)) (fun _ => rfl) pL pK Tryz.underlying51 (by first | rfl | assumption | (simp only [bc, bf, jY, cF, nm, seval] <;> rfl) | (simp only [bc, bf, eJ, eN, dY, dZ, tyf, mqt, cF, (aE fw), cB, cC, eK, cD, cE, eg, nm, seval]; done)) (by first | rfl | assumption | (simp only [bc, bf, jY, cF, nm, seval] <;> rfl) | (simp only [bc, bf, eJ, eN, dY, dZ, tyf, mqt, cF, (aE fw), cB, cC, eK, cD, cE, eg, nm, seval]; done)) (Nat.zero_lt_succ _) eg ?_
   simp only [vz, mq, mqm, vsi, tyf, mqt, cF, (aE fw), cB, cC, eK, cD, cE, eg, nm, seval]
   exact ⟨List.length cb, Nat.lt_succ_self _, by rw [cQ]; refine ⟨cb, aw + 1, (aR ++ [cL.1]), cL.2, .ref (bC + 8) 0 (List.length (aR ++ [cL.1])) 1 (List.length (aR ++ [cL.1])), rfl, Int.le_trans bg (Int.le_add_one (Int.le_refl _)), cA bg bn, rfl, (show 29 ≤ bC + 12 by omega), ?_, ?_, cB, cC, ?_, ?_, Or.inl ⟨bC + 8, (sameEl ct 60), rfl, (by first | omega | (simp only [nm, seval]; done) | (simp only [nm, seval]; omega)), (by first | omega | (intro hh; simp only [cF, reduceCtorEq] at hh)), (by first | omega | (intro hh; simp only [cF, reduceCtorEq] at hh)), ?_⟩, (by first | exact h | (simp only [cF]; exact h))⟩ <;> first | (simp only [ua, bm, cF, cB, cC, eK, cD, cE, nm, seval] <;> rfl) | rfl⟩
 ·cases cb with
  | nil =>
   have eQ : (decide (aw < (List.length ah.Boards : Int))) = false := eM bg bn
   simp only [jE, hs, reduceCtorEq] at h
   replace h := fQ _ h
   try dsimp only at h
   try simp only [hs] at h
   try simp only [vz, mq, mqm, vsi, tyf, mqt, aU, bj, bB, bA, bp, bz, bw, aX, b4, b5, eQ, nm, seval]
   refine bT (x := (.tup [.lit (.slice none 0 0), .lit (.int .i64 0)])) (by first | (simp only [Tryz.results36, resV, resL, resV1, bU, bV, uw, cr, tyf, mqt, aU, bj, bB, bA, b4, b5, eQ, nm, seval] <;> rfl) | rfl) ?_
   obtain rfl := kF _ h
   refine fh ?_ ?_
   ·simp only [tre, aO, mqr, Bool.and_self]
   ·first | (simp only [outV, uw, fv, cr, tyf, mqt, nrm, aB, aU, bj, bB, bA, bp, bz, bw, aX, b4, b5, eQ, nm, seval] <;> rfl) | rfl
  | cons cu cb =>
   have hD : (decide (aw < (List.length ah.Boards : Int))) = true := eO bg bn
   have gg := cO bg bn
   have hJ := eP bg bn bB
   simp only [jE, hs, reduceCtorEq] at h
   obtain ⟨dC, oU, h⟩ := optI h cP
   try simp only [hs] at h
   simp only [vz, mq, mqm, vsi, tyf, mqt, aU, bj, bB, bA, bp, bz, bw, aX, b4, b5, hD, (aE gg), hJ, nm, seval]
   refine kupd (VUpd.at (β := 21) (y := (fun _ => .lit (.int .i64 dC.1))) (E9 _ _ _ _ _ oU) (by omega) (by first | rfl | assumption | (simp only [bc, bf, bA, b4, b5, nm, seval] <;> rfl)) (by first | rfl | (simp only [nrm, aB, @bP, @dA] <;> rfl)) (dQ (fun _ => rfl) _)) ?_
   refine ec (fun tm => tm 6 = .ptr 15 0 ∧ tm 23 = .lit (.int .i64 (List.length ah.Boards : Int)) ∧ tm 24 = .lit (.int .i64 aw) ∧ tm 27 = .lit (.slice none 0 0) ∧ tm 30 = .lit (.int .i64 dC.1) ∧ True) (by refine ⟨bp, bz, aX, ?_, ?_, trivial⟩ <;> first | (simp only [ua, bm, aU, bj, bA, bp, bz, bw, aX, b4, b5, hD, hJ, nm, seval] <;> rfl) | rfl) ?_
   rintro tm ⟨eR, eT, fG, fH, fI, _⟩
   have dD := And.intro aU (And.intro bj (And.intro bB (And.intro bA (And.intro b4 (And.intro b5 (And.intro hD hJ))))))
   cases fj : (roomOk 8 (List.length (([] : List Int) ++ [dC.1])))
   ·simp only [fj, hs] at h
    exact absurd h cP
   simp only [fj, hs] at h
   simp only [vz, mq, mqm, vsi, tyf, mqt, dD, (aE gg), eR, eT, fG, fH, fI, fj, nm, seval]
   refine o0 (w := 1) (enc := eI) (ys := ([dC.1])) (i0 := (some 60)) (fun _ => rfl) pL pK Tryz.underlying51 (by first | rfl | assumption | (simp only [bc, bf, jY, dD, nm, seval] <;> rfl) | (simp only [bc, bf, eJ, eN, dY, dZ, tyf, mqt, dD, (aE gg), eR, eT, fG, fH, fI, fj, nm, seval]; done)) (Nat.zero_lt_succ _) fj ?_
   simp only [vz, mq, mqm, vsi, tyf, mqt, dD, (aE gg), eR, eT, fG, fH, fI, fj, nm, seval]
   exact ⟨List.length cb, Nat.lt_succ_self _, by rw [cQ]; refine ⟨cb, aw + 1, (([] : List Int) ++ [dC.1]), dC.2, .ref (bC + 8) 0 (List.length (([] : List Int) ++ [dC.1])) 1 (List.length (([] : List Int) ++ [dC.1])), rfl, Int.le_trans bg (Int.le_add_one (Int.le_refl _)), cA bg bn, rfl, (show 29 ≤ bC + 12 by omega), ?_, ?_, eR, eT, ?_, ?_, Or.inl ⟨bC + 8, (some 60), rfl, (by first | omega | (simp only [nm, seval]; done) | (simp only [nm, seval]; omega)), (by first | omega | (intro hh; simp only [dD, reduceCtorEq] at hh)), (by first | omega | (intro hh; simp only [dD, reduceCtorEq] at hh)), ?_⟩, (by first | exact h | (simp only [dD]; exact h))⟩ <;> first | (simp only [ua, bm, dD, eR, eT, fG, fH, fI, nm, seval] <;> rfl) | rfl⟩
def jq (ah : GBk) (ae : List Int) : List GBs → Int → (List Int) → (List (GBe × Int)) → Option (LOut ((List Int) × Int) ((List Int) × (List (GBe × Int))))
 | [], cn, bx, bH => some (.go (bx, bH))
 | e0 :: p0, cn, bx, bH => Option.bind (oA ah ae cn bH) (fun r4 => cond (roomOk 8 (List.length (bx ++ [r4.1]))) (jq ah ae p0 (cn + 1) (bx ++ [r4.1]) r4.2) none)
def re (ah : GBk) (ae : List Int) : Option ((List Int) × Int) := Option.bind (kK ah) (fun r1 => cond (r1) (Option.bind (kL ah ae) (fun r2 => cond (r2) (cond (aI ah.Strokes) (lbind (jq ah ae ah.Strokes 0 ([] : List Int) ([] : List (GBe × Int))) (fun r6 => some r6) (fun c5 => some (c5.1, 0)) (fun _ _ => none)) none) (some (([] : List Int), 2)))) (some (([] : List Int), 2)))
theorem Mv (ah : GBk) (ae : List Int) (R : (List Int) × Int) (h : re ah ae = some R) : ai Tryz.prog G0 37 [.agg (cGBk ah), .sl (aa eI ae) (List.length ae) false] (.tree (.tup [.sl (aa eI R.1) (List.length R.1) false, .lit (.int .i64 R.2)])) := by
 refine ai.runR mixed Tryz.call37 Tryz.func37 rfl (by simp [Tryz.ntmps37]; kernel_rfl) ?_
 obtain ⟨KF, h, kF, kN⟩ := cy h
 simp only [re] at h
 obtain ⟨r7, o8, h⟩ := optI h kN
 try simp only [hs] at h
 simp only [vz, mq, mqm, vsi, tyf, mqt, nm, seval]
 refine ktree (args0 := [.agg (cGBk ah)]) (by first | (simp only [nrm, aB, @bP] <;> rfl) | rfl) (by simp only [tre, aO, mqr, Bool.and_self]) (sj _ _ o8) ?_
 refine bF (fun tm => tm 1 = .sl (aa eI ae) (List.length ae) false ∧ tm 2 = .ptr 0 0 ∧ tm 10 = .lit (.bool r7) ∧ True) (by refine ⟨?_, ?_, ?_, trivial⟩ <;> first | (simp only [ua, bm, nm, seval] <;> rfl) | rfl) ?_
 rintro tm ⟨e9, aW, aY, _⟩
 cases aU : (r7)
 ·simp only [aU, hs] at h
  try simp only [vz, mq, mqm, vsi, tyf, mqt, e9, aW, aY, aU, nm, seval]
  refine bT (x := (.tup [.lit (.slice none 0 0), .lit (.int .i64 2)])) (by first | (simp only [Tryz.results37, resV, resL, resV1, bU, bV, uw, cr, tyf, mqt, aU, nm, seval] <;> rfl) | rfl) ?_
  obtain rfl := kF _ h
  refine fh ?_ ?_
  ·simp only [tre, aO, mqr, Bool.and_self]
  ·first | (simp only [outV, uw, fv, cr, tyf, mqt, nrm, aB, e9, aW, aY, aU, nm, seval] <;> rfl) | rfl
 simp only [aU, hs] at h
 obtain ⟨iG, lI, h⟩ := optI h kN
 try simp only [hs] at h
 simp only [vz, mq, mqm, vsi, tyf, mqt, e9, aW, aY, aU, nm, seval]
 refine ktree (args0 := [.agg (cGBk ah), .sl (aa eI ae) (List.length ae) false]) (by first | (simp only [nrm, aB, @bP] <;> rfl) | rfl) (by simp only [tre, aO, mqr, Bool.and_self]) (sk _ _ _ lI) ?_
 refine bF (fun tm => tm 1 = .sl (aa eI ae) (List.length ae) false ∧ tm 2 = .ptr 0 0 ∧ tm 12 = .lit (.bool false) ∧ tm 15 = .lit (.bool iG) ∧ True) (by refine ⟨e9, aW, ?_, ?_, trivial⟩ <;> first | (simp only [ua, bm, e9, aW, aY, aU, nm, seval] <;> rfl) | rfl) ?_
 rintro tm ⟨b3, bI, b2, bl, _⟩
 cases bj : (iG)
 ·simp only [bj, hs] at h
  try simp only [vz, mq, mqm, vsi, tyf, mqt, aU, b3, bI, b2, bl, bj, nm, seval]
  refine bT (x := (.tup [.lit (.slice none 0 0), .lit (.int .i64 2)])) (by first | (simp only [Tryz.results37, resV, resL, resV1, bU, bV, uw, cr, tyf, mqt, aU, bj, nm, seval] <;> rfl) | rfl) ?_
  obtain rfl := kF _ h
  refine fh ?_ ?_
  ·simp only [tre, aO, mqr, Bool.and_self]
  ·first | (simp only [outV, uw, fv, cr, tyf, mqt, nrm, aB, aU, b3, bI, b2, bl, bj, nm, seval] <;> rfl) | rfl
 simp only [bj, hs] at h
 try simp only [vz, mq, mqm, vsi, tyf, mqt, aU, b3, bI, b2, bl, bj, nm, seval]
 refine kopen ?_
 rw [sm]
 refine an.run mixed Tryz.call69 Tryz.func69 rfl (by simp [Tryz.ntmps69]; kernel_rfl) ?_
 try simp only [vz, mq, mqm, vsi, tyf, mqt, aU, bj, nm, seval]
 refine bT (x := (.agg ((cGBk ah) ++ [.sl (aa eI ae) (List.length ae) false] ++ [.mp 21]))) (by first | (simp only [Tryz.results69, resV, resL, resV1, bU, bV, uw, cr, tyf, mqt, aU, bj, nm, seval] <;> rfl) | rfl) ?_
 cases bB : (aI ah.Strokes)
 ·simp only [bB, hs] at h
  exact absurd h kN
 simp only [bB, hs] at h
 simp only [vz, mq, mqm, vsi, tyf, mqt, aU, bj, b3, bI, b2, bl, bB, nm, seval]
 obtain ⟨oN, h, oO, fQ, oP, cP⟩ := fO h kN
 obtain ⟨oQ, iH, h⟩ := call4 h
 obtain ⟨oR, cQ⟩ : ∃ I : Nat → St → Prop, I = (fun m st => ∃ (cb : List GBs) (aw : Int) (aR : List Int) (bJ : List (GBe × Int)) (bN : VV), m = List.length cb ∧ 0 ≤ aw ∧ List.drop (Int.toNat aw) ah.Strokes = cb ∧ st.df = [] ∧ 29 ≤ st.nx ∧ st.H 21 = some (.map (encM aN bM bJ)) ∧ st.H 15 = some (.cells (some 92) ((cGBk ah) ++ [.sl (aa eI ae) (List.length ae) false] ++ [.mp 21])) ∧ st.tm 6 = .ptr 15 0 ∧ st.tm 23 = .lit (.int .i64 (List.length ah.Strokes : Int)) ∧ st.tm 7 = bN ∧ st.tm 24 = .lit (.int .i64 aw) ∧ ((∃ (β : Nat) (el : Option TypeId), bN = .ref β 0 (List.length aR) 1 (List.length aR) ∧ β < st.nx ∧ β ≠ 21 ∧ β ≠ 15 ∧ st.H β = some (.cells el (aa eI aR))) ∨ (bN = .lit (.slice none 0 0) ∧ aR = [])) ∧ oN (oQ cb aw aR bJ)) := ⟨_, rfl⟩
 refine loopK mixed (by kernel_rfl) oR (List.length ah.Strokes) (by rw [cQ]; refine ⟨ah.Strokes, 0, ([] : List Int), ([] : List (GBe × Int)), .lit (.slice none 0 0), rfl, Int.le_refl _, rfl, rfl, (show 29 ≤ 29 by omega), ?_, ?_, ?_, ?_, ?_, ?_, Or.inr ⟨rfl, rfl⟩, h⟩ <;> first | (simp only [ua, bm, aU, bj, b3, bI, b2, bl, nm, seval] <;> rfl) | rfl) ?_
 rintro m ⟨tm, H, bC, df⟩ hinv
 rw [cQ] at hinv
 obtain ⟨cb, aw, aR, bJ, bN, rfl, bg, bn, hdf, iI, b4, b5, bp, bz, bw, aX, cq, h⟩ := hinv
 simp only at hdf iI b4 b5 bp bz bw aX cq
 have bA := gM (m := 29) (b := bC) (by omega)
 subst hdf iH
 rcases cq with ⟨dB, ct, rfl, iJ, iK, iL, cz⟩ | ⟨rfl, rfl⟩
 ·have de := gb iJ
  have dg := ne_f iK
  have dh := ne_f iL
  cases cb with
  | nil =>
   have cM : (decide (aw < (List.length ah.Strokes : Int))) = false := eM bg bn
   simp only [jq, hs, reduceCtorEq] at h
   replace h := fQ _ h
   try dsimp only at h
   try simp only [hs] at h
   try simp only [vz, mq, mqm, vsi, tyf, mqt, aU, bj, bB, bA, bp, bz, bw, aX, b4, b5, de, cz, dg, dh, cM, nm, seval]
   refine bT (x := (.tup [.ref dB 0 (List.length aR) 1 (List.length aR), .lit (.int .i64 0)])) (by first | (simp only [Tryz.results37, resV, resL, resV1, bU, bV, uw, cr, tyf, mqt, aU, bj, bB, bA, b4, b5, de, cz, dg, dh, cM, nm, seval] <;> rfl) | rfl) ?_
   obtain rfl := kF _ h
   refine fh ?_ ?_
   ·simp only [tre, aO, mqr, Bool.and_self]
   ·first | (simp only [outV, uw, fv, cr, tyf, mqt, nrm, aB, aU, bj, bB, bA, bp, bz, bw, aX, b4, b5, de, cz, dg, dh, cM, nm, seval] <;> rfl) | rfl
  | cons cu cb =>
   have h9 : (decide (aw < (List.length ah.Strokes : Int))) = true := eO bg bn
   have fw := cO bg bn
   have hC := eP bg bn bB
   simp only [jq, hs, reduceCtorEq] at h
   obtain ⟨cL, lE, h⟩ := optI h cP
   try simp only [hs] at h
   simp only [vz, mq, mqm, vsi, tyf, mqt, aU, bj, bB, bA, bp, bz, bw, aX, b4, b5, de, cz, dg, dh, h9, (aM fw), hC, nm, seval]
   refine kupd (VUpd.at (β := 21) (y := (fun _ => .lit (.int .i64 cL.1))) (Ex _ _ _ _ _ lE) (by omega) (by first | rfl | assumption | (simp only [bc, bf, bA, b4, b5, de, cz, dg, dh, nm, seval] <;> rfl)) (by first | rfl | (simp only [nrm, aB, @bP, @dA] <;> rfl)) (dQ (fun _ => rfl) _)) ?_
   refine ec (fun tm => tm 6 = .ptr 15 0 ∧ tm 23 = .lit (.int .i64 (List.length ah.Strokes : Int)) ∧ tm 24 = .lit (.int .i64 aw) ∧ tm 27 = .ref dB 0 (List.length aR) 1 (List.length aR) ∧ tm 30 = .lit (.int .i64 cL.1) ∧ True) (by refine ⟨bp, bz, aX, ?_, ?_, trivial⟩ <;> first | (simp only [ua, bm, aU, bj, bA, bp, bz, bw, aX, b4, b5, de, cz, dg, dh, h9, hC, nm, seval] <;> rfl) | rfl) ?_
   rintro tm ⟨cB, cC, eK, cD, cE, _⟩
   have cF := And.intro aU (And.intro bj (And.intro bB (And.intro bA (And.intro b4 (And.intro b5 (And.intro de (And.intro cz (And.intro dg (And.intro dh (And.intro h9 hC))))))))))
   cases eg : (roomOk 8 (List.length (aR ++ [cL.1])))
   ·simp only [eg, hs] at h
    exact absurd h cP
   simp only [eg, hs] at h
   simp only [vz, mq, mqm, vsi, tyf, mqt, cF, (aM fw), cB, cC, eK, cD, cE, eg, nm, seval]
   refine k_app (w := 1) (enc := eI) (xs := aR) (ys := ([cL.1])) (el := ct) (i0 := (some 3)) (fun _ => rfl) gY gZ Tryz.underlying22 (by first | rfl | assumption | (simp only [bc, bf, cl, cF, nm, seval] <;> rfl) | (simp only [bc, bf, eJ, eN, dY, dZ, tyf, mqt, cF, (aM fw), cB, cC, eK, cD, cE, eg, nm, seval]; done)) (by first | rfl | assumption | (simp only [bc, bf, cl, cF, nm, seval] <;> rfl) | (simp only [bc, bf, eJ, eN, dY, dZ, tyf, mqt, cF, (aM fw), cB, cC, eK, cD, cE, eg, nm, seval]; done)) (Nat.zero_lt_succ _) eg ?_
   simp only [vz, mq, mqm, vsi, tyf, mqt, cF, (aM fw), cB, cC, eK, cD, cE, eg, nm, seval]
   exact ⟨List.length cb, Nat.lt_succ_self _, by rw [cQ]; refine ⟨cb, aw + 1, (aR ++ [cL.1]), cL.2, .ref (bC + 8) 0 (List.length (aR ++ [cL.1])) 1 (List.length (aR ++ [cL.1])), rfl, Int.le_trans bg (Int.le_add_one (Int.le_refl _)), cA bg bn, rfl, (show 29 ≤ bC + 12 by omega), ?_, ?_, cB, cC, ?_, ?_, Or.inl ⟨bC + 8, (sameEl ct 3), rfl, (by first | omega | (simp only [nm, seval]; done) | (simp only [nm, seval]; omega)), (by first | omega | (intro hh; simp only [cF, reduceCtorEq] at hh)), (by first | omega | (intro hh; simp only [cF, reduceCtorEq] at hh)), ?_⟩, (by first | exact h | (simp only [cF]; exact h))⟩ <;> first | (simp only [ua, bm, cF, cB, cC, eK, cD, cE, nm, seval] <;> rfl) | rfl⟩
 ·cases cb with
  | nil =>
   have eQ : (decide (aw < (List.length ah.Strokes : Int))) = false := eM bg bn
   simp only [jq, hs, reduceCtorEq] at h
   replace h := fQ _ h
   try dsimp only at h
   try simp only [hs] at h
   try simp only [vz, mq, mqm, vsi, tyf, mqt, aU, bj, bB, bA, bp, bz, bw, aX, b4, b5, eQ, nm, seval]
   refine bT (x := (.tup [.lit (.slice none 0 0), .lit (.int .i64 0)])) (by first | (simp only [Tryz.results37, resV, resL, resV1, bU, bV, uw, cr, tyf, mqt, aU, bj, bB, bA, b4, b5, eQ, nm, seval] <;> rfl) | rfl) ?_
   obtain rfl := kF _ h
   refine fh ?_ ?_
   ·simp only [tre, aO, mqr, Bool.and_self]
   ·first | (simp only [outV, uw, fv, cr, tyf, mqt, nrm, aB, aU, bj, bB, bA, bp, bz, bw, aX, b4, b5, eQ, nm, seval] <;> rfl) | rfl
  | cons cu cb =>
   have hD : (decide (aw < (List.length ah.Strokes : Int))) = true := eO bg bn
   have gg := cO bg bn
   have hJ := eP bg bn bB
   simp only [jq, hs, reduceCtorEq] at h
   obtain ⟨dC, oU, h⟩ := optI h cP
   try simp only [hs] at h
   simp only [vz, mq, mqm, vsi, tyf, mqt, aU, bj, bB, bA, bp, bz, bw, aX, b4, b5, hD, (aM gg), hJ, nm, seval]
   refine kupd (VUpd.at (β := 21) (y := (fun _ => .lit (.int .i64 dC.1))) (Ex _ _ _ _ _ oU) (by omega) (by first | rfl | assumption | (simp only [bc, bf, bA, b4, b5, nm, seval] <;> rfl)) (by first | rfl | (simp only [nrm, aB, @bP, @dA] <;> rfl)) (dQ (fun _ => rfl) _)) ?_
   refine ec (fun tm => tm 6 = .ptr 15 0 ∧ tm 23 = .lit (.int .i64 (List.length ah.Strokes : Int)) ∧ tm 24 = .lit (.int .i64 aw) ∧ tm 27 = .lit (.slice none 0 0) ∧ tm 30 = .lit (.int .i64 dC.1) ∧ True) (by refine ⟨bp, bz, aX, ?_, ?_, trivial⟩ <;> first | (simp only [ua, bm, aU, bj, bA, bp, bz, bw, aX, b4, b5, hD, hJ, nm, seval] <;> rfl) | rfl) ?_
   rintro tm ⟨eR, eT, fG, fH, fI, _⟩
   have dD := And.intro aU (And.intro bj (And.intro bB (And.intro bA (And.intro b4 (And.intro b5 (And.intro hD hJ))))))
   cases fj : (roomOk 8 (List.length (([] : List Int) ++ [dC.1])))
   ·simp only [fj, hs] at h
    exact absurd h cP
   simp only [fj, hs] at h
   simp only [vz, mq, mqm, vsi, tyf, mqt, dD, (aM gg), eR, eT, fG, fH, fI, fj, nm, seval]
   refine o0 (w := 1) (enc := eI) (ys := ([dC.1])) (i0 := (some 3)) (fun _ => rfl) gY gZ Tryz.underlying22 (by first | rfl | assumption | (simp only [bc, bf, cl, dD, nm, seval] <;> rfl) | (simp only [bc, bf, eJ, eN, dY, dZ, tyf, mqt, dD, (aM gg), eR, eT, fG, fH, fI, fj, nm, seval]; done)) (Nat.zero_lt_succ _) fj ?_
   simp only [vz, mq, mqm, vsi, tyf, mqt, dD, (aM gg), eR, eT, fG, fH, fI, fj, nm, seval]
   exact ⟨List.length cb, Nat.lt_succ_self _, by rw [cQ]; refine ⟨cb, aw + 1, (([] : List Int) ++ [dC.1]), dC.2, .ref (bC + 8) 0 (List.length (([] : List Int) ++ [dC.1])) 1 (List.length (([] : List Int) ++ [dC.1])), rfl, Int.le_trans bg (Int.le_add_one (Int.le_refl _)), cA bg bn, rfl, (show 29 ≤ bC + 12 by omega), ?_, ?_, eR, eT, ?_, ?_, Or.inl ⟨bC + 8, (some 3), rfl, (by first | omega | (simp only [nm, seval]; done) | (simp only [nm, seval]; omega)), (by first | omega | (intro hh; simp only [dD, reduceCtorEq] at hh)), (by first | omega | (intro hh; simp only [dD, reduceCtorEq] at hh)), ?_⟩, (by first | exact h | (simp only [dD]; exact h))⟩ <;> first | (simp only [ua, bm, dD, eR, eT, fG, fH, fI, nm, seval] <;> rfl) | rfl⟩





theorem room16 {n : Nat} (h : n ≤ 1000) : roomOk 16 n = true := by simp [roomOk]; omega
def endS (b : GBk) (pl : List Int) (i : Nat) : GSpan := ⟨EE b pl 0 i, EE b pl 1 i⟩
def endsL (b : GBk) (pl : List Int) : List GSpan := (List.range b.Strokes.length).map (endS b pl)
theorem rh {x : Int} (h : 0 ≤ x) : mxL [x] = x := by show max 0 x = x; omega
theorem ri {b : GBk} (hb : BOk b) {pl : List Int} (hp : pl.length = b.Strokes.length) : ∀ (p : List GBs) (i : Nat) (acc : List GSpan) (l : List (GBe × Int)), i + p.length = b.Strokes.length → acc.length = i → InvE b pl l →
  ∃ l', iF b pl p i acc l = some (.go (acc ++ (List.range' i p.length).map (endS b pl), l'))
 | [], i, acc, l, _, _, _ => ⟨l, by simp [iF]⟩
 | s :: p, i, acc, l, hi, ha, hl => by
  have hns := hb.ns
  simp only [List.length_cons] at hi
  obtain ⟨l1, e1, cI⟩ := oH hb.h hp hl (p := [(i : Int)]) (fun k hk => by rw [List.mem_singleton.1 hk]; omega) (by simp)
  obtain ⟨l2, e2⟩ := ri hb hp p (i + 1) (acc ++ [endS b pl i]) l1 (by omega) (by simp [ha]) cI
  refine ⟨l2, ?_⟩
  simp only [iF, e1, Option.bind_some]
  have h0 := EE_b hb.h pl 0 (s := i) (by omega)
  have h1 := EE_b hb.h pl 1 (s := i) (by omega)
  simp only [List.map_cons, List.map_nil, Int.toNat_natCast]
  rw [rh h0.1, rh h1.1, room16 (by simp; omega), cond_true]
  have : ((i : Int) + 1) = ((i + 1 : Nat) : Int) := by omega
  rw [this]
  show iF b pl p ((i + 1 : Nat) : Int) (acc ++ [endS b pl i]) l1 = _
  rw [e2]
  simp [List.range'_succ]
theorem Cm {b : GBk} (h : Len b) (pl : List Int) : oM b pl = some (if benchB b && planB b pl then (endsL b pl, 0) else ([], 2)) := by
 unfold oM
 rw [tz h, t0 h]
 cases hB : benchB b with
 | false => rfl
 | true =>
  cases hP : planB b pl with
  | false => rfl
  | true =>
   have hb := n3.1 hB
   obtain ⟨l', e⟩ := ri hb (rj.1 hP).len b.Strokes 0 [] [] (by simp) rfl InvE.nil
   simp only [Option.bind_some, cond_true, Bool.and_self, if_true]
   rw [gp h.st, cond_true]
   have e' : iF b pl b.Strokes 0 [] [] = _ := e
   rw [e']
   simp [lbind, endsL, List.range_eq_range']
theorem Cn (b : GBk) (pl : List Int) : (endsL b pl).length = b.Strokes.length := by simp [endsL]
theorem getEnds {b : GBk} {pl : List Int} {i : Int} (h0 : 0 ≤ i) (h1 : i.toNat < b.Strokes.length) : getI (endsL b pl) i = some (endS b pl i.toNat) := by
 unfold getI endsL
 rw [if_pos h0, List.getElem?_map, List.getElem?_range h1]
 rfl
theorem Co {b : GBk} (h : Len b) (pl : List Int) (bd : Int) : oV b pl bd = some (if benchB b && (planB b pl && inB 0 ((b.Boards.length : Int) - 1) bd) then (DN b pl bd, 0) else (⟨0, 0⟩, 2)) := by
 unfold oV
 rw [tz h, t0 h, Mw h]
 cases hB : benchB b with
 | false => rfl
 | true =>
  cases hP : planB b pl with
  | false => rfl
  | true =>
   cases hI : inB 0 ((b.Boards.length : Int) - 1) bd with
   | false => rfl
   | true =>
    obtain ⟨l', e, _⟩ := oL (n3.1 hB).h (rj.1 hP).len bd (InvE.nil (b := b) (pl := pl))
    simp only [Option.bind_some, cond_true, e, Bool.and_self, if_true]
def lateW (s : GSpan) (due : Int) : Int := if s.Low > due then 3 else if s.High > due then 2 else 1
def lateL (b : GBk) (pl : List Int) : Nat → List Int → List Int
 | _, [] => []
 | i, d :: p => lateW (DN b pl i) d :: lateL b pl (i + 1) p
theorem GH {b : GBk} {pl : List Int} : ∀ (i : Nat) (p : List Int), (lateL b pl i p).length = p.length
 | _, [] => rfl
 | i, d :: p => by simp [lateL, GH (i + 1) p]
theorem GI {b : GBk} {pl : List Int} : ∀ (p : List Int) (i k : Nat) (d : Int), p[k]? = some d → (lateL b pl i p)[k]? = some (lateW (DN b pl ((i + k : Nat) : Int)) d)
 | [], _, _, _, h => by cases h
 | x :: p, i, 0, d, h => by simp at h; subst h; simp [lateL]
 | x :: p, i, k + 1, d, h => by
  have := GI (b := b) (pl := pl) p (i + 1) k d (by simpa using h)
  simp only [lateL, List.getElem?_cons_succ]
  rw [this]
  congr 3
  omega
theorem rk {b : GBk} (hb : BOk b) {pl : List Int} (hp : pl.length = b.Strokes.length) : ∀ (p : List Int) (i : Nat) (acc : List Int) (l : List (GBe × Int)), b.Boards.drop i = p → acc.length = i → InvE b pl l →
  ∃ l', jE b pl p i acc l = some (.go (acc ++ lateL b pl i p, l'))
 | [], i, acc, l, _, _, _ => ⟨l, by simp [jE, lateL]⟩
 | d :: p, i, acc, l, hi, ha, hl => by
  have hnb := hb.nb
  have hd : b.Boards.drop (i : Int).toNat = d :: p := hi
  have hg := cO (by omega) hd
  have hlt := sT hg
  obtain ⟨l1, e1, cI⟩ := oL hb.h hp (i : Int) hl
  have ew : oW b pl i l = some (lateW (DN b pl i) d, l1) := by
   unfold oW lateW
   simp only [e1, hg, Option.bind_some]
   by_cases h1 : (DN b pl i).Low > d
   ·rw [decide_eq_true h1, cond_true, if_pos h1]
   ·rw [decide_eq_false h1, cond_false, if_neg h1]
    by_cases h2 : (DN b pl i).High > d
    ·rw [decide_eq_true h2, cond_true, if_pos h2]
    ·rw [decide_eq_false h2, cond_false, if_neg h2]
  obtain ⟨l2, e2⟩ := rk hb hp p (i + 1) (acc ++ [lateW (DN b pl i) d]) l1 (by have := cA (by omega) hd; rw [← this]; congr 1) (by simp [ha]) cI
  refine ⟨l2, ?_⟩
  simp only [jE, ew, Option.bind_some]
  rw [room8 (by simp; omega), cond_true]
  have : ((i : Int) + 1) = ((i + 1 : Nat) : Int) := by omega
  rw [this, e2]
  simp [lateL]
theorem Cp {b : GBk} (h : Len b) (pl : List Int) : rb b pl = some (if benchB b && planB b pl then (lateL b pl 0 b.Boards, 0) else ([], 2)) := by
 unfold rb
 rw [tz h, t0 h]
 cases hB : benchB b with
 | false => rfl
 | true =>
  cases hP : planB b pl with
  | false => rfl
  | true =>
   obtain ⟨l', e⟩ := rk (n3.1 hB) (rj.1 hP).len b.Boards 0 [] [] rfl rfl InvE.nil
   simp only [Option.bind_some, cond_true, Bool.and_self, if_true]
   rw [gp h.bo, cond_true]
   have e' : jE b pl b.Boards 0 [] [] = _ := e
   rw [e']
   simp [lbind]
def waitF (b : GBk) (pl : List Int) (i : Nat) : Int := BB b pl 1 i - FF b pl 1 i
def waitsL (b : GBk) (pl : List Int) : List Int := (List.range b.Strokes.length).map (waitF b pl)
theorem getWaits {b : GBk} {pl : List Int} {i : Int} (h0 : 0 ≤ i) (h1 : i.toNat < b.Strokes.length) : getI (waitsL b pl) i = some (waitF b pl i.toNat) := by
 unfold getI waitsL
 rw [if_pos h0, List.getElem?_map, List.getElem?_range h1]
 rfl
theorem rl {b : GBk} (hb : BOk b) {pl : List Int} (hp : pl.length = b.Strokes.length) : ∀ (p : List GBs) (i : Nat) (acc : List Int) (l : List (GBe × Int)), i + p.length = b.Strokes.length → acc.length = i → InvE b pl l →
  ∃ l', jq b pl p i acc l = some (.go (acc ++ (List.range' i p.length).map (waitF b pl), l'))
 | [], i, acc, l, _, _, _ => ⟨l, by simp [jq]⟩
 | s :: p, i, acc, l, hi, ha, hl => by
  have hns := hb.ns
  simp only [List.length_cons] at hi
  obtain ⟨l1, e1, cI⟩ := tW hb.h hp hl (s := (i : Int)) (by omega) (by omega)
  obtain ⟨l2, e2⟩ := rl hb hp p (i + 1) (acc ++ [waitF b pl i]) l1 (by omega) (by simp [ha]) cI
  refine ⟨l2, ?_⟩
  simp only [jq, e1, Option.bind_some]
  rw [room8 (by simp; omega), cond_true]
  have : ((i : Int) + 1) = ((i + 1 : Nat) : Int) := by omega
  rw [this]
  show jq b pl p ((i + 1 : Nat) : Int) (acc ++ [waitF b pl i]) l1 = _
  rw [e2]
  simp [List.range'_succ]
theorem Cq {b : GBk} (h : Len b) (pl : List Int) : re b pl = some (if benchB b && planB b pl then (waitsL b pl, 0) else ([], 2)) := by
 unfold re
 rw [tz h, t0 h]
 cases hB : benchB b with
 | false => rfl
 | true =>
  cases hP : planB b pl with
  | false => rfl
  | true =>
   obtain ⟨l', e⟩ := rl (n3.1 hB) (rj.1 hP).len b.Strokes 0 [] [] (by simp) rfl InvE.nil
   simp only [Option.bind_some, cond_true, Bool.and_self, if_true]
   rw [gp h.st, cond_true]
   have e' : jq b pl b.Strokes 0 [] [] = _ := e
   rw [e']
   simp [lbind, waitsL, List.range_eq_range']
theorem EE_36 {b : GBk} (hb : BOk b) (pl : List Int) (hr : Int) {s : Nat} (hs : s < b.Strokes.length) : EE b pl hr s ≤ 36 := by
 have h2 := Ez (hd := hF pl) (d := dF b hr) hb.h.nd (m := 6) (fun k => by
  refine ⟨(hb.h.d hr k).1, ?_⟩
  unfold dF
  split
  ·rename_i x hx
   have := (hb.s hx).hr
   split <;> omega
  ·omega) s
 have := hb.ns
 unfold EE
 omega
theorem ai.runRQ {P : Program} {G : Glob} (hm : P.follows .mixedOrders = true) {f : FuncId} {fn : Func} {code : Code} {args : List VV} {r : PRes} (hc : Callable P f) (hf : P.funcs[f]? = some fn) (hb : fn.body = some code)
  (hst : (decide (args.length ≤ fn.ntmps) && codeQ fn.ntmps code) = true) (h : CWp P (G.at (some none)) fn.ntmps code (OpenPostD P G fn (RR r) (RPn r)) { tm := argsTm args, H := fun _ => none, nx := 0, df := [] }) : ai P G f args r := by
 rw [Bool.and_eq_true] at hst
 exact ai.runR hm hc hf hb (by rw [Bool.and_eq_true]; exact ⟨hst.1, iV hst.2⟩) h
def rangeFR (f : FuncId) (cf : al) (jump : Code → RS → ER) (n : Nat) (s : RS) (f0 : FuncId) (first captured : List VV) (ps : Array Tmp) (asg bo : Code) : ER :=
 match cf f0 (first ++ [.yl (s.nx + 1)] ++ captured) ((s.H.put s.nx (some (.deferred (some [])))).put (s.nx + 1) (some (.loopF .ready none (tmL n s.st.tm) ps asg bo f))) (s.nx + 2) with
 | .ret _ H' nx' => match H'.get (s.nx + 1) with
  | some (.loopF .busy _ _ _ _ _ _) => .no (.text 1)
  | some (.loopF _ pe tm ps asg bo fn) => match pe with
   | none => .mk .normal { s with H := H'.put (s.nx + 1) (some (.loopF .exhausted pe tm ps asg bo fn)), nx := nx', df := .coll s.nx :: s.df }
   | some c => jump c { s with H := H'.put (s.nx + 1) (some (.loopF .exhausted pe tm ps asg bo fn)), nx := nx', df := .coll s.nx :: s.df }
  | _ => .no (.text 2)
 | .pan x H' nx' => .mk (.panic x) { s with H := H', nx := nx', df := .coll s.nx :: s.df }
 | .no w => .no w
def GoOk (P : Program) (G : Glob) (f n : Nat) (go : Code → RS → ER) : Prop := ∀ code s e s', go code s = .mk e s' → ∀ Q : VExit → St → Prop, Q e s'.st → VGo P G f n code Q s.st
theorem Mx {P : Program} {G : Glob} {cf : al} (hcf : CallOk P G cf) {f : FuncId} {jump : Code → RS → ER} {n : Nat} (hj : GoOk P G f n jump) {s s' : RS} {e : VExit} {g : Operand} {f0 : FuncId} {first captured : List VV} {ps : Array Tmp} {asg bo : Code}
  (hg : s.st.ρ G g = .fn (.func f0) first captured) (h : rangeFR f cf jump n s f0 first captured ps asg bo = .mk e s') {Q : VExit → St → Prop} (hq : Q e s'.st) : VGo P G f n (.rangeFunc g ps asg bo) Q s.st := by
 refine VGo.range hg ?_
 unfold rangeFR at h
 have eH : ((s.H.put s.nx (some (.deferred (some [])))).put (s.nx + 1) (some (.loopF .ready none (tmL n s.st.tm) ps asg bo f))).get = updH (updH s.st.H s.st.nx (.deferred (some []))) (s.st.nx + 1) (.loopF .ready none (tmL n s.st.tm) ps asg bo f) := by
  rw [jo, jo]; rfl
 split at h
 ·rename_i x H' nx' hc
  have hv := hcf.1 _ _ _ _ _ _ _ hc
  rw [eH] at hv
  refine an.mono hv ?_ ?_
  ·rintro y H1 n1 ⟨_, rfl, rfl⟩
   split at h
   ·cases h
   ·rename_i st pe gB gC gD gE il hnb hl
    have e2 : ({ s with H := H'.put (s.nx + 1) (some (.loopF .exhausted pe gB gC gD gE il)), nx := n1, df := .coll s.nx :: s.df } : RS).st = { s.st with H := updH H'.get (s.st.nx + 1) (.loopF .exhausted pe gB gC gD gE il), nx := n1, df := .coll s.st.nx :: s.st.df } := by
     simp only [RS.st, jo]
    refine ⟨st, pe, gB, gC, gD, gE, il, hl, hnb, ?_⟩
    split at h
    ·cases h
     show Q .normal _
     rw [← e2]; exact hq
    ·rename_i c
     show VGo P _ f n c Q _
     rw [← e2]
     exact hj c _ e s' h Q hq
   ·cases h
  ·intro y H1 n1 h; exact h.elim
 ·rename_i x H' nx' hc
  have hv := hcf.2 _ _ _ _ _ _ _ hc
  rw [eH] at hv
  cases h
  refine an.mono hv ?_ ?_
  ·intro y H1 n1 h; exact h.elim
  ·rintro y H1 n1 ⟨rfl, rfl, rfl⟩
   exact hq
 ·cases h
noncomputable def rangeFF (f : FuncId) (cf : al) (jump : Code → RS → ER) (n : Nat) (s : RS) (ps : Array Tmp) (asg bo : Code) (code : Code) (x : VV) : ER := match x with
 | .fn (.func f0) first captured => rangeFR f cf jump n s f0 first captured ps asg bo
 | _ => .no (.code code)
noncomputable def goF (G : Glob) (f : FuncId) (run : RunR) (cf : al) (n : Nat) (k : Nat) : Code → RS → ER :=
 Nat.rec (motive := fun _ => Code → RS → ER) (fun code s => run none n code s) (fun _ ih code s => match code with
  | .seq a b => thenQ (ih a s) (fun s' => ih b s')
  | .block id a => blockQ (ih a s) id
  | .rangeFunc g ps asg bo => rangeFF f cf (fun c s => run none n c s) n s ps asg bo code (ρQ G s.tm g)
  | code => run none n code s) k
theorem rn {P : Program} {G : Glob} {f n : Nat} {run : RunR} {cf : al} (hrun : RunOk P G run) (hcf : CallOk P G cf) : ∀ (k : Nat), GoOk P G f n (goF G f run cf n k)
 | 0, code, s, e, s', h, Q, hq => VGo.of (hrun none n code s e s' h Q hq)
 | k + 1, code, s, e, s', h, Q, hq => by
  have ih := rn (f := f) (n := n) hrun hcf k
  have dflt : run none n code s = .mk e s' → VGo P G f n code Q s.st := fun h => VGo.of (hrun none n code s e s' h Q hq)
  cases code with
  | seq a b =>
   have h' : thenQ (goF G f run cf n k a s) (fun s' => goF G f run cf n k b s') = .mk e s' := h
   cases hs : goF G f run cf n k a s with
   | no w => rw [hs] at h'; cases h'
   | mk e1 s1 =>
    rw [hs] at h'
    cases e1 with
    | normal => exact VGo.seq (ih a s .normal s1 hs _ (ih b s1 e s' h' Q hq))
    | exit id => cases h'; exact VGo.seq (ih a s _ _ hs _ hq)
    | goto l => cases h'; exact VGo.seq (ih a s _ _ hs _ hq)
    | ret => cases h'; exact VGo.seq (ih a s _ _ hs _ hq)
    | panic x => cases h'; exact VGo.seq (ih a s _ _ hs _ hq)
  | block id a =>
   have h' : blockQ (goF G f run cf n k a s) id = .mk e s' := h
   cases hs : goF G f run cf n k a s with
   | no w => rw [hs] at h'; cases h'
   | mk e1 s1 =>
    rw [hs] at h'
    refine VGo.block (ih a s e1 s1 hs _ ?_)
    cases e1 with
    | normal => cases h'; exact hq
    | goto l => cases h'; exact hq
    | ret => cases h'; exact hq
    | panic x => cases h'; exact hq
    | exit id' =>
     have h'' : Bool.rec (motive := fun _ => ER) (.mk (.exit id') s1) (.mk .normal s1) (Nat.beq id' id) = .mk e s' := h'
     show (if id' = id then _ else _)
     by_cases hid : id' = id
     ·have hb : Nat.beq id' id = true := by simpa using hid
      rw [hb] at h''
      cases h''
      rw [if_pos hid]; exact hq
     ·have hb : Nat.beq id' id = false := by cases hq : Nat.beq id' id with | false => rfl | true => exact absurd (by simpa using hq) hid
      rw [hb] at h''
      cases h''
      rw [if_neg hid]; exact hq
  | rangeFunc g ps asg bo =>
   have h' : rangeFF f cf (fun c s => run none n c s) n s ps asg bo (.rangeFunc g ps asg bo) (ρQ G s.tm g) = .mk e s' := h
   rw [ρQ_eq] at h'
   unfold rangeFF at h'
   split at h'
   ·rename_i f0 first captured hg
    exact Mx hcf (fun c s e s' hs Q hq => VGo.of (hrun none n c s e s' hs Q hq)) hg h' hq
   ·cases h'
  | _ => exact dflt h
noncomputable def enterF (P : Program) (G : Glob) (run : RunR) (cf : al) (k : Nat) (f : FuncId) (fn : Func) (code : Code) (args : List VV) (H : Trie VObj) (nx : Nat) : CR :=
 match goF G f run cf fn.ntmps k code (RS.mk (listV args 0 .nil) H nx []) with
 | .mk .ret s => leaveR P G run fn f s s.df .ret s.H s.nx
 | .mk .normal s => leaveR P G run fn f s s.df .ret s.H s.nx
 | .mk (.panic x) s => leaveR P G run fn f s s.df (.pan x false) s.H s.nx
 | .mk _ _ => .no (.fn f)
 | .no w => .no w
noncomputable def jr (P : Program) (G : Glob) (run : RunR) (cf : al) (k : Nat) : al := fun f args H nx => match textQ P f with
 | some (fn, code) => Bool.rec (motive := fun _ => CR) (.no (.fn f)) (enterF P G run cf k f fn code args H nx) (Nat.ble args.length fn.ntmps)
 | none => .no (.fn f)
theorem Cr {P : Program} {f : FuncId} {fn : Func} {code : Code} (h : textQ P f = some (fn, code)) : P.funcs[f]? = some fn ∧ fn.body = some code ∧ nameQ fn = true := by
 unfold textQ at h
 split at h
 ·cases h
 ·rename_i kT hf
  split at h
  ·cases h
  ·rename_i c1 hb
   split at h
   ·rename_i hn
    cases h
    exact ⟨hf, hb, hn⟩
   ·cases h
theorem GJ {P : Program} {G : Glob} {run : RunR} {cf : al} {k : Nat} (hrun : RunOk P G run) (hcf : CallOk P G cf) {f : FuncId} {args : List VV} {H : Trie VObj} {nx : Nat} {R Rp : VV → (Nat → Option VObj) → Nat → Prop}
  (h1 : ∀ x H' nx', jr P (G.at (some none)) run cf k f args H nx = .ret x H' nx' → R x H'.get nx') (h2 : ∀ x H' nx', jr P (G.at (some none)) run cf k f args H nx = .pan x H' nx' → Rp x H'.get nx') (h3 : ∀ w, jr P (G.at (some none)) run cf k f args H nx ≠ .no w) : an P G f args H.get nx R Rp := by
 unfold jr at h1 h2 h3
 cases ht : textQ P f with
 | none => exact absurd (by simp only [ht]) (h3 (.fn f))
 | some p =>
  obtain ⟨fn, code⟩ := p
  obtain ⟨hf, hb, hn⟩ := Cr ht
  cases hc : Nat.ble args.length fn.ntmps with
  | false => exact absurd (by simp only [ht, hc]) (h3 (.fn f))
  | true =>
   simp only [ht, hc] at h1 h2 h3
   simp only [Nat.ble_eq] at hc
   unfold enterF at h1 h2 h3
   rw [uX] at h1 h2 h3
   cases hr : goF (G.at (some none)) f run cf fn.ntmps k code (RS.mk (Trie.ofList 0 args .nil) H nx []) with
   | no w => exact absurd (by rw [hr]) (h3 w)
   | mk e s =>
    rw [hr] at h1 h2 h3
    have body : OpenPostD P G fn R Rp e s.st → an P G f args H.get nx R Rp := by
     intro hq
     have := rn (G := G.at (some none)) (f := f) (n := fn.ntmps) hrun hcf k code _ e s hr _ hq
     rw [argsR] at this
     exact an.of_bodyGo (Cs hf hb hn) hf hb hc this
    cases e with
    | ret => exact body (lv hrun s.df .ret s.H s.nx h1 h2 h3)
    | normal => exact body (lv hrun s.df .ret s.H s.nx h1 h2 h3)
    | panic x => exact body (lv hrun s.df (.pan x false) s.H s.nx h1 h2 h3)
    | exit id => exact absurd rfl (h3 (.fn f))
    | goto l => exact absurd rfl (h3 (.fn f))
noncomputable def cfF (P : Program) (G : Glob) (run : RunR) (fs : List Nat) (k : Nat) : al := fun f args H nx => match fs.elem f with
 | true => jr P G run (cfQ P G run) k f args H nx
 | false => cfQ P G run f args H nx
theorem rp {P : Program} {G : Glob} {run : RunR} {fs : List Nat} {k : Nat} (hrun : RunOk P G run) : CallOk P G (cfF P (G.at (some none)) run fs k) := by
 have hcf : CallOk P G (cfQ P (G.at (some none)) run) := by rw [Br]; exact My hrun
 constructor
 ·intro f args H nx x H' nx' h
  unfold cfF at h
  split at h
  ·exact GJ hrun hcf (fun y H1 n1 e => by rw [h] at e; cases e; exact ⟨rfl, rfl, rfl⟩) (fun y H1 n1 e => by rw [h] at e; cases e) (fun w e => by rw [h] at e; cases e)
  ·exact hcf.1 _ _ _ _ _ _ _ h
 ·intro f args H nx x H' nx' h
  unfold cfF at h
  split at h
  ·exact GJ hrun hcf (fun y H1 n1 e => by rw [h] at e; cases e) (fun y H1 n1 e => by rw [h] at e; cases e; exact ⟨rfl, rfl, rfl⟩) (fun w e => by rw [h] at e; cases e)
  ·exact hcf.2 _ _ _ _ _ _ _ h
noncomputable def runF (P : Program) (G : Glob) (fs : List Nat) (tab : KTab) (k : Nat) : RunR :=
 Nat.rec (motive := fun _ => RunR) (fun _ _ _ _ => .no .fuel) (fun k ih ro n code s => bodyA k ih (cfT tab (cfF P (G.at (some none)) ih fs k)) ro n s (ccB P G code)) k
theorem GK {P : Program} {G : Glob} {fs : List Nat} {tab : KTab} (hm : P.follows .mixedOrders = true) (ht : KTabOk P G tab) : ∀ (k : Nat), RunOk P G (runF P G fs tab k)
 | 0, _, _, _, _, _, _, h => by cases h
 | k + 1, ro, n, code, s, e, s', h => by
  intro Q hq
  have ih := GK (G := G) (fs := fs) hm ht k
  exact Mz hm ih (Ct ht (rp ih)) h hq
noncomputable def closedF (P : Program) (G : Glob) (fs : List Nat) (tab : KTab) (k : Nat) (f : FuncId) (args : List VV) : PRes ⊕ Why := pureQ (cfF P (G.at (some none)) (runF P G fs tab k) fs k) f args
theorem ai.closedF {P : Program} {G : Glob} {fs : List Nat} {tab : KTab} (hm : P.follows .mixedOrders = true) (ht : KTabOk P G tab) (k : Nat) {f : FuncId} {args : List VV} {r : PRes} (h : closedF P G fs tab k f args = .inl r) : ai P G f args r := by
 unfold Go.V.closedF at h
 rw [Bp] at h
 exact rq (rp (GK hm ht k)) h
theorem hmix : Tryz.prog.follows .mixedOrders = true := by kernel_rfl
def kB : VV := (VV.agg [(VV.lit (Value.int IntKind.i64 (Int.ofNat 1))), (VV.sl [(VV.lit (Value.int IntKind.i64 (Int.ofNat 5))), (VV.lit (Value.int IntKind.i64 (Int.ofNat 6)))] 2 Bool.false), (VV.sl [(VV.lit (Value.int IntKind.i64 (Int.ofNat 1))), (VV.lit (Value.bool Bool.true)), (VV.lit (Value.int IntKind.i64 (Int.ofNat 2))), (VV.lit (Value.int IntKind.i64 (Int.ofNat 2))), (VV.lit (Value.slice Option.none 0 0)), (VV.lit (Value.int IntKind.i64 (Int.ofNat 0))), (VV.lit (Value.bool Bool.false)), (VV.lit (Value.int IntKind.i64 (Int.ofNat 2))), (VV.lit (Value.int IntKind.i64 (Int.ofNat 3))), (VV.lit (Value.slice Option.none 0 0)), (VV.lit (Value.int IntKind.i64 (Int.ofNat 0))), (VV.lit (Value.bool Bool.true)), (VV.lit (Value.int IntKind.i64 (Int.ofNat 1))), (VV.lit (Value.int IntKind.i64 (Int.ofNat 2))), (VV.sl [(VV.lit (Value.int IntKind.i64 (Int.ofNat 1)))] 1 Bool.false), (VV.lit (Value.int IntKind.i64 (Int.ofNat 1))), (VV.lit (Value.bool Bool.false)), (VV.lit (Value.int IntKind.i64 (Int.ofNat 1))), (VV.lit (Value.int IntKind.i64 (Int.ofNat 3))), (VV.sl [(VV.lit (Value.int IntKind.i64 (Int.ofNat 0)))] 1 Bool.false)] 4 Bool.false)])
def kEnds : VV := (VV.tup [(VV.sl [(VV.lit (Value.int IntKind.i64 (Int.ofNat 2))), (VV.lit (Value.int IntKind.i64 (Int.ofNat 2))), (VV.lit (Value.int IntKind.i64 (Int.ofNat 2))), (VV.lit (Value.int IntKind.i64 (Int.ofNat 3))), (VV.lit (Value.int IntKind.i64 (Int.ofNat 3))), (VV.lit (Value.int IntKind.i64 (Int.ofNat 5))), (VV.lit (Value.int IntKind.i64 (Int.ofNat 3))), (VV.lit (Value.int IntKind.i64 (Int.ofNat 6)))] 4 Bool.false), (VV.lit (Value.int IntKind.i64 (Int.ofNat 0)))])
def kDone : VV := (VV.tup [(VV.agg [(VV.lit (Value.int IntKind.i64 (Int.ofNat 3))), (VV.lit (Value.int IntKind.i64 (Int.ofNat 5)))]), (VV.lit (Value.int IntKind.i64 (Int.ofNat 0)))])
def kLate : VV := (VV.tup [(VV.sl [(VV.lit (Value.int IntKind.i64 (Int.ofNat 1))), (VV.lit (Value.int IntKind.i64 (Int.ofNat 2)))] 2 Bool.false), (VV.lit (Value.int IntKind.i64 (Int.ofNat 0)))])
def kWaits : VV := (VV.tup [(VV.sl [(VV.lit (Value.int IntKind.i64 (Int.ofNat 0))), (VV.lit (Value.int IntKind.i64 (Int.ofNat 0))), (VV.lit (Value.int IntKind.i64 (Int.ofNat 1))), (VV.lit (Value.int IntKind.i64 (Int.ofNat 0)))] 4 Bool.false), (VV.lit (Value.int IntKind.i64 (Int.ofNat 0)))])
def kChain : VV := (VV.tup [(VV.sl [(VV.lit (Value.int IntKind.i64 (Int.ofNat 1))), (VV.lit (Value.int IntKind.i64 (Int.ofNat 3)))] 2 Bool.false), (VV.lit (Value.int IntKind.i64 (Int.ofNat 0)))])
def kSpare : VV := (VV.tup [(VV.lit (Value.int IntKind.i64 (Int.ofNat 1))), (VV.lit (Value.int IntKind.i64 (Int.ofNat 0)))])
def kBest : VV := (VV.tup [(VV.sl [(VV.lit (Value.int IntKind.i64 (Int.ofNat 0))), (VV.lit (Value.int IntKind.i64 (Int.ofNat 1))), (VV.lit (Value.int IntKind.i64 (Int.ofNat 0))), (VV.lit (Value.int IntKind.i64 (Int.ofNat 1)))] 4 Bool.false), (VV.lit (Value.int IntKind.i64 (Int.ofNat 6))), (VV.lit (Value.int IntKind.i64 (Int.ofNat 0)))])
def kCount : VV := (VV.tup [(VV.lit (Value.int IntKind.i64 (Int.ofNat 1))), (VV.lit (Value.int IntKind.i64 (Int.ofNat 0)))])
def kWho : VV := (VV.tup [(VV.sl [(VV.lit (Value.int IntKind.i64 (Int.ofNat 1)))] 1 Bool.false), (VV.lit (Value.int IntKind.i64 (Int.ofNat 0)))])
def kGive : VV := (VV.tup [(VV.lit (Value.int IntKind.i64 (Int.ofNat 1))), (VV.lit (Value.int IntKind.i64 (Int.ofNat 8))), (VV.lit (Value.int IntKind.i64 (Int.ofNat 0)))])
def kMore : VV := (VV.tup [(VV.lit (Value.int IntKind.i64 (Int.ofNat 5))), (VV.lit (Value.int IntKind.i64 (Int.ofNat 0)))])
def kLeast : VV := (VV.tup [(VV.lit (Value.int IntKind.i64 (Int.ofNat 2))), (VV.lit (Value.int IntKind.i64 (Int.ofNat 0)))])
def kRead : VV := (VV.tup [(VV.agg [(VV.lit (Value.int IntKind.i64 (Int.ofNat 0))), (VV.sl [(VV.lit (Value.int IntKind.i64 (Int.ofNat 0)))] 1 Bool.false), (VV.sl [(VV.lit (Value.int IntKind.i64 (Int.ofNat 0))), (VV.lit (Value.bool Bool.false)), (VV.lit (Value.int IntKind.i64 (Int.ofNat 1))), (VV.lit (Value.int IntKind.i64 (Int.ofNat 1))), (VV.lit (Value.slice Option.none 0 0))] 1 Bool.false)]), (VV.lit (Value.int IntKind.i64 (Int.ofNat 0)))])
theorem pB : ai Tryz.prog G0 64 [] (.tree kB) := ai.closedF (fs := []) (tab := []) hmix trivial 1000 (by kernel_rfl)
theorem pEnds : ai Tryz.prog G0 22 [kB, .sl [.lit (.int .i64 (0)), .lit (.int .i64 (1)), .lit (.int .i64 (0)), .lit (.int .i64 (1))] 4 false] (.tree kEnds) := ai.closedF (fs := []) (tab := []) hmix trivial 1000 (by kernel_rfl)
theorem pDone : ai Tryz.prog G0 23 [kB, .sl [.lit (.int .i64 (0)), .lit (.int .i64 (1)), .lit (.int .i64 (0)), .lit (.int .i64 (1))] 4 false, .lit (.int .i64 (0))] (.tree kDone) := ai.closedF (fs := []) (tab := []) hmix trivial 1000 (by kernel_rfl)
theorem pLate : ai Tryz.prog G0 36 [kB, .sl [.lit (.int .i64 (0)), .lit (.int .i64 (1)), .lit (.int .i64 (0)), .lit (.int .i64 (0))] 4 false] (.tree kLate) := ai.closedF (fs := []) (tab := []) hmix trivial 1000 (by kernel_rfl)
theorem pWaits : ai Tryz.prog G0 37 [kB, .sl [.lit (.int .i64 (0)), .lit (.int .i64 (1)), .lit (.int .i64 (0)), .lit (.int .i64 (1))] 4 false] (.tree kWaits) := ai.closedF (fs := []) (tab := []) hmix trivial 1000 (by kernel_rfl)
theorem pChain : ai Tryz.prog G0 42 [kB, .sl [.lit (.int .i64 (0)), .lit (.int .i64 (1)), .lit (.int .i64 (0)), .lit (.int .i64 (1))] 4 false] (.tree kChain) := ai.closedF (fs := []) (tab := []) hmix trivial 1000 (by kernel_rfl)
theorem pSpare : ai Tryz.prog G0 43 [kB, .sl [.lit (.int .i64 (0)), .lit (.int .i64 (1)), .lit (.int .i64 (0)), .lit (.int .i64 (1))] 4 false, .lit (.int .i64 (0))] (.tree kSpare) := ai.closedF (fs := []) (tab := []) hmix trivial 1000 (by kernel_rfl)
theorem pBest : ai Tryz.prog G0 51 [kB] (.tree kBest) := ai.closedF (fs := []) (tab := []) hmix trivial 1000 (by kernel_rfl)
theorem pCount : ai Tryz.prog G0 52 [kB] (.tree kCount) := ai.closedF (fs := []) (tab := []) hmix trivial 1000 (by kernel_rfl)
theorem pWho : ai Tryz.prog G0 55 [kB, .lit (.int .i64 (1))] (.tree kWho) := ai.closedF (fs := []) (tab := []) hmix trivial 1000 (by kernel_rfl)
theorem pGive : ai Tryz.prog G0 56 [kB, .sl [.lit (.int .i64 (0)), .lit (.int .i64 (0)), .lit (.int .i64 (0)), .lit (.int .i64 (0))] 4 false, .lit (.int .i64 (1))] (.tree kGive) := ai.closedF (fs := []) (tab := []) hmix trivial 1000 (by kernel_rfl)
theorem pMore : ai Tryz.prog G0 60 [kB] (.tree kMore) := ai.closedF (fs := []) (tab := []) hmix trivial 1000 (by kernel_rfl)
theorem pLeast : ai Tryz.prog G0 61 [kB, .lit (.int .i64 (5))] (.tree kLeast) := ai.closedF (fs := []) (tab := []) hmix trivial 1000 (by kernel_rfl)
theorem pRead : ai Tryz.prog G0 65 [.lit (.string ⟨⟨[98, 101, 110, 99, 104, 32, 48, 10, 98, 111, 97, 114, 100, 32, 48, 10, 115, 116, 114, 97, 105, 103, 104, 116, 32, 48, 32, 49, 32, 49, 32, 45, 10, 101, 110, 100, 32, 49, 55, 53, 10]⟩⟩)] (.tree kRead) := ai.closedF (fs := []) (tab := []) hmix trivial 1000 (by kernel_rfl)
def kTab : KTab := [
  (64, [], kB),
  (22, [kB, .sl [.lit (.int .i64 (0)), .lit (.int .i64 (1)), .lit (.int .i64 (0)), .lit (.int .i64 (1))] 4 false], kEnds),
  (23, [kB, .sl [.lit (.int .i64 (0)), .lit (.int .i64 (1)), .lit (.int .i64 (0)), .lit (.int .i64 (1))] 4 false, .lit (.int .i64 (0))], kDone),
  (36, [kB, .sl [.lit (.int .i64 (0)), .lit (.int .i64 (1)), .lit (.int .i64 (0)), .lit (.int .i64 (0))] 4 false], kLate),
  (37, [kB, .sl [.lit (.int .i64 (0)), .lit (.int .i64 (1)), .lit (.int .i64 (0)), .lit (.int .i64 (1))] 4 false], kWaits),
  (42, [kB, .sl [.lit (.int .i64 (0)), .lit (.int .i64 (1)), .lit (.int .i64 (0)), .lit (.int .i64 (1))] 4 false], kChain),
  (43, [kB, .sl [.lit (.int .i64 (0)), .lit (.int .i64 (1)), .lit (.int .i64 (0)), .lit (.int .i64 (1))] 4 false, .lit (.int .i64 (0))], kSpare),
  (51, [kB], kBest),
  (52, [kB], kCount),
  (55, [kB, .lit (.int .i64 (1))], kWho),
  (56, [kB, .sl [.lit (.int .i64 (0)), .lit (.int .i64 (0)), .lit (.int .i64 (0)), .lit (.int .i64 (0))] 4 false, .lit (.int .i64 (1))], kGive),
  (60, [kB], kMore),
  (61, [kB, .lit (.int .i64 (5))], kLeast),
  (65, [.lit (.string ⟨⟨[98, 101, 110, 99, 104, 32, 48, 10, 98, 111, 97, 114, 100, 32, 48, 10, 115, 116, 114, 97, 105, 103, 104, 116, 32, 48, 32, 49, 32, 49, 32, 45, 10, 101, 110, 100, 32, 49, 55, 53, 10]⟩⟩)], kRead)]
theorem kTabOk : KTabOk Tryz.prog G0 kTab := ⟨⟨by kernel_rfl, pB⟩, ⟨⟨by kernel_rfl, pEnds⟩, ⟨⟨by kernel_rfl, pDone⟩, ⟨⟨by kernel_rfl, pLate⟩, ⟨⟨by kernel_rfl, pWaits⟩, ⟨⟨by kernel_rfl, pChain⟩, ⟨⟨by kernel_rfl, pSpare⟩, ⟨⟨by kernel_rfl, pBest⟩, ⟨⟨by kernel_rfl, pCount⟩, ⟨⟨by kernel_rfl, pWho⟩, ⟨⟨by kernel_rfl, pGive⟩, ⟨⟨by kernel_rfl, pMore⟩, ⟨⟨by kernel_rfl, pLeast⟩, ⟨⟨by kernel_rfl, pRead⟩, trivial⟩⟩⟩⟩⟩⟩⟩⟩⟩⟩⟩⟩⟩⟩
theorem pKnown : ai Tryz.prog G0 20 [] (.tree (.lit (.bool true))) := ai.closedF (fs := []) hmix kTabOk 1000 (by kernel_rfl)
#print axioms pKnown
theorem mO : ai Tryz.prog G0 20 [] (.tree (.lit (.bool true))) := pKnown
end Go.V
end
