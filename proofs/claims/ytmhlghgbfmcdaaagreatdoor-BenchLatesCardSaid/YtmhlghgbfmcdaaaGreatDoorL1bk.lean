/- Part of a proof. -/
import Derived.Test.YtmhlghgbfmcdaaaGreatDoorL1bj
set_option linter.all false
set_option maxRecDepth 4000
set_option maxHeartbeats 40000000
section
namespace Go.V
open Go Go.Proofs IntKind
def nI (rc : GBk → (List Int) → Int → Int → (List (GBe × Int)) → Option ((Int) × List (GBe × Int))) (xb : GBk) (xp : List Int) (xh : Int) : List Int → Int → (List Int) → (List (GBe × Int)) → Option (LOut ((List Int) × List (GBe × Int)) ((List Int) × (List (GBe × Int))))
 | [], dh, bt, bx => some (.go (bt, bx))
 | e0 :: p0, dh, bt, bx => Option.bind (rc xb xp e0 xh bx) (fun r2 => cond (aC 8 (List.length (bt ++ [r2.1]))) (nI rc xb xp xh p0 (dh + 1) (bt ++ [r2.1]) r2.2) none)
def sB (rc : GBk → (List Int) → Int → Int → (List (GBe × Int)) → Option ((Int) × List (GBe × Int))) (xb : GBk) (xp : List Int) (xss : List Int) (xh : Int) (l0 : List (GBe × Int)) : Option ((List Int) × List (GBe × Int)) := cond (au xss) (lbind (nI rc xb xp xh xss 0 ([] : List Int) l0) (fun r4 => some r4) (fun c3 => some (c3.1, c3.2)) (fun _ _ => none)) none
theorem Ma (rc : GBk → (List Int) → Int → Int → (List (GBe × Int)) → Option ((Int) × List (GBe × Int))) (rc_ok : ∀ (xb : GBk) (xp : List Int) (xs : Int) (xh : Int) (l0 : List (GBe × Int)) (R : (Int) × List (GBe × Int)), rc xb xp xs xh l0 = some R → VUpd Tryz.prog G0 118 (fun β => [.agg [.lit (.int .i64 xb.Apprentices), .sl (aa eI xb.Boards) (List.length xb.Boards) false, .sl (aa cGBs xb.Strokes) (List.length xb.Strokes) false, .sl (aa eI xp) (List.length xp) false, .mp β], .lit (.int .i64 xs), .lit (.int .i64 xh)]) (encM aP cI l0) (encM aP cI R.2) (fun _ => .lit (.int .i64 R.1))) (xb : GBk) (xp : List Int) (xss : List Int) (xh : Int) (l0 : List (GBe × Int)) (R : (List Int) × List (GBe × Int)) (h : sB rc xb xp xss xh l0 = some R) : VUpd Tryz.prog G0 106 (fun β => [.agg [.lit (.int .i64 xb.Apprentices), .sl (aa eI xb.Boards) (List.length xb.Boards) false, .sl (aa cGBs xb.Strokes) (List.length xb.Strokes) false, .sl (aa eI xp) (List.length xp) false, .mp β], .sl (aa eI xss) (List.length xss) false, .lit (.int .i64 xh)]) (encM aP cI l0) (encM aP cI R.2) (fun _ => .sl (aa eI R.1) (List.length R.1) false) := by
 intro bj nx hlt
 have aQ := gF (β := bj) (nx := nx) hlt
 refine ar.run mixed Tryz.call106 Tryz.func106 rfl (by simp [Tryz.ntmps106]; kernel_rfl) ?_
 obtain ⟨KF, h, kF, kN⟩ := cO h
 simp only [sB] at h
 cases g6 : (au xss)
 ·simp only [g6, hs] at h
  exact absurd h kN
 simp only [g6, hs] at h
 simp only [vz, mq, mqm, vsi, tyf, mqt, aQ, g6, nm, seval]
 obtain ⟨K5, h, pN, ml, xk, kM⟩ := eN h kN
 obtain ⟨f5, ng, h⟩ := call4 h
 obtain ⟨I5, gC⟩ : ∃ I : Nat → St → Prop, I = (fun m st => ∃ (p5 : List Int) (cW : Int) (cb : List Int) (dM : List (GBe × Int)) (nL : VV), m = List.length p5 ∧ 0 ≤ cW ∧ List.drop (Int.toNat cW) xss = p5 ∧ st.df = [] ∧ nx + 6 ≤ st.nx ∧ st.H bj = some (.map (encM aP cI dM)) ∧ st.H nx = some (.cells (some 92) ((cGBk xb) ++ [.sl (aa eI xp) (List.length xp) false] ++ [.mp bj])) ∧ st.tm 2 = .lit (.int .i64 xh) ∧ st.tm 3 = .ptr nx 0 ∧ st.tm 10 = .sl (aa eI xss) (List.length xss) false ∧ st.tm 11 = .lit (.int .i64 (List.length xss : Int)) ∧ st.tm 7 = nL ∧ st.tm 12 = .lit (.int .i64 cW) ∧ ((∃ (β : Nat) (el : Option TypeId), nL = .ref β 0 (List.length cb) 1 (List.length cb) ∧ β < st.nx ∧ β ≠ bj ∧ β ≠ nx ∧ st.H β = some (.cells el (aa eI cb))) ∨ (nL = .lit (.slice none 0 0) ∧ cb = [])) ∧ K5 (f5 p5 cW cb dM)) := ⟨_, rfl⟩
 refine loopK mixed (by kernel_rfl) I5 (List.length xss) (by rw [gC]; refine ⟨xss, 0, ([] : List Int), l0, .lit (.slice none 0 0), rfl, Int.le_refl _, rfl, rfl, (show nx + 6 ≤ nx + 6 by omega), ?_, ?_, ?_, ?_, ?_, ?_, ?_, ?_, Or.inr ⟨rfl, rfl⟩, h⟩ <;> first | (simp only [ua, bP, aQ, nm, seval] <;> rfl) | rfl) ?_
 rintro m ⟨tm, H, gD, df⟩ hinv
 rw [gC] at hinv
 obtain ⟨p5, cW, cb, dM, nL, rfl, cN, dC, hdf, nh, H7, H8, e9, aV, aZ, bh, aW, bu, oS, h⟩ := hinv
 simp only at hdf nh H7 H8 e9 aV aZ bh aW bu oS
 have jn := nq (a := nx) (m := 6) (b := gD) (by omega)
 have bD := gF (β := bj) (nx := gD) (by omega)
 subst hdf ng
 rcases oS with ⟨vY, oT, rfl, qY, lQ, qZ, jo⟩ | ⟨rfl, rfl⟩
 ·have jq := gF qY
  have f7 := ne_f lQ
  have hX := ne_f qZ
  cases p5 with
  | nil =>
   have ke : (decide (cW < (List.length xss : Int))) = false := dR cN dC
   simp only [nI, hs, reduceCtorEq] at h
   replace h := ml _ h
   try dsimp only at h
   try simp only [hs] at h
   try simp only [vz, mq, mqm, vsi, tyf, mqt, aQ, g6, jn, bD, e9, aV, aZ, bh, aW, bu, H7, H8, jq, jo, f7, hX, ke, nm, seval]
   refine cL (x := (.ref vY 0 (List.length cb) 1 (List.length cb))) (by first | (simp only [Tryz.results106, resV, resL, resV1, cF, cE, uw, cr, tyf, mqt, aQ, g6, jn, bD, H7, H8, jq, jo, f7, hX, ke, nm, seval] <;> rfl) | rfl) ?_
   obtain rfl := kF _ h
   refine ⟨(by first | rfl | assumption | (simp only [aS, aT, aQ, jn, bD, H7, H8, jq, jo, f7, hX, nm, seval] <;> rfl)), ?_⟩
   exact zE (by first | rfl | assumption | (simp only [aS, aT, aQ, jn, bD, H7, H8, jq, jo, f7, hX, nm, seval] <;> rfl)) (by first | rfl | assumption | (simp only [aS, aT, aQ, jn, bD, H7, H8, jq, jo, f7, hX, nm, seval] <;> rfl)) eI_ok (fun _ => rfl)
  | cons e5 p5 =>
   have ra : (decide (cW < (List.length xss : Int))) = true := dQ cN dC
   have nM := cA cN dC
   have lC := dN cN dC g6
   simp only [nI, hs, reduceCtorEq] at h
   obtain ⟨iV, jO, h⟩ := optI h kM
   try simp only [hs] at h
   simp only [vz, mq, mqm, vsi, tyf, mqt, aQ, g6, jn, bD, e9, aV, aZ, bh, aW, bu, H7, H8, jq, jo, f7, hX, ra, (aj nM), lC, nm, seval]
   refine kupd (VUpd.at (β := bj) (y := (fun _ => .lit (.int .i64 iV.1))) (rc_ok _ _ _ _ _ _ jO) (by omega) (by first | rfl | assumption | (simp only [aS, aT, aQ, jn, bD, H7, H8, jq, jo, f7, hX, nm, seval] <;> rfl)) (by first | rfl | (simp only [nrm, aI, @eh, @gA] <;> rfl)) (g9 (fun _ => rfl) _)) ?_
   refine gW (fun tm => tm 2 = .lit (.int .i64 xh) ∧ tm 3 = .ptr nx 0 ∧ tm 10 = .sl (aa eI xss) (List.length xss) false ∧ tm 11 = .lit (.int .i64 (List.length xss : Int)) ∧ tm 12 = .lit (.int .i64 cW) ∧ tm 16 = .ref vY 0 (List.length cb) 1 (List.length cb) ∧ tm 20 = .lit (.int .i64 iV.1) ∧ True) (by refine ⟨e9, aV, aZ, bh, bu, ?_, ?_, trivial⟩ <;> first | (simp only [ua, bP, aQ, jn, bD, e9, aV, aZ, bh, aW, bu, H7, H8, jq, jo, f7, hX, ra, lC, nm, seval] <;> rfl) | rfl) ?_
   rintro tm ⟨bp, dx, dE, cQ, cG, ep, ez, _⟩
   have fU := And.intro aQ (And.intro g6 (And.intro jn (And.intro bD (And.intro H7 (And.intro H8 (And.intro jq (And.intro jo (And.intro f7 (And.intro hX (And.intro ra lC))))))))))
   cases dP : (aC 8 (List.length (cb ++ [iV.1])))
   ·simp only [dP, hs] at h
    exact absurd h kM
   simp only [dP, hs] at h
   simp only [vz, mq, mqm, vsi, tyf, mqt, fU, (aj nM), bp, dx, dE, cQ, cG, ep, ez, dP, nm, seval]
   refine k_app (w := 1) (enc := eI) (xs := cb) (ys := ([iV.1])) (el := oT) (ff := (some 3)) (fun _ => rfl) eP ei Tryz.underlying22 (by first | rfl | assumption | (simp only [aS, aT, ca, fU, nm, seval] <;> rfl) | (simp only [aS, aT, cP, db, cY, cZ, tyf, mqt, fU, (aj nM), bp, dx, dE, cQ, cG, ep, ez, dP, nm, seval]; done)) (by first | rfl | assumption | (simp only [aS, aT, ca, fU, nm, seval] <;> rfl) | (simp only [aS, aT, cP, db, cY, cZ, tyf, mqt, fU, (aj nM), bp, dx, dE, cQ, cG, ep, ez, dP, nm, seval]; done)) (Nat.zero_lt_succ _) dP ?_
   simp only [vz, mq, mqm, vsi, tyf, mqt, fU, (aj nM), bp, dx, dE, cQ, cG, ep, ez, dP, nm, seval]
   exact ⟨List.length p5, Nat.lt_succ_self _, by rw [gC]; refine ⟨p5, cW + 1, (cb ++ [iV.1]), iV.2, .ref (gD + 10) 0 (List.length (cb ++ [iV.1])) 1 (List.length (cb ++ [iV.1])), rfl, Int.le_trans cN (Int.le_add_one (Int.le_refl _)), bJ cN dC, rfl, (show nx + 6 ≤ gD + 14 by omega), ?_, ?_, bp, dx, dE, cQ, ?_, ?_, Or.inl ⟨gD + 10, (sameEl oT 3), rfl, (by first | omega | (simp only [nm, seval]; done) | (simp only [nm, seval]; omega)), (by first | omega | (intro hh; simp only [fU, reduceCtorEq] at hh)), (by first | omega | (intro hh; simp only [fU, reduceCtorEq] at hh)), ?_⟩, (by first | exact h | (simp only [fU]; exact h))⟩ <;> first | (simp only [ua, bP, fU, bp, dx, dE, cQ, cG, ep, ez, nm, seval] <;> rfl) | rfl⟩
 ·cases p5 with
  | nil =>
   have sI : (decide (cW < (List.length xss : Int))) = false := dR cN dC
   simp only [nI, hs, reduceCtorEq] at h
   replace h := ml _ h
   try dsimp only at h
   try simp only [hs] at h
   try simp only [vz, mq, mqm, vsi, tyf, mqt, aQ, g6, jn, bD, e9, aV, aZ, bh, aW, bu, H7, H8, sI, nm, seval]
   refine cL (x := (.lit (.slice none 0 0))) (by first | (simp only [Tryz.results106, resV, resL, resV1, cF, cE, uw, cr, tyf, mqt, aQ, g6, jn, bD, H7, H8, sI, nm, seval] <;> rfl) | rfl) ?_
   obtain rfl := kF _ h
   refine ⟨(by first | rfl | assumption | (simp only [aS, aT, aQ, jn, bD, H7, H8, nm, seval] <;> rfl)), ?_⟩
   exact sq_of zC
  | cons e5 p5 =>
   have j0 : (decide (cW < (List.length xss : Int))) = true := dQ cN dC
   have ye := cA cN dC
   have Gv := dN cN dC g6
   simp only [nI, hs, reduceCtorEq] at h
   obtain ⟨oU, oV, h⟩ := optI h kM
   try simp only [hs] at h
   simp only [vz, mq, mqm, vsi, tyf, mqt, aQ, g6, jn, bD, e9, aV, aZ, bh, aW, bu, H7, H8, j0, (aj ye), Gv, nm, seval]
   refine kupd (VUpd.at (β := bj) (y := (fun _ => .lit (.int .i64 oU.1))) (rc_ok _ _ _ _ _ _ oV) (by omega) (by first | rfl | assumption | (simp only [aS, aT, aQ, jn, bD, H7, H8, nm, seval] <;> rfl)) (by first | rfl | (simp only [nrm, aI, @eh, @gA] <;> rfl)) (g9 (fun _ => rfl) _)) ?_
   refine gW (fun tm => tm 2 = .lit (.int .i64 xh) ∧ tm 3 = .ptr nx 0 ∧ tm 10 = .sl (aa eI xss) (List.length xss) false ∧ tm 11 = .lit (.int .i64 (List.length xss : Int)) ∧ tm 12 = .lit (.int .i64 cW) ∧ tm 16 = .lit (.slice none 0 0) ∧ tm 20 = .lit (.int .i64 oU.1) ∧ True) (by refine ⟨e9, aV, aZ, bh, bu, ?_, ?_, trivial⟩ <;> first | (simp only [ua, bP, aQ, jn, bD, e9, aV, aZ, bh, aW, bu, H7, H8, j0, Gv, nm, seval] <;> rfl) | rfl) ?_
   rintro tm ⟨bz, b4, bG, cy, eT, dT, dq, _⟩
   have oW := And.intro aQ (And.intro g6 (And.intro jn (And.intro bD (And.intro H7 (And.intro H8 (And.intro j0 Gv))))))
   cases sJ : (aC 8 (List.length (([] : List Int) ++ [oU.1])))
   ·simp only [sJ, hs] at h
    exact absurd h kM
   simp only [sJ, hs] at h
   simp only [vz, mq, mqm, vsi, tyf, mqt, oW, (aj ye), bz, b4, bG, cy, eT, dT, dq, sJ, nm, seval]
   refine kJ (w := 1) (enc := eI) (ys := ([oU.1])) (ff := (some 3)) (fun _ => rfl) eP ei Tryz.underlying22 (by first | rfl | assumption | (simp only [aS, aT, ca, oW, nm, seval] <;> rfl) | (simp only [aS, aT, cP, db, cY, cZ, tyf, mqt, oW, (aj ye), bz, b4, bG, cy, eT, dT, dq, sJ, nm, seval]; done)) (Nat.zero_lt_succ _) sJ ?_
   simp only [vz, mq, mqm, vsi, tyf, mqt, oW, (aj ye), bz, b4, bG, cy, eT, dT, dq, sJ, nm, seval]
   exact ⟨List.length p5, Nat.lt_succ_self _, by rw [gC]; refine ⟨p5, cW + 1, (([] : List Int) ++ [oU.1]), oU.2, .ref (gD + 10) 0 (List.length (([] : List Int) ++ [oU.1])) 1 (List.length (([] : List Int) ++ [oU.1])), rfl, Int.le_trans cN (Int.le_add_one (Int.le_refl _)), bJ cN dC, rfl, (show nx + 6 ≤ gD + 14 by omega), ?_, ?_, bz, b4, bG, cy, ?_, ?_, Or.inl ⟨gD + 10, (some 3), rfl, (by first | omega | (simp only [nm, seval]; done) | (simp only [nm, seval]; omega)), (by first | omega | (intro hh; simp only [oW, reduceCtorEq] at hh)), (by first | omega | (intro hh; simp only [oW, reduceCtorEq] at hh)), ?_⟩, (by first | exact h | (simp only [oW]; exact h))⟩ <;> first | (simp only [ua, bP, oW, bz, b4, bG, cy, eT, dT, dq, nm, seval] <;> rfl) | rfl⟩
def sC (rc : GBk → (List Int) → Int → Int → (List (GBe × Int)) → Option ((Int) × List (GBe × Int))) (xb : GBk) (xp : List Int) (xs : Int) (xh : Int) (l0 : List (GBe × Int)) : Option ((Int) × List (GBe × Int)) := Option.bind (sA rc xb xp xs xh l0) (fun r1 => Option.bind (getI xb.Strokes xs) (fun x2 => Option.bind (sB rc xb xp x2.Needs xh r1.2) (fun r3 => Option.bind (oP r3.1) (fun r4 => Option.bind (oP ([r1.1, r4])) (fun r5 => some (r5, r3.2))))))
theorem Gw (rc : GBk → (List Int) → Int → Int → (List (GBe × Int)) → Option ((Int) × List (GBe × Int))) (rc_ok : ∀ (xb : GBk) (xp : List Int) (xs : Int) (xh : Int) (l0 : List (GBe × Int)) (R : (Int) × List (GBe × Int)), rc xb xp xs xh l0 = some R → VUpd Tryz.prog G0 118 (fun β => [.agg [.lit (.int .i64 xb.Apprentices), .sl (aa eI xb.Boards) (List.length xb.Boards) false, .sl (aa cGBs xb.Strokes) (List.length xb.Strokes) false, .sl (aa eI xp) (List.length xp) false, .mp β], .lit (.int .i64 xs), .lit (.int .i64 xh)]) (encM aP cI l0) (encM aP cI R.2) (fun _ => .lit (.int .i64 R.1))) (xb : GBk) (xp : List Int) (xs : Int) (xh : Int) (l0 : List (GBe × Int)) (R : (Int) × List (GBe × Int)) (h : sC rc xb xp xs xh l0 = some R) : VUpd Tryz.prog G0 107 (fun β => [.agg [.lit (.int .i64 xb.Apprentices), .sl (aa eI xb.Boards) (List.length xb.Boards) false, .sl (aa cGBs xb.Strokes) (List.length xb.Strokes) false, .sl (aa eI xp) (List.length xp) false, .mp β], .lit (.int .i64 xs), .lit (.int .i64 xh)]) (encM aP cI l0) (encM aP cI R.2) (fun _ => .lit (.int .i64 R.1)) := by
 intro bj nx hlt
 have aQ := gF (β := bj) (nx := nx) hlt
 refine ar.run mixed Tryz.call107 Tryz.func107 rfl (by simp [Tryz.ntmps107]; kernel_rfl) ?_
 obtain ⟨KF, h, kF, kN⟩ := cO h
 simp only [sC] at h
 simp only [vz, mq, mqm, vsi, tyf, mqt, aQ, nm, seval]
 refine mh (fun tm => tm 1 = .lit (.int .i64 xs) ∧ tm 2 = .lit (.int .i64 xh) ∧ tm 3 = .ptr nx 0 ∧ True) (by refine ⟨?_, ?_, ?_, trivial⟩ <;> first | (simp only [ua, bP, aQ, nm, seval] <;> rfl) | rfl) ?_
 rintro tm ⟨e6, e7, e8, _⟩
 obtain ⟨r9, iB, h⟩ := optI h kN
 try simp only [hs] at h
 simp only [vz, mq, mqm, vsi, tyf, mqt, aQ, e6, e7, e8, nm, seval]
 refine dkupd (VUpd.at (β := bj) (y := (fun _ => .lit (.int .i64 r9.1))) (Mb rc rc_ok _ _ _ _ _ _ iB) (by omega) (by first | rfl | assumption | (simp only [aS, aT, aQ, nm, seval] <;> rfl)) (by first | rfl | (simp only [nrm, aI, @eh, @gA] <;> rfl)) (g9 (fun _ => rfl) _)) ?_
 refine gW (fun tm => tm 1 = .lit (.int .i64 xs) ∧ tm 2 = .lit (.int .i64 xh) ∧ tm 3 = .ptr nx 0 ∧ tm 10 = .lit (.int .i64 r9.1) ∧ True) (by refine ⟨e6, e7, e8, ?_, trivial⟩ <;> first | (simp only [ua, bP, aQ, e6, e7, e8, nm, seval] <;> rfl) | rfl) ?_
 rintro tm ⟨aZ, bh, aW, bu, _⟩
 obtain ⟨Cq, hT, h⟩ := optI h kN
 try simp only [hs] at h
 obtain ⟨dJ, n4, h⟩ := optI h kN
 try simp only [hs] at h
 simp only [vz, mq, mqm, vsi, tyf, mqt, aQ, aZ, bh, aW, bu, (aJ hT), nm, seval]
 refine dkupd (VUpd.at (β := bj) (y := (fun _ => .sl (aa eI dJ.1) (List.length dJ.1) false)) (Ma rc rc_ok _ _ _ _ _ _ n4) (by omega) (by first | rfl | assumption | (simp only [aS, aT, aQ, nm, seval] <;> rfl)) (by first | rfl | (simp only [nrm, aI, @eh, @gA] <;> rfl)) (g9 (fun _ => rfl) _)) ?_
 refine gW (fun tm => tm 10 = .lit (.int .i64 r9.1) ∧ tm 20 = .sl (aa eI dJ.1) (List.length dJ.1) false ∧ True) (by refine ⟨bu, ?_, trivial⟩ <;> first | (simp only [ua, bP, aQ, aZ, bh, aW, bu, nm, seval] <;> rfl) | rfl) ?_
 rintro tm ⟨cq, dY, _⟩
 obtain ⟨vZ, lB, h⟩ := optI h kN
 try simp only [hs] at h
 simp only [vz, mq, mqm, vsi, tyf, mqt, aQ, (aJ hT), cq, dY, nm, seval]
 refine dktree (args0 := [.sl (aa eI dJ.1) (List.length dJ.1) false]) (by first | (simp only [nrm, aI, @eh] <;> rfl) | rfl) (by simp only [tre, tytre, mqr, Bool.and_self]) (yf _ _ lB) ?_
 refine bZ (fun tm => tm 10 = .lit (.int .i64 r9.1) ∧ tm 21 = .lit (.int .i64 vZ) ∧ True) (by refine ⟨cq, ?_, trivial⟩ <;> first | (simp only [ua, bP, aQ, cq, dY, nm, seval] <;> rfl) | rfl) ?_
 rintro tm ⟨cM, bK, _⟩
 obtain ⟨iV, jO, h⟩ := optI h kN
 try simp only [hs] at h
 simp only [vz, mq, mqm, vsi, tyf, mqt, aQ, (aJ hT), cM, bK, nm, seval]
 refine dkseen1 (w := 1) (enc := eI) (xs := ([r9.1, vZ])) (el := (some 3)) ⟨eI_ok.tree, eI_ok.norm⟩ (fun _ => rfl) (by simp only [List.length_cons, List.length_nil]; decide) (by simp only [aS, aT, ca, aQ, nm, seval] <;> rfl) (yf _ _ jO) (by first | rfl | simp only [VV.flat, flatL, Bool.and_self]) ?_
 refine bZ (fun tm => tm 23 = .lit (.int .i64 iV) ∧ True) (by refine ⟨?_, trivial⟩ <;> first | (simp only [ua, bP, aQ, cM, bK, nm, seval] <;> rfl) | rfl) ?_
 rintro tm ⟨bp, _⟩
 simp only [vz, mq, mqm, vsi, tyf, mqt, aQ, (aJ hT), bp, nm, seval]
 refine mz ⟨?_, ?_⟩
 ·simp only [m0, m2, hJ, m3, and_true, true_and]
  repeat' (first | exact trivial | refine And.intro ?_ ?_ | rw [hJ] | rw [m4] | exact Or.inl (by decide +kernel) | exact Or.inl (by dsimp only; decide +kernel) | (refine Or.inr ⟨?_, ?_⟩ <;> simp; done) | (refine Or.inr ⟨?_, ?_⟩ <;> simp <;> omega) | (refine Or.inr ⟨?_, ?_⟩ <;> simp [VEff.wr] <;> omega))
 try simp only [vz, mq, mqm, vsi, tyf, mqt, aQ, (aJ hT), bp, nm, seval]
 refine cL (x := (.lit (.int .i64 iV))) (by first | (simp only [Tryz.results107, resV, resL, resV1, cF, cE, uw, cr, tyf, mqt, aQ, (aJ hT), nm, seval] <;> rfl) | rfl) ?_
 obtain rfl := kF _ h
 refine ⟨(by first | rfl | assumption | (simp only [aS, aT, aQ, nm, seval] <;> rfl)), ?_⟩
 exact sq_of (jw (by simp only [tre, tytre, mqr, Bool.and_self]) rfl)
def v7 (xb : GBk) (xp : List Int) (xs : Int) : Option (Int) := Option.bind (getI xb.Strokes xs) (fun x1 => some x1.Hours.Low)
theorem Qs (xb : GBk) (xp : List Int) (xs : Int) (b : Nat) (R : Int) (h : v7 xb xp xs = some R) : ai Tryz.prog G0 139 [.agg [.lit (.int .i64 xb.Apprentices), .sl (aa eI xb.Boards) (List.length xb.Boards) false, .sl (aa cGBs xb.Strokes) (List.length xb.Strokes) false, .sl (aa eI xp) (List.length xp) false, .lit (.map (some b))], .lit (.int .i64 xs)] (.tree (.lit (.int .i64 R))) := by
 refine ai.runR mixed Tryz.call139 Tryz.func139 rfl (by simp [Tryz.ntmps139]; kernel_rfl) ?_
 obtain ⟨KF, h, kF, kN⟩ := cO h
 simp only [v7] at h
 obtain ⟨x2, o3, h⟩ := optI h kN
 try simp only [hs] at h
 try simp only [vz, vsi, tyf, (aJ o3), nm, seval]
 refine cL (x := (.lit (.int .i64 x2.Hours.Low))) (by first | (simp only [Tryz.results139, resV, resL, resV1, cF, cE, uw, cr, tyf, (aJ o3), nm, seval] <;> rfl) | rfl) ?_
 obtain rfl := kF _ h
 refine gw ?_ ?_
 ·simp only [tre, tytre, Bool.and_self]
 ·first | (simp only [outV, uw, gG, cr, tyf, nrm, aI, (aJ o3), nm, seval] <;> rfl) | rfl
def v8 (xb : GBk) (xp : List Int) (xs : Int) : Option (Int) := Option.bind (getI xb.Strokes xs) (fun x1 => some x1.Hours.High)
theorem Qt (xb : GBk) (xp : List Int) (xs : Int) (b : Nat) (R : Int) (h : v8 xb xp xs = some R) : ai Tryz.prog G0 140 [.agg [.lit (.int .i64 xb.Apprentices), .sl (aa eI xb.Boards) (List.length xb.Boards) false, .sl (aa cGBs xb.Strokes) (List.length xb.Strokes) false, .sl (aa eI xp) (List.length xp) false, .lit (.map (some b))], .lit (.int .i64 xs)] (.tree (.lit (.int .i64 R))) := by
 refine ai.runR mixed Tryz.call140 Tryz.func140 rfl (by simp [Tryz.ntmps140]; kernel_rfl) ?_
 obtain ⟨KF, h, kF, kN⟩ := cO h
 simp only [v8] at h
 obtain ⟨x2, o3, h⟩ := optI h kN
 try simp only [hs] at h
 try simp only [vz, vsi, tyf, (aJ o3), nm, seval]
 refine cL (x := (.lit (.int .i64 x2.Hours.High))) (by first | (simp only [Tryz.results140, resV, resL, resV1, cF, cE, uw, cr, tyf, (aJ o3), nm, seval] <;> rfl) | rfl) ?_
 obtain rfl := kF _ h
 refine gw ?_ ?_
 ·simp only [tre, tytre, Bool.and_self]
 ·first | (simp only [outV, uw, gG, cr, tyf, nrm, aI, (aJ o3), nm, seval] <;> rfl) | rfl
def v9 (rc : GBk → (List Int) → Int → Int → (List (GBe × Int)) → Option ((Int) × List (GBe × Int))) (xb : GBk) (xp : List Int) (xs : Int) (xh : Int) (l0 : List (GBe × Int)) : Option ((Int) × List (GBe × Int)) := cond (mapHas dK l0 (GBe.mk xs xh)) (some (mapGet dK 0 l0 (GBe.mk xs xh), l0)) (Option.bind (sC rc xb xp xs xh l0) (fun r1 => cond (xh == 0) (Option.bind (v7 xb xp xs) (fun r2 => some (i64.wrap (r1.1 + r2), mapSet dK r1.2 (GBe.mk xs xh) (i64.wrap (r1.1 + r2))))) (cond (xh == 1) (Option.bind (v8 xb xp xs) (fun r2 => some (i64.wrap (r1.1 + r2), mapSet dK r1.2 (GBe.mk xs xh) (i64.wrap (r1.1 + r2))))) none)))
theorem Qu (rc : GBk → (List Int) → Int → Int → (List (GBe × Int)) → Option ((Int) × List (GBe × Int))) (rc_ok : ∀ (xb : GBk) (xp : List Int) (xs : Int) (xh : Int) (l0 : List (GBe × Int)) (R : (Int) × List (GBe × Int)), rc xb xp xs xh l0 = some R → VUpd Tryz.prog G0 118 (fun β => [.agg [.lit (.int .i64 xb.Apprentices), .sl (aa eI xb.Boards) (List.length xb.Boards) false, .sl (aa cGBs xb.Strokes) (List.length xb.Strokes) false, .sl (aa eI xp) (List.length xp) false, .mp β], .lit (.int .i64 xs), .lit (.int .i64 xh)]) (encM aP cI l0) (encM aP cI R.2) (fun _ => .lit (.int .i64 R.1))) (xb : GBk) (xp : List Int) (xs : Int) (xh : Int) (l0 : List (GBe × Int)) (R : (Int) × List (GBe × Int)) (h : v9 rc xb xp xs xh l0 = some R) : VUpd Tryz.prog G0 118 (fun β => [.agg [.lit (.int .i64 xb.Apprentices), .sl (aa eI xb.Boards) (List.length xb.Boards) false, .sl (aa cGBs xb.Strokes) (List.length xb.Strokes) false, .sl (aa eI xp) (List.length xp) false, .mp β], .lit (.int .i64 xs), .lit (.int .i64 xh)]) (encM aP cI l0) (encM aP cI R.2) (fun _ => .lit (.int .i64 R.1)) := by
 intro bj nx hlt
 have aQ := gF (β := bj) (nx := nx) hlt
 refine ar.run mixed Tryz.call118 Tryz.func118 rfl (by simp [Tryz.ntmps118]; kernel_rfl) ?_
 obtain ⟨KF, h, kF, kN⟩ := cO h
 simp only [v9] at h
 have w2 := fun H => wa (β := bj) l0 (GBe.mk xs xh) H
 try simp only [bP] at w2
 cases d3 : (mapHas dK l0 (GBe.mk xs xh))
 ·simp only [d3, hs] at h
  obtain ⟨r4, o5, h⟩ := optI h kN
  try simp only [hs] at h
  have hk : (xh == 0) = true ∨ ((xh == 0) = false ∧ (xh == 1) = true) := by
   cases c0 : (xh == 0)
   ·cases c1 : (xh == 1)
    ·simp only [c0, c1, hs] at h
     exact absurd h kN
    exact .inr ⟨rfl, rfl⟩
   exact .inl rfl
  rcases hk with c0 | ⟨c0, c1⟩
  ·obtain rfl : xh = 0 := by simpa using c0
   simp only [c0, hs] at h
   simp only [vz, mq, mqm, vsi, tyf, mqt, aQ, w2, d3, nm, seval]
   refine mh (fun tm => tm 1 = .lit (.int .i64 xs) ∧ tm 2 = .lit (.int .i64 0) ∧ tm 3 = .ptr nx 0 ∧ tm 7 = .ptr (nx + 5) 0 ∧ tm 10 = .ptr (nx + 19) 0 ∧ True) (by refine ⟨?_, ?_, ?_, ?_, ?_, trivial⟩ <;> first | (simp only [ua, bP, aQ, w2, d3, nm, seval] <;> rfl) | rfl) ?_
   rintro tm ⟨e1, e2, e3, e4, aV, _⟩
   simp only [vz, mq, mqm, vsi, tyf, mqt, aQ, w2, d3, e1, e2, e3, e4, aV, nm, seval]
   refine dkupd (VUpd.at (β := bj) (y := (fun _ => .lit (.int .i64 r4.1))) (Gw rc rc_ok _ _ _ _ _ _ o5) (by omega) (by first | rfl | assumption | (simp only [aS, aT, aQ, nm, seval] <;> rfl)) (by first | rfl | (simp only [nrm, aI, @eh, @gA] <;> rfl)) (g9 (fun _ => rfl) _)) ?_
   refine gW (fun tm => tm 1 = .lit (.int .i64 xs) ∧ tm 2 = .lit (.int .i64 0) ∧ tm 3 = .ptr nx 0 ∧ tm 7 = .ptr (nx + 5) 0 ∧ tm 10 = .ptr (nx + 19) 0 ∧ tm 27 = .lit (.int .i64 r4.1) ∧ True) (by refine ⟨e1, e2, e3, e4, aV, ?_, trivial⟩ <;> first | (simp only [ua, bP, aQ, e1, e2, e3, e4, aV, nm, seval] <;> rfl) | rfl) ?_
   rintro tm ⟨e1, e2, e3, e4, aV, bp, _⟩
   obtain ⟨r8, o9, h⟩ := optI h kN
   try simp only [hs] at h
   simp only [vz, mq, mqm, vsi, tyf, mqt, aQ, w2, d3, e1, e2, e3, e4, aV, bp, nm, seval]
   refine dkupd (VUpd.at (β := bj) (y := (fun _ => .lit (.int .i64 r8))) (VUpd.of_lit (A := fun β => [.agg [.lit (.int .i64 xb.Apprentices), .sl (aa eI xb.Boards) (List.length xb.Boards) false, .sl (aa cGBs xb.Strokes) (List.length xb.Strokes) false, .sl (aa eI xp) (List.length xp) false, .mp β], .lit (.int .i64 xs)]) (x := fun _ => .lit (.int .i64 r8)) (es := encM aP cI r4.2) (A0 := fun _ b => [.agg [.lit (.int .i64 xb.Apprentices), .sl (aa eI xb.Boards) (List.length xb.Boards) false, .sl (aa cGBs xb.Strokes) (List.length xb.Strokes) false, .sl (aa eI xp) (List.length xp) false, .lit (.map (some b))], .lit (.int .i64 xs)]) (fun β b => by simp only [List.map_cons, List.map_nil, vlt, if_true, nrm, aI, @eh, tyf, mqt] <;> rfl) (fun β b => by simp only [List.map_cons, List.map_nil, vlt, if_true, tre, tytre, tyf, mqt, Bool.and_self]) (fun β b => rfl) (fun β b => Qs xb xp xs b r8 o9) (fun _ _ _ _ _ => jw (by simp only [tre, tytre, mqr, Bool.and_self]) rfl)) (by omega) (by first | rfl | assumption | (simp only [aS, aT, aQ, nm, seval] <;> rfl)) (by first | rfl | (simp only [nrm, aI, @eh, @gA] <;> rfl)) (g9 (fun _ => rfl) _)) ?_
   refine gW (fun tm => tm 1 = .lit (.int .i64 xs) ∧ tm 2 = .lit (.int .i64 0) ∧ tm 3 = .ptr nx 0 ∧ tm 7 = .ptr (nx + 5) 0 ∧ tm 27 = .lit (.int .i64 r4.1) ∧ tm 33 = .lit (.int .i64 r8) ∧ True) (by refine ⟨e1, e2, e3, e4, bp, ?_, trivial⟩ <;> first | (simp only [ua, bP, aQ, e1, e2, e3, e4, aV, bp, nm, seval] <;> rfl) | rfl) ?_
   rintro tm ⟨e1, e2, e3, e4, bp, ez, _⟩
   simp only [vz, mq, mqm, vsi, tyf, mqt, aQ, w2, d3, e1, e2, e3, e4, bp, ez, nm, seval]
   refine mz ⟨?_, ?_⟩
   ·simp only [m0, m2, hJ, m3, and_true, true_and]
    repeat' (first | exact trivial | refine And.intro ?_ ?_ | rw [hJ] | rw [m4] | exact Or.inl (by decide +kernel) | exact Or.inl (by dsimp only; decide +kernel) | (refine Or.inr ⟨?_, ?_⟩ <;> simp; done) | (refine Or.inr ⟨?_, ?_⟩ <;> simp <;> omega) | (refine Or.inr ⟨?_, ?_⟩ <;> simp [VEff.wr] <;> omega) | (refine Or.inr ⟨?_, ?_⟩ <;> simp [rdV, rdO, topName, Op.operands, pT, pV, pU, oc, VEff.wr] <;> omega))
   have w9 := fun H => wb (β := bj) r4.2 (GBe.mk xs 0) (i64.wrap (r4.1 + r8)) H
   try simp only [bP] at w9
   try simp only [vz, mq, mqm, vsi, tyf, mqt, aQ, d3, e1, e2, e3, e4, bp, ez, w9, nm, seval]
   refine cL (x := (.lit (.int .i64 (i64.wrap (r4.1 + r8))))) (by first | (simp only [Tryz.results118, resV, resL, resV1, cF, cE, uw, cr, tyf, mqt, aQ, d3, w9, nm, seval] <;> rfl) | rfl) ?_
   obtain rfl := kF _ h
   refine ⟨(by first | rfl | assumption | (simp only [aS, aT, aQ, nm, seval] <;> rfl)), ?_⟩
   exact sq_of (jw (by simp only [tre, tytre, mqr, Bool.and_self]) rfl)
  obtain rfl : xh = 1 := by simpa using c1
  simp only [c0, c1, hs] at h
  simp only [vz, mq, mqm, vsi, tyf, mqt, aQ, w2, d3, nm, seval]
  refine mh (fun tm => tm 1 = .lit (.int .i64 xs) ∧ tm 2 = .lit (.int .i64 1) ∧ tm 3 = .ptr nx 0 ∧ tm 7 = .ptr (nx + 5) 0 ∧ tm 10 = .ptr (nx + 19) 0 ∧ True) (by refine ⟨?_, ?_, ?_, ?_, ?_, trivial⟩ <;> first | (simp only [ua, bP, aQ, w2, d3, nm, seval] <;> rfl) | rfl) ?_
  rintro tm ⟨e1, e2, e3, e4, aV, _⟩
  simp only [vz, mq, mqm, vsi, tyf, mqt, aQ, w2, d3, e1, e2, e3, e4, aV, nm, seval]
  refine dkupd (VUpd.at (β := bj) (y := (fun _ => .lit (.int .i64 r4.1))) (Gw rc rc_ok _ _ _ _ _ _ o5) (by omega) (by first | rfl | assumption | (simp only [aS, aT, aQ, nm, seval] <;> rfl)) (by first | rfl | (simp only [nrm, aI, @eh, @gA] <;> rfl)) (g9 (fun _ => rfl) _)) ?_
  refine gW (fun tm => tm 1 = .lit (.int .i64 xs) ∧ tm 2 = .lit (.int .i64 1) ∧ tm 3 = .ptr nx 0 ∧ tm 7 = .ptr (nx + 5) 0 ∧ tm 10 = .ptr (nx + 19) 0 ∧ tm 27 = .lit (.int .i64 r4.1) ∧ True) (by refine ⟨e1, e2, e3, e4, aV, ?_, trivial⟩ <;> first | (simp only [ua, bP, aQ, e1, e2, e3, e4, aV, nm, seval] <;> rfl) | rfl) ?_
  rintro tm ⟨e1, e2, e3, e4, aV, bp, _⟩
  obtain ⟨r8, o9, h⟩ := optI h kN
  try simp only [hs] at h
  simp only [vz, mq, mqm, vsi, tyf, mqt, aQ, w2, d3, e1, e2, e3, e4, aV, bp, nm, seval]
  refine dkupd (VUpd.at (β := bj) (y := (fun _ => .lit (.int .i64 r8))) (VUpd.of_lit (A := fun β => [.agg [.lit (.int .i64 xb.Apprentices), .sl (aa eI xb.Boards) (List.length xb.Boards) false, .sl (aa cGBs xb.Strokes) (List.length xb.Strokes) false, .sl (aa eI xp) (List.length xp) false, .mp β], .lit (.int .i64 xs)]) (x := fun _ => .lit (.int .i64 r8)) (es := encM aP cI r4.2) (A0 := fun _ b => [.agg [.lit (.int .i64 xb.Apprentices), .sl (aa eI xb.Boards) (List.length xb.Boards) false, .sl (aa cGBs xb.Strokes) (List.length xb.Strokes) false, .sl (aa eI xp) (List.length xp) false, .lit (.map (some b))], .lit (.int .i64 xs)]) (fun β b => by simp only [List.map_cons, List.map_nil, vlt, if_true, nrm, aI, @eh, tyf, mqt] <;> rfl) (fun β b => by simp only [List.map_cons, List.map_nil, vlt, if_true, tre, tytre, tyf, mqt, Bool.and_self]) (fun β b => rfl) (fun β b => Qt xb xp xs b r8 o9) (fun _ _ _ _ _ => jw (by simp only [tre, tytre, mqr, Bool.and_self]) rfl)) (by omega) (by first | rfl | assumption | (simp only [aS, aT, aQ, nm, seval] <;> rfl)) (by first | rfl | (simp only [nrm, aI, @eh, @gA] <;> rfl)) (g9 (fun _ => rfl) _)) ?_
  refine gW (fun tm => tm 1 = .lit (.int .i64 xs) ∧ tm 2 = .lit (.int .i64 1) ∧ tm 3 = .ptr nx 0 ∧ tm 7 = .ptr (nx + 5) 0 ∧ tm 27 = .lit (.int .i64 r4.1) ∧ tm 33 = .lit (.int .i64 r8) ∧ True) (by refine ⟨e1, e2, e3, e4, bp, ?_, trivial⟩ <;> first | (simp only [ua, bP, aQ, e1, e2, e3, e4, aV, bp, nm, seval] <;> rfl) | rfl) ?_
  rintro tm ⟨e1, e2, e3, e4, bp, ez, _⟩
  simp only [vz, mq, mqm, vsi, tyf, mqt, aQ, w2, d3, e1, e2, e3, e4, bp, ez, nm, seval]
  refine mz ⟨?_, ?_⟩
  ·simp only [m0, m2, hJ, m3, and_true, true_and]
   repeat' (first | exact trivial | refine And.intro ?_ ?_ | rw [hJ] | rw [m4] | exact Or.inl (by decide +kernel) | exact Or.inl (by dsimp only; decide +kernel) | (refine Or.inr ⟨?_, ?_⟩ <;> simp; done) | (refine Or.inr ⟨?_, ?_⟩ <;> simp <;> omega) | (refine Or.inr ⟨?_, ?_⟩ <;> simp [VEff.wr] <;> omega) | (refine Or.inr ⟨?_, ?_⟩ <;> simp [rdV, rdO, topName, Op.operands, pT, pV, pU, oc, VEff.wr] <;> omega))
  have w9 := fun H => wb (β := bj) r4.2 (GBe.mk xs 1) (i64.wrap (r4.1 + r8)) H
  try simp only [bP] at w9
  try simp only [vz, mq, mqm, vsi, tyf, mqt, aQ, d3, e1, e2, e3, e4, bp, ez, w9, nm, seval]
  refine cL (x := (.lit (.int .i64 (i64.wrap (r4.1 + r8))))) (by first | (simp only [Tryz.results118, resV, resL, resV1, cF, cE, uw, cr, tyf, mqt, aQ, d3, w9, nm, seval] <;> rfl) | rfl) ?_
  obtain rfl := kF _ h
  refine ⟨(by first | rfl | assumption | (simp only [aS, aT, aQ, nm, seval] <;> rfl)), ?_⟩
  exact sq_of (jw (by simp only [tre, tytre, mqr, Bool.and_self]) rfl)
 simp only [d3, hs] at h
 try simp only [vz, mq, mqm, vsi, tyf, mqt, aQ, w2, d3, nm, seval]
 refine cL (x := (.lit (.int .i64 (mapGet dK 0 l0 (GBe.mk xs xh))))) (by first | (simp only [Tryz.results118, resV, resL, resV1, cF, cE, uw, cr, tyf, mqt, aQ, w2, d3, nm, seval] <;> rfl) | rfl) ?_
 obtain rfl := kF _ h
 refine ⟨(by first | rfl | assumption | (simp only [aS, aT, aQ, nm, seval] <;> rfl)), ?_⟩
 exact sq_of (jw (by simp only [tre, tytre, mqr, Bool.and_self]) rfl)
def gEnd : Nat → GBk → (List Int) → Int → Int → (List (GBe × Int)) → Option ((Int) × List (GBe × Int))
 | 0 => fun _ _ _ _ _ => none
 | n + 1 => v9 (gEnd n)
theorem yg : ∀ (n : Nat) (xb : GBk) (xp : List Int) (xs : Int) (xh : Int) (l0 : List (GBe × Int)) (R : (Int) × List (GBe × Int)), gEnd n xb xp xs xh l0 = some R → VUpd Tryz.prog G0 118 (fun β => [.agg [.lit (.int .i64 xb.Apprentices), .sl (aa eI xb.Boards) (List.length xb.Boards) false, .sl (aa cGBs xb.Strokes) (List.length xb.Strokes) false, .sl (aa eI xp) (List.length xp) false, .mp β], .lit (.int .i64 xs), .lit (.int .i64 xh)]) (encM aP cI l0) (encM aP cI R.2) (fun _ => .lit (.int .i64 R.1))
 | 0, _, _, _, _, _, _, h => by cases h
 | n + 1, xb, xp, xs, xh, l0, R, h => Qu (gEnd n) (yg n) xb xp xs xh l0 R h
def EJ (xb : GBk) (xp : List Int) (xs : Int) (xh : Int) (l0 : List (GBe × Int)) : Option ((Int) × List (GBe × Int)) := sA (gEnd 8) xb xp xs xh l0
theorem Qv (xb : GBk) (xp : List Int) (xs : Int) (xh : Int) (l0 : List (GBe × Int)) (R : (Int) × List (GBe × Int)) (h : EJ xb xp xs xh l0 = some R) : VUpd Tryz.prog G0 108 (fun β => [.agg [.lit (.int .i64 xb.Apprentices), .sl (aa eI xb.Boards) (List.length xb.Boards) false, .sl (aa cGBs xb.Strokes) (List.length xb.Strokes) false, .sl (aa eI xp) (List.length xp) false, .mp β], .lit (.int .i64 xs), .lit (.int .i64 xh)]) (encM aP cI l0) (encM aP cI R.2) (fun _ => .lit (.int .i64 R.1)) := Mb (gEnd 8) (yg 8) xb xp xs xh l0 R h
def EL (xb : GBk) (xp : List Int) (xs : Int) (xh : Int) (l0 : List (GBe × Int)) : Option ((Int) × List (GBe × Int)) := sC (gEnd 8) xb xp xs xh l0
theorem Qw (xb : GBk) (xp : List Int) (xs : Int) (xh : Int) (l0 : List (GBe × Int)) (R : (Int) × List (GBe × Int)) (h : EL xb xp xs xh l0 = some R) : VUpd Tryz.prog G0 107 (fun β => [.agg [.lit (.int .i64 xb.Apprentices), .sl (aa eI xb.Boards) (List.length xb.Boards) false, .sl (aa cGBs xb.Strokes) (List.length xb.Strokes) false, .sl (aa eI xp) (List.length xp) false, .mp β], .lit (.int .i64 xs), .lit (.int .i64 xh)]) (encM aP cI l0) (encM aP cI R.2) (fun _ => .lit (.int .i64 R.1)) := Gw (gEnd 8) (yg 8) xb xp xs xh l0 R h
def xS (xb : GBk) (xp : List Int) (xss : List Int) (xh : Int) (l0 : List (GBe × Int)) : Option ((List Int) × List (GBe × Int)) := sB (gEnd 8) xb xp xss xh l0
theorem Mc (xb : GBk) (xp : List Int) (xss : List Int) (xh : Int) (l0 : List (GBe × Int)) (R : (List Int) × List (GBe × Int)) (h : xS xb xp xss xh l0 = some R) : VUpd Tryz.prog G0 106 (fun β => [.agg [.lit (.int .i64 xb.Apprentices), .sl (aa eI xb.Boards) (List.length xb.Boards) false, .sl (aa cGBs xb.Strokes) (List.length xb.Strokes) false, .sl (aa eI xp) (List.length xp) false, .mp β], .sl (aa eI xss) (List.length xss) false, .lit (.int .i64 xh)]) (encM aP cI l0) (encM aP cI R.2) (fun _ => .sl (aa eI R.1) (List.length R.1) false) := Ma (gEnd 8) (yg 8) xb xp xss xh l0 R h
end Go.V
end
section
namespace Go.V
open Go Go.Proofs IntKind
section
variable {K V : Type} {q : K → K → Bool} {z : V}
def setR (q : K → K → Bool) (k : K) (v : V) : List (K × V) → List (K × V)
 | [] => [(k, v)]
 | e :: l => if q k e.1 then (k, v) :: l else e :: setR q k v l
theorem wc (k : K) : ∀ (es : List K) (i : Nat), kIdx q k es (i + 1) = (kIdx q k es i).map (· + 1)
 | [], _ => rfl
 | e :: es, i => by
  unfold kIdx
  cases q k e with
  | true => rfl
  | false => exact wc k es (i + 1)
theorem L1 (k : K) (v : V) : ∀ l : List (K × V), mapSet q l k v = setR q k v l
 | [] => rfl
 | e :: l => by
  have ih := L1 k v l
  unfold mapSet at ih ⊢
  rw [List.map_cons]
  unfold kIdx setR
  cases hq : q k e.1 with
  | true => rfl
  | false =>
   simp only [cond_false, Bool.false_eq_true, if_false]
   rw [wc]
   cases h : kIdx q k (l.map (·.1)) 0 with
   | none => rw [h] at ih; simpa using ih
   | some i => rw [h] at ih; simpa using ih
end
end Go.V
end
section
namespace Go.V
open Go Go.Proofs IntKind
def vA (xb : GBk) (xp : List Int) (xss : List Int) (l0 : List (GBe × Int)) : Option ((GSpan) × List (GBe × Int)) := Option.bind (xS xb xp xss 0 l0) (fun r1 => Option.bind (oP r1.1) (fun r2 => Option.bind (xS xb xp xss 1 r1.2) (fun r3 => Option.bind (oP r3.1) (fun r4 => some ((GSpan.mk r2 r4), r3.2)))))
theorem Md (xb : GBk) (xp : List Int) (xss : List Int) (l0 : List (GBe × Int)) (R : (GSpan) × List (GBe × Int)) (h : vA xb xp xss l0 = some R) : VUpd Tryz.prog G0 70 (fun β => [.agg [.lit (.int .i64 xb.Apprentices), .sl (aa eI xb.Boards) (List.length xb.Boards) false, .sl (aa cGBs xb.Strokes) (List.length xb.Strokes) false, .sl (aa eI xp) (List.length xp) false, .mp β], .sl (aa eI xss) (List.length xss) false]) (encM aP cI l0) (encM aP cI R.2) (fun _ => .agg (aL R.1)) := by
 intro bj nx hlt
 have aQ := gF (β := bj) (nx := nx) hlt
 refine ar.run mixed Tryz.call70 Tryz.func70 rfl (by simp [Tryz.ntmps70]; kernel_rfl) ?_
 obtain ⟨KF, h, kF, kN⟩ := cO h
 simp only [vA] at h
 simp only [vz, mq, mqm, vsi, tyf, mqt, aQ, nm, seval]
 refine mh (fun tm => tm 1 = .sl (aa eI xss) (List.length xss) false ∧ tm 2 = .ptr nx 0 ∧ tm 4 = .ptr (nx + 1) 0 ∧ True) (by refine ⟨?_, ?_, ?_, trivial⟩ <;> first | (simp only [ua, bP, aQ, nm, seval] <;> rfl) | rfl) ?_
 rintro tm ⟨e5, e6, e7, _⟩
 obtain ⟨r8, o9, h⟩ := optI h kN
 try simp only [hs] at h
 simp only [vz, mq, mqm, vsi, tyf, mqt, aQ, e5, e6, e7, nm, seval]
 refine dkupd (VUpd.at (β := bj) (y := (fun _ => .sl (aa eI r8.1) (List.length r8.1) false)) (Mc _ _ _ _ _ _ o9) (by omega) (by first | rfl | assumption | (simp only [aS, aT, aQ, nm, seval] <;> rfl)) (by first | rfl | (simp only [nrm, aI, @eh, @gA] <;> rfl)) (g9 (fun _ => rfl) _)) ?_
 refine gW (fun tm => tm 1 = .sl (aa eI xss) (List.length xss) false ∧ tm 2 = .ptr nx 0 ∧ tm 4 = .ptr (nx + 1) 0 ∧ tm 7 = .sl (aa eI r8.1) (List.length r8.1) false ∧ True) (by refine ⟨e5, e6, e7, ?_, trivial⟩ <;> first | (simp only [ua, bP, aQ, e5, e6, e7, nm, seval] <;> rfl) | rfl) ?_
 rintro tm ⟨aV, aZ, bh, aW, _⟩
 obtain ⟨sd, pM, h⟩ := optI h kN
 try simp only [hs] at h
 simp only [vz, mq, mqm, vsi, tyf, mqt, aQ, aV, aZ, bh, aW, nm, seval]
 refine dktree (args0 := [.sl (aa eI r8.1) (List.length r8.1) false]) (by first | (simp only [nrm, aI, @eh] <;> rfl) | rfl) (by simp only [tre, tytre, mqr, Bool.and_self]) (yf _ _ pM) ?_
 refine bZ (fun tm => tm 1 = .sl (aa eI xss) (List.length xss) false ∧ tm 2 = .ptr nx 0 ∧ tm 4 = .ptr (nx + 1) 0 ∧ tm 8 = .lit (.int .i64 sd) ∧ True) (by refine ⟨aV, aZ, bh, ?_, trivial⟩ <;> first | (simp only [ua, bP, aQ, aV, aZ, bh, aW, nm, seval] <;> rfl) | rfl) ?_
 rintro tm ⟨bX, bR, bN, cq, _⟩
 obtain ⟨l7, oX, h⟩ := optI h kN
 try simp only [hs] at h
 simp only [vz, mq, mqm, vsi, tyf, mqt, aQ, bX, bR, bN, cq, nm, seval]
 refine dkupd (VUpd.at (β := bj) (y := (fun _ => .sl (aa eI l7.1) (List.length l7.1) false)) (Mc _ _ _ _ _ _ oX) (by omega) (by first | rfl | assumption | (simp only [aS, aT, aQ, nm, seval] <;> rfl)) (by first | rfl | (simp only [nrm, aI, @eh, @gA] <;> rfl)) (g9 (fun _ => rfl) _)) ?_
 refine gW (fun tm => tm 4 = .ptr (nx + 1) 0 ∧ tm 8 = .lit (.int .i64 sd) ∧ tm 11 = .sl (aa eI l7.1) (List.length l7.1) false ∧ True) (by refine ⟨bN, cq, ?_, trivial⟩ <;> first | (simp only [ua, bP, aQ, bX, bR, bN, cq, nm, seval] <;> rfl) | rfl) ?_
 rintro tm ⟨cC, cM, bK, _⟩
 obtain ⟨iV, jO, h⟩ := optI h kN
 try simp only [hs] at h
 simp only [vz, mq, mqm, vsi, tyf, mqt, aQ, cC, cM, bK, nm, seval]
 refine dktree (args0 := [.sl (aa eI l7.1) (List.length l7.1) false]) (by first | (simp only [nrm, aI, @eh] <;> rfl) | rfl) (by simp only [tre, tytre, mqr, Bool.and_self]) (yf _ _ jO) ?_
 refine bZ (fun tm => tm 4 = .ptr (nx + 1) 0 ∧ tm 8 = .lit (.int .i64 sd) ∧ tm 12 = .lit (.int .i64 iV) ∧ True) (by refine ⟨cC, cM, ?_, trivial⟩ <;> first | (simp only [ua, bP, aQ, cC, cM, bK, nm, seval] <;> rfl) | rfl) ?_
 rintro tm ⟨bp, dx, dE, _⟩
 simp only [vz, mq, mqm, vsi, tyf, mqt, aQ, bp, dx, dE, nm, seval]
 refine mz ⟨?_, ?_⟩
 ·simp only [m0, m2, hJ, m3, and_true, true_and]
  repeat' (first | exact trivial | refine And.intro ?_ ?_ | rw [hJ] | rw [m4] | exact Or.inl (by decide +kernel) | exact Or.inl (by dsimp only; decide +kernel) | (refine Or.inr ⟨?_, ?_⟩ <;> simp; done) | (refine Or.inr ⟨?_, ?_⟩ <;> simp <;> omega) | (refine Or.inr ⟨?_, ?_⟩ <;> simp [VEff.wr] <;> omega))
 try simp only [vz, mq, mqm, vsi, tyf, mqt, aQ, bp, dx, dE, nm, seval]
 refine cL (x := (.agg ([.lit (.int .i64 sd)] ++ [.lit (.int .i64 iV)]))) (by first | (simp only [Tryz.results70, resV, resL, resV1, cF, cE, uw, cr, tyf, mqt, aQ, bp, dx, dE, nm, seval] <;> rfl) | rfl) ?_
 obtain rfl := kF _ h
 refine ⟨(by first | rfl | assumption | (simp only [aS, aT, aQ, nm, seval] <;> rfl)), ?_⟩
 exact sq_of (jw (by first | (simp only [tre, tytre, mqr, Bool.and_self]; done) | rfl) rfl)
theorem But.self (W : World) (b : Nat) : But W W b := ⟨fun _ _ _ => rfl, Nat.le_refl _, rfl, rfl, rfl⟩
theorem kupdF {P : Program} {G : Glob} {H : Nat → Option VObj} {f : FuncId} {args args' cs : List VV} {el : Option TypeId} {y : VV} {d : Option Tmp} {γ β g : Nat} {tm : Nat → VV} {nx : Nat} {df : List VDef} {K : St → Prop} {Qp : VV → St → Prop} {es' : List (Value × VV)} (hγ : H g = some (.cells el cs)) (ha : FrozenL H (without H g) args args')
  (hu : UpdC P G f args' (without H g) nx β es' y) (h : fin d γ tm (without H g) nx df K y (.upd β (.map es'))) : callK P G f args ⟨tm, H, nx, df⟩ d γ K Qp := by
 refine .inr (.inr ?_)
 unfold openK
 refine ar.mono (ar.freeze1 hγ ha hu.open) ?_ (fun _ _ _ h => h.elim)
 rintro v H2 Nk ⟨rfl, rfl, rfl⟩
 rw [← eO (K := K)] at h
 cases d <;> exact h
def mH (aO : Int) : List GBs → Int → (List Int) → Option (LOut ((GSpan) × List (GBe × Int)) ((List Int)))
 | [], dh, bL => some (.go bL)
 | e0 :: p0, dh, bL => cond (e0.Board == aO) (cond (aC 8 (List.length (bL ++ [dh]))) (mH aO p0 (dh + 1) (bL ++ [dh])) none) (mH aO p0 (dh + 1) bL)
def vD (xb : GBk) (xp : List Int) (aO : Int) (l0 : List (GBe × Int)) : Option ((GSpan) × List (GBe × Int)) := cond (au xb.Strokes) (lbind (mH aO xb.Strokes 0 ([] : List Int)) (fun r3 => some r3) (fun c1 => Option.bind (vA xb xp c1 l0) (fun r2 => some (r2.1, r2.2))) (fun _ _ => none)) none
theorem P4 (xb : GBk) (xp : List Int) (aO : Int) (l0 : List (GBe × Int)) (R : (GSpan) × List (GBe × Int)) (h : vD xb xp aO l0 = some R) : VUpd Tryz.prog G0 72 (fun β => [.agg [.lit (.int .i64 xb.Apprentices), .sl (aa eI xb.Boards) (List.length xb.Boards) false, .sl (aa cGBs xb.Strokes) (List.length xb.Strokes) false, .sl (aa eI xp) (List.length xp) false, .mp β], .lit (.int .i64 aO)]) (encM aP cI l0) (encM aP cI R.2) (fun _ => .agg (aL R.1)) := by
 intro bj nx hlt
 have aQ := gF (β := bj) (nx := nx) hlt
 refine ar.run mixed Tryz.call72 Tryz.func72 rfl (by simp [Tryz.ntmps72]; kernel_rfl) ?_
 obtain ⟨KF, h, kF, kN⟩ := cO h
 simp only [vD] at h
 cases g5 : (au xb.Strokes)
 ·simp only [g5, hs] at h
  exact absurd h kN
 simp only [g5, hs] at h
 simp only [vz, mq, mqm, vsi, tyf, mqt, aQ, g5, nm, seval]
 obtain ⟨K4, h, Ke, xf, Ny, xg⟩ := eN h kN
 obtain ⟨f4, BZ, h⟩ := call3 h
 obtain ⟨I4, mj⟩ : ∃ I : Nat → St → Prop, I = (fun m st => ∃ (p4 : List GBs) (b6 : Int) (dv : List Int) (nN : VV), m = List.length p4 ∧ 0 ≤ b6 ∧ List.drop (Int.toNat b6) xb.Strokes = p4 ∧ st.df = [] ∧ nx + 8 ≤ st.nx ∧ st.H bj = some (.map (encM aP cI l0)) ∧ st.H nx = some (.cells (some 92) ((cGBk xb) ++ [.sl (aa eI xp) (List.length xp) false] ++ [.mp bj])) ∧ st.H (nx + 1) = some (.cells (some 35) ([.lit (.int .i64 0)] ++ [.lit (.int .i64 0)])) ∧ st.tm 1 = .lit (.int .i64 aO) ∧ st.tm 2 = .ptr nx 0 ∧ st.tm 4 = .ptr (nx + 1) 0 ∧ st.tm 10 = .sl (aa cGBs xb.Strokes) (List.length xb.Strokes) false ∧ st.tm 11 = .lit (.int .i64 (List.length xb.Strokes : Int)) ∧ st.tm 5 = nN ∧ st.tm 12 = .lit (.int .i64 b6) ∧ ((∃ (β : Nat) (el : Option TypeId), nN = .ref β 0 (List.length dv) 1 (List.length dv) ∧ β < st.nx ∧ β ≠ bj ∧ β ≠ nx ∧ β ≠ nx + 1 ∧ st.H β = some (.cells el (aa eI dv))) ∨ (nN = .lit (.slice none 0 0) ∧ dv = [])) ∧ K4 (f4 p4 b6 dv)) := ⟨_, rfl⟩
 refine loopK mixed (by kernel_rfl) I4 (List.length xb.Strokes) (by rw [mj]; refine ⟨xb.Strokes, 0, ([] : List Int), .lit (.slice none 0 0), rfl, Int.le_refl _, rfl, rfl, (show nx + 8 ≤ nx + 8 by omega), ?_, ?_, ?_, ?_, ?_, ?_, ?_, ?_, ?_, ?_, Or.inr ⟨rfl, rfl⟩, h⟩ <;> first | (simp only [ua, bP, aQ, nm, seval] <;> rfl) | rfl) ?_
 rintro m ⟨tm, H, kc, df⟩ hinv
 rw [mj] at hinv
 obtain ⟨p4, b6, dv, nN, rfl, ga, iy, hdf, Ca, H6, H7, H8, e9, aV, aZ, bh, aW, bu, bn, oZ, h⟩ := hinv
 simp only at hdf Ca H6 H7 H8 e9 aV aZ bh aW bu bn oZ
 have bD := nq (a := nx) (m := 8) (b := kc) (by omega)
 have jr := gF (β := bj) (nx := kc) (by omega)
 subst hdf BZ
 rcases oZ with ⟨rb, iW, rfl, lQ, qZ, Gx, Gy, mO⟩ | ⟨rfl, rfl⟩
 ·have f7 := gF lQ
  have hX := ne_f qZ
  have mP := ne_f Gx
  have mQ := ne_f Gy
  cases p4 with
  | nil =>
   have bM : (decide (b6 < (List.length xb.Strokes : Int))) = false := dR ga iy
   simp only [mH, hs, reduceCtorEq] at h
   replace h := xf _ h
   try dsimp only at h
   try simp only [hs] at h
   obtain ⟨dD, kO, h⟩ := optI h kN
   try simp only [hs] at h
   simp only [vz, mq, mqm, vsi, tyf, mqt, aQ, g5, bD, jr, e9, aV, aZ, bh, aW, bu, bn, H6, H7, H8, f7, mO, hX, mP, mQ, bM, nm, seval]
   refine kupdF (args' := [.agg ((cGBk xb) ++ [.sl (aa eI xp) (List.length xp) false] ++ [.mp bj]), .sl (aa eI dv) (List.length dv) false]) (g := rb) (el := iW) (cs := aa eI dv) (by first | rfl | assumption | (simp only [aS, aT, ca, aQ, bD, jr, H6, H7, H8, f7, mO, hX, mP, mQ, nm, seval] <;> rfl) | (simp only [aS, aT, cP, db, cY, cZ, tyf, mqt, aQ, g5, bD, jr, e9, aV, aZ, bh, aW, bu, bn, H6, H7, H8, f7, mO, hX, mP, mQ, bM, nm, seval]; done)) ⟨.same, Frozen.own (el := iW) (cs := aa eI dv) (by first | rfl | assumption | (simp only [aS, aT, ca, aQ, bD, jr, H6, H7, H8, f7, mO, hX, mP, mQ, nm, seval] <;> rfl) | (simp only [aS, aT, cP, db, cY, cZ, tyf, mqt, aQ, g5, bD, jr, e9, aV, aZ, bh, aW, bu, bn, H6, H7, H8, f7, mO, hX, mP, mQ, bM, nm, seval]; done)) (eI_ok.treeL _) (gV (w := 1) (enc := eI) (fun _ => rfl) _), trivial⟩ (VUpd.at (β := bj) (y := (fun _ => .agg (aL dD.1))) (Md _ _ _ _ _ kO) (by omega) (by first | rfl | assumption | (simp only [aS, aT, aQ, bD, jr, H6, H7, H8, f7, mO, hX, mP, mQ, nm, seval] <;> rfl)) (by first | rfl | (simp only [nrm, aI, @eh, @gA] <;> rfl) | (simp only [tyf, mqt, List.cons_append, List.nil_append, nrm, aI, @eh, @gA] <;> rfl)) (g9 (fun _ => rfl) _)) ?_
   refine gW (fun tm => tm 4 = .ptr (nx + 1) 0 ∧ tm 28 = .agg (aL dD.1) ∧ True) (by refine ⟨aZ, ?_, trivial⟩ <;> first | (simp only [ua, bP, aQ, bD, jr, e9, aV, aZ, bh, aW, bu, bn, H6, H7, H8, f7, mO, hX, mP, mQ, bM, nm, seval] <;> rfl) | rfl) ?_
   rintro tm ⟨cn, bp, _⟩
   have k8 := And.intro aQ (And.intro g5 (And.intro bD (And.intro jr (And.intro H6 (And.intro H7 (And.intro H8 (And.intro f7 (And.intro mO (And.intro hX (And.intro mP (And.intro mQ bM)))))))))))
   try simp only [vz, mq, mqm, vsi, tyf, mqt, k8, cn, bp, nm, seval]
   refine cL (x := (.agg (aL dD.1))) (by first | (simp only [Tryz.results72, resV, resL, resV1, cF, cE, uw, cr, tyf, mqt, k8, cn, bp, nm, seval] <;> rfl) | rfl) ?_
   obtain rfl := kF _ h
   refine ⟨(by first | rfl | assumption | (simp only [aS, aT, k8, nm, seval] <;> rfl)), ?_⟩
   exact sq_of (jw (by first | (simp only [tre, tytre, mqr, Bool.and_self]; done) | rfl) rfl)
  | cons e4 p4 =>
   have Me : (decide (b6 < (List.length xb.Strokes : Int))) = true := dQ ga iy
   have we := cA ga iy
   have Mf := dN ga iy g5
   simp only [mH, hs, reduceCtorEq] at h
   cases lg : (e4.Board == aO)
   ·simp only [lg, hs] at h
    have sK := And.intro aQ (And.intro g5 (And.intro bD (And.intro jr (And.intro H6 (And.intro H7 (And.intro H8 (And.intro f7 (And.intro mO (And.intro hX (And.intro mP (And.intro mQ (And.intro Me (And.intro Mf lg)))))))))))))
    simp only [vz, mq, mqm, vsi, tyf, mqt, sK, e9, aV, aZ, bh, aW, bu, bn, (aJ we), nm, seval]
    exact ⟨List.length p4, Nat.lt_succ_self _, by rw [mj]; refine ⟨p4, b6 + 1, dv, .ref rb 0 (List.length dv) 1 (List.length dv), rfl, Int.le_trans ga (Int.le_add_one (Int.le_refl _)), bJ ga iy, rfl, (show nx + 8 ≤ kc + 13 by omega), ?_, ?_, ?_, e9, aV, aZ, bh, aW, ?_, ?_, Or.inl ⟨rb, iW, rfl, (by first | omega | (simp only [nm, seval]; done) | (simp only [nm, seval]; omega)), (by first | omega | (intro hh; simp only [sK, reduceCtorEq] at hh)), (by first | omega | (intro hh; simp only [sK, reduceCtorEq] at hh)), (by first | omega | (intro hh; simp only [sK, reduceCtorEq] at hh)), ?_⟩, (by first | exact h | (simp only [sK]; exact h))⟩ <;> first | (simp only [ua, bP, sK, e9, aV, aZ, bh, aW, bu, bn, nm, seval] <;> rfl) | rfl⟩
   simp only [lg, hs] at h
   have fU := And.intro aQ (And.intro g5 (And.intro bD (And.intro jr (And.intro H6 (And.intro H7 (And.intro H8 (And.intro f7 (And.intro mO (And.intro hX (And.intro mP (And.intro mQ (And.intro Me (And.intro Mf lg)))))))))))))
   cases dP : (aC 8 (List.length (dv ++ [b6])))
   ·simp only [dP, hs] at h
    exact absurd h xg
   simp only [dP, hs] at h
   simp only [vz, mq, mqm, vsi, tyf, mqt, fU, e9, aV, aZ, bh, aW, bu, bn, (aJ we), dP, nm, seval]
   refine k_app (w := 1) (enc := eI) (xs := dv) (ys := ([b6])) (el := iW) (ff := (some 3)) (fun _ => rfl) eP ei Tryz.underlying22 (by first | rfl | assumption | (simp only [aS, aT, ca, fU, nm, seval] <;> rfl) | (simp only [aS, aT, cP, db, cY, cZ, tyf, mqt, fU, e9, aV, aZ, bh, aW, bu, bn, (aJ we), dP, nm, seval]; done)) (by first | rfl | assumption | (simp only [aS, aT, ca, fU, nm, seval] <;> rfl) | (simp only [aS, aT, cP, db, cY, cZ, tyf, mqt, fU, e9, aV, aZ, bh, aW, bu, bn, (aJ we), dP, nm, seval]; done)) (Nat.zero_lt_succ _) dP ?_
   simp only [vz, mq, mqm, vsi, tyf, mqt, fU, e9, aV, aZ, bh, aW, bu, bn, (aJ we), dP, nm, seval]
   exact ⟨List.length p4, Nat.lt_succ_self _, by rw [mj]; refine ⟨p4, b6 + 1, (dv ++ [b6]), .ref (kc + 14) 0 (List.length (dv ++ [b6])) 1 (List.length (dv ++ [b6])), rfl, Int.le_trans ga (Int.le_add_one (Int.le_refl _)), bJ ga iy, rfl, (show nx + 8 ≤ kc + 18 by omega), ?_, ?_, ?_, e9, aV, aZ, bh, aW, ?_, ?_, Or.inl ⟨kc + 14, (sameEl iW 3), rfl, (by first | omega | (simp only [nm, seval]; done) | (simp only [nm, seval]; omega)), (by first | omega | (intro hh; simp only [fU, reduceCtorEq] at hh)), (by first | omega | (intro hh; simp only [fU, reduceCtorEq] at hh)), (by first | omega | (intro hh; simp only [fU, reduceCtorEq] at hh)), ?_⟩, (by first | exact h | (simp only [fU]; exact h))⟩ <;> first | (simp only [ua, bP, fU, e9, aV, aZ, bh, aW, bu, bn, nm, seval] <;> rfl) | rfl⟩
 ·cases p4 with
  | nil =>
   have sI : (decide (b6 < (List.length xb.Strokes : Int))) = false := dR ga iy
   simp only [mH, hs, reduceCtorEq] at h
   replace h := xf _ h
   try dsimp only at h
   try simp only [hs] at h
   obtain ⟨gI, vG, h⟩ := optI h kN
   try simp only [hs] at h
   simp only [vz, mq, mqm, vsi, tyf, mqt, aQ, g5, bD, jr, e9, aV, aZ, bh, aW, bu, bn, H6, H7, H8, sI, nm, seval]
   refine kupd (VUpd.at (β := bj) (y := (fun _ => .agg (aL gI.1))) (Md _ _ _ _ _ vG) (by omega) (by first | rfl | assumption | (simp only [aS, aT, aQ, bD, jr, H6, H7, H8, nm, seval] <;> rfl)) (by first | rfl | (simp only [nrm, aI, @eh, @gA] <;> rfl)) (g9 (fun _ => rfl) _)) ?_
   refine gW (fun tm => tm 4 = .ptr (nx + 1) 0 ∧ tm 28 = .agg (aL gI.1) ∧ True) (by refine ⟨aZ, ?_, trivial⟩ <;> first | (simp only [ua, bP, aQ, bD, jr, e9, aV, aZ, bh, aW, bu, bn, H6, H7, H8, sI, nm, seval] <;> rfl) | rfl) ?_
   rintro tm ⟨cS, bV, _⟩
   have Gz := And.intro aQ (And.intro g5 (And.intro bD (And.intro jr (And.intro H6 (And.intro H7 (And.intro H8 sI))))))
   try simp only [vz, mq, mqm, vsi, tyf, mqt, Gz, cS, bV, nm, seval]
   refine cL (x := (.agg (aL gI.1))) (by first | (simp only [Tryz.results72, resV, resL, resV1, cF, cE, uw, cr, tyf, mqt, Gz, cS, bV, nm, seval] <;> rfl) | rfl) ?_
   obtain rfl := kF _ h
   refine ⟨(by first | rfl | assumption | (simp only [aS, aT, Gz, nm, seval] <;> rfl)), ?_⟩
   exact sq_of (jw (by first | (simp only [tre, tytre, mqr, Bool.and_self]; done) | rfl) rfl)
  | cons e4 p4 =>
   have jk : (decide (b6 < (List.length xb.Strokes : Int))) = true := dQ ga iy
   have j6 := cA ga iy
   have j7 := dN ga iy g5
   simp only [mH, hs, reduceCtorEq] at h
   cases fH : (e4.Board == aO)
   ·simp only [fH, hs] at h
    have G1 := And.intro aQ (And.intro g5 (And.intro bD (And.intro jr (And.intro H6 (And.intro H7 (And.intro H8 (And.intro jk (And.intro j7 fH))))))))
    simp only [vz, mq, mqm, vsi, tyf, mqt, G1, e9, aV, aZ, bh, aW, bu, bn, (aJ j6), nm, seval]
    exact ⟨List.length p4, Nat.lt_succ_self _, by rw [mj]; refine ⟨p4, b6 + 1, ([] : List Int), .lit (.slice none 0 0), rfl, Int.le_trans ga (Int.le_add_one (Int.le_refl _)), bJ ga iy, rfl, (show nx + 8 ≤ kc + 13 by omega), ?_, ?_, ?_, e9, aV, aZ, bh, aW, ?_, ?_, Or.inr ⟨rfl, rfl⟩, (by first | exact h | (simp only [G1]; exact h))⟩ <;> first | (simp only [ua, bP, G1, e9, aV, aZ, bh, aW, bu, bn, nm, seval] <;> rfl) | rfl⟩
   simp only [fH, hs] at h
   have nO := And.intro aQ (And.intro g5 (And.intro bD (And.intro jr (And.intro H6 (And.intro H7 (And.intro H8 (And.intro jk (And.intro j7 fH))))))))
   cases jW : (aC 8 (List.length (([] : List Int) ++ [b6])))
   ·simp only [jW, hs] at h
    exact absurd h xg
   simp only [jW, hs] at h
   simp only [vz, mq, mqm, vsi, tyf, mqt, nO, e9, aV, aZ, bh, aW, bu, bn, (aJ j6), jW, nm, seval]
   refine kJ (w := 1) (enc := eI) (ys := ([b6])) (ff := (some 3)) (fun _ => rfl) eP ei Tryz.underlying22 (by first | rfl | assumption | (simp only [aS, aT, ca, nO, nm, seval] <;> rfl) | (simp only [aS, aT, cP, db, cY, cZ, tyf, mqt, nO, e9, aV, aZ, bh, aW, bu, bn, (aJ j6), jW, nm, seval]; done)) (Nat.zero_lt_succ _) jW ?_
   simp only [vz, mq, mqm, vsi, tyf, mqt, nO, e9, aV, aZ, bh, aW, bu, bn, (aJ j6), jW, nm, seval]
   exact ⟨List.length p4, Nat.lt_succ_self _, by rw [mj]; refine ⟨p4, b6 + 1, (([] : List Int) ++ [b6]), .ref (kc + 14) 0 (List.length (([] : List Int) ++ [b6])) 1 (List.length (([] : List Int) ++ [b6])), rfl, Int.le_trans ga (Int.le_add_one (Int.le_refl _)), bJ ga iy, rfl, (show nx + 8 ≤ kc + 18 by omega), ?_, ?_, ?_, e9, aV, aZ, bh, aW, ?_, ?_, Or.inl ⟨kc + 14, (some 3), rfl, (by first | omega | (simp only [nm, seval]; done) | (simp only [nm, seval]; omega)), (by first | omega | (intro hh; simp only [nO, reduceCtorEq] at hh)), (by first | omega | (intro hh; simp only [nO, reduceCtorEq] at hh)), (by first | omega | (intro hh; simp only [nO, reduceCtorEq] at hh)), ?_⟩, (by first | exact h | (simp only [nO]; exact h))⟩ <;> first | (simp only [ua, bP, nO, e9, aV, aZ, bh, aW, bu, bn, nm, seval] <;> rfl) | rfl⟩
def vB (xb : GBk) (xp : List Int) (xs : Int) (l0 : List (GBe × Int)) : Option ((Int) × List (GBe × Int)) := Option.bind (EL xb xp xs 1 l0) (fun r1 => Option.bind (EJ xb xp xs 1 r1.2) (fun r2 => some (i64.wrap (r1.1 - r2.1), r2.2)))
theorem LA (xb : GBk) (xp : List Int) (xs : Int) (l0 : List (GBe × Int)) (R : (Int) × List (GBe × Int)) (h : vB xb xp xs l0 = some R) : VUpd Tryz.prog G0 77 (fun β => [.agg [.lit (.int .i64 xb.Apprentices), .sl (aa eI xb.Boards) (List.length xb.Boards) false, .sl (aa cGBs xb.Strokes) (List.length xb.Strokes) false, .sl (aa eI xp) (List.length xp) false, .mp β], .lit (.int .i64 xs)]) (encM aP cI l0) (encM aP cI R.2) (fun _ => .lit (.int .i64 R.1)) := by
 intro bj nx hlt
 have aQ := gF (β := bj) (nx := nx) hlt
 refine ar.run mixed Tryz.call77 Tryz.func77 rfl (by simp [Tryz.ntmps77]; kernel_rfl) ?_
 obtain ⟨KF, h, kF, kN⟩ := cO h
 simp only [vB] at h
 simp only [vz, mq, mqm, vsi, tyf, mqt, aQ, nm, seval]
 refine mh (fun tm => tm 1 = .lit (.int .i64 xs) ∧ tm 2 = .ptr nx 0 ∧ True) (by refine ⟨?_, ?_, trivial⟩ <;> first | (simp only [ua, bP, aQ, nm, seval] <;> rfl) | rfl) ?_
 rintro tm ⟨e3, e4, _⟩
 obtain ⟨r5, o6, h⟩ := optI h kN
 try simp only [hs] at h
 simp only [vz, mq, mqm, vsi, tyf, mqt, aQ, e3, e4, nm, seval]
 refine dkupd (VUpd.at (β := bj) (y := (fun _ => .lit (.int .i64 r5.1))) (Qw _ _ _ _ _ _ o6) (by omega) (by first | rfl | assumption | (simp only [aS, aT, aQ, nm, seval] <;> rfl)) (by first | rfl | (simp only [nrm, aI, @eh, @gA] <;> rfl)) (g9 (fun _ => rfl) _)) ?_
 refine gW (fun tm => tm 1 = .lit (.int .i64 xs) ∧ tm 2 = .ptr nx 0 ∧ tm 7 = .lit (.int .i64 r5.1) ∧ True) (by refine ⟨e3, e4, ?_, trivial⟩ <;> first | (simp only [ua, bP, aQ, e3, e4, nm, seval] <;> rfl) | rfl) ?_
 rintro tm ⟨e7, e8, e9, _⟩
 obtain ⟨km, iP, h⟩ := optI h kN
 try simp only [hs] at h
 simp only [vz, mq, mqm, vsi, tyf, mqt, aQ, e7, e8, e9, nm, seval]
 refine dkupd (VUpd.at (β := bj) (y := (fun _ => .lit (.int .i64 km.1))) (Qv _ _ _ _ _ _ iP) (by omega) (by first | rfl | assumption | (simp only [aS, aT, aQ, nm, seval] <;> rfl)) (by first | rfl | (simp only [nrm, aI, @eh, @gA] <;> rfl)) (g9 (fun _ => rfl) _)) ?_
 refine gW (fun tm => tm 7 = .lit (.int .i64 r5.1) ∧ tm 10 = .lit (.int .i64 km.1) ∧ True) (by refine ⟨e9, ?_, trivial⟩ <;> first | (simp only [ua, bP, aQ, e7, e8, e9, nm, seval] <;> rfl) | rfl) ?_
 rintro tm ⟨bh, aW, _⟩
 simp only [vz, mq, mqm, vsi, tyf, mqt, aQ, bh, aW, nm, seval]
 refine mz ⟨?_, ?_⟩
 ·simp only [m0, m2, hJ, m3, and_true, true_and]
  repeat' (first | exact trivial | refine And.intro ?_ ?_ | rw [hJ] | rw [m4] | exact Or.inl (by decide +kernel) | exact Or.inl (by dsimp only; decide +kernel) | (refine Or.inr ⟨?_, ?_⟩ <;> simp; done) | (refine Or.inr ⟨?_, ?_⟩ <;> simp <;> omega) | (refine Or.inr ⟨?_, ?_⟩ <;> simp [VEff.wr] <;> omega))
 try simp only [vz, mq, mqm, vsi, tyf, mqt, aQ, bh, aW, nm, seval]
 refine cL (x := (.lit (.int .i64 (i64.wrap (r5.1 - km.1))))) (by first | (simp only [Tryz.results77, resV, resL, resV1, cF, cE, uw, cr, tyf, mqt, aQ, nm, seval] <;> rfl) | rfl) ?_
 obtain rfl := kF _ h
 refine ⟨(by first | rfl | assumption | (simp only [aS, aT, aQ, nm, seval] <;> rfl)), ?_⟩
 exact sq_of (jw (by first | (simp only [tre, tytre, mqr, Bool.and_self]; done) | rfl) rfl)

end Go.V
end
