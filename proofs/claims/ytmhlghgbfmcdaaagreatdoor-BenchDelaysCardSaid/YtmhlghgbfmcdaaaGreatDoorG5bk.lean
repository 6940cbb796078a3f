/- Part of a proof. -/
import Derived.Test.YtmhlghgbfmcdaaaGreatDoorG5bj
set_option linter.all false
set_option maxRecDepth 4000
set_option maxHeartbeats 40000000
section
namespace Go.V
open Go Go.Proofs IntKind
def pq (rc : GBk → (List Int) → Int → Int → (List (Gbe × Int)) → Option ((Int) × List (Gbe × Int))) (aa : GBk) (ag : List Int) (aj : Int) : List Int → Int → (List Int) → (List (Gbe × Int)) → Option (LOut ((List Int) × List (Gbe × Int)) ((List Int) × (List (Gbe × Int))))
 | [], i9, dt, bE => some (.go (dt, bE))
 | e0 :: p0, i9, dt, bE => Option.bind (rc aa ag e0 aj bE) (fun r2 => cond (roomOk 8 (List.length (dt ++ [r2.1]))) (pq rc aa ag aj p0 (i9 + 1) (dt ++ [r2.1]) r2.2) none)
def vE (rc : GBk → (List Int) → Int → Int → (List (Gbe × Int)) → Option ((Int) × List (Gbe × Int))) (aa : GBk) (ag : List Int) (ar : List Int) (aj : Int) (l0 : List (Gbe × Int)) : Option ((List Int) × List (Gbe × Int)) := cond (aF ar) (aT (pq rc aa ag aj ar 0 ([] : List Int) l0) (fun r4 => some r4) (fun c3 => some (c3.1, c3.2)) (fun _ _ => none)) none
theorem P0 (rc : GBk → (List Int) → Int → Int → (List (Gbe × Int)) → Option ((Int) × List (Gbe × Int))) (rc_ok : ∀ (aa : GBk) (ag : List Int) (ah : Int) (aj : Int) (l0 : List (Gbe × Int)) (R : (Int) × List (Gbe × Int)), rc aa ag ah aj l0 = some R → VUpd Tryz.prog G0 118 (fun β => [.agg [.lit (.int .i64 aa.Apprentices), .sl (ae eI aa.Boards) (List.length aa.Boards) false, .sl (ae cGBs aa.Strokes) (List.length aa.Strokes) false, .sl (ae eI ag) (List.length ag) false, .mp β], .lit (.int .i64 ah), .lit (.int .i64 aj)]) (encM aI bQ l0) (encM aI bQ R.2) (fun _ => .lit (.int .i64 R.1))) (aa : GBk) (ag : List Int) (ar : List Int) (aj : Int) (l0 : List (Gbe × Int)) (R : (List Int) × List (Gbe × Int)) (h : vE rc aa ag ar aj l0 = some R) : VUpd Tryz.prog G0 106 (fun β => [.agg [.lit (.int .i64 aa.Apprentices), .sl (ae eI aa.Boards) (List.length aa.Boards) false, .sl (ae cGBs aa.Strokes) (List.length aa.Strokes) false, .sl (ae eI ag) (List.length ag) false, .mp β], .sl (ae eI ar) (List.length ar) false, .lit (.int .i64 aj)]) (encM aI bQ l0) (encM aI bQ R.2) (fun _ => .sl (ae eI R.1) (List.length R.1) false) := by
 intro bp nx hlt
 have aZ := hY (β := bp) (nx := nx) hlt
 refine aB.run mixed Tryz.call106 Tryz.func106 rfl (by simp [Tryz.ntmps106]; kernel_rfl) ?_
 obtain ⟨KF, h, kF, kN⟩ := cR h
 simp only [vE] at h
 cases g6 : (aF ar)
 ·simp only [g6, hs] at h
  exact absurd h kN
 simp only [g6, hs] at h
 simp only [vz, mq, mqm, vsi, tyf, mqt, aZ, g6, nm, seval]
 obtain ⟨K5, h, P1, BX, Tm, vF⟩ := fa h kN
 obtain ⟨f5, DV, h⟩ := call4 h
 obtain ⟨I5, qR⟩ : ∃ I : Nat → St → Prop, I = (fun m st => ∃ (p5 : List Int) (di : Int) (cv : List Int) (mO : List (Gbe × Int)) (pv : VV), m = List.length p5 ∧ 0 ≤ di ∧ List.drop (Int.toNat di) ar = p5 ∧ st.df = [] ∧ nx + 6 ≤ st.nx ∧ st.H bp = some (.map (encM aI bQ mO)) ∧ st.H nx = some (.cells (some 92) ((cGBk aa) ++ [.sl (ae eI ag) (List.length ag) false] ++ [.mp bp])) ∧ st.tm 2 = .lit (.int .i64 aj) ∧ st.tm 3 = .ptr nx 0 ∧ st.tm 10 = .sl (ae eI ar) (List.length ar) false ∧ st.tm 11 = .lit (.int .i64 (List.length ar : Int)) ∧ st.tm 7 = pv ∧ st.tm 12 = .lit (.int .i64 di) ∧ ((∃ (β : Nat) (el : Option TypeId), pv = .ref β 0 (List.length cv) 1 (List.length cv) ∧ β < st.nx ∧ β ≠ bp ∧ β ≠ nx ∧ st.H β = some (.cells el (ae eI cv))) ∨ (pv = .lit (.slice none 0 0) ∧ cv = [])) ∧ K5 (f5 p5 di cv mO)) := ⟨_, rfl⟩
 refine loopK mixed (by kernel_rfl) I5 (List.length ar) (by rw [qR]; refine ⟨ar, 0, ([] : List Int), l0, .lit (.slice none 0 0), rfl, Int.le_refl _, rfl, rfl, (show nx + 6 ≤ nx + 6 by omega), ?_, ?_, ?_, ?_, ?_, ?_, ?_, ?_, Or.inr ⟨rfl, rfl⟩, h⟩ <;> first | (simp only [ua, bL, aZ, nm, seval] <;> rfl) | rfl) ?_
 rintro m ⟨tm, H, mP, df⟩ hinv
 rw [qR] at hinv
 obtain ⟨p5, di, cv, mO, pv, rfl, iM, jV, hdf, DW, H7, H8, e9, bj, bG, bX, cg, dM, qS, h⟩ := hinv
 simp only at hdf DW H7 H8 e9 bj bG bX cg dM qS
 have gz := mn (a := nx) (m := 6) (b := mP) (by omega)
 have g0 := hY (β := bp) (nx := mP) (by omega)
 subst hdf DV
 rcases qS with ⟨xm, qT, rfl, DX, DY, DZ, pw⟩ | ⟨rfl, rfl⟩
 ·have px := hY DX
  have py := ne_f DY
  have pz := ne_f DZ
  cases p5 with
  | nil =>
   have p8 : (decide (di < (List.length ar : Int))) = false := fc iM jV
   simp only [pq, hs, reduceCtorEq] at h
   replace h := BX _ h
   try dsimp only at h
   try simp only [hs] at h
   try simp only [vz, mq, mqm, vsi, tyf, mqt, aZ, g6, gz, g0, e9, bj, bG, bX, cg, dM, H7, H8, px, pw, py, pz, p8, nm, seval]
   refine cz (x := (.ref xm 0 (List.length cv) 1 (List.length cv))) (by first | (simp only [Tryz.results106, resV, resL, aO, cj, ck, uw, cr, tyf, mqt, aZ, g6, gz, g0, H7, H8, px, pw, py, pz, p8, nm, seval] <;> rfl) | rfl) ?_
   obtain rfl := kF _ h
   refine ⟨(by first | rfl | assumption | (simp only [bc, bm, aZ, gz, g0, H7, H8, px, pw, py, pz, nm, seval] <;> rfl)), ?_⟩
   exact Ea (by first | rfl | assumption | (simp only [bc, bm, aZ, gz, g0, H7, H8, px, pw, py, pz, nm, seval] <;> rfl)) (by first | rfl | assumption | (simp only [bc, bm, aZ, gz, g0, H7, H8, px, pw, py, pz, nm, seval] <;> rfl)) eI_ok (fun _ => rfl)
  | cons e5 p5 =>
   have so : (decide (di < (List.length ar : Int))) = true := fe iM jV
   have pA := dD iM jV
   have mQ := eG iM jV g6
   simp only [pq, hs, reduceCtorEq] at h
   obtain ⟨jx, lf, h⟩ := optI h vF
   try simp only [hs] at h
   simp only [vz, mq, mqm, vsi, tyf, mqt, aZ, g6, gz, g0, e9, bj, bG, bX, cg, dM, H7, H8, px, pw, py, pz, so, (aw pA), mQ, nm, seval]
   refine kupd (VUpd.at (β := bp) (y := (fun _ => .lit (.int .i64 jx.1))) (rc_ok _ _ _ _ _ _ lf) (by omega) (by first | rfl | assumption | (simp only [bc, bm, aZ, gz, g0, H7, H8, px, pw, py, pz, nm, seval] <;> rfl)) (by first | rfl | (simp only [nrm, aG, @cT, @fp] <;> rfl)) (gg (fun _ => rfl) _)) ?_
   refine gw (fun tm => tm 2 = .lit (.int .i64 aj) ∧ tm 3 = .ptr nx 0 ∧ tm 10 = .sl (ae eI ar) (List.length ar) false ∧ tm 11 = .lit (.int .i64 (List.length ar : Int)) ∧ tm 12 = .lit (.int .i64 di) ∧ tm 16 = .ref xm 0 (List.length cv) 1 (List.length cv) ∧ tm 20 = .lit (.int .i64 jx.1) ∧ True) (by refine ⟨e9, bj, bG, bX, dM, ?_, ?_, trivial⟩ <;> first | (simp only [ua, bL, aZ, gz, g0, e9, bj, bG, bX, cg, dM, H7, H8, px, pw, py, pz, so, mQ, nm, seval] <;> rfl) | rfl) ?_
   rintro tm ⟨bu, cU, cI, du, dr, fW, gh, _⟩
   have m2 := And.intro aZ (And.intro g6 (And.intro gz (And.intro g0 (And.intro H7 (And.intro H8 (And.intro px (And.intro pw (And.intro py (And.intro pz (And.intro so mQ))))))))))
   cases kf : (roomOk 8 (List.length (cv ++ [jx.1])))
   ·simp only [kf, hs] at h
    exact absurd h vF
   simp only [kf, hs] at h
   simp only [vz, mq, mqm, vsi, tyf, mqt, m2, (aw pA), bu, cU, cI, du, dr, fW, gh, kf, nm, seval]
   refine k_app (w := 1) (enc := eI) (xs := cv) (ys := ([jx.1])) (el := qT) (jT := (some 3)) (fun _ => rfl) gL gi Tryz.underlying22 (by first | rfl | assumption | (simp only [bc, bm, dE, m2, nm, seval] <;> rfl) | (simp only [bc, bm, fP, gv, gd, gf, tyf, mqt, m2, (aw pA), bu, cU, cI, du, dr, fW, gh, kf, nm, seval]; done)) (by first | rfl | assumption | (simp only [bc, bm, dE, m2, nm, seval] <;> rfl) | (simp only [bc, bm, fP, gv, gd, gf, tyf, mqt, m2, (aw pA), bu, cU, cI, du, dr, fW, gh, kf, nm, seval]; done)) (Nat.zero_lt_succ _) kf ?_
   simp only [vz, mq, mqm, vsi, tyf, mqt, m2, (aw pA), bu, cU, cI, du, dr, fW, gh, kf, nm, seval]
   exact ⟨List.length p5, Nat.lt_succ_self _, by rw [qR]; refine ⟨p5, di + 1, (cv ++ [jx.1]), jx.2, .ref (mP + 10) 0 (List.length (cv ++ [jx.1])) 1 (List.length (cv ++ [jx.1])), rfl, Int.le_trans iM (Int.le_add_one (Int.le_refl _)), cC iM jV, rfl, (show nx + 6 ≤ mP + 14 by omega), ?_, ?_, bu, cU, cI, du, ?_, ?_, Or.inl ⟨mP + 10, (sameEl qT 3), rfl, (by first | omega | (simp only [nm, seval]; done) | (simp only [nm, seval]; omega)), (by first | omega | (intro hh; simp only [m2, reduceCtorEq] at hh)), (by first | omega | (intro hh; simp only [m2, reduceCtorEq] at hh)), ?_⟩, (by first | exact h | (simp only [m2]; exact h))⟩ <;> first | (simp only [ua, bL, m2, bu, cU, cI, du, dr, fW, gh, nm, seval] <;> rfl) | rfl⟩
 ·cases p5 with
  | nil =>
   have P2 : (decide (di < (List.length ar : Int))) = false := fc iM jV
   simp only [pq, hs, reduceCtorEq] at h
   replace h := BX _ h
   try dsimp only at h
   try simp only [hs] at h
   try simp only [vz, mq, mqm, vsi, tyf, mqt, aZ, g6, gz, g0, e9, bj, bG, bX, cg, dM, H7, H8, P2, nm, seval]
   refine cz (x := (.lit (.slice none 0 0))) (by first | (simp only [Tryz.results106, resV, resL, aO, cj, ck, uw, cr, tyf, mqt, aZ, g6, gz, g0, H7, H8, P2, nm, seval] <;> rfl) | rfl) ?_
   obtain rfl := kF _ h
   refine ⟨(by first | rfl | assumption | (simp only [bc, bm, aZ, gz, g0, H7, H8, nm, seval] <;> rfl)), ?_⟩
   exact sq_of Eb
  | cons e5 p5 =>
   have kh : (decide (di < (List.length ar : Int))) = true := fe iM jV
   have vB := dD iM jV
   have Ec := eG iM jV g6
   simp only [pq, hs, reduceCtorEq] at h
   obtain ⟨qU, qV, h⟩ := optI h vF
   try simp only [hs] at h
   simp only [vz, mq, mqm, vsi, tyf, mqt, aZ, g6, gz, g0, e9, bj, bG, bX, cg, dM, H7, H8, kh, (aw vB), Ec, nm, seval]
   refine kupd (VUpd.at (β := bp) (y := (fun _ => .lit (.int .i64 qU.1))) (rc_ok _ _ _ _ _ _ qV) (by omega) (by first | rfl | assumption | (simp only [bc, bm, aZ, gz, g0, H7, H8, nm, seval] <;> rfl)) (by first | rfl | (simp only [nrm, aG, @cT, @fp] <;> rfl)) (gg (fun _ => rfl) _)) ?_
   refine gw (fun tm => tm 2 = .lit (.int .i64 aj) ∧ tm 3 = .ptr nx 0 ∧ tm 10 = .sl (ae eI ar) (List.length ar) false ∧ tm 11 = .lit (.int .i64 (List.length ar : Int)) ∧ tm 12 = .lit (.int .i64 di) ∧ tm 16 = .lit (.slice none 0 0) ∧ tm 20 = .lit (.int .i64 qU.1) ∧ True) (by refine ⟨e9, bj, bG, bX, dM, ?_, ?_, trivial⟩ <;> first | (simp only [ua, bL, aZ, gz, g0, e9, bj, bG, bX, cg, dM, H7, H8, kh, Ec, nm, seval] <;> rfl) | rfl) ?_
   rintro tm ⟨de, cN, d4, eA, gj, dL, dq, _⟩
   have qW := And.intro aZ (And.intro g6 (And.intro gz (And.intro g0 (And.intro H7 (And.intro H8 (And.intro kh Ec))))))
   cases vG : (roomOk 8 (List.length (([] : List Int) ++ [qU.1])))
   ·simp only [vG, hs] at h
    exact absurd h vF
   simp only [vG, hs] at h
   simp only [vz, mq, mqm, vsi, tyf, mqt, qW, (aw vB), de, cN, d4, eA, gj, dL, dq, vG, nm, seval]
   refine l8 (w := 1) (enc := eI) (ys := ([qU.1])) (jT := (some 3)) (fun _ => rfl) gL gi Tryz.underlying22 (by first | rfl | assumption | (simp only [bc, bm, dE, qW, nm, seval] <;> rfl) | (simp only [bc, bm, fP, gv, gd, gf, tyf, mqt, qW, (aw vB), de, cN, d4, eA, gj, dL, dq, vG, nm, seval]; done)) (Nat.zero_lt_succ _) vG ?_
   simp only [vz, mq, mqm, vsi, tyf, mqt, qW, (aw vB), de, cN, d4, eA, gj, dL, dq, vG, nm, seval]
   exact ⟨List.length p5, Nat.lt_succ_self _, by rw [qR]; refine ⟨p5, di + 1, (([] : List Int) ++ [qU.1]), qU.2, .ref (mP + 10) 0 (List.length (([] : List Int) ++ [qU.1])) 1 (List.length (([] : List Int) ++ [qU.1])), rfl, Int.le_trans iM (Int.le_add_one (Int.le_refl _)), cC iM jV, rfl, (show nx + 6 ≤ mP + 14 by omega), ?_, ?_, de, cN, d4, eA, ?_, ?_, Or.inl ⟨mP + 10, (some 3), rfl, (by first | omega | (simp only [nm, seval]; done) | (simp only [nm, seval]; omega)), (by first | omega | (intro hh; simp only [qW, reduceCtorEq] at hh)), (by first | omega | (intro hh; simp only [qW, reduceCtorEq] at hh)), ?_⟩, (by first | exact h | (simp only [qW]; exact h))⟩ <;> first | (simp only [ua, bL, qW, de, cN, d4, eA, gj, dL, dq, nm, seval] <;> rfl) | rfl⟩
def vH (rc : GBk → (List Int) → Int → Int → (List (Gbe × Int)) → Option ((Int) × List (Gbe × Int))) (aa : GBk) (ag : List Int) (ah : Int) (aj : Int) (l0 : List (Gbe × Int)) : Option ((Int) × List (Gbe × Int)) := Option.bind (xn rc aa ag ah aj l0) (fun r1 => Option.bind (getI aa.Strokes ah) (fun x2 => Option.bind (vE rc aa ag x2.Needs aj r1.2) (fun r3 => Option.bind (pC r3.1) (fun r4 => Option.bind (pC ([r1.1, r4])) (fun r5 => some (r5, r3.2))))))
theorem Ee (rc : GBk → (List Int) → Int → Int → (List (Gbe × Int)) → Option ((Int) × List (Gbe × Int))) (rc_ok : ∀ (aa : GBk) (ag : List Int) (ah : Int) (aj : Int) (l0 : List (Gbe × Int)) (R : (Int) × List (Gbe × Int)), rc aa ag ah aj l0 = some R → VUpd Tryz.prog G0 118 (fun β => [.agg [.lit (.int .i64 aa.Apprentices), .sl (ae eI aa.Boards) (List.length aa.Boards) false, .sl (ae cGBs aa.Strokes) (List.length aa.Strokes) false, .sl (ae eI ag) (List.length ag) false, .mp β], .lit (.int .i64 ah), .lit (.int .i64 aj)]) (encM aI bQ l0) (encM aI bQ R.2) (fun _ => .lit (.int .i64 R.1))) (aa : GBk) (ag : List Int) (ah : Int) (aj : Int) (l0 : List (Gbe × Int)) (R : (Int) × List (Gbe × Int)) (h : vH rc aa ag ah aj l0 = some R) : VUpd Tryz.prog G0 107 (fun β => [.agg [.lit (.int .i64 aa.Apprentices), .sl (ae eI aa.Boards) (List.length aa.Boards) false, .sl (ae cGBs aa.Strokes) (List.length aa.Strokes) false, .sl (ae eI ag) (List.length ag) false, .mp β], .lit (.int .i64 ah), .lit (.int .i64 aj)]) (encM aI bQ l0) (encM aI bQ R.2) (fun _ => .lit (.int .i64 R.1)) := by
 intro bp nx hlt
 have aZ := hY (β := bp) (nx := nx) hlt
 refine aB.run mixed Tryz.call107 Tryz.func107 rfl (by simp [Tryz.ntmps107]; kernel_rfl) ?_
 obtain ⟨KF, h, kF, kN⟩ := cR h
 simp only [vH] at h
 simp only [vz, mq, mqm, vsi, tyf, mqt, aZ, nm, seval]
 refine sn (fun tm => tm 1 = .lit (.int .i64 ah) ∧ tm 2 = .lit (.int .i64 aj) ∧ tm 3 = .ptr nx 0 ∧ True) (by refine ⟨?_, ?_, ?_, trivial⟩ <;> first | (simp only [ua, bL, aZ, nm, seval] <;> rfl) | rfl) ?_
 rintro tm ⟨e6, e7, e8, _⟩
 obtain ⟨r9, jh, h⟩ := optI h kN
 try simp only [hs] at h
 simp only [vz, mq, mqm, vsi, tyf, mqt, aZ, e6, e7, e8, nm, seval]
 refine dkupd (VUpd.at (β := bp) (y := (fun _ => .lit (.int .i64 r9.1))) (Tn rc rc_ok _ _ _ _ _ _ jh) (by omega) (by first | rfl | assumption | (simp only [bc, bm, aZ, nm, seval] <;> rfl)) (by first | rfl | (simp only [nrm, aG, @cT, @fp] <;> rfl)) (gg (fun _ => rfl) _)) ?_
 refine gw (fun tm => tm 1 = .lit (.int .i64 ah) ∧ tm 2 = .lit (.int .i64 aj) ∧ tm 3 = .ptr nx 0 ∧ tm 10 = .lit (.int .i64 r9.1) ∧ True) (by refine ⟨e6, e7, e8, ?_, trivial⟩ <;> first | (simp only [ua, bL, aZ, e6, e7, e8, nm, seval] <;> rfl) | rfl) ?_
 rintro tm ⟨bG, bX, cg, dM, _⟩
 obtain ⟨mz, dZ, h⟩ := optI h kN
 try simp only [hs] at h
 obtain ⟨mR, xo, h⟩ := optI h kN
 try simp only [hs] at h
 simp only [vz, mq, mqm, vsi, tyf, mqt, aZ, bG, bX, cg, dM, (aM dZ), nm, seval]
 refine dkupd (VUpd.at (β := bp) (y := (fun _ => .sl (ae eI mR.1) (List.length mR.1) false)) (P0 rc rc_ok _ _ _ _ _ _ xo) (by omega) (by first | rfl | assumption | (simp only [bc, bm, aZ, nm, seval] <;> rfl)) (by first | rfl | (simp only [nrm, aG, @cT, @fp] <;> rfl)) (gg (fun _ => rfl) _)) ?_
 refine gw (fun tm => tm 10 = .lit (.int .i64 r9.1) ∧ tm 20 = .sl (ae eI mR.1) (List.length mR.1) false ∧ True) (by refine ⟨dM, ?_, trivial⟩ <;> first | (simp only [ua, bL, aZ, bG, bX, cg, dM, nm, seval] <;> rfl) | rfl) ?_
 rintro tm ⟨cP, gb, _⟩
 obtain ⟨ke, ou, h⟩ := optI h kN
 try simp only [hs] at h
 simp only [vz, mq, mqm, vsi, tyf, mqt, aZ, (aM dZ), cP, gb, nm, seval]
 refine dktree (args0 := [.sl (ae eI mR.1) (List.length mR.1) false]) (by first | (simp only [nrm, aG, @cT] <;> rfl) | rfl) (by simp only [tre, aK, mqr, Bool.and_self]) (xp _ _ ou) ?_
 refine bM (fun tm => tm 10 = .lit (.int .i64 r9.1) ∧ tm 21 = .lit (.int .i64 ke) ∧ True) (by refine ⟨cP, ?_, trivial⟩ <;> first | (simp only [ua, bL, aZ, cP, gb, nm, seval] <;> rfl) | rfl) ?_
 rintro tm ⟨bU, cn, _⟩
 obtain ⟨jx, lf, h⟩ := optI h kN
 try simp only [hs] at h
 simp only [vz, mq, mqm, vsi, tyf, mqt, aZ, (aM dZ), bU, cn, nm, seval]
 refine dkseen1 (w := 1) (enc := eI) (xs := ([r9.1, ke])) (el := (some 3)) ⟨eI_ok.tree, eI_ok.norm⟩ (fun _ => rfl) (by simp only [List.length_cons, List.length_nil]; decide) (by simp only [bc, bm, dE, aZ, nm, seval] <;> rfl) (xp _ _ lf) (by first | rfl | simp only [VV.flat, flatL, Bool.and_self]) ?_
 refine bM (fun tm => tm 23 = .lit (.int .i64 jx) ∧ True) (by refine ⟨?_, trivial⟩ <;> first | (simp only [ua, bL, aZ, bU, cn, nm, seval] <;> rfl) | rfl) ?_
 rintro tm ⟨bu, _⟩
 simp only [vz, mq, mqm, vsi, tyf, mqt, aZ, (aM dZ), bu, nm, seval]
 refine po ⟨?_, ?_⟩
 ·simp only [jo, jq, dV, jr, and_true, true_and]
  repeat' (first | exact trivial | refine And.intro ?_ ?_ | rw [dV] | rw [js] | exact Or.inl (by decide +kernel) | exact Or.inl (by dsimp only; decide +kernel) | (refine Or.inr ⟨?_, ?_⟩ <;> simp; done) | (refine Or.inr ⟨?_, ?_⟩ <;> simp <;> omega) | (refine Or.inr ⟨?_, ?_⟩ <;> simp [VEff.wr] <;> omega))
 try simp only [vz, mq, mqm, vsi, tyf, mqt, aZ, (aM dZ), bu, nm, seval]
 refine cz (x := (.lit (.int .i64 jx))) (by first | (simp only [Tryz.results107, resV, resL, aO, cj, ck, uw, cr, tyf, mqt, aZ, (aM dZ), nm, seval] <;> rfl) | rfl) ?_
 obtain rfl := kF _ h
 refine ⟨(by first | rfl | assumption | (simp only [bc, bm, aZ, nm, seval] <;> rfl)), ?_⟩
 exact sq_of (jd (by simp only [tre, aK, mqr, Bool.and_self]) rfl)
def xq (aa : GBk) (ag : List Int) (ah : Int) : Option (Int) := Option.bind (getI aa.Strokes ah) (fun x1 => some x1.Hours.Low)
theorem To (aa : GBk) (ag : List Int) (ah : Int) (b : Nat) (R : Int) (h : xq aa ag ah = some R) : al Tryz.prog G0 139 [.agg [.lit (.int .i64 aa.Apprentices), .sl (ae eI aa.Boards) (List.length aa.Boards) false, .sl (ae cGBs aa.Strokes) (List.length aa.Strokes) false, .sl (ae eI ag) (List.length ag) false, .lit (.map (some b))], .lit (.int .i64 ah)] (.tree (.lit (.int .i64 R))) := by
 refine al.runR mixed Tryz.call139 Tryz.func139 rfl (by simp [Tryz.ntmps139]; kernel_rfl) ?_
 obtain ⟨KF, h, kF, kN⟩ := cR h
 simp only [xq] at h
 obtain ⟨x2, o3, h⟩ := optI h kN
 try simp only [hs] at h
 try simp only [vz, vsi, tyf, (aM o3), nm, seval]
 refine cz (x := (.lit (.int .i64 x2.Hours.Low))) (by first | (simp only [Tryz.results139, resV, resL, aO, cj, ck, uw, cr, tyf, (aM o3), nm, seval] <;> rfl) | rfl) ?_
 obtain rfl := kF _ h
 refine gV ?_ ?_
 ·simp only [tre, aK, Bool.and_self]
 ·first | (simp only [outV, uw, gq, cr, tyf, nrm, aG, (aM o3), nm, seval] <;> rfl) | rfl
def xr (aa : GBk) (ag : List Int) (ah : Int) : Option (Int) := Option.bind (getI aa.Strokes ah) (fun x1 => some x1.Hours.High)
theorem Tp (aa : GBk) (ag : List Int) (ah : Int) (b : Nat) (R : Int) (h : xr aa ag ah = some R) : al Tryz.prog G0 140 [.agg [.lit (.int .i64 aa.Apprentices), .sl (ae eI aa.Boards) (List.length aa.Boards) false, .sl (ae cGBs aa.Strokes) (List.length aa.Strokes) false, .sl (ae eI ag) (List.length ag) false, .lit (.map (some b))], .lit (.int .i64 ah)] (.tree (.lit (.int .i64 R))) := by
 refine al.runR mixed Tryz.call140 Tryz.func140 rfl (by simp [Tryz.ntmps140]; kernel_rfl) ?_
 obtain ⟨KF, h, kF, kN⟩ := cR h
 simp only [xr] at h
 obtain ⟨x2, o3, h⟩ := optI h kN
 try simp only [hs] at h
 try simp only [vz, vsi, tyf, (aM o3), nm, seval]
 refine cz (x := (.lit (.int .i64 x2.Hours.High))) (by first | (simp only [Tryz.results140, resV, resL, aO, cj, ck, uw, cr, tyf, (aM o3), nm, seval] <;> rfl) | rfl) ?_
 obtain rfl := kF _ h
 refine gV ?_ ?_
 ·simp only [tre, aK, Bool.and_self]
 ·first | (simp only [outV, uw, gq, cr, tyf, nrm, aG, (aM o3), nm, seval] <;> rfl) | rfl
def xt (rc : GBk → (List Int) → Int → Int → (List (Gbe × Int)) → Option ((Int) × List (Gbe × Int))) (aa : GBk) (ag : List Int) (ah : Int) (aj : Int) (l0 : List (Gbe × Int)) : Option ((Int) × List (Gbe × Int)) := cond (mapHas dP l0 (Gbe.mk ah aj)) (some (mapGet dP 0 l0 (Gbe.mk ah aj), l0)) (Option.bind (vH rc aa ag ah aj l0) (fun r1 => cond (aj == 0) (Option.bind (xq aa ag ah) (fun r2 => some (i64.wrap (r1.1 + r2), mapSet dP r1.2 (Gbe.mk ah aj) (i64.wrap (r1.1 + r2))))) (cond (aj == 1) (Option.bind (xr aa ag ah) (fun r2 => some (i64.wrap (r1.1 + r2), mapSet dP r1.2 (Gbe.mk ah aj) (i64.wrap (r1.1 + r2))))) none)))
theorem Tq (rc : GBk → (List Int) → Int → Int → (List (Gbe × Int)) → Option ((Int) × List (Gbe × Int))) (rc_ok : ∀ (aa : GBk) (ag : List Int) (ah : Int) (aj : Int) (l0 : List (Gbe × Int)) (R : (Int) × List (Gbe × Int)), rc aa ag ah aj l0 = some R → VUpd Tryz.prog G0 118 (fun β => [.agg [.lit (.int .i64 aa.Apprentices), .sl (ae eI aa.Boards) (List.length aa.Boards) false, .sl (ae cGBs aa.Strokes) (List.length aa.Strokes) false, .sl (ae eI ag) (List.length ag) false, .mp β], .lit (.int .i64 ah), .lit (.int .i64 aj)]) (encM aI bQ l0) (encM aI bQ R.2) (fun _ => .lit (.int .i64 R.1))) (aa : GBk) (ag : List Int) (ah : Int) (aj : Int) (l0 : List (Gbe × Int)) (R : (Int) × List (Gbe × Int)) (h : xt rc aa ag ah aj l0 = some R) : VUpd Tryz.prog G0 118 (fun β => [.agg [.lit (.int .i64 aa.Apprentices), .sl (ae eI aa.Boards) (List.length aa.Boards) false, .sl (ae cGBs aa.Strokes) (List.length aa.Strokes) false, .sl (ae eI ag) (List.length ag) false, .mp β], .lit (.int .i64 ah), .lit (.int .i64 aj)]) (encM aI bQ l0) (encM aI bQ R.2) (fun _ => .lit (.int .i64 R.1)) := by
 intro bp nx hlt
 have aZ := hY (β := bp) (nx := nx) hlt
 refine aB.run mixed Tryz.call118 Tryz.func118 rfl (by simp [Tryz.ntmps118]; kernel_rfl) ?_
 obtain ⟨KF, h, kF, kN⟩ := cR h
 simp only [xt] at h
 have w2 := fun H => xu (β := bp) l0 (Gbe.mk ah aj) H
 try simp only [bL] at w2
 cases d3 : (mapHas dP l0 (Gbe.mk ah aj))
 ·simp only [d3, hs] at h
  obtain ⟨r4, o5, h⟩ := optI h kN
  try simp only [hs] at h
  have hk : (aj == 0) = true ∨ ((aj == 0) = false ∧ (aj == 1) = true) := by
   cases c0 : (aj == 0)
   ·cases c1 : (aj == 1)
    ·simp only [c0, c1, hs] at h
     exact absurd h kN
    exact .inr ⟨rfl, rfl⟩
   exact .inl rfl
  rcases hk with c0 | ⟨c0, c1⟩
  ·obtain rfl : aj = 0 := by simpa using c0
   simp only [c0, hs] at h
   simp only [vz, mq, mqm, vsi, tyf, mqt, aZ, w2, d3, nm, seval]
   refine sn (fun tm => tm 1 = .lit (.int .i64 ah) ∧ tm 2 = .lit (.int .i64 0) ∧ tm 3 = .ptr nx 0 ∧ tm 7 = .ptr (nx + 5) 0 ∧ tm 10 = .ptr (nx + 19) 0 ∧ True) (by refine ⟨?_, ?_, ?_, ?_, ?_, trivial⟩ <;> first | (simp only [ua, bL, aZ, w2, d3, nm, seval] <;> rfl) | rfl) ?_
   rintro tm ⟨e1, e2, e3, e4, bj, _⟩
   simp only [vz, mq, mqm, vsi, tyf, mqt, aZ, w2, d3, e1, e2, e3, e4, bj, nm, seval]
   refine dkupd (VUpd.at (β := bp) (y := (fun _ => .lit (.int .i64 r4.1))) (Ee rc rc_ok _ _ _ _ _ _ o5) (by omega) (by first | rfl | assumption | (simp only [bc, bm, aZ, nm, seval] <;> rfl)) (by first | rfl | (simp only [nrm, aG, @cT, @fp] <;> rfl)) (gg (fun _ => rfl) _)) ?_
   refine gw (fun tm => tm 1 = .lit (.int .i64 ah) ∧ tm 2 = .lit (.int .i64 0) ∧ tm 3 = .ptr nx 0 ∧ tm 7 = .ptr (nx + 5) 0 ∧ tm 10 = .ptr (nx + 19) 0 ∧ tm 27 = .lit (.int .i64 r4.1) ∧ True) (by refine ⟨e1, e2, e3, e4, bj, ?_, trivial⟩ <;> first | (simp only [ua, bL, aZ, e1, e2, e3, e4, bj, nm, seval] <;> rfl) | rfl) ?_
   rintro tm ⟨e1, e2, e3, e4, bj, bu, _⟩
   obtain ⟨r8, o9, h⟩ := optI h kN
   try simp only [hs] at h
   simp only [vz, mq, mqm, vsi, tyf, mqt, aZ, w2, d3, e1, e2, e3, e4, bj, bu, nm, seval]
   refine dkupd (VUpd.at (β := bp) (y := (fun _ => .lit (.int .i64 r8))) (VUpd.of_lit (A := fun β => [.agg [.lit (.int .i64 aa.Apprentices), .sl (ae eI aa.Boards) (List.length aa.Boards) false, .sl (ae cGBs aa.Strokes) (List.length aa.Strokes) false, .sl (ae eI ag) (List.length ag) false, .mp β], .lit (.int .i64 ah)]) (x := fun _ => .lit (.int .i64 r8)) (es := encM aI bQ r4.2) (A0 := fun _ b => [.agg [.lit (.int .i64 aa.Apprentices), .sl (ae eI aa.Boards) (List.length aa.Boards) false, .sl (ae cGBs aa.Strokes) (List.length aa.Strokes) false, .sl (ae eI ag) (List.length ag) false, .lit (.map (some b))], .lit (.int .i64 ah)]) (fun β b => by simp only [List.map_cons, List.map_nil, vlt, if_true, nrm, aG, @cT, tyf, mqt] <;> rfl) (fun β b => by simp only [List.map_cons, List.map_nil, vlt, if_true, tre, aK, tyf, mqt, Bool.and_self]) (fun β b => rfl) (fun β b => To aa ag ah b r8 o9) (fun _ _ _ _ _ => jd (by simp only [tre, aK, mqr, Bool.and_self]) rfl)) (by omega) (by first | rfl | assumption | (simp only [bc, bm, aZ, nm, seval] <;> rfl)) (by first | rfl | (simp only [nrm, aG, @cT, @fp] <;> rfl)) (gg (fun _ => rfl) _)) ?_
   refine gw (fun tm => tm 1 = .lit (.int .i64 ah) ∧ tm 2 = .lit (.int .i64 0) ∧ tm 3 = .ptr nx 0 ∧ tm 7 = .ptr (nx + 5) 0 ∧ tm 27 = .lit (.int .i64 r4.1) ∧ tm 33 = .lit (.int .i64 r8) ∧ True) (by refine ⟨e1, e2, e3, e4, bu, ?_, trivial⟩ <;> first | (simp only [ua, bL, aZ, e1, e2, e3, e4, bj, bu, nm, seval] <;> rfl) | rfl) ?_
   rintro tm ⟨e1, e2, e3, e4, bu, gh, _⟩
   simp only [vz, mq, mqm, vsi, tyf, mqt, aZ, w2, d3, e1, e2, e3, e4, bu, gh, nm, seval]
   refine po ⟨?_, ?_⟩
   ·simp only [jo, jq, dV, jr, and_true, true_and]
    repeat' (first | exact trivial | refine And.intro ?_ ?_ | rw [dV] | rw [js] | exact Or.inl (by decide +kernel) | exact Or.inl (by dsimp only; decide +kernel) | (refine Or.inr ⟨?_, ?_⟩ <;> simp; done) | (refine Or.inr ⟨?_, ?_⟩ <;> simp <;> omega) | (refine Or.inr ⟨?_, ?_⟩ <;> simp [VEff.wr] <;> omega) | (refine Or.inr ⟨?_, ?_⟩ <;> simp [rdV, rdO, topName, Op.operands, sq, su, sv, qX, VEff.wr] <;> omega))
   have w9 := fun H => xv (β := bp) r4.2 (Gbe.mk ah 0) (i64.wrap (r4.1 + r8)) H
   try simp only [bL] at w9
   try simp only [vz, mq, mqm, vsi, tyf, mqt, aZ, d3, e1, e2, e3, e4, bu, gh, w9, nm, seval]
   refine cz (x := (.lit (.int .i64 (i64.wrap (r4.1 + r8))))) (by first | (simp only [Tryz.results118, resV, resL, aO, cj, ck, uw, cr, tyf, mqt, aZ, d3, w9, nm, seval] <;> rfl) | rfl) ?_
   obtain rfl := kF _ h
   refine ⟨(by first | rfl | assumption | (simp only [bc, bm, aZ, nm, seval] <;> rfl)), ?_⟩
   exact sq_of (jd (by simp only [tre, aK, mqr, Bool.and_self]) rfl)
  obtain rfl : aj = 1 := by simpa using c1
  simp only [c0, c1, hs] at h
  simp only [vz, mq, mqm, vsi, tyf, mqt, aZ, w2, d3, nm, seval]
  refine sn (fun tm => tm 1 = .lit (.int .i64 ah) ∧ tm 2 = .lit (.int .i64 1) ∧ tm 3 = .ptr nx 0 ∧ tm 7 = .ptr (nx + 5) 0 ∧ tm 10 = .ptr (nx + 19) 0 ∧ True) (by refine ⟨?_, ?_, ?_, ?_, ?_, trivial⟩ <;> first | (simp only [ua, bL, aZ, w2, d3, nm, seval] <;> rfl) | rfl) ?_
  rintro tm ⟨e1, e2, e3, e4, bj, _⟩
  simp only [vz, mq, mqm, vsi, tyf, mqt, aZ, w2, d3, e1, e2, e3, e4, bj, nm, seval]
  refine dkupd (VUpd.at (β := bp) (y := (fun _ => .lit (.int .i64 r4.1))) (Ee rc rc_ok _ _ _ _ _ _ o5) (by omega) (by first | rfl | assumption | (simp only [bc, bm, aZ, nm, seval] <;> rfl)) (by first | rfl | (simp only [nrm, aG, @cT, @fp] <;> rfl)) (gg (fun _ => rfl) _)) ?_
  refine gw (fun tm => tm 1 = .lit (.int .i64 ah) ∧ tm 2 = .lit (.int .i64 1) ∧ tm 3 = .ptr nx 0 ∧ tm 7 = .ptr (nx + 5) 0 ∧ tm 10 = .ptr (nx + 19) 0 ∧ tm 27 = .lit (.int .i64 r4.1) ∧ True) (by refine ⟨e1, e2, e3, e4, bj, ?_, trivial⟩ <;> first | (simp only [ua, bL, aZ, e1, e2, e3, e4, bj, nm, seval] <;> rfl) | rfl) ?_
  rintro tm ⟨e1, e2, e3, e4, bj, bu, _⟩
  obtain ⟨r8, o9, h⟩ := optI h kN
  try simp only [hs] at h
  simp only [vz, mq, mqm, vsi, tyf, mqt, aZ, w2, d3, e1, e2, e3, e4, bj, bu, nm, seval]
  refine dkupd (VUpd.at (β := bp) (y := (fun _ => .lit (.int .i64 r8))) (VUpd.of_lit (A := fun β => [.agg [.lit (.int .i64 aa.Apprentices), .sl (ae eI aa.Boards) (List.length aa.Boards) false, .sl (ae cGBs aa.Strokes) (List.length aa.Strokes) false, .sl (ae eI ag) (List.length ag) false, .mp β], .lit (.int .i64 ah)]) (x := fun _ => .lit (.int .i64 r8)) (es := encM aI bQ r4.2) (A0 := fun _ b => [.agg [.lit (.int .i64 aa.Apprentices), .sl (ae eI aa.Boards) (List.length aa.Boards) false, .sl (ae cGBs aa.Strokes) (List.length aa.Strokes) false, .sl (ae eI ag) (List.length ag) false, .lit (.map (some b))], .lit (.int .i64 ah)]) (fun β b => by simp only [List.map_cons, List.map_nil, vlt, if_true, nrm, aG, @cT, tyf, mqt] <;> rfl) (fun β b => by simp only [List.map_cons, List.map_nil, vlt, if_true, tre, aK, tyf, mqt, Bool.and_self]) (fun β b => rfl) (fun β b => Tp aa ag ah b r8 o9) (fun _ _ _ _ _ => jd (by simp only [tre, aK, mqr, Bool.and_self]) rfl)) (by omega) (by first | rfl | assumption | (simp only [bc, bm, aZ, nm, seval] <;> rfl)) (by first | rfl | (simp only [nrm, aG, @cT, @fp] <;> rfl)) (gg (fun _ => rfl) _)) ?_
  refine gw (fun tm => tm 1 = .lit (.int .i64 ah) ∧ tm 2 = .lit (.int .i64 1) ∧ tm 3 = .ptr nx 0 ∧ tm 7 = .ptr (nx + 5) 0 ∧ tm 27 = .lit (.int .i64 r4.1) ∧ tm 33 = .lit (.int .i64 r8) ∧ True) (by refine ⟨e1, e2, e3, e4, bu, ?_, trivial⟩ <;> first | (simp only [ua, bL, aZ, e1, e2, e3, e4, bj, bu, nm, seval] <;> rfl) | rfl) ?_
  rintro tm ⟨e1, e2, e3, e4, bu, gh, _⟩
  simp only [vz, mq, mqm, vsi, tyf, mqt, aZ, w2, d3, e1, e2, e3, e4, bu, gh, nm, seval]
  refine po ⟨?_, ?_⟩
  ·simp only [jo, jq, dV, jr, and_true, true_and]
   repeat' (first | exact trivial | refine And.intro ?_ ?_ | rw [dV] | rw [js] | exact Or.inl (by decide +kernel) | exact Or.inl (by dsimp only; decide +kernel) | (refine Or.inr ⟨?_, ?_⟩ <;> simp; done) | (refine Or.inr ⟨?_, ?_⟩ <;> simp <;> omega) | (refine Or.inr ⟨?_, ?_⟩ <;> simp [VEff.wr] <;> omega) | (refine Or.inr ⟨?_, ?_⟩ <;> simp [rdV, rdO, topName, Op.operands, sq, su, sv, qX, VEff.wr] <;> omega))
  have w9 := fun H => xv (β := bp) r4.2 (Gbe.mk ah 1) (i64.wrap (r4.1 + r8)) H
  try simp only [bL] at w9
  try simp only [vz, mq, mqm, vsi, tyf, mqt, aZ, d3, e1, e2, e3, e4, bu, gh, w9, nm, seval]
  refine cz (x := (.lit (.int .i64 (i64.wrap (r4.1 + r8))))) (by first | (simp only [Tryz.results118, resV, resL, aO, cj, ck, uw, cr, tyf, mqt, aZ, d3, w9, nm, seval] <;> rfl) | rfl) ?_
  obtain rfl := kF _ h
  refine ⟨(by first | rfl | assumption | (simp only [bc, bm, aZ, nm, seval] <;> rfl)), ?_⟩
  exact sq_of (jd (by simp only [tre, aK, mqr, Bool.and_self]) rfl)
 simp only [d3, hs] at h
 try simp only [vz, mq, mqm, vsi, tyf, mqt, aZ, w2, d3, nm, seval]
 refine cz (x := (.lit (.int .i64 (mapGet dP 0 l0 (Gbe.mk ah aj))))) (by first | (simp only [Tryz.results118, resV, resL, aO, cj, ck, uw, cr, tyf, mqt, aZ, w2, d3, nm, seval] <;> rfl) | rfl) ?_
 obtain rfl := kF _ h
 refine ⟨(by first | rfl | assumption | (simp only [bc, bm, aZ, nm, seval] <;> rfl)), ?_⟩
 exact sq_of (jd (by simp only [tre, aK, mqr, Bool.and_self]) rfl)
def gEnd : Nat → GBk → (List Int) → Int → Int → (List (Gbe × Int)) → Option ((Int) × List (Gbe × Int))
 | 0 => fun _ _ _ _ _ => none
 | n + 1 => xt (gEnd n)
theorem BY : ∀ (n : Nat) (aa : GBk) (ag : List Int) (ah : Int) (aj : Int) (l0 : List (Gbe × Int)) (R : (Int) × List (Gbe × Int)), gEnd n aa ag ah aj l0 = some R → VUpd Tryz.prog G0 118 (fun β => [.agg [.lit (.int .i64 aa.Apprentices), .sl (ae eI aa.Boards) (List.length aa.Boards) false, .sl (ae cGBs aa.Strokes) (List.length aa.Strokes) false, .sl (ae eI ag) (List.length ag) false, .mp β], .lit (.int .i64 ah), .lit (.int .i64 aj)]) (encM aI bQ l0) (encM aI bQ R.2) (fun _ => .lit (.int .i64 R.1))
 | 0, _, _, _, _, _, _, h => by cases h
 | n + 1, aa, ag, ah, aj, l0, R, h => Tq (gEnd n) (BY n) aa ag ah aj l0 R h
def BV (aa : GBk) (ag : List Int) (ah : Int) (aj : Int) (l0 : List (Gbe × Int)) : Option ((Int) × List (Gbe × Int)) := gEnd 8 aa ag ah aj l0
theorem DT (aa : GBk) (ag : List Int) (ah : Int) (aj : Int) (l0 : List (Gbe × Int)) (R : (Int) × List (Gbe × Int)) (h : BV aa ag ah aj l0 = some R) : VUpd Tryz.prog G0 118 (fun β => [.agg [.lit (.int .i64 aa.Apprentices), .sl (ae eI aa.Boards) (List.length aa.Boards) false, .sl (ae cGBs aa.Strokes) (List.length aa.Strokes) false, .sl (ae eI ag) (List.length ag) false, .mp β], .lit (.int .i64 ah), .lit (.int .i64 aj)]) (encM aI bQ l0) (encM aI bQ R.2) (fun _ => .lit (.int .i64 R.1)) := BY 8 aa ag ah aj l0 R h
def DS (aa : GBk) (ag : List Int) (ah : Int) (aj : Int) (l0 : List (Gbe × Int)) : Option ((Int) × List (Gbe × Int)) := vH (gEnd 8) aa ag ah aj l0
theorem Tj (aa : GBk) (ag : List Int) (ah : Int) (aj : Int) (l0 : List (Gbe × Int)) (R : (Int) × List (Gbe × Int)) (h : DS aa ag ah aj l0 = some R) : VUpd Tryz.prog G0 107 (fun β => [.agg [.lit (.int .i64 aa.Apprentices), .sl (ae eI aa.Boards) (List.length aa.Boards) false, .sl (ae cGBs aa.Strokes) (List.length aa.Strokes) false, .sl (ae eI ag) (List.length ag) false, .mp β], .lit (.int .i64 ah), .lit (.int .i64 aj)]) (encM aI bQ l0) (encM aI bQ R.2) (fun _ => .lit (.int .i64 R.1)) := Ee (gEnd 8) (BY 8) aa ag ah aj l0 R h
def BZ (aa : GBk) (ag : List Int) (ar : List Int) (aj : Int) (l0 : List (Gbe × Int)) : Option ((List Int) × List (Gbe × Int)) := vE (gEnd 8) aa ag ar aj l0
theorem P3 (aa : GBk) (ag : List Int) (ar : List Int) (aj : Int) (l0 : List (Gbe × Int)) (R : (List Int) × List (Gbe × Int)) (h : BZ aa ag ar aj l0 = some R) : VUpd Tryz.prog G0 106 (fun β => [.agg [.lit (.int .i64 aa.Apprentices), .sl (ae eI aa.Boards) (List.length aa.Boards) false, .sl (ae cGBs aa.Strokes) (List.length aa.Strokes) false, .sl (ae eI ag) (List.length ag) false, .mp β], .sl (ae eI ar) (List.length ar) false, .lit (.int .i64 aj)]) (encM aI bQ l0) (encM aI bQ R.2) (fun _ => .sl (ae eI R.1) (List.length R.1) false) := P0 (gEnd 8) (BY 8) aa ag ar aj l0 R h
end Go.V
end
section
namespace Go.V
open Go Go.Proofs IntKind
section
variable {K V : Type} {q : K → K → Bool} {z : V}
def setR (q : K → K → Bool) (k : K) (v : V) : List (K × V) → List (K × V)
 | [] => [(k, v)]
 | e :: l => if q k e.1 then (k, v) :: l else e :: setR q k v l
theorem xw (k : K) : ∀ (es : List K) (i : Nat), kIdx q k es (i + 1) = (kIdx q k es i).map (· + 1)
 | [], _ => rfl
 | e :: es, i => by
  unfold kIdx
  cases q k e with
  | true => rfl
  | false => exact xw k es (i + 1)
theorem P4 (k : K) (v : V) : ∀ l : List (K × V), mapSet q l k v = setR q k v l
 | [] => rfl
 | e :: l => by
  have ih := P4 k v l
  unfold mapSet at ih ⊢
  rw [List.map_cons]
  unfold kIdx setR
  cases hq : q k e.1 with
  | true => rfl
  | false =>
   simp only [cond_false, Bool.false_eq_true, if_false]
   rw [xw]
   cases h : kIdx q k (l.map (·.1)) 0 with
   | none => rw [h] at ih; simpa using ih
   | some i => rw [h] at ih; simpa using ih
end
end Go.V
end
section
namespace Go.V
open Go Go.Proofs IntKind
def wM (aa : GBk) (ag : List Int) (ar : List Int) (l0 : List (Gbe × Int)) : Option ((GSpan) × List (Gbe × Int)) := Option.bind (BZ aa ag ar 0 l0) (fun r1 => Option.bind (pC r1.1) (fun r2 => Option.bind (BZ aa ag ar 1 r1.2) (fun r3 => Option.bind (pC r3.1) (fun r4 => some ((GSpan.mk r2 r4), r3.2)))))
theorem Pr (aa : GBk) (ag : List Int) (ar : List Int) (l0 : List (Gbe × Int)) (R : (GSpan) × List (Gbe × Int)) (h : wM aa ag ar l0 = some R) : VUpd Tryz.prog G0 70 (fun β => [.agg [.lit (.int .i64 aa.Apprentices), .sl (ae eI aa.Boards) (List.length aa.Boards) false, .sl (ae cGBs aa.Strokes) (List.length aa.Strokes) false, .sl (ae eI ag) (List.length ag) false, .mp β], .sl (ae eI ar) (List.length ar) false]) (encM aI bQ l0) (encM aI bQ R.2) (fun _ => .agg (cGSpan R.1)) := by
 intro bp nx hlt
 have aZ := hY (β := bp) (nx := nx) hlt
 refine aB.run mixed Tryz.call70 Tryz.func70 rfl (by simp [Tryz.ntmps70]; kernel_rfl) ?_
 obtain ⟨KF, h, kF, kN⟩ := cR h
 simp only [wM] at h
 simp only [vz, mq, mqm, vsi, tyf, mqt, aZ, nm, seval]
 refine sn (fun tm => tm 1 = .sl (ae eI ar) (List.length ar) false ∧ tm 2 = .ptr nx 0 ∧ tm 4 = .ptr (nx + 1) 0 ∧ True) (by refine ⟨?_, ?_, ?_, trivial⟩ <;> first | (simp only [ua, bL, aZ, nm, seval] <;> rfl) | rfl) ?_
 rintro tm ⟨e5, e6, e7, _⟩
 obtain ⟨r8, o9, h⟩ := optI h kN
 try simp only [hs] at h
 simp only [vz, mq, mqm, vsi, tyf, mqt, aZ, e5, e6, e7, nm, seval]
 refine dkupd (VUpd.at (β := bp) (y := (fun _ => .sl (ae eI r8.1) (List.length r8.1) false)) (P3 _ _ _ _ _ _ o9) (by omega) (by first | rfl | assumption | (simp only [bc, bm, aZ, nm, seval] <;> rfl)) (by first | rfl | (simp only [nrm, aG, @cT, @fp] <;> rfl)) (gg (fun _ => rfl) _)) ?_
 refine gw (fun tm => tm 1 = .sl (ae eI ar) (List.length ar) false ∧ tm 2 = .ptr nx 0 ∧ tm 4 = .ptr (nx + 1) 0 ∧ tm 7 = .sl (ae eI r8.1) (List.length r8.1) false ∧ True) (by refine ⟨e5, e6, e7, ?_, trivial⟩ <;> first | (simp only [ua, bL, aZ, e5, e6, e7, nm, seval] <;> rfl) | rfl) ?_
 rintro tm ⟨bj, bG, bX, cg, _⟩
 obtain ⟨fj, mS, h⟩ := optI h kN
 try simp only [hs] at h
 simp only [vz, mq, mqm, vsi, tyf, mqt, aZ, bj, bG, bX, cg, nm, seval]
 refine dktree (args0 := [.sl (ae eI r8.1) (List.length r8.1) false]) (by first | (simp only [nrm, aG, @cT] <;> rfl) | rfl) (by simp only [tre, aK, mqr, Bool.and_self]) (xp _ _ mS) ?_
 refine bM (fun tm => tm 1 = .sl (ae eI ar) (List.length ar) false ∧ tm 2 = .ptr nx 0 ∧ tm 4 = .ptr (nx + 1) 0 ∧ tm 8 = .lit (.int .i64 fj) ∧ True) (by refine ⟨bj, bG, bX, ?_, trivial⟩ <;> first | (simp only [ua, bL, aZ, bj, bG, bX, cg, nm, seval] <;> rfl) | rfl) ?_
 rintro tm ⟨bD, bH, bR, cP, _⟩
 obtain ⟨ff, mw, h⟩ := optI h kN
 try simp only [hs] at h
 simp only [vz, mq, mqm, vsi, tyf, mqt, aZ, bD, bH, bR, cP, nm, seval]
 refine dkupd (VUpd.at (β := bp) (y := (fun _ => .sl (ae eI ff.1) (List.length ff.1) false)) (P3 _ _ _ _ _ _ mw) (by omega) (by first | rfl | assumption | (simp only [bc, bm, aZ, nm, seval] <;> rfl)) (by first | rfl | (simp only [nrm, aG, @cT, @fp] <;> rfl)) (gg (fun _ => rfl) _)) ?_
 refine gw (fun tm => tm 4 = .ptr (nx + 1) 0 ∧ tm 8 = .lit (.int .i64 fj) ∧ tm 11 = .sl (ae eI ff.1) (List.length ff.1) false ∧ True) (by refine ⟨bR, cP, ?_, trivial⟩ <;> first | (simp only [ua, bL, aZ, bD, bH, bR, cP, nm, seval] <;> rfl) | rfl) ?_
 rintro tm ⟨cO, bU, cn, _⟩
 obtain ⟨jx, lf, h⟩ := optI h kN
 try simp only [hs] at h
 simp only [vz, mq, mqm, vsi, tyf, mqt, aZ, cO, bU, cn, nm, seval]
 refine dktree (args0 := [.sl (ae eI ff.1) (List.length ff.1) false]) (by first | (simp only [nrm, aG, @cT] <;> rfl) | rfl) (by simp only [tre, aK, mqr, Bool.and_self]) (xp _ _ lf) ?_
 refine bM (fun tm => tm 4 = .ptr (nx + 1) 0 ∧ tm 8 = .lit (.int .i64 fj) ∧ tm 12 = .lit (.int .i64 jx) ∧ True) (by refine ⟨cO, bU, ?_, trivial⟩ <;> first | (simp only [ua, bL, aZ, cO, bU, cn, nm, seval] <;> rfl) | rfl) ?_
 rintro tm ⟨bu, cU, cI, _⟩
 simp only [vz, mq, mqm, vsi, tyf, mqt, aZ, bu, cU, cI, nm, seval]
 refine po ⟨?_, ?_⟩
 ·simp only [jo, jq, dV, jr, and_true, true_and]
  repeat' (first | exact trivial | refine And.intro ?_ ?_ | rw [dV] | rw [js] | exact Or.inl (by decide +kernel) | exact Or.inl (by dsimp only; decide +kernel) | (refine Or.inr ⟨?_, ?_⟩ <;> simp; done) | (refine Or.inr ⟨?_, ?_⟩ <;> simp <;> omega) | (refine Or.inr ⟨?_, ?_⟩ <;> simp [VEff.wr] <;> omega))
 try simp only [vz, mq, mqm, vsi, tyf, mqt, aZ, bu, cU, cI, nm, seval]
 refine cz (x := (.agg ([.lit (.int .i64 fj)] ++ [.lit (.int .i64 jx)]))) (by first | (simp only [Tryz.results70, resV, resL, aO, cj, ck, uw, cr, tyf, mqt, aZ, bu, cU, cI, nm, seval] <;> rfl) | rfl) ?_
 obtain rfl := kF _ h
 refine ⟨(by first | rfl | assumption | (simp only [bc, bm, aZ, nm, seval] <;> rfl)), ?_⟩
 exact sq_of (jd (by first | (simp only [tre, aK, mqr, Bool.and_self]; done) | rfl) rfl)
theorem Frozen.agg3 {H : Nat → Option VObj} {γ n w cp : Nat} {el : Option TypeId} {cs : List VV} {x y : VV} (hx : x.tree = true) (hy : y.tree = true) (hγ : H γ = some (.cells el cs)) (ht : treeL cs = true) (hl : cs.length = n * w) :
  Frozen H (without H γ) (.agg [x, y, .ref γ 0 n w cp]) (.agg [x, y, .sl cs n false]) := by
 refine .inr (.inr ⟨cs.length + 6, ?_⟩)
 have hg : gone H (without H γ) γ = some (.cells el cs) := by simp [gone, without, hγ]
 have h0 : (VV.agg [x, y, .ref γ 0 n w cp]).tree = false := by simp [VV.tree, treeL]
 have h1 : sealV (gone H (without H γ)) (cs.length + 2) (.ref γ 0 n w cp) = some (.sl cs n false) := by
  unfold sealV
  have : (VV.ref γ 0 n w cp).tree = false := rfl
  rw [this]
  simp only [Bool.false_eq_true, if_false, hg, Nat.zero_le, if_true, List.drop_zero]
  rw [List.take_of_length_le (by omega), om cs _ ht (by omega)]
  rfl
 unfold sealV
 rw [h0]
 simp only [Bool.false_eq_true, if_false]
 show (sealL _ (cs.length + 4 + 1) _).map _ = _
 unfold sealL
 rw [show cs.length + 4 = (cs.length + 3) + 1 from rfl, P5 hx]
 unfold sealL
 rw [show cs.length + 3 = (cs.length + 2) + 1 from rfl, P5 hy]
 unfold sealL
 rw [h1]
 rfl
theorem But.self (W : World) (b : Nat) : But W W b := ⟨fun _ _ _ => rfl, Nat.le_refl _, rfl, rfl, rfl⟩
theorem kupdF {P : Program} {G : Glob} {H : Nat → Option VObj} {f : FuncId} {args args' cs : List VV} {el : Option TypeId} {y : VV} {d : Option Tmp} {γ β g : Nat} {tm : Nat → VV} {nx : Nat} {df : List VDef} {K : St → Prop} {Qp : VV → St → Prop} {es' : List (Value × VV)} (hγ : H g = some (.cells el cs)) (ha : FrozenL H (without H g) args args')
  (hu : UpdC P G f args' (without H g) nx β es' y) (h : fin d γ tm (without H g) nx df K y (.upd β (.map es'))) : callK P G f args ⟨tm, H, nx, df⟩ d γ K Qp := by
 refine .inr (.inr ?_)
 unfold openK
 refine aB.mono (aB.freeze1 hγ ha hu.open) ?_ (fun _ _ _ h => h.elim)
 rintro v H2 qY ⟨rfl, rfl, rfl⟩
 rw [← eC (K := K)] at h
 cases d <;> exact h


def sw (aa : GBk) (ag : List Int) : List GBs → Int → Int → (List (Gbe × Int)) → Option (LOut ((Int) × List (Gbe × Int)) (Int × (List (Gbe × Int))))
 | [], ki, dj, bE => some (.go (dj, bE))
 | e0 :: p0, ki, dj, bE => Option.bind (BV aa ag ki 1 bE) (fun r3 => Option.bind (pC ([dj, r3.1])) (fun r4 => sw aa ag p0 (ki + 1) r4 r3.2))
def sf (aa : GBk) (ag : List Int) (l0 : List (Gbe × Int)) : Option ((Int) × List (Gbe × Int)) := cond (aF aa.Strokes) (aT (sw aa ag aa.Strokes 0 0 l0) (fun r6 => some r6) (fun c5 => some (c5.1, c5.2)) (fun _ _ => none)) none
theorem wY (aa : GBk) (ag : List Int) (l0 : List (Gbe × Int)) (R : (Int) × List (Gbe × Int)) (h : sf aa ag l0 = some R) : VUpd Tryz.prog G0 87 (fun β => [.agg [.lit (.int .i64 aa.Apprentices), .sl (ae eI aa.Boards) (List.length aa.Boards) false, .sl (ae cGBs aa.Strokes) (List.length aa.Strokes) false, .sl (ae eI ag) (List.length ag) false, .mp β]]) (encM aI bQ l0) (encM aI bQ R.2) (fun _ => .lit (.int .i64 R.1)) := by
 intro bp nx hlt
 have aZ := hY (β := bp) (nx := nx) hlt
 refine aB.run mixed Tryz.call87 Tryz.func87 rfl (by simp [Tryz.ntmps87]; kernel_rfl) ?_
 obtain ⟨KF, h, kF, kN⟩ := cR h
 simp only [sf] at h
 cases g8 : (aF aa.Strokes)
 ·simp only [g8, hs] at h
  exact absurd h kN
 simp only [g8, hs] at h
 simp only [vz, mq, mqm, vsi, tyf, mqt, aZ, g8, nm, seval]
 obtain ⟨K7, h, Yw, Ts, Yx, P6⟩ := fa h kN
 obtain ⟨f7, Tt, h⟩ := call4 h
 obtain ⟨I7, Ef⟩ : ∃ I : Nat → St → Prop, I = (fun m st => ∃ (p7 : List GBs) (hZ : Int) (kj : Int) (mT : List (Gbe × Int)), m = List.length p7 ∧ 0 ≤ hZ ∧ List.drop (Int.toNat hZ) aa.Strokes = p7 ∧ st.df = [] ∧ nx + 8 ≤ st.nx ∧ st.H bp = some (.map (encM aI bQ mT)) ∧ st.H nx = some (.cells (some 92) ((cGBk aa) ++ [.sl (ae eI ag) (List.length ag) false] ++ [.mp bp])) ∧ st.tm 1 = .ptr nx 0 ∧ st.tm 8 = .lit (.int .i64 (List.length aa.Strokes : Int)) ∧ st.tm 3 = .lit (.int .i64 kj) ∧ st.tm 9 = .lit (.int .i64 hZ) ∧ K7 (f7 p7 hZ kj mT)) := ⟨_, rfl⟩
 refine loopK mixed (by kernel_rfl) I7 (List.length aa.Strokes) (by rw [Ef]; refine ⟨aa.Strokes, 0, 0, l0, rfl, Int.le_refl _, rfl, rfl, (show nx + 8 ≤ nx + 8 by omega), ?_, ?_, ?_, ?_, ?_, ?_, h⟩ <;> first | (simp only [ua, bL, aZ, nm, seval] <;> rfl) | rfl) ?_
 rintro m ⟨tm, H, Eg, df⟩ hinv
 rw [Ef] at hinv
 obtain ⟨p7, hZ, kj, mT, rfl, vI, xx, hdf, Tu, H9, ji, bG, bX, cg, dM, h⟩ := hinv
 simp only at hdf Tu H9 ji bG bX cg dM
 have gz := mn (a := nx) (m := 8) (b := Eg) (by omega)
 have g0 := hY (β := bp) (nx := Eg) (by omega)
 subst hdf Tt
 cases p7 with
 | nil =>
  have pD : (decide (hZ < (List.length aa.Strokes : Int))) = false := fc vI xx
  simp only [sw, hs, reduceCtorEq] at h
  replace h := Ts _ h
  try dsimp only at h
  try simp only [hs] at h
  try simp only [vz, mq, mqm, vsi, tyf, mqt, aZ, g8, gz, g0, bG, bX, cg, dM, H9, ji, pD, nm, seval]
  refine cz (x := (.lit (.int .i64 kj))) (by first | (simp only [Tryz.results87, resV, resL, aO, cj, ck, uw, cr, tyf, mqt, aZ, g8, gz, g0, H9, ji, pD, nm, seval] <;> rfl) | rfl) ?_
  obtain rfl := kF _ h
  refine ⟨(by first | rfl | assumption | (simp only [bc, bm, aZ, gz, g0, H9, ji, nm, seval] <;> rfl)), ?_⟩
  exact sq_of (jd (by first | (simp only [tre, aK, mqr, Bool.and_self]; done) | rfl) rfl)
 | cons e7 p7 =>
  have lD : (decide (hZ < (List.length aa.Strokes : Int))) = true := fe vI xx
  have oz := dD vI xx
  have Eh := eG vI xx g8
  simp only [sw, hs, reduceCtorEq] at h
  obtain ⟨ke, ou, h⟩ := optI h P6
  try simp only [hs] at h
  simp only [vz, mq, mqm, vsi, tyf, mqt, aZ, g8, gz, g0, bG, bX, cg, dM, H9, ji, lD, (aM oz), Eh, nm, seval]
  refine kupd (VUpd.at (β := bp) (y := (fun _ => .lit (.int .i64 ke.1))) (DT _ _ _ _ _ _ ou) (by omega) (by first | rfl | assumption | (simp only [bc, bm, aZ, gz, g0, H9, ji, nm, seval] <;> rfl)) (by first | rfl | (simp only [nrm, aG, @cT, @fp] <;> rfl)) (gg (fun _ => rfl) _)) ?_
  refine gw (fun tm => tm 1 = .ptr nx 0 ∧ tm 8 = .lit (.int .i64 (List.length aa.Strokes : Int)) ∧ tm 9 = .lit (.int .i64 hZ) ∧ tm 12 = .lit (.int .i64 kj) ∧ tm 15 = .lit (.int .i64 ke.1) ∧ True) (by refine ⟨bG, bX, dM, ?_, ?_, trivial⟩ <;> first | (simp only [ua, bL, aZ, gz, g0, bG, bX, cg, dM, H9, ji, lD, Eh, nm, seval] <;> rfl) | rfl) ?_
  rintro tm ⟨bU, cn, bV, cH, bu, _⟩
  have jy := And.intro aZ (And.intro g8 (And.intro gz (And.intro g0 (And.intro H9 (And.intro ji (And.intro lD Eh))))))
  obtain ⟨Ca, lC, h⟩ := optI h P6
  try simp only [hs] at h
  simp only [vz, mq, mqm, vsi, tyf, mqt, jy, (aM oz), bU, cn, bV, cH, bu, nm, seval]
  refine kseen (args0 := [.sl (ae eI ([kj, ke.1])) (List.length ([kj, ke.1])) false]) (by simp only [List.map_cons, List.map_nil, gq, bc, bm, cr, tyf, mqt, nrm, aG, jy, (aM oz), bU, cn, bV, cH, bu, nm, seval] <;> rfl) (by simp only [List.map_cons, List.map_nil, gq, bc, bm, cr, tyf, mqt, nrm, aG, jy, (aM oz), bU, cn, bV, cH, bu, nm, seval]; simp only [tre, aK, mqr, Bool.and_self]) (xp _ _ lC) (by first | rfl | simp only [VV.flat, flatL, Bool.and_self]) ?_
  refine bM (fun tm => tm 1 = .ptr nx 0 ∧ tm 8 = .lit (.int .i64 (List.length aa.Strokes : Int)) ∧ tm 9 = .lit (.int .i64 hZ) ∧ tm 17 = .lit (.int .i64 Ca) ∧ True) (by refine ⟨bU, cn, bV, ?_, trivial⟩ <;> first | (simp only [ua, bL, jy, bU, cn, bV, cH, bu, nm, seval] <;> rfl) | rfl) ?_
  rintro tm ⟨dr, fW, gh, i7, _⟩
  simp only [vz, mq, mqm, vsi, tyf, mqt, jy, (aM oz), dr, fW, gh, i7, nm, seval]
  exact ⟨List.length p7, Nat.lt_succ_self _, by rw [Ef]; refine ⟨p7, hZ + 1, Ca, ke.2, rfl, Int.le_trans vI (Int.le_add_one (Int.le_refl _)), cC vI xx, rfl, (show nx + 8 ≤ Eg + 12 by omega), ?_, ?_, dr, fW, ?_, ?_, (by first | exact h | (simp only [jy]; exact h))⟩ <;> first | (simp only [ua, bL, jy, dr, fW, gh, i7, nm, seval] <;> rfl) | rfl⟩
end Go.V
end
section
namespace Go.V
open Go Go.Proofs IntKind
theorem Len.of {b : GBk} (h : aF b.Boards = true ∧ aF b.Strokes = true ∧ ∀ y ∈ b.Strokes, aF y.Needs = true) : Len b := ⟨Cb h.1, Cb h.2.1, fun s hs => Cb (h.2.2 s hs)⟩
theorem xy : ∀ (p : List GBs) (c : Int), sx p c = some (.go ()) ∨ sx p c = some (.ret false)
 | [], c => .inl rfl
 | s :: p, c => by
  simp only [sx]
  cases decide (c < 9) with
  | false => exact .inl rfl
  | true =>
   cases decide ((s.Needs.length : Int) > 8) with
   | true => exact .inr rfl
   | false => exact xy p (c + 1)
theorem Ei {b : GBk} (h : Len b) : vJ b = some false ∨ (vJ b = some true ∧ BOk b) := by
 unfold vJ Cc
 rw [fU h.st, cond_true, Ej h]
 rcases xy b.Strokes 0 with e | e
 ·rw [e]
  simp only [aT]
  cases h1 : (decide ((b.Boards.length : Int) ≤ 5)) with
  | false => exact .inl rfl
  | true =>
   cases h2 : (decide ((b.Strokes.length : Int) ≤ 8)) with
   | false => exact .inl rfl
   | true =>
    cases h3 : benchB b with
    | false => exact .inl rfl
    | true => exact .inr ⟨rfl, vC.1 h3⟩
 ·rw [e]; exact .inl rfl
theorem BOk.len {b : GBk} (h : BOk b) (hl : ∀ s ∈ b.Strokes, s.Needs.length < 9223372036854775808) : Len b := ⟨by have := h.nb; omega, by have := h.ns; omega, hl⟩
structure HOk (n : Int) (s : GBs) : Prop where
 nd : ∀ k ∈ s.Needs, 0 ≤ k ∧ k < n
 ad : adjB s.Needs = true
 hr : 0 ≤ s.Hours.Low ∧ s.Hours.Low ≤ 15 ∧ 0 ≤ s.Hours.High ∧ s.Hours.High ≤ 15
structure BH (b : GBk) : Prop where
 ns : 1 ≤ b.Strokes.length ∧ b.Strokes.length ≤ 6
 s : ∀ {i : Nat} {s : GBs}, b.Strokes[i]? = some s → HOk i s
theorem BOk.h {b : GBk} (h : BOk b) : BH b := ⟨h.ns, fun hs => by have := h.s hs; have h2 := this.hr; exact ⟨this.nd, this.ad, by omega⟩⟩
def nF (b : GBk) (s : Nat) : List Int := match b.Strokes[s]? with | some x => x.Needs | none => []
def dF (b : GBk) (h : Int) (s : Nat) : Int := match b.Strokes[s]? with | some x => if h = 0 then x.Hours.Low else x.Hours.High | none => 0
def hF (pl : List Int) (s : Nat) : Int := (pl[s]?).getD 0
def EE (b : GBk) (pl : List Int) (h : Int) (s : Nat) : Int := Ed (hF pl) (nF b) (dF b h) s
def BB (b : GBk) (pl : List Int) (h : Int) (s : Nat) : Int := Bg (hF pl) (nF b) (dF b h) s
def FF (b : GBk) (pl : List Int) (h : Int) (s : Nat) : Int := frF (hF pl) (EE b pl h) (hF pl s) s
theorem BH.nd {b : GBk} (h : BH b) : NdOk (nF b) := by
 intro s k hk
 unfold nF at hk
 split at hk
 ·rename_i x hx
  have := (h.s hx).nd k hk
  omega
 ·cases hk
theorem BH.d {b : GBk} (h : BH b) (hr : Int) (s : Nat) : 0 ≤ dF b hr s ∧ dF b hr s ≤ 15 := by
 unfold dF
 split
 ·rename_i x hx
  have := (h.s hx).hr
  split <;> omega
 ·omega
theorem EE_b {b : GBk} (h : BH b) (pl : List Int) (hr : Int) {s : Nat} (hs : s < b.Strokes.length) : 0 ≤ EE b pl hr s ∧ EE b pl hr s ≤ 90 := by
 have h1 := Ed_nn (hd := hF pl) h.nd (fun k => (h.d hr k).1) s
 have h2 := DK (hd := hF pl) h.nd (h.d hr) s
 have := h.ns
 unfold EE
 omega
theorem EE_eq {b : GBk} (h : BH b) (pl : List Int) (hr : Int) (s : Nat) : EE b pl hr s = BB b pl hr s + dF b hr s := Ed_eq h.nd s
theorem BB_b {b : GBk} (h : BH b) (pl : List Int) (hr : Int) {s : Nat} (hs : s < b.Strokes.length) : 0 ≤ BB b pl hr s ∧ BB b pl hr s ≤ 90 := by
 have h1 := EE_b h pl hr hs
 have h2 := h.d hr s
 have h3 := Bg_nn (hd := hF pl) (nd := nF b) (d := dF b hr) s
 rw [EE_eq h] at h1
 have h3 : 0 ≤ BB b pl hr s := h3
 omega
theorem xz {b : GBk} (pl : List Int) (hr : Int) (s : Nat) : BB b pl hr s = max (max 0 (FF b pl hr s)) (mxL ((nF b s).map fun k => EE b pl hr k.toNat)) := rfl
def InvE (b : GBk) (pl : List Int) (l : List (Gbe × Int)) : Prop := ∀ p ∈ l, p.2 = EE b pl p.1.hours p.1.stroke.toNat
theorem InvE.nil {b : GBk} {pl : List Int} : InvE b pl [] := fun _ h => by cases h
theorem InvE.has {b : GBk} {pl : List Int} {l : List (Gbe × Int)} (h : InvE b pl l) {k : Gbe} (hk : mapHas dP l k = true) : mapGet dP 0 l k = EE b pl k.hours k.stroke.toNat := by
 unfold mapHas at hk
 unfold mapGet
 cases hi : kIdx dP k (l.map (·.1)) 0 with
 | none => rw [hi] at hk; cases hk
 | some i =>
  obtain ⟨_, e, he, hq⟩ := Cd _ _ _ hi
  rw [Nat.sub_zero, List.getElem?_map] at he
  cases hg : l[i]? with
  | none => rw [hg] at he; cases he
  | some p =>
   rw [hg] at he
   simp only [Option.map_some, Option.some.injEq] at he
   have hpe := mU _ _ hq
   have hv := h p (List.mem_of_getElem? hg)
   rw [he, ← hpe] at hv
   simp only [hg, hv]
theorem xB {K V : Type} {q : K → K → Bool} {k : K} {v : V} : ∀ {l : List (K × V)} {p : K × V}, p ∈ setR q k v l → p ∈ l ∨ p.2 = v ∧ (p.1 = k ∨ q k p.1 = true)
 | [], p, h => by
  simp only [setR, List.mem_singleton] at h
  exact .inr ⟨by rw [h], .inl (by rw [h])⟩
 | a :: l, p, h => by
  unfold setR at h
  split at h
  ·rename_i hq
   rcases List.mem_cons.1 h with rfl | h
   ·exact .inr ⟨rfl, .inl rfl⟩
   ·exact .inl (List.mem_cons_of_mem _ h)
  ·rcases List.mem_cons.1 h with rfl | h
   ·exact .inl (List.mem_cons_self ..)
   ·exact (xB h).imp (List.mem_cons_of_mem _) id
theorem InvE.set {b : GBk} {pl : List Int} {l : List (Gbe × Int)} (h : InvE b pl l) (s hr : Int) : InvE b pl (mapSet dP l ⟨s, hr⟩ (EE b pl hr s.toNat)) := by
 intro p hp
 rw [P4] at hp
 rcases xB hp with hp | ⟨h1, h2⟩
 ·exact h p hp
 ·have e : p.1 = ⟨s, hr⟩ := by
   rcases h2 with h2 | h2
   ·exact h2
   ·exact (mU _ _ h2).symm
  rw [h1, e]
abbrev RC := GBk → List Int → Int → Int → List (Gbe × Int) → Option (Int × List (Gbe × Int))
def RcOk (rc : RC) (b : GBk) (pl : List Int) (h : Int) (n : Nat) : Prop := ∀ (k : Int) l, 0 ≤ k → k.toNat < n → InvE b pl l → ∃ l', rc b pl k h l = some (EE b pl h k.toNat, l') ∧ InvE b pl l'
theorem room8 {n : Nat} (h : n ≤ 1000) : roomOk 8 n = true := by simp [roomOk]; omega
theorem P7 : ∀ (p : List Int) (i c : Int), vK p i c = some (.go (p.foldl max c))
 | [], _, _ => rfl
 | e :: p, i, c => by
  simp only [vK, P7 p, List.foldl_cons]
  have : (if c < e then e else c) = max c e := by split <;> omega
  rw [this]
theorem xC {l : List Int} (h : l.length < 9223372036854775808) : pC l = some (mxL l) := by
 unfold pC
 rw [fU h, cond_true, P7]
 rfl
theorem getP {pl : List Int} {n : Nat} {s : Int} (hl : pl.length = n) (h0 : 0 ≤ s) (h1 : s.toNat < n) : getI pl s = some (hF pl s.toNat) := by
 unfold getI hF
 rw [if_pos h0, List.getElem?_eq_getElem (by omega)]
 rfl
theorem xD {rc : RC} {b : GBk} {pl : List Int} {h : Int} {s : Int} {N : Nat} (hp : pl.length = N) (gI : 0 ≤ s) (hs : s.toNat < N) (hN : N ≤ 6) (hrc : RcOk rc b pl h s.toNat) {l : List (Gbe × Int)} (hl : InvE b pl l) :
  ∀ (k0 k : Nat), k < k0 → k ≤ s.toNat → ∃ l', aT (sy rc b pl s h l k0 ((k : Int) - 1)) (fun r => some r) (fun _ => some (0, l)) (fun _ _ => none) = some (frF (hF pl) (EE b pl h) (hF pl s.toNat) k, l') ∧ InvE b pl l'
 | 0, _, hk, _ => absurd hk (Nat.not_lt_zero _)
 | k0 + 1, 0, _, _ => by
  simp only [sy]
  rw [decide_eq_false (by omega), cond_false]
  exact ⟨l, rfl, hl⟩
 | k0 + 1, k + 1, hk, hks => by
  simp only [sy]
  rw [decide_eq_true (by omega), cond_true, getP hp (by omega) (by omega), getP hp gI hs]
  have e : (((k + 1 : Nat) : Int) - 1).toNat = k := by omega
  simp only [Option.bind_some, e]
  unfold frF
  by_cases hh : hF pl k = hF pl s.toNat
  ·obtain ⟨l', e1, hl'⟩ := hrc (((k + 1 : Nat) : Int) - 1) l (by omega) (by omega) hl
   rw [show (hF pl k == hF pl s.toNat) = true by simpa using hh, cond_true, e1, if_pos hh, e]
   exact ⟨l', rfl, hl'⟩
  ·rw [show (hF pl k == hF pl s.toNat) = false by simpa using hh, cond_false, if_neg hh, gy (by omega) (by omega), show ((k + 1 : Nat) : Int) - 1 - 1 = (k : Int) - 1 by omega]
   exact xD hp gI hs hN hrc hl k0 k (by omega) (by omega)
theorem Ek {rc : RC} {b : GBk} {pl : List Int} {h : Int} {s : Int} {N : Nat} (hp : pl.length = N) (gI : 0 ≤ s) (hs : s.toNat < N) (hN : N ≤ 6) (hrc : RcOk rc b pl h s.toNat) {l : List (Gbe × Int)} (hl : InvE b pl l) :
  ∃ l', xn rc b pl s h l = some (FF b pl h s.toNat, l') ∧ InvE b pl l' := by
 unfold xn FF
 have := xD hp gI hs hN hrc hl 1000000 s.toNat (by omega) (Nat.le_refl _)
 rw [gy (by omega) (by omega)]
 rw [show ((s.toNat : Nat) : Int) - 1 = s - 1 by omega] at this
 exact this
theorem P8 {rc : RC} {b : GBk} {pl : List Int} {h : Int} {n : Nat} (hrc : RcOk rc b pl h n) : ∀ (p : List Int) (i : Int) (acc : List Int) (l : List (Gbe × Int)), (∀ k ∈ p, 0 ≤ k ∧ k.toNat < n) → acc.length + p.length ≤ 1000 → InvE b pl l →
  ∃ l', pq rc b pl h p i acc l = some (.go (acc ++ p.map (fun k => EE b pl h k.toNat), l')) ∧ InvE b pl l'
 | [], i, acc, l, _, _, hl => ⟨l, by simp [pq], hl⟩
 | k :: p, i, acc, l, hk, hn, hl => by
  have h1 := hk k (List.mem_cons_self ..)
  obtain ⟨l1, e1, dY⟩ := hrc k l h1.1 h1.2 hl
  simp only [pq, e1, Option.bind_some]
  rw [room8 (by simp at hn ⊢; omega), cond_true]
  obtain ⟨l2, e2, fg⟩ := P8 hrc p (i + 1) (acc ++ [EE b pl h k.toNat]) l1 (fun k hk' => hk k (List.mem_cons_of_mem _ hk')) (by simp at hn ⊢; omega) dY
  exact ⟨l2, by rw [e2]; simp, fg⟩
theorem P9 {rc : RC} {b : GBk} {pl : List Int} {h : Int} {n : Nat} (hrc : RcOk rc b pl h n) {p : List Int} (hk : ∀ k ∈ p, 0 ≤ k ∧ k.toNat < n) (hn : p.length ≤ 1000) {l : List (Gbe × Int)} (hl : InvE b pl l) :
  ∃ l', vE rc b pl p h l = some (p.map (fun k => EE b pl h k.toNat), l') ∧ InvE b pl l' := by
 obtain ⟨l', e, hl'⟩ := P8 hrc p 0 [] l hk (by simpa using hn) hl
 unfold vE
 rw [fU (by omega), cond_true, e]
 exact ⟨l', rfl, hl'⟩
theorem xE : ∀ (l : List Int) (a : Int), adjB (a :: l) = true → ∀ m : Int, (∀ k ∈ a :: l, k < m) → (l.length : Int) < m - a
 | [], a, _, m, h => by have := h a (by simp); simp; omega
 | e :: l, a, h, m, hm => by
  have h' : (decide (a < e) && adjB (e :: l)) = true := h
  simp only [Bool.and_eq_true, decide_eq_true_eq] at h'
  have := xE l e h'.2 m (fun k hk => hm k (List.mem_cons_of_mem _ hk))
  simp only [List.length_cons]
  omega
theorem HOk.few {n : Int} {s : GBs} (h : HOk n s) (hn : n ≤ 6) : s.Needs.length ≤ 6 := by
 cases e : s.Needs with
 | nil => simp
 | cons a l =>
  have h1 := h.ad
  rw [e] at h1
  have := xE l a h1 n (fun k hk => (h.nd k (by rw [e]; exact hk)).2)
  have h2 := h.nd a (by rw [e]; simp)
  simp only [List.length_cons]
  omega
theorem getS {b : GBk} {s : Int} (h0 : 0 ≤ s) (h1 : s.toNat < b.Strokes.length) : ∃ x, getI b.Strokes s = some x ∧ b.Strokes[s.toNat]? = some x := by
 refine ⟨b.Strokes[s.toNat], ?_, List.getElem?_eq_getElem h1⟩
 unfold getI
 rw [if_pos h0, List.getElem?_eq_getElem h1]
theorem xF {rc : RC} {b : GBk} (hb : BH b) {pl : List Int} (hp : pl.length = b.Strokes.length) {h : Int} {s : Int} (gI : 0 ≤ s) (hs : s.toNat < b.Strokes.length) (hrc : RcOk rc b pl h s.toNat) {l : List (Gbe × Int)} (hl : InvE b pl l) :
  ∃ l', vH rc b pl s h l = some (BB b pl h s.toNat, l') ∧ InvE b pl l' := by
 have hns := hb.ns
 obtain ⟨x, e1, e2⟩ := getS gI hs
 have hx := hb.s e2
 have hfew := hx.few (by omega)
 obtain ⟨l1, f1, dY⟩ := Ek hp gI hs (by omega) hrc hl
 obtain ⟨l2, f2, fg⟩ := P9 hrc (p := x.Needs) (fun k hk => by have := hx.nd k hk; omega) (by omega) dY
 unfold vH
 simp only [f1, e1, f2, Option.bind_some]
 rw [xC (by simp; omega)]
 simp only [Option.bind_some]
 rw [xC (by simp)]
 refine ⟨l2, ?_, fg⟩
 simp only [Option.bind_some, xz, nF, e2]
 rfl
theorem El {b : GBk} {pl : List Int} {s : Int} (h0 : 0 ≤ s) (h1 : s.toNat < b.Strokes.length) : xq b pl s = some (dF b 0 s.toNat) := by
 obtain ⟨x, e1, e2⟩ := getS h0 h1
 simp [xq, e1, dF, e2]
theorem Tv {b : GBk} {pl : List Int} {s : Int} (h0 : 0 ≤ s) (h1 : s.toNat < b.Strokes.length) : xr b pl s = some (dF b 1 s.toNat) := by
 obtain ⟨x, e1, e2⟩ := getS h0 h1
 simp [xr, e1, dF, e2]
theorem Em {rc : RC} {b : GBk} (hb : BH b) {pl : List Int} (hp : pl.length = b.Strokes.length) {h : Int} (hh : h = 0 ∨ h = 1) {s : Int} (gI : 0 ≤ s) (hs : s.toNat < b.Strokes.length) (hrc : RcOk rc b pl h s.toNat) {l : List (Gbe × Int)} (hl : InvE b pl l) :
  ∃ l', xt rc b pl s h l = some (EE b pl h s.toNat, l') ∧ InvE b pl l' := by
 unfold xt
 cases hm : mapHas dP l ⟨s, h⟩ with
 | true =>
  rw [cond_true, hl.has hm]
  exact ⟨l, rfl, hl⟩
 | false =>
  obtain ⟨l1, e1, dY⟩ := xF hb hp gI hs hrc hl
  have h1 := BB_b hb pl h hs
  have h2 := hb.d h s.toNat
  rw [cond_false, e1, Option.bind_some]
  rcases hh with rfl | rfl
  ·rw [El gI hs]
   simp only [Option.bind_some, beq_self_eq_true, cond_true]
   rw [gy (by omega) (by omega), ← EE_eq hb]
   exact ⟨_, rfl, dY.set s 0⟩
  ·rw [Tv gI hs]
   simp only [Option.bind_some, beq_self_eq_true, cond_true, show ((1 : Int) == 0) = false from rfl, cond_false]
   rw [gy (by omega) (by omega), ← EE_eq hb]
   exact ⟨_, rfl, dY.set s 1⟩
theorem Ce {b : GBk} (hb : BH b) {pl : List Int} (hp : pl.length = b.Strokes.length) {h : Int} (hh : h = 0 ∨ h = 1) : ∀ (f n : Nat), n ≤ f → n ≤ b.Strokes.length → RcOk (gEnd f) b pl h n
 | 0, n, hn, _ => fun k l h0 h1 hl => absurd h1 (by omega)
 | f + 1, n, hn, hnl => fun k l h0 h1 hl => Em hb hp hh h0 (by omega) (Ce hb hp hh f k.toNat (by omega) (by omega)) hl
section
variable {b : GBk} (hb : BH b) {pl : List Int} (hp : pl.length = b.Strokes.length) {h : Int} (hh : h = 0 ∨ h = 1) {l : List (Gbe × Int)} (hl : InvE b pl l)
include hb hp hh hl
theorem s5 {s : Int} (h0 : 0 ≤ s) (h1 : s.toNat < b.Strokes.length) : ∃ l', BV b pl s h l = some (EE b pl h s.toNat, l') ∧ InvE b pl l' :=
 Ce hb hp hh 8 b.Strokes.length (by have := hb.ns; omega) (Nat.le_refl _) s l h0 h1 hl
theorem Eo {s : Int} (h0 : 0 ≤ s) (h1 : s.toNat < b.Strokes.length) : ∃ l', DS b pl s h l = some (BB b pl h s.toNat, l') ∧ InvE b pl l' :=
 xF hb hp h0 h1 (Ce hb hp hh 8 s.toNat (by have := hb.ns; omega) (by omega)) hl
theorem PA {p : List Int} (hk : ∀ k ∈ p, 0 ≤ k ∧ k.toNat < b.Strokes.length) (hn : p.length ≤ 1000) : ∃ l', BZ b pl p h l = some (p.map (fun k => EE b pl h k.toNat), l') ∧ InvE b pl l' :=
 P9 (Ce hb hp hh 8 b.Strokes.length (by have := hb.ns; omega) (Nat.le_refl _)) hk hn hl
end
section
variable {b : GBk} (hb : BH b) {pl : List Int} (hp : pl.length = b.Strokes.length) {l : List (Gbe × Int)} (hl : InvE b pl l)
include hb hp hl
theorem DG {p : List Int} (hk : ∀ k ∈ p, 0 ≤ k ∧ k.toNat < b.Strokes.length) (hn : p.length ≤ 1000) : ∃ l', wM b pl p l = some (⟨mxL (p.map fun k => EE b pl 0 k.toNat), mxL (p.map fun k => EE b pl 1 k.toNat)⟩, l') ∧ InvE b pl l' := by
 obtain ⟨l1, e1, dY⟩ := PA hb hp (.inl rfl) hl hk hn
 obtain ⟨l2, e2, fg⟩ := PA hb hp (.inr rfl) dY hk hn
 unfold wM
 simp only [e1, Option.bind_some]
 rw [xC (by simp; omega)]
 simp only [e2, Option.bind_some]
 rw [xC (by simp; omega)]
 exact ⟨l2, rfl, fg⟩
end
theorem xG {b : GBk} (hb : BH b) {pl : List Int} (hp : pl.length = b.Strokes.length) : ∀ (p : List GBs) (i : Nat) (l : List (Gbe × Int)), i + p.length = b.Strokes.length → InvE b pl l →
  ∃ l', sw b pl p i (tkF (EE b pl 1) i) l = some (.go (tkF (EE b pl 1) b.Strokes.length, l')) ∧ InvE b pl l'
 | [], i, l, hi, hl => ⟨l, by simp at hi; subst hi; rfl, hl⟩
 | s :: p, i, l, hi, hl => by
  simp only [List.length_cons] at hi
  obtain ⟨l1, e1, dY⟩ := s5 hb hp (.inr rfl) hl (s := i) (by omega) (by omega)
  simp only [sw, e1, Option.bind_some]
  rw [xC (by simp)]
  obtain ⟨l2, e2, fg⟩ := xG hb hp p (i + 1) l1 (by omega) dY
  refine ⟨l2, ?_, fg⟩
  rw [← e2]
  simp only [Option.bind_some, mxL, List.foldl_cons, List.foldl_nil, Int.toNat_natCast]
  have h1 := pE (EE b pl 1) i
  congr 1
  show max (max 0 (tkF (EE b pl 1) i)) (EE b pl 1 i) = max (tkF (EE b pl 1) i) (EE b pl 1 i)
  rw [Int.max_eq_right h1]
def TK (b : GBk) (pl : List Int) : Int := tkF (EE b pl 1) b.Strokes.length
theorem DP {b : GBk} (hb : BH b) {pl : List Int} (hp : pl.length = b.Strokes.length) {l : List (Gbe × Int)} (hl : InvE b pl l) : ∃ l', sf b pl l = some (TK b pl, l') ∧ InvE b pl l' := by
 obtain ⟨l', e, hl'⟩ := xG hb hp b.Strokes 0 l (by simp) hl
 unfold sf
 rw [fU (by have := hb.ns; omega), cond_true]
 have e' : sw b pl b.Strokes 0 0 l = _ := e
 rw [e']
 exact ⟨l', rfl, hl'⟩
end Go.V
end
