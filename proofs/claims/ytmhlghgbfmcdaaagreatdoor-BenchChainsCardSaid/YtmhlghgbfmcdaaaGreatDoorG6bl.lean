/- Part of a proof. -/
import Derived.Test.YtmhlghgbfmcdaaaGreatDoorG6bk
set_option linter.all false
set_option maxRecDepth 4000
set_option maxHeartbeats 40000000
section
namespace Go.V
open Go Go.Proofs IntKind
def pN (aa : GBk) (ag : List Int) (ai : Int) : Nat → Int → (List (Gbe × Int)) → Option (LOut ((Int) × List (Gbe × Int)) (Int × (List (Gbe × Int))))
 | 0, cw, bO => some (.go (cw, bO))
 | k0 + 1, cw, bO => Option.bind (ui aa.Strokes) (fun r5 => Option.bind (getI r5 ai) (fun x6 => Option.bind (pO (GBk.mk aa.Apprentices aa.Boards (List.set r5 (Int.toNat ai) (GBs.mk x6.Board x6.Round (GSpan.mk x6.Hours.Low (i64.wrap (x6.Hours.High + (cw + 1)))) x6.Needs))) ag ([] : List (Gbe × Int))) (fun r7 => Option.bind (pO aa ag bO) (fun r8 => cond (r7.1 == r8.1) (pN aa ag ai k0 (cw + 1) r8.2) (some (.go (cw, r8.2)))))))
def xH (aa : GBk) (ag : List Int) (ai : Int) (l0 : List (Gbe × Int)) : Option ((Int) × List (Gbe × Int)) := cond (boundOk 9) (lbind (pN aa ag ai (Int.toNat (9 - 0)) 0 l0) (fun nz => some nz) (fun c9 => some (c9.1, c9.2)) (fun _ _ => none)) none
theorem Qz (aa : GBk) (ag : List Int) (ai : Int) (l0 : List (Gbe × Int)) (R : (Int) × List (Gbe × Int)) (h : xH aa ag ai l0 = some R) : VUpd Tryz.prog G0 81 (fun β => [.agg [.lit (.int .i64 aa.Apprentices), .sl (ae eI aa.Boards) (List.length aa.Boards) false, .sl (ae cGBs aa.Strokes) (List.length aa.Strokes) false, .sl (ae eI ag) (List.length ag) false, .mp β], .lit (.int .i64 ai)]) (encM aM bQ l0) (encM aM bQ R.2) (fun _ => .lit (.int .i64 R.1)) := by
 intro bt nx hlt
 have bd := fZ (β := bt) (nx := nx) hlt
 refine au.run mixed Tryz.call81 Tryz.func81 rfl (by simp [Tryz.ntmps81]; kernel_rfl) ?_
 obtain ⟨KF, h, kF, kN⟩ := cI h
 simp only [xH] at h
 cases n0 : (boundOk 9)
 ·simp only [n0, hs] at h
  exact absurd h kN
 simp only [n0, hs] at h
 simp only [vz, mq, mqm, flr, vsi, tyf, mqt, bd, n0, nm, seval]
 obtain ⟨Q0, h, Q1, m7, Q2, ig⟩ := eR h kN
 obtain ⟨Q3, Fa, h⟩ := call3 h
 obtain ⟨Q4, m8⟩ : ∃ I : Nat → St → Prop, I = (fun m st => ∃ (lS : Nat) (bh : Int) (iX : List (Gbe × Int)), lS = m ∧ loOk bh = true ∧ Int.toNat (9 - bh) = lS ∧ st.df = [] ∧ nx + 3 ≤ st.nx ∧ st.H bt = some (.map (encM aM bQ iX)) ∧ st.H nx = some (.cells (some 92) ((cGBk aa) ++ [.sl (ae eI ag) (List.length ag) false] ++ [.mp bt])) ∧ st.tm 1 = .lit (.int .i64 ai) ∧ st.tm 2 = .ptr nx 0 ∧ st.tm 5 = .lit (.int .i64 bh) ∧ Q0 (Q3 lS bh iX)) := ⟨_, rfl⟩
 refine loopK mixed (by kernel_rfl) Q4 (Int.toNat (9 - 0)) (by rw [m8]; refine ⟨Int.toNat (9 - 0), 0, l0, rfl, (by rfl), rfl, rfl, (show nx + 3 ≤ nx + 3 by omega), ?_, ?_, ?_, ?_, ?_, h⟩ <;> first | (simp only [ua, bW, bd, nm, seval] <;> rfl) | rfl) ?_
 rintro m ⟨tm, H, eA, df⟩ hinv
 rw [m8] at hinv
 obtain ⟨lS, bh, iX, rfl, pP, kV, hdf, Fb, pQ, jv, cM, bB, bK, h⟩ := hinv
 simp only at hdf Fb pQ jv cM bB bK
 have rQ := kH (a := nx) (m := 3) (b := eA) (by omega)
 have kn := fZ (β := bt) (nx := eA) (by omega)
 subst hdf Fa
 cases lS with
 | zero =>
  have ei : (decide (bh < 9)) = false := KZ kV
  simp only [pN, hs, reduceCtorEq] at h
  simp only [vz, mq, mqm, flr, vsi, tyf, mqt, bd, n0, rQ, kn, cM, bB, bK, pQ, jv, ei, nm, seval]
  refine t8 (fun tm => tm 1 = .lit (.int .i64 ai) ∧ tm 2 = .ptr nx 0 ∧ tm 5 = .lit (.int .i64 bh) ∧ True) (by refine ⟨cM, bB, bK, trivial⟩ <;> first | (simp only [ua, bW, bd, rQ, kn, cM, bB, bK, pQ, jv, ei, nm, seval] <;> rfl) | rfl) ?_
  rintro tm ⟨dI, cg, bG, _⟩
  have ko := And.intro bd (And.intro n0 (And.intro rQ (And.intro kn (And.intro pQ (And.intro jv ei)))))
  refine Li mixed 9 [([true, true, true, true, true, true, true, false, false, false, false, false, false], 7)] [false, false, false, false, false, false, false, false, true, false, true, true, true] [false, false, false, false, false, false, false, false, true, true, true, true, true] (by kernel_rfl) ?_
  refine Ll ?_
  simp only [vz, mq, mqm, flr, vsi, tyf, mqt, ko, dI, cg, bG, nm, seval]
  refine ry ⟨?_, ?_⟩
  ·try simp only [iA, i9, dQ, i6, and_true, true_and]
   repeat' (first | exact trivial | refine And.intro ?_ ?_ | rw [dQ] | rw [i7] | exact Or.inl (by decide +kernel) | exact Or.inl (by dsimp only; decide +kernel) | (refine Or.inr ⟨?_, ?_⟩ <;> simp; done) | (refine Or.inr ⟨?_, ?_⟩ <;> simp <;> omega) | (refine Or.inr ⟨?_, ?_⟩ <;> simp [VEff.wr] <;> omega))
  refine ⟨?_, ?_⟩
  ·refine mj rfl ?_
   try simp only [vz, mq, mqm, flr, vsi, tyf, mqt, ko, dI, cg, bG, nm, seval]
   refine Lj ?_
   simp only [vz, mq, mqm, flr, vsi, tyf, mqt, ko, dI, cg, bG, nm, seval]
   refine ry ⟨?_, ?_⟩
   ·try simp only [iA, i9, dQ, i6, and_true, true_and]
    repeat' (first | exact trivial | refine And.intro ?_ ?_ | rw [dQ] | rw [i7] | exact Or.inl (by decide +kernel) | exact Or.inl (by dsimp only; decide +kernel) | (refine Or.inr ⟨?_, ?_⟩ <;> simp; done) | (refine Or.inr ⟨?_, ?_⟩ <;> simp <;> omega) | (refine Or.inr ⟨?_, ?_⟩ <;> simp [VEff.wr] <;> omega))
   replace h := m7 _ h
   try dsimp only at h
   try simp only [hs] at h
   try simp only [vz, mq, mqm, flr, vsi, tyf, mqt, ko, dI, cg, bG, nm, seval]
   refine ct (x := (.lit (.int .i64 bh))) (by first | (simp only [Tryz.results81, resV, resL, aO, bX, bY, uw, cr, tyf, mqt, ko, nm, seval] <;> rfl) | rfl) ?_
   obtain rfl := kF _ h
   refine ⟨(by first | rfl | assumption | (simp only [ba, bj, ko, nm, seval] <;> rfl)), ?_⟩
   exact sq_of (hO (by first | (simp only [tre, aI, mqr, Bool.and_self]; done) | rfl) rfl)
  refine tw rfl ?_
  try simp only [vz, mq, mqm, flr, vsi, tyf, mqt, ko, dI, cg, bG, nm, seval]
  refine ⟨?_, ?_⟩
  ·try simp only [iA, i9, dQ, i6, and_true, true_and]
   repeat' (first | exact trivial | refine And.intro ?_ ?_ | rw [dQ] | rw [i7] | exact Or.inl (by decide +kernel) | exact Or.inl (by dsimp only; decide +kernel) | (refine Or.inr ⟨?_, ?_⟩ <;> simp; done) | (refine Or.inr ⟨?_, ?_⟩ <;> simp <;> omega) | (refine Or.inr ⟨?_, ?_⟩ <;> simp [VEff.wr] <;> omega))
  refine mj rfl ?_
  try simp only [vz, mq, mqm, flr, vsi, tyf, mqt, ko, dI, cg, bG, nm, seval]
  refine Lk ?_
  simp only [vz, mq, mqm, flr, vsi, tyf, mqt, ko, dI, cg, bG, nm, seval]
  refine ry ⟨?_, ?_⟩
  ·try simp only [iA, i9, dQ, i6, and_true, true_and]
   repeat' (first | exact trivial | refine And.intro ?_ ?_ | rw [dQ] | rw [i7] | exact Or.inl (by decide +kernel) | exact Or.inl (by dsimp only; decide +kernel) | (refine Or.inr ⟨?_, ?_⟩ <;> simp; done) | (refine Or.inr ⟨?_, ?_⟩ <;> simp <;> omega) | (refine Or.inr ⟨?_, ?_⟩ <;> simp [VEff.wr] <;> omega))
  replace h := m7 _ h
  try dsimp only at h
  try simp only [hs] at h
  try simp only [vz, mq, mqm, flr, vsi, tyf, mqt, ko, dI, cg, bG, nm, seval]
  refine ct (x := (.lit (.int .i64 bh))) (by first | (simp only [Tryz.results81, resV, resL, aO, bX, bY, uw, cr, tyf, mqt, ko, nm, seval] <;> rfl) | rfl) ?_
  obtain rfl := kF _ h
  refine ⟨(by first | rfl | assumption | (simp only [ba, bj, ko, nm, seval] <;> rfl)), ?_⟩
  exact sq_of (hO (by first | (simp only [tre, aI, mqr, Bool.and_self]; done) | rfl) rfl)
 | succ lS =>
  have dC : (decide (bh < 9)) = true := tq kV
  have Fc := tt pP kV n0
  simp only [pN, hs, reduceCtorEq] at h
  simp only [vz, mq, mqm, flr, vsi, tyf, mqt, bd, n0, rQ, kn, cM, bB, bK, pQ, jv, dC, Fc, nm, seval]
  refine t8 (fun tm => tm 1 = .lit (.int .i64 ai) ∧ tm 2 = .ptr nx 0 ∧ tm 5 = .lit (.int .i64 bh) ∧ True) (by refine ⟨cM, bB, bK, trivial⟩ <;> first | (simp only [ua, bW, bd, rQ, kn, cM, bB, bK, pQ, jv, dC, Fc, nm, seval] <;> rfl) | rfl) ?_
  rintro tm ⟨bA, bZ, bR, _⟩
  have cl := And.intro bd (And.intro n0 (And.intro rQ (And.intro kn (And.intro pQ (And.intro jv (And.intro dC Fc))))))
  refine Li mixed 9 [([true, true, true, true, true, true, true, false, false, false, false, false, false], 7)] [false, false, false, false, false, false, false, false, true, false, true, true, true] [false, false, false, false, false, false, false, false, true, true, true, true, true] (by kernel_rfl) ?_
  refine Ll ?_
  simp only [vz, mq, mqm, flr, vsi, tyf, mqt, cl, bA, bZ, bR, nm, seval]
  refine ry ⟨?_, ?_⟩
  ·try simp only [iA, i9, dQ, i6, and_true, true_and]
   repeat' (first | exact trivial | refine And.intro ?_ ?_ | rw [dQ] | rw [i7] | exact Or.inl (by decide +kernel) | exact Or.inl (by dsimp only; decide +kernel) | (refine Or.inr ⟨?_, ?_⟩ <;> simp; done) | (refine Or.inr ⟨?_, ?_⟩ <;> simp <;> omega) | (refine Or.inr ⟨?_, ?_⟩ <;> simp [VEff.wr] <;> omega))
  refine ⟨?_, ?_⟩
  ·refine mj rfl ?_
   try simp only [vz, mq, mqm, flr, vsi, tyf, mqt, cl, bA, bZ, bR, nm, seval]
   refine kopen ?_
   rw [lK]
   refine au.run mixed Tryz.call112 Tryz.func112 rfl (by simp [Tryz.ntmps112]; kernel_rfl) ?_
   obtain ⟨jw, Fe, h⟩ := optI h ig
   try simp only [hs] at h
   simp only [vz, mq, mqm, flr, vsi, tyf, mqt, cl, nm, seval]
   refine kown (args0 := [.sl (ae cGBs aa.Strokes) (List.length aa.Strokes) false]) (by first | (simp only [nrm, aF, @dH] <;> rfl) | rfl) (by simp only [tre, aI, mqr, Bool.and_self]) (Mk _ _ Fe) ?_
   obtain ⟨cG, dX, h⟩ := optI h ig
   try simp only [hs] at h
   have ij := setAF (w := 5) (enc := cGBs) 3 1 (fun _ => rfl) (by decide) dX
   have gY := setBF (w := 5) (enc := cGBs) 3 [.lit (.int .i64 (i64.wrap (cG.Hours.High + (bh + 1))))] (GBs.mk cG.Board cG.Round (GSpan.mk cG.Hours.Low (i64.wrap (cG.Hours.High + (bh + 1)))) cG.Needs) (fun _ => rfl) (Nat.le_of_ble_eq_true rfl) dX rfl
   simp only [vz, mq, mqm, flr, vsi, tyf, mqt, (br dX), nm, seval] at gY
   have ik := setC (w := 5) (enc := cGBs) jw (Int.toNat ai) (GBs.mk cG.Board cG.Round (GSpan.mk cG.Hours.Low (i64.wrap (cG.Hours.High + (bh + 1)))) cG.Needs) (fun _ => rfl)
   try simp only [vz, mq, mqm, flr, vsi, tyf, mqt, cl, (bn dX), (br dX), ij, gY, ik, nm, seval]
   refine kopen ?_
   rw [lK]
   refine au.freeze1 (args' := [.agg ([.lit (.int .i64 aa.Apprentices)] ++ [.sl (ae eI aa.Boards) (List.length aa.Boards) false] ++ [.sl (ae cGBs (List.set jw (Int.toNat ai) (GBs.mk cG.Board cG.Round (GSpan.mk cG.Hours.Low (i64.wrap (cG.Hours.High + (bh + 1)))) cG.Needs))) (List.length jw) false]), .sl (ae eI ag) (List.length ag) false]) (γ := (eA + 21)) (el := none) (cs := ae cGBs (List.set jw (Int.toNat ai) (GBs.mk cG.Board cG.Round (GSpan.mk cG.Hours.Low (i64.wrap (cG.Hours.High + (bh + 1)))) cG.Needs))) ?_ ?_ ?_
   ·exact (by first | rfl | assumption | (simp only [ba, bj, kW, cl, nm, seval] <;> rfl) | (simp only [ba, bj, ga, gi, gx, gy, tyf, mqt, cl, (bn dX), (br dX), ij, gY, ik, nm, seval]; done))
   ·exact ⟨Frozen.agg3 (γ := (eA + 21)) (n := List.length jw) (w := 5) (cp := List.length jw) (x := .lit (.int .i64 aa.Apprentices)) (y := .sl (ae eI aa.Boards) (List.length aa.Boards) false) (el := none) (cs := ae cGBs (List.set jw (Int.toNat ai) (GBs.mk cG.Board cG.Round (GSpan.mk cG.Hours.Low (i64.wrap (cG.Hours.High + (bh + 1)))) cG.Needs))) (by first | rfl | (simp only [tre, aI, mqr, Bool.and_self]; done)) (by first | rfl | (simp only [tre, aI, mqr, Bool.and_self]; done)) (by first | rfl | assumption | (simp only [ba, bj, kW, cl, nm, seval] <;> rfl) | (simp only [ba, bj, ga, gi, gx, gy, tyf, mqt, cl, (bn dX), (br dX), ij, gY, ik, nm, seval]; done)) (kX.treeL _) (by simp only [List.length_set, ej (w := 5) (enc := cGBs) (fun _ => rfl)]), .same, trivial⟩
   refine au.run mixed Tryz.call69 Tryz.func69 rfl (by simp [Tryz.ntmps69]; kernel_rfl) ?_
   try simp only [vz, mq, mqm, flr, vsi, tyf, mqt, cl, (bn dX), (br dX), ij, gY, ik, nm, seval]
   refine ct (x := (.agg ([.lit (.int .i64 aa.Apprentices)] ++ [.sl (ae eI aa.Boards) (List.length aa.Boards) false] ++ [.sl (ae cGBs (List.set jw (Int.toNat ai) (GBs.mk cG.Board cG.Round (GSpan.mk cG.Hours.Low (i64.wrap (cG.Hours.High + (bh + 1)))) cG.Needs))) (List.length (List.set jw (Int.toNat ai) (GBs.mk cG.Board cG.Round (GSpan.mk cG.Hours.Low (i64.wrap (cG.Hours.High + (bh + 1)))) cG.Needs))) false] ++ [.sl (ae eI ag) (List.length ag) false] ++ [.mp (eA + 46)]))) (by first | (simp only [Tryz.results69, resV, resL, aO, bX, bY, uw, cr, tyf, mqt, cl, (bn dX), (br dX), ij, gY, ik, nm, seval] <;> rfl) | rfl) ?_
   try simp only [vz, mq, mqm, flr, vsi, tyf, mqt, cl, (bn dX), (br dX), ij, gY, ik, nm, seval]
   refine ct (x := (.agg ([.lit (.int .i64 aa.Apprentices)] ++ [.sl (ae eI aa.Boards) (List.length aa.Boards) false] ++ [.sl (ae cGBs (List.set jw (Int.toNat ai) (GBs.mk cG.Board cG.Round (GSpan.mk cG.Hours.Low (i64.wrap (cG.Hours.High + (bh + 1)))) cG.Needs))) (List.length (List.set jw (Int.toNat ai) (GBs.mk cG.Board cG.Round (GSpan.mk cG.Hours.Low (i64.wrap (cG.Hours.High + (bh + 1)))) cG.Needs))) false] ++ [.sl (ae eI ag) (List.length ag) false] ++ [.mp (eA + 46)]))) (by first | (simp only [Tryz.results112, resV, resL, aO, bX, bY, uw, cr, tyf, mqt, cl, (bn dX), (br dX), ij, gY, ik, nm, seval] <;> rfl) | rfl) ?_
   try simp only [vz, mq, mqm, flr, vsi, tyf, mqt, cl, (bn dX), (br dX), ij, gY, ik, bA, bZ, bR, nm, seval]
   refine Lj ?_
   obtain ⟨xI, rR, h⟩ := optI h ig
   try simp only [hs] at h
   simp only [vz, mq, mqm, flr, vsi, tyf, mqt, cl, (bn dX), (br dX), ij, gY, ik, bA, bZ, bR, nm, seval]
   refine dkupd (VUpd.at (β := eA + 46) (y := (fun _ => .lit (.int .i64 xI.1))) (uj _ _ _ _ rR) (by omega) (by first | rfl | assumption | (simp only [ba, bj, cl, nm, seval] <;> rfl)) (by first | rfl | (simp only [nrm, aF, @dH, @gk, List.length_set] <;> rfl)) (gj (fun _ => rfl) _)) ?_
   refine gD (fun tm => tm 1 = .lit (.int .i64 ai) ∧ tm 2 = .ptr nx 0 ∧ tm 5 = .lit (.int .i64 bh) ∧ tm 8 = .lit (.bool true) ∧ tm 14 = .lit (.int .i64 xI.1) ∧ True) (by refine ⟨bA, bZ, bR, ?_, ?_, trivial⟩ <;> first | (simp only [ua, bW, cl, ij, gY, ik, bA, bZ, bR, nm, seval] <;> rfl) | rfl) ?_
   rintro tm ⟨kq, n7, cE, cy, cz, _⟩
   obtain ⟨pR, Ff, h⟩ := optI h ig
   try simp only [hs] at h
   simp only [vz, mq, mqm, flr, vsi, tyf, mqt, cl, (bn dX), (br dX), ij, gY, ik, kq, n7, cE, cy, cz, nm, seval]
   refine dkupd (VUpd.at (β := bt) (y := (fun _ => .lit (.int .i64 pR.1))) (uj _ _ _ _ Ff) (by omega) (by first | rfl | assumption | (simp only [ba, bj, cl, nm, seval] <;> rfl)) (by first | rfl | (simp only [nrm, aF, @dH, @gk] <;> rfl)) (gj (fun _ => rfl) _)) ?_
   refine gD (fun tm => tm 1 = .lit (.int .i64 ai) ∧ tm 2 = .ptr nx 0 ∧ tm 5 = .lit (.int .i64 bh) ∧ tm 8 = .lit (.bool true) ∧ tm 14 = .lit (.int .i64 xI.1) ∧ tm 16 = .lit (.int .i64 pR.1) ∧ True) (by refine ⟨kq, n7, cE, ?_, cz, ?_, trivial⟩ <;> first | (simp only [ua, bW, cl, ij, gY, ik, kq, n7, cE, cy, cz, nm, seval] <;> rfl) | rfl) ?_
   rintro tm ⟨cF, cu, dD, iF, iG, nC, _⟩
   simp only [vz, mq, mqm, flr, vsi, tyf, mqt, cl, (bn dX), (br dX), ij, gY, ik, cF, cu, dD, iF, iG, nC, nm, seval]
   refine ry ⟨?_, ?_⟩
   ·try simp only [iA, i9, dQ, i6, and_true, true_and]
    repeat' (first | exact trivial | refine And.intro ?_ ?_ | rw [dQ] | rw [i7] | exact Or.inl (by decide +kernel) | exact Or.inl (by dsimp only; decide +kernel) | (refine Or.inr ⟨?_, ?_⟩ <;> simp; done) | (refine Or.inr ⟨?_, ?_⟩ <;> simp <;> omega) | (refine Or.inr ⟨?_, ?_⟩ <;> simp [VEff.wr] <;> omega))
   cases fQ : (xI.1 == pR.1)
   ·simp only [fQ, hs] at h
    replace h := m7 _ h
    try dsimp only at h
    try simp only [hs] at h
    try simp only [vz, mq, mqm, flr, vsi, tyf, mqt, cl, (bn dX), (br dX), ij, gY, ik, cF, cu, dD, iF, iG, nC, fQ, nm, seval]
    refine ct (x := (.lit (.int .i64 bh))) (by first | (simp only [Tryz.results81, resV, resL, aO, bX, bY, uw, cr, tyf, mqt, cl, (bn dX), (br dX), ij, gY, ik, fQ, nm, seval] <;> rfl) | rfl) ?_
    obtain rfl := kF _ h
    refine ⟨(by first | rfl | assumption | (simp only [ba, bj, cl, nm, seval] <;> rfl)), ?_⟩
    exact sq_of (hO (by first | (simp only [tre, aI, mqr, Bool.and_self]; done) | rfl) rfl)
   simp only [fQ, hs] at h
   simp only [vz, mq, mqm, flr, vsi, tyf, mqt, cl, (bn dX), (br dX), ij, gY, ik, cF, cu, dD, iF, iG, nC, fQ, nm, seval]
   exact ⟨lS, Nat.lt_succ_self _, by rw [m8]; refine ⟨lS, bh + 1, pR.2, rfl, oR pP, zU kV, rfl, (show nx + 3 ≤ eA + 52 by omega), ?_, ?_, cF, cu, ?_, (by first | exact h | (simp only [cl, fQ]; exact h))⟩ <;> first | (simp only [ua, bW, cl, ij, gY, ik, cF, cu, dD, iF, iG, nC, fQ, nm, seval] <;> rfl) | rfl⟩
  refine tw rfl ?_
  try simp only [vz, mq, mqm, flr, vsi, tyf, mqt, cl, bA, bZ, bR, nm, seval]
  refine ⟨?_, ?_⟩
  ·try simp only [iA, i9, dQ, i6, and_true, true_and]
   repeat' (first | exact trivial | refine And.intro ?_ ?_ | rw [dQ] | rw [i7] | exact Or.inl (by decide +kernel) | exact Or.inl (by dsimp only; decide +kernel) | (refine Or.inr ⟨?_, ?_⟩ <;> simp; done) | (refine Or.inr ⟨?_, ?_⟩ <;> simp <;> omega) | (refine Or.inr ⟨?_, ?_⟩ <;> simp [VEff.wr] <;> omega))
  refine mj rfl ?_
  try simp only [vz, mq, mqm, flr, vsi, tyf, mqt, cl, bA, bZ, bR, nm, seval]
  refine kopen ?_
  rw [lK]
  refine au.run mixed Tryz.call112 Tryz.func112 rfl (by simp [Tryz.ntmps112]; kernel_rfl) ?_
  obtain ⟨kY, xJ, h⟩ := optI h ig
  try simp only [hs] at h
  simp only [vz, mq, mqm, flr, vsi, tyf, mqt, cl, nm, seval]
  refine kown (args0 := [.sl (ae cGBs aa.Strokes) (List.length aa.Strokes) false]) (by first | (simp only [nrm, aF, @dH] <;> rfl) | rfl) (by simp only [tre, aI, mqr, Bool.and_self]) (Mk _ _ xJ) ?_
  obtain ⟨cH, dY, h⟩ := optI h ig
  try simp only [hs] at h
  have il := setAF (w := 5) (enc := cGBs) 3 1 (fun _ => rfl) (by decide) dY
  have gZ := setBF (w := 5) (enc := cGBs) 3 [.lit (.int .i64 (i64.wrap (cH.Hours.High + (bh + 1))))] (GBs.mk cH.Board cH.Round (GSpan.mk cH.Hours.Low (i64.wrap (cH.Hours.High + (bh + 1)))) cH.Needs) (fun _ => rfl) (Nat.le_of_ble_eq_true rfl) dY rfl
  simp only [vz, mq, mqm, flr, vsi, tyf, mqt, (br dY), nm, seval] at gZ
  have im := setC (w := 5) (enc := cGBs) kY (Int.toNat ai) (GBs.mk cH.Board cH.Round (GSpan.mk cH.Hours.Low (i64.wrap (cH.Hours.High + (bh + 1)))) cH.Needs) (fun _ => rfl)
  try simp only [vz, mq, mqm, flr, vsi, tyf, mqt, cl, (bn dY), (br dY), il, gZ, im, nm, seval]
  refine kopen ?_
  rw [lK]
  refine au.freeze1 (args' := [.agg ([.lit (.int .i64 aa.Apprentices)] ++ [.sl (ae eI aa.Boards) (List.length aa.Boards) false] ++ [.sl (ae cGBs (List.set kY (Int.toNat ai) (GBs.mk cH.Board cH.Round (GSpan.mk cH.Hours.Low (i64.wrap (cH.Hours.High + (bh + 1)))) cH.Needs))) (List.length kY) false]), .sl (ae eI ag) (List.length ag) false]) (γ := (eA + 21)) (el := none) (cs := ae cGBs (List.set kY (Int.toNat ai) (GBs.mk cH.Board cH.Round (GSpan.mk cH.Hours.Low (i64.wrap (cH.Hours.High + (bh + 1)))) cH.Needs))) ?_ ?_ ?_
  ·exact (by first | rfl | assumption | (simp only [ba, bj, kW, cl, nm, seval] <;> rfl) | (simp only [ba, bj, ga, gi, gx, gy, tyf, mqt, cl, (bn dY), (br dY), il, gZ, im, nm, seval]; done))
  ·exact ⟨Frozen.agg3 (γ := (eA + 21)) (n := List.length kY) (w := 5) (cp := List.length kY) (x := .lit (.int .i64 aa.Apprentices)) (y := .sl (ae eI aa.Boards) (List.length aa.Boards) false) (el := none) (cs := ae cGBs (List.set kY (Int.toNat ai) (GBs.mk cH.Board cH.Round (GSpan.mk cH.Hours.Low (i64.wrap (cH.Hours.High + (bh + 1)))) cH.Needs))) (by first | rfl | (simp only [tre, aI, mqr, Bool.and_self]; done)) (by first | rfl | (simp only [tre, aI, mqr, Bool.and_self]; done)) (by first | rfl | assumption | (simp only [ba, bj, kW, cl, nm, seval] <;> rfl) | (simp only [ba, bj, ga, gi, gx, gy, tyf, mqt, cl, (bn dY), (br dY), il, gZ, im, nm, seval]; done)) (kX.treeL _) (by simp only [List.length_set, ej (w := 5) (enc := cGBs) (fun _ => rfl)]), .same, trivial⟩
  refine au.run mixed Tryz.call69 Tryz.func69 rfl (by simp [Tryz.ntmps69]; kernel_rfl) ?_
  try simp only [vz, mq, mqm, flr, vsi, tyf, mqt, cl, (bn dY), (br dY), il, gZ, im, nm, seval]
  refine ct (x := (.agg ([.lit (.int .i64 aa.Apprentices)] ++ [.sl (ae eI aa.Boards) (List.length aa.Boards) false] ++ [.sl (ae cGBs (List.set kY (Int.toNat ai) (GBs.mk cH.Board cH.Round (GSpan.mk cH.Hours.Low (i64.wrap (cH.Hours.High + (bh + 1)))) cH.Needs))) (List.length (List.set kY (Int.toNat ai) (GBs.mk cH.Board cH.Round (GSpan.mk cH.Hours.Low (i64.wrap (cH.Hours.High + (bh + 1)))) cH.Needs))) false] ++ [.sl (ae eI ag) (List.length ag) false] ++ [.mp (eA + 46)]))) (by first | (simp only [Tryz.results69, resV, resL, aO, bX, bY, uw, cr, tyf, mqt, cl, (bn dY), (br dY), il, gZ, im, nm, seval] <;> rfl) | rfl) ?_
  try simp only [vz, mq, mqm, flr, vsi, tyf, mqt, cl, (bn dY), (br dY), il, gZ, im, nm, seval]
  refine ct (x := (.agg ([.lit (.int .i64 aa.Apprentices)] ++ [.sl (ae eI aa.Boards) (List.length aa.Boards) false] ++ [.sl (ae cGBs (List.set kY (Int.toNat ai) (GBs.mk cH.Board cH.Round (GSpan.mk cH.Hours.Low (i64.wrap (cH.Hours.High + (bh + 1)))) cH.Needs))) (List.length (List.set kY (Int.toNat ai) (GBs.mk cH.Board cH.Round (GSpan.mk cH.Hours.Low (i64.wrap (cH.Hours.High + (bh + 1)))) cH.Needs))) false] ++ [.sl (ae eI ag) (List.length ag) false] ++ [.mp (eA + 46)]))) (by first | (simp only [Tryz.results112, resV, resL, aO, bX, bY, uw, cr, tyf, mqt, cl, (bn dY), (br dY), il, gZ, im, nm, seval] <;> rfl) | rfl) ?_
  try simp only [vz, mq, mqm, flr, vsi, tyf, mqt, cl, (bn dY), (br dY), il, gZ, im, bA, bZ, bR, nm, seval]
  refine Lk ?_
  obtain ⟨xK, Q5, h⟩ := optI h ig
  try simp only [hs] at h
  simp only [vz, mq, mqm, flr, vsi, tyf, mqt, cl, (bn dY), (br dY), il, gZ, im, bA, bZ, bR, nm, seval]
  refine dkupd (VUpd.at (β := eA + 46) (y := (fun _ => .lit (.int .i64 xK.1))) (uj _ _ _ _ Q5) (by omega) (by first | rfl | assumption | (simp only [ba, bj, cl, nm, seval] <;> rfl)) (by first | rfl | (simp only [nrm, aF, @dH, @gk, List.length_set] <;> rfl)) (gj (fun _ => rfl) _)) ?_
  refine gD (fun tm => tm 1 = .lit (.int .i64 ai) ∧ tm 2 = .ptr nx 0 ∧ tm 5 = .lit (.int .i64 bh) ∧ tm 8 = .lit (.bool true) ∧ tm 14 = .lit (.int .i64 xK.1) ∧ tm 15 = .agg ((cGBk aa) ++ [.sl (ae eI ag) (List.length ag) false] ++ [.mp bt]) ∧ True) (by refine ⟨bA, bZ, bR, ?_, ?_, ?_, trivial⟩ <;> first | (simp only [ua, bW, cl, il, gZ, im, bA, bZ, bR, nm, seval] <;> rfl) | rfl) ?_
  rintro tm ⟨jH, jx, jy, gd, fO, kj, _⟩
  obtain ⟨xL, Q6, h⟩ := optI h ig
  try simp only [hs] at h
  simp only [vz, mq, mqm, flr, vsi, tyf, mqt, cl, (bn dY), (br dY), il, gZ, im, jH, jx, jy, gd, fO, kj, nm, seval]
  refine dkupd (VUpd.at (β := bt) (y := (fun _ => .lit (.int .i64 xL.1))) (uj _ _ _ _ Q6) (by omega) (by first | rfl | assumption | (simp only [ba, bj, cl, nm, seval] <;> rfl)) (by first | rfl | (simp only [nrm, aF, @dH, @gk] <;> rfl)) (gj (fun _ => rfl) _)) ?_
  refine gD (fun tm => tm 1 = .lit (.int .i64 ai) ∧ tm 2 = .ptr nx 0 ∧ tm 5 = .lit (.int .i64 bh) ∧ tm 8 = .lit (.bool true) ∧ tm 14 = .lit (.int .i64 xK.1) ∧ tm 16 = .lit (.int .i64 xL.1) ∧ True) (by refine ⟨jH, jx, jy, ?_, fO, ?_, trivial⟩ <;> first | (simp only [ua, bW, cl, il, gZ, im, jH, jx, jy, gd, fO, kj, nm, seval] <;> rfl) | rfl) ?_
  rintro tm ⟨nD, uk, xM, xN, xO, xP, _⟩
  simp only [vz, mq, mqm, flr, vsi, tyf, mqt, cl, (bn dY), (br dY), il, gZ, im, nD, uk, xM, xN, xO, xP, nm, seval]
  refine ry ⟨?_, ?_⟩
  ·try simp only [iA, i9, dQ, i6, and_true, true_and]
   repeat' (first | exact trivial | refine And.intro ?_ ?_ | rw [dQ] | rw [i7] | exact Or.inl (by decide +kernel) | exact Or.inl (by dsimp only; decide +kernel) | (refine Or.inr ⟨?_, ?_⟩ <;> simp; done) | (refine Or.inr ⟨?_, ?_⟩ <;> simp <;> omega) | (refine Or.inr ⟨?_, ?_⟩ <;> simp [VEff.wr] <;> omega))
  cases pS : (xK.1 == xL.1)
  ·simp only [pS, hs] at h
   replace h := m7 _ h
   try dsimp only at h
   try simp only [hs] at h
   try simp only [vz, mq, mqm, flr, vsi, tyf, mqt, cl, (bn dY), (br dY), il, gZ, im, nD, uk, xM, xN, xO, xP, pS, nm, seval]
   refine ct (x := (.lit (.int .i64 bh))) (by first | (simp only [Tryz.results81, resV, resL, aO, bX, bY, uw, cr, tyf, mqt, cl, (bn dY), (br dY), il, gZ, im, pS, nm, seval] <;> rfl) | rfl) ?_
   obtain rfl := kF _ h
   refine ⟨(by first | rfl | assumption | (simp only [ba, bj, cl, nm, seval] <;> rfl)), ?_⟩
   exact sq_of (hO (by first | (simp only [tre, aI, mqr, Bool.and_self]; done) | rfl) rfl)
  simp only [pS, hs] at h
  simp only [vz, mq, mqm, flr, vsi, tyf, mqt, cl, (bn dY), (br dY), il, gZ, im, nD, uk, xM, xN, xO, xP, pS, nm, seval]
  exact ⟨lS, Nat.lt_succ_self _, by rw [m8]; refine ⟨lS, bh + 1, xL.2, rfl, oR pP, zU kV, rfl, (show nx + 3 ≤ eA + 52 by omega), ?_, ?_, nD, uk, ?_, (by first | exact h | (simp only [cl, pS]; exact h))⟩ <;> first | (simp only [ua, bW, cl, il, gZ, im, nD, uk, xM, xN, xO, xP, pS, nm, seval] <;> rfl) | rfl⟩
def m9 (al : GBk) (ah : List Int) (av : Int) : Option (Int × Int) := Option.bind (pT al) (fun r1 => cond (r1) (Option.bind (pU al ah) (fun r2 => cond (r2) (Option.bind (um al av) (fun r3 => cond (r3) (Option.bind (xH al ah av ([] : List (Gbe × Int))) (fun r4 => some (r4.1, 0))) (some (0, 2)))) (some (0, 2)))) (some (0, 2)))
theorem Q7 (al : GBk) (ah : List Int) (av : Int) (R : Int × Int) (h : m9 al ah av = some R) : ak Tryz.prog G0 43 [.agg (cGBk al), .sl (ae eI ah) (List.length ah) false, .lit (.int .i64 av)] (.tree (.tup [.lit (.int .i64 R.1), .lit (.int .i64 R.2)])) := by
 refine ak.runR mixed Tryz.call43 Tryz.func43 rfl (by simp [Tryz.ntmps43]; kernel_rfl) ?_
 obtain ⟨KF, h, kF, kN⟩ := cI h
 simp only [m9] at h
 obtain ⟨r5, o6, h⟩ := optI h kN
 try simp only [hs] at h
 simp only [vz, mq, mqm, vsi, tyf, mqt, nm, seval]
 refine ktree (args0 := [.agg (cGBk al)]) (by first | (simp only [nrm, aF, @dH] <;> rfl) | rfl) (by simp only [tre, aI, mqr, Bool.and_self]) (Ml _ _ o6) ?_
 refine bN (fun tm => tm 1 = .sl (ae eI ah) (List.length ah) false ∧ tm 2 = .lit (.int .i64 av) ∧ tm 3 = .ptr 0 0 ∧ tm 9 = .lit (.bool r5) ∧ True) (by refine ⟨?_, ?_, ?_, ?_, trivial⟩ <;> first | (simp only [ua, bW, nm, seval] <;> rfl) | rfl) ?_
 rintro tm ⟨e7, e8, e9, bk, _⟩
 cases cm : (r5)
 ·simp only [cm, hs] at h
  try simp only [vz, mq, mqm, vsi, tyf, mqt, e7, e8, e9, bk, cm, nm, seval]
  refine ct (x := (.tup [.lit (.int .i64 0), .lit (.int .i64 2)])) (by first | (simp only [Tryz.results43, resV, resL, aO, bX, bY, uw, cr, tyf, mqt, cm, nm, seval] <;> rfl) | rfl) ?_
  obtain rfl := kF _ h
  refine fB ?_ ?_
  ·simp only [tre, aI, mqr, Bool.and_self]
  ·first | (simp only [outV, uw, fp, cr, tyf, mqt, nrm, aF, e7, e8, e9, bk, cm, nm, seval] <;> rfl) | rfl
 simp only [cm, hs] at h
 obtain ⟨uo, gM, h⟩ := optI h kN
 try simp only [hs] at h
 simp only [vz, mq, mqm, vsi, tyf, mqt, e7, e8, e9, bk, cm, nm, seval]
 refine ktree (args0 := [.agg (cGBk al), .sl (ae eI ah) (List.length ah) false]) (by first | (simp only [nrm, aF, @dH] <;> rfl) | rfl) (by simp only [tre, aI, mqr, Bool.and_self]) (Mm _ _ _ gM) ?_
 refine bN (fun tm => tm 1 = .sl (ae eI ah) (List.length ah) false ∧ tm 2 = .lit (.int .i64 av) ∧ tm 3 = .ptr 0 0 ∧ tm 11 = .lit (.bool false) ∧ tm 14 = .lit (.bool uo) ∧ True) (by refine ⟨e7, e8, e9, ?_, ?_, trivial⟩ <;> first | (simp only [ua, bW, e7, e8, e9, bk, cm, nm, seval] <;> rfl) | rfl) ?_
 rintro tm ⟨bS, cM, bB, bK, cv, _⟩
 cases eC : (uo)
 ·simp only [eC, hs] at h
  try simp only [vz, mq, mqm, vsi, tyf, mqt, cm, bS, cM, bB, bK, cv, eC, nm, seval]
  refine ct (x := (.tup [.lit (.int .i64 0), .lit (.int .i64 2)])) (by first | (simp only [Tryz.results43, resV, resL, aO, bX, bY, uw, cr, tyf, mqt, cm, eC, nm, seval] <;> rfl) | rfl) ?_
  obtain rfl := kF _ h
  refine fB ?_ ?_
  ·simp only [tre, aI, mqr, Bool.and_self]
  ·first | (simp only [outV, uw, fp, cr, tyf, mqt, nrm, aF, cm, bS, cM, bB, bK, cv, eC, nm, seval] <;> rfl) | rfl
 simp only [eC, hs] at h
 obtain ⟨gw, iq, h⟩ := optI h kN
 try simp only [hs] at h
 simp only [vz, mq, mqm, vsi, tyf, mqt, cm, bS, cM, bB, bK, cv, eC, nm, seval]
 refine ktree (args0 := [.agg (cGBk al), .lit (.int .i64 av)]) (by first | (simp only [nrm, aF, @dH] <;> rfl) | rfl) (by simp only [tre, aI, mqr, Bool.and_self]) (Q8 _ _ _ iq) ?_
 refine bN (fun tm => tm 1 = .sl (ae eI ah) (List.length ah) false ∧ tm 2 = .lit (.int .i64 av) ∧ tm 3 = .ptr 0 0 ∧ tm 17 = .lit (.bool false) ∧ tm 20 = .lit (.bool gw) ∧ True) (by refine ⟨bS, cM, bB, ?_, ?_, trivial⟩ <;> first | (simp only [ua, bW, cm, bS, cM, bB, bK, cv, eC, nm, seval] <;> rfl) | rfl) ?_
 rintro tm ⟨cg, bG, cV, cN, du, _⟩
 cases fq : (gw)
 ·simp only [fq, hs] at h
  try simp only [vz, mq, mqm, vsi, tyf, mqt, cm, eC, cg, bG, cV, cN, du, fq, nm, seval]
  refine ct (x := (.tup [.lit (.int .i64 0), .lit (.int .i64 2)])) (by first | (simp only [Tryz.results43, resV, resL, aO, bX, bY, uw, cr, tyf, mqt, cm, eC, fq, nm, seval] <;> rfl) | rfl) ?_
  obtain rfl := kF _ h
  refine fB ?_ ?_
  ·simp only [tre, aI, mqr, Bool.and_self]
  ·first | (simp only [outV, uw, fp, cr, tyf, mqt, nrm, aF, cm, eC, cg, bG, cV, cN, du, fq, nm, seval] <;> rfl) | rfl
 simp only [fq, hs] at h
 try simp only [vz, mq, mqm, vsi, tyf, mqt, cm, eC, cg, bG, cV, cN, du, fq, nm, seval]
 refine kopen ?_
 rw [lK]
 refine au.run mixed Tryz.call69 Tryz.func69 rfl (by simp [Tryz.ntmps69]; kernel_rfl) ?_
 try simp only [vz, mq, mqm, vsi, tyf, mqt, cm, eC, fq, nm, seval]
 refine ct (x := (.agg ((cGBk al) ++ [.sl (ae eI ah) (List.length ah) false] ++ [.mp 29]))) (by first | (simp only [Tryz.results69, resV, resL, aO, bX, bY, uw, cr, tyf, mqt, cm, eC, fq, nm, seval] <;> rfl) | rfl) ?_
 obtain ⟨Fg, Q9, h⟩ := optI h kN
 try simp only [hs] at h
 simp only [vz, mq, mqm, vsi, tyf, mqt, cm, eC, fq, cg, bG, cV, cN, du, nm, seval]
 refine kupd (VUpd.at (β := 29) (y := (fun _ => .lit (.int .i64 Fg.1))) (Qz _ _ _ _ _ Q9) (by omega) (by first | rfl | assumption | (simp only [ba, bj, nm, seval] <;> rfl)) (by first | rfl | (simp only [nrm, aF, @dH, @gk] <;> rfl)) (gj (fun _ => rfl) _)) ?_
 refine gD (fun tm => tm 27 = .lit (.int .i64 Fg.1) ∧ True) (by refine ⟨?_, trivial⟩ <;> first | (simp only [ua, bW, cm, eC, fq, cg, bG, cV, cN, du, nm, seval] <;> rfl) | rfl) ?_
 rintro tm ⟨cj, _⟩
 try simp only [vz, mq, mqm, vsi, tyf, mqt, cm, eC, fq, cj, nm, seval]
 refine ct (x := (.tup [.lit (.int .i64 Fg.1), .lit (.int .i64 0)])) (by first | (simp only [Tryz.results43, resV, resL, aO, bX, bY, uw, cr, tyf, mqt, cm, eC, fq, nm, seval] <;> rfl) | rfl) ?_
 obtain rfl := kF _ h
 refine fB ?_ ?_
 ·simp only [tre, aI, mqr, Bool.and_self]
 ·first | (simp only [outV, uw, fp, cr, tyf, mqt, nrm, aF, cm, eC, fq, cj, nm, seval] <;> rfl) | rfl

theorem room56 {n : Nat} (h : n ≤ 1000) : aS 56 n = true := by simp [aS]; omega
theorem pV {α : Type} {xs : List α} (h : 1 ≤ xs.length) : neB xs = true := by cases xs with | nil => simp at h | cons a p => rfl
theorem EE_36 {b : GBk} (hb : BOk b) (pl : List Int) (hr : Int) {s : Nat} (hs : s < b.Strokes.length) : EE b pl hr s ≤ 36 := by
 have h2 := Fh (hd := hF pl) (d := dF b hr) hb.h.nd (m := 6) (fun k => by
  refine ⟨(hb.h.d hr k).1, ?_⟩
  unfold dF
  split
  ·rename_i x hx
   have := (hb.s hx).hr
   split <;> omega
  ·omega) s
 have := hb.ns
 unfold EE
 omega
theorem TK_b {b : GBk} (hb : BOk b) (pl : List Int) : 1 ≤ TK b pl ∧ TK b pl ≤ 36 := by
 have hns := hb.ns
 have h1 : EE b pl 1 0 ≤ TK b pl := uq (by omega)
 have h2 : TK b pl ≤ 36 := ur (by omega) fun k hk => EE_36 hb pl 1 hk
 have h3 := EE_eq hb.h pl 1 0
 have h4 := BB_b hb.h pl 1 (s := 0) (by omega)
 have h5 : 1 ≤ dF b 1 0 := by
  obtain ⟨x, e1, e2⟩ := getS (b := b) (s := 0) (Int.le_refl _) (by simp; omega)
  have e2' : b.Strokes[0]? = some x := e2
  have := (hb.s e2').hr
  unfold dF
  rw [e2']
  simp
  omega
 omega
def longS (x : GBs) (k : Int) : GBs := ⟨x.Board, x.Round, ⟨x.Hours.Low, x.Hours.High + k⟩, x.Needs⟩
def bump (b : GBk) (s : Nat) (x : GBs) (k : Int) : GBk := ⟨b.Apprentices, b.Boards, b.Strokes.set s (longS x k)⟩
theorem Fi (b : GBk) (s : Nat) (x : GBs) (k : Int) : (bump b s x k).Strokes.length = b.Strokes.length := by simp [bump]
theorem Fj {b : GBk} {s : Nat} {x : GBs} {k : Int} (i : Nat) : (bump b s x k).Strokes[i]? = if s = i ∧ i < b.Strokes.length then some (longS x k) else b.Strokes[i]? := by
 simp only [bump, List.getElem?_set]
 by_cases e : s = i
 ·subst e
  by_cases h : s < b.Strokes.length
  ·simp [h]
  ·simp [h]
 ·simp [e]
theorem Fk {b : GBk} (hb : BOk b) {s : Nat} {x : GBs} (hx : b.Strokes[s]? = some x) {k : Int} (h0 : 0 ≤ k) (h1 : k ≤ 9) : BH (bump b s x k) := by
 refine ⟨by rw [Fi]; exact hb.ns, fun {i y} hy => ?_⟩
 rw [Fj] at hy
 split at hy
 ·rename_i e
  cases hy
  obtain ⟨rfl, _⟩ := e
  have := hb.s hx
  have h2 := this.hr
  exact ⟨this.nd, this.ad, by show 0 ≤ x.Hours.Low ∧ x.Hours.Low ≤ 15 ∧ 0 ≤ x.Hours.High + k ∧ x.Hours.High + k ≤ 15; omega⟩
 ·exact hb.h.s hy
theorem Fl {b : GBk} {s : Nat} {x : GBs} (hx : b.Strokes[s]? = some x) (k : Int) : nF (bump b s x k) = nF b := by
 funext i
 unfold nF
 rw [Fj]
 by_cases e : s = i ∧ i < b.Strokes.length
 ·rw [if_pos e, ← e.1, hx]
  rfl
 ·rw [if_neg e]
theorem uu {b : GBk} {s : Nat} {x : GBs} (hx : b.Strokes[s]? = some x) (k : Int) (i : Nat) : dF (bump b s x k) 1 i = if i = s then dF b 1 i + k else dF b 1 i := by
 unfold dF
 rw [Fj]
 have hlt : s < b.Strokes.length := (List.getElem?_eq_some_iff.1 hx).1
 by_cases e : i = s
 ·subst e
  rw [if_pos ⟨rfl, hlt⟩, if_pos rfl, hx]
  simp [longS]
 ·rw [if_neg (fun h => e h.1.symm), if_neg e]
def spF (b : GBk) (pl : List Int) (s : Nat) (x : GBs) : Nat → Int → Int
 | 0, c => c
 | k + 1, c => if TK (bump b s x (c + 1)) pl = TK b pl then spF b pl s x k (c + 1) else c
theorem uv {b : GBk} (hb : BOk b) {pl : List Int} (hp : pl.length = b.Strokes.length) {s : Int} (dv : 0 ≤ s) {x : GBs} (hx : b.Strokes[s.toNat]? = some x) : ∀ (k : Nat) (c : Int) (l : List (Gbe × Int)), 0 ≤ c → c + k = 9 → InvE b pl l →
  ∃ l', pN b pl s k c l = some (.go (spF b pl s.toNat x k c, l'))
 | 0, c, l, _, _, _ => ⟨l, rfl⟩
 | k + 1, c, l, h0, h1, hl => by
  have hns := hb.ns
  have hlt : s.toNat < b.Strokes.length := (List.getElem?_eq_some_iff.1 hx).1
  have hx' := (hb.s hx).hr
  have hg : getI b.Strokes s = some x := by unfold getI; rw [if_pos dv]; exact hx
  have hB := Fk hb hx (k := c + 1) (by omega) (by omega)
  obtain ⟨l1, e1, _⟩ := Fm hB (pl := pl) (by rw [Fi]; exact hp) (InvE.nil (b := bump b s.toNat x (c + 1)) (pl := pl))
  obtain ⟨l2, e2, fk⟩ := Fm hb.h hp hl
  have hc : ui b.Strokes = some b.Strokes := by
   unfold ui
   rw [pV hns.1, cond_true, room56 (by omega), cond_true]
  simp only [pN, hc, hg, Option.bind_some]
  rw [fD (by omega) (by omega)]
  have e1' : pO ⟨b.Apprentices, b.Boards, b.Strokes.set s.toNat ⟨x.Board, x.Round, ⟨x.Hours.Low, x.Hours.High + (c + 1)⟩, x.Needs⟩⟩ pl [] = _ := e1
  rw [e1', Option.bind_some, e2, Option.bind_some]
  unfold spF
  by_cases h : TK (bump b s.toNat x (c + 1)) pl = TK b pl
  ·obtain ⟨l3, e3⟩ := uv hb hp dv hx k (c + 1) l2 (by omega) (by omega) fk
   rw [if_pos h]
   simp only [h, beq_self_eq_true, cond_true]
   exact ⟨l3, e3⟩
  ·rw [if_neg h, show (TK (bump b s.toNat x (c + 1)) pl == TK b pl) = false by simpa using h, cond_false]
   exact ⟨l2, rfl⟩
theorem Fo {b : GBk} (h : Len b) {pl : List Int} (hB : benchB b = true) (hP : planB b pl = true) {s : Int} (dv : 0 ≤ s) {x : GBs} (hx : b.Strokes[s.toNat]? = some x) : m9 b pl s = some (spF b pl s.toNat x 9 0, 0) := by
 have hlt : s.toNat < b.Strokes.length := (List.getElem?_eq_some_iff.1 hx).1
 obtain ⟨l', e⟩ := uv (xQ.1 hB) (Fp.1 hP).len dv hx 9 0 [] (Int.le_refl _) rfl InvE.nil
 unfold m9 xH
 rw [xR h, xS h, Mn h, hB, hP]
 have hI : inB 0 ((b.Strokes.length : Int) - 1) s = true := lT.2 (by omega)
 have hbo : boundOk 9 = true := by decide
 rw [hI, hbo]
 simp only [Option.bind_some, cond_true]
 have e' : pN b pl s (Int.toNat (9 - 0)) 0 [] = _ := e
 rw [e']
 rfl
def rS (eD : Int) : List Int → Int → Option (LOut (Int) (Unit))
 | [], eT => some (.go ())
 | e0 :: p0, eT => cond (eD == e0) (some (.ret eT)) (rS eD p0 (eT + 1))
def xT (cQ : List Int) (eD : Int) : Option (Int) := cond (aG cQ) (lbind (rS eD cQ 0) (fun r2 => some r2) (fun c1 => some (-1)) (fun _ _ => none)) none
theorem QA (cQ : List Int) (eD : Int) (R : Int) (h : xT cQ eD = some R) : ak Tryz.prog G0 172 [.sl (ae eI cQ) (List.length cQ) false, .lit (.int .i64 eD)] (.tree (.lit (.int .i64 R))) := by
 refine ak.runR mixed Tryz.call172 Tryz.func172 rfl (by simp [Tryz.ntmps172]; kernel_rfl) ?_
 obtain ⟨KF, h, kF, kN⟩ := cI h
 simp only [xT] at h
 cases g4 : (aG cQ)
 ·simp only [g4, hs] at h
  exact absurd h kN
 simp only [g4, hs] at h
 simp only [vz, tyf, g4, nm, seval]
 obtain ⟨K3, h, mn, iB, rH, kh⟩ := eR h kN
 obtain ⟨f3, j8, h⟩ := call2 h
 obtain ⟨I3, dU⟩ : ∃ I : Nat → St → Prop, I = (fun m st => ∃ (p3 : List Int) (dm : Int), m = List.length p3 ∧ 0 ≤ dm ∧ List.drop (Int.toNat dm) cQ = p3 ∧ st.df = [] ∧ 4 ≤ st.nx ∧ st.tm 0 = .sl (ae eI cQ) (List.length cQ) false ∧ st.tm 1 = .lit (.int .i64 eD) ∧ st.tm 7 = .lit (.int .i64 (List.length cQ : Int)) ∧ st.tm 8 = .lit (.int .i64 dm) ∧ K3 (f3 p3 dm)) := ⟨_, rfl⟩
 refine loopK mixed (by kernel_rfl) I3 (List.length cQ) (by rw [dU]; refine ⟨cQ, 0, rfl, Int.le_refl _, rfl, rfl, (show 4 ≤ 4 by omega), ?_, ?_, ?_, ?_, h⟩ <;> first | (simp only [ua, nm, seval] <;> rfl) | rfl) ?_
 rintro m ⟨tm, H, dr, df⟩ hinv
 rw [dU] at hinv
 obtain ⟨p3, dm, rfl, bJ, ca, hdf, j9, e5, e6, e7, e8, h⟩ := hinv
 simp only at hdf j9 e5 e6 e7 e8
 have n9 := fw (m := 4) (b := dr) (by omega)
 subst hdf j8
 cases p3 with
 | nil =>
  have gv : (decide (dm < (List.length cQ : Int))) = false := fj bJ ca
  simp only [rS, hs, reduceCtorEq] at h
  replace h := iB _ h
  try dsimp only at h
  try simp only [hs] at h
  try simp only [vz, tyf, g4, n9, e5, e6, e7, e8, gv, nm, seval]
  refine ct (x := (.lit (.int .i64 (-1)))) (by first | (simp only [Tryz.results172, resV, resL, aO, bX, bY, uw, cr, tyf, g4, n9, gv, nm, seval] <;> rfl) | rfl) ?_
  obtain rfl := kF _ h
  refine fB ?_ ?_
  ·simp only [tre, aI, Bool.and_self]
  ·first | (simp only [outV, uw, fp, cr, tyf, nrm, aF, g4, n9, e5, e6, e7, e8, gv, nm, seval] <;> rfl) | rfl
 | cons e3 p3 =>
  have cm : (decide (dm < (List.length cQ : Int))) = true := fh bJ ca
  have gM := dG bJ ca
  have jI := eQ bJ ca g4
  simp only [rS, hs, reduceCtorEq] at h
  cases bx : (eD == e3)
  ·simp only [bx, hs] at h
   simp only [vz, tyf, g4, n9, e5, e6, e7, e8, cm, (aB gM), jI, bx, nm, seval]
   exact ⟨List.length p3, Nat.lt_succ_self _, by rw [dU]; refine ⟨p3, dm + 1, rfl, Int.le_trans bJ (Int.le_add_one (Int.le_refl _)), cU bJ ca, rfl, (show 4 ≤ dr + 11 by omega), e5, e6, e7, ?_, (by first | exact h | (simp only [cm, bx]; exact h))⟩ <;> first | (simp only [ua, n9, e5, e6, e7, e8, cm, jI, bx, nm, seval] <;> rfl) | rfl⟩
  simp only [bx, hs] at h
  try simp only [vz, tyf, g4, n9, e5, e6, e7, e8, cm, (aB gM), jI, bx, nm, seval]
  refine ct (x := (.lit (.int .i64 dm))) (by first | (simp only [Tryz.results172, resV, resL, aO, bX, bY, uw, cr, tyf, g4, n9, cm, (aB gM), jI, bx, nm, seval] <;> rfl) | rfl) ?_
  replace h := mn _ h
  try dsimp only at h
  obtain rfl := kF _ h
  refine fB ?_ ?_
  ·simp only [tre, aI, Bool.and_self]
  ·first | (simp only [outV, uw, fp, cr, tyf, nrm, aF, g4, n9, e5, e6, e7, e8, cm, (aB gM), jI, bx, nm, seval] <;> rfl) | rfl
def ux (cQ : List Int) (eD : Int) : Option (Bool) := Option.bind (xT cQ eD) (fun r1 => some (decide (r1 ≥ 0)))
theorem QB (cQ : List Int) (eD : Int) (R : Bool) (h : ux cQ eD = some R) : ak Tryz.prog G0 161 [.sl (ae eI cQ) (List.length cQ) false, .lit (.int .i64 eD)] (.tree (.lit (.bool R))) := by
 refine ak.runR mixed Tryz.call161 Tryz.func161 rfl (by simp [Tryz.ntmps161]; kernel_rfl) ?_
 obtain ⟨KF, h, kF, kN⟩ := cI h
 simp only [ux] at h
 obtain ⟨r2, o3, h⟩ := optI h kN
 try simp only [hs] at h
 simp only [vz, tyf, nm, seval]
 refine ktA (QA _ _ _ o3) ?_
 refine bN (fun tm => tm 7 = .lit (.int .i64 r2) ∧ True) (by refine ⟨?_, trivial⟩ <;> first | (simp only [ua, nm, seval] <;> rfl) | rfl) ?_
 rintro tm ⟨e4, _⟩
 try simp only [vz, tyf, e4, nm, seval]
 obtain rfl := kF _ h
 exact bw Tryz.results161 rfl
def xU (aa : GBk) (ag : List Int) (bH : List Int) (av : Int) (l0 : List (Gbe × Int)) : Option ((Bool) × List (Gbe × Int)) := Option.bind (Fq aa ag av 1 l0) (fun r1 => cond ((List.length bH : Int) == 0) (some (r1.1 == 0, r1.2)) (Option.bind (getI bH (i64.wrap ((List.length bH : Int) - 1))) (fun x2 => Option.bind (xV aa ag x2 1 r1.2) (fun r3 => cond (r1.1 == r3.1) (Option.bind (getI aa.Strokes av) (fun x4 => Option.bind (ux x4.Needs x2) (fun r5 => cond (r5) (some (true, r3.2)) (Option.bind (getI ag av) (fun x6 => Option.bind (getI ag x2) (fun x7 => some (x6 == x7, r3.2))))))) (some (false, r3.2))))))
theorem QC (aa : GBk) (ag : List Int) (bH : List Int) (av : Int) (l0 : List (Gbe × Int)) (R : (Bool) × List (Gbe × Int)) (h : xU aa ag bH av l0 = some R) : VUpd Tryz.prog G0 135 (fun β => [.agg [.lit (.int .i64 aa.Apprentices), .sl (ae eI aa.Boards) (List.length aa.Boards) false, .sl (ae cGBs aa.Strokes) (List.length aa.Strokes) false, .sl (ae eI ag) (List.length ag) false, .mp β], .sl (ae eI bH) (List.length bH) false, .lit (.int .i64 av)]) (encM aM bQ l0) (encM aM bQ R.2) (fun _ => .lit (.bool R.1)) := by
 intro bt nx hlt
 have bd := fZ (β := bt) (nx := nx) hlt
 refine au.run mixed Tryz.call135 Tryz.func135 rfl (by simp [Tryz.ntmps135]; kernel_rfl) ?_
 obtain ⟨KF, h, kF, kN⟩ := cI h
 simp only [xU] at h
 obtain ⟨r8, o9, h⟩ := optI h kN
 try simp only [hs] at h
 simp only [vz, mq, mqm, vsi, tyf, mqt, bd, nm, seval]
 refine kupd (VUpd.at (β := bt) (y := (fun _ => .lit (.int .i64 r8.1))) (QD _ _ _ _ _ _ o9) (by omega) (by first | rfl | assumption | (simp only [ba, bj, bd, nm, seval] <;> rfl)) (by first | rfl | (simp only [nrm, aF, @dH, @gk] <;> rfl)) (gj (fun _ => rfl) _)) ?_
 refine gD (fun tm => tm 1 = .sl (ae eI bH) (List.length bH) false ∧ tm 2 = .lit (.int .i64 av) ∧ tm 3 = .ptr nx 0 ∧ tm 11 = .lit (.int .i64 r8.1) ∧ True) (by refine ⟨?_, ?_, ?_, ?_, trivial⟩ <;> first | (simp only [ua, bW, bd, nm, seval] <;> rfl) | rfl) ?_
 rintro tm ⟨bk, bF, cn, bI, _⟩
 cases bx : ((List.length bH : Int) == 0)
 ·simp only [bx, hs] at h
  obtain ⟨ni, dx, h⟩ := optI h kN
  try simp only [hs] at h
  simp only [vz, mq, mqm, vsi, tyf, mqt, bd, bk, bF, cn, bI, bx, (aB dx), nm, seval]
  refine rp (fun tm => tm 2 = .lit (.int .i64 av) ∧ tm 3 = .ptr nx 0 ∧ tm 7 = .lit (.int .i64 r8.1) ∧ tm 8 = .lit (.int .i64 ni) ∧ True) (by refine ⟨bF, cn, ?_, ?_, trivial⟩ <;> first | (simp only [ua, bW, bd, bk, bF, cn, bI, bx, nm, seval] <;> rfl) | rfl) ?_
  rintro tm ⟨bK, cv, cD, dK, _⟩
  obtain ⟨iY, lO, h⟩ := optI h kN
  try simp only [hs] at h
  simp only [vz, mq, mqm, vsi, tyf, mqt, bd, bx, (aB dx), bK, cv, cD, dK, nm, seval]
  refine dkupd (VUpd.at (β := bt) (y := (fun _ => .lit (.int .i64 iY.1))) (Fs _ _ _ _ _ _ lO) (by omega) (by first | rfl | assumption | (simp only [ba, bj, bd, nm, seval] <;> rfl)) (by first | rfl | (simp only [nrm, aF, @dH, @gk] <;> rfl)) (gj (fun _ => rfl) _)) ?_
  refine gD (fun tm => tm 2 = .lit (.int .i64 av) ∧ tm 3 = .ptr nx 0 ∧ tm 8 = .lit (.int .i64 ni) ∧ tm 23 = .lit (.int .i64 r8.1) ∧ tm 26 = .lit (.int .i64 iY.1) ∧ True) (by refine ⟨bK, cv, dK, ?_, ?_, trivial⟩ <;> first | (simp only [ua, bW, bd, bx, bK, cv, cD, dK, nm, seval] <;> rfl) | rfl) ?_
  rintro tm ⟨bG, cV, cN, du, bA, _⟩
  cases jJ : (r8.1 == iY.1)
  ·simp only [jJ, hs] at h
   simp only [vz, mq, mqm, vsi, tyf, mqt, bd, bx, (aB dx), bG, cV, cN, du, bA, jJ, nm, seval]
   refine nc ⟨?_, ?_⟩
   ·simp only [iA, i9, dQ, i6, and_true, true_and]
    repeat' (first | exact trivial | refine And.intro ?_ ?_ | rw [dQ] | rw [i7] | exact Or.inl (by decide +kernel) | exact Or.inl (by dsimp only; decide +kernel) | (refine Or.inr ⟨?_, ?_⟩ <;> simp; done) | (refine Or.inr ⟨?_, ?_⟩ <;> simp <;> omega) | (refine Or.inr ⟨?_, ?_⟩ <;> simp [VEff.wr] <;> omega))
   try simp only [vz, mq, mqm, vsi, tyf, mqt, bd, bx, (aB dx), bG, cV, cN, du, bA, jJ, nm, seval]
   refine ct (x := (.lit (.bool false))) (by first | (simp only [Tryz.results135, resV, resL, aO, bX, bY, uw, cr, tyf, mqt, bd, bx, (aB dx), jJ, nm, seval] <;> rfl) | rfl) ?_
   obtain rfl := kF _ h
   refine ⟨(by first | rfl | assumption | (simp only [ba, bj, bd, nm, seval] <;> rfl)), ?_⟩
   exact sq_of (hO (by first | (simp only [tre, aI, mqr, Bool.and_self]; done) | rfl) rfl)
  simp only [jJ, hs] at h
  obtain ⟨xW, jK, h⟩ := optI h kN
  try simp only [hs] at h
  obtain ⟨jw, Fe, h⟩ := optI h kN
  try simp only [hs] at h
  simp only [vz, mq, mqm, vsi, tyf, mqt, bd, bx, (aB dx), bG, cV, cN, du, bA, jJ, (aT jK), nm, seval]
  refine dktree (args0 := [.sl (ae eI xW.Needs) (List.length xW.Needs) false, .lit (.int .i64 ni)]) (by first | (simp only [nrm, aF, @dH] <;> rfl) | rfl) (by simp only [tre, aI, mqr, Bool.and_self]) (QB _ _ _ Fe) ?_
  refine bN (fun tm => tm 2 = .lit (.int .i64 av) ∧ tm 3 = .ptr nx 0 ∧ tm 8 = .lit (.int .i64 ni) ∧ tm 28 = .lit (.bool true) ∧ tm 37 = .lit (.bool jw) ∧ True) (by refine ⟨bG, cV, cN, ?_, ?_, trivial⟩ <;> first | (simp only [ua, bW, bd, bx, bG, cV, cN, du, bA, jJ, nm, seval] <;> rfl) | rfl) ?_
  rintro tm ⟨fx, ed, fm, gJ, gz, _⟩
  cases lU : (jw)
  ·simp only [lU, hs] at h
   obtain ⟨QE, Ft, h⟩ := optI h kN
   try simp only [hs] at h
   obtain ⟨QF, jz, h⟩ := optI h kN
   try simp only [hs] at h
   simp only [vz, mq, mqm, vsi, tyf, mqt, bd, bx, (aB dx), jJ, (aT jK), fx, ed, fm, gJ, gz, lU, (aB Ft), (aB jz), nm, seval]
   refine nc ⟨?_, ?_⟩
   ·simp only [iA, i9, dQ, i6, and_true, true_and]
    repeat' (first | exact trivial | refine And.intro ?_ ?_ | rw [dQ] | rw [i7] | exact Or.inl (by decide +kernel) | exact Or.inl (by dsimp only; decide +kernel) | (refine Or.inr ⟨?_, ?_⟩ <;> simp; done) | (refine Or.inr ⟨?_, ?_⟩ <;> simp <;> omega) | (refine Or.inr ⟨?_, ?_⟩ <;> simp [VEff.wr] <;> omega))
   try simp only [vz, mq, mqm, vsi, tyf, mqt, bd, bx, (aB dx), jJ, (aT jK), fx, ed, fm, gJ, gz, lU, (aB Ft), (aB jz), nm, seval]
   refine ct (x := (.lit (.bool (QE == QF)))) (by first | (simp only [Tryz.results135, resV, resL, aO, bX, bY, uw, cr, tyf, mqt, bd, bx, (aB dx), jJ, (aT jK), lU, (aB Ft), (aB jz), nm, seval] <;> rfl) | rfl) ?_
   obtain rfl := kF _ h
   refine ⟨(by first | rfl | assumption | (simp only [ba, bj, bd, nm, seval] <;> rfl)), ?_⟩
   exact sq_of (hO (by first | (simp only [tre, aI, mqr, Bool.and_self]; done) | rfl) rfl)
  simp only [lU, hs] at h
  simp only [vz, mq, mqm, vsi, tyf, mqt, bd, bx, (aB dx), jJ, (aT jK), fx, ed, fm, gJ, gz, lU, nm, seval]
  refine nc ⟨?_, ?_⟩
  ·simp only [iA, i9, dQ, i6, and_true, true_and]
   repeat' (first | exact trivial | refine And.intro ?_ ?_ | rw [dQ] | rw [i7] | exact Or.inl (by decide +kernel) | exact Or.inl (by dsimp only; decide +kernel) | (refine Or.inr ⟨?_, ?_⟩ <;> simp; done) | (refine Or.inr ⟨?_, ?_⟩ <;> simp <;> omega) | (refine Or.inr ⟨?_, ?_⟩ <;> simp [VEff.wr] <;> omega))
  try simp only [vz, mq, mqm, vsi, tyf, mqt, bd, bx, (aB dx), jJ, (aT jK), fx, ed, fm, gJ, gz, lU, nm, seval]
  refine ct (x := (.lit (.bool true))) (by first | (simp only [Tryz.results135, resV, resL, aO, bX, bY, uw, cr, tyf, mqt, bd, bx, (aB dx), jJ, (aT jK), lU, nm, seval] <;> rfl) | rfl) ?_
  obtain rfl := kF _ h
  refine ⟨(by first | rfl | assumption | (simp only [ba, bj, bd, nm, seval] <;> rfl)), ?_⟩
  exact sq_of (hO (by first | (simp only [tre, aI, mqr, Bool.and_self]; done) | rfl) rfl)
 simp only [bx, hs] at h
 try simp only [vz, mq, mqm, vsi, tyf, mqt, bd, bk, bF, cn, bI, bx, nm, seval]
 refine ct (x := (.lit (.bool (r8.1 == 0)))) (by first | (simp only [Tryz.results135, resV, resL, aO, bX, bY, uw, cr, tyf, mqt, bd, bx, nm, seval] <;> rfl) | rfl) ?_
 obtain rfl := kF _ h
 refine ⟨(by first | rfl | assumption | (simp only [ba, bj, bd, nm, seval] <;> rfl)), ?_⟩
 exact sq_of (hO (by first | (simp only [tre, aI, mqr, Bool.and_self]; done) | rfl) rfl)
def mfB (b : GBk) (pl : List Int) (ch : List Int) (s : Nat) : Bool := match ch.getLast? with
 | none => BB b pl 1 s == 0
 | some a => (BB b pl 1 s == EE b pl 1 a.toNat) && (decide (a ∈ nF b s) || hF pl s == hF pl a.toNat)
def skL (rc : List Int → Option (List Int)) (b : GBk) (pl : List Int) (ch : List Int) : List Nat → Option (List Int)
 | [] => none
 | s :: ss => cond (mfB b pl ch s) (cond (EE b pl 1 s == TK b pl) (some (ch ++ [(s : Int)])) (match rc (ch ++ [(s : Int)]) with | some c => some c | none => skL rc b pl ch ss)) (skL rc b pl ch ss)
def skF (b : GBk) (pl : List Int) : Nat → List Int → Option (List Int)
 | 0, _ => none
 | k + 1, ch => skL (skF b pl k) b pl ch (List.range' 0 b.Strokes.length)
structure ChOk (b : GBk) (ch : List Int) (k : Nat) : Prop where
 st : ∀ x ∈ ch, 0 ≤ x ∧ x.toNat < b.Strokes.length
 e : ch = [] → b.Strokes.length + 1 ≤ k
 l : ∀ a, ch.getLast? = some a → b.Strokes.length ≤ a.toNat + k
 n : ch.length ≤ 100
theorem ChOk.pos {b : GBk} {ch : List Int} {k : Nat} (h : ChOk b ch k) : 0 < k := by
 cases hl : ch.getLast? with
 | none => have := h.e (List.getLast?_eq_none_iff.1 hl); omega
 | some a =>
  have h1 := h.l a hl
  have h2 := h.st a (List.mem_of_getLast? hl)
  omega
theorem uy (v : Int) : ∀ (p : List Int) (c : Int), ∃ r, lbind (rS v p c) (fun r => some r) (fun _ => some (-1)) (fun _ _ => none) = some r ∧ (decide (r ≥ 0) = decide (v ∈ p) ∨ c < 0)
 | [], c => ⟨-1, rfl, .inl (by simp)⟩
 | e :: p, c => by
  obtain ⟨r, h1, h2⟩ := uy v p (c + 1)
  simp only [rS]
  by_cases h : v = e
  ·subst h
   refine ⟨c, by simp [lbind], ?_⟩
   by_cases hc : c < 0
   ·exact .inr hc
   ·exact .inl (by simp; omega)
  ·have hb : (v == e) = false := by simpa using h
   rw [hb, cond_false]
   refine ⟨r, h1, ?_⟩
   by_cases hc : c < 0
   ·exact .inr hc
   ·rcases h2 with h2 | h2
    ·left; rw [h2]; simp [h]
    ·omega
theorem QG {l : List Int} (hl : l.length < 9223372036854775808) (v : Int) : ux l v = some (decide (v ∈ l)) := by
 unfold ux xT
 obtain ⟨r, h1, h2⟩ := uy v l 0
 rw [fE hl, cond_true, h1]
 rcases h2 with h2 | h2
 ·simp only [Option.bind_some, h2]
 ·omega
theorem QH {b : GBk} (hb : BH b) {pl : List Int} (hp : pl.length = b.Strokes.length) {ch : List Int} (hc : ∀ x ∈ ch, 0 ≤ x ∧ x.toNat < b.Strokes.length) (hn : ch.length ≤ 1000) {s : Int} (h0 : 0 ≤ s) (h1 : s.toNat < b.Strokes.length) {l : List (Gbe × Int)} (hl : InvE b pl l) :
  ∃ l', xU b pl ch s l = some (mfB b pl ch s.toNat, l') ∧ InvE b pl l' := by
 obtain ⟨l1, e1, ep⟩ := Fu hb hp (.inr rfl) hl h0 h1
 unfold xU mfB
 simp only [e1, Option.bind_some]
 cases hg : ch.getLast? with
 | none =>
  have := List.getLast?_eq_none_iff.1 hg
  subst this
  exact ⟨l1, rfl, ep⟩
 | some a =>
  have ham := List.mem_of_getLast? hg
  have ha := hc a ham
  have hne : 1 ≤ ch.length := List.length_pos_of_mem ham
  obtain ⟨l2, e2, fk⟩ := pW hb hp (.inr rfl) ep ha.1 ha.2
  obtain ⟨x, g1, g2⟩ := getS h0 h1
  have hx := hb.s g2
  have hfew := hx.few (by have := hb.ns; omega)
  have hnF : nF b s.toNat = x.Needs := by unfold nF; rw [g2]
  rw [show ((ch.length : Int) == 0) = false from beq_eq_false_iff_ne.2 (by omega), cond_false, Fv hne (by omega), hg]
  simp only [Option.bind_some, e2]
  cases hE : (BB b pl 1 s.toNat == EE b pl 1 a.toNat) with
  | false => exact ⟨l2, rfl, fk⟩
  | true =>
   simp only [cond_true, g1, Option.bind_some, QG (show x.Needs.length < 9223372036854775808 by omega), hnF, getP hp h0 h1, getP hp ha.1 ha.2]
   cases decide (a ∈ x.Needs) with
   | true => exact ⟨l2, rfl, fk⟩
   | false => exact ⟨l2, rfl, fk⟩
theorem mf_lt {b : GBk} (hb : BH b) (hd : ∀ s, s < b.Strokes.length → 1 ≤ dF b 1 s) {pl ch : List Int} {a : Int} (ha : ch.getLast? = some a) (h0 : 0 ≤ a) (h1 : a.toNat < b.Strokes.length) {s : Nat} (hs : s < b.Strokes.length) (h : mfB b pl ch s = true) : a.toNat < s := by
 unfold mfB at h
 rw [ha] at h
 simp only [Bool.and_eq_true, beq_iff_eq, Bool.or_eq_true, decide_eq_true_eq] at h
 obtain ⟨hE, hw⟩ := h
 rcases hw with hw | hw
 ·exact (hb.nd s a hw).2
 ·refine Nat.lt_of_not_le fun hle => ?_
  have e1 := EE_eq hb pl 1 a.toNat
  have e2 := EE_eq hb pl 1 s
  have d1 := hd a.toNat h1
  have d2 := hd s hs
  by_cases e : s = a.toNat
  ·subst e; omega
  ·have : EE b pl 1 s ≤ BB b pl 1 a.toNat := uz hb.nd (fun k => (hb.d 1 k).1) (by omega) hw
   omega
theorem ChOk.next {b : GBk} (hb : BH b) (hd : ∀ s, s < b.Strokes.length → 1 ≤ dF b 1 s) {pl ch : List Int} {k : Nat} (h : ChOk b ch (k + 1)) (hn : ch.length ≤ 50) {s : Nat} (hs : s < b.Strokes.length) (hm : mfB b pl ch s = true) : ChOk b (ch ++ [(s : Int)]) k := by
 refine ⟨fun x hx => ?_, fun e => by simp at e, fun a ha => ?_, by simp; omega⟩
 ·rcases List.mem_append.1 hx with hx | hx
  ·exact h.st x hx
  ·rw [List.mem_singleton.1 hx]; omega
 ·rw [List.getLast?_concat] at ha
  cases ha
  cases hg : ch.getLast? with
  | none => have := h.e (List.getLast?_eq_none_iff.1 hg); simp; omega
  | some a =>
   have ha := h.st a (List.mem_of_getLast? hg)
   have h1 := h.l a hg
   have h2 := mf_lt hb hd hg ha.1 ha.2 hs hm
   simp; omega
end Go.V
end
section
namespace Go.V
open Go Go.Proofs IntKind
def mkOk (b : Nat) (n : Int) : Bool := decide (0 ≤ n) && aS b n.toNat
theorem Fx {b : Nat} {n : Int} : mkOk b n = true ↔ 0 ≤ n ∧ n.toNat * b ≤ 140737488355328 := by
 unfold mkOk aS
 rw [Bool.and_eq_true, decide_eq_true_eq, decide_eq_true_eq]
theorem Fy {v : Value} (n : Nat) : vzeros #[v] n = List.replicate n (ofVal1 v) := by
 unfold vzeros
 rw [List.eq_replicate_iff]
 refine ⟨by simp, fun x hx => ?_⟩
 obtain ⟨i, _, rfl⟩ := List.mem_map.1 hx
 have : i % (#[v] : Array Value).size = 0 := by simp [Nat.mod_one]
 rw [this]
 rfl
theorem Mo {α : Type} {enc : α → List VV} {z : α} {x : VV} (h : enc z = [x]) : ∀ n : Nat, ae enc (List.replicate n z) = List.replicate n x
 | 0 => rfl
 | n + 1 => by rw [List.replicate_succ, List.replicate_succ, ga, h, Mo h n]; rfl
section
variable {P : Program} {G : Glob} {γ : Nat} {tm : Nat → VV} {H : Nat → Option VObj} {α : Type} {enc : α → List VV} {z : α} {t e b : Nat} {n : Int} {v : Value} {x y : Operand} {d : Option Tmp} {ty : TypeId} {pos : String} {af : Array Edge} {g : Option (Nat × Bool)} {k : VV → VEff → Prop}
theorem k_mkS (ha : appOk P t = some (e, 1, b)) (hz : vzero P e = some #[v]) (hzv : enc z = [ofVal1 v]) (hx : ev G tm x = .lit (.int .i64 n)) (hy : ev G tm y = .lit (.int .i64 n)) (hg : mkOk b n = true)
  (h : k (.ref γ 0 (List.replicate n.toNat z).length 1 (List.replicate n.toNat z).length) (.new (.cells (some e) (ae enc (List.replicate n.toNat z))))) : oeK (vop P ⟨d, .makeSlice t x y, ty, pos, af, g⟩ (ev G tm) H γ) k := by
 obtain ⟨hu, inf, zz, hi, hzz, hs, hb, dv, kD, hzs⟩ := rq ha
 obtain ⟨h0, h1⟩ := Fx.1 hg
 have hzc : zz.cells = #[v] := by
  unfold vzero at hz
  rw [hi] at hz
  simp only [Option.bind_some, hzz, Option.map_some, Option.some.injEq] at hz
  exact hz
 have hk : vmakeSlice P t (.lit (.int .i64 n)) (.lit (.int .i64 n)) = some (List.replicate n.toNat (ofVal1 v), n.toNat, 1) := by
  have h2 : (inf.bytes : Int) * n ≤ 140737488355328 := by
   rw [hb]
   have h3 : ((n.toNat * b : Nat) : Int) ≤ ((140737488355328 : Nat) : Int) := Int.ofNat_le.2 h1
   rw [Int.natCast_mul, Int.toNat_of_nonneg h0, Int.mul_comm] at h3
   exact h3
  have hb0' : 0 < inf.bytes := by rw [hb]; exact kD
  unfold vmakeSlice
  rw [hu]
  simp only [hi, hzz]
  rw [hs, hzc, if_pos ⟨h0, Int.le_refl _, Nat.zero_lt_one, hb0', h2, rfl⟩, Nat.mul_one, Fy]
 have he : elemT P t = some e := by simp [elemT, hu]
 rw [Mo hzv, List.length_replicate] at h
 simp only [vop, hx, hy, hk, Option.map_some, he]
 exact h
end
end Go.V
end
section
namespace Go.V
open Go Go.Proofs IntKind
def Ghost (st st' : St) : Prop := (∀ β o', st'.H β = some o' → ∃ o, st.H β = some o ∧ FrozenO st.H st'.H o o') ∧ (∀ β, isDef st.H β → isDef st'.H β) ∧
 (∀ t, Frozen st.H st'.H (st.tm t) (st'.tm t)) ∧ st'.nx = st.nx ∧ st'.df = st.df
theorem Ghost.rep {G : Glob} {c : Ctx} {W : World} {st st' : St} {a : Act} (g : Ghost st st') (s : Sim c W) (hr : StRep G c W st a) :
  Ext c W (c.frz st'.H) W ∧ Sim (c.frz st'.H) W ∧ StRep G (c.frz st'.H) W st' a := by
 obtain ⟨ho, hdd, htm, hnx, hdf⟩ := g
 have ho' : ∀ β o', st'.H β = some o' → ∃ o, c.H β = some o ∧ FrozenO c.H st'.H o o' := by rw [hr.H]; exact ho
 have hl : ∀ β, (st'.H β).isSome = true → c.live β := by
  intro β h
  obtain ⟨o', h'⟩ := Option.isSome_iff_exists.1 h
  obtain ⟨o, h1, _⟩ := ho' β o' h'
  simp [Ctx.live, h1]
 have he : Ext c W (c.frz st'.H) W := xh hl
 have ab : Abides c W (c.frz st'.H) W := rz hl
 have hloop : ∀ x s pe tm ps asg bo df, st'.H x = some (.loop s pe tm ps asg bo df) → isDef st'.H df := by
  intro x s1 pe tm ps asg bo df hx
  obtain ⟨o, h1, hf⟩ := ho x _ hx
  rcases hf with rfl | ⟨el, cs, cs', rfl, e, _⟩
  ·obtain ⟨l, fn, _, _, _, hd⟩ := s.obj x _ (show c.H x = _ by rw [hr.H]; exact h1)
   exact hdd df (by rw [← hr.H]; exact hd)
  ·cases e
 refine ⟨he, s.frz ho' hloop, rfl, fun t => AF s hl (by rw [hr.H]; exact htm t) (hr.tm t), ?_, ?_, hr.G.abides ab⟩
 ·rw [hnx]; exact hr.nx
 ·rw [hdf]; exact hr.df.abides ab
theorem VWp.ghost {P : Program} {G : Glob} {n : Nat} {code : Code} {Q : VExit → St → Prop} {st : St} (h : VWp P G n code (fun e s => ∃ s', Ghost s s' ∧ Q e s') st) : VWp P G n code Q st := by
 intro ro c W a hro s hr hsz
 refine wpIn_mono (h ro c W a hro s hr hsz) ?_
 rintro e a' W' ⟨ve, c', st', he, hext, hs', hr', hsz', hu, hle, s2, g, hq⟩
 obtain ⟨e2, h2, r2⟩ := g.rep hs' hr'
 refine ⟨ve, c'.frz s2.H, s2, ?_, hext.trans e2, h2, r2, hsz', fun β hb => hu β hb, by rw [g.2.2.2.1]; exact hle, hq⟩
 cases ve with
 | panic x =>
  obtain ⟨v, e1, hv⟩ := he
  exact ⟨v, e1, Rep.abides (e2.abides hs') _ hv⟩
 | normal => exact he
 | exit id => exact he
 | goto l => exact he
 | ret => exact he
theorem Ghost.refl (st : St) : Ghost st st := ⟨fun β o' h => ⟨o', h, .inl rfl⟩, fun _ h => h, fun _ => .inl rfl, rfl, rfl⟩
theorem FrozenL.snoc {H H' : Nat → Option VObj} {x y : VV} (h : Frozen H H' x y) : ∀ (cs : List VV), FrozenL H H' (cs ++ [x]) (cs ++ [y])
 | [] => ⟨h, trivial⟩
 | c :: cs => ⟨.inl rfl, FrozenL.snoc h cs⟩
theorem Ghost.snoc {tm : Nat → VV} {H : Nat → Option VObj} {nx : Nat} {df : List VDef} {γ ε n w cp : Nat} {e1 e2 : Option TypeId} {cs ys : List VV} (hγ : H γ = some (.cells e1 ys)) (hε : H ε = some (.cells e2 (cs ++ [.ref γ 0 n w cp]))) (hne : ε ≠ γ) (ht : treeL ys = true) (hl : ys.length = n * w) :
  Ghost ⟨tm, H, nx, df⟩ ⟨tm, updH (without H γ) ε (.cells e2 (cs ++ [.sl ys n false])), nx, df⟩ := by
 have hg : gone H (updH (without H γ) ε (.cells e2 (cs ++ [.sl ys n false]))) γ = some (.cells e1 ys) := by
  unfold gone
  rw [ba, if_neg (Ne.symm hne)]
  simp [without, hγ]
 have hfz : Frozen H (updH (without H γ) ε (.cells e2 (cs ++ [.sl ys n false]))) (.ref γ 0 n w cp) (.sl ys n false) := by
  refine .inr (.inr ⟨ys.length + 2, ?_⟩)
  unfold sealV
  have : (VV.ref γ 0 n w cp).tree = false := rfl
  rw [this]
  simp only [Bool.false_eq_true, if_false, hg, Nat.zero_le, if_true, List.drop_zero]
  rw [List.take_of_length_le (by omega), kE ys _ ht (by omega)]
  rfl
 refine ⟨?_, ?_, fun _ => .inl rfl, rfl, rfl⟩
 ·intro β o' h
  simp only [ba] at h
  by_cases hb : β = ε
  ·subst hb
   rw [if_pos rfl] at h
   cases h
   exact ⟨_, hε, .inr ⟨e2, _, _, rfl, rfl, FrozenL.snoc hfz cs⟩⟩
  ·rw [if_neg hb] at h
   simp only [bj] at h
   split at h
   ·cases h
   ·exact ⟨o', h, .inl rfl⟩
 ·rintro β ⟨ds, h⟩
  refine ⟨ds, ?_⟩
  have h : H β = some (.deferred ds) := h
  show updH (without H γ) ε _ β = _
  have b1 : β ≠ ε := by rintro rfl; rw [hε] at h; cases h
  have b2 : β ≠ γ := by rintro rfl; rw [hγ] at h; cases h
  rw [ba, if_neg b1, bj, if_neg b2]
  exact h
section
variable {P : Program} {H : Nat → Option VObj} {γ : Nat} {k : VV → VEff → Prop} {t t2 e e2 β δ cx : Nat} {b : Nat} {el gC : Option TypeId} {cs : List VV} {y : VV}
theorem Fz (ha : appOk P t = some (e, 1, b)) (fg : P.underlying t2 = some (.slice e2)) (hb : H β = some (.cells el cs)) (hd : H δ = some (.cells gC [y])) (hy : y.leaf = true) (hr : aS b (cs.length + 1) = true)
  (h : k (.ref γ 0 (cs.length + 1) 1 (cs.length + 1)) (.mv β (sameEl el e) (cs ++ [y]))) : oeK (vappend P H γ t t2 (.ref β 0 cs.length 1 cs.length) (.ref δ 0 1 1 cx)) k := by
 obtain ⟨hu, inf, z, hi, hz, pa, rfl, dv, kD, hzs⟩ := rq ha
 have hr' : (cs.length + 1) * inf.bytes ≤ 140737488355328 := by simpa [aS] using hr
 have key : vappend P H γ t t2 (.ref β 0 cs.length 1 cs.length) (.ref δ 0 1 1 cx) = some (.ref γ 0 (cs.length + 1) 1 (cs.length + 1), .mv β (sameEl el e) (cs ++ [y])) := by
  simp only [vappend, nilS, vappend1, hu, fg, hi, hz, srcV, sls, hd, Nat.zero_le, if_true, List.drop_zero, dv, kD, hzs, hb]
  simp [pa, hy, hr']
 rw [key]
 exact h
end
theorem Ghost.snocL {tm : Nat → VV} {H : Nat → Option VObj} {nx : Nat} {df : List VDef} {γ ε cp : Nat} {e1 e2 : Option TypeId} {xs : List (List Int)} {ys : List Int} (hγ : H γ = some (.cells e1 (ae eI ys))) (hε : H ε = some (.cells e2 (ae (eSl eI) xs ++ [.ref γ 0 ys.length 1 cp]))) (hne : ε ≠ γ) :
  Ghost ⟨tm, H, nx, df⟩ ⟨tm, updH (without H γ) ε (.cells e2 (ae (eSl eI) (xs ++ [ys]))), nx, df⟩ := by
 rw [lD]
 exact Ghost.snoc hγ hε hne (eI_ok.treeL _) (ej (w := 1) (enc := eI) (fun _ => rfl) _)
section
variable {P : Program} {H : Nat → Option VObj} {γ : Nat} {k : VV → VEff → Prop} {t t2 e e2 β δ cx : Nat} {b : Nat} {el gC : Option TypeId} {y : VV} {α : Type} {enc : α → List VV} {xs : List α} {a : α}
theorem u5 (he : ∀ x, (enc x).length = 1) (ha : appOk P t = some (e, 1, b)) (fg : P.underlying t2 = some (.slice e2)) (hb : H β = some (.cells el (ae enc xs))) (hd : H δ = some (.cells gC [y])) (hy : y.leaf = true) (hr : aS b (xs ++ [a]).length = true)
  (h : k (.ref γ 0 (xs ++ [a]).length 1 (xs ++ [a]).length) (.mv β (sameEl el e) (ae enc xs ++ [y]))) : oeK (vappend P H γ t t2 (.ref β 0 xs.length 1 xs.length) (.ref δ 0 1 1 cx)) k := by
 have hl : (ae enc xs).length = xs.length := by rw [ej he]; omega
 have h2 : (xs ++ [a]).length = (ae enc xs).length + 1 := by simp [hl]
 rw [← hl]
 rw [h2] at hr h
 exact Fz ha fg hb hd hy hr h
end
theorem loopKG {P : Program} {G : Glob} (hm : P.follows .mixedOrders = true) {n : Nat} {x : Code} {Q : VExit → St → Prop} {st : St} (ho : codeOk n x = true) (I : Nat → St → Prop) (m : Nat) (h0 : I m st)
  (round : ∀ m st, I m st → CWp P G n x (VExit.then (fun st' => ∃ m', m' < m ∧ ∃ s2, Ghost st' s2 ∧ I m' s2) Q) st) : CWp P G n (.loop x) Q st := by
 refine VWp.loop I h0 fun m st hI => ?_
 have h1 := kG hm x _ st ho (round m st hI)
 intro ro c W a hro s hr hsz
 refine wpIn_mono (h1 ro c W a hro s hr hsz) ?_
 rintro e a' W' ⟨ve, c', st', he, hext, hs', hr', hsz', hu, hle, hq⟩
 cases ve with
 | normal =>
  obtain ⟨m', hlt, s2, g, F0⟩ := hq
  obtain ⟨e2, h2, r2⟩ := g.rep hs' hr'
  exact ⟨.normal, c'.frz s2.H, s2, he, hext.trans e2, h2, r2, hsz', fun β hb => hu β hb, by rw [g.2.2.2.1]; exact hle, m', hlt, F0⟩
 | exit id => exact ⟨_, c', st', he, hext, hs', hr', hsz', hu, hle, hq⟩
 | goto l => exact ⟨_, c', st', he, hext, hs', hr', hsz', hu, hle, hq⟩
 | ret => exact ⟨_, c', st', he, hext, hs', hr', hsz', hu, hle, hq⟩
 | panic x => exact ⟨_, c', st', he, hext, hs', hr', hsz', hu, hle, hq⟩
end Go.V
end
section
namespace Go.V
open Go Go.Proofs IntKind
def Look (st st' : St) : Prop := st'.nx = st.nx ∧ ∀ (G : Glob) (c : Ctx) (W : World) (a : Act), Sim c W → StRep G c W st a → ∃ c', Ext c W c' W ∧ Sim c' W ∧ StRep G c' W st' a ∧ ∀ β, c'.used β → c.used β
theorem Look.trans {a b c : St} (h1 : Look a b) (h2 : Look b c) : Look a c := by
  refine ⟨h2.1.trans h1.1, fun G x W y s hr => ?_⟩
  obtain ⟨c1, e1, s1, r1, u1⟩ := h1.2 G x W y s hr
  obtain ⟨c2, e2, s2, r2, u2⟩ := h2.2 G c1 W y s1 r1
  exact ⟨c2, e1.trans e2, s2, r2, fun β hb => u1 β (u2 β hb)⟩
theorem Look.ghost {st st' : St} (g : Ghost st st') : Look st st' := by
  refine ⟨g.2.2.2.1, fun G c W a s hr => ?_⟩
  obtain ⟨e2, h2, r2⟩ := g.rep s hr
  exact ⟨c.frz st'.H, e2, h2, r2, fun β hb => hb⟩
theorem u6 {c : Ctx} {W : World} {x y : VV} {Z : List VV} (h : ∀ v, Rep c W x v → Rep c W y v) : ∀ (A : List VV) (l : List Value), RepL c W (A ++ x :: Z) l → RepL c W (A ++ y :: Z) l
  | [], _, ⟨u, us, e, h1, h2⟩ => ⟨u, us, e, h _ h1, h2⟩
  | _ :: A, _, ⟨u, us, e, h1, h2⟩ => ⟨u, us, e, h1, u6 h A us h2⟩
theorem Look.nil {tm : Nat → VV} {H : Nat → Option VObj} {nx : Nat} {df : List VDef} {β : Nat} {el : Option TypeId} {A Z : List VV} (hβ : H β = some (.cells el (A ++ .lit (.slice none 0 0) :: Z))) :
    Look ⟨tm, H, nx, df⟩ ⟨tm, updH H β (.cells el (A ++ .sl [] 0 false :: Z)), nx, df⟩ := by
  refine ⟨rfl, fun G c W a s hr => ?_⟩
  have hc : c.H β = some (.cells el (A ++ .lit (.slice none 0 0) :: Z)) := by rw [hr.H]; exact hβ
  have hl : c.live β := by simp [Ctx.live, hc]
  have he : Ext c W (c.upd β (.cells el (A ++ .sl [] 0 false :: Z))) W := Ext.upd hl (But.self W _)
  have ab := he.abides s
  have hs : Sim (c.upd β (.cells el (A ++ .sl [] 0 false :: Z))) W := by
    refine Sim.upd s hl (But.self W _) (fun ⟨ds, hd⟩ => by rw [hc] at hd; cases hd) ?_
    obtain ⟨arr, e, a1, a2, a3, a4, a5⟩ := s.obj β _ hc
    refine ⟨arr, e, a1, a2, by simpa using a3, ?_, a5⟩
    have hlen : (A ++ VV.lit (.slice none 0 0) :: Z).length = (A ++ VV.sl [] 0 false :: Z).length := by simp
    rw [hlen] at a4
    refine u6 (x := .lit (.slice none 0 0)) (fun v hv => ?_) A _ (RepL.abides ab _ a4)
    have e : v = .slice none 0 0 := hv
    subst e
    exact ⟨none, 0, rfl, Nat.le_refl _, fun h => (by cases h), .inl rfl⟩
  refine ⟨_, he, hs, ⟨?_, fun t => Rep.abides ab _ (hr.tm t), hr.nx, hr.df.abides ab, hr.G.abides ab⟩, fun β hb => hb⟩
  show updH c.H β _ = _
  rw [hr.H]
theorem FrozenL.mid {H H' : Nat → Option VObj} {x y : VV} (h : Frozen H H' x y) (Z : List VV) : ∀ (cs : List VV), FrozenL H H' (cs ++ x :: Z) (cs ++ y :: Z)
  | [] => ⟨h, FrozenL.refl Z⟩
  | c :: cs => ⟨.inl rfl, FrozenL.mid h Z cs⟩
where
  FrozenL.refl : ∀ Z : List VV, FrozenL H H' Z Z
    | [] => trivial
    | _ :: Z => ⟨.inl rfl, FrozenL.refl Z⟩
theorem Ghost.mid {tm : Nat → VV} {H : Nat → Option VObj} {nx : Nat} {df : List VDef} {γ ε n w cp : Nat} {e1 e2 : Option TypeId} {cs ys Z : List VV} (hγ : H γ = some (.cells e1 ys)) (hε : H ε = some (.cells e2 (cs ++ .ref γ 0 n w cp :: Z))) (hne : ε ≠ γ) (ht : treeL ys = true) (hl : ys.length = n * w) :
    Ghost ⟨tm, H, nx, df⟩ ⟨tm, updH (without H γ) ε (.cells e2 (cs ++ .sl ys n false :: Z)), nx, df⟩ := by
  have hg : gone H (updH (without H γ) ε (.cells e2 (cs ++ .sl ys n false :: Z))) γ = some (.cells e1 ys) := by
    unfold gone
    rw [ba, if_neg (Ne.symm hne)]
    simp [without, hγ]
  have hfz : Frozen H (updH (without H γ) ε (.cells e2 (cs ++ .sl ys n false :: Z))) (.ref γ 0 n w cp) (.sl ys n false) := by
    refine .inr (.inr ⟨ys.length + 2, ?_⟩)
    unfold sealV
    have : (VV.ref γ 0 n w cp).tree = false := rfl
    rw [this]
    simp only [Bool.false_eq_true, if_false, hg, Nat.zero_le, if_true, List.drop_zero]
    rw [List.take_of_length_le (by omega), kE ys _ ht (by omega)]
    rfl
  refine ⟨?_, ?_, fun _ => .inl rfl, rfl, rfl⟩
  · intro β o' h
    simp only [ba] at h
    by_cases hb : β = ε
    · subst hb
      rw [if_pos rfl] at h
      cases h
      exact ⟨_, hε, .inr ⟨e2, _, _, rfl, rfl, FrozenL.mid hfz Z cs⟩⟩
    · rw [if_neg hb] at h
      simp only [bj] at h
      split at h
      · cases h
      · exact ⟨o', h, .inl rfl⟩
  · rintro β ⟨ds, h⟩
    refine ⟨ds, ?_⟩
    have h : H β = some (.deferred ds) := h
    show updH (without H γ) ε _ β = _
    have b1 : β ≠ ε := by rintro rfl; rw [hε] at h; cases h
    have b2 : β ≠ γ := by rintro rfl; rw [hγ] at h; cases h
    rw [ba, if_neg b1, bj, if_neg b2]
    exact h
theorem loopKL {P : Program} {G : Glob} (hm : P.follows .mixedOrders = true) {n : Nat} {x : Code} {Q : VExit → St → Prop} {st : St} (ho : codeOk n x = true) (I : Nat → St → Prop) (m : Nat) (h0 : I m st)
    (round : ∀ m st, I m st → CWp P G n x (VExit.then (fun st' => ∃ m', m' < m ∧ ∃ s2, Look st' s2 ∧ I m' s2) Q) st) : CWp P G n (.loop x) Q st := by
  refine VWp.loop I h0 fun m st hI => ?_
  have h1 := kG hm x _ st ho (round m st hI)
  intro ro c W a hro s hr hsz
  refine wpIn_mono (h1 ro c W a hro s hr hsz) ?_
  rintro e a' W' ⟨ve, c', st', he, hext, hs', hr', hsz', hu, hle, hq⟩
  cases ve with
  | normal =>
    obtain ⟨m', hlt, s2, g, F0⟩ := hq
    obtain ⟨c2, e2, h2, r2, u2⟩ := g.2 G c' W' a' hs' hr'
    exact ⟨.normal, c2, s2, he, hext.trans e2, h2, r2, hsz', fun β hb => hu β (u2 β hb), by rw [g.1]; exact hle, m', hlt, F0⟩
  | exit id => exact ⟨_, c', st', he, hext, hs', hr', hsz', hu, hle, hq⟩
  | goto l => exact ⟨_, c', st', he, hext, hs', hr', hsz', hu, hle, hq⟩
  | ret => exact ⟨_, c', st', he, hext, hs', hr', hsz', hu, hle, hq⟩
  | panic x => exact ⟨_, c', st', he, hext, hs', hr', hsz', hu, hle, hq⟩
end Go.V
end
