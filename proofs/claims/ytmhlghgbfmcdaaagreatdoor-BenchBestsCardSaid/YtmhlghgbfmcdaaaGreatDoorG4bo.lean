/- Part of a proof. -/
import Derived.Test.YtmhlghgbfmcdaaaGreatDoorG4bn
set_option linter.all false
set_option maxRecDepth 4000
set_option maxHeartbeats 40000000
section
namespace Go.V
open Go Go.Proofs IntKind
def ib (an : GBk) : List (List Int) → Int → (List (List Int)) → Int → Option (LOut (List (List Int)) ((List (List Int)) × Int))
 | [], cD, gC, cq => some (.go (gC, cq))
 | e0 :: p0, cD, gC, cq => Option.bind (pK an e0) (fun r2 => cond (cD == 0) (cond (r2 == r2) (cond (aE 24 (List.length (([] : List (List Int)) ++ [e0]))) (ib an p0 (cD + 1) (([] : List (List Int)) ++ [e0]) r2) none) (ib an p0 (cD + 1) ([] : List (List Int)) r2)) (cond (decide (r2 < cq)) (cond (r2 == r2) (cond (aE 24 (List.length (([] : List (List Int)) ++ [e0]))) (ib an p0 (cD + 1) (([] : List (List Int)) ++ [e0]) r2) none) (ib an p0 (cD + 1) ([] : List (List Int)) r2)) (cond (r2 == cq) (cond (aE 24 (List.length (gC ++ [e0]))) (ib an p0 (cD + 1) (gC ++ [e0]) cq) none) (ib an p0 (cD + 1) gC cq))))
def rp (an : GBk) : Option (List (List Int)) := Option.bind (pS an) (fun r1 => cond (aK r1) (lbind (ib an r1 0 ([] : List (List Int)) 0) (fun r4 => some r4) (fun c3 => some c3.1) (fun _ _ => none)) none)
theorem Nq (an : GBk) (R : List (List Int)) (h : rp an = some R) : aj Tryz.prog G0 53 [.agg (cGBk an)] (.tree (.sl (ae (eSl eI) R) (List.length R) false)) := by
 refine aj.runR mixed Tryz.call53 Tryz.func53 rfl (by simp [Tryz.ntmps53]; kernel_rfl) ?_
 obtain ⟨KF, h, kF, kN⟩ := cT h
 simp only [rp] at h
 obtain ⟨r5, o6, h⟩ := optI h kN
 try simp only [hs] at h
 simp only [vz, tyf, nm, seval]
 refine ktA (N0 _ _ o6) ?_
 refine bY (fun tm => tm 1 = .ptr 0 0 ∧ tm 9 = .sl (ae (eSl eI) r5) (List.length r5) false ∧ True) (by refine ⟨?_, ?_, trivial⟩ <;> first | (simp only [ua, nm, seval] <;> rfl) | rfl) ?_
 rintro tm ⟨e7, e8, _⟩
 cases gm : (aK r5)
 ·simp only [gm, hs] at h
  exact absurd h kN
 simp only [gm, hs] at h
 simp only [vz, tyf, e7, e8, gm, nm, seval]
 obtain ⟨K9, h, NY, wh, NZ, jl⟩ := fS h kN
 obtain ⟨f9, yS, h⟩ := call4 h
 obtain ⟨I9, fU⟩ : ∃ I : Nat → St → Prop, I = (fun m st => ∃ (p9 : List (List Int)) (bE : Int) (cu : List (List Int)) (dk : Int) (ly : VV), m = List.length p9 ∧ 0 ≤ bE ∧ List.drop (Int.toNat bE) r5 = p9 ∧ st.df = [] ∧ 8 ≤ st.nx ∧ st.H 0 = some (.cells (some 25) (cGBk an)) ∧ st.tm 1 = .ptr 0 0 ∧ st.tm 3 = .sl (ae (eSl eI) r5) (List.length r5) false ∧ st.tm 4 = ly ∧ st.tm 5 = .lit (.int .i64 dk) ∧ st.tm 6 = .lit (.int .i64 bE) ∧ ((∃ (β : Nat) (el : Option TypeId), ly = .ref β 0 (List.length cu) 1 (List.length cu) ∧ β < st.nx ∧ β ≠ 0 ∧ st.H β = some (.cells el (ae (eSl eI) cu))) ∨ (ly = .lit (.slice none 0 0) ∧ cu = [])) ∧ K9 (f9 p9 bE cu dk)) := ⟨_, rfl⟩
 refine loopK mixed (by kernel_rfl) I9 (List.length r5) (by rw [fU]; refine ⟨r5, 0, ([] : List (List Int)), 0, .lit (.slice none 0 0), rfl, Int.le_refl _, rfl, rfl, (show 8 ≤ 8 by omega), ?_, e7, ?_, ?_, ?_, ?_, Or.inr ⟨rfl, rfl⟩, h⟩ <;> first | (simp only [ua, e7, e8, nm, seval] <;> rfl) | rfl) ?_
 rintro m ⟨tm, H, dO, df⟩ hinv
 rw [fU] at hinv
 obtain ⟨p9, bE, cu, dk, ly, rfl, de, fV, hdf, mo, d6, bB, bw, bX, dw, bz, mz, h⟩ := hinv
 simp only at hdf mo d6 bB bw bX dw bz mz
 have gI := fq (m := 8) (b := dO) (by omega)
 subst hdf yS
 rcases mz with ⟨jD, jE, rfl, nT, nU, pY⟩ | ⟨rfl, rfl⟩
 ·have hC := fb nT
  have hO := ne_f nU
  cases p9 with
  | nil =>
   have jF : (decide (bE < (List.length r5 : Int))) = false := fB de fV
   simp only [ib, hs, reduceCtorEq] at h
   replace h := wh _ h
   try dsimp only at h
   try simp only [hs] at h
   try simp only [vz, tyf, gm, gI, bB, bw, bX, dw, bz, d6, hC, pY, hO, jF, nm, seval]
   refine c9 (x := (.ref jD 0 (List.length cu) 1 (List.length cu))) (by first | (simp only [Tryz.results53, resV, resL, resV1, cI, cJ, uw, cr, tyf, gm, gI, d6, hC, pY, hO, jF, nm, seval] <;> rfl) | rfl) ?_
   obtain rfl := kF _ h
   refine gY ?_ ?_
   ·simp only [tre, tytre, Bool.and_self]
   ·first | (simp only [outV, uw, gF, cr, tyf, nrm, aW, gm, gI, bB, bw, bX, dw, bz, d6, hC, pY, hO, jF, nm, seval] <;> rfl) | rfl
  | cons e9 p9 =>
   have nV : (decide (bE < (List.length r5 : Int))) = true := fC de fV
   have fD := ei de fV
   have jG := fu de fV gm
   simp only [ib, hs, reduceCtorEq] at h
   simp only [vz, tyf, gm, gI, bB, bw, bX, dw, bz, d6, hC, pY, hO, nV, (bj fD), jG, nm, seval]
   refine km (fun tm => tm 1 = .ptr 0 0 ∧ tm 3 = .sl (ae (eSl eI) r5) (List.length r5) false ∧ tm 4 = .ref jD 0 (List.length cu) 1 (List.length cu) ∧ tm 5 = .lit (.int .i64 dk) ∧ tm 6 = .lit (.int .i64 bE) ∧ True) (by refine ⟨bB, bw, bX, dw, bz, trivial⟩ <;> first | (simp only [ua, gI, bB, bw, bX, dw, bz, d6, hC, pY, hO, nV, jG, nm, seval] <;> rfl) | rfl) ?_
   rintro tm ⟨iL, g0, bJ, dt, da, _⟩
   have cN := And.intro gm (And.intro gI (And.intro d6 (And.intro hC (And.intro pY (And.intro hO (And.intro nV jG))))))
   obtain ⟨jH, Oa, h⟩ := optI h jl
   try simp only [hs] at h
   simp only [vz, tyf, cN, (bj fD), iL, g0, bJ, dt, da, nm, seval]
   refine dktA (xU _ _ _ Oa) ?_
   refine bY (fun tm => tm 1 = .ptr 0 0 ∧ tm 3 = .sl (ae (eSl eI) r5) (List.length r5) false ∧ tm 4 = .ref jD 0 (List.length cu) 1 (List.length cu) ∧ tm 5 = .lit (.int .i64 dk) ∧ tm 6 = .lit (.int .i64 bE) ∧ tm 21 = .lit (.int .i64 jH) ∧ True) (by refine ⟨iL, g0, bJ, dt, da, ?_, trivial⟩ <;> first | (simp only [ua, cN, iL, g0, bJ, dt, da, nm, seval] <;> rfl) | rfl) ?_
   rintro tm ⟨bC, cv, dm, dS, eM, dp, _⟩
   cases cG : (bE == 0)
   ·simp only [cG, hs] at h
    cases gn : (decide (jH < dk))
    ·simp only [gn, hs] at h
     cases iM : (jH == dk)
     ·simp only [iM, hs] at h
      simp only [vz, tyf, cN, (bj fD), bC, cv, dm, dS, eM, dp, cG, gn, iM, nm, seval]
      exact ⟨List.length p9, Nat.lt_succ_self _, by rw [fU]; refine ⟨p9, bE + 1, cu, dk, .ref jD 0 (List.length cu) 1 (List.length cu), rfl, Int.le_trans de (Int.le_add_one (Int.le_refl _)), cn de fV, rfl, (show 8 ≤ dO + 24 by omega), ?_, bC, cv, ?_, dS, ?_, Or.inl ⟨jD, jE, rfl, (by first | omega | (simp only [nm, seval]; done) | (simp only [nm, seval]; omega)), (by first | omega | (intro hh; simp only [cN, reduceCtorEq] at hh)), ?_⟩, (by first | exact h | (simp only [cN, cG, gn, iM]; exact h))⟩ <;> first | (simp only [ua, cN, bC, cv, dm, dS, eM, dp, cG, gn, iM, nm, seval] <;> rfl) | rfl⟩
     simp only [iM, hs] at h
     cases nW : (aE 24 (List.length (cu ++ [e9])))
     ·simp only [nW, hs] at h
      exact absurd h jl
     simp only [nW, hs] at h
     simp only [vz, tyf, cN, (bj fD), bC, cv, dm, dS, eM, dp, cG, gn, iM, nW, nm, seval]
     refine k_app (w := 1) (enc := (eSl eI)) (xs := cu) (ys := ([e9])) (el := jE) (dz := (some 22)) (fun _ => rfl) iN fc Tryz.underlying71 (by first | rfl | assumption | (simp only [aF, ba, bp, cN, nm, seval] <;> rfl) | (simp only [aF, ba, fx, fE, fF, fG, tyf, cN, (bj fD), bC, cv, dm, dS, eM, dp, cG, gn, iM, nW, nm, seval]; done)) (by first | rfl | assumption | (simp only [aF, ba, bp, cN, nm, seval] <;> rfl) | (simp only [aF, ba, fx, fE, fF, fG, tyf, cN, (bj fD), bC, cv, dm, dS, eM, dp, cG, gn, iM, nW, nm, seval]; done)) (Nat.zero_lt_succ _) nW ?_
     simp only [vz, tyf, cN, (bj fD), bC, cv, dm, dS, eM, dp, cG, gn, iM, nW, nm, seval]
     exact ⟨List.length p9, Nat.lt_succ_self _, by rw [fU]; refine ⟨p9, bE + 1, (cu ++ [e9]), dk, .ref (dO + 27) 0 (List.length (cu ++ [e9])) 1 (List.length (cu ++ [e9])), rfl, Int.le_trans de (Int.le_add_one (Int.le_refl _)), cn de fV, rfl, (show 8 ≤ dO + 32 by omega), ?_, bC, cv, ?_, dS, ?_, Or.inl ⟨dO + 27, (sameEl jE 22), rfl, (by first | omega | (simp only [nm, seval]; done) | (simp only [nm, seval]; omega)), (by first | omega | (intro hh; simp only [cN, reduceCtorEq] at hh)), ?_⟩, (by first | exact h | (simp only [cN, cG, gn, iM]; exact h))⟩ <;> first | (simp only [ua, cN, bC, cv, dm, dS, eM, dp, cG, gn, iM, nm, seval] <;> rfl) | rfl⟩
    simp only [gn, hs] at h
    cases kA : (jH == jH)
    ·simp only [kA, hs] at h
     simp only [vz, tyf, cN, (bj fD), bC, cv, dm, dS, eM, dp, cG, gn, kA, nm, seval]
     exact ⟨List.length p9, Nat.lt_succ_self _, by rw [fU]; refine ⟨p9, bE + 1, ([] : List (List Int)), jH, .lit (.slice none 0 0), rfl, Int.le_trans de (Int.le_add_one (Int.le_refl _)), cn de fV, rfl, (show 8 ≤ dO + 27 by omega), ?_, bC, cv, ?_, ?_, ?_, Or.inr ⟨rfl, rfl⟩, (by first | exact h | (simp only [cN, cG, gn, kA]; exact h))⟩ <;> first | (simp only [ua, cN, bC, cv, dm, dS, eM, dp, cG, gn, kA, nm, seval] <;> rfl) | rfl⟩
    simp only [kA, hs] at h
    cases pZ : (aE 24 (List.length (([] : List (List Int)) ++ [e9])))
    ·simp only [pZ, hs] at h
     exact absurd h jl
    simp only [pZ, hs] at h
    simp only [vz, tyf, cN, (bj fD), bC, cv, dm, dS, eM, dp, cG, gn, kA, pZ, nm, seval]
    refine j2 (w := 1) (enc := (eSl eI)) (ys := ([e9])) (dz := (some 22)) (fun _ => rfl) iN fc Tryz.underlying71 (by first | rfl | assumption | (simp only [aF, ba, bp, cN, nm, seval] <;> rfl) | (simp only [aF, ba, fx, fE, fF, fG, tyf, cN, (bj fD), bC, cv, dm, dS, eM, dp, cG, gn, kA, pZ, nm, seval]; done)) (Nat.zero_lt_succ _) pZ ?_
    simp only [vz, tyf, cN, (bj fD), bC, cv, dm, dS, eM, dp, cG, gn, kA, pZ, nm, seval]
    exact ⟨List.length p9, Nat.lt_succ_self _, by rw [fU]; refine ⟨p9, bE + 1, (([] : List (List Int)) ++ [e9]), jH, .ref (dO + 30) 0 (List.length (([] : List (List Int)) ++ [e9])) 1 (List.length (([] : List (List Int)) ++ [e9])), rfl, Int.le_trans de (Int.le_add_one (Int.le_refl _)), cn de fV, rfl, (show 8 ≤ dO + 35 by omega), ?_, bC, cv, ?_, ?_, ?_, Or.inl ⟨dO + 30, (some 22), rfl, (by first | omega | (simp only [nm, seval]; done) | (simp only [nm, seval]; omega)), (by first | omega | (intro hh; simp only [cN, reduceCtorEq] at hh)), ?_⟩, (by first | exact h | (simp only [cN, cG, gn, kA]; exact h))⟩ <;> first | (simp only [ua, cN, bC, cv, dm, dS, eM, dp, cG, gn, kA, nm, seval] <;> rfl) | rfl⟩
   simp only [cG, hs] at h
   cases kC : (jH == jH)
   ·simp only [kC, hs] at h
    simp only [vz, tyf, cN, (bj fD), bC, cv, dm, dS, eM, dp, cG, kC, nm, seval]
    exact ⟨List.length p9, Nat.lt_succ_self _, by rw [fU]; refine ⟨p9, bE + 1, ([] : List (List Int)), jH, .lit (.slice none 0 0), rfl, Int.le_trans de (Int.le_add_one (Int.le_refl _)), cn de fV, rfl, (show 8 ≤ dO + 27 by omega), ?_, bC, cv, ?_, ?_, ?_, Or.inr ⟨rfl, rfl⟩, (by first | exact h | (simp only [cN, cG, kC]; exact h))⟩ <;> first | (simp only [ua, cN, bC, cv, dm, dS, eM, dp, cG, kC, nm, seval] <;> rfl) | rfl⟩
   simp only [kC, hs] at h
   cases qa : (aE 24 (List.length (([] : List (List Int)) ++ [e9])))
   ·simp only [qa, hs] at h
    exact absurd h jl
   simp only [qa, hs] at h
   simp only [vz, tyf, cN, (bj fD), bC, cv, dm, dS, eM, dp, cG, kC, qa, nm, seval]
   refine j2 (w := 1) (enc := (eSl eI)) (ys := ([e9])) (dz := (some 22)) (fun _ => rfl) iN fc Tryz.underlying71 (by first | rfl | assumption | (simp only [aF, ba, bp, cN, nm, seval] <;> rfl) | (simp only [aF, ba, fx, fE, fF, fG, tyf, cN, (bj fD), bC, cv, dm, dS, eM, dp, cG, kC, qa, nm, seval]; done)) (Nat.zero_lt_succ _) qa ?_
   simp only [vz, tyf, cN, (bj fD), bC, cv, dm, dS, eM, dp, cG, kC, qa, nm, seval]
   exact ⟨List.length p9, Nat.lt_succ_self _, by rw [fU]; refine ⟨p9, bE + 1, (([] : List (List Int)) ++ [e9]), jH, .ref (dO + 30) 0 (List.length (([] : List (List Int)) ++ [e9])) 1 (List.length (([] : List (List Int)) ++ [e9])), rfl, Int.le_trans de (Int.le_add_one (Int.le_refl _)), cn de fV, rfl, (show 8 ≤ dO + 35 by omega), ?_, bC, cv, ?_, ?_, ?_, Or.inl ⟨dO + 30, (some 22), rfl, (by first | omega | (simp only [nm, seval]; done) | (simp only [nm, seval]; omega)), (by first | omega | (intro hh; simp only [cN, reduceCtorEq] at hh)), ?_⟩, (by first | exact h | (simp only [cN, cG, kC]; exact h))⟩ <;> first | (simp only [ua, cN, bC, cv, dm, dS, eM, dp, cG, kC, nm, seval] <;> rfl) | rfl⟩
 ·cases p9 with
  | nil =>
   have yT : (decide (bE < (List.length r5 : Int))) = false := fB de fV
   simp only [ib, hs, reduceCtorEq] at h
   replace h := wh _ h
   try dsimp only at h
   try simp only [hs] at h
   try simp only [vz, tyf, gm, gI, bB, bw, bX, dw, bz, d6, yT, nm, seval]
   refine c9 (x := (.lit (.slice none 0 0))) (by first | (simp only [Tryz.results53, resV, resL, resV1, cI, cJ, uw, cr, tyf, gm, gI, d6, yT, nm, seval] <;> rfl) | rfl) ?_
   obtain rfl := kF _ h
   refine gY ?_ ?_
   ·simp only [tre, tytre, Bool.and_self]
   ·first | (simp only [outV, uw, gF, cr, tyf, nrm, aW, gm, gI, bB, bw, bX, dw, bz, d6, yT, nm, seval] <;> rfl) | rfl
  | cons e9 p9 =>
   have m0 : (decide (bE < (List.length r5 : Int))) = true := fC de fV
   have i9 := ei de fV
   have m5 := fu de fV gm
   simp only [ib, hs, reduceCtorEq] at h
   simp only [vz, tyf, gm, gI, bB, bw, bX, dw, bz, d6, m0, (bj i9), m5, nm, seval]
   refine km (fun tm => tm 1 = .ptr 0 0 ∧ tm 3 = .sl (ae (eSl eI) r5) (List.length r5) false ∧ tm 4 = .lit (.slice none 0 0) ∧ tm 5 = .lit (.int .i64 dk) ∧ tm 6 = .lit (.int .i64 bE) ∧ True) (by refine ⟨bB, bw, bX, dw, bz, trivial⟩ <;> first | (simp only [ua, gI, bB, bw, bX, dw, bz, d6, m0, m5, nm, seval] <;> rfl) | rfl) ?_
   rintro tm ⟨fQ, jy, jg, jz, lZ, _⟩
   obtain ⟨jI, Ob, h⟩ := optI h jl
   try simp only [hs] at h
   simp only [vz, tyf, gm, gI, d6, m0, (bj i9), m5, fQ, jy, jg, jz, lZ, nm, seval]
   refine dktA (xU _ _ _ Ob) ?_
   refine bY (fun tm => tm 1 = .ptr 0 0 ∧ tm 3 = .sl (ae (eSl eI) r5) (List.length r5) false ∧ tm 4 = .lit (.slice none 0 0) ∧ tm 5 = .lit (.int .i64 dk) ∧ tm 6 = .lit (.int .i64 bE) ∧ tm 21 = .lit (.int .i64 jI) ∧ True) (by refine ⟨fQ, jy, jg, jz, lZ, ?_, trivial⟩ <;> first | (simp only [ua, gI, d6, m0, m5, fQ, jy, jg, jz, lZ, nm, seval] <;> rfl) | rfl) ?_
   rintro tm ⟨dP, dQ, g9, fW, gp, fm, _⟩
   cases qb : (bE == 0)
   ·simp only [qb, hs] at h
    cases wj : (decide (jI < dk))
    ·simp only [wj, hs] at h
     have kD := And.intro gm (And.intro gI (And.intro d6 (And.intro m0 (And.intro m5 (And.intro qb wj)))))
     cases kE : (jI == dk)
     ·simp only [kE, hs] at h
      simp only [vz, tyf, kD, (bj i9), dP, dQ, g9, fW, gp, fm, kE, nm, seval]
      exact ⟨List.length p9, Nat.lt_succ_self _, by rw [fU]; refine ⟨p9, bE + 1, ([] : List (List Int)), dk, .lit (.slice none 0 0), rfl, Int.le_trans de (Int.le_add_one (Int.le_refl _)), cn de fV, rfl, (show 8 ≤ dO + 24 by omega), ?_, dP, dQ, ?_, fW, ?_, Or.inr ⟨rfl, rfl⟩, (by first | exact h | (simp only [kD, kE]; exact h))⟩ <;> first | (simp only [ua, kD, dP, dQ, g9, fW, gp, fm, kE, nm, seval] <;> rfl) | rfl⟩
     simp only [kE, hs] at h
     cases qc : (aE 24 (List.length (([] : List (List Int)) ++ [e9])))
     ·simp only [qc, hs] at h
      exact absurd h jl
     simp only [qc, hs] at h
     simp only [vz, tyf, kD, (bj i9), dP, dQ, g9, fW, gp, fm, kE, qc, nm, seval]
     refine j2 (w := 1) (enc := (eSl eI)) (ys := ([e9])) (dz := (some 22)) (fun _ => rfl) iN fc Tryz.underlying71 (by first | rfl | assumption | (simp only [aF, ba, bp, kD, nm, seval] <;> rfl) | (simp only [aF, ba, fx, fE, fF, fG, tyf, kD, (bj i9), dP, dQ, g9, fW, gp, fm, kE, qc, nm, seval]; done)) (Nat.zero_lt_succ _) qc ?_
     simp only [vz, tyf, kD, (bj i9), dP, dQ, g9, fW, gp, fm, kE, qc, nm, seval]
     exact ⟨List.length p9, Nat.lt_succ_self _, by rw [fU]; refine ⟨p9, bE + 1, (([] : List (List Int)) ++ [e9]), dk, .ref (dO + 27) 0 (List.length (([] : List (List Int)) ++ [e9])) 1 (List.length (([] : List (List Int)) ++ [e9])), rfl, Int.le_trans de (Int.le_add_one (Int.le_refl _)), cn de fV, rfl, (show 8 ≤ dO + 32 by omega), ?_, dP, dQ, ?_, fW, ?_, Or.inl ⟨dO + 27, (some 22), rfl, (by first | omega | (simp only [nm, seval]; done) | (simp only [nm, seval]; omega)), (by first | omega | (intro hh; simp only [kD, reduceCtorEq] at hh)), ?_⟩, (by first | exact h | (simp only [kD, kE]; exact h))⟩ <;> first | (simp only [ua, kD, dP, dQ, g9, fW, gp, fm, kE, nm, seval] <;> rfl) | rfl⟩
    simp only [wj, hs] at h
    have kG := And.intro gm (And.intro gI (And.intro d6 (And.intro m0 (And.intro m5 (And.intro qb wj)))))
    cases fR : (jI == jI)
    ·simp only [fR, hs] at h
     simp only [vz, tyf, kG, (bj i9), dP, dQ, g9, fW, gp, fm, fR, nm, seval]
     exact ⟨List.length p9, Nat.lt_succ_self _, by rw [fU]; refine ⟨p9, bE + 1, ([] : List (List Int)), jI, .lit (.slice none 0 0), rfl, Int.le_trans de (Int.le_add_one (Int.le_refl _)), cn de fV, rfl, (show 8 ≤ dO + 27 by omega), ?_, dP, dQ, ?_, ?_, ?_, Or.inr ⟨rfl, rfl⟩, (by first | exact h | (simp only [kG, fR]; exact h))⟩ <;> first | (simp only [ua, kG, dP, dQ, g9, fW, gp, fm, fR, nm, seval] <;> rfl) | rfl⟩
    simp only [fR, hs] at h
    cases qe : (aE 24 (List.length (([] : List (List Int)) ++ [e9])))
    ·simp only [qe, hs] at h
     exact absurd h jl
    simp only [qe, hs] at h
    simp only [vz, tyf, kG, (bj i9), dP, dQ, g9, fW, gp, fm, fR, qe, nm, seval]
    refine j2 (w := 1) (enc := (eSl eI)) (ys := ([e9])) (dz := (some 22)) (fun _ => rfl) iN fc Tryz.underlying71 (by first | rfl | assumption | (simp only [aF, ba, bp, kG, nm, seval] <;> rfl) | (simp only [aF, ba, fx, fE, fF, fG, tyf, kG, (bj i9), dP, dQ, g9, fW, gp, fm, fR, qe, nm, seval]; done)) (Nat.zero_lt_succ _) qe ?_
    simp only [vz, tyf, kG, (bj i9), dP, dQ, g9, fW, gp, fm, fR, qe, nm, seval]
    exact ⟨List.length p9, Nat.lt_succ_self _, by rw [fU]; refine ⟨p9, bE + 1, (([] : List (List Int)) ++ [e9]), jI, .ref (dO + 30) 0 (List.length (([] : List (List Int)) ++ [e9])) 1 (List.length (([] : List (List Int)) ++ [e9])), rfl, Int.le_trans de (Int.le_add_one (Int.le_refl _)), cn de fV, rfl, (show 8 ≤ dO + 35 by omega), ?_, dP, dQ, ?_, ?_, ?_, Or.inl ⟨dO + 30, (some 22), rfl, (by first | omega | (simp only [nm, seval]; done) | (simp only [nm, seval]; omega)), (by first | omega | (intro hh; simp only [kG, reduceCtorEq] at hh)), ?_⟩, (by first | exact h | (simp only [kG, fR]; exact h))⟩ <;> first | (simp only [ua, kG, dP, dQ, g9, fW, gp, fm, fR, nm, seval] <;> rfl) | rfl⟩
   simp only [qb, hs] at h
   cases wm : (jI == jI)
   ·simp only [wm, hs] at h
    have yU := And.intro gm (And.intro gI (And.intro d6 (And.intro m0 (And.intro m5 (And.intro qb wm)))))
    simp only [vz, tyf, yU, (bj i9), dP, dQ, g9, fW, gp, fm, nm, seval]
    exact ⟨List.length p9, Nat.lt_succ_self _, by rw [fU]; refine ⟨p9, bE + 1, ([] : List (List Int)), jI, .lit (.slice none 0 0), rfl, Int.le_trans de (Int.le_add_one (Int.le_refl _)), cn de fV, rfl, (show 8 ≤ dO + 27 by omega), ?_, dP, dQ, ?_, ?_, ?_, Or.inr ⟨rfl, rfl⟩, (by first | exact h | (simp only [yU]; exact h))⟩ <;> first | (simp only [ua, yU, dP, dQ, g9, fW, gp, fm, nm, seval] <;> rfl) | rfl⟩
   simp only [wm, hs] at h
   have nX := And.intro gm (And.intro gI (And.intro d6 (And.intro m0 (And.intro m5 (And.intro qb wm)))))
   cases qf : (aE 24 (List.length (([] : List (List Int)) ++ [e9])))
   ·simp only [qf, hs] at h
    exact absurd h jl
   simp only [qf, hs] at h
   simp only [vz, tyf, nX, (bj i9), dP, dQ, g9, fW, gp, fm, qf, nm, seval]
   refine j2 (w := 1) (enc := (eSl eI)) (ys := ([e9])) (dz := (some 22)) (fun _ => rfl) iN fc Tryz.underlying71 (by first | rfl | assumption | (simp only [aF, ba, bp, nX, nm, seval] <;> rfl) | (simp only [aF, ba, fx, fE, fF, fG, tyf, nX, (bj i9), dP, dQ, g9, fW, gp, fm, qf, nm, seval]; done)) (Nat.zero_lt_succ _) qf ?_
   simp only [vz, tyf, nX, (bj i9), dP, dQ, g9, fW, gp, fm, qf, nm, seval]
   exact ⟨List.length p9, Nat.lt_succ_self _, by rw [fU]; refine ⟨p9, bE + 1, (([] : List (List Int)) ++ [e9]), jI, .ref (dO + 30) 0 (List.length (([] : List (List Int)) ++ [e9])) 1 (List.length (([] : List (List Int)) ++ [e9])), rfl, Int.le_trans de (Int.le_add_one (Int.le_refl _)), cn de fV, rfl, (show 8 ≤ dO + 35 by omega), ?_, dP, dQ, ?_, ?_, ?_, Or.inl ⟨dO + 30, (some 22), rfl, (by first | omega | (simp only [nm, seval]; done) | (simp only [nm, seval]; omega)), (by first | omega | (intro hh; simp only [nX, reduceCtorEq] at hh)), ?_⟩, (by first | exact h | (simp only [nX]; exact h))⟩ <;> first | (simp only [ua, nX, dP, dQ, g9, fW, gp, fm, nm, seval] <;> rfl) | rfl⟩
theorem sA {α : Type} (f : Nat → List α) : ∀ (l k : Nat), 0 < k → ((List.range' k l).flatMap fun i => if (decide (((i : Nat) : Int) = 0)) then f i else []) = []
 | 0, _, _ => rfl
 | l + 1, k, hk => by
  rw [List.range'_succ, List.flatMap_cons, sA f l (k + 1) (by omega), if_neg (by simp; omega)]
  rfl
theorem yV {b : GBk} (pT : 0 ≤ b.Apprentices) {i d : Nat} (hi : i < b.Strokes.length) {p : List Int} (hp : p.length = i) : listsB (mF b) (b.Apprentices.toNat + 1) (d + 1) p = (exF p ((ltF b i).toNat + 1)).flatMap (listsB (mF b) (b.Apprentices.toNat + 1) d) := by
 have hg : b.Strokes[p.length]? = some b.Strokes[i] := by rw [hp]; exact List.getElem?_eq_getElem hi
 have hl : ltF b i = if b.Strokes[i].Round then 0 else b.Apprentices := by unfold ltF; rw [List.getElem?_eq_getElem hi]
 unfold listsB exF
 rw [List.flatMap_map, List.range_eq_range']
 cases hr : b.Strokes[i].Round with
 | false =>
  have e : ltF b i = b.Apprentices := by rw [hl, hr]; rfl
  rw [e]
  congr 1
  funext j
  have : mF b p j = true := by unfold mF; rw [hg]; simp [hr]
  rw [this]; rfl
 | true =>
  have e : ltF b i = 0 := by rw [hl, hr]; rfl
  rw [e]
  have e2 : ∀ j : Nat, mF b p j = decide ((j : Int) = 0) := fun j => by
   unfold mF; rw [hg]; dsimp only; rw [hr]
   by_cases h : j = 0
   ·subst h; rfl
   ·rw [decide_eq_false (show ¬ (j : Int) = 0 by omega), show ((j : Int) == 0) = false by simp; omega]; rfl
  simp only [e2]
  rw [List.range'_succ, List.flatMap_cons, sA _ _ _ (by omega)]
  simp
theorem sB {b : GBk} (pT : 0 ≤ b.Apprentices) : ∀ (d i : Nat), i + d = b.Strokes.length → (plF b i).flatMap (listsB (mF b) (b.Apprentices.toNat + 1) d) = plF b b.Strokes.length
 | 0, i, h => by
  obtain rfl : i = b.Strokes.length := by omega
  show ((plF b b.Strokes.length).flatMap fun p => [p]) = _
  simp
 | d + 1, i, h => by
  rw [← sB pT d (i + 1) (by omega)]
  have hm := vW (b := b) i
  show _ = ((plF b i).flatMap fun x => exF x ((ltF b i).toNat + 1)).flatMap _
  rw [List.flatMap_assoc]
  generalize plF b i = L at hm ⊢
  induction L with
  | nil => rfl
  | cons x L ih =>
   rw [List.flatMap_cons, List.flatMap_cons, ih (fun y hy => hm y (List.mem_cons_of_mem _ hy)), yV pT (by omega) (hm x (List.mem_cons_self ..))]
theorem Kh {b : GBk} (hB : BOk b) : pS b = some (LA b b.Apprentices) := by
 have hA := hB.ap
 have hn := hB.ns
 unfold pS
 rw [decide_eq_true hA.1, decide_eq_true hA.2, decide_eq_true hn.2, ← sB hA.1 b.Strokes.length 0 (by omega)]
 simp [plF, LA]
theorem wo {b : GBk} (h : Len b) (hB : BOk b) : ∀ (p : List (List Int)) (c : Int) (out : List (List Int)) (ls : Int), 1 ≤ c → (∀ q ∈ p, q.length = b.Strokes.length) → out.length + p.length ≤ 100000 →
  ∃ m, m ≤ ls ∧ (∀ q ∈ p, m ≤ TK b q) ∧ ib b p c out ls = some (.go ((if m < ls then [] else out) ++ p.filter (fun q => TK b q == m), m)) ∧ (m = ls ∨ ∃ q ∈ p, TK b q = m)
 | [], c, out, ls, _, _, _ => ⟨ls, Int.le_refl _, (fun q hq => by cases hq), by simp [ib], .inl rfl⟩
 | e :: p, c, out, ls, hc, hl, hn => by
  have hle := hl e (List.mem_cons_self ..)
  have hl' : ∀ q ∈ p, q.length = b.Strokes.length := fun q hq => hl q (List.mem_cons_of_mem _ hq)
  simp only [List.length_cons] at hn
  simp only [ib, ya h hB hle, Option.bind_some, show (c == 0) = false by simp; omega, cond_false, beq_self_eq_true, cond_true]
  by_cases hlt : TK b e < ls
  ·rw [decide_eq_true hlt, cond_true, ll (by simp), cond_true]
   obtain ⟨m, m1, m2, m3, m4⟩ := wo h hB p (c + 1) [e] (TK b e) (by omega) hl' (by simp; omega)
   refine ⟨m, by omega, fun q hq => ?_, ?_, ?_⟩
   ·rcases List.mem_cons.1 hq with rfl | hq
    ·exact m1
    ·exact m2 q hq
   ·rw [List.nil_append, m3, if_pos (show m < ls by omega), List.filter_cons]
    by_cases hm : m < TK b e
    ·rw [if_pos hm, if_neg (by simp; omega)]
    ·rw [if_neg hm, if_pos (by simp; omega)]; rfl
   ·rcases m4 with h4 | ⟨q, hq, h4⟩
    ·exact .inr ⟨e, List.mem_cons_self .., h4.symm⟩
    ·exact .inr ⟨q, List.mem_cons_of_mem _ hq, h4⟩
  ·rw [decide_eq_false hlt, cond_false]
   by_cases heq : TK b e = ls
   ·rw [show (TK b e == ls) = true by simpa using heq, cond_true, ll (by simp; omega), cond_true]
    obtain ⟨m, m1, m2, m3, m4⟩ := wo h hB p (c + 1) (out ++ [e]) ls (by omega) hl' (by simp; omega)
    refine ⟨m, m1, fun q hq => ?_, ?_, ?_⟩
    ·rcases List.mem_cons.1 hq with rfl | hq
     ·omega
     ·exact m2 q hq
    ·rw [m3, List.filter_cons]
     by_cases hm : m < ls
     ·rw [if_pos hm, if_pos hm, if_neg (by simp; omega)]
     ·rw [if_neg hm, if_neg hm, if_pos (by simp; omega)]; simp
    ·rcases m4 with h4 | ⟨q, hq, h4⟩
     ·exact .inl h4
     ·exact .inr ⟨q, List.mem_cons_of_mem _ hq, h4⟩
   ·rw [show (TK b e == ls) = false by simpa using heq, cond_false]
    obtain ⟨m, m1, m2, m3, m4⟩ := wo h hB p (c + 1) out ls (by omega) hl' (by omega)
    refine ⟨m, m1, fun q hq => ?_, ?_, ?_⟩
    ·rcases List.mem_cons.1 hq with rfl | hq
     ·omega
     ·exact m2 q hq
    ·rw [m3, List.filter_cons, if_neg (show ¬ ((TK b e == m) = true) by simp; omega)]
    ·rcases m4 with h4 | ⟨q, hq, h4⟩
     ·exact .inl h4
     ·exact .inr ⟨q, List.mem_cons_of_mem _ hq, h4⟩
theorem rD {b : GBk} (hB : BOk b) : (∀ q ∈ LA b b.Apprentices, q.length = b.Strokes.length) ∧ 0 < (LA b b.Apprentices).length ∧ (LA b b.Apprentices).length ≤ 4096 := by
 have h := Kh hB
 have hA := hB.ap
 have hn := hB.ns
 unfold pS at h
 rw [decide_eq_true hA.1, decide_eq_true hA.2, decide_eq_true hn.2] at h
 have e : plF b b.Strokes.length = LA b b.Apprentices := Option.some.inj h
 rw [← e]
 obtain ⟨h1, h2⟩ := nJ hA.1 hA.2 b.Strokes.length
 exact ⟨vW _, h1, Nat.le_trans h2 (Nat.pow_le_pow_right (n := 4) (by omega) (show b.Strokes.length ≤ 6 from hn.2))⟩
theorem xZ {b : GBk} (h : Len b) (hB : BOk b) {R : List Int} (hR : IsB b b.Apprentices R) : ∃ L, rp b = some (R :: L) ∧ R :: L = (LA b b.Apprentices).filter (fun q => TK b q == TK b R) ∧ (R :: L).length ≤ 4096 := by
 obtain ⟨k1, k2, k3⟩ := rD hB
 obtain ⟨r1, r2, r3⟩ := hR
 rcases wg _ _ r1 with ⟨h0, _⟩ | ⟨L1, L2, eL, hlt, hle, _⟩
 ·cases h0
 have r1' : ∀ p ∈ L1, TK b R < TK b p := hlt
 have ef : (LA b b.Apprentices).filter (fun q => TK b q == TK b R) = R :: L2.filter (fun q => TK b q == TK b R) := by
  rw [eL, List.filter_append, List.filter_cons, if_pos (by simp)]
  rw [List.filter_eq_nil_iff.2 (fun p hp => by have := r1' p hp; simp; omega)]
  rfl
 have hlen : (R :: L2.filter (fun q => TK b q == TK b R)).length ≤ 4096 := by
  rw [← ef]; exact Nat.le_trans (List.length_filter_le _ _) k3
 refine ⟨_, ?_, ef.symm, hlen⟩
 rw [← ef]
 unfold rp
 rw [Kh hB, Option.bind_some, gj (by omega), cond_true]
 generalize LA b b.Apprentices = A at *
 cases A with
 | nil => simp at k2
 | cons e A =>
  have yW := k1 e (List.mem_cons_self ..)
  simp only [List.length_cons] at k3
  simp only [ib, ya h hB yW, Option.bind_some, beq_self_eq_true, cond_true, List.nil_append]
  rw [ll (by simp), cond_true]
  obtain ⟨m, m1, m2, m3, m4⟩ := wo h hB A (0 + 1) [e] (TK b e) (by omega) (fun q hq => k1 q (List.mem_cons_of_mem _ hq)) (by simp; omega)
  rw [m3]
  have hmR : m = TK b R := by
   have h1 : m ≤ TK b R := by
    rcases List.mem_cons.1 r2 with rfl | hq
    ·exact m1
    ·exact m2 R hq
   have h2 : TK b R ≤ m := by
    rcases m4 with h4 | ⟨q, hq, h4⟩
    ·rw [h4]; exact r3 e (List.mem_cons_self ..)
    ·rw [← h4]; exact r3 q (List.mem_cons_of_mem _ hq)
   omega
  subst hmR
  simp only [lbind]
  rw [List.filter_cons]
  by_cases hm : TK b R < TK b e
  ·rw [if_pos hm, if_neg (by simp; omega)]; rfl
  ·rw [if_neg hm, if_pos (by simp; omega)]; rfl
def wq (aa : GBk) (ag : List Int) (br : Int) (l0 : List (Gbe × Int)) : Option ((Bool) × List (Gbe × Int)) := Option.bind (mm aa ag l0) (fun r1 => some (r1.1 == br, r1.2))
theorem Oc (aa : GBk) (ag : List Int) (br : Int) (l0 : List (Gbe × Int)) (R : (Bool) × List (Gbe × Int)) (h : wq aa ag br l0 = some R) : VUpd Tryz.prog G0 120 (fun β => [.agg [.lit (.int .i64 aa.Apprentices), .sl (ae eI aa.Boards) (List.length aa.Boards) false, .sl (ae cGBs aa.Strokes) (List.length aa.Strokes) false, .sl (ae eI ag) (List.length ag) false, .mp β], .tp ([.lit (.int .i64 br)])]) (encM aP bR l0) (encM aP bR R.2) (fun _ => .lit (.bool R.1)) := by
 intro bt nx hlt
 have bh := fb (β := bt) (nx := nx) hlt
 refine aq.run mixed Tryz.call120 Tryz.func120 rfl (by simp [Tryz.ntmps120]; kernel_rfl) ?_
 obtain ⟨KF, h, kF, kN⟩ := cT h
 simp only [wq] at h
 simp only [vz, mq, mqm, vsi, tyf, mqt, bh, nm, seval]
 refine mn (fun tm => tm 1 = .tp ([.lit (.int .i64 br)]) ∧ tm 2 = .ptr nx 0 ∧ True) (by refine ⟨?_, ?_, trivial⟩ <;> first | (simp only [ua, cg, bh, nm, seval] <;> rfl) | rfl) ?_
 rintro tm ⟨e2, e3, _⟩
 obtain ⟨r4, o5, h⟩ := optI h kN
 try simp only [hs] at h
 simp only [vz, mq, mqm, vsi, tyf, mqt, bh, e2, e3, nm, seval]
 refine dkupd (VUpd.at (β := bt) (y := (fun _ => .lit (.int .i64 r4.1))) (so _ _ _ _ o5) (by omega) (by first | rfl | assumption | (simp only [aF, ba, bh, nm, seval] <;> rfl)) (by first | rfl | (simp only [nrm, aW, @eu, @gZ] <;> rfl)) (gH (fun _ => rfl) _)) ?_
 refine h9 (fun tm => tm 1 = .tp ([.lit (.int .i64 br)]) ∧ tm 5 = .lit (.int .i64 r4.1) ∧ True) (by refine ⟨e2, ?_, trivial⟩ <;> first | (simp only [ua, cg, bh, e2, e3, nm, seval] <;> rfl) | rfl) ?_
 rintro tm ⟨e6, e7, _⟩
 simp only [vz, mq, mqm, vsi, tyf, mqt, bh, e6, e7, nm, seval]
 refine j5 ⟨?_, ?_⟩
 ·simp only [j6, j7, fw, j8, and_true, true_and]
  repeat' (first | exact trivial | refine And.intro ?_ ?_ | rw [fw] | rw [j9] | exact Or.inl (by decide +kernel) | exact Or.inl (by dsimp only; decide +kernel) | (refine Or.inr ⟨?_, ?_⟩ <;> simp; done) | (refine Or.inr ⟨?_, ?_⟩ <;> simp <;> omega) | (refine Or.inr ⟨?_, ?_⟩ <;> simp [VEff.wr] <;> omega))
 try simp only [vz, mq, mqm, vsi, tyf, mqt, bh, e6, e7, nm, seval]
 refine c9 (x := (.lit (.bool (r4.1 == br)))) (by first | (simp only [Tryz.results120, resV, resL, resV1, cI, cJ, uw, cr, tyf, mqt, bh, nm, seval] <;> rfl) | rfl) ?_
 obtain rfl := kF _ h
 refine ⟨(by first | rfl | assumption | (simp only [aF, ba, bh, nm, seval] <;> rfl)), ?_⟩
 exact sq_of (kH (by first | (simp only [tre, tytre, mqr, Bool.and_self]; done) | rfl) rfl)
def itW (b : GBk) (h : Int) : VV := .fn (.func 141) [] [.tp [itB b], .tp [.fn (.func 120) [] [.tp [.lit (.int .i64 h)]]]]
theorem yX {cs : List VV} : normV (.tp cs) = .tp cs := by simp [normV]
theorem sC {b : GBk} : (itB b).tree = true := by
 have h : treeL (cGBk b) = true := pX
 simp [itB, VV.tree, treeL, h]
theorem yY (b : GBk) (h : Int) : aj Tryz.prog G0 119 [itB b, .fn (.func 120) [] [.tp [.lit (.int .i64 h)]]] (.tree (itW b h)) := by
 have hti : treeL (cGBk b) = true := pX
 unfold itW itB
 generalize cGBk b = cb at hti ⊢
 refine aj.run mixed Tryz.call119 Tryz.func119 rfl (by simp [Tryz.ntmps119]; kernel_rfl) ?_
 simp only [vz, tyf, seval, ua, rg]
 refine ⟨rfl, .fn (.func 141) [] [.ptr 0 0, .ptr 1 0], by simp [Tryz.results119, resV, resL, resV1, upd], 20, ?_⟩
 simp [sealV, sealL, VV.tree, treeL, updH, hti]
def whL (b : GBk) (h : Int) (L : List (List Int)) : List (List Int) := L.filter fun e => TK b e == h
theorem Od {b : GBk} (hB : BH b) {e : List Int} (he : e.length = b.Strokes.length) (h : Int) {l : List (Gbe × Int)} (hl : InvE b e l) : ∃ l', wq b e h l = some (TK b e == h, l') ∧ InvE b e l' := by
 obtain ⟨l', e1, hl'⟩ := sn hB he hl
 exact ⟨l', by unfold wq; rw [e1]; rfl, hl'⟩
theorem yZ {b : GBk} {L : List (List Int)} (h : plansO b = some L) : ∀ p ∈ L, p.length = b.Strokes.length := by
 intro p hp
 unfold plansO at h
 cases hs : (decide (0 < b.Strokes.length) && (decide (b.Strokes.length < 1000) && (decide (0 ≤ b.Apprentices) && decide (b.Apprentices < 1000)))) with
 | false => rw [hs] at h; cases h
 | true =>
 rw [hs, cond_true] at h
 have := wb _ _ _ h p hp
 simpa using this
theorem Oe {b : GBk} {hr : Int} {L : List (List Int)} (hB : BH b) (hL : plansO b = some L) : IterX Tryz.prog G0 (itW b hr) ((whL b hr L).map (plV b)) := by
 have hlen := yZ hL
 have hit := yD hL
 refine ⟨141, [], _, rfl, fun β I hst hrr H nx hβ hI => ?_⟩
 refine aq.run mixed Tryz.call141 Tryz.func141 rfl (by simp [Tryz.ntmps141]; kernel_rfl) ?_
 simp only [List.nil_append, List.cons_append, argsTm3, vz, tyf, seval, ua, rg]
 refine sq (fun tm => tm 5 = itB b ∧ tm 2 = .tp [.fn (.func 120) [] [.tp [.lit (.int .i64 hr)]]] ∧ tm 3 = .ptr nx 0) (by refine ⟨?_, ?_, ?_⟩ <;> simp only [ua, seval, Nat.add_zero]) ?_
 rintro tm ⟨e5, e2, e3⟩
 refine JL hit (by first | (simp only [jA, jB, e5, jj, seval] <;> rfl) | rfl) ?_
 intro LO hLO
 obtain ⟨J, hJ⟩ : ∃ J : Option (List VV) → Option (List VV) → List (Nat × VObj) → Prop, J = (fun o o' hp => match o with
  | some l => ∃ (p : List (List Int)), l = p.map (plV b) ∧ (∀ q ∈ p, q ∈ L) ∧ o' = some ((whL b hr p).map (plV b)) ∧ hp = [(nx, .cells (some 130) [.yl β]), (nx + 2, .deferred (some [])), (nx + 3, LO)]
  | none => ∃ LD : Code → VObj, (∃ tml ps az bo d, LD = fun c => VObj.loop .done (some c) tml ps az bo d) ∧ o' = none ∧ hp = [(nx, .cells (some 130) [.yl β]), (nx + 2, .deferred (some [])), (nx + 3, LD .ret)]) := ⟨_, rfl⟩
 refine ⟨ownI2 I J, Ki hst, ?_, ?_, ?_⟩
 ·rintro v rest Fr H1 bk δe hFr hδe hnδ hHδ ⟨hp, o', hown, hj, hi⟩
  rw [hJ] at hj
  obtain ⟨p, hl, hpL, rfl, rfl⟩ := hj
  cases p with
  | nil => cases hl
  | cons e p =>
  simp only [List.map_cons, List.cons.injEq, plV, VV.agg.injEq] at hl
  obtain ⟨rfl, rfl⟩ := hl
  have heL := hpL e (List.mem_cons_self ..)
  have hpL' : ∀ q ∈ p, q ∈ L := fun q hq => hpL q (List.mem_cons_of_mem _ hq)
  obtain ⟨la, na, Ha⟩ := hown.head
  obtain ⟨lb, nb', Hb⟩ := hown.tail.head
  obtain ⟨lc, nc, Hc⟩ := hown.tail.tail.head
  simp only [not_or] at na nb' nc
  have hfr : ∀ γ, (∃ q ∈ [(nx, .cells (some 130) [.yl β]), (nx + 2, .deferred (some [])), (nx + 3, LO)], (q : Nat × VObj).1 = γ) ↔ γ = nx ∨ γ = nx + 2 ∨ γ = nx + 3 := by
   intro γ
   simp [eq_comm]
  simp only [hfr] at hi
  obtain ⟨le, ee, ie⟩ := Od hB (hlen e heL) hr InvE.nil
  refine ss mixed (psl := [6]) hLO Hc su rfl (by kernel_rfl) (by kernel_rfl) ?_
  intro LB LD hLB hLD
  refine sv (fun tm => tm 6 = plM b e δe ∧ tm 2 = .tp [.fn (.func 120) [] [.tp [.lit (.int .i64 hr)]]] ∧ tm 3 = .ptr nx 0) (by refine ⟨?_, ?_, ?_⟩ <;> first | (simp only [sw, sx, Tryz.ntmps141, e2, e3, seval]; done) | rfl) ?_
  clear e5 e2 e3
  rintro tm ⟨e6, e2, e3⟩
  have hne : (nx = nx + 3) = False := by simp
  have qd := fb hδe
  have wt := ne_f (Ne.symm na.2)
  have wu := ne_f (Ne.symm nc.2)
  have wv := ne_f na.2
  have wx := ne_f nc.2
  have nb := jk (a := nx) (m := 4) (b := bk) (by omega)
  simp only [j4] at e6
  simp only [vz, tyf, mq, mqm, vsi, mqt, seval, ua, nm, rg, RStart, e6, e2, e3, Ha, Hc, hne, nb, qd, wt, wu, wv, wx, hHδ]
  refine kupd (VUpd.at (β := δe) (y := (fun _ => .lit (.bool (TK b e == hr)))) (Oc _ _ _ _ _ ee) (by omega) (by first | rfl | assumption | (simp only [aF, ba, Ha, Hc, hne, nb, qd, wt, wu, wv, wx, hHδ, cg, nm, seval] <;> rfl)) (by first | rfl | (simp only [nrm, aW, @eu, @gZ, @yX] <;> rfl)) (gH (fun _ => rfl) _)) ?_
  refine h9 (fun tm => tm 3 = .ptr nx 0 ∧ tm 4 = .ptr (bk + 0) 0 ∧ tm 9 = .lit (.bool (TK b e == hr))) (by refine ⟨?_, ?_, ?_⟩ <;> first | (simp only [ua, cg, e3, nm, seval] <;> rfl) | rfl) ?_
  generalize hHH : updH (updH (updH (updH H1 (bk + 0) (VObj.cells (some 92) [.lit (.int .i64 0), .lit (.slice none 0 0), .lit (.slice none 0 0), .lit (.slice none 0 0), .lit (.map none)])) (bk + 0) (VObj.cells (some 92) [.lit (.int .i64 b.Apprentices), .sl (ae eI b.Boards) (List.length b.Boards) false, .sl (ae cGBs b.Strokes) (List.length b.Strokes) false, .sl (ae eI e) (List.length e) false, .mp δe])) (nx + 3) LB) δe (.map (encM aP bR le)) = HH
  have K1 : HH (bk + 0) = some (.cells (some 92) (cPl b e δe)) := by
   rw [← hHH]
   simp only [updH]
   rw [if_neg (by omega), if_neg (by omega), if_pos trivial]
   rfl
  have Kc : HH (nx + 3) = some LB := by
   rw [← hHH]
   simp only [updH]
   rw [if_neg nc.2, if_pos trivial]
  have Kd : HH δe = some (.map (encM aP bR le)) := by
   rw [← hHH]
   simp only [updH]
   rw [if_pos trivial]
  have KF : ∀ γ, γ < bk → γ ≠ nx + 3 → γ ≠ δe → HH γ = H1 γ := by
   intro γ h1 h2 h3
   rw [← hHH]
   simp only [updH]
   rw [if_neg h3, if_neg h2, if_neg (by omega), if_neg (by omega)]
  clear hHH e6 e2 e3 tm
  rintro tm ⟨e3, e4, e9⟩
  rw [lu] at K1
  have Ka : HH nx = some (.cells (some 130) [.yl β]) := by rw [KF nx (by omega) (by omega) na.2]; exact Ha
  have Kb : HH (nx + 2) = some (.deferred (some [])) := by rw [KF (nx + 2) (by omega) (by omega) nb'.2]; exact Hb
  cases ht : (TK b e == hr) with
  | false =>
   have hwh : whL b hr (e :: p) = whL b hr p := by simp only [whL, List.filter_cons, ht]; rfl
   rw [hwh] at hi
   simp only [vz, mq, mqm, vsi, tyf, mqt, seval, ua, nm, rg, RStart, e3, e4, e9, ht, K1, Ka, Kc, hne, nb, qd, wt, wu, wv, wx]
   refine ⟨by simp only [aF, Kc, seval], (show bk ≤ bk + 11 by omega), fun γ hγ => ?_, ?_⟩
   ·have := hFr γ hγ
    have g3 : γ ≠ nx + 3 := fun e => nc.1 (e ▸ hγ)
    have gd : γ ≠ δe := fun e => hnδ (e ▸ hγ)
    rw [aF, if_neg g3]
    exact KF γ this g3 gd
   ·simp only [if_true]
    refine ⟨[(nx, .cells (some 130) [.yl β]), (nx + 2, .deferred (some [])), (nx + 3, LO)], some ((whL b hr p).map (plV b)), Own.cons (show nx < bk + 11 by omega) na.1 ?_ (Own.cons (show nx + 2 < bk + 11 by omega) nb'.1 ?_ (Own.cons (show nx + 3 < bk + 11 by omega) nc.1 ?_ Own.nil)), ?_, ?_⟩
    ·rw [aF, if_neg (by omega)]; exact Ka
    ·rw [aF, if_neg (by omega)]; exact Kb
    ·rw [aF, if_pos rfl]
    ·rw [hJ]
     exact ⟨p, rfl, hpL', rfl, rfl⟩
    ·simp only [hfr]
     refine hst _ _ _ _ _ _ _ hi ?_ (by omega) (fun γ h => .inl (h.imp .inl id))
     intro γ hlt hn
     have g3 : γ ≠ nx + 3 := fun e => hn (.inr (.inr (.inr e)))
     have gd : γ ≠ δe := fun e => hn (.inl (.inr e))
     rw [aF, if_neg g3]
     exact KF γ hlt g3 gd
  | true =>
   have hwh : whL b hr (e :: p) = e :: whL b hr p := by simp only [whL, List.filter_cons, ht]; rfl
   rw [hwh] at hi
   simp only [List.map_cons] at hi
   simp only [vz, mq, mqm, vsi, tyf, mqt, seval, ua, nm, rg, RStart, e3, e4, e9, ht, K1, Ka, Kc, hne, nb, qd, wt, wu, wv, wx]
   have za : I (some (VV.agg (planC b e) :: (whL b hr p).map (plV b))) (fun γ => (Fr γ ∨ γ = nx ∨ γ = nx + 2 ∨ γ = nx + 3) ∨ γ = δe) HH (bk + 11) := by
    refine hst _ _ _ _ _ _ _ hi ?_ (by omega) ?_
    ·intro γ hlt hn
     exact KF γ hlt (fun e => hn (.inr (.inr (.inr e)))) (fun e => hn (.inl (.inr e)))
    ·rintro γ ((h | h) | h)
     ·exact .inl (.inl (.inl h))
     ·exact .inl (.inr h)
     ·exact .inl (.inl (.inr h))
   refine (hrr (planC b e) ((whL b hr p).map (plV b)) (fun γ => Fr γ ∨ γ = nx ∨ γ = nx + 2 ∨ γ = nx + 3) _ _ δe _ ?_ (by omega) ?_ Kd za) (some (some (nx + 3))) _ _ _ rfl rfl ?_
   ·rintro γ (hγ | rfl | rfl | rfl)
    ·have := hFr γ hγ; omega
    ·omega
    ·omega
    ·omega
   ·rintro (h | h | h | h)
    ·exact hnδ h
    ·exact na.2 h.symm
    ·exact nb'.2 h.symm
    ·exact nc.2 h.symm
   rintro bb H2 db ⟨q1, q2, q3⟩
   have Kj : H2 nx = some (.cells (some 130) [.yl β]) := by rw [q2 nx (.inr (.inl rfl))]; exact Ka
   have Kk : H2 (nx + 2) = some (.deferred (some [])) := by rw [q2 _ (.inr (.inr (.inl rfl)))]; exact Kb
   have Kl : H2 (nx + 3) = some LB := by rw [q2 _ (.inr (.inr (.inr rfl)))]; exact Kc
   have Km : ∀ γ, Fr γ → H2 γ = H1 γ := by
    intro γ hγ
    have g3 : γ ≠ nx + 3 := fun e => nc.1 (e ▸ hγ)
    have gd : γ ≠ δe := fun e => hnδ (e ▸ hγ)
    rw [q2 γ (.inl hγ)]
    exact KF γ (hFr γ hγ) g3 gd
   cases bb with
   | true =>
    simp only [vz, mq, mqm, vsi, tyf, mqt, seval, ua, nm, rg, Bool.not_true]
    refine ⟨Kl, (show bk ≤ db by omega), fun γ hγ => ?_, ?_⟩
    ·have g3 : γ ≠ nx + 3 := fun e => nc.1 (e ▸ hγ)
     simp only [updH]
     rw [if_neg g3]
     exact Km γ hγ
    ·simp only [if_true] at q3 ⊢
     refine ⟨[(nx, .cells (some 130) [.yl β]), (nx + 2, .deferred (some [])), (nx + 3, LO)], some ((whL b hr p).map (plV b)), Own.cons (show nx < db by omega) na.1 ?_ (Own.cons (show nx + 2 < db by omega) nb'.1 ?_ (Own.cons (show nx + 3 < db by omega) nc.1 ?_ Own.nil)), ?_, ?_⟩
     ·rw [aF, if_neg (by omega)]; exact Kj
     ·rw [aF, if_neg (by omega)]; exact Kk
     ·rw [aF, if_pos rfl]
     ·rw [hJ]
      exact ⟨p, rfl, hpL', rfl, rfl⟩
     ·simp only [hfr]
      refine hst _ _ _ _ _ _ _ q3 ?_ (by omega) (fun γ h => .inl h)
      intro γ _ hn
      have g3 : γ ≠ nx + 3 := fun e => hn (.inr (.inr (.inr e)))
      simp only [updH]
      rw [if_neg g3]
   | false =>
    simp only [vz, mq, mqm, vsi, tyf, mqt, seval, ua, nm, rg, Bool.not_false]
    refine ⟨Kl, (show bk ≤ db by omega), fun γ hγ => ?_, ?_⟩
    ·have g3 : γ ≠ nx + 3 := fun e => nc.1 (e ▸ hγ)
     simp only [updH]
     rw [if_neg g3]
     exact Km γ hγ
    ·simp only [Bool.false_eq_true, if_false] at q3 ⊢
     have nY : ∀ γ, (∃ q ∈ [(nx, .cells (some 130) [.yl β]), (nx + 2, .deferred (some [])), (nx + 3, LD .ret)], (q : Nat × VObj).1 = γ) ↔ γ = nx ∨ γ = nx + 2 ∨ γ = nx + 3 := by
      intro γ
      simp [eq_comm]
     refine ⟨[(nx, .cells (some 130) [.yl β]), (nx + 2, .deferred (some [])), (nx + 3, LD .ret)], none, Own.cons (show nx < db by omega) na.1 ?_ (Own.cons (show nx + 2 < db by omega) nb'.1 ?_ (Own.cons (show nx + 3 < db by omega) nc.1 ?_ Own.nil)), ?_, ?_⟩
     ·rw [aF, if_neg (by omega)]; exact Kj
     ·rw [aF, if_neg (by omega)]; exact Kk
     ·rw [aF, if_pos rfl]
     ·rw [hJ]
      exact ⟨LD, ⟨_, _, _, _, _, hLD⟩, rfl, rfl⟩
     ·simp only [nY]
      refine hst _ _ _ _ _ _ _ q3 ?_ (by omega) (fun γ h => .inl h)
      intro γ _ hn
      have g3 : γ ≠ nx + 3 := fun e => hn (.inr (.inr (.inr e)))
      simp only [updH]
      rw [if_neg g3]
 ·have hfr : ∀ γ, (∃ q ∈ [(nx, .cells (some 130) [.yl β]), (nx + 2, .deferred (some [])), (nx + 3, LO)], (q : Nat × VObj).1 = γ) ↔ γ = nx ∨ γ = nx + 2 ∨ γ = nx + 3 := by
   intro γ
   simp [eq_comm]
  refine ⟨[(nx, .cells (some 130) [.yl β]), (nx + 2, .deferred (some [])), (nx + 3, LO)], some ((whL b hr L).map (plV b)), Own.cons (show nx < nx + 4 by omega) (fun h => h) ?_ (Own.cons (show nx + 2 < nx + 4 by omega) (fun h => h) ?_ (Own.cons (show nx + 3 < nx + 4 by omega) (fun h => h) ?_ Own.nil)), ?_, ?_⟩
  ·simp only [updH]
   rw [if_neg (by omega), if_neg (by omega), if_pos (by omega)]
  ·simp only [updH]
   simp
  ·simp only [updH]
   simp
  ·rw [hJ]
   exact ⟨L, rfl, fun q h => h, rfl, rfl⟩
  ·simp only [hfr]
   refine hst _ _ _ _ _ _ _ hI ?_ (by omega) ?_
   ·intro γ hγ _
    simp only [updH]
    repeat rw [if_neg (by omega)]
   ·rintro γ (h | rfl | rfl | rfl)
    ·exact h.elim
    ·right; omega
    ·right; omega
    ·right; omega
 ·rintro H' nx' (⟨hp, o', hown, hj, hi⟩ | ⟨hp, o', hown, hj, hi⟩)
  ·rw [hJ] at hj
   obtain ⟨p, hl, hpL, rfl, rfl⟩ := hj
   cases p with
   | cons e p => cases hl
   | nil =>
   obtain ⟨la, na, Ha⟩ := hown.head
   obtain ⟨lb, nb, Hb⟩ := hown.tail.head
   obtain ⟨lc, nc, Hc⟩ := hown.tail.tail.head
   have hfr : ∀ γ, (∃ q ∈ [(nx, .cells (some 130) [.yl β]), (nx + 2, .deferred (some [])), (nx + 3, LO)], (q : Nat × VObj).1 = γ) ↔ γ = nx ∨ γ = nx + 2 ∨ γ = nx + 3 := by
    intro γ
    simp [eq_comm]
   simp only [hfr] at hi
   refine vZ hLO Hc ?_
   intro LX
   simp only [vz, mq, mqm, vsi, tyf, mqt, seval, ua, nm, rg]
   refine Kn (by simp only [aF, nm, seval, Hb]) ?_
   refine zb (x := .tup []) (by simp [Tryz.results141, resV, resL]) (.inl ?_)
   refine hst _ _ _ _ _ _ _ hi ?_ (Nat.le_refl _) (fun γ h => h.elim)
   intro γ _ hn
   have g2 : γ ≠ nx + 2 := fun e => hn (.inr (.inr (.inl e)))
   have g3 : γ ≠ nx + 3 := fun e => hn (.inr (.inr (.inr e)))
   simp only [updH]
   repeat rw [if_neg (by first | assumption | omega)]
  ·rw [hJ] at hj
   obtain ⟨LD, ⟨tml, ps, az, bo, d, hLD⟩, rfl, rfl⟩ := hj
   obtain ⟨la, na, Ha⟩ := hown.head
   obtain ⟨lb, nb, Hb⟩ := hown.tail.head
   obtain ⟨lc, nc, Hc⟩ := hown.tail.tail.head
   have hfr : ∀ γ, (∃ q ∈ [(nx, .cells (some 130) [.yl β]), (nx + 2, .deferred (some [])), (nx + 3, LD .ret)], (q : Nat × VObj).1 = γ) ↔ γ = nx ∨ γ = nx + 2 ∨ γ = nx + 3 := by
    intro γ
    simp [eq_comm]
   simp only [hfr] at hi
   refine Ko hLD Hc ?_
   intro LX
   simp only [vz, mq, mqm, vsi, tyf, mqt, seval, ua, nm, rg]
   refine wa (by simp only [aF, nm, seval, Hb]) ?_
   refine c9 (x := .tup []) (by simp [Tryz.results141, resV, resL]) (.inr ?_)
   refine hst _ _ _ _ _ _ _ hi ?_ (Nat.le_refl _) (fun γ h => h.elim)
   intro γ _ hn
   have g2 : γ ≠ nx + 2 := fun e => hn (.inr (.inr (.inl e)))
   have g3 : γ ≠ nx + 3 := fun e => hn (.inr (.inr (.inr e)))
   simp only [updH]
   repeat rw [if_neg (by first | assumption | omega)]
theorem Of {b : GBk} {L : List (List Int)} {P : List Int} (hBH : BH b) (hL : plansO b = some L) (hR : bestP (TK b) L none = some P) : aj Tryz.prog G0 88 [.agg (cGBk b)] (.tree (itW b (TK b P))) := by
 refine aj.run mixed Tryz.call88 Tryz.func88 rfl (by simp [Tryz.ntmps88]; kernel_rfl) ?_
 simp only [vz, mq, mqm, vsi, tyf, mqt, nm, rg, seval]
 refine ktree (args0 := [.agg (cGBk b)]) (by first | (simp only [nrm, aW, @eu] <;> rfl) | rfl) (by simp only [tre, tytre, mqr, Bool.and_self]) (yC _) ?_
 refine bY (fun tm => tm 1 = .ptr 0 0 ∧ tm 5 = itB b) (by refine ⟨?_, ?_⟩ <;> first | (simp only [ua, cg, nm, seval] <;> rfl) | rfl) ?_
 rintro tm ⟨e1, e5⟩
 simp only [vz, mq, mqm, vsi, tyf, mqt, e1, e5, nm, rg, seval]
 refine kopen ?_
 rw [lv]
 refine aq.mono (aq.atR (JN (yD hL) (takesOk hBH hL) hR _ _)) ?_ (fun _ _ _ h => h.elim)
 rintro v H2 n2 ⟨g1, g2, δ, l, rfl, g3, g4, g5, g6⟩
 simp only [j4, vz, mq, mqm, vsi, tyf, mqt, e1, e5, nm, rg, seval]
 have hPL : P ∈ L := (sy hR).resolve_right (by simp)
 obtain ⟨l', et, it⟩ := takesOk hBH hL P hPL l g6
 have H0 : H2 0 = some (.cells (some 25) (cGBk b)) := by rw [g2 0 (by omega)]; rfl
 refine kupd (VUpd.at (β := δ) (y := (fun _ => .lit (.int .i64 (TK b P)))) (so _ _ _ _ et) (by omega) (by first | rfl | assumption | (simp only [aF, ba, g5, nm, seval] <;> rfl)) (by first | rfl | (simp only [nrm, aW, @eu, @gZ] <;> rfl)) (gH (fun _ => rfl) _)) ?_
 refine h9 (fun tm => tm 1 = .ptr 0 0 ∧ tm 7 = .lit (.int .i64 (TK b P))) (by refine ⟨?_, ?_⟩ <;> first | (simp only [ua, cg, e1, nm, seval] <;> rfl) | rfl) ?_
 clear e1 e5 tm
 rintro tm ⟨e1, e7⟩
 have q0 : (δ = 0) = False := by simp; omega
 have q1 : (0 = δ) = False := by simp; omega
 have q2 : (δ = 7) = False := by simp; omega
 have q3 : (7 = δ) = False := by simp; omega
 simp only [vz, mq, mqm, vsi, tyf, mqt, e1, e7, H0, q0, q1, q2, q3, nm, rg, seval]
 refine ktree (args0 := [.agg (cGBk b)]) (by first | (simp only [nrm, aW, @eu] <;> rfl) | rfl) (by simp only [tre, tytre, mqr, Bool.and_self]) (aj.at (yC b)) ?_
 generalize Og : updH (updH (updH H2 δ (VObj.map (encM aP bR l'))) 6 (VObj.cells (some 3) [VV.lit (Value.int IntKind.i64 0)])) 6 (VObj.cells (some 3) [VV.lit (Value.int IntKind.i64 (TK b P))]) = H3
 have K6 : H3 6 = some (.cells (some 3) [.lit (.int .i64 (TK b P))]) := by rw [← Og]; simp [updH]
 refine bY (fun tm => tm 3 = .ptr 6 0 ∧ tm 9 = itB b) (by refine ⟨?_, ?_⟩ <;> first | (simp only [ua, cg, e1, e7, nm, seval] <;> rfl) | rfl) ?_
 clear e1 e7 tm
 rintro tm ⟨e3, e9⟩
 simp only [vz, mq, mqm, vsi, tyf, mqt, e3, e9, nm, rg, seval]
 refine kopen ?_
 rw [lv]
 refine aq.mono (aq.freezeN [6] (fun γ hγ => ?_) (args' := [itB b, .fn (.func 120) [] [.tp [.lit (.int .i64 (TK b P))]]]) ⟨.same, Frozen.closure [(6, [.lit (.int .i64 (TK b P))])] 5 (by simp) (fun p hp => ?_), trivial⟩ (aq.of_pure (aj.at (yY b (TK b P))) ?_)) ?_ (fun _ _ _ h => h.elim)
 ·rw [List.mem_singleton.1 hγ]
  exact ⟨_, _, K6⟩
 ·rw [List.mem_singleton.1 hp]
  exact ⟨⟨_, K6⟩, by simp [lessN], by simp [treeL, VV.tree], by simp⟩
 ·have h := sC (b := b)
  simp [VV.tree, treeL, h]
 rintro v H4 n4 ⟨rfl, rfl, rfl⟩
 simp only [vz, mq, mqm, vsi, tyf, mqt, nm, rg, seval]
 refine ⟨rfl, itW b (TK b P), by simp [Tryz.results88, resV, resL, resV1, upd], 2, ?_⟩
 have h := sC (b := b)
 simp [itW, sealV, VV.tree, treeL, h]
def nC (b : GBk) : Option (Int × Int) := Option.bind (mu b) fun r => cond r (cond (benchB b) (Option.bind (plansO b) fun L => Option.bind (bestP (TK b) L none) fun R => cond (decide ((whL b (TK b R) L).length < 1000000)) (some ((whL b (TK b R) L).length, 0)) none) none) (some (0, 2))
theorem Nm (an : GBk) (R : Int × Int) (h : nC an = some R) : aj Tryz.prog G0 52 [.agg (cGBk an)] (.tree (.tup [.lit (.int .i64 R.1), .lit (.int .i64 R.2)])) := by
 refine aj.runR mixed Tryz.call52 Tryz.func52 rfl (by simp [Tryz.ntmps52]; kernel_rfl) ?_
 unfold nC at h
 rcases o1 : mu an with _ | r1
 ·rw [o1] at h; cases h
 rw [o1, Option.bind_some] at h
 simp only [vz, mq, mqm, vsi, tyf, mqt, nm, seval]
 refine ktree (args0 := [.agg (cGBk an)]) (by first | (simp only [nrm, aW, @eu] <;> rfl) | rfl) (by simp only [tre, tytre, mqr, Bool.and_self]) (JO _ _ o1) ?_
 refine bY (fun tm => tm 1 = .ptr 0 0 ∧ tm 6 = .lit (.bool r1)) (by refine ⟨?_, ?_⟩ <;> first | (simp only [ua, cg, nm, seval] <;> rfl) | rfl) ?_
 rintro tm ⟨e1, e6⟩
 cases r1 with
 | false =>
  simp only [cond_false, Option.some.injEq] at h
  subst h
  simp only [vz, mq, mqm, vsi, tyf, mqt, e1, e6, nm, seval]
  refine c9 (x := .tup [.lit (.int .i64 0), .lit (.int .i64 2)]) (by first | (simp only [Tryz.results52, resV, resL, resV1, cI, cJ, uw, cr, tyf, mqt, nm, seval] <;> rfl) | rfl) ?_
  refine gY ?_ ?_
  ·simp only [tre, tytre, mqr, Bool.and_self]
  ·first | (simp only [outV, uw, gF, cr, tyf, mqt, nrm, aW, nm, seval] <;> rfl) | rfl
 | true =>
 rw [cond_true] at h
 cases hB : benchB an with
 | false => rw [hB] at h; cases h
 | true =>
 rw [hB, cond_true] at h
 rcases hL : plansO an with _ | L
 ·rw [hL] at h; cases h
 rw [hL, Option.bind_some] at h
 rcases hR : bestP (TK an) L none with _ | P
 ·rw [hR] at h; cases h
 rw [hR, Option.bind_some] at h
 cases hlim : decide ((whL an (TK an P) L).length < 1000000) with
 | false => rw [hlim] at h; cases h
 | true =>
 rw [hlim, cond_true, Option.some.injEq] at h
 subst h
 have hlim := of_decide_eq_true hlim
 have hBH := (vQ.1 hB).h
 simp only [vz, mq, mqm, vsi, tyf, mqt, e1, e6, nm, seval]
 refine ktree (args0 := [.agg (cGBk an)]) (by first | (simp only [nrm, aW, @eu] <;> rfl) | rfl) (by simp only [tre, tytre, mqr, Bool.and_self]) (aj.at (Of hBH hL hR)) ?_
 obtain ⟨W, hW⟩ : ∃ W, W = whL an (TK an P) L := ⟨_, rfl⟩
 have hit := Oe (hr := TK an P) hBH hL
 rw [← hW] at hit hlim
 refine bY (fun tm => tm 4 = .ptr 6 0 ∧ tm 9 = itW an (TK an P)) (by refine ⟨?_, ?_⟩ <;> first | (simp only [ua, cg, e1, nm, seval] <;> rfl) | rfl) ?_
 clear e1 e6 tm
 rintro tm ⟨e4, e9⟩
 simp only [vz, mq, mqm, vsi, tyf, mqt, e4, e9, nm, rg, seval]
 refine N6 hit (by first | (simp only [jA, jB, e9, jj, seval] <;> rfl) | rfl) ?_
 intro LO hLO
 obtain ⟨J, hJ⟩ : ∃ J : Option (List VV) → List (Nat × VObj) → Prop, J = (fun o hp => match o with
  | some l => ∃ (p : List (List Int)) (c : Int), l = p.map (plV an) ∧ 0 ≤ c ∧ c + p.length = W.length ∧ hp = [(10, .deferred (some [])), (11, LO), (6, .cells (some 3) [.lit (.int .i64 c)])]
  | none => False) := ⟨_, rfl⟩
 refine ⟨ownI J, JM, ?_, ?_, ?_⟩
 ·rintro v rest Fr H n δe es hFr hδe hnδ hHδ ⟨hp, hown, hj⟩
  rw [hJ] at hj
  obtain ⟨p, c, hl, Oh, hc, rfl⟩ := hj
  cases p with
  | nil => cases hl
  | cons e p =>
  simp only [List.map_cons, List.cons.injEq, plV, VV.agg.injEq] at hl
  obtain ⟨rfl, rfl⟩ := hl
  simp only [List.length_cons] at hc
  obtain ⟨Oi, dj, fy⟩ := hown.head
  obtain ⟨Oj, jJ, d6⟩ := hown.tail.head
  obtain ⟨l6, n6, H6⟩ := hown.tail.tail.head
  simp only [not_or] at dj jJ n6
  have hw : i64.wrap (c + 1) = c + 1 := by rw [IntWalk.i64_in _ (by omega)]
  refine ss mixed (psl := [10]) hLO d6 su rfl (by kernel_rfl) (by kernel_rfl) ?_
  intro LB LD hLB hLD
  refine sv (fun tm => tm 4 = .ptr 6 0) (by first | (simp only [sw, sx, Tryz.ntmps52, e4, seval]; done) | rfl) ?_
  clear e4 e9
  rintro tm e4
  simp only [vz, mq, mqm, vsi, tyf, mqt, seval, ua, nm, rg, RStart, e4, d6, H6, hw]
  refine ⟨by simp only [aF, nm, seval], (show n ≤ n + 3 by omega), fun γ hγ => ?_, ?_⟩
  ·have SB : γ ≠ 11 := fun e => jJ.1 (e ▸ hγ)
   have g6 : γ ≠ 6 := fun e => n6.1 (e ▸ hγ)
   simp only [updH]
   repeat rw [if_neg (by assumption)]
  ·simp only [if_true]
   refine ⟨[(10, .deferred (some [])), (11, LO), (6, .cells (some 3) [.lit (.int .i64 (c + 1))])], Own.cons (show 10 < n + 3 by omega) dj.1 ?_ (Own.cons (show 11 < n + 3 by omega) jJ.1 ?_ (Own.cons (show 6 < n + 3 by omega) n6.1 ?_ Own.nil)), ?_⟩
   rotate_right
   ·rw [hJ]
    exact ⟨p, c + 1, rfl, by omega, by omega, rfl⟩
   ·simp only [aF, nm, seval, fy]
   ·simp only [aF, nm, seval]
   ·simp only [aF, nm, seval]
 ·refine ⟨[(10, .deferred (some [])), (11, LO), (6, .cells (some 3) [.lit (.int .i64 0)])], Own.cons (by omega) (fun h => h) ?_ (Own.cons (by omega) (fun h => h) ?_ (Own.cons (by omega) (fun h => h) ?_ Own.nil)), ?_⟩
  rotate_right
  ·rw [hJ]
   exact ⟨W, 0, rfl, Int.le_refl _, by omega, rfl⟩
  ·simp [updH]
  ·simp [updH]
  ·simp [updH]
 ·rintro H n (⟨hp, hown, hj⟩ | ⟨hp, hown, hj⟩)
  ·rw [hJ] at hj
   obtain ⟨p, c, hl, Oh, hc, rfl⟩ := hj
   cases p with
   | cons e p => cases hl
   | nil =>
   simp only [List.length_nil] at hc
   obtain ⟨Oi, dj, fy⟩ := hown.head
   obtain ⟨Oj, jJ, d6⟩ := hown.tail.head
   obtain ⟨l6, n6, H6⟩ := hown.tail.tail.head
   have hcW : c = (W.length : Int) := by omega
   subst hcW
   refine vZ hLO d6 ?_
   intro LX
   simp only [vz, mq, mqm, vsi, tyf, mqt, seval, ua, nm, rg, e4, e9, H6]
   refine wa (by simp only [aF, nm, seval, fy]) ?_
   rw [hW]
   refine c9 (x := .tup [.lit (.int .i64 (whL an (TK an P) L).length), .lit (.int .i64 0)]) (by first | (simp only [Tryz.results52, resV, resL, resV1, cI, cJ, uw, cr, tyf, mqt, nm, seval] <;> rfl) | rfl) ?_
   refine gY ?_ ?_
   ·simp only [tre, tytre, mqr, Bool.and_self]
   ·first | (simp only [outV, uw, gF, cr, tyf, mqt, nrm, aW, nm, seval] <;> rfl) | rfl
  ·rw [hJ] at hj
   exact hj.elim
def rangeFR (f : FuncId) (cf : aw) (jump : Code → RS → ER) (n : Nat) (s : RS) (f0 : FuncId) (first captured : List VV) (ps : Array Tmp) (asg bo : Code) : ER :=
 match cf f0 (first ++ [.yl (s.nx + 1)] ++ captured) ((s.H.put s.nx (some (.deferred (some [])))).put (s.nx + 1) (some (.loopF .ready none (tmL n s.st.tm) ps asg bo f))) (s.nx + 2) with
 | .ret _ H' nx' => match H'.get (s.nx + 1) with
  | some (.loopF .busy _ _ _ _ _ _) => .no (.text 1)
  | some (.loopF _ pe tm ps asg bo fn) => match pe with
   | none => .mk .normal { s with H := H'.put (s.nx + 1) (some (.loopF .exhausted pe tm ps asg bo fn)), nx := nx', df := .coll s.nx :: s.df }
   | some c => jump c { s with H := H'.put (s.nx + 1) (some (.loopF .exhausted pe tm ps asg bo fn)), nx := nx', df := .coll s.nx :: s.df }
  | _ => .no (.text 2)
 | .pan x H' nx' => .mk (.panic x) { s with H := H', nx := nx', df := .coll s.nx :: s.df }
 | .no w => .no w
def GoOk (P : Program) (G : Glob) (f n : Nat) (go : Code → RS → ER) : Prop := ∀ code s e s', go code s = .mk e s' → ∀ Q : VExit → St → Prop, Q e s'.st → VGo P G f n code Q s.st
theorem Ok {P : Program} {G : Glob} {cf : aw} (hcf : CallOk P G cf) {f : FuncId} {jump : Code → RS → ER} {n : Nat} (hj : GoOk P G f n jump) {s s' : RS} {e : VExit} {g : Operand} {f0 : FuncId} {first captured : List VV} {ps : Array Tmp} {asg bo : Code}
  (hg : s.st.ρ G g = .fn (.func f0) first captured) (h : rangeFR f cf jump n s f0 first captured ps asg bo = .mk e s') {Q : VExit → St → Prop} (hq : Q e s'.st) : VGo P G f n (.rangeFunc g ps asg bo) Q s.st := by
 refine VGo.range hg ?_
 unfold rangeFR at h
 have eH : ((s.H.put s.nx (some (.deferred (some [])))).put (s.nx + 1) (some (.loopF .ready none (tmL n s.st.tm) ps asg bo f))).get = updH (updH s.st.H s.st.nx (.deferred (some []))) (s.st.nx + 1) (.loopF .ready none (tmL n s.st.tm) ps asg bo f) := by
  rw [jx, jx]; rfl
 split at h
 ·rename_i x H' nx' hc
  have hv := hcf.1 _ _ _ _ _ _ _ hc
  rw [eH] at hv
  refine aq.mono hv ?_ ?_
  ·rintro y H1 n1 ⟨_, rfl, rfl⟩
   split at h
   ·cases h
   ·rename_i st pe ic ig ij ik iO hnb hl
    have e2 : ({ s with H := H'.put (s.nx + 1) (some (.loopF .exhausted pe ic ig ij ik iO)), nx := n1, df := .coll s.nx :: s.df } : RS).st = { s.st with H := updH H'.get (s.st.nx + 1) (.loopF .exhausted pe ic ig ij ik iO), nx := n1, df := .coll s.st.nx :: s.st.df } := by
     simp only [RS.st, jx]
    refine ⟨st, pe, ic, ig, ij, ik, iO, hl, hnb, ?_⟩
    split at h
    ·cases h
     show Q .normal _
     rw [← e2]; exact hq
    ·rename_i c
     show VGo P _ f n c Q _
     rw [← e2]
     exact hj c _ e s' h Q hq
   ·cases h
  ·intro y H1 n1 h; exact h.elim
 ·rename_i x H' nx' hc
  have hv := hcf.2 _ _ _ _ _ _ _ hc
  rw [eH] at hv
  cases h
  refine aq.mono hv ?_ ?_
  ·intro y H1 n1 h; exact h.elim
  ·rintro y H1 n1 ⟨rfl, rfl, rfl⟩
   exact hq
 ·cases h
noncomputable def rangeFF (f : FuncId) (cf : aw) (jump : Code → RS → ER) (n : Nat) (s : RS) (ps : Array Tmp) (asg bo : Code) (code : Code) (x : VV) : ER := match x with
 | .fn (.func f0) first captured => rangeFR f cf jump n s f0 first captured ps asg bo
 | _ => .no (.code code)
noncomputable def goF (G : Glob) (f : FuncId) (run : RunR) (cf : aw) (n : Nat) (k : Nat) : Code → RS → ER :=
 Nat.rec (motive := fun _ => Code → RS → ER) (fun code s => run none n code s) (fun _ ih code s => match code with
  | .seq a b => thenQ (ih a s) (fun s' => ih b s')
  | .block id a => blockQ (ih a s) id
  | .rangeFunc g ps asg bo => rangeFF f cf (fun c s => run none n c s) n s ps asg bo code (ρQ G s.tm g)
  | code => run none n code s) k
theorem sD {P : Program} {G : Glob} {f n : Nat} {run : RunR} {cf : aw} (hrun : RunOk P G run) (hcf : CallOk P G cf) : ∀ (k : Nat), GoOk P G f n (goF G f run cf n k)
 | 0, code, s, e, s', h, Q, hq => VGo.of (hrun none n code s e s' h Q hq)
 | k + 1, code, s, e, s', h, Q, hq => by
  have ih := sD (f := f) (n := n) hrun hcf k
  have dflt : run none n code s = .mk e s' → VGo P G f n code Q s.st := fun h => VGo.of (hrun none n code s e s' h Q hq)
  cases code with
  | seq a b =>
   have h' : thenQ (goF G f run cf n k a s) (fun s' => goF G f run cf n k b s') = .mk e s' := h
   cases hs : goF G f run cf n k a s with
   | no w => rw [hs] at h'; cases h'
   | mk e1 s1 =>
    rw [hs] at h'
    cases e1 with
    | normal => exact VGo.seq (ih a s .normal s1 hs _ (ih b s1 e s' h' Q hq))
    | exit id => cases h'; exact VGo.seq (ih a s _ _ hs _ hq)
    | goto l => cases h'; exact VGo.seq (ih a s _ _ hs _ hq)
    | ret => cases h'; exact VGo.seq (ih a s _ _ hs _ hq)
    | panic x => cases h'; exact VGo.seq (ih a s _ _ hs _ hq)
  | block id a =>
   have h' : blockQ (goF G f run cf n k a s) id = .mk e s' := h
   cases hs : goF G f run cf n k a s with
   | no w => rw [hs] at h'; cases h'
   | mk e1 s1 =>
    rw [hs] at h'
    refine VGo.block (ih a s e1 s1 hs _ ?_)
    cases e1 with
    | normal => cases h'; exact hq
    | goto l => cases h'; exact hq
    | ret => cases h'; exact hq
    | panic x => cases h'; exact hq
    | exit id' =>
     have h'' : Bool.rec (motive := fun _ => ER) (.mk (.exit id') s1) (.mk .normal s1) (Nat.beq id' id) = .mk e s' := h'
     show (if id' = id then _ else _)
     by_cases hid : id' = id
     ·have hb : Nat.beq id' id = true := by simpa using hid
      rw [hb] at h''
      cases h''
      rw [if_pos hid]; exact hq
     ·have hb : Nat.beq id' id = false := by cases hq : Nat.beq id' id with | false => rfl | true => exact absurd (by simpa using hq) hid
      rw [hb] at h''
      cases h''
      rw [if_neg hid]; exact hq
  | rangeFunc g ps asg bo =>
   have h' : rangeFF f cf (fun c s => run none n c s) n s ps asg bo (.rangeFunc g ps asg bo) (ρQ G s.tm g) = .mk e s' := h
   rw [ρQ_eq] at h'
   unfold rangeFF at h'
   split at h'
   ·rename_i f0 first captured hg
    exact Ok hcf (fun c s e s' hs Q hq => VGo.of (hrun none n c s e s' hs Q hq)) hg h' hq
   ·cases h'
  | _ => exact dflt h
noncomputable def enterF (P : Program) (G : Glob) (run : RunR) (cf : aw) (k : Nat) (f : FuncId) (fn : Func) (code : Code) (args : List VV) (H : Trie VObj) (nx : Nat) : CR :=
 match goF G f run cf fn.ntmps k code (RS.mk (listV args 0 .nil) H nx []) with
 | .mk .ret s => leaveR P G run fn f s s.df .ret s.H s.nx
 | .mk .normal s => leaveR P G run fn f s s.df .ret s.H s.nx
 | .mk (.panic x) s => leaveR P G run fn f s s.df (.pan x false) s.H s.nx
 | .mk _ _ => .no (.fn f)
 | .no w => .no w
noncomputable def jK (P : Program) (G : Glob) (run : RunR) (cf : aw) (k : Nat) : aw := fun f args H nx => match textQ P f with
 | some (fn, code) => Bool.rec (motive := fun _ => CR) (.no (.fn f)) (enterF P G run cf k f fn code args H nx) (Nat.ble args.length fn.ntmps)
 | none => .no (.fn f)
theorem zc {P : Program} {f : FuncId} {fn : Func} {code : Code} (h : textQ P f = some (fn, code)) : P.funcs[f]? = some fn ∧ fn.body = some code ∧ nameQ fn = true := by
 unfold textQ at h
 split at h
 ·cases h
 ·rename_i m6 hf
  split at h
  ·cases h
  ·rename_i c1 hb
   split at h
   ·rename_i hn
    cases h
    exact ⟨hf, hb, hn⟩
   ·cases h
theorem Kp {P : Program} {G : Glob} {run : RunR} {cf : aw} {k : Nat} (hrun : RunOk P G run) (hcf : CallOk P G cf) {f : FuncId} {args : List VV} {H : Trie VObj} {nx : Nat} {R Rp : VV → (Nat → Option VObj) → Nat → Prop}
  (h1 : ∀ x H' nx', jK P (G.at (some none)) run cf k f args H nx = .ret x H' nx' → R x H'.get nx') (h2 : ∀ x H' nx', jK P (G.at (some none)) run cf k f args H nx = .pan x H' nx' → Rp x H'.get nx') (h3 : ∀ w, jK P (G.at (some none)) run cf k f args H nx ≠ .no w) : aq P G f args H.get nx R Rp := by
 unfold jK at h1 h2 h3
 cases ht : textQ P f with
 | none => exact absurd (by simp only [ht]) (h3 (.fn f))
 | some p =>
  obtain ⟨fn, code⟩ := p
  obtain ⟨hf, hb, hn⟩ := zc ht
  cases hc : Nat.ble args.length fn.ntmps with
  | false => exact absurd (by simp only [ht, hc]) (h3 (.fn f))
  | true =>
   simp only [ht, hc] at h1 h2 h3
   simp only [Nat.ble_eq] at hc
   unfold enterF at h1 h2 h3
   rw [zd] at h1 h2 h3
   cases hr : goF (G.at (some none)) f run cf fn.ntmps k code (RS.mk (Trie.ofList 0 args .nil) H nx []) with
   | no w => exact absurd (by rw [hr]) (h3 w)
   | mk e s =>
    rw [hr] at h1 h2 h3
    have body : OpenPostD P G fn R Rp e s.st → aq P G f args H.get nx R Rp := by
     intro hq
     have := sD (G := G.at (some none)) (f := f) (n := fn.ntmps) hrun hcf k code _ e s hr _ hq
     rw [argsR] at this
     exact aq.of_bodyGo (xR hf hb hn) hf hb hc this
    cases e with
    | ret => exact body (lW hrun s.df .ret s.H s.nx h1 h2 h3)
    | normal => exact body (lW hrun s.df .ret s.H s.nx h1 h2 h3)
    | panic x => exact body (lW hrun s.df (.pan x false) s.H s.nx h1 h2 h3)
    | exit id => exact absurd rfl (h3 (.fn f))
    | goto l => exact absurd rfl (h3 (.fn f))
noncomputable def cfF (P : Program) (G : Glob) (run : RunR) (fs : List Nat) (k : Nat) : aw := fun f args H nx => match fs.elem f with
 | true => jK P G run (cfQ P G run) k f args H nx
 | false => cfQ P G run f args H nx
theorem sE {P : Program} {G : Glob} {run : RunR} {fs : List Nat} {k : Nat} (hrun : RunOk P G run) : CallOk P G (cfF P (G.at (some none)) run fs k) := by
 have hcf : CallOk P G (cfQ P (G.at (some none)) run) := by rw [ze]; exact Ni hrun
 constructor
 ·intro f args H nx x H' nx' h
  unfold cfF at h
  split at h
  ·exact Kp hrun hcf (fun y H1 n1 e => by rw [h] at e; cases e; exact ⟨rfl, rfl, rfl⟩) (fun y H1 n1 e => by rw [h] at e; cases e) (fun w e => by rw [h] at e; cases e)
  ·exact hcf.1 _ _ _ _ _ _ _ h
 ·intro f args H nx x H' nx' h
  unfold cfF at h
  split at h
  ·exact Kp hrun hcf (fun y H1 n1 e => by rw [h] at e; cases e) (fun y H1 n1 e => by rw [h] at e; cases e; exact ⟨rfl, rfl, rfl⟩) (fun w e => by rw [h] at e; cases e)
  ·exact hcf.2 _ _ _ _ _ _ _ h
noncomputable def runF (P : Program) (G : Glob) (fs : List Nat) (tab : KTab) (k : Nat) : RunR :=
 Nat.rec (motive := fun _ => RunR) (fun _ _ _ _ => .no .fuel) (fun k ih ro n code s => bodyA k ih (cfT tab (cfF P (G.at (some none)) ih fs k)) ro n s (ccB P G code)) k
theorem Kq {P : Program} {G : Glob} {fs : List Nat} {tab : KTab} (hm : P.follows .mixedOrders = true) (ht : KTabOk P G tab) : ∀ (k : Nat), RunOk P G (runF P G fs tab k)
 | 0, _, _, _, _, _, _, h => by cases h
 | k + 1, ro, n, code, s, e, s', h => by
  intro Q hq
  have ih := Kq (G := G) (fs := fs) hm ht k
  exact Ol hm ih (yL ht (sE ih)) h hq
noncomputable def closedF (P : Program) (G : Glob) (fs : List Nat) (tab : KTab) (k : Nat) (f : FuncId) (args : List VV) : PRes ⊕ Why := pureQ (cfF P (G.at (some none)) (runF P G fs tab k) fs k) f args
theorem aj.closedF {P : Program} {G : Glob} {fs : List Nat} {tab : KTab} (hm : P.follows .mixedOrders = true) (ht : KTabOk P G tab) (k : Nat) {f : FuncId} {args : List VV} {r : PRes} (h : closedF P G fs tab k f args = .inl r) : aj P G f args r := by
 unfold Go.V.closedF at h
 rw [zf] at h
 exact re (sE (Kq hm ht k)) h
theorem hmix : Tryz.prog.follows .mixedOrders = true := by kernel_rfl
def kB : VV := (VV.agg [(VV.lit (Value.int IntKind.i64 (Int.ofNat 1))), (VV.sl [(VV.lit (Value.int IntKind.i64 (Int.ofNat 5))), (VV.lit (Value.int IntKind.i64 (Int.ofNat 6)))] 2 Bool.false), (VV.sl [(VV.lit (Value.int IntKind.i64 (Int.ofNat 1))), (VV.lit (Value.bool Bool.true)), (VV.lit (Value.int IntKind.i64 (Int.ofNat 2))), (VV.lit (Value.int IntKind.i64 (Int.ofNat 2))), (VV.lit (Value.slice Option.none 0 0)), (VV.lit (Value.int IntKind.i64 (Int.ofNat 0))), (VV.lit (Value.bool Bool.false)), (VV.lit (Value.int IntKind.i64 (Int.ofNat 2))), (VV.lit (Value.int IntKind.i64 (Int.ofNat 3))), (VV.lit (Value.slice Option.none 0 0)), (VV.lit (Value.int IntKind.i64 (Int.ofNat 0))), (VV.lit (Value.bool Bool.true)), (VV.lit (Value.int IntKind.i64 (Int.ofNat 1))), (VV.lit (Value.int IntKind.i64 (Int.ofNat 2))), (VV.sl [(VV.lit (Value.int IntKind.i64 (Int.ofNat 1)))] 1 Bool.false), (VV.lit (Value.int IntKind.i64 (Int.ofNat 1))), (VV.lit (Value.bool Bool.false)), (VV.lit (Value.int IntKind.i64 (Int.ofNat 1))), (VV.lit (Value.int IntKind.i64 (Int.ofNat 3))), (VV.sl [(VV.lit (Value.int IntKind.i64 (Int.ofNat 0)))] 1 Bool.false)] 4 Bool.false)])
def kEnds : VV := (VV.tup [(VV.sl [(VV.lit (Value.int IntKind.i64 (Int.ofNat 2))), (VV.lit (Value.int IntKind.i64 (Int.ofNat 2))), (VV.lit (Value.int IntKind.i64 (Int.ofNat 2))), (VV.lit (Value.int IntKind.i64 (Int.ofNat 3))), (VV.lit (Value.int IntKind.i64 (Int.ofNat 3))), (VV.lit (Value.int IntKind.i64 (Int.ofNat 5))), (VV.lit (Value.int IntKind.i64 (Int.ofNat 3))), (VV.lit (Value.int IntKind.i64 (Int.ofNat 6)))] 4 Bool.false), (VV.lit (Value.int IntKind.i64 (Int.ofNat 0)))])
def kDone : VV := (VV.tup [(VV.agg [(VV.lit (Value.int IntKind.i64 (Int.ofNat 3))), (VV.lit (Value.int IntKind.i64 (Int.ofNat 5)))]), (VV.lit (Value.int IntKind.i64 (Int.ofNat 0)))])
def kLate : VV := (VV.tup [(VV.sl [(VV.lit (Value.int IntKind.i64 (Int.ofNat 1))), (VV.lit (Value.int IntKind.i64 (Int.ofNat 2)))] 2 Bool.false), (VV.lit (Value.int IntKind.i64 (Int.ofNat 0)))])
def kWaits : VV := (VV.tup [(VV.sl [(VV.lit (Value.int IntKind.i64 (Int.ofNat 0))), (VV.lit (Value.int IntKind.i64 (Int.ofNat 0))), (VV.lit (Value.int IntKind.i64 (Int.ofNat 1))), (VV.lit (Value.int IntKind.i64 (Int.ofNat 0)))] 4 Bool.false), (VV.lit (Value.int IntKind.i64 (Int.ofNat 0)))])
def kChain : VV := (VV.tup [(VV.sl [(VV.lit (Value.int IntKind.i64 (Int.ofNat 1))), (VV.lit (Value.int IntKind.i64 (Int.ofNat 3)))] 2 Bool.false), (VV.lit (Value.int IntKind.i64 (Int.ofNat 0)))])
def kSpare : VV := (VV.tup [(VV.lit (Value.int IntKind.i64 (Int.ofNat 1))), (VV.lit (Value.int IntKind.i64 (Int.ofNat 0)))])
def kBest : VV := (VV.tup [(VV.sl [(VV.lit (Value.int IntKind.i64 (Int.ofNat 0))), (VV.lit (Value.int IntKind.i64 (Int.ofNat 1))), (VV.lit (Value.int IntKind.i64 (Int.ofNat 0))), (VV.lit (Value.int IntKind.i64 (Int.ofNat 1)))] 4 Bool.false), (VV.lit (Value.int IntKind.i64 (Int.ofNat 6))), (VV.lit (Value.int IntKind.i64 (Int.ofNat 0)))])
def kCount : VV := (VV.tup [(VV.lit (Value.int IntKind.i64 (Int.ofNat 1))), (VV.lit (Value.int IntKind.i64 (Int.ofNat 0)))])
def kWho : VV := (VV.tup [(VV.sl [(VV.lit (Value.int IntKind.i64 (Int.ofNat 1)))] 1 Bool.false), (VV.lit (Value.int IntKind.i64 (Int.ofNat 0)))])
def kGive : VV := (VV.tup [(VV.lit (Value.int IntKind.i64 (Int.ofNat 1))), (VV.lit (Value.int IntKind.i64 (Int.ofNat 8))), (VV.lit (Value.int IntKind.i64 (Int.ofNat 0)))])
def kMore : VV := (VV.tup [(VV.lit (Value.int IntKind.i64 (Int.ofNat 5))), (VV.lit (Value.int IntKind.i64 (Int.ofNat 0)))])
def kLeast : VV := (VV.tup [(VV.lit (Value.int IntKind.i64 (Int.ofNat 2))), (VV.lit (Value.int IntKind.i64 (Int.ofNat 0)))])
def kRead : VV := (VV.tup [(VV.agg [(VV.lit (Value.int IntKind.i64 (Int.ofNat 0))), (VV.sl [(VV.lit (Value.int IntKind.i64 (Int.ofNat 0)))] 1 Bool.false), (VV.sl [(VV.lit (Value.int IntKind.i64 (Int.ofNat 0))), (VV.lit (Value.bool Bool.false)), (VV.lit (Value.int IntKind.i64 (Int.ofNat 1))), (VV.lit (Value.int IntKind.i64 (Int.ofNat 1))), (VV.lit (Value.slice Option.none 0 0))] 1 Bool.false)]), (VV.lit (Value.int IntKind.i64 (Int.ofNat 0)))])
theorem pB : aj Tryz.prog G0 64 [] (.tree kB) := aj.closedF (fs := []) (tab := []) hmix trivial 1000 (by kernel_rfl)
theorem pEnds : aj Tryz.prog G0 22 [kB, .sl [.lit (.int .i64 (0)), .lit (.int .i64 (1)), .lit (.int .i64 (0)), .lit (.int .i64 (1))] 4 false] (.tree kEnds) := aj.closedF (fs := []) (tab := []) hmix trivial 1000 (by kernel_rfl)
theorem pDone : aj Tryz.prog G0 23 [kB, .sl [.lit (.int .i64 (0)), .lit (.int .i64 (1)), .lit (.int .i64 (0)), .lit (.int .i64 (1))] 4 false, .lit (.int .i64 (0))] (.tree kDone) := aj.closedF (fs := []) (tab := []) hmix trivial 1000 (by kernel_rfl)
theorem pLate : aj Tryz.prog G0 36 [kB, .sl [.lit (.int .i64 (0)), .lit (.int .i64 (1)), .lit (.int .i64 (0)), .lit (.int .i64 (0))] 4 false] (.tree kLate) := aj.closedF (fs := []) (tab := []) hmix trivial 1000 (by kernel_rfl)
theorem pWaits : aj Tryz.prog G0 37 [kB, .sl [.lit (.int .i64 (0)), .lit (.int .i64 (1)), .lit (.int .i64 (0)), .lit (.int .i64 (1))] 4 false] (.tree kWaits) := aj.closedF (fs := []) (tab := []) hmix trivial 1000 (by kernel_rfl)
theorem pChain : aj Tryz.prog G0 42 [kB, .sl [.lit (.int .i64 (0)), .lit (.int .i64 (1)), .lit (.int .i64 (0)), .lit (.int .i64 (1))] 4 false] (.tree kChain) := aj.closedF (fs := []) (tab := []) hmix trivial 1000 (by kernel_rfl)
theorem pSpare : aj Tryz.prog G0 43 [kB, .sl [.lit (.int .i64 (0)), .lit (.int .i64 (1)), .lit (.int .i64 (0)), .lit (.int .i64 (1))] 4 false, .lit (.int .i64 (0))] (.tree kSpare) := aj.closedF (fs := []) (tab := []) hmix trivial 1000 (by kernel_rfl)
theorem pBest : aj Tryz.prog G0 51 [kB] (.tree kBest) := aj.closedF (fs := []) (tab := []) hmix trivial 1000 (by kernel_rfl)
theorem pCount : aj Tryz.prog G0 52 [kB] (.tree kCount) := aj.closedF (fs := []) (tab := []) hmix trivial 1000 (by kernel_rfl)
theorem pWho : aj Tryz.prog G0 55 [kB, .lit (.int .i64 (1))] (.tree kWho) := aj.closedF (fs := []) (tab := []) hmix trivial 1000 (by kernel_rfl)
theorem pGive : aj Tryz.prog G0 56 [kB, .sl [.lit (.int .i64 (0)), .lit (.int .i64 (0)), .lit (.int .i64 (0)), .lit (.int .i64 (0))] 4 false, .lit (.int .i64 (1))] (.tree kGive) := aj.closedF (fs := []) (tab := []) hmix trivial 1000 (by kernel_rfl)
theorem pMore : aj Tryz.prog G0 60 [kB] (.tree kMore) := aj.closedF (fs := []) (tab := []) hmix trivial 1000 (by kernel_rfl)
theorem pLeast : aj Tryz.prog G0 61 [kB, .lit (.int .i64 (5))] (.tree kLeast) := aj.closedF (fs := []) (tab := []) hmix trivial 1000 (by kernel_rfl)
theorem pRead : aj Tryz.prog G0 65 [.lit (.string ⟨⟨[98, 101, 110, 99, 104, 32, 48, 10, 98, 111, 97, 114, 100, 32, 48, 10, 115, 116, 114, 97, 105, 103, 104, 116, 32, 48, 32, 49, 32, 49, 32, 45, 10, 101, 110, 100, 32, 49, 55, 53, 10]⟩⟩)] (.tree kRead) := aj.closedF (fs := []) (tab := []) hmix trivial 1000 (by kernel_rfl)
end Go.V
end
