/- Part of a proof. -/
import Derived.Test.YtekhjalgmlflpaaGreatDoorZbk
import Derived.Test.YtekhjalgmlflpaaGreatDoorZbj
set_option linter.all false
set_option maxRecDepth 4000
set_option maxHeartbeats 40000000
section
namespace Go.V
open Go Go.Proofs IntKind
def nR (rc : Gs → (List Int) → Int → Option (List (List Int))) (ae : Gs) (ak : List Int) (ai : Int) (r1 : Int) : Nat → (List (List Int)) → Int → Option (LOut (List (List Int)) ((List (List Int)) × Int))
 | 0, _, _ => none
 | k0 + 1, bW, d6 => cond (decide (d6 ≤ (i64.wrap (ai - r1)))) (cond (neB ak) (cond (aw 8 (List.length ([] ++ ak))) (cond (aw 8 (List.length (([] ++ ak) ++ [d6]))) (Option.bind (rc ae (([] ++ ak) ++ [d6]) ai) (fun r2 => cond (neB r2) (cond (aw 24 (List.length (bW ++ r2))) (nR rc ae ak ai r1 k0 (bW ++ r2) (i64.wrap (d6 + 1))) none) (nR rc ae ak ai r1 k0 bW (i64.wrap (d6 + 1))))) none) none) (cond (aw 8 (List.length (([] : List Int) ++ [d6]))) (Option.bind (rc ae (([] : List Int) ++ [d6]) ai) (fun r3 => cond (neB r3) (cond (aw 24 (List.length (bW ++ r3))) (nR rc ae ak ai r1 k0 (bW ++ r3) (i64.wrap (d6 + 1))) none) (nR rc ae ak ai r1 k0 bW (i64.wrap (d6 + 1))))) none)) (some (.go (bW, d6)))
def C4 (rc : Gs → (List Int) → Int → Option (List (List Int))) (ae : Gs) (ak : List Int) (ai : Int) : Option (List (List Int)) := Option.bind (qO ak) (fun r1 => cond ((List.length ak : Int) == (i64.wrap ((List.length ae.Tins : Int) - 1))) (cond (neB ak) (cond (aw 8 (List.length ([] ++ ak))) (cond (aw 8 (List.length (([] ++ ak) ++ [i64.wrap (ai - r1)]))) (some ([(([] ++ ak) ++ [i64.wrap (ai - r1)])])) none) none) (cond (aw 8 (List.length (([] : List Int) ++ [i64.wrap (ai - r1)]))) (some ([(([] : List Int) ++ [i64.wrap (ai - r1)])])) none)) (aN (nR rc ae ak ai r1 1000000 ([] : List (List Int)) 0) (fun r5 => some r5) (fun c4 => some c4.1) (fun _ _ => none)))
theorem UB (rc : Gs → (List Int) → Int → Option (List (List Int))) (rc_ok : ∀ (ae : Gs) (ak : List Int) (ai : Int) (R : List (List Int)), rc ae ak ai = some R → ad Tryz.prog G0 108 [.agg (cGs ae), .sl (aa eI ak) (List.length ak) false, .lit (.int .i64 ai)] (.tree (.sl (aa (eSl eI) R) (List.length R) false))) (ae : Gs) (ak : List Int) (ai : Int) (R : List (List Int)) (h : C4 rc ae ak ai = some R) : ad Tryz.prog G0 108 [.agg (cGs ae), .sl (aa eI ak) (List.length ak) false, .lit (.int .i64 ai)] (.tree (.sl (aa (eSl eI) R) (List.length R) false)) := by
 refine ad.runR mixed Tryz.call108 Tryz.func108 rfl (by simp [Tryz.ntmps108]; kernel_rfl) ?_
 obtain ⟨KF, h, kF, kN⟩ := dp h
 simp only [C4] at h
 obtain ⟨r6, o7, h⟩ := optI h kN
 try simp only [hs] at h
 simp only [vzf, tyf, nm, seval]
 refine ktA (yo _ _ o7) ?_
 refine aZ (fun tm => tm 1 = .sl (aa eI ak) (List.length ak) false ∧ tm 2 = .lit (.int .i64 ai) ∧ tm 3 = .ptr 0 0 ∧ tm 10 = .lit (.int .i64 ai) ∧ tm 12 = .lit (.int .i64 r6) ∧ True) (by refine ⟨?_, ?_, ?_, ?_, ?_, trivial⟩ <;> first | (simp only [ua, nm, seval] <;> rfl) | rfl) ?_
 rintro tm ⟨e8, e9, bm, bg, aW, _⟩
 cases cn : ((List.length ak : Int) == (i64.wrap ((List.length ae.Tins : Int) - 1)))
 ·simp only [cn, hs] at h
  simp only [vzf, tyf, e8, e9, bm, bg, aW, cn, nm, seval]
  obtain ⟨UC, h, UD, yQ, UE, dB⟩ := fp h kN
  obtain ⟨kR, FC, h⟩ := call3 h
  obtain ⟨UF, fh⟩ : ∃ I : Nat → St → Prop, I = (fun m st => ∃ (eU : Nat) (aO : List (List Int)) (aA : Int) (ga : VV), eU = m ∧ st.df = [] ∧ 16 ≤ st.nx ∧ st.H 0 = some (.cells (some 28) (cGs ae)) ∧ st.tm 1 = .sl (aa eI ak) (List.length ak) false ∧ st.tm 2 = .lit (.int .i64 ai) ∧ st.tm 3 = .ptr 0 0 ∧ st.tm 7 = .lit (.int .i64 (i64.wrap (ai - r6))) ∧ st.tm 8 = ga ∧ st.tm 9 = .lit (.int .i64 aA) ∧ ((∃ (β : Nat) (el : Option TypeId), ga = .ref β 0 (List.length aO) 1 (List.length aO) ∧ β < st.nx ∧ β ≠ 0 ∧ st.H β = some (.cells el (aa (eSl eI) aO))) ∨ (nilS ga = .sl [] 0 true ∧ aO = [])) ∧ UC (kR eU aO aA)) := ⟨_, rfl⟩
  refine loopK mixed (by kernel_rfl) UF 1000000 (by rw [fh]; refine ⟨1000000, ([] : List (List Int)), 0, .lit (.slice none 0 0), rfl, rfl, (show 16 ≤ 16 by omega), ?_, e8, e9, bm, ?_, ?_, ?_, Or.inr ⟨rfl, rfl⟩, h⟩ <;> first | (simp only [ua, e8, e9, bm, bg, aW, cn, nm, seval] <;> rfl) | rfl) ?_
  rintro m ⟨tm, H, bF, df⟩ hinv
  rw [fh] at hinv
  obtain ⟨eU, aO, aA, ga, rfl, hdf, FD, yR, bu, bC, cv, dn, ck, bz, oG, h⟩ := hinv
  simp only at hdf FD yR bu bC cv dn ck bz oG
  have C5 := fu (m := 16) (b := bF) (by omega)
  subst hdf FC
  rcases oG with ⟨dY, cq, rfl, FE, FF, wN⟩ | ⟨hy_q24, rfl⟩
  ·have Ra := rb FE
   have Rb := ne_f FF
   cases eU with
   | zero =>
    simp only [nR, hs, reduceCtorEq] at h
    exact absurd h dB
   | succ eU =>
    simp only [nR, hs, reduceCtorEq] at h
    cases cy : (decide (aA ≤ (i64.wrap (ai - r6))))
    ·simp only [cy, hs] at h
     have FG := And.intro cn (And.intro C5 (And.intro yR (And.intro Ra (And.intro wN (And.intro Rb cy)))))
     replace h := yQ _ h
     try dsimp only at h
     try simp only [hs] at h
     try simp only [vzf, tyf, FG, bu, bC, cv, dn, ck, bz, nm, seval]
     refine bG (x := (.ref dY 0 (List.length aO) 1 (List.length aO))) (by first | (simp only [Tryz.results108, resV, resL, av, bL, bM, uw, cr, tyf, FG, nm, seval] <;> rfl) | rfl) ?_
     obtain rfl := kF _ h
     refine bO ?_ ?_
     ·simp only [tre, ar, Bool.and_self]
     ·first | exact oH (by assumption) _ | (simp only [outV, uw, bT, cr, tyf, nrm, au, FG, bu, bC, cv, dn, ck, bz, nm, seval] <;> rfl) | rfl | (simp [outV, bT, updH, eSl, aa, normV, au, nrm]; done) | (simp [outV, bT, updH, eSl, aa, normV, au, nrm]; rw [List.take_of_length_le (by rw [iH (w := 1) (enc := eI) (fun _ => rfl)]; simp)]; exact eI_ok.normL _)
    simp only [cy, hs] at h
    have bX := And.intro cn (And.intro C5 (And.intro yR (And.intro Ra (And.intro wN (And.intro Rb cy)))))
    simp only [vzf, tyf, bX, bu, bC, cv, dn, ck, bz, nm, seval]
    refine sN (fun tm => tm 1 = .sl (aa eI ak) (List.length ak) false ∧ tm 2 = .lit (.int .i64 ai) ∧ tm 3 = .ptr 0 0 ∧ tm 7 = .lit (.int .i64 (i64.wrap (ai - r6))) ∧ tm 8 = .ref dY 0 (List.length aO) 1 (List.length aO) ∧ tm 9 = .lit (.int .i64 aA) ∧ True) (by refine ⟨bu, bC, cv, dn, ck, bz, trivial⟩ <;> first | (simp only [ua, bX, bu, bC, cv, dn, ck, bz, nm, seval] <;> rfl) | rfl) ?_
    rintro tm ⟨bA, bN, bZ, cQ, cK, bV, _⟩
    refine QI mixed 0 [([false, true, true, true, true, true, true, true, false, false, false], 8)] [false, false, false, false, false, false, false, false, false, true, true] [true, false, false, false, false, false, false, false, false, true, true] (by kernel_rfl) ?_
    refine QJ ?_
    cases cj : (neB ak)
    ·simp only [cj, hs] at h
     simp only [vzf, tyf, bX, bA, bN, bZ, cQ, cK, bV, cj, nm, seval]
     refine u3 (enc := eI) (ys := ak) eV Tryz.underlying29 cj ?_
     cases jG : (aw 8 (List.length (([] : List Int) ++ [aA])))
     ·simp only [jG, hs] at h
      exact absurd h dB
     simp only [jG, hs] at h
     simp only [vzf, tyf, bX, bA, bN, bZ, cQ, cK, bV, cj, jG, FH, nm, seval]
     refine nk (w := 1) (enc := eI) (ys := ([aA])) (mR := (some 3)) (fun _ => rfl) fQ eV Tryz.underlying29 (by first | rfl | assumption | (simp only [bp, cO, ct, bX, nm, seval] <;> rfl)) (Nat.zero_lt_succ _) jG ?_
     simp only [vzf, tyf, bX, bA, bN, bZ, cQ, cK, bV, cj, jG, nm, seval]
     refine jW (trT ?_)
     refine ⟨?_, ?_⟩
     ·refine sE rfl ?_
      obtain ⟨re, UG, h⟩ := optI h dB
      try simp only [hs] at h
      simp only [vzf, tyf, bX, bA, bN, bZ, cQ, cK, bV, cj, jG, nm, seval]
      refine kfreeze (g := (bF + 9)) (el := (some 3)) (cs := aa eI (([] : List Int) ++ [aA])) (args' := [.agg (cGs ae), .sl (aa eI (([] : List Int) ++ [aA])) (List.length (([] : List Int) ++ [aA])) false, .lit (.int .i64 ai)]) (args0 := [.agg (cGs ae), .sl (aa eI (([] : List Int) ++ [aA])) (List.length (([] : List Int) ++ [aA])) false, .lit (.int .i64 ai)]) (by first | rfl | assumption | (simp only [bp, cO, ct, bX, nm, seval] <;> rfl)) ⟨.same, Frozen.own (by first | rfl | assumption | (simp only [bp, cO, ct, bX, nm, seval] <;> rfl)) (eI_ok.treeL _) (iH (w := 1) (enc := eI) (fun _ => rfl) _), .same, trivial⟩ (by first | (simp only [nrm, au] <;> rfl) | rfl) (by simp only [tre, ar, Bool.and_self]) (rc_ok _ _ _ _ UG) ?_
      refine aZ (fun tm => tm 1 = .sl (aa eI ak) (List.length ak) false ∧ tm 2 = .lit (.int .i64 ai) ∧ tm 3 = .ptr 0 0 ∧ tm 7 = .lit (.int .i64 (i64.wrap (ai - r6))) ∧ tm 8 = .ref dY 0 (List.length aO) 1 (List.length aO) ∧ tm 9 = .lit (.int .i64 aA) ∧ tm 40 = .sl (aa (eSl eI) re) (List.length re) false ∧ True) (by refine ⟨bA, bN, bZ, cQ, cK, bV, ?_, trivial⟩ <;> first | (simp only [ua, bX, bA, bN, bZ, cQ, cK, bV, cj, nm, seval] <;> rfl) | rfl) ?_
      rintro tm ⟨cR, cb, cU, cV, dQ, jb, jc, _⟩
      try simp only [vzf, tyf, bX, cj, jG, cR, cb, cU, cV, dQ, jb, jc, nm, seval]
      refine Cs ?_
      cases iX : (neB re)
      ·simp only [iX, hs] at h
       simp only [vzf, tyf, bX, cj, jG, cR, cb, cU, cV, dQ, jb, jc, iX, nm, seval]
       refine C6 (w := 1) (enc := (eSl eI)) (xs := aO) (ys := re) (el := cq) (fun _ => rfl) dZ de Tryz.underlying106 (by first | rfl | assumption | (simp only [bp, cO, gb, bX, nm, seval] <;> rfl)) iX ?_
       simp only [vzf, tyf, bX, cj, jG, cR, cb, cU, cV, dQ, jb, jc, iX, nm, seval]
       refine jW (trT ?_)
       try simp only [vzf, tyf, bX, cj, jG, cR, cb, cU, cV, dQ, jb, jc, iX, nm, seval]
       exact ⟨eU, Nat.lt_succ_self _, by rw [fh]; refine ⟨eU, aO, i64.wrap (aA + 1), .ref dY 0 (List.length aO) 1 (List.length aO), rfl, rfl, (show 16 ≤ bF + 17 by omega), ?_, cR, cb, cU, cV, ?_, ?_, Or.inl ⟨dY, cq, rfl, (by first | omega | (simp only [nm, seval]; omega)), (by omega), ?_⟩, h⟩ <;> first | (simp only [ua, bX, cj, cR, cb, cU, cV, dQ, jb, jc, iX, nm, seval] <;> rfl) | rfl⟩
      simp only [iX, hs] at h
      cases wO : (aw 24 (List.length (aO ++ re)))
      ·simp only [wO, hs] at h
       exact absurd h dB
      simp only [wO, hs] at h
      simp only [vzf, tyf, bX, cj, jG, cR, cb, cU, cV, dQ, jb, jc, iX, wO, nm, seval]
      refine nn (w := 1) (enc := (eSl eI)) (xs := aO) (ys := re) (el := cq) (fun _ => rfl) dZ de Tryz.underlying106 (by first | rfl | assumption | (simp only [bp, cO, gb, bX, nm, seval] <;> rfl)) iX wO ?_
      simp only [vzf, tyf, bX, cj, jG, cR, cb, cU, cV, dQ, jb, jc, iX, wO, nm, seval]
      refine jW (trT ?_)
      try simp only [vzf, tyf, bX, cj, jG, cR, cb, cU, cV, dQ, jb, jc, iX, wO, nm, seval]
      exact ⟨eU, Nat.lt_succ_self _, by rw [fh]; refine ⟨eU, (aO ++ re), i64.wrap (aA + 1), .ref (bF + 12) 0 (List.length (aO ++ re)) 1 (List.length (aO ++ re)), rfl, rfl, (show 16 ≤ bF + 17 by omega), ?_, cR, cb, cU, cV, ?_, ?_, Or.inl ⟨bF + 12, (sameEl cq 29), rfl, (by first | omega | (simp only [nm, seval]; omega)), (by omega), ?_⟩, h⟩ <;> first | (simp only [ua, bX, cj, cR, cb, cU, cV, dQ, jb, jc, iX, nm, seval] <;> rfl) | rfl⟩
     refine qT rfl ?_
     try simp only [vzf, tyf, bX, bA, bN, bZ, cQ, cK, bV, cj, jG, nm, seval]
     refine trT ?_
     refine sE rfl ?_
     obtain ⟨jC, yj, h⟩ := optI h dB
     try simp only [hs] at h
     simp only [vzf, tyf, bX, bA, bN, bZ, cQ, cK, bV, cj, jG, nm, seval]
     refine kfreeze (g := (bF + 9)) (el := (some 3)) (cs := aa eI (([] : List Int) ++ [aA])) (args' := [.agg (cGs ae), .sl (aa eI (([] : List Int) ++ [aA])) (List.length (([] : List Int) ++ [aA])) false, .lit (.int .i64 ai)]) (args0 := [.agg (cGs ae), .sl (aa eI (([] : List Int) ++ [aA])) (List.length (([] : List Int) ++ [aA])) false, .lit (.int .i64 ai)]) (by first | rfl | assumption | (simp only [bp, cO, ct, bX, nm, seval] <;> rfl)) ⟨.same, Frozen.own (by first | rfl | assumption | (simp only [bp, cO, ct, bX, nm, seval] <;> rfl)) (eI_ok.treeL _) (iH (w := 1) (enc := eI) (fun _ => rfl) _), .same, trivial⟩ (by first | (simp only [nrm, au] <;> rfl) | rfl) (by simp only [tre, ar, Bool.and_self]) (rc_ok _ _ _ _ yj) ?_
     refine aZ (fun tm => tm 1 = .sl (aa eI ak) (List.length ak) false ∧ tm 2 = .lit (.int .i64 ai) ∧ tm 3 = .ptr 0 0 ∧ tm 7 = .lit (.int .i64 (i64.wrap (ai - r6))) ∧ tm 9 = .lit (.int .i64 aA) ∧ tm 32 = .ref dY 0 (List.length aO) 1 (List.length aO) ∧ tm 40 = .sl (aa (eSl eI) jC) (List.length jC) false ∧ True) (by refine ⟨bA, bN, bZ, cQ, bV, ?_, ?_, trivial⟩ <;> first | (simp only [ua, bX, bA, bN, bZ, cQ, cK, bV, cj, nm, seval] <;> rfl) | rfl) ?_
     rintro tm ⟨cL, cM, cS, dc, dH, eO, ie, _⟩
     try simp only [vzf, tyf, bX, cj, jG, cL, cM, cS, dc, dH, eO, ie, nm, seval]
     refine Ct ?_
     cases nS : (neB jC)
     ·simp only [nS, hs] at h
      simp only [vzf, tyf, bX, cj, jG, cL, cM, cS, dc, dH, eO, ie, nS, nm, seval]
      refine C6 (w := 1) (enc := (eSl eI)) (xs := aO) (ys := jC) (el := cq) (fun _ => rfl) dZ de Tryz.underlying106 (by first | rfl | assumption | (simp only [bp, cO, gb, bX, nm, seval] <;> rfl)) nS ?_
      simp only [vzf, tyf, bX, cj, jG, cL, cM, cS, dc, dH, eO, ie, nS, nm, seval]
      refine jW (trT ?_)
      try simp only [vzf, tyf, bX, cj, jG, cL, cM, cS, dc, dH, eO, ie, nS, nm, seval]
      exact ⟨eU, Nat.lt_succ_self _, by rw [fh]; refine ⟨eU, aO, i64.wrap (aA + 1), .ref dY 0 (List.length aO) 1 (List.length aO), rfl, rfl, (show 16 ≤ bF + 17 by omega), ?_, cL, cM, cS, dc, ?_, ?_, Or.inl ⟨dY, cq, rfl, (by first | omega | (simp only [nm, seval]; omega)), (by omega), ?_⟩, h⟩ <;> first | (simp only [ua, bX, cj, cL, cM, cS, dc, dH, eO, ie, nS, nm, seval] <;> rfl) | rfl⟩
     simp only [nS, hs] at h
     cases wP : (aw 24 (List.length (aO ++ jC)))
     ·simp only [wP, hs] at h
      exact absurd h dB
     simp only [wP, hs] at h
     simp only [vzf, tyf, bX, cj, jG, cL, cM, cS, dc, dH, eO, ie, nS, wP, nm, seval]
     refine nn (w := 1) (enc := (eSl eI)) (xs := aO) (ys := jC) (el := cq) (fun _ => rfl) dZ de Tryz.underlying106 (by first | rfl | assumption | (simp only [bp, cO, gb, bX, nm, seval] <;> rfl)) nS wP ?_
     simp only [vzf, tyf, bX, cj, jG, cL, cM, cS, dc, dH, eO, ie, nS, wP, nm, seval]
     refine jW (trT ?_)
     try simp only [vzf, tyf, bX, cj, jG, cL, cM, cS, dc, dH, eO, ie, nS, wP, nm, seval]
     exact ⟨eU, Nat.lt_succ_self _, by rw [fh]; refine ⟨eU, (aO ++ jC), i64.wrap (aA + 1), .ref (bF + 12) 0 (List.length (aO ++ jC)) 1 (List.length (aO ++ jC)), rfl, rfl, (show 16 ≤ bF + 17 by omega), ?_, cL, cM, cS, dc, ?_, ?_, Or.inl ⟨bF + 12, (sameEl cq 29), rfl, (by first | omega | (simp only [nm, seval]; omega)), (by omega), ?_⟩, h⟩ <;> first | (simp only [ua, bX, cj, cL, cM, cS, dc, dH, eO, ie, nS, nm, seval] <;> rfl) | rfl⟩
    simp only [cj, hs] at h
    cases jr : (aw 8 (List.length ([] ++ ak)))
    ·simp only [jr, hs] at h
     exact absurd h dB
    simp only [jr, hs] at h
    simp only [vzf, tyf, bX, bA, bN, bZ, cQ, cK, bV, cj, jr, nm, seval]
    refine sO (w := 1) (enc := eI) (ys := ak) (fun _ => rfl) fQ eV Tryz.underlying29 cj jr ?_
    cases jH : (aw 8 (List.length (([] ++ ak) ++ [aA])))
    ·simp only [jH, hs] at h
     exact absurd h dB
    simp only [jH, hs] at h
    simp only [vzf, tyf, bX, bA, bN, bZ, cQ, cK, bV, cj, jr, jH, nm, seval]
    refine k_app (w := 1) (enc := eI) (xs := ([] ++ ak)) (ys := ([aA])) (el := (some 3)) (mR := (some 3)) (fun _ => rfl) fQ eV Tryz.underlying29 (by first | rfl | assumption | (simp only [bp, cO, ct, bX, nm, seval] <;> rfl)) (by first | rfl | assumption | (simp only [bp, cO, ct, bX, nm, seval] <;> rfl)) (Nat.zero_lt_succ _) jH ?_
    simp only [vzf, tyf, bX, bA, bN, bZ, cQ, cK, bV, cj, jr, jH, nm, seval]
    refine jW (trT ?_)
    refine ⟨?_, ?_⟩
    ·refine sE rfl ?_
     obtain ⟨nT, FI, h⟩ := optI h dB
     try simp only [hs] at h
     simp only [vzf, tyf, bX, bA, bN, bZ, cQ, cK, bV, cj, jr, jH, nm, seval]
     refine kfreeze (g := (bF + 9)) (el := (sameEl (some 3) 3)) (cs := aa eI (([] ++ ak) ++ [aA])) (args' := [.agg (cGs ae), .sl (aa eI (([] ++ ak) ++ [aA])) (List.length (([] ++ ak) ++ [aA])) false, .lit (.int .i64 ai)]) (args0 := [.agg (cGs ae), .sl (aa eI (([] ++ ak) ++ [aA])) (List.length (([] ++ ak) ++ [aA])) false, .lit (.int .i64 ai)]) (by first | rfl | assumption | (simp only [bp, cO, ct, bX, nm, seval] <;> rfl)) ⟨.same, Frozen.own (by first | rfl | assumption | (simp only [bp, cO, ct, bX, nm, seval] <;> rfl)) (eI_ok.treeL _) (iH (w := 1) (enc := eI) (fun _ => rfl) _), .same, trivial⟩ (by first | (simp only [nrm, au] <;> rfl) | rfl) (by simp only [tre, ar, Bool.and_self]) (rc_ok _ _ _ _ FI) ?_
     refine aZ (fun tm => tm 1 = .sl (aa eI ak) (List.length ak) false ∧ tm 2 = .lit (.int .i64 ai) ∧ tm 3 = .ptr 0 0 ∧ tm 7 = .lit (.int .i64 (i64.wrap (ai - r6))) ∧ tm 8 = .ref dY 0 (List.length aO) 1 (List.length aO) ∧ tm 9 = .lit (.int .i64 aA) ∧ tm 40 = .sl (aa (eSl eI) nT) (List.length nT) false ∧ True) (by refine ⟨bA, bN, bZ, cQ, cK, bV, ?_, trivial⟩ <;> first | (simp only [ua, bX, bA, bN, bZ, cQ, cK, bV, cj, nm, seval] <;> rfl) | rfl) ?_
     rintro tm ⟨dR, d7, dJ, dS, fP, gT, dA, _⟩
     try simp only [vzf, tyf, bX, cj, jr, jH, dR, d7, dJ, dS, fP, gT, dA, nm, seval]
     refine Cs ?_
     cases kS : (neB nT)
     ·simp only [kS, hs] at h
      simp only [vzf, tyf, bX, cj, jr, jH, dR, d7, dJ, dS, fP, gT, dA, kS, nm, seval]
      refine C6 (w := 1) (enc := (eSl eI)) (xs := aO) (ys := nT) (el := cq) (fun _ => rfl) dZ de Tryz.underlying106 (by first | rfl | assumption | (simp only [bp, cO, gb, bX, nm, seval] <;> rfl)) kS ?_
      simp only [vzf, tyf, bX, cj, jr, jH, dR, d7, dJ, dS, fP, gT, dA, kS, nm, seval]
      refine jW (trT ?_)
      try simp only [vzf, tyf, bX, cj, jr, jH, dR, d7, dJ, dS, fP, gT, dA, kS, nm, seval]
      exact ⟨eU, Nat.lt_succ_self _, by rw [fh]; refine ⟨eU, aO, i64.wrap (aA + 1), .ref dY 0 (List.length aO) 1 (List.length aO), rfl, rfl, (show 16 ≤ bF + 17 by omega), ?_, dR, d7, dJ, dS, ?_, ?_, Or.inl ⟨dY, cq, rfl, (by first | omega | (simp only [nm, seval]; omega)), (by omega), ?_⟩, h⟩ <;> first | (simp only [ua, bX, cj, dR, d7, dJ, dS, fP, gT, dA, kS, nm, seval] <;> rfl) | rfl⟩
     simp only [kS, hs] at h
     cases wQ : (aw 24 (List.length (aO ++ nT)))
     ·simp only [wQ, hs] at h
      exact absurd h dB
     simp only [wQ, hs] at h
     simp only [vzf, tyf, bX, cj, jr, jH, dR, d7, dJ, dS, fP, gT, dA, kS, wQ, nm, seval]
     refine nn (w := 1) (enc := (eSl eI)) (xs := aO) (ys := nT) (el := cq) (fun _ => rfl) dZ de Tryz.underlying106 (by first | rfl | assumption | (simp only [bp, cO, gb, bX, nm, seval] <;> rfl)) kS wQ ?_
     simp only [vzf, tyf, bX, cj, jr, jH, dR, d7, dJ, dS, fP, gT, dA, kS, wQ, nm, seval]
     refine jW (trT ?_)
     try simp only [vzf, tyf, bX, cj, jr, jH, dR, d7, dJ, dS, fP, gT, dA, kS, wQ, nm, seval]
     exact ⟨eU, Nat.lt_succ_self _, by rw [fh]; refine ⟨eU, (aO ++ nT), i64.wrap (aA + 1), .ref (bF + 12) 0 (List.length (aO ++ nT)) 1 (List.length (aO ++ nT)), rfl, rfl, (show 16 ≤ bF + 17 by omega), ?_, dR, d7, dJ, dS, ?_, ?_, Or.inl ⟨bF + 12, (sameEl cq 29), rfl, (by first | omega | (simp only [nm, seval]; omega)), (by omega), ?_⟩, h⟩ <;> first | (simp only [ua, bX, cj, dR, d7, dJ, dS, fP, gT, dA, kS, nm, seval] <;> rfl) | rfl⟩
    refine qT rfl ?_
    try simp only [vzf, tyf, bX, bA, bN, bZ, cQ, cK, bV, cj, jr, jH, nm, seval]
    refine trT ?_
    refine sE rfl ?_
    obtain ⟨rh, UH, h⟩ := optI h dB
    try simp only [hs] at h
    simp only [vzf, tyf, bX, bA, bN, bZ, cQ, cK, bV, cj, jr, jH, nm, seval]
    refine kfreeze (g := (bF + 9)) (el := (sameEl (some 3) 3)) (cs := aa eI (([] ++ ak) ++ [aA])) (args' := [.agg (cGs ae), .sl (aa eI (([] ++ ak) ++ [aA])) (List.length (([] ++ ak) ++ [aA])) false, .lit (.int .i64 ai)]) (args0 := [.agg (cGs ae), .sl (aa eI (([] ++ ak) ++ [aA])) (List.length (([] ++ ak) ++ [aA])) false, .lit (.int .i64 ai)]) (by first | rfl | assumption | (simp only [bp, cO, ct, bX, nm, seval] <;> rfl)) ⟨.same, Frozen.own (by first | rfl | assumption | (simp only [bp, cO, ct, bX, nm, seval] <;> rfl)) (eI_ok.treeL _) (iH (w := 1) (enc := eI) (fun _ => rfl) _), .same, trivial⟩ (by first | (simp only [nrm, au] <;> rfl) | rfl) (by simp only [tre, ar, Bool.and_self]) (rc_ok _ _ _ _ UH) ?_
    refine aZ (fun tm => tm 1 = .sl (aa eI ak) (List.length ak) false ∧ tm 2 = .lit (.int .i64 ai) ∧ tm 3 = .ptr 0 0 ∧ tm 7 = .lit (.int .i64 (i64.wrap (ai - r6))) ∧ tm 9 = .lit (.int .i64 aA) ∧ tm 32 = .ref dY 0 (List.length aO) 1 (List.length aO) ∧ tm 40 = .sl (aa (eSl eI) rh) (List.length rh) false ∧ True) (by refine ⟨bA, bN, bZ, cQ, bV, ?_, ?_, trivial⟩ <;> first | (simp only [ua, bX, bA, bN, bZ, cQ, cK, bV, cj, nm, seval] <;> rfl) | rfl) ?_
    rintro tm ⟨dI, dw, eQ, eR, eC, ik, fJ, _⟩
    try simp only [vzf, tyf, bX, cj, jr, jH, dI, dw, eQ, eR, eC, ik, fJ, nm, seval]
    refine Ct ?_
    cases gV : (neB rh)
    ·simp only [gV, hs] at h
     simp only [vzf, tyf, bX, cj, jr, jH, dI, dw, eQ, eR, eC, ik, fJ, gV, nm, seval]
     refine C6 (w := 1) (enc := (eSl eI)) (xs := aO) (ys := rh) (el := cq) (fun _ => rfl) dZ de Tryz.underlying106 (by first | rfl | assumption | (simp only [bp, cO, gb, bX, nm, seval] <;> rfl)) gV ?_
     simp only [vzf, tyf, bX, cj, jr, jH, dI, dw, eQ, eR, eC, ik, fJ, gV, nm, seval]
     refine jW (trT ?_)
     try simp only [vzf, tyf, bX, cj, jr, jH, dI, dw, eQ, eR, eC, ik, fJ, gV, nm, seval]
     exact ⟨eU, Nat.lt_succ_self _, by rw [fh]; refine ⟨eU, aO, i64.wrap (aA + 1), .ref dY 0 (List.length aO) 1 (List.length aO), rfl, rfl, (show 16 ≤ bF + 17 by omega), ?_, dI, dw, eQ, eR, ?_, ?_, Or.inl ⟨dY, cq, rfl, (by first | omega | (simp only [nm, seval]; omega)), (by omega), ?_⟩, h⟩ <;> first | (simp only [ua, bX, cj, dI, dw, eQ, eR, eC, ik, fJ, gV, nm, seval] <;> rfl) | rfl⟩
    simp only [gV, hs] at h
    cases wR : (aw 24 (List.length (aO ++ rh)))
    ·simp only [wR, hs] at h
     exact absurd h dB
    simp only [wR, hs] at h
    simp only [vzf, tyf, bX, cj, jr, jH, dI, dw, eQ, eR, eC, ik, fJ, gV, wR, nm, seval]
    refine nn (w := 1) (enc := (eSl eI)) (xs := aO) (ys := rh) (el := cq) (fun _ => rfl) dZ de Tryz.underlying106 (by first | rfl | assumption | (simp only [bp, cO, gb, bX, nm, seval] <;> rfl)) gV wR ?_
    simp only [vzf, tyf, bX, cj, jr, jH, dI, dw, eQ, eR, eC, ik, fJ, gV, wR, nm, seval]
    refine jW (trT ?_)
    try simp only [vzf, tyf, bX, cj, jr, jH, dI, dw, eQ, eR, eC, ik, fJ, gV, wR, nm, seval]
    exact ⟨eU, Nat.lt_succ_self _, by rw [fh]; refine ⟨eU, (aO ++ rh), i64.wrap (aA + 1), .ref (bF + 12) 0 (List.length (aO ++ rh)) 1 (List.length (aO ++ rh)), rfl, rfl, (show 16 ≤ bF + 17 by omega), ?_, dI, dw, eQ, eR, ?_, ?_, Or.inl ⟨bF + 12, (sameEl cq 29), rfl, (by first | omega | (simp only [nm, seval]; omega)), (by omega), ?_⟩, h⟩ <;> first | (simp only [ua, bX, cj, dI, dw, eQ, eR, eC, ik, fJ, gV, nm, seval] <;> rfl) | rfl⟩
  ·have Rc := vap_y hy_q24
   have Rd := oH hy_q24
   have Re := FJ hy_q24
   cases eU with
   | zero =>
    simp only [nR, hs, reduceCtorEq] at h
    exact absurd h dB
   | succ eU =>
    simp only [nR, hs, reduceCtorEq] at h
    cases np : (decide (aA ≤ (i64.wrap (ai - r6))))
    ·simp only [np, hs] at h
     have FK := And.intro cn (And.intro C5 (And.intro yR (And.intro Rc (And.intro Rd (And.intro Re np)))))
     replace h := yQ _ h
     try dsimp only at h
     try simp only [hs] at h
     try simp only [vzf, tyf, FK, bu, bC, cv, dn, ck, bz, nm, seval]
     refine bG (x := (ga)) (by first | (simp only [Tryz.results108, resV, resL, av, bL, bM, uw, cr, tyf, FK, nm, seval] <;> rfl) | rfl) ?_
     obtain rfl := kF _ h
     refine bO ?_ ?_
     ·simp only [tre, ar, Bool.and_self]
     ·first | exact oH (by assumption) _ | (simp only [outV, uw, bT, cr, tyf, nrm, au, FK, bu, bC, cv, dn, ck, bz, nm, seval] <;> rfl) | rfl | (simp [outV, bT, updH, eSl, aa, normV, au, nrm]; done) | (simp [outV, bT, updH, eSl, aa, normV, au, nrm]; rw [List.take_of_length_le (by rw [iH (w := 1) (enc := eI) (fun _ => rfl)]; simp)]; exact eI_ok.normL _)
    simp only [np, hs] at h
    have cA := And.intro cn (And.intro C5 (And.intro yR (And.intro Rc (And.intro Rd (And.intro Re np)))))
    simp only [vzf, tyf, cA, bu, bC, cv, dn, ck, bz, nm, seval]
    refine sN (fun tm => tm 1 = .sl (aa eI ak) (List.length ak) false ∧ tm 2 = .lit (.int .i64 ai) ∧ tm 3 = .ptr 0 0 ∧ tm 7 = .lit (.int .i64 (i64.wrap (ai - r6))) ∧ tm 8 = ga ∧ tm 9 = .lit (.int .i64 aA) ∧ True) (by refine ⟨bu, bC, cv, dn, ck, bz, trivial⟩ <;> first | (simp only [ua, cA, bu, bC, cv, dn, ck, bz, nm, seval] <;> rfl) | rfl) ?_
    rintro tm ⟨fx, fy, eT, fK, fZ, fR, _⟩
    refine QI mixed 0 [([false, true, true, true, true, true, true, true, false, false, false], 8)] [false, false, false, false, false, false, false, false, false, true, true] [true, false, false, false, false, false, false, false, false, true, true] (by kernel_rfl) ?_
    refine QJ ?_
    cases dg : (neB ak)
    ·simp only [dg, hs] at h
     simp only [vzf, tyf, cA, fx, fy, eT, fK, fZ, fR, dg, nm, seval]
     refine u3 (enc := eI) (ys := ak) eV Tryz.underlying29 dg ?_
     cases jI : (aw 8 (List.length (([] : List Int) ++ [aA])))
     ·simp only [jI, hs] at h
      exact absurd h dB
     simp only [jI, hs] at h
     simp only [vzf, tyf, cA, fx, fy, eT, fK, fZ, fR, dg, jI, FH, nm, seval]
     refine nk (w := 1) (enc := eI) (ys := ([aA])) (mR := (some 3)) (fun _ => rfl) fQ eV Tryz.underlying29 (by first | rfl | assumption | (simp only [bp, cO, ct, cA, nm, seval] <;> rfl)) (Nat.zero_lt_succ _) jI ?_
     simp only [vzf, tyf, cA, fx, fy, eT, fK, fZ, fR, dg, jI, nm, seval]
     refine jW (trT ?_)
     refine ⟨?_, ?_⟩
     ·refine sE rfl ?_
      obtain ⟨ri, UI, h⟩ := optI h dB
      try simp only [hs] at h
      simp only [vzf, tyf, cA, fx, fy, eT, fK, fZ, fR, dg, jI, nm, seval]
      refine kfreeze (g := (bF + 9)) (el := (some 3)) (cs := aa eI (([] : List Int) ++ [aA])) (args' := [.agg (cGs ae), .sl (aa eI (([] : List Int) ++ [aA])) (List.length (([] : List Int) ++ [aA])) false, .lit (.int .i64 ai)]) (args0 := [.agg (cGs ae), .sl (aa eI (([] : List Int) ++ [aA])) (List.length (([] : List Int) ++ [aA])) false, .lit (.int .i64 ai)]) (by first | rfl | assumption | (simp only [bp, cO, ct, cA, nm, seval] <;> rfl)) ⟨.same, Frozen.own (by first | rfl | assumption | (simp only [bp, cO, ct, cA, nm, seval] <;> rfl)) (eI_ok.treeL _) (iH (w := 1) (enc := eI) (fun _ => rfl) _), .same, trivial⟩ (by first | (simp only [nrm, au] <;> rfl) | rfl) (by simp only [tre, ar, Bool.and_self]) (rc_ok _ _ _ _ UI) ?_
      refine aZ (fun tm => tm 1 = .sl (aa eI ak) (List.length ak) false ∧ tm 2 = .lit (.int .i64 ai) ∧ tm 3 = .ptr 0 0 ∧ tm 7 = .lit (.int .i64 (i64.wrap (ai - r6))) ∧ tm 8 = ga ∧ tm 9 = .lit (.int .i64 aA) ∧ tm 40 = .sl (aa (eSl eI) ri) (List.length ri) false ∧ True) (by refine ⟨fx, fy, eT, fK, fZ, fR, ?_, trivial⟩ <;> first | (simp only [ua, cA, fx, fy, eT, fK, fZ, fR, dg, nm, seval] <;> rfl) | rfl) ?_
      rintro tm ⟨km, dj, dK, cW, eD, eE, gq, _⟩
      try simp only [vzf, tyf, cA, dg, jI, km, dj, dK, cW, eD, eE, gq, nm, seval]
      refine Cs ?_
      cases dx : (neB ri)
      ·simp only [dx, hs] at h
       simp only [vzf, tyf, cA, dg, jI, km, dj, dK, cW, eD, eE, gq, dx, nm, seval]
       refine u3 (enc := (eSl eI)) (ys := ri) de Tryz.underlying106 dx ?_
       simp only [vzf, tyf, cA, dg, jI, km, dj, dK, cW, eD, eE, gq, dx, nm, seval]
       refine jW (trT ?_)
       try simp only [vzf, tyf, cA, dg, jI, km, dj, dK, cW, eD, eE, gq, dx, nm, seval]
       exact ⟨eU, Nat.lt_succ_self _, by rw [fh]; refine ⟨eU, ([] : List (List Int)), i64.wrap (aA + 1), .sl [] 0 true, rfl, rfl, (show 16 ≤ bF + 17 by omega), ?_, km, dj, dK, cW, ?_, ?_, Or.inr ⟨rfl, rfl⟩, h⟩ <;> first | (simp only [ua, cA, dg, km, dj, dK, cW, eD, eE, gq, dx, nm, seval] <;> rfl) | rfl⟩
      simp only [dx, hs] at h
      cases nq : (aw 24 (List.length (([] : List (List Int)) ++ ri)))
      ·simp only [nq, hs] at h
       exact absurd h dB
      simp only [nq, hs] at h
      simp only [vzf, tyf, cA, dg, jI, km, dj, dK, cW, eD, eE, gq, dx, nq, nm, seval]
      refine sO (w := 1) (enc := (eSl eI)) (ys := ri) (fun _ => rfl) dZ de Tryz.underlying106 dx nq ?_
      simp only [vzf, tyf, cA, dg, jI, km, dj, dK, cW, eD, eE, gq, dx, nq, nm, seval]
      refine jW (trT ?_)
      try simp only [vzf, tyf, cA, dg, jI, km, dj, dK, cW, eD, eE, gq, dx, nq, nm, seval]
      exact ⟨eU, Nat.lt_succ_self _, by rw [fh]; refine ⟨eU, (([] : List (List Int)) ++ ri), i64.wrap (aA + 1), .ref (bF + 12) 0 (List.length (([] : List (List Int)) ++ ri)) 1 (List.length (([] : List (List Int)) ++ ri)), rfl, rfl, (show 16 ≤ bF + 17 by omega), ?_, km, dj, dK, cW, ?_, ?_, Or.inl ⟨bF + 12, (some 29), rfl, (by first | omega | (simp only [nm, seval]; omega)), (by omega), ?_⟩, h⟩ <;> first | (simp only [ua, cA, dg, km, dj, dK, cW, eD, eE, gq, dx, nm, seval] <;> rfl) | rfl⟩
     refine qT rfl ?_
     try simp only [vzf, tyf, cA, fx, fy, eT, fK, fZ, fR, dg, jI, nm, seval]
     refine trT ?_
     refine sE rfl ?_
     obtain ⟨kn, FL, h⟩ := optI h dB
     try simp only [hs] at h
     simp only [vzf, tyf, cA, fx, fy, eT, fK, fZ, fR, dg, jI, nm, seval]
     refine kfreeze (g := (bF + 9)) (el := (some 3)) (cs := aa eI (([] : List Int) ++ [aA])) (args' := [.agg (cGs ae), .sl (aa eI (([] : List Int) ++ [aA])) (List.length (([] : List Int) ++ [aA])) false, .lit (.int .i64 ai)]) (args0 := [.agg (cGs ae), .sl (aa eI (([] : List Int) ++ [aA])) (List.length (([] : List Int) ++ [aA])) false, .lit (.int .i64 ai)]) (by first | rfl | assumption | (simp only [bp, cO, ct, cA, nm, seval] <;> rfl)) ⟨.same, Frozen.own (by first | rfl | assumption | (simp only [bp, cO, ct, cA, nm, seval] <;> rfl)) (eI_ok.treeL _) (iH (w := 1) (enc := eI) (fun _ => rfl) _), .same, trivial⟩ (by first | (simp only [nrm, au] <;> rfl) | rfl) (by simp only [tre, ar, Bool.and_self]) (rc_ok _ _ _ _ FL) ?_
     refine aZ (fun tm => tm 1 = .sl (aa eI ak) (List.length ak) false ∧ tm 2 = .lit (.int .i64 ai) ∧ tm 3 = .ptr 0 0 ∧ tm 7 = .lit (.int .i64 (i64.wrap (ai - r6))) ∧ tm 9 = .lit (.int .i64 aA) ∧ tm 32 = ga ∧ tm 40 = .sl (aa (eSl eI) kn) (List.length kn) false ∧ True) (by refine ⟨fx, fy, eT, fK, fR, ?_, ?_, trivial⟩ <;> first | (simp only [ua, cA, fx, fy, eT, fK, fZ, fR, dg, nm, seval] <;> rfl) | rfl) ?_
     rintro tm ⟨gu, eF, dC, dL, eg, fz, f6, _⟩
     try simp only [vzf, tyf, cA, dg, jI, gu, eF, dC, dL, eg, fz, f6, nm, seval]
     refine Ct ?_
     cases iY : (neB kn)
     ·simp only [iY, hs] at h
      simp only [vzf, tyf, cA, dg, jI, gu, eF, dC, dL, eg, fz, f6, iY, nm, seval]
      refine u3 (enc := (eSl eI)) (ys := kn) de Tryz.underlying106 iY ?_
      simp only [vzf, tyf, cA, dg, jI, gu, eF, dC, dL, eg, fz, f6, iY, nm, seval]
      refine jW (trT ?_)
      try simp only [vzf, tyf, cA, dg, jI, gu, eF, dC, dL, eg, fz, f6, iY, nm, seval]
      exact ⟨eU, Nat.lt_succ_self _, by rw [fh]; refine ⟨eU, ([] : List (List Int)), i64.wrap (aA + 1), .sl [] 0 true, rfl, rfl, (show 16 ≤ bF + 17 by omega), ?_, gu, eF, dC, dL, ?_, ?_, Or.inr ⟨rfl, rfl⟩, h⟩ <;> first | (simp only [ua, cA, dg, gu, eF, dC, dL, eg, fz, f6, iY, nm, seval] <;> rfl) | rfl⟩
     simp only [iY, hs] at h
     cases nr : (aw 24 (List.length (([] : List (List Int)) ++ kn)))
     ·simp only [nr, hs] at h
      exact absurd h dB
     simp only [nr, hs] at h
     simp only [vzf, tyf, cA, dg, jI, gu, eF, dC, dL, eg, fz, f6, iY, nr, nm, seval]
     refine sO (w := 1) (enc := (eSl eI)) (ys := kn) (fun _ => rfl) dZ de Tryz.underlying106 iY nr ?_
     simp only [vzf, tyf, cA, dg, jI, gu, eF, dC, dL, eg, fz, f6, iY, nr, nm, seval]
     refine jW (trT ?_)
     try simp only [vzf, tyf, cA, dg, jI, gu, eF, dC, dL, eg, fz, f6, iY, nr, nm, seval]
     exact ⟨eU, Nat.lt_succ_self _, by rw [fh]; refine ⟨eU, (([] : List (List Int)) ++ kn), i64.wrap (aA + 1), .ref (bF + 12) 0 (List.length (([] : List (List Int)) ++ kn)) 1 (List.length (([] : List (List Int)) ++ kn)), rfl, rfl, (show 16 ≤ bF + 17 by omega), ?_, gu, eF, dC, dL, ?_, ?_, Or.inl ⟨bF + 12, (some 29), rfl, (by first | omega | (simp only [nm, seval]; omega)), (by omega), ?_⟩, h⟩ <;> first | (simp only [ua, cA, dg, gu, eF, dC, dL, eg, fz, f6, iY, nm, seval] <;> rfl) | rfl⟩
    simp only [dg, hs] at h
    cases dM : (aw 8 (List.length ([] ++ ak)))
    ·simp only [dM, hs] at h
     exact absurd h dB
    simp only [dM, hs] at h
    simp only [vzf, tyf, cA, fx, fy, eT, fK, fZ, fR, dg, dM, nm, seval]
    refine sO (w := 1) (enc := eI) (ys := ak) (fun _ => rfl) fQ eV Tryz.underlying29 dg dM ?_
    cases dT : (aw 8 (List.length (([] ++ ak) ++ [aA])))
    ·simp only [dT, hs] at h
     exact absurd h dB
    simp only [dT, hs] at h
    simp only [vzf, tyf, cA, fx, fy, eT, fK, fZ, fR, dg, dM, dT, nm, seval]
    refine k_app (w := 1) (enc := eI) (xs := ([] ++ ak)) (ys := ([aA])) (el := (some 3)) (mR := (some 3)) (fun _ => rfl) fQ eV Tryz.underlying29 (by first | rfl | assumption | (simp only [bp, cO, ct, cA, nm, seval] <;> rfl)) (by first | rfl | assumption | (simp only [bp, cO, ct, cA, nm, seval] <;> rfl)) (Nat.zero_lt_succ _) dT ?_
    simp only [vzf, tyf, cA, fx, fy, eT, fK, fZ, fR, dg, dM, dT, nm, seval]
    refine jW (trT ?_)
    refine ⟨?_, ?_⟩
    ·refine sE rfl ?_
     obtain ⟨ko, FM, h⟩ := optI h dB
     try simp only [hs] at h
     simp only [vzf, tyf, cA, fx, fy, eT, fK, fZ, fR, dg, dM, dT, nm, seval]
     refine kfreeze (g := (bF + 9)) (el := (sameEl (some 3) 3)) (cs := aa eI (([] ++ ak) ++ [aA])) (args' := [.agg (cGs ae), .sl (aa eI (([] ++ ak) ++ [aA])) (List.length (([] ++ ak) ++ [aA])) false, .lit (.int .i64 ai)]) (args0 := [.agg (cGs ae), .sl (aa eI (([] ++ ak) ++ [aA])) (List.length (([] ++ ak) ++ [aA])) false, .lit (.int .i64 ai)]) (by first | rfl | assumption | (simp only [bp, cO, ct, cA, nm, seval] <;> rfl)) ⟨.same, Frozen.own (by first | rfl | assumption | (simp only [bp, cO, ct, cA, nm, seval] <;> rfl)) (eI_ok.treeL _) (iH (w := 1) (enc := eI) (fun _ => rfl) _), .same, trivial⟩ (by first | (simp only [nrm, au] <;> rfl) | rfl) (by simp only [tre, ar, Bool.and_self]) (rc_ok _ _ _ _ FM) ?_
     refine aZ (fun tm => tm 1 = .sl (aa eI ak) (List.length ak) false ∧ tm 2 = .lit (.int .i64 ai) ∧ tm 3 = .ptr 0 0 ∧ tm 7 = .lit (.int .i64 (i64.wrap (ai - r6))) ∧ tm 8 = ga ∧ tm 9 = .lit (.int .i64 aA) ∧ tm 40 = .sl (aa (eSl eI) ko) (List.length ko) false ∧ True) (by refine ⟨fx, fy, eT, fK, fZ, fR, ?_, trivial⟩ <;> first | (simp only [ua, cA, fx, fy, eT, fK, fZ, fR, dg, nm, seval] <;> rfl) | rfl) ?_
     rintro tm ⟨eh, ei, ej, dr, dD, il, im, _⟩
     try simp only [vzf, tyf, cA, dg, dM, dT, eh, ei, ej, dr, dD, il, im, nm, seval]
     refine Cs ?_
     cases da : (neB ko)
     ·simp only [da, hs] at h
      simp only [vzf, tyf, cA, dg, dM, dT, eh, ei, ej, dr, dD, il, im, da, nm, seval]
      refine u3 (enc := (eSl eI)) (ys := ko) de Tryz.underlying106 da ?_
      simp only [vzf, tyf, cA, dg, dM, dT, eh, ei, ej, dr, dD, il, im, da, nm, seval]
      refine jW (trT ?_)
      try simp only [vzf, tyf, cA, dg, dM, dT, eh, ei, ej, dr, dD, il, im, da, nm, seval]
      exact ⟨eU, Nat.lt_succ_self _, by rw [fh]; refine ⟨eU, ([] : List (List Int)), i64.wrap (aA + 1), .sl [] 0 true, rfl, rfl, (show 16 ≤ bF + 17 by omega), ?_, eh, ei, ej, dr, ?_, ?_, Or.inr ⟨rfl, rfl⟩, h⟩ <;> first | (simp only [ua, cA, dg, eh, ei, ej, dr, dD, il, im, da, nm, seval] <;> rfl) | rfl⟩
     simp only [da, hs] at h
     cases nt : (aw 24 (List.length (([] : List (List Int)) ++ ko)))
     ·simp only [nt, hs] at h
      exact absurd h dB
     simp only [nt, hs] at h
     simp only [vzf, tyf, cA, dg, dM, dT, eh, ei, ej, dr, dD, il, im, da, nt, nm, seval]
     refine sO (w := 1) (enc := (eSl eI)) (ys := ko) (fun _ => rfl) dZ de Tryz.underlying106 da nt ?_
     simp only [vzf, tyf, cA, dg, dM, dT, eh, ei, ej, dr, dD, il, im, da, nt, nm, seval]
     refine jW (trT ?_)
     try simp only [vzf, tyf, cA, dg, dM, dT, eh, ei, ej, dr, dD, il, im, da, nt, nm, seval]
     exact ⟨eU, Nat.lt_succ_self _, by rw [fh]; refine ⟨eU, (([] : List (List Int)) ++ ko), i64.wrap (aA + 1), .ref (bF + 12) 0 (List.length (([] : List (List Int)) ++ ko)) 1 (List.length (([] : List (List Int)) ++ ko)), rfl, rfl, (show 16 ≤ bF + 17 by omega), ?_, eh, ei, ej, dr, ?_, ?_, Or.inl ⟨bF + 12, (some 29), rfl, (by first | omega | (simp only [nm, seval]; omega)), (by omega), ?_⟩, h⟩ <;> first | (simp only [ua, cA, dg, eh, ei, ej, dr, dD, il, im, da, nm, seval] <;> rfl) | rfl⟩
    refine qT rfl ?_
    try simp only [vzf, tyf, cA, fx, fy, eT, fK, fZ, fR, dg, dM, dT, nm, seval]
    refine trT ?_
    refine sE rfl ?_
    obtain ⟨kq, FN, h⟩ := optI h dB
    try simp only [hs] at h
    simp only [vzf, tyf, cA, fx, fy, eT, fK, fZ, fR, dg, dM, dT, nm, seval]
    refine kfreeze (g := (bF + 9)) (el := (sameEl (some 3) 3)) (cs := aa eI (([] ++ ak) ++ [aA])) (args' := [.agg (cGs ae), .sl (aa eI (([] ++ ak) ++ [aA])) (List.length (([] ++ ak) ++ [aA])) false, .lit (.int .i64 ai)]) (args0 := [.agg (cGs ae), .sl (aa eI (([] ++ ak) ++ [aA])) (List.length (([] ++ ak) ++ [aA])) false, .lit (.int .i64 ai)]) (by first | rfl | assumption | (simp only [bp, cO, ct, cA, nm, seval] <;> rfl)) ⟨.same, Frozen.own (by first | rfl | assumption | (simp only [bp, cO, ct, cA, nm, seval] <;> rfl)) (eI_ok.treeL _) (iH (w := 1) (enc := eI) (fun _ => rfl) _), .same, trivial⟩ (by first | (simp only [nrm, au] <;> rfl) | rfl) (by simp only [tre, ar, Bool.and_self]) (rc_ok _ _ _ _ FN) ?_
    refine aZ (fun tm => tm 1 = .sl (aa eI ak) (List.length ak) false ∧ tm 2 = .lit (.int .i64 ai) ∧ tm 3 = .ptr 0 0 ∧ tm 7 = .lit (.int .i64 (i64.wrap (ai - r6))) ∧ tm 9 = .lit (.int .i64 aA) ∧ tm 32 = ga ∧ tm 40 = .sl (aa (eSl eI) kq) (List.length kq) false ∧ True) (by refine ⟨fx, fy, eT, fK, fR, ?_, ?_, trivial⟩ <;> first | (simp only [ua, cA, fx, fy, eT, fK, fZ, fR, dg, nm, seval] <;> rfl) | rfl) ?_
    rintro tm ⟨eW, fj, dU, gv, iq, ku, ky, _⟩
    try simp only [vzf, tyf, cA, dg, dM, dT, eW, fj, dU, gv, iq, ku, ky, nm, seval]
    refine Ct ?_
    cases f8 : (neB kq)
    ·simp only [f8, hs] at h
     simp only [vzf, tyf, cA, dg, dM, dT, eW, fj, dU, gv, iq, ku, ky, f8, nm, seval]
     refine u3 (enc := (eSl eI)) (ys := kq) de Tryz.underlying106 f8 ?_
     simp only [vzf, tyf, cA, dg, dM, dT, eW, fj, dU, gv, iq, ku, ky, f8, nm, seval]
     refine jW (trT ?_)
     try simp only [vzf, tyf, cA, dg, dM, dT, eW, fj, dU, gv, iq, ku, ky, f8, nm, seval]
     exact ⟨eU, Nat.lt_succ_self _, by rw [fh]; refine ⟨eU, ([] : List (List Int)), i64.wrap (aA + 1), .sl [] 0 true, rfl, rfl, (show 16 ≤ bF + 17 by omega), ?_, eW, fj, dU, gv, ?_, ?_, Or.inr ⟨rfl, rfl⟩, h⟩ <;> first | (simp only [ua, cA, dg, eW, fj, dU, gv, iq, ku, ky, f8, nm, seval] <;> rfl) | rfl⟩
    simp only [f8, hs] at h
    cases nu : (aw 24 (List.length (([] : List (List Int)) ++ kq)))
    ·simp only [nu, hs] at h
     exact absurd h dB
    simp only [nu, hs] at h
    simp only [vzf, tyf, cA, dg, dM, dT, eW, fj, dU, gv, iq, ku, ky, f8, nu, nm, seval]
    refine sO (w := 1) (enc := (eSl eI)) (ys := kq) (fun _ => rfl) dZ de Tryz.underlying106 f8 nu ?_
    simp only [vzf, tyf, cA, dg, dM, dT, eW, fj, dU, gv, iq, ku, ky, f8, nu, nm, seval]
    refine jW (trT ?_)
    try simp only [vzf, tyf, cA, dg, dM, dT, eW, fj, dU, gv, iq, ku, ky, f8, nu, nm, seval]
    exact ⟨eU, Nat.lt_succ_self _, by rw [fh]; refine ⟨eU, (([] : List (List Int)) ++ kq), i64.wrap (aA + 1), .ref (bF + 12) 0 (List.length (([] : List (List Int)) ++ kq)) 1 (List.length (([] : List (List Int)) ++ kq)), rfl, rfl, (show 16 ≤ bF + 17 by omega), ?_, eW, fj, dU, gv, ?_, ?_, Or.inl ⟨bF + 12, (some 29), rfl, (by first | omega | (simp only [nm, seval]; omega)), (by omega), ?_⟩, h⟩ <;> first | (simp only [ua, cA, dg, eW, fj, dU, gv, iq, ku, ky, f8, nm, seval] <;> rfl) | rfl⟩
 simp only [cn, hs] at h
 cases hX : (neB ak)
 ·simp only [hX, hs] at h
  simp only [vzf, tyf, e8, e9, bm, bg, aW, cn, hX, nm, seval]
  refine u3 (enc := eI) (ys := ak) eV Tryz.underlying29 hX ?_
  cases mj : (aw 8 (List.length (([] : List Int) ++ [i64.wrap (ai - r6)])))
  ·simp only [mj, hs] at h
   exact absurd h kN
  simp only [mj, hs] at h
  simp only [vzf, tyf, e8, e9, bm, bg, aW, cn, hX, mj, FH, nm, seval]
  refine nk (w := 1) (enc := eI) (ys := ([i64.wrap (ai - r6)])) (mR := (some 3)) (fun _ => rfl) fQ eV Tryz.underlying29 (by first | rfl | assumption | (simp only [bp, cO, ct, nm, seval] <;> rfl)) (Nat.zero_lt_succ _) mj ?_
  try simp only [vzf, tyf, e8, e9, bm, bg, aW, cn, hX, mj, nm, seval]
  refine bG (x := (.ref 19 0 (List.length ([(([] : List Int) ++ [i64.wrap (ai - r6)])])) 1 (List.length ([(([] : List Int) ++ [i64.wrap (ai - r6)])])))) (by first | (simp only [Tryz.results108, resV, resL, av, bL, bM, uw, cr, tyf, cn, hX, mj, nm, seval] <;> rfl) | rfl) ?_
  obtain rfl := kF _ h
  refine bO ?_ ?_
  ·simp only [tre, ar, Bool.and_self]
  ·first | exact oH (by assumption) _ | (simp only [outV, uw, bT, cr, tyf, nrm, au, e8, e9, bm, bg, aW, cn, hX, mj, nm, seval] <;> rfl) | rfl | (simp [outV, bT, updH, eSl, aa, normV, au, nrm]; done) | (simp [outV, bT, updH, eSl, aa, normV, au, nrm]; rw [List.take_of_length_le (by rw [iH (w := 1) (enc := eI) (fun _ => rfl)]; simp)]; exact eI_ok.normL _)
 simp only [hX, hs] at h
 cases kZ : (aw 8 (List.length ([] ++ ak)))
 ·simp only [kZ, hs] at h
  exact absurd h kN
 simp only [kZ, hs] at h
 simp only [vzf, tyf, e8, e9, bm, bg, aW, cn, hX, kZ, nm, seval]
 refine sO (w := 1) (enc := eI) (ys := ak) (fun _ => rfl) fQ eV Tryz.underlying29 hX kZ ?_
 cases ml : (aw 8 (List.length (([] ++ ak) ++ [i64.wrap (ai - r6)])))
 ·simp only [ml, hs] at h
  exact absurd h kN
 simp only [ml, hs] at h
 simp only [vzf, tyf, e8, e9, bm, bg, aW, cn, hX, kZ, ml, nm, seval]
 refine k_app (w := 1) (enc := eI) (xs := ([] ++ ak)) (ys := ([i64.wrap (ai - r6)])) (el := (some 3)) (mR := (some 3)) (fun _ => rfl) fQ eV Tryz.underlying29 (by first | rfl | assumption | (simp only [bp, cO, ct, nm, seval] <;> rfl)) (by first | rfl | assumption | (simp only [bp, cO, ct, nm, seval] <;> rfl)) (Nat.zero_lt_succ _) ml ?_
 try simp only [vzf, tyf, e8, e9, bm, bg, aW, cn, hX, kZ, ml, nm, seval]
 refine bG (x := (.ref 19 0 (List.length ([(([] ++ ak) ++ [i64.wrap (ai - r6)])])) 1 (List.length ([(([] ++ ak) ++ [i64.wrap (ai - r6)])])))) (by first | (simp only [Tryz.results108, resV, resL, av, bL, bM, uw, cr, tyf, cn, hX, kZ, ml, nm, seval] <;> rfl) | rfl) ?_
 obtain rfl := kF _ h
 refine bO ?_ ?_
 ·simp only [tre, ar, Bool.and_self]
 ·first | exact oH (by assumption) _ | (simp only [outV, uw, bT, cr, tyf, nrm, au, e8, e9, bm, bg, aW, cn, hX, kZ, ml, nm, seval] <;> rfl) | rfl | (simp [outV, bT, updH, eSl, aa, normV, au, nrm]; done) | (simp [outV, bT, updH, eSl, aa, normV, au, nrm]; rw [List.take_of_length_le (by rw [iH (w := 1) (enc := eI) (fun _ => rfl)]; simp)]; exact eI_ok.normL _)
def u4 : Nat → Gs → (List Int) → Int → Option (List (List Int))
  | 0 => fun _ _ _ => none
  | n + 1 => C4 (u4 n)
theorem Rf : ∀ (n : Nat) (ae : Gs) (ak : List Int) (ai : Int) (R : List (List Int)), u4 n ae ak ai = some R → ad Tryz.prog G0 108 [.agg (cGs ae), .sl (aa eI ak) (List.length ak) false, .lit (.int .i64 ai)] (.tree (.sl (aa (eSl eI) R) (List.length R) false))
  | 0, _, _, _, R, h => by cases h
  | n + 1, ae, ak, ai, R, h => UB (u4 n) (Rf n) ae ak ai R h
def FO (s : Gs) (now : List Int) (parts : Int) : Option (List (List Int)) := u4 16 s now parts
theorem Rg (s : Gs) (now : List Int) (parts : Int) (R : List (List Int)) (h : FO s now parts = some R) : ad Tryz.prog G0 108 [.agg (cGs s), .sl (aa eI now) (List.length now) false, .lit (.int .i64 parts)] (.tree (.sl (aa (eSl eI) R) (List.length R) false)) := Rf 16 s now parts R h
def rj (ae : Gs) : Nat → (List (List Int)) → Int → Option (LOut (List (List Int)) ((List (List Int)) × Int))
 | 0, _, _ => none
 | k0 + 1, cz, dt => cond (decide (dt ≤ 8)) (Option.bind (FO ae ([] : List Int) dt) (fun r1 => cond (neB r1) (cond (aw 24 (List.length (cz ++ r1))) (rj ae k0 (cz ++ r1) (i64.wrap (dt + 1))) none) none)) (some (.go (cz, dt)))
def u6 (ae : Gs) : Option (List (List Int)) := aN (rj ae 1000000 ([] : List (List Int)) 1) (fun r3 => some r3) (fun c2 => some c2.1) (fun _ _ => none)
theorem FP (ae : Gs) (R : List (List Int)) (h : u6 ae = some R) : ad Tryz.prog G0 77 [.agg (cGs ae)] (.tree (.sl (aa (eSl eI) R) (List.length R) false)) := by
 refine ad.runR mixed Tryz.call77 Tryz.func77 rfl (by simp [Tryz.ntmps77]; kernel_rfl) ?_
 obtain ⟨KF, h, kF, kN⟩ := dp h
 simp only [u6] at h
 simp only [vz, tyf, nm, seval]
 obtain ⟨K4, h, wD, qb, Cu, kO⟩ := fp h kN
 obtain ⟨f4, qU, h⟩ := call3 h
 obtain ⟨I4, jd⟩ : ∃ I : Nat → St → Prop, I = (fun m st => ∃ (p4 : Nat) (gw : List (List Int)) (kz : Int) (rk : VV), p4 = m ∧ st.df = [] ∧ 4 ≤ st.nx ∧ st.H 0 = some (.cells (some 28) (cGs ae)) ∧ st.tm 1 = .ptr 0 0 ∧ st.tm 3 = rk ∧ st.tm 4 = .lit (.int .i64 kz) ∧ ((∃ (β : Nat) (el : Option TypeId), rk = .ref β 0 (List.length gw) 1 (List.length gw) ∧ β < st.nx ∧ β ≠ 0 ∧ st.H β = some (.cells el (aa (eSl eI) gw))) ∨ (rk = .lit (.slice none 0 0) ∧ gw = [])) ∧ K4 (f4 p4 gw kz)) := ⟨_, rfl⟩
 refine loopK mixed (by kernel_rfl) I4 1000000 (by rw [jd]; refine ⟨1000000, ([] : List (List Int)), 1, .lit (.slice none 0 0), rfl, rfl, (show 4 ≤ 4 by omega), ?_, ?_, ?_, ?_, Or.inr ⟨rfl, rfl⟩, h⟩ <;> first | (simp only [ua, nm, seval] <;> rfl) | rfl) ?_
 rintro m ⟨tm, H, jj, df⟩ hinv
 rw [jd] at hinv
 obtain ⟨p4, gw, kz, rk, rfl, hdf, qV, H5, e6, e7, e8, sP, h⟩ := hinv
 simp only at hdf qV H5 e6 e7 e8 sP
 have n9 := fu (m := 4) (b := jj) (by omega)
 subst hdf qU
 rcases sP with ⟨yS, sQ, rfl, u7, FQ, dh⟩ | ⟨rfl, rfl⟩
 ·have ld := rb u7
  have oI := ne_f FQ
  cases p4 with
  | zero =>
   simp only [rj, hs, reduceCtorEq] at h
   exact absurd h kO
  | succ p4 =>
   simp only [rj, hs, reduceCtorEq] at h
   cases cn : (decide (kz ≤ 8))
   ·simp only [cn, hs] at h
    replace h := qb _ h
    try dsimp only at h
    try simp only [hs] at h
    try simp only [vz, tyf, n9, e6, e7, e8, H5, ld, dh, oI, cn, nm, seval]
    refine bG (x := (.ref yS 0 (List.length gw) 1 (List.length gw))) (by first | (simp only [Tryz.results77, resV, resL, av, bL, bM, uw, cr, tyf, n9, H5, ld, dh, oI, cn, nm, seval] <;> rfl) | rfl) ?_
    obtain rfl := kF _ h
    refine bO ?_ ?_
    ·simp only [tre, ar, Bool.and_self]
    ·first | (simp only [outV, uw, bT, cr, tyf, nrm, au, n9, e6, e7, e8, H5, ld, dh, oI, cn, nm, seval] <;> rfl) | rfl
   simp only [cn, hs] at h
   obtain ⟨mS, me, h⟩ := optI h kO
   try simp only [hs] at h
   simp only [vz, tyf, n9, e6, e7, e8, H5, ld, dh, oI, cn, nm, seval]
   refine ktA (Rg _ _ _ _ me) ?_
   refine aZ (fun tm => tm 1 = .ptr 0 0 ∧ tm 4 = .lit (.int .i64 kz) ∧ tm 9 = .ref yS 0 (List.length gw) 1 (List.length gw) ∧ tm 12 = .sl (aa (eSl eI) mS) (List.length mS) false ∧ True) (by refine ⟨e6, e8, ?_, ?_, trivial⟩ <;> first | (simp only [ua, n9, e6, e7, e8, H5, ld, dh, oI, cn, nm, seval] <;> rfl) | rfl) ?_
   rintro tm ⟨bu, bC, cv, dn, _⟩
   cases wS : (neB mS)
   ·simp only [wS, hs] at h
    exact absurd h kO
   simp only [wS, hs] at h
   cases wT : (aw 24 (List.length (gw ++ mS)))
   ·simp only [wT, hs] at h
    exact absurd h kO
   simp only [wT, hs] at h
   simp only [vz, tyf, n9, H5, ld, dh, oI, cn, bu, bC, cv, dn, wS, wT, nm, seval]
   refine nn (w := 1) (enc := (eSl eI)) (xs := gw) (ys := mS) (el := sQ) (fun _ => rfl) dZ de Tryz.underlying106 (by first | rfl | assumption | (simp only [bp, cO, gb, n9, H5, ld, dh, oI, nm, seval] <;> rfl) | (simp only [bp, cO, sR, kd, rl, rn, tyf, n9, H5, ld, dh, oI, cn, bu, bC, cv, dn, wS, wT, nm, seval]; done)) wS wT ?_
   simp only [vz, tyf, n9, H5, ld, dh, oI, cn, bu, bC, cv, dn, wS, wT, nm, seval]
   exact ⟨p4, Nat.lt_succ_self _, by rw [jd]; refine ⟨p4, (gw ++ mS), i64.wrap (kz + 1), .ref (jj + 6) 0 (List.length (gw ++ mS)) 1 (List.length (gw ++ mS)), rfl, rfl, (show 4 ≤ jj + 11 by omega), ?_, bu, ?_, ?_, Or.inl ⟨jj + 6, (sameEl sQ 29), rfl, (by first | omega | (simp only [nm, seval]; omega)), (by first | omega | (intro hh; simp only [n9, ld, oI, reduceCtorEq] at hh)), ?_⟩, h⟩ <;> first | (simp only [ua, n9, H5, ld, dh, oI, cn, bu, bC, cv, dn, nm, seval] <;> rfl) | rfl⟩
 ·cases p4 with
  | zero =>
   simp only [rj, hs, reduceCtorEq] at h
   exact absurd h kO
  | succ p4 =>
   simp only [rj, hs, reduceCtorEq] at h
   cases ij : (decide (kz ≤ 8))
   ·simp only [ij, hs] at h
    replace h := qb _ h
    try dsimp only at h
    try simp only [hs] at h
    try simp only [vz, tyf, n9, e6, e7, e8, H5, ij, nm, seval]
    refine bG (x := (.lit (.slice none 0 0))) (by first | (simp only [Tryz.results77, resV, resL, av, bL, bM, uw, cr, tyf, n9, H5, ij, nm, seval] <;> rfl) | rfl) ?_
    obtain rfl := kF _ h
    refine bO ?_ ?_
    ·simp only [tre, ar, Bool.and_self]
    ·first | (simp only [outV, uw, bT, cr, tyf, nrm, au, n9, e6, e7, e8, H5, ij, nm, seval] <;> rfl) | rfl
   simp only [ij, hs] at h
   obtain ⟨kX, qY, h⟩ := optI h kO
   try simp only [hs] at h
   simp only [vz, tyf, n9, e6, e7, e8, H5, ij, nm, seval]
   refine ktA (Rg _ _ _ _ qY) ?_
   refine aZ (fun tm => tm 1 = .ptr 0 0 ∧ tm 4 = .lit (.int .i64 kz) ∧ tm 9 = .lit (.slice none 0 0) ∧ tm 12 = .sl (aa (eSl eI) kX) (List.length kX) false ∧ True) (by refine ⟨e6, e8, ?_, ?_, trivial⟩ <;> first | (simp only [ua, n9, e6, e7, e8, H5, ij, nm, seval] <;> rfl) | rfl) ?_
   rintro tm ⟨cD, cH, bY, bE, _⟩
   cases oy : (neB kX)
   ·simp only [oy, hs] at h
    exact absurd h kO
   simp only [oy, hs] at h
   cases nU : (aw 24 (List.length (([] : List (List Int)) ++ kX)))
   ·simp only [nU, hs] at h
    exact absurd h kO
   simp only [nU, hs] at h
   simp only [vz, tyf, n9, H5, ij, cD, cH, bY, bE, oy, nU, nm, seval]
   refine sO (w := 1) (enc := (eSl eI)) (ys := kX) (fun _ => rfl) dZ de Tryz.underlying106 oy nU ?_
   simp only [vz, tyf, n9, H5, ij, cD, cH, bY, bE, oy, nU, nm, seval]
   exact ⟨p4, Nat.lt_succ_self _, by rw [jd]; refine ⟨p4, (([] : List (List Int)) ++ kX), i64.wrap (kz + 1), .ref (jj + 6) 0 (List.length (([] : List (List Int)) ++ kX)) 1 (List.length (([] : List (List Int)) ++ kX)), rfl, rfl, (show 4 ≤ jj + 11 by omega), ?_, cD, ?_, ?_, Or.inl ⟨jj + 6, (some 29), rfl, (by first | omega | (simp only [nm, seval]; omega)), (by first | omega | (intro hh; simp only [n9, reduceCtorEq] at hh)), ?_⟩, h⟩ <;> first | (simp only [ua, n9, H5, ij, cD, cH, bY, bE, nm, seval] <;> rfl) | rfl⟩
def flatR {β : Type} (f : Int → List β) : Nat → Int → List β
 | 0, _ => []
 | k + 1, c => f c ++ flatR f k (c + 1)
theorem Rh {β : Type} {f : Int → List β} {x : β} : ∀ (k : Nat) (c : Int), x ∈ flatR f k c ↔ ∃ j : Int, c ≤ j ∧ j < c + k ∧ x ∈ f j
 | 0, c => by
  simp only [flatR, List.not_mem_nil, false_iff]
  rintro ⟨j, h1, h2, _⟩
  omega
 | k + 1, c => by
  simp only [flatR, List.mem_append, Rh k (c + 1)]
  constructor
  ·rintro (h | ⟨j, h1, h2, h3⟩)
   ·exact ⟨c, by omega, by omega, h⟩
   ·exact ⟨j, by omega, by omega, h3⟩
  ·rintro ⟨j, h1, h2, h3⟩
   by_cases e : j = c
   ·subst e; exact .inl h3
   ·exact .inr ⟨j, by omega, by omega, h3⟩
theorem FR : ∀ {l : List Int}, (∀ e ∈ l, 0 ≤ e) → 0 ≤ sumL l
 | [], _ => Int.le_refl _
 | a :: l, h => by
  have h1 := h a (List.mem_cons_self ..)
  have ih := FR fun x hx => h x (List.mem_cons_of_mem _ hx)
  simp only [sumL]
  omega
def mixL (parts : Int) : Nat → List Int → List (List Int)
 | 0, l => [l]
 | 1, l => [l ++ [parts - sumL l]]
 | d + 2, l => flatR (fun j => mixL parts (d + 1) (l ++ [j])) (parts - sumL l + 1).toNat 0
theorem nv : ∀ (l m : List Int), sumL (l ++ m) = sumL l + sumL m
 | [], m => by simp [sumL]
 | e :: l, m => by
  simp only [List.cons_append, sumL, nv l m]
  omega
theorem mT (a : Int) : sumL [a] = a := by simp [sumL]
theorem C7 {parts : Int} : ∀ (d : Nat) (l q : List Int), sumL l ≤ parts → (q ∈ mixL parts (d + 1) l ↔ ∃ t, q = l ++ t ∧ t.length = d + 1 ∧ (∀ e ∈ t, 0 ≤ e) ∧ sumL l + sumL t = parts)
 | 0, l, q, h => by
  simp only [mixL, List.mem_singleton]
  constructor
  ·rintro rfl
   refine ⟨_, rfl, rfl, fun e he => ?_, by rw [mT]; omega⟩
   rw [List.mem_singleton] at he
   omega
  ·rintro ⟨t, rfl, ht, h1, h2⟩
   match t, ht with
   | [a], _ =>
    rw [mT] at h2
    rw [show parts - sumL l = a by omega]
 | d + 1, l, q, h => by
  simp only [mixL, Rh]
  constructor
  ·rintro ⟨j, h1, h2, h3⟩
   have hs : sumL (l ++ [j]) ≤ parts := by rw [nv, mT]; omega
   obtain ⟨t, rfl, g1, g2, g3⟩ := (C7 d (l ++ [j]) q hs).1 h3
   rw [nv, mT] at g3
   refine ⟨j :: t, by simp, by simp [g1], fun e he => ?_, by simp only [sumL]; omega⟩
   rcases List.mem_cons.1 he with rfl | he
   ·exact h1
   ·exact g2 e he
  ·rintro ⟨t, rfl, g1, g2, g3⟩
   match t, g1 with
   | j :: t, g1 =>
    have hj := g2 j (List.mem_cons_self ..)
    have ht := (FR (l := t) fun e he => g2 e (List.mem_cons_of_mem _ he))
    simp only [sumL] at g3
    have hs : sumL (l ++ [j]) ≤ parts := by rw [nv, mT]; omega
    refine ⟨j, hj, by omega, (C7 d (l ++ [j]) _ hs).2 ⟨t, by simp, by simpa using g1, fun e he => g2 e (List.mem_cons_of_mem _ he), by rw [nv, mT]; omega⟩⟩
theorem yT {l : List Int} {j p : Int} {n : Nat} (hl : ∀ e ∈ l, 0 ≤ e ∧ e ≤ 8) (hn : l.length ≤ 1000) (hj : 0 ≤ j ∧ j ≤ 8) (hp : 0 ≤ p ∧ p ≤ 8) (YW : 1 ≤ n ∧ n ≤ 900) : qf l j p n = some ((p - sumL l - j == 0) || (decide (p - sumL l - j > 0) && decide ((l.length : Int) < (n : Int) - 1))) := by
 have hb := mZ hl
 unfold qf
 rw [yc hl hn]
 simp only [Option.bind_some]
 rw [cB (n := p - sumL l) (by omega) (by omega), cB (n := p - sumL l - j) (by omega) (by omega), cB (n := (n : Int) - 1) (by omega) (by omega)]
 cases (p - sumL l - j == 0) <;> cases decide (p - sumL l - j > 0) <;> rfl
theorem yU {rc : List Int → Option (List (List Int))} {may : List Int → Int → Option Bool} {p : List Int} {left : Int} {X : List (List Int)} (hr : rc (p ++ [left]) = some X) : ∀ (k c : Nat), (∀ j : Nat, c ≤ j → j < c + k → may p (j : Int) = some ((j : Int) == left)) → goL rc may p (List.range' c k) = some (if (c : Int) ≤ left ∧ left < c + k then X else [])
 | 0, c, _ => by
  rw [if_neg (by omega)]
  rfl
 | k + 1, c, h => by
  have ih := yU hr k (c + 1) fun j h1 h2 => h j (by omega) (by omega)
  rw [List.range'_succ]
  unfold goL
  rw [h c (Nat.le_refl _) (by omega), Option.bind_some]
  by_cases e : (c : Int) = left
  ·subst e
   rw [if_neg (by omega)] at ih
   rw [show ((c : Int) == (c : Int)) = true from beq_self_eq_true _, cond_true, hr, ih, if_pos (by omega)]
   simp
  ·rw [show ((c : Int) == left) = false from beq_false_of_ne e, cond_false, ih]
   by_cases g : ((c + 1 : Nat) : Int) ≤ left ∧ left < ((c + 1 : Nat) : Int) + k
   ·rw [if_pos g, if_pos (by omega)]
   ·rw [if_neg g, if_neg (by omega)]
theorem yV {rc : List Int → Option (List (List Int))} {F : Int → List (List Int)} {may : List Int → Int → Option Bool} {p : List Int} {left : Int} : ∀ (k c : Nat), (∀ j : Nat, c ≤ j → j < c + k → may p (j : Int) = some (decide ((j : Int) ≤ left))) → (∀ j : Nat, c ≤ j → (j : Int) ≤ left → rc (p ++ [(j : Int)]) = some (F j)) → left < c + k → goL rc may p (List.range' c k) = some (flatR F (left + 1 - c).toNat c)
 | 0, c, _, _, hl => by
  rw [show (left + 1 - (c : Int)).toNat = 0 by omega]
  rfl
 | k + 1, c, h, hr, hl => by
  have ih := yV (F := F) k (c + 1) (fun j h1 h2 => h j (by omega) (by omega)) (fun j h1 h2 => hr j (by omega) h2) (by omega)
  rw [List.range'_succ]
  unfold goL
  rw [h c (Nat.le_refl _) (by omega), Option.bind_some]
  by_cases e : (c : Int) ≤ left
  ·rw [decide_eq_true e, cond_true, hr c (Nat.le_refl _) e, ih]
   simp only [Option.bind_some]
   obtain ⟨m, hm⟩ : ∃ m, (left + 1 - (c : Int)).toNat = m + 1 := ⟨(left + 1 - (c : Int)).toNat - 1, by omega⟩
   rw [hm, flatR, show (left + 1 - ((c + 1 : Nat) : Int)).toNat = m by omega]
   rfl
  ·rw [decide_eq_false e, cond_false, ih, show (left + 1 - (c : Int)).toNat = 0 by omega, show (left + 1 - ((c + 1 : Nat) : Int)).toNat = 0 by omega]
   rfl
theorem Ri {n : Nat} {parts : Int} (hp : 1 ≤ parts ∧ parts ≤ 8) (hn : 1 ≤ n ∧ n ≤ 900) : ∀ (d : Nat) (l : List Int), l.length + (d + 1) = n → (∀ e ∈ l, 0 ≤ e ∧ e ≤ 8) → sumL l ≤ parts → listsO (fun l j => qf l j parts n) (parts + 1).toNat (d + 1) l = some (mixL parts (d + 1) l)
 | 0, l, hl, hb, hs => by
  have h0 := mZ hb
  rw [listsO]
  have := yU (rc := listsO (fun l j => qf l j parts n) (parts + 1).toNat 0) (may := fun l j => qf l j parts n) (p := l) (left := parts - sumL l) (X := [l ++ [parts - sumL l]]) rfl (parts + 1).toNat 0 (fun j h1 h2 => by
   rw [yT hb (by omega) (by omega) (by omega) hn, decide_eq_false (show ¬ (l.length : Int) < (n : Int) - 1 by omega), Bool.and_false, Bool.or_false]
   congr 1
   rw [Bool.eq_iff_iff, beq_iff_eq, beq_iff_eq]
   omega)
  rw [this, if_pos (by omega)]
  rfl
 | d + 1, l, hl, hb, hs => by
  have h0 := mZ hb
  rw [listsO]
  have := yV (rc := listsO (fun l j => qf l j parts n) (parts + 1).toNat (d + 1)) (F := fun j => mixL parts (d + 1) (l ++ [j])) (may := fun l j => qf l j parts n) (p := l) (left := parts - sumL l) (parts + 1).toNat 0 (fun j h1 h2 => by
   rw [yT hb (by omega) (by omega) (by omega) hn, decide_eq_true (show (l.length : Int) < (n : Int) - 1 by omega), Bool.and_true]
   congr 1
   rw [Bool.eq_iff_iff, Bool.or_eq_true, beq_iff_eq, decide_eq_true_eq, decide_eq_true_eq]
   omega) (fun j h1 h2 => Ri hp hn d (l ++ [(j : Int)]) (by simp only [List.length_append, List.length_cons, List.length_nil]; omega) (fun e he => by
    rcases List.mem_append.1 he with he | he
    ·exact hb e he
    ·rw [List.mem_singleton] at he
     omega) (by rw [nv, mT]; omega)) (by omega)
  rw [this, mixL]
  congr 2
  omega
theorem FT {n : Nat} {parts : Int} (hp : 1 ≤ parts ∧ parts ≤ 8) (hn : 1 ≤ n ∧ n ≤ 900) : wU n parts = some (mixL parts n []) := by
 obtain ⟨d, rfl⟩ : ∃ d, n = d + 1 := ⟨n - 1, by omega⟩
 unfold wU
 have hs : smallOk ((d + 1 : Nat) : Int) parts = true := by
  simp only [smallOk, Bool.and_eq_true, decide_eq_true_eq]
  omega
 rw [hs, cond_true, show (((d + 1 : Nat) : Int)).toNat = d + 1 by omega]
 exact Ri hp hn d [] (by simp) (fun e he => by cases he) (by simp only [sumL]; omega)
def allR (n : Nat) : Nat → Int → List (List Int)
 | 0, _ => []
 | k + 1, c => mixL c n [] ++ allR n k (c + 1)
def allL (s : Gs) : List (List Int) := allR s.Tins.length 8 1
theorem yW {s : Gs} (hn : 1 ≤ s.Tins.length ∧ s.Tins.length ≤ 900) : ∀ (k c : Nat), c + k = 8 → mixtO s k c = some ((allR s.Tins.length k ((c : Int) + 1)).map (Gm.mk s))
 | 0, c, _ => rfl
 | k + 1, c, h => by
  have ih := yW hn k (c + 1) (by omega)
  rw [mixtO, FT (by omega) hn, ih]
  simp only [Option.bind_some, allR, List.map_append]
  rw [show ((c + 1 : Nat) : Int) = (c : Int) + 1 by omega]
theorem Rj {s : Gs} (hs : ShOk s) : sS s = some ((allL s).map (Gm.mk s)) := by
 have := hs.n
 exact yW (by omega) 8 0 rfl
end Go.V
end
