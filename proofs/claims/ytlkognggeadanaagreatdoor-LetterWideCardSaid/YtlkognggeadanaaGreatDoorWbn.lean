/- Part of a proof. -/
import Derived.Test.YtlkognggeadanaaGreatDoorWbm
set_option linter.all false
set_option maxRecDepth 4000
set_option maxHeartbeats 40000000
section
namespace Go.V
open Go Go.Proofs IntKind
def EZ (aj : Gld) (av : Int) : Option (Int) := Option.bind (getI aj.marks av) (fun x1 => cond (x1.hyphen) (Option.bind (v8 aj aj.LetterSheet.Other) (fun r2 => some r2)) (cond ((i64.wrap (av + 1)) == (List.length aj.marks : Int)) (some 0) (Option.bind (getI aj.marks (i64.wrap (av + 1))) (fun x3 => cond (x3.row != x1.row) (some 0) (cond (x3.word != x1.word) (Option.bind (v8 aj aj.LetterSheet.Gap) (fun r4 => some r4)) (cond (mapHas ed aj.spaces (Glp.mk x1.sign x3.sign)) (Option.bind (v8 aj (mapGet ed (GSpan.mk 0 0) aj.spaces (Glp.mk x1.sign x3.sign))) (fun r5 => some r5)) (Option.bind (v8 aj aj.LetterSheet.Other) (fun r6 => some r6))))))))
theorem Xn (aj : Gld) (av : Int) (R : Int) (h : EZ aj av = some R) : ag Tryz.prog G0 153 [.agg (cGld aj), .lit (.int .i64 av)] (.tree (.lit (.int .i64 R))) := by
 refine ag.runR mixed Tryz.call153 Tryz.func153 rfl (by simp [Tryz.ntmps153]; kernel_rfl) ?_
 obtain ⟨KF, h, kF, kN⟩ := dZ h
 simp only [EZ] at h
 obtain ⟨x7, o8, h⟩ := optI h kN
 try simp only [hs] at h
 cases d9 : (x7.hyphen)
 ·simp only [d9, hs] at h
  cases cw : ((i64.wrap (av + 1)) == (List.length aj.marks : Int))
  ·simp only [cw, hs] at h
   obtain ⟨GA, jE, h⟩ := optI h kN
   try simp only [hs] at h
   cases bB : (GA.row != x7.row)
   ·simp only [bB, hs] at h
    cases bQ : (GA.word != x7.word)
    ·simp only [bQ, hs] at h
     cases eG : (mapHas ed aj.spaces (Glp.mk x7.sign GA.sign))
     ·simp only [eG, hs] at h
      obtain ⟨vC, CV, h⟩ := optI h kN
      try simp only [hs] at h
      simp only [vz, mq, mqm, tyf, mqt, (bk o8), d9, cw, (bk jE), bB, bQ, eG, nm, seval]
      refine ktree (args0 := [.agg (cGld aj), .agg (cGSpan aj.LetterSheet.Other)]) (by first | (simp only [nrm, aE, @F4, tyf, mqt, d9, cw, bB, bQ, eG] <;> rfl) | rfl) (by simp only [tre, aF, mqr, Bool.and_self]) (Gq _ _ _ CV) ?_
      refine bt (fun tm => tm 67 = .lit (.int .i64 vC) ∧ True) (by refine ⟨?_, trivial⟩ <;> first | (simp only [ua, cu, d9, cw, bB, bQ, eG, nm, seval] <;> rfl) | rfl | (simp only [ua, cu, tyf, mqt, d9, cw, bB, bQ, eG, nm, seval] <;> rfl)) ?_
      rintro tm ⟨bT, _⟩
      try simp only [vz, mq, mqm, tyf, mqt, (bk o8), d9, cw, (bk jE), bB, bQ, eG, bT, nm, seval]
      refine dX (x := (.lit (.int .i64 vC))) (by first | (simp only [Tryz.results153, resV, resL, aV, dP, dQ, uw, cr, tyf, mqt, (bk o8), d9, cw, (bk jE), bB, bQ, eG, nm, seval] <;> rfl) | rfl) ?_
      obtain rfl := kF _ h
      refine dV ?_ ?_
      ·simp only [tre, aF, mqr, Bool.and_self]
      ·first | (simp only [outV, uw, eK, iY, iG, cr, tyf, mqt, nrm, aE, (bk o8), d9, cw, (bk jE), bB, bQ, eG, bT, nm, seval] <;> rfl) | rfl
     simp only [eG, hs] at h
     obtain ⟨GB, mO, h⟩ := optI h kN
     try simp only [hs] at h
     simp only [vz, mq, mqm, tyf, mqt, (bk o8), d9, cw, (bk jE), bB, bQ, eG, nm, seval]
     refine ktree (args0 := [.agg (cGld aj), .agg (cGSpan (mapGet ed (GSpan.mk 0 0) aj.spaces (Glp.mk x7.sign GA.sign)))]) (by first | (simp only [nrm, aE, @F4, tyf, mqt, d9, cw, bB, bQ, eG] <;> rfl) | rfl) (by simp only [tre, aF, mqr, Bool.and_self]) (Gq _ _ _ mO) ?_
     refine bt (fun tm => tm 62 = .lit (.int .i64 GB) ∧ True) (by refine ⟨?_, trivial⟩ <;> first | (simp only [ua, cu, d9, cw, bB, bQ, eG, nm, seval] <;> rfl) | rfl | (simp only [ua, cu, tyf, mqt, d9, cw, bB, bQ, eG, nm, seval] <;> rfl)) ?_
     rintro tm ⟨eE, _⟩
     try simp only [vz, mq, mqm, tyf, mqt, (bk o8), d9, cw, (bk jE), bB, bQ, eG, eE, nm, seval]
     refine dX (x := (.lit (.int .i64 GB))) (by first | (simp only [Tryz.results153, resV, resL, aV, dP, dQ, uw, cr, tyf, mqt, (bk o8), d9, cw, (bk jE), bB, bQ, eG, nm, seval] <;> rfl) | rfl) ?_
     obtain rfl := kF _ h
     refine dV ?_ ?_
     ·simp only [tre, aF, mqr, Bool.and_self]
     ·first | (simp only [outV, uw, eK, iY, iG, cr, tyf, mqt, nrm, aE, (bk o8), d9, cw, (bk jE), bB, bQ, eG, eE, nm, seval] <;> rfl) | rfl
    simp only [bQ, hs] at h
    obtain ⟨vA, lG, h⟩ := optI h kN
    try simp only [hs] at h
    simp only [vz, mq, mqm, tyf, mqt, (bk o8), d9, cw, (bk jE), bB, bQ, nm, seval]
    refine ktree (args0 := [.agg (cGld aj), .agg (cGSpan aj.LetterSheet.Gap)]) (by first | (simp only [nrm, aE, @F4, tyf, mqt, d9, cw, bB, bQ] <;> rfl) | rfl) (by simp only [tre, aF, mqr, Bool.and_self]) (Gq _ _ _ lG) ?_
    refine bt (fun tm => tm 47 = .lit (.int .i64 vA) ∧ True) (by refine ⟨?_, trivial⟩ <;> first | (simp only [ua, cu, d9, cw, bB, bQ, nm, seval] <;> rfl) | rfl | (simp only [ua, cu, tyf, mqt, d9, cw, bB, bQ, nm, seval] <;> rfl)) ?_
    rintro tm ⟨cN, _⟩
    try simp only [vz, mq, mqm, tyf, mqt, (bk o8), d9, cw, (bk jE), bB, bQ, cN, nm, seval]
    refine dX (x := (.lit (.int .i64 vA))) (by first | (simp only [Tryz.results153, resV, resL, aV, dP, dQ, uw, cr, tyf, mqt, (bk o8), d9, cw, (bk jE), bB, bQ, nm, seval] <;> rfl) | rfl) ?_
    obtain rfl := kF _ h
    refine dV ?_ ?_
    ·simp only [tre, aF, mqr, Bool.and_self]
    ·first | (simp only [outV, uw, eK, iY, iG, cr, tyf, mqt, nrm, aE, (bk o8), d9, cw, (bk jE), bB, bQ, cN, nm, seval] <;> rfl) | rfl
   simp only [bB, hs] at h
   try simp only [vz, mq, mqm, tyf, mqt, (bk o8), d9, cw, (bk jE), bB, nm, seval]
   refine dX (x := (.lit (.int .i64 0))) (by first | (simp only [Tryz.results153, resV, resL, aV, dP, dQ, uw, cr, tyf, mqt, (bk o8), d9, cw, (bk jE), bB, nm, seval] <;> rfl) | rfl) ?_
   obtain rfl := kF _ h
   refine dV ?_ ?_
   ·simp only [tre, aF, mqr, Bool.and_self]
   ·first | (simp only [outV, uw, eK, iY, iG, cr, tyf, mqt, nrm, aE, (bk o8), d9, cw, (bk jE), bB, nm, seval] <;> rfl) | rfl
  simp only [cw, hs] at h
  try simp only [vz, mq, mqm, tyf, mqt, (bk o8), d9, cw, nm, seval]
  refine dX (x := (.lit (.int .i64 0))) (by first | (simp only [Tryz.results153, resV, resL, aV, dP, dQ, uw, cr, tyf, mqt, (bk o8), d9, cw, nm, seval] <;> rfl) | rfl) ?_
  obtain rfl := kF _ h
  refine dV ?_ ?_
  ·simp only [tre, aF, mqr, Bool.and_self]
  ·first | (simp only [outV, uw, eK, iY, iG, cr, tyf, mqt, nrm, aE, (bk o8), d9, cw, nm, seval] <;> rfl) | rfl
 simp only [d9, hs] at h
 obtain ⟨FI, kM, h⟩ := optI h kN
 try simp only [hs] at h
 simp only [vz, mq, mqm, tyf, mqt, (bk o8), d9, nm, seval]
 refine ktree (args0 := [.agg (cGld aj), .agg (cGSpan aj.LetterSheet.Other)]) (by first | (simp only [nrm, aE, @F4, tyf, mqt, d9] <;> rfl) | rfl) (by simp only [tre, aF, mqr, Bool.and_self]) (Gq _ _ _ kM) ?_
 refine bt (fun tm => tm 20 = .lit (.int .i64 FI) ∧ True) (by refine ⟨?_, trivial⟩ <;> first | (simp only [ua, cu, d9, nm, seval] <;> rfl) | rfl | (simp only [ua, cu, tyf, mqt, d9, nm, seval] <;> rfl)) ?_
 rintro tm ⟨cO, _⟩
 try simp only [vz, mq, mqm, tyf, mqt, (bk o8), d9, cO, nm, seval]
 refine dX (x := (.lit (.int .i64 FI))) (by first | (simp only [Tryz.results153, resV, resL, aV, dP, dQ, uw, cr, tyf, mqt, (bk o8), d9, nm, seval] <;> rfl) | rfl) ?_
 obtain rfl := kF _ h
 refine dV ?_ ?_
 ·simp only [tre, aF, mqr, Bool.and_self]
 ·first | (simp only [outV, uw, eK, iY, iG, cr, tyf, mqt, nrm, aE, (bk o8), d9, cO, nm, seval] <;> rfl) | rfl
def yu  : List Int → Int → Int → Option (LOut (Int) (Int))
 | [], hY, fC => some (.go fC)
 | e0 :: p0, hY, fC => yu p0 (hY + 1) (i64.wrap (fC + e0))
def Fa (bh : List Int) : Option (Int) := cond (lenOk bh) (lbind (yu bh 0 0) (fun r2 => some r2) (fun c1 => some c1) (fun _ _ => none)) none
theorem Xo (bh : List Int) (R : Int) (h : Fa bh = some R) : ag Tryz.prog G0 169 [.sl (ad eI bh) (List.length bh) false] (.tree (.lit (.int .i64 R))) := by
 refine ag.runR mixed Tryz.call169 Tryz.func169 rfl (by simp [Tryz.ntmps169]; kernel_rfl) ?_
 obtain ⟨KF, h, kF, kN⟩ := dZ h
 simp only [Fa] at h
 cases g4 : (lenOk bh)
 ·simp only [g4, hs] at h
  exact absurd h kN
 simp only [g4, hs] at h
 simp only [vz, tyf, g4, nm, seval]
 obtain ⟨K3, h, qV, qz, AS, AT⟩ := fP h kN
 obtain ⟨f3, qW, h⟩ := call3 h
 obtain ⟨I3, ji⟩ : ∃ I : Nat → St → Prop, I = (fun m st => ∃ (p3 : List Int) (bO : Int) (gq : Int), m = List.length p3 ∧ 0 ≤ bO ∧ List.drop (Int.toNat bO) bh = p3 ∧ st.df = [] ∧ 5 ≤ st.nx ∧ st.tm 6 = .sl (ad eI bh) (List.length bh) false ∧ st.tm 7 = .lit (.int .i64 (List.length bh : Int)) ∧ st.tm 3 = .lit (.int .i64 gq) ∧ st.tm 8 = .lit (.int .i64 bO) ∧ K3 (f3 p3 bO gq)) := ⟨_, rfl⟩
 refine loopK mixed (by kernel_rfl) I3 (List.length bh) (by rw [ji]; refine ⟨bh, 0, 0, rfl, Int.le_refl _, rfl, rfl, (show 5 ≤ 5 by omega), ?_, ?_, ?_, ?_, h⟩ <;> first | (simp only [ua, nm, seval] <;> rfl) | rfl) ?_
 rintro m ⟨tm, H, lQ, df⟩ hinv
 rw [ji] at hinv
 obtain ⟨p3, bO, gq, rfl, eP, fE, hdf, qX, e5, e6, e7, e8, h⟩ := hinv
 simp only at hdf qX e5 e6 e7 e8
 have n9 := fO (m := 5) (b := lQ) (by omega)
 subst hdf qW
 cases p3 with
 | nil =>
  have cw : (decide (bO < (List.length bh : Int))) = false := eZ eP fE
  simp only [yu, hs, reduceCtorEq] at h
  replace h := qz _ h
  try dsimp only at h
  try simp only [hs] at h
  try simp only [vz, tyf, g4, n9, e5, e6, e7, e8, cw, nm, seval]
  refine dX (x := (.lit (.int .i64 gq))) (by first | (simp only [Tryz.results169, resV, resL, aV, dP, dQ, uw, cr, tyf, g4, n9, cw, nm, seval] <;> rfl) | rfl) ?_
  obtain rfl := kF _ h
  refine dV ?_ ?_
  ·simp only [tre, aF, Bool.and_self]
  ·first | (simp only [outV, uw, eK, cr, tyf, nrm, aE, g4, n9, e5, e6, e7, e8, cw, nm, seval] <;> rfl) | rfl
 | cons e3 p3 =>
  have fF : (decide (bO < (List.length bh : Int))) = true := eY eP fE
  have pJ := dY eP fE
  have ou := fa eP fE g4
  simp only [yu, hs, reduceCtorEq] at h
  simp only [vz, tyf, g4, n9, e5, e6, e7, e8, fF, (au pJ), ou, nm, seval]
  exact ⟨List.length p3, Nat.lt_succ_self _, by rw [ji]; refine ⟨p3, bO + 1, i64.wrap (gq + e3), rfl, Int.le_trans eP (Int.le_add_one (Int.le_refl _)), bJ eP fE, rfl, (show 5 ≤ lQ + 10 by omega), e5, e6, ?_, ?_, (by first | exact h | (simp only [fF]; exact h))⟩ <;> first | (simp only [ua, n9, e5, e6, e7, e8, fF, ou, nm, seval] <;> rfl) | rfl⟩
def sS (aj : Gld) (bx : Int) : List Glm → Int → (List Int) → Option (LOut (Int) ((List Int)))
 | [], iA, bV => some (.go bV)
 | e0 :: p0, iA, bV => cond (e0.row != bx) (sS aj bx p0 (iA + 1) bV) (Option.bind (getI aj.LetterSheet.Widths e0.sign) (fun x1 => Option.bind (EZ aj iA) (fun r2 => cond (aY 8 (List.length (bV ++ [x1, r2]))) (cond (e0.hyphen) (cond (aY 8 (List.length ((bV ++ [x1, r2]) ++ [aj.LetterSheet.Hyphen]))) (sS aj bx p0 (iA + 1) ((bV ++ [x1, r2]) ++ [aj.LetterSheet.Hyphen])) none) (sS aj bx p0 (iA + 1) (bV ++ [x1, r2]))) none)))
def zO (aj : Gld) (bx : Int) : Option (Int) := cond (lenOk aj.marks) (lbind (sS aj bx aj.marks 0 ([] : List Int)) (fun r5 => some r5) (fun c3 => Option.bind (Fa c3) (fun r4 => some r4)) (fun _ _ => none)) none
theorem Xp (aj : Gld) (bx : Int) (R : Int) (h : zO aj bx = some R) : ag Tryz.prog G0 152 [.agg (cGld aj), .lit (.int .i64 bx)] (.tree (.lit (.int .i64 R))) := by
 refine ag.runR mixed Tryz.call152 Tryz.func152 rfl (by simp [Tryz.ntmps152]; kernel_rfl) ?_
 obtain ⟨KF, h, kF, kN⟩ := dZ h
 simp only [zO] at h
 cases g7 : (lenOk aj.marks)
 ·simp only [g7, hs] at h
  exact absurd h kN
 simp only [g7, hs] at h
 simp only [vz, mq, mqm, tyf, mqt, g7, nm, seval]
 obtain ⟨K6, h, wq, tF, K2, iH⟩ := fP h kN
 obtain ⟨f6, wu, h⟩ := call3 h
 obtain ⟨I6, ir⟩ : ∃ I : Nat → St → Prop, I = (fun m st => ∃ (p6 : List Glm) (ca : Int) (bn : List Int) (lh : VV), m = List.length p6 ∧ 0 ≤ ca ∧ List.drop (Int.toNat ca) aj.marks = p6 ∧ st.df = [] ∧ 7 ≤ st.nx ∧ st.H 0 = some (.cells (some 93) (cGld aj)) ∧ st.tm 1 = .lit (.int .i64 bx) ∧ st.tm 2 = .ptr 0 0 ∧ st.tm 9 = .sl (ad cGlm aj.marks) (List.length aj.marks) false ∧ st.tm 10 = .lit (.int .i64 (List.length aj.marks : Int)) ∧ st.tm 5 = lh ∧ st.tm 11 = .lit (.int .i64 ca) ∧ ((∃ (β : Nat) (el : Option TypeId), lh = .ref β 0 (List.length bn) 1 (List.length bn) ∧ β < st.nx ∧ β ≠ 0 ∧ st.H β = some (.cells el (ad eI bn))) ∨ (lh = .lit (.slice none 0 0) ∧ bn = [])) ∧ K6 (f6 p6 ca bn)) := ⟨_, rfl⟩
 refine loopK mixed (by kernel_rfl) I6 (List.length aj.marks) (by rw [ir]; refine ⟨aj.marks, 0, ([] : List Int), .lit (.slice none 0 0), rfl, Int.le_refl _, rfl, rfl, (show 7 ≤ 7 by omega), ?_, ?_, ?_, ?_, ?_, ?_, ?_, Or.inr ⟨rfl, rfl⟩, h⟩ <;> first | (simp only [ua, cu, nm, seval] <;> rfl) | rfl) ?_
 rintro m ⟨tm, H, eM, df⟩ hinv
 rw [ir] at hinv
 obtain ⟨p6, ca, bn, lh, rfl, de, eN, hdf, wv, H8, e9, bj, bm, bU, bA, cL, me, h⟩ := hinv
 simp only at hdf wv H8 e9 bj bm bU bA cL me
 have jc := fO (m := 7) (b := eM) (by omega)
 subst hdf wu
 rcases me with ⟨ju, iy, rfl, xy, TN, pd⟩ | ⟨rfl, rfl⟩
 ·have ov := vZ xy
  have yv := ne_f TN
  cases p6 with
  | nil =>
   have fS : (decide (ca < (List.length aj.marks : Int))) = false := eZ de eN
   simp only [sS, hs, reduceCtorEq] at h
   replace h := tF _ h
   try dsimp only at h
   try simp only [hs] at h
   obtain ⟨vh, jj, h⟩ := optI h kN
   try simp only [hs] at h
   simp only [vz, mq, mqm, tyf, mqt, g7, jc, e9, bj, bm, bU, bA, cL, H8, ov, pd, yv, fS, nm, seval]
   refine kseen (args0 := [.sl (ad eI bn) (List.length bn) false]) (by simp only [List.map_cons, List.map_nil, eK, cq, ct, cr, tyf, mqt, nrm, aE, g7, jc, e9, bj, bm, bU, bA, cL, H8, ov, pd, yv, fS, nm, seval] <;> rfl) (by simp only [List.map_cons, List.map_nil, eK, cq, ct, cr, tyf, mqt, nrm, aE, g7, jc, e9, bj, bm, bU, bA, cL, H8, ov, pd, yv, fS, nm, seval]; simp only [tre, aF, mqr, Bool.and_self]) (Xo _ _ jj) (by first | rfl | simp only [VV.flat, flatL, Bool.and_self]) ?_
   refine bt (fun tm => tm 43 = .lit (.int .i64 vh) ∧ True) (by refine ⟨?_, trivial⟩ <;> first | (simp only [ua, cu, jc, e9, bj, bm, bU, bA, cL, H8, ov, pd, yv, fS, nm, seval] <;> rfl) | rfl) ?_
   rintro tm ⟨cE, _⟩
   have AU := And.intro g7 (And.intro jc (And.intro H8 (And.intro ov (And.intro pd (And.intro yv fS)))))
   try simp only [vz, mq, mqm, tyf, mqt, AU, cE, nm, seval]
   refine dX (x := (.lit (.int .i64 vh))) (by first | (simp only [Tryz.results152, resV, resL, aV, dP, dQ, uw, cr, tyf, mqt, AU, nm, seval] <;> rfl) | rfl) ?_
   obtain rfl := kF _ h
   refine dV ?_ ?_
   ·simp only [tre, aF, mqr, Bool.and_self]
   ·first | (simp only [outV, uw, eK, iY, iG, cr, tyf, mqt, nrm, aE, AU, cE, nm, seval] <;> rfl) | rfl
  | cons e6 p6 =>
   have mD : (decide (ca < (List.length aj.marks : Int))) = true := eY de eN
   have kM := dY de eN
   have Xq := fa de eN g7
   simp only [sS, hs, reduceCtorEq] at h
   cases um : (e6.row != bx)
   ·simp only [um, hs] at h
    have hX := And.intro g7 (And.intro jc (And.intro H8 (And.intro ov (And.intro pd (And.intro yv (And.intro mD (And.intro Xq um)))))))
    simp only [vz, mq, mqm, tyf, mqt, hX, e9, bj, bm, bU, bA, cL, (bk kM), nm, seval]
    refine F5 (fun tm => tm 1 = .lit (.int .i64 bx) ∧ tm 2 = .ptr 0 0 ∧ tm 5 = .ref ju 0 (List.length bn) 1 (List.length bn) ∧ tm 6 = .lit (.int .i64 ca) ∧ tm 7 = .ptr (eM + 4) 0 ∧ tm 9 = .sl (ad cGlm aj.marks) (List.length aj.marks) false ∧ tm 10 = .lit (.int .i64 (List.length aj.marks : Int)) ∧ tm 11 = .lit (.int .i64 ca) ∧ True) (by refine ⟨e9, bj, bA, ?_, ?_, bm, bU, cL, trivial⟩ <;> first | (simp only [ua, cu, hX, e9, bj, bm, bU, bA, cL, nm, seval] <;> rfl) | rfl) ?_
    rintro tm ⟨gn, bS, pb, lM, fX, fu, iu, dj, _⟩
    obtain ⟨sT, tx, h⟩ := optI h iH
    try simp only [hs] at h
    obtain ⟨oL, Qc, h⟩ := optI h iH
    try simp only [hs] at h
    simp only [vz, mq, mqm, tyf, mqt, hX, (bk kM), gn, bS, pb, lM, fX, fu, iu, dj, (au tx), nm, seval]
    refine dktree (args0 := [.agg (cGld aj), .lit (.int .i64 ca)]) (by first | (simp only [nrm, aE, mqr] <;> rfl) | rfl) (by simp only [tre, aF, mqr, Bool.and_self]) (Xn _ _ _ Qc) ?_
    refine bt (fun tm => tm 1 = .lit (.int .i64 bx) ∧ tm 2 = .ptr 0 0 ∧ tm 7 = .ptr (eM + 4) 0 ∧ tm 9 = .sl (ad cGlm aj.marks) (List.length aj.marks) false ∧ tm 10 = .lit (.int .i64 (List.length aj.marks : Int)) ∧ tm 11 = .lit (.int .i64 ca) ∧ tm 20 = .ref ju 0 (List.length bn) 1 (List.length bn) ∧ tm 27 = .lit (.int .i64 sT) ∧ tm 30 = .lit (.int .i64 oL) ∧ True) (by refine ⟨gn, bS, fX, fu, iu, dj, ?_, ?_, ?_, trivial⟩ <;> first | (simp only [ua, cu, hX, gn, bS, pb, lM, fX, fu, iu, dj, nm, seval] <;> rfl) | rfl) ?_
    rintro tm ⟨bR, bC, cn, dc, iq, gT, jL, iv, gu, _⟩
    cases qM : (aY 8 (List.length (bn ++ [sT, oL])))
    ·simp only [qM, hs] at h
     exact absurd h iH
    simp only [qM, hs] at h
    simp only [vz, mq, mqm, tyf, mqt, hX, (bk kM), (au tx), bR, bC, cn, dc, iq, gT, jL, iv, gu, qM, nm, seval]
    refine k_app (w := 1) (enc := eI) (xs := bn) (ys := ([sT, oL])) (el := iy) (jC := (some 3)) (fun _ => rfl) uS sA Tryz.underlying22 (by first | rfl | assumption | (simp only [cq, ct, lq, hX, nm, seval] <;> rfl) | (simp only [cq, ct, gb, gw, fV, fW, tyf, mqt, hX, (bk kM), (au tx), bR, bC, cn, dc, iq, gT, jL, iv, gu, qM, nm, seval]; done)) (by first | rfl | assumption | (simp only [cq, ct, lq, hX, nm, seval] <;> rfl) | (simp only [cq, ct, gb, gw, fV, fW, tyf, mqt, hX, (bk kM), (au tx), bR, bC, cn, dc, iq, gT, jL, iv, gu, qM, nm, seval]; done)) (Nat.zero_lt_succ _) qM ?_
    simp only [vz, mq, mqm, tyf, mqt, hX, (bk kM), (au tx), bR, bC, cn, dc, iq, gT, jL, iv, gu, qM, nm, seval]
    refine Gy ⟨?_, ?_⟩
    ·simp only [G3, G2, vD, Gz, and_true, true_and]
     repeat' (first | exact trivial | refine And.intro ?_ ?_ | rw [vD] | rw [G1] | exact Or.inl (by decide +kernel) | exact Or.inl (by dsimp only; decide +kernel) | (refine Or.inr ⟨?_, ?_⟩ <;> simp; done) | (refine Or.inr ⟨?_, ?_⟩ <;> simp <;> omega) | (refine Or.inr ⟨?_, ?_⟩ <;> simp [VEff.wr] <;> omega))
    cases qs : (e6.hyphen)
    ·simp only [qs, hs] at h
     simp only [vz, mq, mqm, tyf, mqt, hX, (bk kM), (au tx), bR, bC, cn, dc, iq, gT, jL, iv, gu, qM, qs, nm, seval]
     exact ⟨List.length p6, Nat.lt_succ_self _, by rw [ir]; refine ⟨p6, ca + 1, (bn ++ [sT, oL]), .ref (eM + 23) 0 (List.length (bn ++ [sT, oL])) 1 (List.length (bn ++ [sT, oL])), rfl, Int.le_trans de (Int.le_add_one (Int.le_refl _)), bJ de eN, rfl, (show 7 ≤ eM + 29 by omega), ?_, bR, bC, dc, iq, ?_, ?_, Or.inl ⟨eM + 23, (sameEl iy 3), rfl, (by first | omega | (simp only [nm, seval]; done) | (simp only [nm, seval]; omega)), (by first | omega | (intro hh; simp only [hX, reduceCtorEq] at hh)), ?_⟩, (by first | exact h | (simp only [hX, qs]; exact h))⟩ <;> first | (simp only [ua, cu, hX, bR, bC, cn, dc, iq, gT, jL, iv, gu, qs, nm, seval] <;> rfl) | rfl | (simp only [ua, cu, tyf, mqt, hX, bR, bC, cn, dc, iq, gT, jL, iv, gu, qs, nm, seval] <;> rfl)⟩
    simp only [qs, hs] at h
    cases yw : (aY 8 (List.length ((bn ++ [sT, oL]) ++ [aj.LetterSheet.Hyphen])))
    ·simp only [yw, hs] at h
     exact absurd h iH
    simp only [yw, hs] at h
    simp only [vz, mq, mqm, tyf, mqt, hX, (bk kM), (au tx), bR, bC, cn, dc, iq, gT, jL, iv, gu, qM, qs, yw, nm, seval]
    refine k_app (w := 1) (enc := eI) (xs := (bn ++ [sT, oL])) (ys := ([aj.LetterSheet.Hyphen])) (el := (sameEl iy 3)) (jC := (some 3)) (fun _ => rfl) uS sA Tryz.underlying22 (by first | rfl | assumption | (simp only [cq, ct, lq, hX, nm, seval] <;> rfl) | (simp only [cq, ct, gb, gw, fV, fW, tyf, mqt, hX, (bk kM), (au tx), bR, bC, cn, dc, iq, gT, jL, iv, gu, qM, qs, yw, nm, seval]; done)) (by first | rfl | assumption | (simp only [cq, ct, lq, hX, nm, seval] <;> rfl) | (simp only [cq, ct, gb, gw, fV, fW, tyf, mqt, hX, (bk kM), (au tx), bR, bC, cn, dc, iq, gT, jL, iv, gu, qM, qs, yw, nm, seval]; done)) (Nat.zero_lt_succ _) yw ?_
    simp only [vz, mq, mqm, tyf, mqt, hX, (bk kM), (au tx), bR, bC, cn, dc, iq, gT, jL, iv, gu, qM, qs, yw, nm, seval]
    exact ⟨List.length p6, Nat.lt_succ_self _, by rw [ir]; refine ⟨p6, ca + 1, ((bn ++ [sT, oL]) ++ [aj.LetterSheet.Hyphen]), .ref (eM + 32) 0 (List.length ((bn ++ [sT, oL]) ++ [aj.LetterSheet.Hyphen])) 1 (List.length ((bn ++ [sT, oL]) ++ [aj.LetterSheet.Hyphen])), rfl, Int.le_trans de (Int.le_add_one (Int.le_refl _)), bJ de eN, rfl, (show 7 ≤ eM + 36 by omega), ?_, bR, bC, dc, iq, ?_, ?_, Or.inl ⟨eM + 32, (sameEl (sameEl iy 3) 3), rfl, (by first | omega | (simp only [nm, seval]; done) | (simp only [nm, seval]; omega)), (by first | omega | (intro hh; simp only [hX, reduceCtorEq] at hh)), ?_⟩, (by first | exact h | (simp only [hX, qs]; exact h))⟩ <;> first | (simp only [ua, cu, hX, bR, bC, cn, dc, iq, gT, jL, iv, gu, qs, nm, seval] <;> rfl) | rfl | (simp only [ua, cu, tyf, mqt, hX, bR, bC, cn, dc, iq, gT, jL, iv, gu, qs, nm, seval] <;> rfl)⟩
   simp only [um, hs] at h
   have GC := And.intro g7 (And.intro jc (And.intro H8 (And.intro ov (And.intro pd (And.intro yv (And.intro mD (And.intro Xq um)))))))
   simp only [vz, mq, mqm, tyf, mqt, GC, e9, bj, bm, bU, bA, cL, (bk kM), nm, seval]
   exact ⟨List.length p6, Nat.lt_succ_self _, by rw [ir]; refine ⟨p6, ca + 1, bn, .ref ju 0 (List.length bn) 1 (List.length bn), rfl, Int.le_trans de (Int.le_add_one (Int.le_refl _)), bJ de eN, rfl, (show 7 ≤ eM + 13 by omega), ?_, e9, bj, bm, bU, ?_, ?_, Or.inl ⟨ju, iy, rfl, (by first | omega | (simp only [nm, seval]; done) | (simp only [nm, seval]; omega)), (by first | omega | (intro hh; simp only [GC, reduceCtorEq] at hh)), ?_⟩, (by first | exact h | (simp only [GC]; exact h))⟩ <;> first | (simp only [ua, cu, GC, e9, bj, bm, bU, bA, cL, nm, seval] <;> rfl) | rfl⟩
 ·cases p6 with
  | nil =>
   have tS : (decide (ca < (List.length aj.marks : Int))) = false := eZ de eN
   simp only [sS, hs, reduceCtorEq] at h
   replace h := tF _ h
   try dsimp only at h
   try simp only [hs] at h
   obtain ⟨Xr, jQ, h⟩ := optI h kN
   try simp only [hs] at h
   simp only [vz, mq, mqm, tyf, mqt, g7, jc, e9, bj, bm, bU, bA, cL, H8, tS, nm, seval]
   refine ktree (args0 := [.sl (ad eI ([] : List Int)) (List.length ([] : List Int)) false]) (by first | (simp only [nrm, aE, mqr] <;> rfl) | rfl) (by simp only [tre, aF, mqr, Bool.and_self]) (Xo _ _ jQ) ?_
   refine bt (fun tm => tm 43 = .lit (.int .i64 Xr) ∧ True) (by refine ⟨?_, trivial⟩ <;> first | (simp only [ua, cu, jc, e9, bj, bm, bU, bA, cL, H8, tS, nm, seval] <;> rfl) | rfl) ?_
   rintro tm ⟨mZ, _⟩
   try simp only [vz, mq, mqm, tyf, mqt, g7, jc, H8, tS, mZ, nm, seval]
   refine dX (x := (.lit (.int .i64 Xr))) (by first | (simp only [Tryz.results152, resV, resL, aV, dP, dQ, uw, cr, tyf, mqt, g7, jc, H8, tS, nm, seval] <;> rfl) | rfl) ?_
   obtain rfl := kF _ h
   refine dV ?_ ?_
   ·simp only [tre, aF, mqr, Bool.and_self]
   ·first | (simp only [outV, uw, eK, iY, iG, cr, tyf, mqt, nrm, aE, g7, jc, H8, tS, mZ, nm, seval] <;> rfl) | rfl
  | cons e6 p6 =>
   have jv : (decide (ca < (List.length aj.marks : Int))) = true := eY de eN
   have nv := dY de eN
   have mI := fa de eN g7
   simp only [sS, hs, reduceCtorEq] at h
   cases oR : (e6.row != bx)
   ·simp only [oR, hs] at h
    simp only [vz, mq, mqm, tyf, mqt, g7, jc, e9, bj, bm, bU, bA, cL, H8, jv, (bk nv), mI, oR, nm, seval]
    refine F5 (fun tm => tm 1 = .lit (.int .i64 bx) ∧ tm 2 = .ptr 0 0 ∧ tm 5 = .lit (.slice none 0 0) ∧ tm 6 = .lit (.int .i64 ca) ∧ tm 7 = .ptr (eM + 4) 0 ∧ tm 9 = .sl (ad cGlm aj.marks) (List.length aj.marks) false ∧ tm 10 = .lit (.int .i64 (List.length aj.marks : Int)) ∧ tm 11 = .lit (.int .i64 ca) ∧ True) (by refine ⟨e9, bj, bA, ?_, ?_, bm, bU, cL, trivial⟩ <;> first | (simp only [ua, cu, jc, e9, bj, bm, bU, bA, cL, H8, jv, mI, oR, nm, seval] <;> rfl) | rfl) ?_
    rintro tm ⟨fx, f2, gp, lC, lS, kn, pL, oz, _⟩
    obtain ⟨oY, oa, h⟩ := optI h iH
    try simp only [hs] at h
    obtain ⟨sU, o73, h⟩ := optI h iH
    try simp only [hs] at h
    simp only [vz, mq, mqm, tyf, mqt, g7, jc, H8, jv, (bk nv), mI, oR, fx, f2, gp, lC, lS, kn, pL, oz, (au oa), nm, seval]
    refine dktree (args0 := [.agg (cGld aj), .lit (.int .i64 ca)]) (by first | (simp only [nrm, aE, mqr] <;> rfl) | rfl) (by simp only [tre, aF, mqr, Bool.and_self]) (Xn _ _ _ o73) ?_
    refine bt (fun tm => tm 1 = .lit (.int .i64 bx) ∧ tm 2 = .ptr 0 0 ∧ tm 7 = .ptr (eM + 4) 0 ∧ tm 9 = .sl (ad cGlm aj.marks) (List.length aj.marks) false ∧ tm 10 = .lit (.int .i64 (List.length aj.marks : Int)) ∧ tm 11 = .lit (.int .i64 ca) ∧ tm 20 = .lit (.slice none 0 0) ∧ tm 27 = .lit (.int .i64 oY) ∧ tm 30 = .lit (.int .i64 sU) ∧ True) (by refine ⟨fx, f2, lS, kn, pL, oz, ?_, ?_, ?_, trivial⟩ <;> first | (simp only [ua, cu, jc, H8, jv, mI, oR, fx, f2, gp, lC, lS, kn, pL, oz, nm, seval] <;> rfl) | rfl) ?_
    rintro tm ⟨ia, iw, fD, dN, cK, bE, bN, bK, bL, _⟩
    cases vP : (aY 8 (List.length (([] : List Int) ++ [oY, sU])))
    ·simp only [vP, hs] at h
     exact absurd h iH
    simp only [vP, hs] at h
    simp only [vz, mq, mqm, tyf, mqt, g7, jc, H8, jv, (bk nv), mI, oR, (au oa), ia, iw, fD, dN, cK, bE, bN, bK, bL, vP, nm, seval]
    refine tB (w := 1) (enc := eI) (ys := ([oY, sU])) (jC := (some 3)) (fun _ => rfl) uS sA Tryz.underlying22 (by first | rfl | assumption | (simp only [cq, ct, lq, jc, H8, nm, seval] <;> rfl) | (simp only [cq, ct, gb, gw, fV, fW, tyf, mqt, g7, jc, H8, jv, (bk nv), mI, oR, (au oa), ia, iw, fD, dN, cK, bE, bN, bK, bL, vP, nm, seval]; done)) (Nat.zero_lt_succ _) vP ?_
    simp only [vz, mq, mqm, tyf, mqt, g7, jc, H8, jv, (bk nv), mI, oR, (au oa), ia, iw, fD, dN, cK, bE, bN, bK, bL, vP, nm, seval]
    refine Gy ⟨?_, ?_⟩
    ·simp only [G3, G2, vD, Gz, and_true, true_and]
     repeat' (first | exact trivial | refine And.intro ?_ ?_ | rw [vD] | rw [G1] | exact Or.inl (by decide +kernel) | exact Or.inl (by dsimp only; decide +kernel) | (refine Or.inr ⟨?_, ?_⟩ <;> simp; done) | (refine Or.inr ⟨?_, ?_⟩ <;> simp <;> omega) | (refine Or.inr ⟨?_, ?_⟩ <;> simp [VEff.wr] <;> omega))
    cases GD : (e6.hyphen)
    ·simp only [GD, hs] at h
     have Fb := And.intro g7 (And.intro jc (And.intro H8 (And.intro jv (And.intro mI (And.intro oR (And.intro vP GD))))))
     simp only [vz, mq, mqm, tyf, mqt, Fb, (bk nv), (au oa), ia, iw, fD, dN, cK, bE, bN, bK, bL, nm, seval]
     exact ⟨List.length p6, Nat.lt_succ_self _, by rw [ir]; refine ⟨p6, ca + 1, (([] : List Int) ++ [oY, sU]), .ref (eM + 23) 0 (List.length (([] : List Int) ++ [oY, sU])) 1 (List.length (([] : List Int) ++ [oY, sU])), rfl, Int.le_trans de (Int.le_add_one (Int.le_refl _)), bJ de eN, rfl, (show 7 ≤ eM + 29 by omega), ?_, ia, iw, dN, cK, ?_, ?_, Or.inl ⟨eM + 23, (some 3), rfl, (by first | omega | (simp only [nm, seval]; done) | (simp only [nm, seval]; omega)), (by first | omega | (intro hh; simp only [Fb, reduceCtorEq] at hh)), ?_⟩, (by first | exact h | (simp only [Fb]; exact h))⟩ <;> first | (simp only [ua, cu, Fb, ia, iw, fD, dN, cK, bE, bN, bK, bL, nm, seval] <;> rfl) | rfl | (simp only [ua, cu, tyf, mqt, Fb, ia, iw, fD, dN, cK, bE, bN, bK, bL, nm, seval] <;> rfl)⟩
    simp only [GD, hs] at h
    have tz := And.intro g7 (And.intro jc (And.intro H8 (And.intro jv (And.intro mI (And.intro oR (And.intro vP GD))))))
    cases yx : (aY 8 (List.length ((([] : List Int) ++ [oY, sU]) ++ [aj.LetterSheet.Hyphen])))
    ·simp only [yx, hs] at h
     exact absurd h iH
    simp only [yx, hs] at h
    simp only [vz, mq, mqm, tyf, mqt, tz, (bk nv), (au oa), ia, iw, fD, dN, cK, bE, bN, bK, bL, yx, nm, seval]
    refine k_app (w := 1) (enc := eI) (xs := (([] : List Int) ++ [oY, sU])) (ys := ([aj.LetterSheet.Hyphen])) (el := (some 3)) (jC := (some 3)) (fun _ => rfl) uS sA Tryz.underlying22 (by first | rfl | assumption | (simp only [cq, ct, lq, tz, nm, seval] <;> rfl) | (simp only [cq, ct, gb, gw, fV, fW, tyf, mqt, tz, (bk nv), (au oa), ia, iw, fD, dN, cK, bE, bN, bK, bL, yx, nm, seval]; done)) (by first | rfl | assumption | (simp only [cq, ct, lq, tz, nm, seval] <;> rfl) | (simp only [cq, ct, gb, gw, fV, fW, tyf, mqt, tz, (bk nv), (au oa), ia, iw, fD, dN, cK, bE, bN, bK, bL, yx, nm, seval]; done)) (Nat.zero_lt_succ _) yx ?_
    simp only [vz, mq, mqm, tyf, mqt, tz, (bk nv), (au oa), ia, iw, fD, dN, cK, bE, bN, bK, bL, yx, nm, seval]
    exact ⟨List.length p6, Nat.lt_succ_self _, by rw [ir]; refine ⟨p6, ca + 1, ((([] : List Int) ++ [oY, sU]) ++ [aj.LetterSheet.Hyphen]), .ref (eM + 32) 0 (List.length ((([] : List Int) ++ [oY, sU]) ++ [aj.LetterSheet.Hyphen])) 1 (List.length ((([] : List Int) ++ [oY, sU]) ++ [aj.LetterSheet.Hyphen])), rfl, Int.le_trans de (Int.le_add_one (Int.le_refl _)), bJ de eN, rfl, (show 7 ≤ eM + 36 by omega), ?_, ia, iw, dN, cK, ?_, ?_, Or.inl ⟨eM + 32, (sameEl (some 3) 3), rfl, (by first | omega | (simp only [nm, seval]; done) | (simp only [nm, seval]; omega)), (by first | omega | (intro hh; simp only [tz, reduceCtorEq] at hh)), ?_⟩, (by first | exact h | (simp only [tz]; exact h))⟩ <;> first | (simp only [ua, cu, tz, ia, iw, fD, dN, cK, bE, bN, bK, bL, nm, seval] <;> rfl) | rfl | (simp only [ua, cu, tyf, mqt, tz, ia, iw, fD, dN, cK, bE, bN, bK, bL, nm, seval] <;> rfl)⟩
   simp only [oR, hs] at h
   simp only [vz, mq, mqm, tyf, mqt, g7, jc, e9, bj, bm, bU, bA, cL, H8, jv, (bk nv), mI, oR, nm, seval]
   exact ⟨List.length p6, Nat.lt_succ_self _, by rw [ir]; refine ⟨p6, ca + 1, ([] : List Int), .lit (.slice none 0 0), rfl, Int.le_trans de (Int.le_add_one (Int.le_refl _)), bJ de eN, rfl, (show 7 ≤ eM + 13 by omega), ?_, e9, bj, bm, bU, ?_, ?_, Or.inr ⟨rfl, rfl⟩, (by first | exact h | (simp only [jv, oR]; exact h))⟩ <;> first | (simp only [ua, cu, jc, e9, bj, bm, bU, bA, cL, H8, jv, mI, oR, nm, seval] <;> rfl) | rfl⟩
def wM (aj : Gld) : List GLe → Int → (List Int) → Option (LOut (List Int) ((List Int)))
 | [], iB, ix => some (.go ix)
 | e0 :: p0, iB, ix => Option.bind (zO aj iB) (fun r3 => Option.bind (getI ix iB) (fun x4 => wM aj p0 (iB + 1) (List.set ix (Int.toNat iB) r3)))
def BA (aj : Gld) : Option (List Int) := cond (mkOk 8 (List.length aj.LetterSetting.Ends : Int)) (cond (lenOk aj.LetterSetting.Ends) (lbind (wM aj aj.LetterSetting.Ends 0 (List.replicate (Int.toNat (List.length aj.LetterSetting.Ends : Int)) 0)) (fun r6 => some r6) (fun c5 => some c5) (fun _ _ => none)) none) none
theorem Zw (aj : Gld) (R : List Int) (h : BA aj = some R) : ag Tryz.prog G0 72 [.agg (cGld aj)] (.tree (.sl (ad eI R) (List.length R) false)) := by
 refine ag.runR mixed Tryz.call72 Tryz.func72 rfl (by simp [Tryz.ntmps72]; kernel_rfl) ?_
 obtain ⟨KF, h, kF, kN⟩ := dZ h
 simp only [BA] at h
 try simp only [vz, mq, mqm, tyf, mqt, nm, seval]
 refine kopen ?_
 rw [Oh]
 refine aK.run mixed Tryz.call118 Tryz.func118 rfl (by simp [Tryz.ntmps118]; kernel_rfl) ?_
 cases g7 : (mkOk 8 (List.length aj.LetterSetting.Ends : Int))
 ·simp only [g7, hs] at h
  exact absurd h kN
 simp only [g7, hs] at h
 try simp only [vz, mq, mqm, tyf, mqt, g7, nm, seval]
 refine k_mkS (enc := eI) (z := (0 : Int)) sA (by kernel_rfl) rfl (by first | (simp only [rn, BY, rp, yC, g7, nm, seval] <;> rfl) | rfl) (by first | (simp only [rn, BY, rp, yC, g7, nm, seval] <;> rfl) | rfl) g7 ?_
 cases g9 : (lenOk aj.LetterSetting.Ends)
 ·simp only [g9, hs] at h
  exact absurd h kN
 simp only [g9, hs] at h
 simp only [vz, mq, mqm, tyf, mqt, g7, g9, nm, seval]
 obtain ⟨K8, h, kR8, kG8, kB8, Xs⟩ := fP h kN
 obtain ⟨f8, hf8, h⟩ := call3 h
 obtain ⟨I8, TO⟩ : ∃ I : Nat → St → Prop, I = (fun m st => ∃ (p8 : List GLe) (ep : Int) (dK : List Int), m = List.length p8 ∧ 0 ≤ ep ∧ List.drop (Int.toNat ep) aj.LetterSetting.Ends = p8 ∧ st.df = [] ∧ 19 ≤ st.nx ∧ st.H 9 = some (.cells (some 93) (cGld aj)) ∧ st.H 12 = some (.cells (some 180) ([VV.fn (Fn.func 152) [] []] ++ [VV.fn (Fn.func 153) [] []])) ∧ st.H 15 = some (.cells ((some 3)) (ad eI dK)) ∧ st.tm 1 = .lit (.int .i64 0) ∧ st.tm 3 = .ptr 9 0 ∧ st.tm 7 = .ptr 12 0 ∧ st.tm 8 = .ref 15 0 (List.length dK) 1 (List.length dK) ∧ st.tm 13 = .lit (.int .i64 (List.length aj.LetterSetting.Ends : Int)) ∧ st.tm 14 = .lit (.int .i64 ep) ∧ K8 (f8 p8 ep dK)) := ⟨_, rfl⟩
 refine loopK mixed (by kernel_rfl) I8 (List.length aj.LetterSetting.Ends) (by rw [TO]; refine ⟨aj.LetterSetting.Ends, 0, (List.replicate (Int.toNat (List.length aj.LetterSetting.Ends : Int)) 0), rfl, Int.le_refl _, rfl, rfl, (show 19 ≤ 19 by omega), ?_, ?_, ?_, ?_, ?_, ?_, ?_, ?_, ?_, h⟩ <;> first | (simp only [ua, cu, nm, seval] <;> rfl) | rfl) ?_
 rintro m ⟨tm, H, Xt, df⟩ hinv
 rw [TO] at hinv
 obtain ⟨p8, ep, dK, rfl, zP, Fc, hdf, hn8, uT, lu, lv, bA, cL, dO, dM, dv, bT, h⟩ := hinv
 simp only at hdf hn8 uT lu lv bA cL dO dM dv bT
 have mi := fO (m := 19) (b := Xt) (by omega)
 subst hdf hf8
 cases p8 with
 | nil =>
  have cg : (decide (ep < (List.length aj.LetterSetting.Ends : Int))) = false := eZ zP Fc
  simp only [wM, hs, reduceCtorEq] at h
  replace h := kG8 _ h
  try dsimp only at h
  try simp only [hs] at h
  try simp only [vz, mq, mqm, tyf, mqt, g7, g9, mi, bA, cL, dO, dM, dv, bT, uT, lu, lv, cg, nm, seval]
  refine dX (x := (.ref 15 0 (List.length dK) 1 (List.length dK))) (by first | (simp only [Tryz.results118, resV, resL, aV, dP, dQ, uw, cr, tyf, mqt, g7, g9, mi, uT, lu, lv, cg, nm, seval] <;> rfl) | rfl) ?_
  try simp only [vz, mq, mqm, tyf, mqt, g7, g9, mi, uT, lu, lv, cg, nm, seval]
  refine dX (x := (.ref 15 0 (List.length dK) 1 (List.length dK))) (by first | (simp only [Tryz.results72, resV, resL, aV, dP, dQ, uw, cr, tyf, mqt, g7, g9, mi, uT, lu, lv, cg, nm, seval] <;> rfl) | rfl) ?_
  obtain rfl := kF _ h
  refine dV ?_ ?_
  ·simp only [tre, aF, mqr, Bool.and_self]
  ·first | (simp only [outV, uw, eK, iY, iG, cr, tyf, mqt, nrm, aE, g7, g9, mi, uT, lu, lv, cg, nm, seval] <;> rfl) | rfl
 | cons e8 p8 =>
  have fR : (decide (ep < (List.length aj.LetterSetting.Ends : Int))) = true := eY zP Fc
  have lG := dY zP Fc
  have qH := fa zP Fc g9
  simp only [wM, hs, reduceCtorEq] at h
  simp only [vz, mq, mqm, tyf, mqt, g7, g9, mi, bA, cL, dO, dM, dv, bT, uT, lu, lv, fR, (bc lG), qH, nm, seval]
  refine F5 (fun tm => tm 1 = .lit (.int .i64 0) ∧ tm 3 = .ptr 9 0 ∧ tm 7 = .ptr 12 0 ∧ tm 8 = .ref 15 0 (List.length dK) 1 (List.length dK) ∧ tm 9 = .lit (.int .i64 ep) ∧ tm 13 = .lit (.int .i64 (List.length aj.LetterSetting.Ends : Int)) ∧ tm 14 = .lit (.int .i64 ep) ∧ True) (by refine ⟨bA, cL, dO, dM, ?_, dv, bT, trivial⟩ <;> first | (simp only [ua, cu, mi, bA, cL, dO, dM, dv, bT, uT, lu, lv, fR, qH, nm, seval] <;> rfl) | rfl) ?_
  rintro tm ⟨cN, cM, cy, cO, eu, gn, bS, _⟩
  have dk := And.intro g7 (And.intro g9 (And.intro mi (And.intro uT (And.intro lu (And.intro lv (And.intro fR qH))))))
  obtain ⟨lE, tO, h⟩ := optI h Xs
  try simp only [hs] at h
  simp only [vz, mq, mqm, tyf, mqt, dk, (bc lG), cN, cM, cy, cO, eu, gn, bS, nm, seval]
  refine dktree (args0 := [.agg (cGld aj), .lit (.int .i64 ep)]) (by first | (simp only [nrm, aE, mqr] <;> rfl) | rfl) (by simp only [tre, aF, mqr, Bool.and_self]) (Xp _ _ _ tO) ?_
  refine bt (fun tm => tm 1 = .lit (.int .i64 0) ∧ tm 3 = .ptr 9 0 ∧ tm 7 = .ptr 12 0 ∧ tm 8 = .ref 15 0 (List.length dK) 1 (List.length dK) ∧ tm 13 = .lit (.int .i64 (List.length aj.LetterSetting.Ends : Int)) ∧ tm 14 = .lit (.int .i64 ep) ∧ tm 17 = .ref 15 0 (List.length dK) 1 (List.length dK) ∧ tm 18 = .lit (.int .i64 ep) ∧ tm 24 = .lit (.int .i64 lE) ∧ True) (by refine ⟨cN, cM, cy, cO, gn, bS, ?_, ?_, ?_, trivial⟩ <;> first | (simp only [ua, cu, dk, cN, cM, cy, cO, eu, gn, bS, nm, seval] <;> rfl) | rfl) ?_
  rintro tm ⟨fu, iu, dj, cF, cb, cm, ck, bR, bC, _⟩
  obtain ⟨Xc, xL, h⟩ := optI h Xs
  try simp only [hs] at h
  have w6 := setA (w := 1) (enc := eI) (fun _ => rfl) xL
  have GF := setB (w := 1) (enc := eI) lE (fun _ => rfl) xL
  simp only [vz, mq, mqm, tyf, mqt, nm, seval] at GF
  have tw := setC (w := 1) (enc := eI) dK (Int.toNat ep) lE (fun _ => rfl)
  simp only [vz, mq, mqm, tyf, mqt, dk, (bc lG), fu, iu, dj, cF, cb, cm, ck, bR, bC, (vK xL), w6, GF, tw, nm, seval]
  refine Gy ⟨?_, ?_⟩
  ·simp only [G3, G2, vD, Gz, and_true, true_and]
   repeat' (first | exact trivial | refine And.intro ?_ ?_ | rw [vD] | rw [G1] | exact Or.inl (by decide +kernel) | exact Or.inl (by dsimp only; decide +kernel) | (refine Or.inr ⟨?_, ?_⟩ <;> simp; done) | (refine Or.inr ⟨?_, ?_⟩ <;> simp <;> omega) | (refine Or.inr ⟨?_, ?_⟩ <;> simp [VEff.wr] <;> omega))
  simp only [vz, mq, mqm, tyf, mqt, dk, (bc lG), fu, iu, dj, cF, cb, cm, ck, bR, bC, (vK xL), w6, GF, tw, nm, seval]
  exact ⟨List.length p8, Nat.lt_succ_self _, by rw [TO]; refine ⟨p8, ep + 1, (List.set dK (Int.toNat ep) lE), rfl, Int.le_trans zP (Int.le_add_one (Int.le_refl _)), bJ zP Fc, rfl, (show 19 ≤ Xt + 15 by omega), ?_, ?_, ?_, fu, iu, dj, ?_, cb, ?_, (by first | exact h | (simp only [dk]; exact h))⟩ <;> first | (simp only [ua, cu, dk, fu, iu, dj, cF, cb, cm, ck, bR, bC, w6, GF, tw, nm, seval] <;> rfl) | rfl⟩
def GG (aj : Gld) (bx : Int) : Option ((Unit) ⊕ (Unit)) := Option.bind (zO aj bx) (fun r1 => cond (decide (r1 > aj.LetterSheet.Wide)) (some (.inr ())) (some (.inl ())))
theorem Xu (aj : Gld) (bx : Int) (R : (Unit) ⊕ (Unit)) (h : GG aj bx = some R) : ag Tryz.prog G0 122 [.agg (cGld aj), .lit (.int .i64 bx)] (presB R (fun r => .tree (.tup [])) (fun e => .panic (.ifc 149 (.agg [])))) := by
 refine ag.runR mixed Tryz.call122 Tryz.func122 rfl (by simp [Tryz.ntmps122]; kernel_rfl) ?_
 obtain ⟨KF, h, kF, kN⟩ := dZ h
 simp only [GG] at h
 simp only [vz, mq, mqm, tyf, mqt, nm, seval]
 refine kl (fun tm => tm 1 = .lit (.int .i64 bx) ∧ tm 2 = .ptr 0 0 ∧ True) (by refine ⟨?_, ?_, trivial⟩ <;> first | (simp only [ua, cu, nm, seval] <;> rfl) | rfl) ?_
 rintro tm ⟨e2, e3, _⟩
 obtain ⟨r4, o5, h⟩ := optI h kN
 try simp only [hs] at h
 simp only [vz, mq, mqm, tyf, mqt, e2, e3, nm, seval]
 refine dktree (args0 := [.agg (cGld aj), .lit (.int .i64 bx)]) (by first | (simp only [nrm, aE, mqr] <;> rfl) | rfl) (by simp only [tre, aF, mqr, Bool.and_self]) (Xp _ _ _ o5) ?_
 refine bt (fun tm => tm 2 = .ptr 0 0 ∧ tm 6 = .lit (.int .i64 r4) ∧ True) (by refine ⟨e3, ?_, trivial⟩ <;> first | (simp only [ua, cu, e2, e3, nm, seval] <;> rfl) | rfl) ?_
 rintro tm ⟨e6, e7, _⟩
 cases d8 : (decide (r4 > aj.LetterSheet.Wide))
 ·simp only [d8, hs] at h
  try simp only [vz, mq, mqm, tyf, mqt, e6, e7, d8, nm, seval]
  refine Ik (x := (.tup [])) (by first | (simp only [Tryz.results122, resV, resL, aV, dP, dQ, uw, cr, tyf, mqt, d8, nm, seval] <;> rfl) | rfl) ?_
  obtain rfl := kF _ h
  refine dV ?_ ?_
  ·simp only [tre, aF, mqr, Bool.and_self]
  ·first | (simp only [outV, uw, eK, iY, iG, cr, tyf, mqt, nrm, aE, e6, e7, d8, nm, seval] <;> rfl) | rfl
 simp only [d8, hs] at h
 simp only [vz, mq, mqm, tyf, mqt, e6, e7, d8, nm, seval]
 refine Il ?_
 obtain rfl := kF _ h
 refine Is ?_ ?_
 ·simp only [tre, aF, IC, Bool.and_self]
 ·first | (simp only [outV, uw, eK, iY, iG, IA, IB, cr, tyf, mqt, nrm, aE, e6, e7, d8, nm, seval] <;> rfl) | rfl
def zQ (aj : Gld) : List GLe → Int → Option (LOut (Bool) (Unit))
 | [], yy => some (.go ())
 | e0 :: p0, yy => Option.bind (GG aj yy) (fun r1 => sumB r1 (fun u2 => zQ aj p0 (yy + 1)) (fun w3 => some (.ret false)))
def vr (aj : Gld) : Option (Bool) := cond (lenOk aj.LetterSetting.Ends) (lbind (zQ aj aj.LetterSetting.Ends 0) (fun r5 => some r5) (fun c4 => some (decide ((List.length aj.LetterSetting.Ends : Int) ≤ aj.LetterSheet.Rows))) (fun _ _ => none)) none
theorem V8 (aj : Gld) (R : Bool) (h : vr aj = some R) : ag Tryz.prog G0 83 [.agg (cGld aj)] (.tree (.lit (.bool R))) := by
 refine ag.runR mixed Tryz.call83 Tryz.func83 rfl (by simp [Tryz.ntmps83]; kernel_rfl) ?_
 obtain ⟨KF, h, kF, kN⟩ := dZ h
 simp only [vr] at h
 cases g7 : (lenOk aj.LetterSetting.Ends)
 ·simp only [g7, hs] at h
  exact absurd h kN
 simp only [g7, hs] at h
 simp only [vz, mq, mqm, tyf, mqt, g7, nm, seval]
 obtain ⟨K6, h, wq, tF, K2, iH⟩ := fP h kN
 obtain ⟨f6, wu, h⟩ := call2 h
 obtain ⟨I6, ir⟩ : ∃ I : Nat → St → Prop, I = (fun m st => ∃ (p6 : List GLe) (jB : Int), m = List.length p6 ∧ 0 ≤ jB ∧ List.drop (Int.toNat jB) aj.LetterSetting.Ends = p6 ∧ st.df = [.fn (.func 121) [.ptr 1 0] []] ∧ 9 ≤ st.nx ∧ st.H 0 = some (.cells (some 93) (cGld aj)) ∧ st.H 1 = some (.cells (some 4) ([.lit (.bool false)])) ∧ st.tm 1 = .ptr 0 0 ∧ st.tm 2 = .ptr 1 0 ∧ st.tm 8 = .lit (.int .i64 (List.length aj.LetterSetting.Ends : Int)) ∧ st.tm 9 = .lit (.int .i64 jB) ∧ K6 (f6 p6 jB)) := ⟨_, rfl⟩
 refine loopK mixed (by kernel_rfl) I6 (List.length aj.LetterSetting.Ends) (by rw [ir]; refine ⟨aj.LetterSetting.Ends, 0, rfl, Int.le_refl _, rfl, rfl, (show 9 ≤ 9 by omega), ?_, ?_, ?_, ?_, ?_, ?_, h⟩ <;> first | (simp only [ua, cu, nm, seval] <;> rfl) | rfl) ?_
 rintro m ⟨tm, H, eM, df⟩ hinv
 rw [ir] at hinv
 obtain ⟨p6, jB, rfl, de, eN, hdf, wv, H8, H9, bj, bm, bU, bA, h⟩ := hinv
 simp only at hdf wv H8 H9 bj bm bU bA
 have dh := fO (m := 9) (b := eM) (by omega)
 subst hdf wu
 cases p6 with
 | nil =>
  have eG : (decide (jB < (List.length aj.LetterSetting.Ends : Int))) = false := eZ de eN
  simp only [zQ, hs, reduceCtorEq] at h
  replace h := tF _ h
  try dsimp only at h
  try simp only [hs] at h
  try simp only [vz, mq, mqm, tyf, mqt, g7, dh, bj, bm, bU, bA, H8, H9, eG, nm, seval]
  refine Im ?_
  refine VDeferred.run mixed Tryz.call121 Tryz.func121 rfl (by kernel_rfl) ?_
  try simp only [vz, mq, mqm, tyf, mqt, g7, dh, H8, H9, eG, nm, seval]
  refine UD Tryz.results121 ?_
  refine Ip (x := (.lit (.bool (decide ((List.length aj.LetterSetting.Ends : Int) ≤ aj.LetterSheet.Rows))))) (by first | (simp only [Tryz.results83, resV, resL, aV, dP, dQ, uw, cr, tyf, mqt, g7, dh, H8, H9, eG, bj, bm, bU, bA, nm, seval] <;> rfl) | rfl) ?_
  obtain rfl := kF _ h
  refine dV ?_ ?_
  ·simp only [tre, aF, mqr, Bool.and_self]
  ·first | (simp only [outV, uw, eK, iY, iG, cr, tyf, mqt, nrm, aE, g7, dh, H8, H9, eG, bj, bm, bU, bA, nm, seval] <;> rfl) | rfl
 | cons e6 p6 =>
  have gY : (decide (jB < (List.length aj.LetterSetting.Ends : Int))) = true := eY de eN
  have qS := dY de eN
  have uU := fa de eN g7
  simp only [zQ, hs, reduceCtorEq] at h
  obtain ⟨GB, mO, h⟩ := optI h iH
  try simp only [hs] at h
  cases GB with
  | inl u21 =>
   simp only [hs] at h
   simp only [vz, mq, mqm, tyf, mqt, g7, dh, bj, bm, bU, bA, H8, H9, gY, (bc qS), uU, nm, seval]
   refine ktree (args0 := [.agg (cGld aj), .lit (.int .i64 jB)]) (by first | (simp only [nrm, aE, mqr] <;> rfl) | rfl) (by simp only [tre, aF, mqr, Bool.and_self]) (Xu _ _ _ mO) ?_
   refine bt (fun tm => tm 1 = .ptr 0 0 ∧ tm 2 = .ptr 1 0 ∧ tm 8 = .lit (.int .i64 (List.length aj.LetterSetting.Ends : Int)) ∧ tm 9 = .lit (.int .i64 jB) ∧ True) (by refine ⟨bj, bm, bU, bA, trivial⟩ <;> first | (simp only [ua, cu, dh, bj, bm, bU, bA, H8, H9, gY, uU, nm, seval] <;> rfl) | rfl) ?_
   rintro tm ⟨dw, cN, cM, cy, _⟩
   simp only [vz, mq, mqm, tyf, mqt, g7, dh, H8, H9, gY, (bc qS), uU, dw, cN, cM, cy, nm, seval]
   exact ⟨List.length p6, Nat.lt_succ_self _, by rw [ir]; refine ⟨p6, jB + 1, rfl, Int.le_trans de (Int.le_add_one (Int.le_refl _)), bJ de eN, rfl, (show 9 ≤ eM + 8 by omega), ?_, ?_, dw, cN, cM, ?_, (by first | exact h | (simp only [gY]; exact h))⟩ <;> first | (simp only [ua, cu, dh, H8, H9, gY, uU, dw, cN, cM, cy, nm, seval] <;> rfl) | rfl⟩
  | inr qH =>
   simp only [hs] at h
   simp only [vz, mq, mqm, tyf, mqt, g7, dh, bj, bm, bU, bA, H8, H9, gY, (bc qS), uU, nm, seval]
   refine kpan (args0 := [.agg (cGld aj), .lit (.int .i64 jB)]) (by first | (simp only [nrm, aE, mqr] <;> rfl) | rfl) (by simp only [tre, aF, mqr, Bool.and_self]) (Xu _ _ _ mO) ?_
   try simp only [vz, mq, mqm, tyf, mqt, g7, dh, bj, bm, bU, bA, H8, H9, gY, (bc qS), uU, nm, seval]
   refine Io ?_
   refine VDeferred.run mixed Tryz.call121 Tryz.func121 rfl (by kernel_rfl) ?_
   try simp only [vz, mq, mqm, tyf, mqt, g7, dh, H8, H9, gY, (bc qS), uU, nm, seval]
   refine UD Tryz.results121 ?_
   refine Iq (x := (.lit (.bool false))) (by first | (simp only [Tryz.results83, resV, resL, aV, dP, dQ, uw, cr, tyf, mqt, g7, dh, H8, H9, gY, (bc qS), uU, bj, bm, bU, bA, nm, seval] <;> rfl) | rfl) ?_
   replace h := wq _ h
   try dsimp only at h
   obtain rfl := kF _ h
   refine dV ?_ ?_
   ·simp only [tre, aF, mqr, Bool.and_self]
   ·first | (simp only [outV, uw, eK, iY, iG, cr, tyf, mqt, nrm, aE, g7, dh, H8, H9, gY, (bc qS), uU, bj, bm, bU, bA, nm, seval] <;> rfl) | rfl
abbrev setS (l : Gld) (i : Int) : Gld := Gld.mk l.LetterSheet l.LetterSetting i l.spaces l.marks
def wLoop (l : Gld) : Nat → Nat → Option Gld → Option (Option Gld)
 | 0, _, acc => some acc
 | k + 1, i, acc => Option.bind (vr (setS l (i : Int))) fun b => cond b (wLoop l k (i + 1) (some (setS l (i : Int)))) (some acc)
def FQ (l : Gld) : Option (Option Gld) := wLoop l 11 0 none
def zlC : List VV := [.lit (.slice none 0 0), .lit (.slice none 0 0), .lit (.int .i64 0), .lit (.int .i64 0), .lit (.int .i64 0), .lit (.int .i64 0), .lit (.int .i64 0), .lit (.slice none 0 0), .lit (.int .i64 0), .lit (.int .i64 0), .lit (.slice none 0 0), .lit (.slice none 0 0), .lit (.int .i64 0), .lit (.map none), .lit (.slice none 0 0)]
def zlN : List VV := [.sl [] 0 false, .sl [] 0 false, .lit (.int .i64 0), .lit (.int .i64 0), .lit (.int .i64 0), .lit (.int .i64 0), .lit (.int .i64 0), .sl [] 0 false, .lit (.int .i64 0), .lit (.int .i64 0), .sl [] 0 false, .sl [] 0 false, .lit (.int .i64 0), .lit (.map none), .sl [] 0 false]
def accC : Option Gld → List VV
 | none => zlC
 | some l => cGld l
def wV : Option Gld → VV
 | none => .tup [.agg zlN, .lit (.bool false)]
 | some l => .tup [.agg (cGld l), .lit (.bool true)]
theorem Xv : normV (.lit (.map none)) = .lit (.map none) := rfl
theorem zis (l : Gld) (R : Option Gld) (h : FQ l = some R) : ag Tryz.prog G0 84 [.agg (cGld l)] (.tree (wV R)) := by
 refine ag.runR mixed Tryz.call84 Tryz.func84 rfl (by simp [Tryz.ntmps84]; kernel_rfl) ?_
 simp only [vz, @sY, mq, mqm, tyf, mqt, nm, seval]
 obtain ⟨J, hJ⟩ : ∃ J : Nat → St → Prop, J = (fun m st => ∃ (i : Nat) (s : Int) (acc : Option Gld), i + m = 11 ∧ st.df = [] ∧ 8 ≤ st.nx ∧ st.H 0 = some (.cells (some 93) (cGld (setS l s))) ∧ st.H 1 = some (.cells (some 93) zlC) ∧ st.H 4 = some (.cells (some 93) (accC acc)) ∧
   st.tm 1 = .ptr 0 0 ∧ st.tm 2 = .ptr 1 0 ∧ st.tm 4 = .ptr 4 0 ∧ st.tm 5 = .lit (.bool acc.isSome) ∧ st.tm 8 = .lit (.int .i64 (i : Int)) ∧ wLoop l m i acc = some R) := ⟨_, rfl⟩
 refine loopK mixed (by kernel_rfl) J 11 (by
  rw [hJ]
  refine ⟨0, l.stretch, none, rfl, rfl, (show 8 ≤ 8 by omega), ?_, ?_, ?_, ?_, ?_, ?_, ?_, ?_, h⟩ <;> first | rfl | (simp only [ua, seval, tyf] <;> rfl)) ?_
 rintro m ⟨tm, H, nx, df⟩ hinv
 rw [hJ] at hinv
 obtain ⟨i, s, acc, hi, hdf, hnx, H0, H1, H4, e1, e2, e4, e5, e8, h⟩ := hinv
 simp only at hdf hnx H0 H1 H4 e1 e2 e4 e5 e8
 subst hdf
 have fin : ∀ (tm : Nat → VV) (H : Nat → Option VObj) (nx : Nat) (acc : Option Gld), 8 ≤ nx → tm 2 = .ptr 1 0 → tm 4 = .ptr 4 0 → tm 5 = .lit (.bool acc.isSome) → H 1 = some (.cells (some 93) zlC) → H 4 = some (.cells (some 93) (accC acc)) → acc = R → True := fun _ _ _ _ _ _ _ _ _ _ _ => trivial
 cases m with
 | zero =>
  have yz : decide ((i : Int) < 11) = false := by simp; omega
  simp only [wLoop, Option.some.injEq] at h
  subst h
  cases acc with
  | none =>
   simp only [accC, zlC] at H4
   simp only [Option.isSome_none] at e5
   simp only [vz, @sY, mq, mqm, tyf, mqt, e1, e2, e4, e5, e8, yz, H0, H1, H4, zlC, nm, seval]
   refine dX (x := .tup [.agg zlC, .lit (.bool false)]) (by simp only [Tryz.results84, resV, resL, aV, dP, dQ, uw, cr, tyf, mqt, e1, e2, e4, e5, H0, H1, H4, zlC, nm, seval] <;> rfl) ?_
   refine dV (by simp only [wV, zlN, tre, aF, mqr, Bool.and_self]) ?_
   simp only [outV, zlC, zlN, wV, nrm, aE, mqr, Xv, seval, List.map_cons, List.map_nil]
  | some y =>
   simp only [accC] at H4
   simp only [Option.isSome_some] at e5
   simp only [vz, @sY, mq, mqm, tyf, mqt, e1, e2, e4, e5, e8, yz, H0, H1, H4, zlC, nm, seval]
   refine dX (x := .tup [.agg (cGld y), .lit (.bool true)]) (by simp only [Tryz.results84, resV, resL, aV, dP, dQ, uw, cr, tyf, mqt, e1, e2, e4, e5, H0, H1, H4, zlC, nm, seval] <;> rfl) ?_
   refine dV (by simp only [wV, tre, aF, mqr, Bool.and_self]) ?_
   simp only [outV, wV, nrm, aE, mqr, seval, List.map_cons, List.map_nil]
 | succ m =>
  have yz : decide ((i : Int) < 11) = true := by simp; omega
  have hw : i64.wrap ((i : Int) + 1) = ((i + 1 : Nat) : Int) := by rw [IntWalk.i64_in _ (by omega)]; simp
  rw [wLoop] at h
  rcases ob : vr (setS l (i : Int)) with _ | b
  ·rw [ob] at h; cases h
  rw [ob, Option.bind_some] at h
  simp only [vz, @sY, mq, mqm, tyf, mqt, e1, e2, e4, e5, e8, yz, H0, H1, H4, nm, seval]
  refine ktree (args0 := [.agg (cGld (setS l (i : Int)))]) (by first | (simp only [nrm, aE, mqr] <;> rfl) | rfl) (by simp only [tre, aF, mqr, Bool.and_self]) (V8 _ _ ob) ?_
  cases b with
  | false =>
   simp only [cond_false, Option.some.injEq] at h
   subst h
   cases acc with
   | none =>
    simp only [accC, zlC] at H4
    simp only [Option.isSome_none] at e5
    simp only [vz, @sY, mq, mqm, tyf, mqt, e1, e2, e4, e5, e8, yz, H0, H1, H4, zlC, nm, seval]
    refine dX (x := .tup [.agg zlC, .lit (.bool false)]) (by simp only [Tryz.results84, resV, resL, aV, dP, dQ, uw, cr, tyf, mqt, e1, e2, e4, e5, H0, H1, H4, zlC, nm, seval] <;> rfl) ?_
    refine dV (by simp only [wV, zlN, tre, aF, mqr, Bool.and_self]) ?_
    simp only [outV, zlC, zlN, wV, nrm, aE, mqr, Xv, seval, List.map_cons, List.map_nil]
   | some y =>
    simp only [accC] at H4
    simp only [Option.isSome_some] at e5
    simp only [vz, @sY, mq, mqm, tyf, mqt, e1, e2, e4, e5, e8, yz, H0, H1, H4, zlC, nm, seval]
    refine dX (x := .tup [.agg (cGld y), .lit (.bool true)]) (by simp only [Tryz.results84, resV, resL, aV, dP, dQ, uw, cr, tyf, mqt, e1, e2, e4, e5, H0, H1, H4, zlC, nm, seval] <;> rfl) ?_
    refine dV (by simp only [wV, tre, aF, mqr, Bool.and_self]) ?_
    simp only [outV, wV, nrm, aE, mqr, seval, List.map_cons, List.map_nil]
  | true =>
   simp only [cond_true] at h
   have hl : (15 ≤ (accC acc).length) = True := by cases acc <;> simp [accC, zlC, DJ]
   have hd : (accC acc).drop 15 = [] := by cases acc <;> rfl
   simp only [vz, @sY, mq, mqm, tyf, mqt, e1, e2, e4, e5, e8, yz, H0, H1, H4, hw, hl, hd, nm, seval]
   rw [hJ]
   exact ⟨m, Nat.lt_succ_self _, i + 1, (i : Int), some (setS l (i : Int)), by omega, rfl, Nat.le_trans hnx (Nat.le_add_right _ _), by simp only [ua, seval, tyf], by simp only [ua, seval, H1], by simp only [ua, seval, tyf, accC], by simp only [ua, seval, e1], by simp only [ua, seval, e2], by simp only [ua, seval, e4], by simp only [ua, seval] <;> rfl, by simp only [ua, seval], h⟩
def wi (k : Int) (x : GSpan) : Int := x.Low + Int.tdiv ((x.High - x.Low) * k) 10
theorem wi_b {k : Int} {x : GSpan} (h : 0 ≤ x.Low ∧ x.Low ≤ x.High ∧ x.High ≤ 20) (h0 : 0 ≤ k) (h1 : k ≤ 10) : x.Low ≤ wi k x ∧ wi k x ≤ x.High ∧ 0 ≤ (x.High - x.Low) * k ∧ (x.High - x.Low) * k ≤ 200 := by
 have hm := mulR (a := x.High - x.Low) (A := 20) (b := k) (B := 10) (by omega) (by omega) h0 h1
 have h2 : (x.High - x.Low) * k ≤ (x.High - x.Low) * 10 := Int.mul_le_mul_of_nonneg_left h1 (by omega)
 have hd := Int.tdiv_eq_ediv_of_nonneg (b := 10) hm.1
 unfold wi
 rw [hd]
 omega
theorem y8 {k k' : Int} {x : GSpan} (h : 0 ≤ x.Low ∧ x.Low ≤ x.High ∧ x.High ≤ 20) (h0 : 0 ≤ k) (hk : k ≤ k') (h1 : k' ≤ 10) : wi k x ≤ wi k' x := by
 have h2 : (x.High - x.Low) * k ≤ (x.High - x.Low) * k' := Int.mul_le_mul_of_nonneg_left hk (by omega)
 have a := (wi_b h h0 (by omega)).2.2.1
 unfold wi
 rw [Int.tdiv_eq_ediv_of_nonneg a, Int.tdiv_eq_ediv_of_nonneg (by omega)]
 omega
theorem TP (l : Gld) (x : GSpan) (h : 0 ≤ x.Low ∧ x.Low ≤ x.High ∧ x.High ≤ 20) (h0 : 0 ≤ l.stretch) (h1 : l.stretch ≤ 10) : v8 l x = some (wi l.stretch x) := by
 have hb := wi_b h h0 h1
 unfold v8 wi
 unfold wi at hb
 rw [kO (n := x.High - x.Low) (by omega) (by omega), kO (n := (x.High - x.Low) * l.stretch) (by omega) (by omega), kO (n := Int.tdiv _ 10) (by omega) (by omega), kO (by omega) (by omega)]
def spP (s : GLs) (a b : Int) : GSpan := (lastP a b s.Pairs none).getD s.Other
theorem Xw {a b : Int} : ∀ (ps : List GLp) (o : Option GSpan) (v : GSpan), lastP a b ps o = some v → o = some v ∨ ∃ p ∈ ps, p.Left = a ∧ p.Right = b ∧ p.Space = v
 | [], o, v, h => .inl h
 | p :: ps, o, v, h => by
  rcases Xw ps _ v h with h | ⟨q, h1, h2⟩
  ·split at h
   ·rename_i hc
    simp only [Option.some.injEq] at h
    exact .inr ⟨p, List.mem_cons_self .., hc.1.symm, hc.2.symm, h⟩
   ·exact .inl h
  ·exact .inr ⟨q, List.mem_cons_of_mem _ h1, h2⟩
theorem spP_b {s : GLs} (h : Sh s) (a b : Int) : 0 ≤ (spP s a b).Low ∧ (spP s a b).Low ≤ (spP s a b).High ∧ (spP s a b).High ≤ 20 := by
 unfold spP
 cases hl : lastP a b s.Pairs none with
 | none => have := h.other; simp only [Option.getD_none]; omega
 | some v =>
  rcases Xw _ _ _ hl with hh | ⟨p, h1, _, _, rfl⟩
  ·cases hh
  ·have := h.pair p h1
   simp only [Option.getD_some]; omega
def spF (s : GLs) (k : Int) (m : Glm) : Option Glm → Int
 | none => cond m.hyphen (wi k s.Other) 0
 | some n => cond m.hyphen (wi k s.Other) (if n.row = m.row then (if n.word = m.word then wi k (spP s m.sign n.sign) else wi k s.Gap) else 0)
theorem spF_b {s : GLs} (h : Sh s) {k : Int} (h0 : 0 ≤ k) (h1 : k ≤ 10) (m : Glm) (n : Option Glm) : 0 ≤ spF s k m n ∧ spF s k m n ≤ 20 := by
 have ho := h.other
 have hg := h.gap
 have a := wi_b (x := s.Other) (by omega) h0 h1
 have b := wi_b (x := s.Gap) (by omega) h0 h1
 unfold spF
 cases n with
 | none => cases m.hyphen <;> simp only [cond_true, cond_false] <;> omega
 | some n =>
  have hc := spP_b h m.sign n.sign
  have c := wi_b hc h0 h1
  simp only
  cases m.hyphen with
  | true => simp only [cond_true]; omega
  | false =>
   simp only [cond_false]
   split
   ·split <;> omega
   ·omega
theorem TQ {s : GLs} (h : Sh s) {k k' : Int} (h0 : 0 ≤ k) (hk : k ≤ k') (h1 : k' ≤ 10) (m : Glm) (n : Option Glm) : spF s k m n ≤ spF s k' m n := by
 have ho := h.other
 have hg := h.gap
 have a := y8 (x := s.Other) (by omega) h0 hk h1
 have b := y8 (x := s.Gap) (by omega) h0 hk h1
 unfold spF
 cases n with
 | none => cases m.hyphen <;> simp only [cond_true, cond_false] <;> omega
 | some n =>
  have c := y8 (spP_b h m.sign n.sign) h0 hk h1
  simp only
  cases m.hyphen with
  | true => simp only [cond_true]; omega
  | false =>
   simp only [cond_false]
   split
   ·split <;> omega
   ·omega
def wd (s : GLs) (n : Int) : Int := (getI s.Widths n).getD 0
theorem y9 {s : GLs} (h : Sh s) {n : Int} (h0 : 0 ≤ n) (h1 : n < s.Widths.length) : getI s.Widths n = some (wd s n) ∧ 1 ≤ wd s n ∧ wd s n ≤ 20 := by
 obtain ⟨x, hx, hm⟩ := WK h0 h1
 have := h.wid x hm
 unfold wd
 rw [hx]
 exact ⟨rfl, this.1, this.2⟩
def addL (s : GLs) (k r : Int) : List Glm → List Int
 | [] => []
 | m :: ms => (if m.row = r then [wd s m.sign, spF s k m ms.head?] ++ cond m.hyphen [s.Hyphen] [] else []) ++ addL s k r ms
def Marks (s : GLs) (ms : List Glm) : Prop := ∀ m ∈ ms, 0 ≤ m.sign ∧ m.sign < s.Widths.length
theorem yA {s : GLs} (h : Sh s) {k r : Int} (h0 : 0 ≤ k) (h1 : k ≤ 10) : ∀ (ms : List Glm), Marks s ms → (∀ x ∈ addL s k r ms, 0 ≤ x ∧ x ≤ 20) ∧ (addL s k r ms).length ≤ 3 * ms.length
 | [], _ => by simp [addL]
 | m :: ms, hm => by
  obtain ⟨i1, i2⟩ := yA h h0 h1 (r := r) ms fun x hx => hm x (List.mem_cons_of_mem _ hx)
  have hs := hm m (List.mem_cons_self ..)
  have hw := y9 h hs.1 hs.2
  have hp := spF_b h h0 h1 m ms.head?
  have hh := h.hyp
  unfold addL
  split
  ·cases m.hyphen with
   | true =>
    simp only [cond_true, List.cons_append, List.nil_append, List.mem_cons, List.length_cons]
    refine ⟨?_, by omega⟩
    rintro x (rfl | rfl | rfl | hx)
    ·omega
    ·omega
    ·omega
    ·exact i1 x hx
   | false =>
    simp only [cond_false, List.append_nil, List.cons_append, List.nil_append, List.mem_cons, List.length_cons]
    refine ⟨?_, by omega⟩
    rintro x (rfl | rfl | hx)
    ·omega
    ·omega
    ·exact i1 x hx
  ·simp only [List.nil_append, List.length_cons]
   exact ⟨i1, by omega⟩
def rowF (s : GLs) (k r : Int) (ms : List Glm) : Int := (addL s k r ms).sum
theorem sum_b : ∀ (xs : List Int), (∀ x ∈ xs, 0 ≤ x ∧ x ≤ 20) → 0 ≤ xs.sum ∧ xs.sum ≤ 20 * xs.length
 | [], _ => by simp
 | x :: xs, h => by
  have ih := sum_b xs fun y hy => h y (List.mem_cons_of_mem _ hy)
  have := h x (List.mem_cons_self ..)
  simp only [List.sum_cons, List.length_cons]
  omega
theorem Fe : ∀ (xs : List Int) (i a : Int), (∀ x ∈ xs, 0 ≤ x ∧ x ≤ 20) → 0 ≤ a → a + 20 * xs.length ≤ 1000000 → yu xs i a = some (.go (a + xs.sum))
 | [], _, a, _, _, _ => by simp [yu]
 | x :: xs, i, a, h, h0, h1 => by
  have := h x (List.mem_cons_self ..)
  simp only [List.length_cons] at h1
  simp only [yu]
  rw [kO (by omega) (by omega), Fe xs (i + 1) _ (fun y hy => h y (List.mem_cons_of_mem _ hy)) (by omega) (by omega), List.sum_cons, Int.add_assoc]
theorem TR (xs : List Int) (h : ∀ x ∈ xs, 0 ≤ x ∧ x ≤ 20) (hl : xs.length ≤ 1000) : Fa xs = some xs.sum := by
 simp only [Fa]
 rw [pa (by omega), cond_true, Fe xs 0 0 h (Int.le_refl _) (by omega), qu, Int.zero_add]
structure LOk (l : Gld) : Prop where
 sh : Sh l.LetterSheet
 mp : MapOk l.spaces (fun a b => lastP a b l.LetterSheet.Pairs none)
 sg : Marks l.LetterSheet l.marks
 nm : l.marks.length ≤ 24
 ne : l.LetterSetting.Ends.length ≤ 24
 rw : ∀ j : Int, 0 ≤ j → j < l.LetterSetting.Ends.length → ∃ m ∈ l.marks, m.row = j
 k0 : 0 ≤ l.stretch
 k1 : l.stretch ≤ 10
theorem TS {l : Gld} (h : LOk l) {i : Int} {m : Glm} {ms : List Glm} (h0 : 0 ≤ i) (hd : l.marks.drop i.toNat = m :: ms) : EZ l i = some (spF l.LetterSheet l.stretch m ms.head?) := by
 have hg : getI l.marks i = some m := dY h0 hd
 have hlt := PQ hg
 have hn := h.nm
 have ho := h.sh.other
 have hgp := h.sh.gap
 have hlen : ms.length + 1 + i.toNat = l.marks.length := by
  have := congrArg List.length hd
  simp only [List.length_drop, List.length_cons] at this
  omega
 simp only [EZ, hg, Option.bind_some, TP l l.LetterSheet.Other (by omega) h.k0 h.k1, TP l l.LetterSheet.Gap (by omega) h.k0 h.k1]
 unfold spF
 rw [kO (by omega) (by omega)]
 cases hh : m.hyphen with
 | true => cases ms <;> rfl
 | false =>
  simp only [cond_false]
  cases ms with
  | nil =>
   have : (i + 1 == (l.marks.length : Int)) = true := by simp only [List.length_nil] at hlen; simp; omega
   rw [this]; rfl
  | cons n ms =>
   have : (i + 1 == (l.marks.length : Int)) = false := by simp only [List.length_cons] at hlen; simp; omega
   have hg2 : getI l.marks (i + 1) = some n := dY (by omega) (bJ h0 hd)
   rw [this, cond_false, hg2, Option.bind_some]
   simp only [List.head?_cons]
   by_cases hr : n.row = m.row
   ·have : (n.row != m.row) = false := by simp [hr]
    rw [this, cond_false, if_pos hr]
    by_cases hw : n.word = m.word
    ·have : (n.word != m.word) = false := by simp [hw]
     rw [this, cond_false, if_pos hw]
     obtain ⟨m1, m2⟩ := h.mp m.sign n.sign
     replace m1 : mapHas ed l.spaces (Glp.mk m.sign n.sign) = (lastP m.sign n.sign l.LetterSheet.Pairs none).isSome := m1
     rw [m1]
     have hb := spP_b h.sh m.sign n.sign
     unfold spP at hb ⊢
     cases hl : lastP m.sign n.sign l.LetterSheet.Pairs none with
     | none => rfl
     | some v =>
      rw [hl] at hb
      simp only [Option.getD_some] at hb ⊢
      rw [Option.isSome_some, cond_true, m2 v hl, TP l v hb h.k0 h.k1, Option.bind_some]
    ·have : (n.word != m.word) = true := by simp [hw]
     rw [this, cond_true, if_neg hw]
   ·have : (n.row != m.row) = true := by simp [hr]
    rw [this, cond_true, if_neg hr]
theorem roomOk8 {n : Nat} (h : n ≤ 1000) : aY 8 n = true := by simp [aY]; omega
theorem uW {l : Gld} (h : LOk l) (r : Int) : ∀ (ms : List Glm) (i : Int) (acc : List Int), 0 ≤ i → l.marks.drop i.toNat = ms → acc.length + 3 * ms.length ≤ 500 → sS l r ms i acc = some (.go (acc ++ addL l.LetterSheet l.stretch r ms))
 | [], i, acc, _, _, _ => by simp [sS, addL]
 | m :: ms, i, acc, h0, hd, hn => by
  have hs := h.sg m (by have := PO (dY h0 hd); exact this)
  have hw := y9 h.sh hs.1 hs.2
  simp only [List.length_cons] at hn
  simp only [sS, addL]
  by_cases hr : m.row = r
  ·have : (m.row != r) = false := by simp [hr]
   rw [this, cond_false, hw.1, Option.bind_some, TS h h0 hd, Option.bind_some, roomOk8 (by simp; omega), cond_true, if_pos hr]
   cases m.hyphen with
   | true =>
    simp only [cond_true]
    rw [roomOk8 (by simp; omega), cond_true, uW h r ms (i + 1) _ (by omega) (bJ h0 hd) (by simp; omega)]
    simp
   | false =>
    simp only [cond_false]
    rw [uW h r ms (i + 1) _ (by omega) (bJ h0 hd) (by simp; omega)]
    simp
  ·have : (m.row != r) = true := by simp [hr]
   rw [this, cond_true, if_neg hr, uW h r ms (i + 1) acc (by omega) (bJ h0 hd) (by omega)]
   simp
theorem BB {l : Gld} (h : LOk l) (r : Int) : zO l r = some (rowF l.LetterSheet l.stretch r l.marks) := by
 have hn := h.nm
 obtain ⟨a1, a2⟩ := yA h.sh h.k0 h.k1 (r := r) l.marks h.sg
 simp only [zO]
 rw [pa (by omega), cond_true, uW h r l.marks 0 [] (by omega) rfl (by simp; omega), qu, List.nil_append, TR _ a1 (by omega)]
 rfl
theorem Lz {s : GLs} (h : Sh s) {k k' : Int} (h0 : 0 ≤ k) (hk : k ≤ k') (h1 : k' ≤ 10) (r : Int) : ∀ (ms : List Glm), rowF s k r ms ≤ rowF s k' r ms
 | [] => Int.le_refl _
 | m :: ms => by
  have ih := Lz h h0 hk h1 r ms
  have hp := TQ h h0 hk h1 m ms.head?
  unfold rowF at ih ⊢
  unfold addL
  split
  ·cases m.hyphen <;> simp only [cond_true, cond_false, List.append_nil, List.cons_append, List.nil_append, List.sum_cons] <;> omega
  ·simpa using ih
theorem DD {s : GLs} (h : Sh s) {k r : Int} (h0 : 0 ≤ k) (h1 : k ≤ 10) : ∀ (ms : List Glm), Marks s ms → (∃ m ∈ ms, m.row = r) → 1 ≤ rowF s k r ms
 | [], _, ⟨_, h, _⟩ => by cases h
 | m :: ms, hm, hx => by
  have Xx : Marks s ms := fun x hx => hm x (List.mem_cons_of_mem _ hx)
  have hs := hm m (List.mem_cons_self ..)
  have hw := y9 h hs.1 hs.2
  have hp := spF_b h h0 h1 m ms.head?
  have hh := h.hyp
  have hb := sum_b _ (yA h h0 h1 (r := r) ms Xx).1
  by_cases hr : m.row = r
  ·unfold rowF
   unfold addL
   rw [if_pos hr]
   cases m.hyphen <;> simp only [cond_true, cond_false, List.append_nil, List.cons_append, List.nil_append, List.sum_cons] <;> omega
  ·have ih := DD h h0 h1 ms Xx (by
    obtain ⟨x, hx, he⟩ := hx
    rcases List.mem_cons.1 hx with rfl | hx
    ·exact absurd he hr
    ·exact ⟨x, hx, he⟩)
   unfold rowF at ih ⊢
   unfold addL
   rw [if_neg hr, List.nil_append]
   exact ih
def rowsOk (s : GLs) (k : Int) (ms : List Glm) : Nat → Int → Bool
 | 0, _ => true
 | n + 1, r => decide (rowF s k r ms ≤ s.Wide) && rowsOk s k ms n (r + 1)
theorem VD {s : GLs} {k : Int} {ms : List Glm} : ∀ (n : Nat) (r : Int), rowsOk s k ms n r = true ↔ ∀ j : Int, r ≤ j → j < r + n → rowF s k j ms ≤ s.Wide
 | 0, r => by simp only [rowsOk, true_iff]; intro j h1 h2; omega
 | n + 1, r => by
  simp only [rowsOk, Bool.and_eq_true, decide_eq_true_eq, VD n (r + 1)]
  constructor
  ·rintro ⟨h1, h2⟩ j h3 h4
   by_cases hj : j = r
   ·rw [hj]; exact h1
   ·exact h2 j (by omega) (by omega)
  ·exact fun h => ⟨h r (by omega) (by omega), fun j h1 h2 => h j (by omega) (by omega)⟩
def fitB (l : Gld) (k : Int) : Bool := rowsOk l.LetterSheet k l.marks l.LetterSetting.Ends.length 0 && decide ((l.LetterSetting.Ends.length : Int) ≤ l.LetterSheet.Rows)
theorem Ff {l : Gld} (h : LOk l) : ∀ (es : List GLe) (r : Int), zQ l es r = goB (rowsOk l.LetterSheet l.stretch l.marks es.length r)
 | [], _ => rfl
 | e :: es, r => by
  simp only [zQ, GG, BB h, Option.bind_some, List.length_cons, rowsOk, mF]
  by_cases hw : rowF l.LetterSheet l.stretch r l.marks ≤ l.LetterSheet.Wide
  ·rw [decide_eq_false (show ¬ (rowF l.LetterSheet l.stretch r l.marks > l.LetterSheet.Wide) by omega), decide_eq_true hw]
   simp only [cond_false, cond_true, Option.bind_some]
   exact Ff h es (r + 1)
  ·rw [decide_eq_true (show (rowF l.LetterSheet l.stretch r l.marks > l.LetterSheet.Wide) by omega), decide_eq_false hw]
   rfl
theorem BK {l : Gld} (h : LOk l) : vr l = some (fitB l l.stretch) := by
 have := h.ne
 simp only [vr]
 rw [pa (by omega), cond_true, Ff h, vm]
 unfold fitB
 cases rowsOk l.LetterSheet l.stretch l.marks l.LetterSetting.Ends.length 0 <;> rfl


theorem FrozenL.get {H H' : Nat → Option VObj} : ∀ {xs ys : List VV} (i : Nat), FrozenL H H' xs ys → Frozen H H' ((xs[i]?).getD (.lit undef)) ((ys[i]?).getD (.lit undef))
 | [], [], _, _ => .inl rfl
 | x :: xs, y :: ys, 0, h => h.1
 | x :: xs, y :: ys, i + 1, h => by simpa using FrozenL.get i h.2
 | [], _ :: _, _, h => h.elim
 | _ :: _, [], _, h => h.elim
theorem FrozenL.set {H H' : Nat → Option VObj} {x y : VV} (hx : Frozen H H' x y) : ∀ {xs ys : List VV} (i : Nat), FrozenL H H' xs ys → FrozenL H H' (xs.set i x) (ys.set i y)
 | [], [], _, _ => trivial
 | _ :: _, _ :: _, 0, h => ⟨hx, h.2⟩
 | _ :: _, _ :: _, i + 1, h => ⟨h.1, FrozenL.set hx i h.2⟩
 | [], _ :: _, _, h => h.elim
 | _ :: _, [], _, h => h.elim
theorem Frozen.pair {H H' : Nat → Option VObj} {x y x' y' : VV} (m : Nat) (hx : ∀ n, m ≤ n → sealV (gone H H') n x = some x') (hy : ∀ n, m ≤ n → sealV (gone H H') n y = some y') (ht : (VV.agg [x, y]).tree = false) : Frozen H H' (.agg [x, y]) (.agg [x', y']) := by
 refine .inr (.inr ⟨m + 4, ?_⟩)
 show sealV (gone H H') ((m + 3) + 1) _ = _
 unfold sealV
 rw [ht]
 simp only [Bool.false_eq_true, if_false]
 have e3 : sealL (gone H H') (m + 1) [] = some [] := by simp [sealL]
 have e2 : sealL (gone H H') (m + 2) [y] = some [y'] := by
  show sealL (gone H H') ((m + 1) + 1) _ = _
  unfold sealL
  rw [hy (m + 1) (by omega), e3]
 have e1 : sealL (gone H H') (m + 3) [x, y] = some [x', y'] := by
  show sealL (gone H H') ((m + 2) + 1) _ = _
  unfold sealL
  rw [hx (m + 2) (by omega), e2]
 rw [e1]
 rfl


def strR : Option Gld → Int × Int
 | none => (0, 5)
 | some l => (l.stretch, 0)
def BL (s : GLs) (x : GLx) : Option (Int × Int) := Option.bind (vn s) fun b => cond b (Option.bind (tL s x) fun c => cond c (Option.bind (tN s x 0) fun l => Option.bind (FQ l) fun w => some (strR w)) (some (0, 2))) (some (0, 2))
theorem zkz (s : GLs) (x : GLx) (R : Int × Int) (h : BL s x = some R) : ag Tryz.prog G0 32 [.agg (cGLs s), .agg (cGLx x)] (.tree (.tup [.lit (.int .i64 R.1), .lit (.int .i64 R.2)])) := by
 refine ag.runR mixed Tryz.call32 Tryz.func32 rfl (by simp [Tryz.ntmps32]; kernel_rfl) ?_
 unfold BL at h
 rcases o0 : vn s with _ | b
 ·rw [o0] at h; cases h
 rw [o0, Option.bind_some] at h
 simp only [vz, tyf, seval, ua, rg]
 refine ktA (Ls _ _ o0) ?_
 cases b with
 | false =>
  simp only [cond_false, Option.some.injEq] at h
  subst h
  simp only [vz, tyf, seval, ua, rg, Bool.not_false]
  refine dX (x := .tup [.lit (.int .i64 0), .lit (.int .i64 2)]) (by simp only [Tryz.results32, resV, resL, aV, dP, dQ, uw, cr, tyf, nm, seval] <;> rfl) ?_
  refine dV (by simp only [tre, aF, Bool.and_self]) ?_
  simp only [outV, nrm, aE, tyf, seval, List.map_cons, List.map_nil]
 | true =>
 rw [cond_true] at h
 rcases o1 : tL s x with _ | c
 ·rw [o1] at h; cases h
 rw [o1, Option.bind_some] at h
 simp only [vz, tyf, seval, ua, rg, Bool.not_true]
 refine ktA (Lt _ _ _ o1) ?_
 cases c with
 | false =>
  simp only [cond_false, Option.some.injEq] at h
  subst h
  simp only [vz, tyf, seval, ua, rg, Bool.not_false]
  refine dX (x := .tup [.lit (.int .i64 0), .lit (.int .i64 2)]) (by simp only [Tryz.results32, resV, resL, aV, dP, dQ, uw, cr, tyf, nm, seval] <;> rfl) ?_
  refine dV (by simp only [tre, aF, Bool.and_self]) ?_
  simp only [outV, nrm, aE, tyf, seval, List.map_cons, List.map_nil]
 | true =>
 rw [cond_true] at h
 rcases o2 : tN s x 0 with _ | l
 ·rw [o2] at h; cases h
 rw [o2, Option.bind_some] at h
 rcases o3 : FQ l with _ | w
 ·rw [o3] at h; cases h
 rw [o3, Option.bind_some, Option.some.injEq] at h
 simp only [vz, tyf, seval, ua, rg, Bool.not_true]
 refine ktA (Lv _ _ _ _ o2) ?_
 simp only [vz, @sY, tyf, seval, ua, rg]
 refine ktree (args0 := [.agg (cGld l)]) (by first | (simp only [nrm, aE, mqr] <;> rfl) | rfl) (by simp only [tre, aF, mqr, Bool.and_self]) (zis _ _ o3) ?_
 cases w with
 | none =>
  simp only [strR] at h
  subst h
  simp only [vz, @sY, mq, mqm, mqt, tyf, seval, ua, nm, rg, wV, zlN]
  refine dX (x := .tup [.lit (.int .i64 0), .lit (.int .i64 5)]) (by simp only [Tryz.results32, resV, resL, aV, dP, dQ, uw, cr, tyf, nm, seval] <;> rfl) ?_
  refine dV (by simp only [tre, aF, Bool.and_self]) ?_
  simp only [outV, nrm, aE, tyf, seval, List.map_cons, List.map_nil]
 | some y =>
  simp only [strR] at h
  subst h
  simp only [vz, @sY, mq, mqm, mqt, tyf, seval, ua, nm, rg, wV, zlN]
  refine dX (x := .tup [.lit (.int .i64 y.stretch), .lit (.int .i64 0)]) (by simp only [Tryz.results32, resV, resL, aV, dP, dQ, uw, cr, tyf, nm, seval] <;> rfl) ?_
  refine dV (by simp only [tre, aF, Bool.and_self]) ?_
  simp only [outV, nrm, aE, tyf, seval, List.map_cons, List.map_nil]
def zi (eF : Int) : Option (Bool) := Option.bind (oc 0 eF 10) (fun r1 => some r1)
theorem V7 (eF : Int) (R : Bool) (h : zi eF = some R) : ag Tryz.prog G0 70 [.lit (.int .i64 eF)] (.tree (.lit (.bool R))) := by
 refine ag.runR mixed Tryz.call70 Tryz.func70 rfl (by simp [Tryz.ntmps70]; kernel_rfl) ?_
 obtain ⟨KF, h, kF, kN⟩ := dZ h
 simp only [zi] at h
 obtain ⟨r2, o3, h⟩ := optI h kN
 try simp only [hs] at h
 simp only [vz, tyf, nm, seval]
 refine ktA (tq _ _ _ _ o3) ?_
 refine bt (fun tm => tm 4 = .lit (.bool r2) ∧ True) (by refine ⟨?_, trivial⟩ <;> first | (simp only [ua, nm, seval] <;> rfl) | rfl) ?_
 rintro tm ⟨e4, _⟩
 try simp only [vz, tyf, e4, nm, seval]
 obtain rfl := kF _ h
 exact bd Tryz.results70 rfl
end Go.V
end
