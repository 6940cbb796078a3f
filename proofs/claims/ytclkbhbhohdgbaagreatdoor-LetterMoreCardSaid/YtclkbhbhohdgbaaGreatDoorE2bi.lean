/- Part of a proof. -/
import Derived.Test.YtclkbhbhohdgbaaGreatDoorE2bh
set_option linter.all false
set_option maxRecDepth 4000
set_option maxHeartbeats 40000000
section
namespace Go.V
open Go Go.Proofs IntKind Tryz
def rV (aD : Int) : List Int → Int → (List Int) → Option (LOut (List Int) ((List Int)))
 | [], kW, cN => some (.go cN)
 | e0 :: p0, kW, cN => cond (decide (e0 < aD)) (cond (ar 8 (List.length (cN ++ [e0]))) (rV aD p0 (kW + 1) (cN ++ [e0])) none) (some (.go cN))
def Cr (av : List Int) (aD : Int) : Option (List Int) := cond (lenOk av) (lbind (rV aD av 0 ([] : List Int)) (fun r6 => some r6) (fun c1 => cond (ar 8 (List.length (c1 ++ [aD]))) (cond (decide ((List.length c1 : Int) < (List.length av : Int))) (Option.bind (getI av (List.length c1 : Int)) (fun x2 => cond (x2 == aD) (Option.bind (sliceO av (i64.wrap ((List.length c1 : Int) + 1)) (List.length av : Int)) (fun s3 => cond (neB s3) (cond (ar 8 (List.length ((c1 ++ [aD]) ++ s3))) (some ((c1 ++ [aD]) ++ s3)) none) (some (c1 ++ [aD])))) (Option.bind (sliceO av (List.length c1 : Int) (List.length av : Int)) (fun s4 => cond (neB s4) (cond (ar 8 (List.length ((c1 ++ [aD]) ++ s4))) (some ((c1 ++ [aD]) ++ s4)) none) (some (c1 ++ [aD])))))) (Option.bind (sliceO av (List.length c1 : Int) (List.length av : Int)) (fun s5 => cond (neB s5) (cond (ar 8 (List.length ((c1 ++ [aD]) ++ s5))) (some ((c1 ++ [aD]) ++ s5)) none) (some (c1 ++ [aD]))))) none) (fun _ _ => none)) none
theorem Zy (av : List Int) (aD : Int) (R : List Int) (h : Cr av aD = some R) : ah prog G0 58 [.sl (ad eI av) (List.length av) false, .lit (.int .i64 aD)] (.tree (.sl (ad eI R) (List.length R) false)) := by
 refine ah.runR mixed call58 func58 rfl (by simp [ntmps58]; kernel_rfl) ?_
 obtain ⟨KF, h, kF, kN⟩ := fg h
 simp only [Cr] at h
 cases g8 : (lenOk av)
 ·simp only [g8, hs] at h
  exact absurd h kN
 simp only [g8, hs] at h
 simp only [vz, cB, tyf, g8, nm, seval]
 obtain ⟨K7, h, wW, wX, WT, uD⟩ := iy h kN
 obtain ⟨f7, Iv, h⟩ := call3 h
 obtain ⟨I7, q9⟩ : ∃ I : Nat → St → Prop, I = (fun m st => ∃ (p7 : List Int) (je : Int) (bw : List Int) (rW : VV), m = List.length p7 ∧ 0 ≤ je ∧ List.drop (Int.toNat je) av = p7 ∧ st.df = [] ∧ 3 ≤ st.nx ∧ st.tm 0 = .sl (ad eI av) (List.length av) false ∧ st.tm 1 = .lit (.int .i64 aD) ∧ st.tm 5 = rW ∧ st.tm 6 = .lit (.int .i64 je) ∧ ((∃ (β : Nat) (el : Option TypeId), rW = .ref β 0 (List.length bw) 1 (List.length bw) ∧ β < st.nx ∧ st.H β = some (.cells el (ad eI bw))) ∨ (nilS rW = .sl [] 0 true ∧ bw = [])) ∧ K7 (f7 p7 je bw)) := ⟨_, rfl⟩
 refine loopK mixed (by kernel_rfl) I7 (List.length av) (by rw [q9]; refine ⟨av, 0, ([] : List Int), .lit (.slice none 0 0), rfl, qZf _, rfl, rfl, (show 3 ≤ 3 by omega), ?_, ?_, ?_, ?_, Or.inr ⟨rfl, rfl⟩, h⟩ <;> first | (simp only [ua, nm, seval] <;> rfl) | rfl) ?_
 rintro m ⟨tm, H, fa, df⟩ ba
 rw [q9] at ba
 obtain ⟨p7, je, bw, rW, rfl, iZ, kj, hdf, Iw, e9, aE, aB, aL, tw, h⟩ := ba
 simp only at hdf Iw e9 aE aB aL tw
 have lE := ib (m := 3) (b := fa) (by omega)
 subst hdf Iv
 rcases tw with ⟨Zz, dI, rfl, P8, mg⟩ | ⟨hy_q15, rfl⟩
 ·have rX := jH P8
  cases p7 with
  | nil =>
   have ed : (decide (je < (List.length av : Int))) = false := ic iZ kj
   simp only [rV, hs, reduceCtorEq] at h
   replace h := wX _ h
   try dsimp only at h
   try simp only [hs] at h
   cases jD : (ar 8 (List.length (bw ++ [aD])))
   ·simp only [jD, hs] at h
    exact absurd h kN
   simp only [jD, hs] at h
   simp only [vz, cB, tyf, g8, lE, e9, aE, aB, aL, rX, mg, ed, jD, nm, seval]
   refine k_app (w := 1) (enc := eI) (xs := bw) (ys := ([aD])) (el := dI) (fx := (some 3)) (fun _ => rfl) ct cu underlying22 (by first | rfl | assumption | (simp only [aQ, bp, bI, lE, rX, mg, nm, seval] <;> rfl) | (simp only [aQ, bp, cY, cT, cW, cX, tyf, g8, lE, e9, aE, aB, aL, rX, mg, ed, jD, nm, seval]; done)) (by first | rfl | assumption | (simp only [aQ, bp, bI, lE, rX, mg, nm, seval] <;> rfl) | (simp only [aQ, bp, cY, cT, cW, cX, tyf, g8, lE, e9, aE, aB, aL, rX, mg, ed, jD, nm, seval]; done)) (qZm _) jD ?_
   cases jm : (decide ((List.length bw : Int) < (List.length av : Int)))
   ·simp only [jm, hs] at h
    have mj := qZj g8 (qZj lE (qZj rX (qZj mg (qZj ed (qZj jD jm)))))
    obtain ⟨xE, Ik, h⟩ := optI h kN
    try simp only [hs] at h
    try simp only [vz, cB, tyf, mj, e9, aE, aB, aL, nm, seval]
    refine k_slT (w := 1) (enc := eI) (xs := av) underlying22 (by kernel_rfl) (fun _ => rfl) (by first | (simp only [gi, gj, gT, fL, mj, e9, aE, aB, aL, nm, seval] <;> rfl) | rfl) (.inr ⟨.i64, by simp only [Option.map_some]; exact congrArg some (by first | (simp only [gi, gj, gT, fL, mj, e9, aE, aB, aL, nm, seval] <;> rfl) | rfl)⟩) (.inl ⟨rfl, rfl⟩) Ik ?_
    cases js : (neB xE)
    ·simp only [js, hs] at h
     simp only [vz, cB, tyf, mj, e9, aE, aB, aL, js, nm, seval]
     refine ow (w := 1) (enc := eI) (xs := (bw ++ [aD])) (ys := xE) (el := (sameEl dI 3)) (fun _ => rfl) ct cu underlying22 (by first | rfl | assumption | (simp only [aQ, bp, bI, mj, nm, seval] <;> rfl) | (simp only [aQ, bp, cY, cT, cW, cX, tyf, mj, e9, aE, aB, aL, js, nm, seval]; done)) js ?_
     try simp only [vz, cB, tyf, mj, e9, aE, aB, aL, js, nm, seval]
     refine bO (x := (.ref (fa + 18) 0 (List.length (bw ++ [aD])) 1 (List.length (bw ++ [aD])))) (by first | (simp only [results58, resV, resL, aw, cn, cq, uw, cr, tyf, mj, js, nm, seval] <;> rfl) | rfl) ?_
     obtain rfl := kF _ h
     refine cm ?_ ?_
     ·simp only [tre, an, Bool.and_self]
     ·first | (simp only [outV, uw, cw, cr, tyf, nrm, aq, mj, e9, aE, aB, aL, js, nm, seval] <;> rfl) | rfl
    simp only [js, hs] at h
    cases kQ : (ar 8 (List.length ((bw ++ [aD]) ++ xE)))
    ·simp only [kQ, hs] at h
     exact absurd h kN
    simp only [kQ, hs] at h
    simp only [vz, cB, tyf, mj, e9, aE, aB, aL, js, kQ, nm, seval]
    refine mA (w := 1) (enc := eI) (xs := (bw ++ [aD])) (ys := xE) (el := (sameEl dI 3)) (fun _ => rfl) ct cu underlying22 (by first | rfl | assumption | (simp only [aQ, bp, bI, mj, nm, seval] <;> rfl) | (simp only [aQ, bp, cY, cT, cW, cX, tyf, mj, e9, aE, aB, aL, js, kQ, nm, seval]; done)) js kQ ?_
    try simp only [vz, cB, tyf, mj, e9, aE, aB, aL, js, kQ, nm, seval]
    refine bO (x := (.ref (fa + 36) 0 (List.length ((bw ++ [aD]) ++ xE)) 1 (List.length ((bw ++ [aD]) ++ xE)))) (by first | (simp only [results58, resV, resL, aw, cn, cq, uw, cr, tyf, mj, js, kQ, nm, seval] <;> rfl) | rfl) ?_
    obtain rfl := kF _ h
    refine cm ?_ ?_
    ·simp only [tre, an, Bool.and_self]
    ·first | (simp only [outV, uw, cw, cr, tyf, nrm, aq, mj, e9, aE, aB, aL, js, kQ, nm, seval] <;> rfl) | rfl
   simp only [jm, hs] at h
   have fH := qZj g8 (qZj lE (qZj rX (qZj mg (qZj ed (qZj jD jm)))))
   obtain ⟨Z0, eY, h⟩ := optI h kN
   try simp only [hs] at h
   cases fY : (Z0 == aD)
   ·simp only [fY, hs] at h
    obtain ⟨xF, Z1, h⟩ := optI h kN
    try simp only [hs] at h
    try simp only [vz, cB, tyf, fH, e9, aE, aB, aL, (ai eY), fY, nm, seval]
    refine k_slT (w := 1) (enc := eI) (xs := av) underlying22 (by kernel_rfl) (fun _ => rfl) (by first | (simp only [gi, gj, gT, fL, fH, e9, aE, aB, aL, (ai eY), fY, nm, seval] <;> rfl) | rfl) (.inr ⟨.i64, by simp only [Option.map_some]; exact congrArg some (by first | (simp only [gi, gj, gT, fL, fH, e9, aE, aB, aL, (ai eY), fY, nm, seval] <;> rfl) | rfl)⟩) (.inl ⟨rfl, rfl⟩) Z1 ?_
    cases fX : (neB xF)
    ·simp only [fX, hs] at h
     simp only [vz, cB, tyf, fH, e9, aE, aB, aL, (ai eY), fY, fX, nm, seval]
     refine ow (w := 1) (enc := eI) (xs := (bw ++ [aD])) (ys := xF) (el := (sameEl dI 3)) (fun _ => rfl) ct cu underlying22 (by first | rfl | assumption | (simp only [aQ, bp, bI, fH, nm, seval] <;> rfl) | (simp only [aQ, bp, cY, cT, cW, cX, tyf, fH, e9, aE, aB, aL, (ai eY), fY, fX, nm, seval]; done)) fX ?_
     try simp only [vz, cB, tyf, fH, e9, aE, aB, aL, (ai eY), fY, fX, nm, seval]
     refine bO (x := (.ref (fa + 18) 0 (List.length (bw ++ [aD])) 1 (List.length (bw ++ [aD])))) (by first | (simp only [results58, resV, resL, aw, cn, cq, uw, cr, tyf, fH, (ai eY), fY, fX, nm, seval] <;> rfl) | rfl) ?_
     obtain rfl := kF _ h
     refine cm ?_ ?_
     ·simp only [tre, an, Bool.and_self]
     ·first | (simp only [outV, uw, cw, cr, tyf, nrm, aq, fH, e9, aE, aB, aL, (ai eY), fY, fX, nm, seval] <;> rfl) | rfl
    simp only [fX, hs] at h
    cases gE : (ar 8 (List.length ((bw ++ [aD]) ++ xF)))
    ·simp only [gE, hs] at h
     exact absurd h kN
    simp only [gE, hs] at h
    simp only [vz, cB, tyf, fH, e9, aE, aB, aL, (ai eY), fY, fX, gE, nm, seval]
    refine mA (w := 1) (enc := eI) (xs := (bw ++ [aD])) (ys := xF) (el := (sameEl dI 3)) (fun _ => rfl) ct cu underlying22 (by first | rfl | assumption | (simp only [aQ, bp, bI, fH, nm, seval] <;> rfl) | (simp only [aQ, bp, cY, cT, cW, cX, tyf, fH, e9, aE, aB, aL, (ai eY), fY, fX, gE, nm, seval]; done)) fX gE ?_
    try simp only [vz, cB, tyf, fH, e9, aE, aB, aL, (ai eY), fY, fX, gE, nm, seval]
    refine bO (x := (.ref (fa + 36) 0 (List.length ((bw ++ [aD]) ++ xF)) 1 (List.length ((bw ++ [aD]) ++ xF)))) (by first | (simp only [results58, resV, resL, aw, cn, cq, uw, cr, tyf, fH, (ai eY), fY, fX, gE, nm, seval] <;> rfl) | rfl) ?_
    obtain rfl := kF _ h
    refine cm ?_ ?_
    ·simp only [tre, an, Bool.and_self]
    ·first | (simp only [outV, uw, cw, cr, tyf, nrm, aq, fH, e9, aE, aB, aL, (ai eY), fY, fX, gE, nm, seval] <;> rfl) | rfl
   simp only [fY, hs] at h
   obtain ⟨xG, zx, h⟩ := optI h kN
   try simp only [hs] at h
   try simp only [vz, cB, tyf, fH, e9, aE, aB, aL, (ai eY), fY, nm, seval]
   refine k_slT (w := 1) (enc := eI) (xs := av) underlying22 (by kernel_rfl) (fun _ => rfl) (by first | (simp only [gi, gj, gT, fL, fH, e9, aE, aB, aL, (ai eY), fY, nm, seval] <;> rfl) | rfl) (.inr ⟨.i64, by simp only [Option.map_some]; exact congrArg some (by first | (simp only [gi, gj, gT, fL, fH, e9, aE, aB, aL, (ai eY), fY, nm, seval] <;> rfl) | rfl)⟩) (.inl ⟨rfl, rfl⟩) zx ?_
   cases jz : (neB xG)
   ·simp only [jz, hs] at h
    simp only [vz, cB, tyf, fH, e9, aE, aB, aL, (ai eY), fY, jz, nm, seval]
    refine ow (w := 1) (enc := eI) (xs := (bw ++ [aD])) (ys := xG) (el := (sameEl dI 3)) (fun _ => rfl) ct cu underlying22 (by first | rfl | assumption | (simp only [aQ, bp, bI, fH, nm, seval] <;> rfl) | (simp only [aQ, bp, cY, cT, cW, cX, tyf, fH, e9, aE, aB, aL, (ai eY), fY, jz, nm, seval]; done)) jz ?_
    try simp only [vz, cB, tyf, fH, e9, aE, aB, aL, (ai eY), fY, jz, nm, seval]
    refine bO (x := (.ref (fa + 18) 0 (List.length (bw ++ [aD])) 1 (List.length (bw ++ [aD])))) (by first | (simp only [results58, resV, resL, aw, cn, cq, uw, cr, tyf, fH, (ai eY), fY, jz, nm, seval] <;> rfl) | rfl) ?_
    obtain rfl := kF _ h
    refine cm ?_ ?_
    ·simp only [tre, an, Bool.and_self]
    ·first | (simp only [outV, uw, cw, cr, tyf, nrm, aq, fH, e9, aE, aB, aL, (ai eY), fY, jz, nm, seval] <;> rfl) | rfl
   simp only [jz, hs] at h
   cases tx : (ar 8 (List.length ((bw ++ [aD]) ++ xG)))
   ·simp only [tx, hs] at h
    exact absurd h kN
   simp only [tx, hs] at h
   simp only [vz, cB, tyf, fH, e9, aE, aB, aL, (ai eY), fY, jz, tx, nm, seval]
   refine mA (w := 1) (enc := eI) (xs := (bw ++ [aD])) (ys := xG) (el := (sameEl dI 3)) (fun _ => rfl) ct cu underlying22 (by first | rfl | assumption | (simp only [aQ, bp, bI, fH, nm, seval] <;> rfl) | (simp only [aQ, bp, cY, cT, cW, cX, tyf, fH, e9, aE, aB, aL, (ai eY), fY, jz, tx, nm, seval]; done)) jz tx ?_
   try simp only [vz, cB, tyf, fH, e9, aE, aB, aL, (ai eY), fY, jz, tx, nm, seval]
   refine bO (x := (.ref (fa + 39) 0 (List.length ((bw ++ [aD]) ++ xG)) 1 (List.length ((bw ++ [aD]) ++ xG)))) (by first | (simp only [results58, resV, resL, aw, cn, cq, uw, cr, tyf, fH, (ai eY), fY, jz, tx, nm, seval] <;> rfl) | rfl) ?_
   obtain rfl := kF _ h
   refine cm ?_ ?_
   ·simp only [tre, an, Bool.and_self]
   ·first | (simp only [outV, uw, cw, cr, tyf, nrm, aq, fH, e9, aE, aB, aL, (ai eY), fY, jz, tx, nm, seval] <;> rfl) | rfl
  | cons e7 p7 =>
   have vq : (decide (je < (List.length av : Int))) = true := gZ iZ kj
   have bJ := fA iZ kj
   have UD := hC iZ kj g8
   simp only [rV, hs, reduceCtorEq] at h
   cases Eb : (decide (e7 < aD))
   ·simp only [Eb, hs] at h
    have dJ := qZj g8 (qZj lE (qZj rX (qZj mg (qZj vq (qZj UD Eb)))))
    replace h := wX _ h
    try dsimp only at h
    try simp only [hs] at h
    cases ec : (ar 8 (List.length (bw ++ [aD])))
    ·simp only [ec, hs] at h
     exact absurd h kN
    simp only [ec, hs] at h
    simp only [vz, cB, tyf, dJ, e9, aE, aB, aL, (ai bJ), (aA bJ), ec, nm, seval]
    refine k_app (w := 1) (enc := eI) (xs := bw) (ys := ([aD])) (el := dI) (fx := (some 3)) (fun _ => rfl) ct cu underlying22 (by first | rfl | assumption | (simp only [aQ, bp, bI, dJ, nm, seval] <;> rfl) | (simp only [aQ, bp, cY, cT, cW, cX, tyf, dJ, e9, aE, aB, aL, (ai bJ), (aA bJ), ec, nm, seval]; done)) (by first | rfl | assumption | (simp only [aQ, bp, bI, dJ, nm, seval] <;> rfl) | (simp only [aQ, bp, cY, cT, cW, cX, tyf, dJ, e9, aE, aB, aL, (ai bJ), (aA bJ), ec, nm, seval]; done)) (qZm _) ec ?_
    cases dC : (decide ((List.length bw : Int) < (List.length av : Int)))
    ·simp only [dC, hs] at h
     obtain ⟨xH, Dk, h⟩ := optI h kN
     try simp only [hs] at h
     try simp only [vz, cB, tyf, dJ, e9, aE, aB, aL, (ai bJ), (aA bJ), ec, dC, nm, seval]
     refine k_slT (w := 1) (enc := eI) (xs := av) underlying22 (by kernel_rfl) (fun _ => rfl) (by first | (simp only [gi, gj, gT, fL, dJ, e9, aE, aB, aL, (ai bJ), (aA bJ), ec, dC, nm, seval] <;> rfl) | rfl) (.inr ⟨.i64, by simp only [Option.map_some]; exact congrArg some (by first | (simp only [gi, gj, gT, fL, dJ, e9, aE, aB, aL, (ai bJ), (aA bJ), ec, dC, nm, seval] <;> rfl) | rfl)⟩) (.inl ⟨rfl, rfl⟩) Dk ?_
     cases fE : (neB xH)
     ·simp only [fE, hs] at h
      simp only [vz, cB, tyf, dJ, e9, aE, aB, aL, (ai bJ), (aA bJ), ec, dC, fE, nm, seval]
      refine ow (w := 1) (enc := eI) (xs := (bw ++ [aD])) (ys := xH) (el := (sameEl dI 3)) (fun _ => rfl) ct cu underlying22 (by first | rfl | assumption | (simp only [aQ, bp, bI, dJ, nm, seval] <;> rfl) | (simp only [aQ, bp, cY, cT, cW, cX, tyf, dJ, e9, aE, aB, aL, (ai bJ), (aA bJ), ec, dC, fE, nm, seval]; done)) fE ?_
      try simp only [vz, cB, tyf, dJ, e9, aE, aB, aL, (ai bJ), (aA bJ), ec, dC, fE, nm, seval]
      refine bO (x := (.ref (fa + 18) 0 (List.length (bw ++ [aD])) 1 (List.length (bw ++ [aD])))) (by first | (simp only [results58, resV, resL, aw, cn, cq, uw, cr, tyf, dJ, (ai bJ), (aA bJ), ec, dC, fE, nm, seval] <;> rfl) | rfl) ?_
      obtain rfl := kF _ h
      refine cm ?_ ?_
      ·simp only [tre, an, Bool.and_self]
      ·first | (simp only [outV, uw, cw, cr, tyf, nrm, aq, dJ, e9, aE, aB, aL, (ai bJ), (aA bJ), ec, dC, fE, nm, seval] <;> rfl) | rfl
     simp only [fE, hs] at h
     cases tz : (ar 8 (List.length ((bw ++ [aD]) ++ xH)))
     ·simp only [tz, hs] at h
      exact absurd h kN
     simp only [tz, hs] at h
     simp only [vz, cB, tyf, dJ, e9, aE, aB, aL, (ai bJ), (aA bJ), ec, dC, fE, tz, nm, seval]
     refine mA (w := 1) (enc := eI) (xs := (bw ++ [aD])) (ys := xH) (el := (sameEl dI 3)) (fun _ => rfl) ct cu underlying22 (by first | rfl | assumption | (simp only [aQ, bp, bI, dJ, nm, seval] <;> rfl) | (simp only [aQ, bp, cY, cT, cW, cX, tyf, dJ, e9, aE, aB, aL, (ai bJ), (aA bJ), ec, dC, fE, tz, nm, seval]; done)) fE tz ?_
     try simp only [vz, cB, tyf, dJ, e9, aE, aB, aL, (ai bJ), (aA bJ), ec, dC, fE, tz, nm, seval]
     refine bO (x := (.ref (fa + 36) 0 (List.length ((bw ++ [aD]) ++ xH)) 1 (List.length ((bw ++ [aD]) ++ xH)))) (by first | (simp only [results58, resV, resL, aw, cn, cq, uw, cr, tyf, dJ, (ai bJ), (aA bJ), ec, dC, fE, tz, nm, seval] <;> rfl) | rfl) ?_
     obtain rfl := kF _ h
     refine cm ?_ ?_
     ·simp only [tre, an, Bool.and_self]
     ·first | (simp only [outV, uw, cw, cr, tyf, nrm, aq, dJ, e9, aE, aB, aL, (ai bJ), (aA bJ), ec, dC, fE, tz, nm, seval] <;> rfl) | rfl
    simp only [dC, hs] at h
    obtain ⟨Z2, fW, h⟩ := optI h kN
    try simp only [hs] at h
    cases eA : (Z2 == aD)
    ·simp only [eA, hs] at h
     obtain ⟨xI, Z3, h⟩ := optI h kN
     try simp only [hs] at h
     try simp only [vz, cB, tyf, dJ, e9, aE, aB, aL, (ai bJ), (aA bJ), ec, dC, (ai fW), eA, nm, seval]
     refine k_slT (w := 1) (enc := eI) (xs := av) underlying22 (by kernel_rfl) (fun _ => rfl) (by first | (simp only [gi, gj, gT, fL, dJ, e9, aE, aB, aL, (ai bJ), (aA bJ), ec, dC, (ai fW), eA, nm, seval] <;> rfl) | rfl) (.inr ⟨.i64, by simp only [Option.map_some]; exact congrArg some (by first | (simp only [gi, gj, gT, fL, dJ, e9, aE, aB, aL, (ai bJ), (aA bJ), ec, dC, (ai fW), eA, nm, seval] <;> rfl) | rfl)⟩) (.inl ⟨rfl, rfl⟩) Z3 ?_
     cases mP : (neB xI)
     ·simp only [mP, hs] at h
      simp only [vz, cB, tyf, dJ, e9, aE, aB, aL, (ai bJ), (aA bJ), ec, dC, (ai fW), eA, mP, nm, seval]
      refine ow (w := 1) (enc := eI) (xs := (bw ++ [aD])) (ys := xI) (el := (sameEl dI 3)) (fun _ => rfl) ct cu underlying22 (by first | rfl | assumption | (simp only [aQ, bp, bI, dJ, nm, seval] <;> rfl) | (simp only [aQ, bp, cY, cT, cW, cX, tyf, dJ, e9, aE, aB, aL, (ai bJ), (aA bJ), ec, dC, (ai fW), eA, mP, nm, seval]; done)) mP ?_
      try simp only [vz, cB, tyf, dJ, e9, aE, aB, aL, (ai bJ), (aA bJ), ec, dC, (ai fW), eA, mP, nm, seval]
      refine bO (x := (.ref (fa + 18) 0 (List.length (bw ++ [aD])) 1 (List.length (bw ++ [aD])))) (by first | (simp only [results58, resV, resL, aw, cn, cq, uw, cr, tyf, dJ, (ai bJ), (aA bJ), ec, dC, (ai fW), eA, mP, nm, seval] <;> rfl) | rfl) ?_
      obtain rfl := kF _ h
      refine cm ?_ ?_
      ·simp only [tre, an, Bool.and_self]
      ·first | (simp only [outV, uw, cw, cr, tyf, nrm, aq, dJ, e9, aE, aB, aL, (ai bJ), (aA bJ), ec, dC, (ai fW), eA, mP, nm, seval] <;> rfl) | rfl
     simp only [mP, hs] at h
     cases me : (ar 8 (List.length ((bw ++ [aD]) ++ xI)))
     ·simp only [me, hs] at h
      exact absurd h kN
     simp only [me, hs] at h
     simp only [vz, cB, tyf, dJ, e9, aE, aB, aL, (ai bJ), (aA bJ), ec, dC, (ai fW), eA, mP, me, nm, seval]
     refine mA (w := 1) (enc := eI) (xs := (bw ++ [aD])) (ys := xI) (el := (sameEl dI 3)) (fun _ => rfl) ct cu underlying22 (by first | rfl | assumption | (simp only [aQ, bp, bI, dJ, nm, seval] <;> rfl) | (simp only [aQ, bp, cY, cT, cW, cX, tyf, dJ, e9, aE, aB, aL, (ai bJ), (aA bJ), ec, dC, (ai fW), eA, mP, me, nm, seval]; done)) mP me ?_
     try simp only [vz, cB, tyf, dJ, e9, aE, aB, aL, (ai bJ), (aA bJ), ec, dC, (ai fW), eA, mP, me, nm, seval]
     refine bO (x := (.ref (fa + 36) 0 (List.length ((bw ++ [aD]) ++ xI)) 1 (List.length ((bw ++ [aD]) ++ xI)))) (by first | (simp only [results58, resV, resL, aw, cn, cq, uw, cr, tyf, dJ, (ai bJ), (aA bJ), ec, dC, (ai fW), eA, mP, me, nm, seval] <;> rfl) | rfl) ?_
     obtain rfl := kF _ h
     refine cm ?_ ?_
     ·simp only [tre, an, Bool.and_self]
     ·first | (simp only [outV, uw, cw, cr, tyf, nrm, aq, dJ, e9, aE, aB, aL, (ai bJ), (aA bJ), ec, dC, (ai fW), eA, mP, me, nm, seval] <;> rfl) | rfl
    simp only [eA, hs] at h
    obtain ⟨xJ, zI, h⟩ := optI h kN
    try simp only [hs] at h
    try simp only [vz, cB, tyf, dJ, e9, aE, aB, aL, (ai bJ), (aA bJ), ec, dC, (ai fW), eA, nm, seval]
    refine k_slT (w := 1) (enc := eI) (xs := av) underlying22 (by kernel_rfl) (fun _ => rfl) (by first | (simp only [gi, gj, gT, fL, dJ, e9, aE, aB, aL, (ai bJ), (aA bJ), ec, dC, (ai fW), eA, nm, seval] <;> rfl) | rfl) (.inr ⟨.i64, by simp only [Option.map_some]; exact congrArg some (by first | (simp only [gi, gj, gT, fL, dJ, e9, aE, aB, aL, (ai bJ), (aA bJ), ec, dC, (ai fW), eA, nm, seval] <;> rfl) | rfl)⟩) (.inl ⟨rfl, rfl⟩) zI ?_
    cases mQ : (neB xJ)
    ·simp only [mQ, hs] at h
     simp only [vz, cB, tyf, dJ, e9, aE, aB, aL, (ai bJ), (aA bJ), ec, dC, (ai fW), eA, mQ, nm, seval]
     refine ow (w := 1) (enc := eI) (xs := (bw ++ [aD])) (ys := xJ) (el := (sameEl dI 3)) (fun _ => rfl) ct cu underlying22 (by first | rfl | assumption | (simp only [aQ, bp, bI, dJ, nm, seval] <;> rfl) | (simp only [aQ, bp, cY, cT, cW, cX, tyf, dJ, e9, aE, aB, aL, (ai bJ), (aA bJ), ec, dC, (ai fW), eA, mQ, nm, seval]; done)) mQ ?_
     try simp only [vz, cB, tyf, dJ, e9, aE, aB, aL, (ai bJ), (aA bJ), ec, dC, (ai fW), eA, mQ, nm, seval]
     refine bO (x := (.ref (fa + 18) 0 (List.length (bw ++ [aD])) 1 (List.length (bw ++ [aD])))) (by first | (simp only [results58, resV, resL, aw, cn, cq, uw, cr, tyf, dJ, (ai bJ), (aA bJ), ec, dC, (ai fW), eA, mQ, nm, seval] <;> rfl) | rfl) ?_
     obtain rfl := kF _ h
     refine cm ?_ ?_
     ·simp only [tre, an, Bool.and_self]
     ·first | (simp only [outV, uw, cw, cr, tyf, nrm, aq, dJ, e9, aE, aB, aL, (ai bJ), (aA bJ), ec, dC, (ai fW), eA, mQ, nm, seval] <;> rfl) | rfl
    simp only [mQ, hs] at h
    cases kh : (ar 8 (List.length ((bw ++ [aD]) ++ xJ)))
    ·simp only [kh, hs] at h
     exact absurd h kN
    simp only [kh, hs] at h
    simp only [vz, cB, tyf, dJ, e9, aE, aB, aL, (ai bJ), (aA bJ), ec, dC, (ai fW), eA, mQ, kh, nm, seval]
    refine mA (w := 1) (enc := eI) (xs := (bw ++ [aD])) (ys := xJ) (el := (sameEl dI 3)) (fun _ => rfl) ct cu underlying22 (by first | rfl | assumption | (simp only [aQ, bp, bI, dJ, nm, seval] <;> rfl) | (simp only [aQ, bp, cY, cT, cW, cX, tyf, dJ, e9, aE, aB, aL, (ai bJ), (aA bJ), ec, dC, (ai fW), eA, mQ, kh, nm, seval]; done)) mQ kh ?_
    try simp only [vz, cB, tyf, dJ, e9, aE, aB, aL, (ai bJ), (aA bJ), ec, dC, (ai fW), eA, mQ, kh, nm, seval]
    refine bO (x := (.ref (fa + 39) 0 (List.length ((bw ++ [aD]) ++ xJ)) 1 (List.length ((bw ++ [aD]) ++ xJ)))) (by first | (simp only [results58, resV, resL, aw, cn, cq, uw, cr, tyf, dJ, (ai bJ), (aA bJ), ec, dC, (ai fW), eA, mQ, kh, nm, seval] <;> rfl) | rfl) ?_
    obtain rfl := kF _ h
    refine cm ?_ ?_
    ·simp only [tre, an, Bool.and_self]
    ·first | (simp only [outV, uw, cw, cr, tyf, nrm, aq, dJ, e9, aE, aB, aL, (ai bJ), (aA bJ), ec, dC, (ai fW), eA, mQ, kh, nm, seval] <;> rfl) | rfl
   simp only [Eb, hs] at h
   have t4 := qZj g8 (qZj lE (qZj rX (qZj mg (qZj vq (qZj UD Eb)))))
   cases vZ : (ar 8 (List.length (bw ++ [e7])))
   ·simp only [vZ, hs] at h
    exact absurd h uD
   simp only [vZ, hs] at h
   simp only [vz, cB, tyf, t4, e9, aE, aB, aL, (ai bJ), (aA bJ), vZ, nm, seval]
   refine k_app (w := 1) (enc := eI) (xs := bw) (ys := ([e7])) (el := dI) (fx := (some 3)) (fun _ => rfl) ct cu underlying22 (by first | rfl | assumption | (simp only [aQ, bp, bI, t4, nm, seval] <;> rfl) | (simp only [aQ, bp, cY, cT, cW, cX, tyf, t4, e9, aE, aB, aL, (ai bJ), (aA bJ), vZ, nm, seval]; done)) (by first | rfl | assumption | (simp only [aQ, bp, bI, t4, nm, seval] <;> rfl) | (simp only [aQ, bp, cY, cT, cW, cX, tyf, t4, e9, aE, aB, aL, (ai bJ), (aA bJ), vZ, nm, seval]; done)) (qZm _) vZ ?_
   simp only [vz, cB, tyf, t4, e9, aE, aB, aL, (ai bJ), (aA bJ), vZ, nm, seval]
   exact ⟨List.length p7, qZc _, by rw [q9]; refine ⟨p7, je + 1, (bw ++ [e7]), .ref (fa + 18) 0 (List.length (bw ++ [e7])) 1 (List.length (bw ++ [e7])), rfl, qZl iZ (qZk (qZf _)), dm iZ kj, rfl, (show 3 ≤ fa + 23 by omega), e9, aE, ?_, ?_, Or.inl ⟨fa + 18, (sameEl dI 3), rfl, (by first | omega | (simp only [nm, seval]; done) | (simp only [nm, seval]; omega)), ?_⟩, (by first | exact h | (simp only [t4]; exact h))⟩ <;> first | (simp only [ua, t4, e9, aE, aB, aL, nm, seval] <;> rfl) | rfl⟩
 ·have xK := vap_y hy_q15
  have xL := NA hy_q15
  have xM := Kx hy_q15
  cases p7 with
  | nil =>
   have rb : (decide (je < (List.length av : Int))) = false := ic iZ kj
   simp only [rV, hs, reduceCtorEq] at h
   replace h := wX _ h
   try dsimp only at h
   try simp only [hs] at h
   cases wa : (ar 8 (List.length (([] : List Int) ++ [aD])))
   ·simp only [wa, hs] at h
    exact absurd h kN
   simp only [wa, hs] at h
   simp only [vz, cB, tyf, g8, lE, e9, aE, aB, aL, xK, xL, xM, rb, wa, nm, seval]
   refine ni (w := 1) (enc := eI) (ys := ([aD])) (fx := (some 3)) (fun _ => rfl) ct cu underlying22 (by first | rfl | assumption | (simp only [aQ, bp, bI, lE, nm, seval] <;> rfl) | (simp only [aQ, bp, cY, cT, cW, cX, tyf, g8, lE, e9, aE, aB, aL, xK, xL, xM, rb, wa, nm, seval]; done)) (qZm _) wa ?_
   try simp only [nD] at h
   cases jn : (decide (0 < (List.length av : Int)))
   ·simp only [jn, hs] at h
    have kS := qZj g8 (qZj lE (qZj xK (qZj xL (qZj xM (qZj rb (qZj wa jn))))))
    obtain ⟨xN, Z4, h⟩ := optI h kN
    try simp only [hs] at h
    try simp only [vz, cB, tyf, kS, e9, aE, aB, aL, nm, seval]
    refine k_slT (w := 1) (enc := eI) (xs := av) underlying22 (by kernel_rfl) (fun _ => rfl) (by first | (simp only [gi, gj, gT, fL, kS, e9, aE, aB, aL, nm, seval] <;> rfl) | rfl) (.inr ⟨.i64, by simp only [Option.map_some]; exact congrArg some (by first | (simp only [gi, gj, gT, fL, kS, e9, aE, aB, aL, nm, seval] <;> rfl) | rfl)⟩) (.inl ⟨rfl, rfl⟩) Z4 ?_
    cases gF : (neB xN)
    ·simp only [gF, hs] at h
     simp only [vz, cB, tyf, kS, e9, aE, aB, aL, gF, nm, seval]
     refine ow (w := 1) (enc := eI) (xs := (([] : List Int) ++ [aD])) (ys := xN) (el := (some 3)) (fun _ => rfl) ct cu underlying22 (by first | rfl | assumption | (simp only [aQ, bp, bI, kS, nm, seval] <;> rfl) | (simp only [aQ, bp, cY, cT, cW, cX, tyf, kS, e9, aE, aB, aL, gF, nm, seval]; done)) gF ?_
     try simp only [vz, cB, tyf, kS, e9, aE, aB, aL, gF, nm, seval]
     refine bO (x := (.ref (fa + 18) 0 (List.length (([] : List Int) ++ [aD])) 1 (List.length (([] : List Int) ++ [aD])))) (by first | (simp only [results58, resV, resL, aw, cn, cq, uw, cr, tyf, kS, gF, nm, seval] <;> rfl) | rfl) ?_
     obtain rfl := kF _ h
     refine cm ?_ ?_
     ·simp only [tre, an, Bool.and_self]
     ·first | (simp only [outV, uw, cw, cr, tyf, nrm, aq, kS, e9, aE, aB, aL, gF, nm, seval] <;> rfl) | rfl
    simp only [gF, hs] at h
    cases t5 : (ar 8 (List.length ((([] : List Int) ++ [aD]) ++ xN)))
    ·simp only [t5, hs] at h
     exact absurd h kN
    simp only [t5, hs] at h
    simp only [vz, cB, tyf, kS, e9, aE, aB, aL, gF, t5, nm, seval]
    refine mA (w := 1) (enc := eI) (xs := (([] : List Int) ++ [aD])) (ys := xN) (el := (some 3)) (fun _ => rfl) ct cu underlying22 (by first | rfl | assumption | (simp only [aQ, bp, bI, kS, nm, seval] <;> rfl) | (simp only [aQ, bp, cY, cT, cW, cX, tyf, kS, e9, aE, aB, aL, gF, t5, nm, seval]; done)) gF t5 ?_
    try simp only [vz, cB, tyf, kS, e9, aE, aB, aL, gF, t5, nm, seval]
    refine bO (x := (.ref (fa + 36) 0 (List.length ((([] : List Int) ++ [aD]) ++ xN)) 1 (List.length ((([] : List Int) ++ [aD]) ++ xN)))) (by first | (simp only [results58, resV, resL, aw, cn, cq, uw, cr, tyf, kS, gF, t5, nm, seval] <;> rfl) | rfl) ?_
    obtain rfl := kF _ h
    refine cm ?_ ?_
    ·simp only [tre, an, Bool.and_self]
    ·first | (simp only [outV, uw, cw, cr, tyf, nrm, aq, kS, e9, aE, aB, aL, gF, t5, nm, seval] <;> rfl) | rfl
   simp only [jn, hs] at h
   have cF := qZj g8 (qZj lE (qZj xK (qZj xL (qZj xM (qZj rb (qZj wa jn))))))
   obtain ⟨Z5, gV, h⟩ := optI h kN
   try simp only [hs] at h
   cases gW : (Z5 == aD)
   ·simp only [gW, hs] at h
    obtain ⟨xO, Z6, h⟩ := optI h kN
    try simp only [hs] at h
    try simp only [vz, cB, tyf, cF, e9, aE, aB, aL, (ai gV), gW, nm, seval]
    refine k_slT (w := 1) (enc := eI) (xs := av) underlying22 (by kernel_rfl) (fun _ => rfl) (by first | (simp only [gi, gj, gT, fL, cF, e9, aE, aB, aL, (ai gV), gW, nm, seval] <;> rfl) | rfl) (.inr ⟨.i64, by simp only [Option.map_some]; exact congrArg some (by first | (simp only [gi, gj, gT, fL, cF, e9, aE, aB, aL, (ai gV), gW, nm, seval] <;> rfl) | rfl)⟩) (.inl ⟨rfl, rfl⟩) Z6 ?_
    cases jo : (neB xO)
    ·simp only [jo, hs] at h
     simp only [vz, cB, tyf, cF, e9, aE, aB, aL, (ai gV), gW, jo, nm, seval]
     refine ow (w := 1) (enc := eI) (xs := (([] : List Int) ++ [aD])) (ys := xO) (el := (some 3)) (fun _ => rfl) ct cu underlying22 (by first | rfl | assumption | (simp only [aQ, bp, bI, cF, nm, seval] <;> rfl) | (simp only [aQ, bp, cY, cT, cW, cX, tyf, cF, e9, aE, aB, aL, (ai gV), gW, jo, nm, seval]; done)) jo ?_
     try simp only [vz, cB, tyf, cF, e9, aE, aB, aL, (ai gV), gW, jo, nm, seval]
     refine bO (x := (.ref (fa + 18) 0 (List.length (([] : List Int) ++ [aD])) 1 (List.length (([] : List Int) ++ [aD])))) (by first | (simp only [results58, resV, resL, aw, cn, cq, uw, cr, tyf, cF, (ai gV), gW, jo, nm, seval] <;> rfl) | rfl) ?_
     obtain rfl := kF _ h
     refine cm ?_ ?_
     ·simp only [tre, an, Bool.and_self]
     ·first | (simp only [outV, uw, cw, cr, tyf, nrm, aq, cF, e9, aE, aB, aL, (ai gV), gW, jo, nm, seval] <;> rfl) | rfl
    simp only [jo, hs] at h
    cases t6 : (ar 8 (List.length ((([] : List Int) ++ [aD]) ++ xO)))
    ·simp only [t6, hs] at h
     exact absurd h kN
    simp only [t6, hs] at h
    simp only [vz, cB, tyf, cF, e9, aE, aB, aL, (ai gV), gW, jo, t6, nm, seval]
    refine mA (w := 1) (enc := eI) (xs := (([] : List Int) ++ [aD])) (ys := xO) (el := (some 3)) (fun _ => rfl) ct cu underlying22 (by first | rfl | assumption | (simp only [aQ, bp, bI, cF, nm, seval] <;> rfl) | (simp only [aQ, bp, cY, cT, cW, cX, tyf, cF, e9, aE, aB, aL, (ai gV), gW, jo, t6, nm, seval]; done)) jo t6 ?_
    try simp only [vz, cB, tyf, cF, e9, aE, aB, aL, (ai gV), gW, jo, t6, nm, seval]
    refine bO (x := (.ref (fa + 36) 0 (List.length ((([] : List Int) ++ [aD]) ++ xO)) 1 (List.length ((([] : List Int) ++ [aD]) ++ xO)))) (by first | (simp only [results58, resV, resL, aw, cn, cq, uw, cr, tyf, cF, (ai gV), gW, jo, t6, nm, seval] <;> rfl) | rfl) ?_
    obtain rfl := kF _ h
    refine cm ?_ ?_
    ·simp only [tre, an, Bool.and_self]
    ·first | (simp only [outV, uw, cw, cr, tyf, nrm, aq, cF, e9, aE, aB, aL, (ai gV), gW, jo, t6, nm, seval] <;> rfl) | rfl
   simp only [gW, hs] at h
   try simp only [nD, AB] at h
   obtain ⟨xP, sP, h⟩ := optI h kN
   try simp only [hs] at h
   try simp only [vz, cB, tyf, cF, e9, aE, aB, aL, (ai gV), gW, nm, seval]
   refine k_slT (w := 1) (enc := eI) (xs := av) underlying22 (by kernel_rfl) (fun _ => rfl) (by first | (simp only [gi, gj, gT, fL, cF, e9, aE, aB, aL, (ai gV), gW, nm, seval] <;> rfl) | rfl) (.inr ⟨.i64, by simp only [Option.map_some]; exact congrArg some (by first | (simp only [gi, gj, gT, fL, cF, e9, aE, aB, aL, (ai gV), gW, nm, seval] <;> rfl) | rfl)⟩) (.inl ⟨rfl, rfl⟩) sP ?_
   cases mR : (neB xP)
   ·simp only [mR, hs] at h
    simp only [vz, cB, tyf, cF, e9, aE, aB, aL, (ai gV), gW, mR, nm, seval]
    refine ow (w := 1) (enc := eI) (xs := (([] : List Int) ++ [aD])) (ys := xP) (el := (some 3)) (fun _ => rfl) ct cu underlying22 (by first | rfl | assumption | (simp only [aQ, bp, bI, cF, nm, seval] <;> rfl) | (simp only [aQ, bp, cY, cT, cW, cX, tyf, cF, e9, aE, aB, aL, (ai gV), gW, mR, nm, seval]; done)) mR ?_
    try simp only [vz, cB, tyf, cF, e9, aE, aB, aL, (ai gV), gW, mR, nm, seval]
    refine bO (x := (.ref (fa + 18) 0 (List.length (([] : List Int) ++ [aD])) 1 (List.length (([] : List Int) ++ [aD])))) (by first | (simp only [results58, resV, resL, aw, cn, cq, uw, cr, tyf, cF, (ai gV), gW, mR, nm, seval] <;> rfl) | rfl) ?_
    obtain rfl := kF _ h
    refine cm ?_ ?_
    ·simp only [tre, an, Bool.and_self]
    ·first | (simp only [outV, uw, cw, cr, tyf, nrm, aq, cF, e9, aE, aB, aL, (ai gV), gW, mR, nm, seval] <;> rfl) | rfl
   simp only [mR, hs] at h
   cases t7 : (ar 8 (List.length ((([] : List Int) ++ [aD]) ++ xP)))
   ·simp only [t7, hs] at h
    exact absurd h kN
   simp only [t7, hs] at h
   simp only [vz, cB, tyf, cF, e9, aE, aB, aL, (ai gV), gW, mR, t7, nm, seval]
   refine mA (w := 1) (enc := eI) (xs := (([] : List Int) ++ [aD])) (ys := xP) (el := (some 3)) (fun _ => rfl) ct cu underlying22 (by first | rfl | assumption | (simp only [aQ, bp, bI, cF, nm, seval] <;> rfl) | (simp only [aQ, bp, cY, cT, cW, cX, tyf, cF, e9, aE, aB, aL, (ai gV), gW, mR, t7, nm, seval]; done)) mR t7 ?_
   try simp only [vz, cB, tyf, cF, e9, aE, aB, aL, (ai gV), gW, mR, t7, nm, seval]
   refine bO (x := (.ref (fa + 39) 0 (List.length ((([] : List Int) ++ [aD]) ++ xP)) 1 (List.length ((([] : List Int) ++ [aD]) ++ xP)))) (by first | (simp only [results58, resV, resL, aw, cn, cq, uw, cr, tyf, cF, (ai gV), gW, mR, t7, nm, seval] <;> rfl) | rfl) ?_
   obtain rfl := kF _ h
   refine cm ?_ ?_
   ·simp only [tre, an, Bool.and_self]
   ·first | (simp only [outV, uw, cw, cr, tyf, nrm, aq, cF, e9, aE, aB, aL, (ai gV), gW, mR, t7, nm, seval] <;> rfl) | rfl
  | cons e7 p7 =>
   have UE : (decide (je < (List.length av : Int))) = true := gZ iZ kj
   have bK := fA iZ kj
   have UF := hC iZ kj g8
   simp only [rV, hs, reduceCtorEq] at h
   cases Ec : (decide (e7 < aD))
   ·simp only [Ec, hs] at h
    have dP := qZj g8 (qZj lE (qZj xK (qZj xL (qZj xM (qZj UE (qZj UF Ec))))))
    replace h := wX _ h
    try dsimp only at h
    try simp only [hs] at h
    cases eh : (ar 8 (List.length (([] : List Int) ++ [aD])))
    ·simp only [eh, hs] at h
     exact absurd h kN
    simp only [eh, hs] at h
    simp only [vz, cB, tyf, dP, e9, aE, aB, aL, (ai bK), (aA bK), eh, nm, seval]
    refine ni (w := 1) (enc := eI) (ys := ([aD])) (fx := (some 3)) (fun _ => rfl) ct cu underlying22 (by first | rfl | assumption | (simp only [aQ, bp, bI, dP, nm, seval] <;> rfl) | (simp only [aQ, bp, cY, cT, cW, cX, tyf, dP, e9, aE, aB, aL, (ai bK), (aA bK), eh, nm, seval]; done)) (qZm _) eh ?_
    try simp only [nD] at h
    cases dO : (decide (0 < (List.length av : Int)))
    ·simp only [dO, hs] at h
     obtain ⟨xQ, Z7, h⟩ := optI h kN
     try simp only [hs] at h
     try simp only [vz, cB, tyf, dP, e9, aE, aB, aL, (ai bK), (aA bK), eh, dO, nm, seval]
     refine k_slT (w := 1) (enc := eI) (xs := av) underlying22 (by kernel_rfl) (fun _ => rfl) (by first | (simp only [gi, gj, gT, fL, dP, e9, aE, aB, aL, (ai bK), (aA bK), eh, dO, nm, seval] <;> rfl) | rfl) (.inr ⟨.i64, by simp only [Option.map_some]; exact congrArg some (by first | (simp only [gi, gj, gT, fL, dP, e9, aE, aB, aL, (ai bK), (aA bK), eh, dO, nm, seval] <;> rfl) | rfl)⟩) (.inl ⟨rfl, rfl⟩) Z7 ?_
     cases mS : (neB xQ)
     ·simp only [mS, hs] at h
      simp only [vz, cB, tyf, dP, e9, aE, aB, aL, (ai bK), (aA bK), eh, dO, mS, nm, seval]
      refine ow (w := 1) (enc := eI) (xs := (([] : List Int) ++ [aD])) (ys := xQ) (el := (some 3)) (fun _ => rfl) ct cu underlying22 (by first | rfl | assumption | (simp only [aQ, bp, bI, dP, nm, seval] <;> rfl) | (simp only [aQ, bp, cY, cT, cW, cX, tyf, dP, e9, aE, aB, aL, (ai bK), (aA bK), eh, dO, mS, nm, seval]; done)) mS ?_
      try simp only [vz, cB, tyf, dP, e9, aE, aB, aL, (ai bK), (aA bK), eh, dO, mS, nm, seval]
      refine bO (x := (.ref (fa + 18) 0 (List.length (([] : List Int) ++ [aD])) 1 (List.length (([] : List Int) ++ [aD])))) (by first | (simp only [results58, resV, resL, aw, cn, cq, uw, cr, tyf, dP, (ai bK), (aA bK), eh, dO, mS, nm, seval] <;> rfl) | rfl) ?_
      obtain rfl := kF _ h
      refine cm ?_ ?_
      ·simp only [tre, an, Bool.and_self]
      ·first | (simp only [outV, uw, cw, cr, tyf, nrm, aq, dP, e9, aE, aB, aL, (ai bK), (aA bK), eh, dO, mS, nm, seval] <;> rfl) | rfl
     simp only [mS, hs] at h
     cases t8 : (ar 8 (List.length ((([] : List Int) ++ [aD]) ++ xQ)))
     ·simp only [t8, hs] at h
      exact absurd h kN
     simp only [t8, hs] at h
     simp only [vz, cB, tyf, dP, e9, aE, aB, aL, (ai bK), (aA bK), eh, dO, mS, t8, nm, seval]
     refine mA (w := 1) (enc := eI) (xs := (([] : List Int) ++ [aD])) (ys := xQ) (el := (some 3)) (fun _ => rfl) ct cu underlying22 (by first | rfl | assumption | (simp only [aQ, bp, bI, dP, nm, seval] <;> rfl) | (simp only [aQ, bp, cY, cT, cW, cX, tyf, dP, e9, aE, aB, aL, (ai bK), (aA bK), eh, dO, mS, t8, nm, seval]; done)) mS t8 ?_
     try simp only [vz, cB, tyf, dP, e9, aE, aB, aL, (ai bK), (aA bK), eh, dO, mS, t8, nm, seval]
     refine bO (x := (.ref (fa + 36) 0 (List.length ((([] : List Int) ++ [aD]) ++ xQ)) 1 (List.length ((([] : List Int) ++ [aD]) ++ xQ)))) (by first | (simp only [results58, resV, resL, aw, cn, cq, uw, cr, tyf, dP, (ai bK), (aA bK), eh, dO, mS, t8, nm, seval] <;> rfl) | rfl) ?_
     obtain rfl := kF _ h
     refine cm ?_ ?_
     ·simp only [tre, an, Bool.and_self]
     ·first | (simp only [outV, uw, cw, cr, tyf, nrm, aq, dP, e9, aE, aB, aL, (ai bK), (aA bK), eh, dO, mS, t8, nm, seval] <;> rfl) | rfl
    simp only [dO, hs] at h
    obtain ⟨Z8, ix, h⟩ := optI h kN
    try simp only [hs] at h
    cases gX : (Z8 == aD)
    ·simp only [gX, hs] at h
     obtain ⟨xR, Z9, h⟩ := optI h kN
     try simp only [hs] at h
     try simp only [vz, cB, tyf, dP, e9, aE, aB, aL, (ai bK), (aA bK), eh, dO, (ai ix), gX, nm, seval]
     refine k_slT (w := 1) (enc := eI) (xs := av) underlying22 (by kernel_rfl) (fun _ => rfl) (by first | (simp only [gi, gj, gT, fL, dP, e9, aE, aB, aL, (ai bK), (aA bK), eh, dO, (ai ix), gX, nm, seval] <;> rfl) | rfl) (.inr ⟨.i64, by simp only [Option.map_some]; exact congrArg some (by first | (simp only [gi, gj, gT, fL, dP, e9, aE, aB, aL, (ai bK), (aA bK), eh, dO, (ai ix), gX, nm, seval] <;> rfl) | rfl)⟩) (.inl ⟨rfl, rfl⟩) Z9 ?_
     cases ke : (neB xR)
     ·simp only [ke, hs] at h
      simp only [vz, cB, tyf, dP, e9, aE, aB, aL, (ai bK), (aA bK), eh, dO, (ai ix), gX, ke, nm, seval]
      refine ow (w := 1) (enc := eI) (xs := (([] : List Int) ++ [aD])) (ys := xR) (el := (some 3)) (fun _ => rfl) ct cu underlying22 (by first | rfl | assumption | (simp only [aQ, bp, bI, dP, nm, seval] <;> rfl) | (simp only [aQ, bp, cY, cT, cW, cX, tyf, dP, e9, aE, aB, aL, (ai bK), (aA bK), eh, dO, (ai ix), gX, ke, nm, seval]; done)) ke ?_
      try simp only [vz, cB, tyf, dP, e9, aE, aB, aL, (ai bK), (aA bK), eh, dO, (ai ix), gX, ke, nm, seval]
      refine bO (x := (.ref (fa + 18) 0 (List.length (([] : List Int) ++ [aD])) 1 (List.length (([] : List Int) ++ [aD])))) (by first | (simp only [results58, resV, resL, aw, cn, cq, uw, cr, tyf, dP, (ai bK), (aA bK), eh, dO, (ai ix), gX, ke, nm, seval] <;> rfl) | rfl) ?_
      obtain rfl := kF _ h
      refine cm ?_ ?_
      ·simp only [tre, an, Bool.and_self]
      ·first | (simp only [outV, uw, cw, cr, tyf, nrm, aq, dP, e9, aE, aB, aL, (ai bK), (aA bK), eh, dO, (ai ix), gX, ke, nm, seval] <;> rfl) | rfl
     simp only [ke, hs] at h
     cases lg : (ar 8 (List.length ((([] : List Int) ++ [aD]) ++ xR)))
     ·simp only [lg, hs] at h
      exact absurd h kN
     simp only [lg, hs] at h
     simp only [vz, cB, tyf, dP, e9, aE, aB, aL, (ai bK), (aA bK), eh, dO, (ai ix), gX, ke, lg, nm, seval]
     refine mA (w := 1) (enc := eI) (xs := (([] : List Int) ++ [aD])) (ys := xR) (el := (some 3)) (fun _ => rfl) ct cu underlying22 (by first | rfl | assumption | (simp only [aQ, bp, bI, dP, nm, seval] <;> rfl) | (simp only [aQ, bp, cY, cT, cW, cX, tyf, dP, e9, aE, aB, aL, (ai bK), (aA bK), eh, dO, (ai ix), gX, ke, lg, nm, seval]; done)) ke lg ?_
     try simp only [vz, cB, tyf, dP, e9, aE, aB, aL, (ai bK), (aA bK), eh, dO, (ai ix), gX, ke, lg, nm, seval]
     refine bO (x := (.ref (fa + 36) 0 (List.length ((([] : List Int) ++ [aD]) ++ xR)) 1 (List.length ((([] : List Int) ++ [aD]) ++ xR)))) (by first | (simp only [results58, resV, resL, aw, cn, cq, uw, cr, tyf, dP, (ai bK), (aA bK), eh, dO, (ai ix), gX, ke, lg, nm, seval] <;> rfl) | rfl) ?_
     obtain rfl := kF _ h
     refine cm ?_ ?_
     ·simp only [tre, an, Bool.and_self]
     ·first | (simp only [outV, uw, cw, cr, tyf, nrm, aq, dP, e9, aE, aB, aL, (ai bK), (aA bK), eh, dO, (ai ix), gX, ke, lg, nm, seval] <;> rfl) | rfl
    simp only [gX, hs] at h
    try simp only [nD, AB] at h
    obtain ⟨nG, ji, h⟩ := optI h kN
    try simp only [hs] at h
    try simp only [vz, cB, tyf, dP, e9, aE, aB, aL, (ai bK), (aA bK), eh, dO, (ai ix), gX, nm, seval]
    refine k_slT (w := 1) (enc := eI) (xs := av) underlying22 (by kernel_rfl) (fun _ => rfl) (by first | (simp only [gi, gj, gT, fL, dP, e9, aE, aB, aL, (ai bK), (aA bK), eh, dO, (ai ix), gX, nm, seval] <;> rfl) | rfl) (.inr ⟨.i64, by simp only [Option.map_some]; exact congrArg some (by first | (simp only [gi, gj, gT, fL, dP, e9, aE, aB, aL, (ai bK), (aA bK), eh, dO, (ai ix), gX, nm, seval] <;> rfl) | rfl)⟩) (.inl ⟨rfl, rfl⟩) ji ?_
    cases gQ : (neB nG)
    ·simp only [gQ, hs] at h
     simp only [vz, cB, tyf, dP, e9, aE, aB, aL, (ai bK), (aA bK), eh, dO, (ai ix), gX, gQ, nm, seval]
     refine ow (w := 1) (enc := eI) (xs := (([] : List Int) ++ [aD])) (ys := nG) (el := (some 3)) (fun _ => rfl) ct cu underlying22 (by first | rfl | assumption | (simp only [aQ, bp, bI, dP, nm, seval] <;> rfl) | (simp only [aQ, bp, cY, cT, cW, cX, tyf, dP, e9, aE, aB, aL, (ai bK), (aA bK), eh, dO, (ai ix), gX, gQ, nm, seval]; done)) gQ ?_
     try simp only [vz, cB, tyf, dP, e9, aE, aB, aL, (ai bK), (aA bK), eh, dO, (ai ix), gX, gQ, nm, seval]
     refine bO (x := (.ref (fa + 18) 0 (List.length (([] : List Int) ++ [aD])) 1 (List.length (([] : List Int) ++ [aD])))) (by first | (simp only [results58, resV, resL, aw, cn, cq, uw, cr, tyf, dP, (ai bK), (aA bK), eh, dO, (ai ix), gX, gQ, nm, seval] <;> rfl) | rfl) ?_
     obtain rfl := kF _ h
     refine cm ?_ ?_
     ·simp only [tre, an, Bool.and_self]
     ·first | (simp only [outV, uw, cw, cr, tyf, nrm, aq, dP, e9, aE, aB, aL, (ai bK), (aA bK), eh, dO, (ai ix), gX, gQ, nm, seval] <;> rfl) | rfl
    simp only [gQ, hs] at h
    cases lh : (ar 8 (List.length ((([] : List Int) ++ [aD]) ++ nG)))
    ·simp only [lh, hs] at h
     exact absurd h kN
    simp only [lh, hs] at h
    simp only [vz, cB, tyf, dP, e9, aE, aB, aL, (ai bK), (aA bK), eh, dO, (ai ix), gX, gQ, lh, nm, seval]
    refine mA (w := 1) (enc := eI) (xs := (([] : List Int) ++ [aD])) (ys := nG) (el := (some 3)) (fun _ => rfl) ct cu underlying22 (by first | rfl | assumption | (simp only [aQ, bp, bI, dP, nm, seval] <;> rfl) | (simp only [aQ, bp, cY, cT, cW, cX, tyf, dP, e9, aE, aB, aL, (ai bK), (aA bK), eh, dO, (ai ix), gX, gQ, lh, nm, seval]; done)) gQ lh ?_
    try simp only [vz, cB, tyf, dP, e9, aE, aB, aL, (ai bK), (aA bK), eh, dO, (ai ix), gX, gQ, lh, nm, seval]
    refine bO (x := (.ref (fa + 39) 0 (List.length ((([] : List Int) ++ [aD]) ++ nG)) 1 (List.length ((([] : List Int) ++ [aD]) ++ nG)))) (by first | (simp only [results58, resV, resL, aw, cn, cq, uw, cr, tyf, dP, (ai bK), (aA bK), eh, dO, (ai ix), gX, gQ, lh, nm, seval] <;> rfl) | rfl) ?_
    obtain rfl := kF _ h
    refine cm ?_ ?_
    ·simp only [tre, an, Bool.and_self]
    ·first | (simp only [outV, uw, cw, cr, tyf, nrm, aq, dP, e9, aE, aB, aL, (ai bK), (aA bK), eh, dO, (ai ix), gX, gQ, lh, nm, seval] <;> rfl) | rfl
   simp only [Ec, hs] at h
   have nH := qZj g8 (qZj lE (qZj xK (qZj xL (qZj xM (qZj UE (qZj UF Ec))))))
   cases nI : (ar 8 (List.length (([] : List Int) ++ [e7])))
   ·simp only [nI, hs] at h
    exact absurd h uD
   simp only [nI, hs] at h
   simp only [vz, cB, tyf, nH, e9, aE, aB, aL, (ai bK), (aA bK), nI, nm, seval]
   refine ni (w := 1) (enc := eI) (ys := ([e7])) (fx := (some 3)) (fun _ => rfl) ct cu underlying22 (by first | rfl | assumption | (simp only [aQ, bp, bI, nH, nm, seval] <;> rfl) | (simp only [aQ, bp, cY, cT, cW, cX, tyf, nH, e9, aE, aB, aL, (ai bK), (aA bK), nI, nm, seval]; done)) (qZm _) nI ?_
   simp only [vz, cB, tyf, nH, e9, aE, aB, aL, (ai bK), (aA bK), nI, nm, seval]
   exact ⟨List.length p7, qZc _, by rw [q9]; refine ⟨p7, je + 1, (([] : List Int) ++ [e7]), .ref (fa + 18) 0 (List.length (([] : List Int) ++ [e7])) 1 (List.length (([] : List Int) ++ [e7])), rfl, qZl iZ (qZk (qZf _)), dm iZ kj, rfl, (show 3 ≤ fa + 23 by omega), e9, aE, ?_, ?_, Or.inl ⟨fa + 18, (some 3), rfl, (by first | omega | (simp only [nm, seval]; done) | (simp only [nm, seval]; omega)), ?_⟩, (by first | exact h | (simp only [nH]; exact h))⟩ <;> first | (simp only [ua, nH, e9, aE, aB, aL, nm, seval] <;> rfl) | rfl⟩
def Ed (ae : GLs) (aY : Int) (bH : Int) (cI : Int) (fq : Int) : Option (Bool) := Option.bind (zK ae) (fun r1 => cond (r1) (Option.bind (zH ae) (fun r2 => cond (r2) (cond (decide (aY < 0)) (some true) (cond (decide (aY > 400)) (some true) (cond (decide (bH < 0)) (some true) (cond (decide (bH > 3)) (some true) (cond (decide (cI < 0)) (some true) (cond (decide (cI ≥ (List.length ae.Words : Int))) (some true) (cond (decide (fq < 1)) (some true) (Option.bind (getI ae.Words cI) (fun x3 => cond (decide (fq ≥ (List.length x3.Signs : Int))) (some true) (cond (neB ae.Words) (cond (ar 56 (List.length ([] ++ ae.Words))) (Option.bind (Cr x3.Cuts fq) (fun r4 => Option.bind (getI ([] ++ ae.Words) cI) (fun x5 => Option.bind (tg ae) (fun r6 => Option.bind (tg (GLs.mk ae.Widths ae.Pairs ae.Other ae.Gap ae.Hyphen (List.set ([] ++ ae.Words) (Int.toNat cI) (GLw.mk x5.Signs r4 x5.Free)) (if (i64.wrap (ae.Wide + aY)) < 400 then (i64.wrap (ae.Wide + aY)) else 400) (if (i64.wrap (ae.Rows + bH)) < 3 then (i64.wrap (ae.Rows + bH)) else 3))) (fun r7 => Option.bind (xp ae) (fun r8 => Option.bind (xp (GLs.mk ae.Widths ae.Pairs ae.Other ae.Gap ae.Hyphen (List.set ([] ++ ae.Words) (Int.toNat cI) (GLw.mk x5.Signs r4 x5.Free)) (if (i64.wrap (ae.Wide + aY)) < 400 then (i64.wrap (ae.Wide + aY)) else 400) (if (i64.wrap (ae.Rows + bH)) < 3 then (i64.wrap (ae.Rows + bH)) else 3))) (fun r9 => Option.bind (xv ae) (fun nT => Option.bind (xv (GLs.mk ae.Widths ae.Pairs ae.Other ae.Gap ae.Hyphen (List.set ([] ++ ae.Words) (Int.toNat cI) (GLw.mk x5.Signs r4 x5.Free)) (if (i64.wrap (ae.Wide + aY)) < 400 then (i64.wrap (ae.Wide + aY)) else 400) (if (i64.wrap (ae.Rows + bH)) < 3 then (i64.wrap (ae.Rows + bH)) else 3))) (fun lD => cond (r6.2 != 0) (cond (r6.2 != 5) (some false) (cond (r7.2 != 0) (cond (r7.2 != 5) (some false) (cond (r8.2 != 0) (some false) (cond (r9.2 != 0) (some false) (cond (nT.2 != 0) (some false) (cond (lD.2 != 0) (some false) (cond (decide (r9.1 ≥ r8.1)) (cond (decide (lD.1 ≤ nT.1)) (some true) (some false)) (some false))))))) (cond (r8.2 != 0) (some false) (cond (r9.2 != 0) (some false) (cond (nT.2 != 0) (some false) (cond (lD.2 != 0) (some false) (cond (decide (r9.1 ≥ r8.1)) (cond (decide (lD.1 ≤ nT.1)) (some true) (some false)) (some false)))))))) (cond (r7.2 != 0) (cond (r7.2 != 5) (some false) (cond (r8.2 != 0) (some false) (cond (r9.2 != 0) (some false) (cond (nT.2 != 0) (some false) (cond (lD.2 != 0) (some false) (cond (r7.2 == 0) (cond (decide (r7.1 ≤ r6.1)) (cond (decide (r9.1 ≥ r8.1)) (cond (decide (lD.1 ≤ nT.1)) (some true) (some false)) (some false)) (some false)) (some false))))))) (cond (r8.2 != 0) (some false) (cond (r9.2 != 0) (some false) (cond (nT.2 != 0) (some false) (cond (lD.2 != 0) (some false) (cond (r7.2 == 0) (cond (decide (r7.1 ≤ r6.1)) (cond (decide (r9.1 ≥ r8.1)) (cond (decide (lD.1 ≤ nT.1)) (some true) (some false)) (some false)) (some false)) (some false)))))))))))))))) none) none)))))))))) (some true))) (some true))
theorem VK (ae : GLs) (aY : Int) (bH : Int) (cI : Int) (fq : Int) (R : Bool) (h : Ed ae aY bH cI fq = some R) : ah prog G0 16 [.agg (cGLs ae), .lit (.int .i64 aY), .lit (.int .i64 bH), .lit (.int .i64 cI), .lit (.int .i64 fq)] (.tree (.lit (.bool R))) := by
 refine ah.runR mixed call16 func16 rfl (by simp [ntmps16]; kernel_rfl) ?_
 obtain ⟨KF, h, kF, kN⟩ := fg h
 simp only [Ed] at h
 obtain ⟨ky, kI, h⟩ := optI h kN
 try simp only [hs] at h
 simp only [vz, tyf, nm, seval]
 refine ktA (Xm _ _ kI) ?_
 refine bQ (fun tm => tm 1 = .lit (.int .i64 aY) ∧ tm 2 = .lit (.int .i64 bH) ∧ tm 3 = .lit (.int .i64 cI) ∧ tm 4 = .lit (.int .i64 fq) ∧ tm 5 = .ptr 0 0 ∧ tm 25 = .lit (.bool ky) ∧ True) (by refine ⟨?_, ?_, ?_, ?_, ?_, ?_, trivial⟩ <;> first | (simp only [ua, nm, seval] <;> rfl) | rfl) ?_
 rintro tm ⟨bN, cJ, dv, di, cM, fm, _⟩
 cases dc : (ky)
 ·simp only [dc, hs] at h
  simp only [vz, tyf, bN, cJ, dv, di, cM, fm, dc, nm, seval]
  refine ktree0 mJ ?_
  try simp only [vz, tyf, bN, cJ, dv, di, cM, fm, dc, nm, seval]
  obtain rfl := kF _ h
  exact bB results16 rfl
 simp only [dc, hs] at h
 obtain ⟨ss, iA, h⟩ := optI h kN
 try simp only [hs] at h
 simp only [vz, tyf, bN, cJ, dv, di, cM, fm, dc, nm, seval]
 refine ktA (WX _ _ iA) ?_
 refine bQ (fun tm => tm 1 = .lit (.int .i64 aY) ∧ tm 2 = .lit (.int .i64 bH) ∧ tm 3 = .lit (.int .i64 cI) ∧ tm 4 = .lit (.int .i64 fq) ∧ tm 5 = .ptr 0 0 ∧ tm 27 = .lit (.bool false) ∧ tm 29 = .lit (.bool ss) ∧ True) (by refine ⟨bN, cJ, dv, di, cM, ?_, ?_, trivial⟩ <;> first | (simp only [ua, bN, cJ, dv, di, cM, fm, dc, nm, seval] <;> rfl) | rfl) ?_
 rintro tm ⟨dy, dX, dj, cK, dk, du, d6, _⟩
 cases fX : (ss)
 ·simp only [fX, hs] at h
  simp only [vz, tyf, dc, dy, dX, dj, cK, dk, du, d6, fX, nm, seval]
  refine ktree0 mJ ?_
  try simp only [vz, tyf, dc, dy, dX, dj, cK, dk, du, d6, fX, nm, seval]
  obtain rfl := kF _ h
  exact bB results16 rfl
 simp only [fX, hs] at h
 cases cO : (decide (aY < 0))
 ·simp only [cO, hs] at h
  cases dT : (decide (aY > 400))
  ·simp only [dT, hs] at h
   cases jT : (decide (bH < 0))
   ·simp only [jT, hs] at h
    cases jz : (decide (bH > 3))
    ·simp only [jz, hs] at h
     cases iG : (decide (cI < 0))
     ·simp only [iG, hs] at h
      have kn := qZj dc (qZj fX (qZj cO (qZj dT (qZj jT (qZj jz iG)))))
      cases gw : (decide (cI ≥ (List.length ae.Words : Int)))
      ·simp only [gw, hs] at h
       cases ko : (decide (fq < 1))
       ·simp only [ko, hs] at h
        obtain ⟨ZA, db, h⟩ := optI h kN
        try simp only [hs] at h
        cases cV : (decide (fq ≥ (List.length ZA.Signs : Int)))
        ·simp only [cV, hs] at h
         simp only [vz, tyf, kn, dy, dX, dj, cK, dk, du, d6, gw, ko, (aF db), cV, nm, seval]
         refine qZ (fun tm => tm 1 = .lit (.int .i64 aY) ∧ tm 2 = .lit (.int .i64 bH) ∧ tm 3 = .lit (.int .i64 cI) ∧ tm 4 = .lit (.int .i64 fq) ∧ tm 5 = .ptr 0 0 ∧ tm 11 = .ptr 53 0 ∧ True) (by refine ⟨dy, dX, dj, cK, dk, ?_, trivial⟩ <;> first | (simp only [ua, kn, dy, dX, dj, cK, dk, du, d6, gw, ko, cV, nm, seval] <;> rfl) | rfl) ?_
         rintro tm ⟨cS, dM, cA, fb, fc, fe, _⟩
         simp only [vz, tyf, kn, gw, ko, (aF db), cV, cS, dM, cA, fb, fc, fe, nm, seval]
         refine lq ⟨?_, ?_⟩
         ·simp only [lr, lu, gf, lv, and_true, true_and]
          repeat' (first | exact trivial | refine qZj ?_ ?_ | rw [gf] | rw [ly] | exact Or.inl (by decide +kernel) | exact Or.inl (by dsimp only; decide +kernel) | (refine Or.inr ⟨?_, ?_⟩ <;> simp; done) | (refine Or.inr ⟨?_, ?_⟩ <;> simp <;> omega) | (refine Or.inr ⟨?_, ?_⟩ <;> simp [Ve.wr] <;> omega))
         cases rY : (neB ae.Words)
         ·simp only [rY, hs] at h
          exact absurd h kN
         simp only [rY, hs] at h
         cases rZ : (ar 56 (List.length ([] ++ ae.Words)))
         ·simp only [rZ, hs] at h
          exact absurd h kN
         simp only [rZ, hs] at h
         simp only [vz, tyf, kn, gw, ko, (aF db), cV, cS, dM, cA, fb, fc, fe, rY, rZ, nm, seval]
         refine Nx (w := 3) (enc := cGLw) (ys := ae.Words) (fun _ => rfl) vy v3 underlying26 rY rZ ?_
         simp only [vz, tyf, kn, gw, ko, (aF db), cV, cS, dM, cA, fb, fc, fe, rY, rZ, nm, seval]
         refine qZ (fun tm => tm 3 = .lit (.int .i64 cI) ∧ tm 4 = .lit (.int .i64 fq) ∧ tm 5 = .ptr 0 0 ∧ tm 11 = .ptr 53 0 ∧ True) (by refine ⟨cA, fb, fc, fe, trivial⟩ <;> first | (simp only [ua, kn, gw, ko, cV, cS, dM, cA, fb, fc, fe, nm, seval] <;> rfl) | rfl) ?_
         rintro tm ⟨dq, dt, dF, om, _⟩
         obtain ⟨ot, zI, h⟩ := optI h kN
         try simp only [hs] at h
         simp only [vz, tyf, kn, gw, ko, (aF db), cV, rY, rZ, dq, dt, dF, om, nm, seval]
         refine dktA (Zy _ _ _ zI) ?_
         refine bQ (fun tm => tm 5 = .ptr 0 0 ∧ tm 11 = .ptr 53 0 ∧ tm 93 = .ref 71 0 (List.length ([] ++ ae.Words)) 3 (List.length ([] ++ ae.Words)) ∧ tm 94 = .lit (.int .i64 cI) ∧ tm 102 = .sl (ad eI ot) (List.length ot) false ∧ True) (by refine ⟨dF, om, ?_, ?_, ?_, trivial⟩ <;> first | (simp only [ua, kn, gw, ko, cV, dq, dt, dF, om, nm, seval] <;> rfl) | rfl) ?_
         rintro tm ⟨kM, oo, mG, k7, lK, _⟩
         obtain ⟨qM, dw, h⟩ := optI h kN
         try simp only [hs] at h
         have Ee := setAF (w := 3) (enc := cGLw) 1 1 (fun _ => rfl) (by decide) dw
         have Cs := setBF (w := 3) (enc := cGLw) 1 [.sl (ad eI ot) (List.length ot) false] (GLw.mk qM.Signs ot qM.Free) (fun _ => rfl) (by simp) dw rfl
         simp only [vz, tyf, nm, seval] at Cs
         have Ef := setC (w := 3) (enc := cGLw) ([] ++ ae.Words) (Int.toNat cI) (GLw.mk qM.Signs ot qM.Free) (fun _ => rfl)
         simp only [vz, tyf, kn, gw, ko, (aF db), cV, rY, rZ, kM, oo, mG, k7, lK, (bg dw), Ee, Cs, Ef, nm, seval]
         refine lq ⟨?_, ?_⟩
         ·simp only [lr, lu, gf, lv, and_true, true_and]
          repeat' (first | exact trivial | refine qZj ?_ ?_ | rw [gf] | rw [ly] | exact Or.inl (by decide +kernel) | exact Or.inl (by dsimp only; decide +kernel) | (refine Or.inr ⟨?_, ?_⟩ <;> simp; done) | (refine Or.inr ⟨?_, ?_⟩ <;> simp <;> omega) | (refine Or.inr ⟨?_, ?_⟩ <;> simp [Ve.wr] <;> omega))
         obtain ⟨lF, zy, h⟩ := optI h kN
         try simp only [hs] at h
         simp only [vz, tyf, kn, gw, ko, (aF db), cV, rY, rZ, kM, oo, mG, k7, lK, (bg dw), Ee, Cs, Ef, nm, seval]
         refine ktA (T1 _ _ zy) ?_
         refine bQ (fun tm => tm 5 = .ptr 0 0 ∧ tm 11 = .ptr 53 0 ∧ tm 107 = .tup [.lit (.int .i64 lF.1), .lit (.int .i64 lF.2)] ∧ True) (by refine ⟨kM, oo, ?_, trivial⟩ <;> first | (simp only [ua, kn, gw, ko, cV, kM, oo, mG, k7, lK, Ee, Cs, Ef, nm, seval] <;> rfl) | rfl) ?_
         rintro tm ⟨Ct, Cu, fF, _⟩
         have cF := qZj kn (qZj gw (qZj ko (qZj cV (qZj rY (qZj rZ (qZj Ee (qZj Cs Ef)))))))
         obtain ⟨kq, gV, h⟩ := optI h kN
         try simp only [hs] at h
         simp only [vz, tyf, cF, (aF db), (bg dw), Ct, Cu, fF, nm, seval]
         refine kseen (args0 := [.agg (cGLs (GLs.mk ae.Widths ae.Pairs ae.Other ae.Gap ae.Hyphen (List.set ([] ++ ae.Words) (Int.toNat cI) (GLw.mk qM.Signs ot qM.Free)) (if (i64.wrap (ae.Wide + aY)) < 400 then (i64.wrap (ae.Wide + aY)) else 400) (if (i64.wrap (ae.Rows + bH)) < 3 then (i64.wrap (ae.Rows + bH)) else 3)))]) (by simp only [List.map_cons, List.map_nil, cw, aQ, bp, cr, tyf, nrm, aq, cF, (aF db), (bg dw), Ct, Cu, fF, nm, seval] <;> rfl) (by simp only [List.map_cons, List.map_nil, cw, aQ, bp, cr, tyf, nrm, aq, cF, (aF db), (bg dw), Ct, Cu, fF, nm, seval]; simp only [tre, an, Bool.and_self]) (T1 _ _ gV) (by first | rfl | simp only [VV.flat, flatL, Bool.and_self]) ?_
         refine bQ (fun tm => tm 5 = .ptr 0 0 ∧ tm 11 = .ptr 53 0 ∧ tm 12 = .lit (.int .i64 lF.1) ∧ tm 13 = .lit (.int .i64 lF.2) ∧ tm 112 = .tup [.lit (.int .i64 kq.1), .lit (.int .i64 kq.2)] ∧ True) (by refine ⟨Ct, Cu, ?_, ?_, ?_, trivial⟩ <;> first | (simp only [ua, cF, Ct, Cu, fF, nm, seval] <;> rfl) | rfl) ?_
         rintro tm ⟨ux, uy, ry, ga, gG, _⟩
         obtain ⟨lG, sP, h⟩ := optI h kN
         try simp only [hs] at h
         simp only [vz, tyf, cF, (aF db), (bg dw), ux, uy, ry, ga, gG, nm, seval]
         refine ktA (Tz _ _ sP) ?_
         refine bQ (fun tm => tm 5 = .ptr 0 0 ∧ tm 11 = .ptr 53 0 ∧ tm 12 = .lit (.int .i64 lF.1) ∧ tm 13 = .lit (.int .i64 lF.2) ∧ tm 14 = .lit (.int .i64 kq.1) ∧ tm 15 = .lit (.int .i64 kq.2) ∧ tm 117 = .tup [.lit (.int .i64 lG.1), .lit (.int .i64 lG.2)] ∧ True) (by refine ⟨ux, uy, ry, ga, ?_, ?_, ?_, trivial⟩ <;> first | (simp only [ua, cF, ux, uy, ry, ga, gG, nm, seval] <;> rfl) | rfl) ?_
         rintro tm ⟨fB, fC, gb, gu, gv, fv, fO, _⟩
         obtain ⟨mT, ZB, h⟩ := optI h kN
         try simp only [hs] at h
         simp only [vz, tyf, cF, (aF db), (bg dw), fB, fC, gb, gu, gv, fv, fO, nm, seval]
         refine kseen (args0 := [.agg (cGLs (GLs.mk ae.Widths ae.Pairs ae.Other ae.Gap ae.Hyphen (List.set ([] ++ ae.Words) (Int.toNat cI) (GLw.mk qM.Signs ot qM.Free)) (if (i64.wrap (ae.Wide + aY)) < 400 then (i64.wrap (ae.Wide + aY)) else 400) (if (i64.wrap (ae.Rows + bH)) < 3 then (i64.wrap (ae.Rows + bH)) else 3)))]) (by simp only [List.map_cons, List.map_nil, cw, aQ, bp, cr, tyf, nrm, aq, cF, (aF db), (bg dw), fB, fC, gb, gu, gv, fv, fO, nm, seval] <;> rfl) (by simp only [List.map_cons, List.map_nil, cw, aQ, bp, cr, tyf, nrm, aq, cF, (aF db), (bg dw), fB, fC, gb, gu, gv, fv, fO, nm, seval]; simp only [tre, an, Bool.and_self]) (Tz _ _ ZB) (by first | rfl | simp only [VV.flat, flatL, Bool.and_self]) ?_
         refine bQ (fun tm => tm 5 = .ptr 0 0 ∧ tm 11 = .ptr 53 0 ∧ tm 12 = .lit (.int .i64 lF.1) ∧ tm 13 = .lit (.int .i64 lF.2) ∧ tm 14 = .lit (.int .i64 kq.1) ∧ tm 15 = .lit (.int .i64 kq.2) ∧ tm 16 = .lit (.int .i64 lG.1) ∧ tm 17 = .lit (.int .i64 lG.2) ∧ tm 122 = .tup [.lit (.int .i64 mT.1), .lit (.int .i64 mT.2)] ∧ True) (by refine ⟨fB, fC, gb, gu, gv, fv, ?_, ?_, ?_, trivial⟩ <;> first | (simp only [ua, cF, fB, fC, gb, gu, gv, fv, fO, nm, seval] <;> rfl) | rfl) ?_
         rintro tm ⟨UG, P9, PA, PB, PC, sQ, uK, uL, UH, _⟩
         obtain ⟨oy, PD, h⟩ := optI h kN
         try simp only [hs] at h
         simp only [vz, tyf, cF, (aF db), (bg dw), UG, P9, PA, PB, PC, sQ, uK, uL, UH, nm, seval]
         refine ktA (T9 _ _ PD) ?_
         refine bQ (fun tm => tm 11 = .ptr 53 0 ∧ tm 12 = .lit (.int .i64 lF.1) ∧ tm 13 = .lit (.int .i64 lF.2) ∧ tm 14 = .lit (.int .i64 kq.1) ∧ tm 15 = .lit (.int .i64 kq.2) ∧ tm 16 = .lit (.int .i64 lG.1) ∧ tm 17 = .lit (.int .i64 lG.2) ∧ tm 18 = .lit (.int .i64 mT.1) ∧ tm 19 = .lit (.int .i64 mT.2) ∧ tm 127 = .tup [.lit (.int .i64 oy.1), .lit (.int .i64 oy.2)] ∧ True) (by refine ⟨P9, PA, PB, PC, sQ, uK, uL, ?_, ?_, ?_, trivial⟩ <;> first | (simp only [ua, cF, UG, P9, PA, PB, PC, sQ, uK, uL, UH, nm, seval] <;> rfl) | rfl) ?_
         rintro tm ⟨sa, pN, pO, pP, pQ, pR, pS, pT, pU, sb, _⟩
         obtain ⟨j0, PE, h⟩ := optI h kN
         try simp only [hs] at h
         simp only [vz, tyf, cF, (aF db), (bg dw), sa, pN, pO, pP, pQ, pR, pS, pT, pU, sb, nm, seval]
         refine kseen (args0 := [.agg (cGLs (GLs.mk ae.Widths ae.Pairs ae.Other ae.Gap ae.Hyphen (List.set ([] ++ ae.Words) (Int.toNat cI) (GLw.mk qM.Signs ot qM.Free)) (if (i64.wrap (ae.Wide + aY)) < 400 then (i64.wrap (ae.Wide + aY)) else 400) (if (i64.wrap (ae.Rows + bH)) < 3 then (i64.wrap (ae.Rows + bH)) else 3)))]) (by simp only [List.map_cons, List.map_nil, cw, aQ, bp, cr, tyf, nrm, aq, cF, (aF db), (bg dw), sa, pN, pO, pP, pQ, pR, pS, pT, pU, sb, nm, seval] <;> rfl) (by simp only [List.map_cons, List.map_nil, cw, aQ, bp, cr, tyf, nrm, aq, cF, (aF db), (bg dw), sa, pN, pO, pP, pQ, pR, pS, pT, pU, sb, nm, seval]; simp only [tre, an, Bool.and_self]) (T9 _ _ PE) (by first | rfl | simp only [VV.flat, flatL, Bool.and_self]) ?_
         refine bQ (fun tm => tm 12 = .lit (.int .i64 lF.1) ∧ tm 13 = .lit (.int .i64 lF.2) ∧ tm 14 = .lit (.int .i64 kq.1) ∧ tm 15 = .lit (.int .i64 kq.2) ∧ tm 16 = .lit (.int .i64 lG.1) ∧ tm 17 = .lit (.int .i64 lG.2) ∧ tm 18 = .lit (.int .i64 mT.1) ∧ tm 19 = .lit (.int .i64 mT.2) ∧ tm 20 = .lit (.int .i64 oy.1) ∧ tm 21 = .lit (.int .i64 oy.2) ∧ tm 132 = .tup [.lit (.int .i64 j0.1), .lit (.int .i64 j0.2)] ∧ True) (by refine ⟨pN, pO, pP, pQ, pR, pS, pT, pU, ?_, ?_, ?_, trivial⟩ <;> first | (simp only [ua, cF, sa, pN, pO, pP, pQ, pR, pS, pT, pU, sb, nm, seval] <;> rfl) | rfl) ?_
         rintro tm ⟨bU, bV, bX, bY, bZ, ca, cb, cg, cj, ck, cl, _⟩
         cases eP : (lF.2 != 0)
         ·simp only [eP, hs] at h
          cases i9 : (kq.2 != 0)
          ·simp only [i9, hs] at h
           cases ml : (lG.2 != 0)
           ·simp only [ml, hs] at h
            cases nJ : (mT.2 != 0)
            ·simp only [nJ, hs] at h
             cases pV : (oy.2 != 0)
             ·simp only [pV, hs] at h
              cases sc : (j0.2 != 0)
              ·simp only [sc, hs] at h
               have nK := qZj cF (qZj eP (qZj i9 (qZj ml (qZj nJ (qZj pV sc)))))
               cases lj : (kq.2 == 0)
               ·simp only [lj, hs] at h
                try simp only [vz, tyf, nK, (aF db), (bg dw), bU, bV, bX, bY, bZ, ca, cb, cg, cj, ck, cl, lj, nm, seval]
                obtain rfl := kF _ h
                exact bB results16 rfl
               simp only [lj, hs] at h
               cases mm : (decide (kq.1 ≤ lF.1))
               ·simp only [mm, hs] at h
                try simp only [vz, tyf, nK, (aF db), (bg dw), bU, bV, bX, bY, bZ, ca, cb, cg, cj, ck, cl, lj, mm, nm, seval]
                obtain rfl := kF _ h
                exact bB results16 rfl
               simp only [mm, hs] at h
               cases nL : (decide (mT.1 ≥ lG.1))
               ·simp only [nL, hs] at h
                try simp only [vz, tyf, nK, (aF db), (bg dw), bU, bV, bX, bY, bZ, ca, cb, cg, cj, ck, cl, lj, mm, nL, nm, seval]
                obtain rfl := kF _ h
                exact bB results16 rfl
               simp only [nL, hs] at h
               cases pW : (decide (j0.1 ≤ oy.1))
               ·simp only [pW, hs] at h
                try simp only [vz, tyf, nK, (aF db), (bg dw), bU, bV, bX, bY, bZ, ca, cb, cg, cj, ck, cl, lj, mm, nL, pW, nm, seval]
                obtain rfl := kF _ h
                exact bB results16 rfl
               simp only [pW, hs] at h
               simp only [vz, tyf, nK, (aF db), (bg dw), bU, bV, bX, bY, bZ, ca, cb, cg, cj, ck, cl, lj, mm, nL, pW, nm, seval]
               refine ktree0 mJ ?_
               try simp only [vz, tyf, nK, (aF db), (bg dw), bU, bV, bX, bY, bZ, ca, cb, cg, cj, ck, cl, lj, mm, nL, pW, nm, seval]
               obtain rfl := kF _ h
               exact bB results16 rfl
              simp only [sc, hs] at h
              have PG := qZj cF (qZj eP (qZj i9 (qZj ml (qZj nJ (qZj pV sc)))))
              try simp only [vz, tyf, PG, (aF db), (bg dw), bU, bV, bX, bY, bZ, ca, cb, cg, cj, ck, cl, nm, seval]
              obtain rfl := kF _ h
              exact bB results16 rfl
             simp only [pV, hs] at h
             try simp only [vz, tyf, cF, (aF db), (bg dw), bU, bV, bX, bY, bZ, ca, cb, cg, cj, ck, cl, eP, i9, ml, nJ, pV, nm, seval]
             obtain rfl := kF _ h
             exact bB results16 rfl
            simp only [nJ, hs] at h
            try simp only [vz, tyf, cF, (aF db), (bg dw), bU, bV, bX, bY, bZ, ca, cb, cg, cj, ck, cl, eP, i9, ml, nJ, nm, seval]
            obtain rfl := kF _ h
            exact bB results16 rfl
           simp only [ml, hs] at h
           try simp only [vz, tyf, cF, (aF db), (bg dw), bU, bV, bX, bY, bZ, ca, cb, cg, cj, ck, cl, eP, i9, ml, nm, seval]
           obtain rfl := kF _ h
           exact bB results16 rfl
          simp only [i9, hs] at h
          cases mn : (kq.2 != 5)
          ·simp only [mn, hs] at h
           cases nM : (lG.2 != 0)
           ·simp only [nM, hs] at h
            cases pZ : (mT.2 != 0)
            ·simp only [pZ, hs] at h
             cases sd : (oy.2 != 0)
             ·simp only [sd, hs] at h
              have mo := qZj cF (qZj eP (qZj i9 (qZj mn (qZj nM (qZj pZ sd)))))
              cases jY : (j0.2 != 0)
              ·simp only [jY, hs] at h
               cases lk : (kq.2 == 0)
               ·simp only [lk, hs] at h
                try simp only [vz, tyf, mo, (aF db), (bg dw), bU, bV, bX, bY, bZ, ca, cb, cg, cj, ck, cl, jY, lk, nm, seval]
                obtain rfl := kF _ h
                exact bB results16 rfl
               simp only [lk, hs] at h
               cases mr : (decide (kq.1 ≤ lF.1))
               ·simp only [mr, hs] at h
                try simp only [vz, tyf, mo, (aF db), (bg dw), bU, bV, bX, bY, bZ, ca, cb, cg, cj, ck, cl, jY, lk, mr, nm, seval]
                obtain rfl := kF _ h
                exact bB results16 rfl
               simp only [mr, hs] at h
               cases nN : (decide (mT.1 ≥ lG.1))
               ·simp only [nN, hs] at h
                try simp only [vz, tyf, mo, (aF db), (bg dw), bU, bV, bX, bY, bZ, ca, cb, cg, cj, ck, cl, jY, lk, mr, nN, nm, seval]
                obtain rfl := kF _ h
                exact bB results16 rfl
               simp only [nN, hs] at h
               cases qa : (decide (j0.1 ≤ oy.1))
               ·simp only [qa, hs] at h
                try simp only [vz, tyf, mo, (aF db), (bg dw), bU, bV, bX, bY, bZ, ca, cb, cg, cj, ck, cl, jY, lk, mr, nN, qa, nm, seval]
                obtain rfl := kF _ h
                exact bB results16 rfl
               simp only [qa, hs] at h
               simp only [vz, tyf, mo, (aF db), (bg dw), bU, bV, bX, bY, bZ, ca, cb, cg, cj, ck, cl, jY, lk, mr, nN, qa, nm, seval]
               refine ktree0 mJ ?_
               try simp only [vz, tyf, mo, (aF db), (bg dw), bU, bV, bX, bY, bZ, ca, cb, cg, cj, ck, cl, jY, lk, mr, nN, qa, nm, seval]
               obtain rfl := kF _ h
               exact bB results16 rfl
              simp only [jY, hs] at h
              try simp only [vz, tyf, mo, (aF db), (bg dw), bU, bV, bX, bY, bZ, ca, cb, cg, cj, ck, cl, jY, nm, seval]
              obtain rfl := kF _ h
              exact bB results16 rfl
             simp only [sd, hs] at h
             have PH := qZj cF (qZj eP (qZj i9 (qZj mn (qZj nM (qZj pZ sd)))))
             try simp only [vz, tyf, PH, (aF db), (bg dw), bU, bV, bX, bY, bZ, ca, cb, cg, cj, ck, cl, nm, seval]
             obtain rfl := kF _ h
             exact bB results16 rfl
            simp only [pZ, hs] at h
            try simp only [vz, tyf, cF, (aF db), (bg dw), bU, bV, bX, bY, bZ, ca, cb, cg, cj, ck, cl, eP, i9, mn, nM, pZ, nm, seval]
            obtain rfl := kF _ h
            exact bB results16 rfl
           simp only [nM, hs] at h
           try simp only [vz, tyf, cF, (aF db), (bg dw), bU, bV, bX, bY, bZ, ca, cb, cg, cj, ck, cl, eP, i9, mn, nM, nm, seval]
           obtain rfl := kF _ h
           exact bB results16 rfl
          simp only [mn, hs] at h
          try simp only [vz, tyf, cF, (aF db), (bg dw), bU, bV, bX, bY, bZ, ca, cb, cg, cj, ck, cl, eP, i9, mn, nm, seval]
          obtain rfl := kF _ h
          exact bB results16 rfl
         simp only [eP, hs] at h
         cases jf : (lF.2 != 5)
         ·simp only [jf, hs] at h
          cases j3 : (kq.2 != 0)
          ·simp only [j3, hs] at h
           cases nO : (lG.2 != 0)
           ·simp only [nO, hs] at h
            cases qb : (mT.2 != 0)
            ·simp only [qb, hs] at h
             cases se : (oy.2 != 0)
             ·simp only [se, hs] at h
              have qc := qZj cF (qZj eP (qZj jf (qZj j3 (qZj nO (qZj qb se)))))
              cases mu : (j0.2 != 0)
              ·simp only [mu, hs] at h
               cases nP : (decide (mT.1 ≥ lG.1))
               ·simp only [nP, hs] at h
                try simp only [vz, tyf, qc, (aF db), (bg dw), bU, bV, bX, bY, bZ, ca, cb, cg, cj, ck, cl, mu, nP, nm, seval]
                obtain rfl := kF _ h
                exact bB results16 rfl
               simp only [nP, hs] at h
               cases qd : (decide (j0.1 ≤ oy.1))
               ·simp only [qd, hs] at h
                try simp only [vz, tyf, qc, (aF db), (bg dw), bU, bV, bX, bY, bZ, ca, cb, cg, cj, ck, cl, mu, nP, qd, nm, seval]
                obtain rfl := kF _ h
                exact bB results16 rfl
               simp only [qd, hs] at h
               simp only [vz, tyf, qc, (aF db), (bg dw), bU, bV, bX, bY, bZ, ca, cb, cg, cj, ck, cl, mu, nP, qd, nm, seval]
               refine ktree0 mJ ?_
               try simp only [vz, tyf, qc, (aF db), (bg dw), bU, bV, bX, bY, bZ, ca, cb, cg, cj, ck, cl, mu, nP, qd, nm, seval]
               obtain rfl := kF _ h
               exact bB results16 rfl
              simp only [mu, hs] at h
              try simp only [vz, tyf, qc, (aF db), (bg dw), bU, bV, bX, bY, bZ, ca, cb, cg, cj, ck, cl, mu, nm, seval]
              obtain rfl := kF _ h
              exact bB results16 rfl
             simp only [se, hs] at h
             have PI := qZj cF (qZj eP (qZj jf (qZj j3 (qZj nO (qZj qb se)))))
             try simp only [vz, tyf, PI, (aF db), (bg dw), bU, bV, bX, bY, bZ, ca, cb, cg, cj, ck, cl, nm, seval]
             obtain rfl := kF _ h
             exact bB results16 rfl
            simp only [qb, hs] at h
            try simp only [vz, tyf, cF, (aF db), (bg dw), bU, bV, bX, bY, bZ, ca, cb, cg, cj, ck, cl, eP, jf, j3, nO, qb, nm, seval]
            obtain rfl := kF _ h
            exact bB results16 rfl
           simp only [nO, hs] at h
           try simp only [vz, tyf, cF, (aF db), (bg dw), bU, bV, bX, bY, bZ, ca, cb, cg, cj, ck, cl, eP, jf, j3, nO, nm, seval]
           obtain rfl := kF _ h
           exact bB results16 rfl
          simp only [j3, hs] at h
          cases nQ : (kq.2 != 5)
          ·simp only [nQ, hs] at h
           cases qe : (lG.2 != 0)
           ·simp only [qe, hs] at h
            cases sf : (mT.2 != 0)
            ·simp only [sf, hs] at h
             have nR := qZj cF (qZj eP (qZj jf (qZj j3 (qZj nQ (qZj qe sf)))))
             cases ll : (oy.2 != 0)
             ·simp only [ll, hs] at h
              cases mw : (j0.2 != 0)
              ·simp only [mw, hs] at h
               cases nS : (decide (mT.1 ≥ lG.1))
               ·simp only [nS, hs] at h
                try simp only [vz, tyf, nR, (aF db), (bg dw), bU, bV, bX, bY, bZ, ca, cb, cg, cj, ck, cl, ll, mw, nS, nm, seval]
                obtain rfl := kF _ h
                exact bB results16 rfl
               simp only [nS, hs] at h
               cases qf : (decide (j0.1 ≤ oy.1))
               ·simp only [qf, hs] at h
                try simp only [vz, tyf, nR, (aF db), (bg dw), bU, bV, bX, bY, bZ, ca, cb, cg, cj, ck, cl, ll, mw, nS, qf, nm, seval]
                obtain rfl := kF _ h
                exact bB results16 rfl
               simp only [qf, hs] at h
               simp only [vz, tyf, nR, (aF db), (bg dw), bU, bV, bX, bY, bZ, ca, cb, cg, cj, ck, cl, ll, mw, nS, qf, nm, seval]
               refine ktree0 mJ ?_
               try simp only [vz, tyf, nR, (aF db), (bg dw), bU, bV, bX, bY, bZ, ca, cb, cg, cj, ck, cl, ll, mw, nS, qf, nm, seval]
               obtain rfl := kF _ h
               exact bB results16 rfl
              simp only [mw, hs] at h
              try simp only [vz, tyf, nR, (aF db), (bg dw), bU, bV, bX, bY, bZ, ca, cb, cg, cj, ck, cl, ll, mw, nm, seval]
              obtain rfl := kF _ h
              exact bB results16 rfl
             simp only [ll, hs] at h
             try simp only [vz, tyf, nR, (aF db), (bg dw), bU, bV, bX, bY, bZ, ca, cb, cg, cj, ck, cl, ll, nm, seval]
             obtain rfl := kF _ h
             exact bB results16 rfl
            simp only [sf, hs] at h
            have PJ := qZj cF (qZj eP (qZj jf (qZj j3 (qZj nQ (qZj qe sf)))))
            try simp only [vz, tyf, PJ, (aF db), (bg dw), bU, bV, bX, bY, bZ, ca, cb, cg, cj, ck, cl, nm, seval]
            obtain rfl := kF _ h
            exact bB results16 rfl
           simp only [qe, hs] at h
           try simp only [vz, tyf, cF, (aF db), (bg dw), bU, bV, bX, bY, bZ, ca, cb, cg, cj, ck, cl, eP, jf, j3, nQ, qe, nm, seval]
           obtain rfl := kF _ h
           exact bB results16 rfl
          simp only [nQ, hs] at h
          try simp only [vz, tyf, cF, (aF db), (bg dw), bU, bV, bX, bY, bZ, ca, cb, cg, cj, ck, cl, eP, jf, j3, nQ, nm, seval]
          obtain rfl := kF _ h
          exact bB results16 rfl
         simp only [jf, hs] at h
         try simp only [vz, tyf, cF, (aF db), (bg dw), bU, bV, bX, bY, bZ, ca, cb, cg, cj, ck, cl, eP, jf, nm, seval]
         obtain rfl := kF _ h
         exact bB results16 rfl
        simp only [cV, hs] at h
        simp only [vz, tyf, kn, dy, dX, dj, cK, dk, du, d6, gw, ko, (aF db), cV, nm, seval]
        refine ktree0 mJ ?_
        try simp only [vz, tyf, kn, dy, dX, dj, cK, dk, du, d6, gw, ko, (aF db), cV, nm, seval]
        obtain rfl := kF _ h
        exact bB results16 rfl
       simp only [ko, hs] at h
       simp only [vz, tyf, kn, dy, dX, dj, cK, dk, du, d6, gw, ko, nm, seval]
       refine ktree0 mJ ?_
       try simp only [vz, tyf, kn, dy, dX, dj, cK, dk, du, d6, gw, ko, nm, seval]
       obtain rfl := kF _ h
       exact bB results16 rfl
      simp only [gw, hs] at h
      simp only [vz, tyf, kn, dy, dX, dj, cK, dk, du, d6, gw, nm, seval]
      refine ktree0 mJ ?_
      try simp only [vz, tyf, kn, dy, dX, dj, cK, dk, du, d6, gw, nm, seval]
      obtain rfl := kF _ h
      exact bB results16 rfl
     simp only [iG, hs] at h
     have Cv := qZj dc (qZj fX (qZj cO (qZj dT (qZj jT (qZj jz iG)))))
     simp only [vz, tyf, Cv, dy, dX, dj, cK, dk, du, d6, nm, seval]
     refine ktree0 mJ ?_
     try simp only [vz, tyf, Cv, dy, dX, dj, cK, dk, du, d6, nm, seval]
     obtain rfl := kF _ h
     exact bB results16 rfl
    simp only [jz, hs] at h
    simp only [vz, tyf, dc, dy, dX, dj, cK, dk, du, d6, fX, cO, dT, jT, jz, nm, seval]
    refine ktree0 mJ ?_
    try simp only [vz, tyf, dc, dy, dX, dj, cK, dk, du, d6, fX, cO, dT, jT, jz, nm, seval]
    obtain rfl := kF _ h
    exact bB results16 rfl
   simp only [jT, hs] at h
   simp only [vz, tyf, dc, dy, dX, dj, cK, dk, du, d6, fX, cO, dT, jT, nm, seval]
   refine ktree0 mJ ?_
   try simp only [vz, tyf, dc, dy, dX, dj, cK, dk, du, d6, fX, cO, dT, jT, nm, seval]
   obtain rfl := kF _ h
   exact bB results16 rfl
  simp only [dT, hs] at h
  simp only [vz, tyf, dc, dy, dX, dj, cK, dk, du, d6, fX, cO, dT, nm, seval]
  refine ktree0 mJ ?_
  try simp only [vz, tyf, dc, dy, dX, dj, cK, dk, du, d6, fX, cO, dT, nm, seval]
  obtain rfl := kF _ h
  exact bB results16 rfl
 simp only [cO, hs] at h
 simp only [vz, tyf, dc, dy, dX, dj, cK, dk, du, d6, fX, cO, nm, seval]
 refine ktree0 mJ ?_
 try simp only [vz, tyf, dc, dy, dX, dj, cK, dk, du, d6, fX, cO, nm, seval]
 obtain rfl := kF _ h
 exact bB results16 rfl
def tkW (n : Int) : List Int → List Int
 | [] => []
 | e :: p => if e < n then e :: tkW n p else []
def insD (n : Int) : List Int → List Int
 | [] => [n]
 | e :: p => if e = n then e :: p else n :: e :: p
def insC (n : Int) : List Int → List Int
 | [] => [n]
 | e :: p => if e < n then e :: insC n p else if e = n then e :: p else n :: e :: p
theorem Cw (n : Int) : ∀ l : List Int, ∃ D, l = tkW n l ++ D ∧ insC n l = tkW n l ++ insD n D
 | [] => ⟨[], rfl, rfl⟩
 | e :: p => by
  by_cases he : e < n
  ·obtain ⟨D, h1, h2⟩ := Cw n p
   refine ⟨D, ?_, ?_⟩
   ·rw [tkW, if_pos he, List.cons_append, ← h1]
   ·rw [tkW, insC, if_pos he, if_pos he, h2, List.cons_append]
  ·refine ⟨e :: p, ?_, ?_⟩
   ·rw [tkW, if_neg he]; rfl
   ·rw [tkW, insC, if_neg he, if_neg he]; rfl
theorem Cx (n : Int) : ∀ (p : List Int) (i : Int) (acc : List Int), acc.length + p.length ≤ 1000 → rV n p i acc = some (.go (acc ++ tkW n p))
 | [], _, acc, _ => by simp [rV, tkW]
 | e :: p, i, acc, h => by
  simp only [List.length_cons] at h
  rw [rV, tkW]
  by_cases he : e < n
  ·rw [decide_eq_true he, cond_true, roomOk8 (by simp; omega), cond_true, Cx n p (i + 1) _ (by simp; omega), if_pos he]
   simp
  ·rw [decide_eq_false he, cond_false, if_neg he, List.append_nil]
theorem PK (T D : List Int) : sliceO (T ++ D) (T.length : Int) ((T ++ D).length : Int) = some D := by
 unfold sliceO
 rw [if_pos ⟨by omega, by simp; omega, qZf _⟩]
 simp only [Int.toNat_natCast, List.drop_left, List.length_append]
 rw [List.take_of_length_le (by omega)]
theorem PL {l : List Int} (hl : l.length ≤ 5) (n : Int) : Cr l n = some (insC n l) := by
 obtain ⟨D, h1, h2⟩ := Cw n l
 rw [Cr, kH (by omega), cond_true, Cx n l 0 [] (by simp; omega), my, List.nil_append, h2]
 generalize tkW n l = T at h1
 subst h1
 simp only [List.length_append] at hl
 rw [roomOk8 (by simp; omega), cond_true]
 cases D with
 | nil =>
  rw [decide_eq_false (by simp), cond_false, PK, Option.bind_some]
  rfl
 | cons e p =>
  rw [decide_eq_true (by simp; omega), cond_true, fA (x := e) (post := p) (by omega) (by simp), Option.bind_some]
  simp only [List.length_cons] at hl
  by_cases he : e = n
  ·subst he
   have hs : sliceO (T ++ e :: p) (i64.wrap ((T.length : Int) + 1)) ((T ++ e :: p).length : Int) = some p := by
    rw [jJ (by omega) (by omega)]
    have := PK (T ++ [e]) p
    simp only [List.append_assoc, List.cons_append, List.nil_append, List.length_append, List.length_cons, List.length_nil] at this ⊢
    exact this
   rw [show (e == e) = true by simp, cond_true, hs, Option.bind_some, insD, if_pos rfl]
   cases p with
   | nil => rfl
   | cons x p =>
    rw [show neB (x :: p) = true from rfl, cond_true, roomOk8 (by simp only [List.length_append, List.length_cons, List.length_nil] at hl ⊢; omega), cond_true]
    simp
  ·rw [show (e == n) = false by simp [he], cond_false, PK, Option.bind_some, show neB (e :: p) = true from rfl, cond_true, roomOk8 (by simp only [List.length_append, List.length_cons, List.length_nil] at hl ⊢; omega), cond_true, insD, if_neg he]
   simp
theorem Cy {n : Int} : ∀ {l : List Int} {c : Int}, c ∈ l → c ∈ insC n l
 | e :: p, c, h => by
  rw [insC]
  split
  ·rcases List.mem_cons.1 h with rfl | h
   ·exact qZb ..
   ·exact qZa _ (Cy h)
  ·split
   ·exact h
   ·exact qZa _ h
theorem wb {n : Int} : ∀ {l : List Int} {c : Int}, c ∈ insC n l → c = n ∨ c ∈ l
 | [], c, h => .inl (by simpa [insC] using h)
 | e :: p, c, h => by
  rw [insC] at h
  split at h
  ·rcases List.mem_cons.1 h with rfl | h
   ·exact .inr (qZb ..)
   ·rcases wb h with h | h
    ·exact .inl h
    ·exact .inr (qZa _ h)
  ·split at h
   ·exact .inr h
   ·rcases List.mem_cons.1 h with rfl | h
    ·exact .inl rfl
    ·exact .inr h
theorem Cz {n : Int} : ∀ {l : List Int}, l.Pairwise (· < ·) → (insC n l).Pairwise (· < ·)
 | [], _ => List.pairwise_singleton _ _
 | e :: p, h => by
  have h' := List.pairwise_cons.1 h
  rw [insC]
  split
  ·refine List.pairwise_cons.2 ⟨fun x hx => ?_, Cz h'.2⟩
   rcases wb hx with rfl | hx
   ·assumption
   ·exact h'.1 x hx
  ·split
   ·exact h
   ·refine List.pairwise_cons.2 ⟨fun x hx => ?_, h⟩
    rcases List.mem_cons.1 hx with rfl | hx
    ·omega
    ·have := h'.1 x hx
     omega
theorem C0 (n : Int) : ∀ l : List Int, (insC n l).length ≤ l.length + 1
 | [] => qZg _
 | e :: p => by
  have := C0 n p
  rw [insC]
  split
  ·simp only [List.length_cons]; omega
  ·split <;> simp
theorem C1 {A : GLs} (hf : FineS A) (hs : sheetB A = true) {c : Int} (e : rT A (letsI A.Words).toNat 0 = some (.go c)) : xv A = some (c, 0) := by
 have h := sh_of hs
 have hb := DB A.Words fun w hw => (h.wlen w hw).2
 have hn := h.nw
 rw [xv, Dr A hf, hs, Option.bind_some, cond_true, Ba h, Option.bind_some, show boundOk (letsI A.Words) = true by simp [boundOk]; omega, cond_true, Int.sub_zero, e, my]
theorem PM {s : GLs} (hs : sheetB s = true) {k : Nat} {w : GLw} (hk : s.Words[k]? = some w) {n : Int} (h1 : 1 ≤ n) (h2 : n < w.Signs.length) {W R : Int} (hW : 1 ≤ W ∧ W ≤ 400) (hR : 1 ≤ R ∧ R ≤ 3) : sheetB (NS s (s.Words.set k (GLw.mk w.Signs (insC n w.Cuts) w.Free)) W R) = true := by
 have hm := List.mem_of_getElem? hk
 have hc := (sh_of hs).wcut w hm
 have hl := (sh_of hs).wlen w hm
 unfold sheetB at hs ⊢
 simp only [Bool.and_eq_true, oW, List.length_set] at hs ⊢
 obtain ⟨⟨⟨⟨⟨⟨⟨⟨⟨a1, a2⟩, a3⟩, a4⟩, a5⟩, a6⟩, a7⟩, a8, a9⟩, _⟩, _⟩ := hs
 refine ⟨⟨⟨⟨⟨⟨⟨⟨⟨a1, a2⟩, a3⟩, a4⟩, a5⟩, a6⟩, a7⟩, a8, ?_⟩, hW⟩, hR⟩
 rw [List.all_eq_true] at a9 ⊢
 intro v hv
 rcases List.mem_or_eq_of_mem_set hv with hv | rfl
 ·exact a9 v hv
 ·have := a9 w hm
  unfold wordB at this ⊢
  simp only [Bool.and_eq_true, oW] at this ⊢
  refine ⟨this.1, this.2.1, (DC _).2 (Cz ((DC _).1 hc.1)), ?_⟩
  rw [jJ (by omega) (by omega), List.all_eq_true]
  intro c hcm
  rw [oW]
  rcases wb hcm with rfl | hcm
  ·omega
  ·have := hc.2.1 c hcm
   omega
theorem VL (s : GLs) (a1 a2 a3 a4 : Int) (h : FineS s) : Ed s a1 a2 a3 a4 = some true := by
 obtain ⟨b, hb⟩ := Ki s h.2.2.1
 rw [Ed, hb, Option.bind_some, IQ s h]
 cases b with
 | false => rfl
 | true =>
 rw [cond_true, Option.bind_some]
 cases hs : sheetB s with
 | false => rfl
 | true =>
 have hsh := sh_of hs
 have hw := hsh.nw
 have hwi := hsh.wide
 have hro := hsh.rows
 rw [cond_true]
 by_cases c1 : a1 < 0
 ·rw [decide_eq_true c1]; rfl
 rw [decide_eq_false c1, cond_false]
 by_cases c2 : a1 > 400
 ·rw [decide_eq_true c2]; rfl
 rw [decide_eq_false c2, cond_false]
 by_cases c3 : a2 < 0
 ·rw [decide_eq_true c3]; rfl
 rw [decide_eq_false c3, cond_false]
 by_cases c4 : a2 > 3
 ·rw [decide_eq_true c4]; rfl
 rw [decide_eq_false c4, cond_false]
 by_cases c5 : a3 < 0
 ·rw [decide_eq_true c5]; rfl
 rw [decide_eq_false c5, cond_false]
 by_cases c6 : a3 ≥ (List.length s.Words : Int)
 ·rw [decide_eq_true c6]; rfl
 rw [decide_eq_false c6, cond_false]
 by_cases c7 : a4 < 1
 ·rw [decide_eq_true c7]; rfl
 rw [decide_eq_false c7, cond_false]
 obtain ⟨w, hg, hm⟩ := F3 (xs := s.Words) (i := a3) (by omega) (by omega)
 rw [hg, Option.bind_some]
 by_cases c8 : a4 ≥ (List.length w.Signs : Int)
 ·rw [decide_eq_true c8]; rfl
 rw [decide_eq_false c8, cond_false]
 have hne : neB s.Words = true := by
  cases hh : s.Words with
  | nil => rw [hh] at hw; simp at hw
  | cons => rfl
 have hc := hsh.wcut w hm
 rw [hne, cond_true, List.nil_append, roomOk56 (by omega), cond_true, PL hc.2.2, Option.bind_some, hg, Option.bind_some, jJ (n := s.Wide + a1) (by omega) (by omega), jJ (n := s.Rows + a2) (by omega) (by omega)]
 obtain ⟨W, hW⟩ : ∃ W, W = if s.Wide + a1 < 400 then s.Wide + a1 else 400 := ⟨_, rfl⟩
 obtain ⟨R, hR⟩ : ∃ R, R = if s.Rows + a2 < 3 then s.Rows + a2 else 3 := ⟨_, rfl⟩
 rw [← hW, ← hR]
 have bW : s.Wide ≤ W ∧ W ≤ 400 := by rw [hW]; split <;> omega
 have bR : s.Rows ≤ R ∧ R ≤ 3 := by rw [hR]; split <;> omega
 have hk : s.Words[a3.toNat]? = some w := by
  unfold getI at hg
  rwa [if_pos (by omega)] at hg
 have hN := PM hs hk (n := a4) (by omega) (by omega) (W := W) (R := R) (by omega) (by omega)
 have hWW := AF (w := w) (w' := GLw.mk w.Signs (insC a4 w.Cuts) w.Free) rfl (fun c hc => Cy hc) s.Words a3.toNat hk
 have hF : FineS (NS s (s.Words.set a3.toNat (GLw.mk w.Signs (insC a4 w.Cuts) w.Free)) W R) := by
  refine ⟨h.1, h.2.1, kH (by simp only [List.length_set]; omega), fun v hv => ?_⟩
  rcases List.mem_or_eq_of_mem_set hv with hv | rfl
  ·exact h.2.2.2 v hv
  ·have := C0 a4 w.Cuts
   have bn := hc.2.2
   exact ⟨(h.2.2.2 w hm).1, kH (show (insC a4 w.Cuts).length < _ by omega)⟩
 generalize hX : NS s (s.Words.set a3.toNat (GLw.mk w.Signs (insC a4 w.Cuts) w.Free)) W R = X at hN hF
 rw [show GLs.mk s.Widths s.Pairs s.Other s.Gap s.Hyphen (s.Words.set a3.toNat (GLw.mk w.Signs (insC a4 w.Cuts) w.Free)) W R = X from hX]
 have hXw : WW s.Words X.Words := by rw [← hX]; exact hWW
 have hXW : s.Wide ≤ X.Wide := by rw [← hX]; exact bW.1
 have hXR : s.Rows ≤ X.Rows := by rw [← hX]; exact bR.1
 have hXN : X = NS s X.Words X.Wide X.Rows := by rw [← hX]
 have hXs := sh_of hN
 have mono : ∀ y, PF s y → PF X y := by
  intro y hy
  rw [hXN]
  exact PF_N (s := s) hXw hXW hXR hy
 obtain ⟨F, f1, f2, f3⟩ := AM h hs
 obtain ⟨F', f1', f2', f3'⟩ := AM hF hN
 have hle : F.length ≤ F'.length := AN F F' f2 fun y hy => (f3' y).2 (mono y ((f3 y).1 hy))
 have hlb := DB s.Words fun w hw => (hsh.wlen w hw).2
 obtain ⟨c, d, o1, o2, o3, o4⟩ := TB hsh hXs hXN hXw hXW hXR (letsI s.Words).toNat 0 (qZf _) (by omega)
 have oe := C1 h hs o1
 have oe' := C1 hF hN (by rw [← v9 _ _ hXw]; exact o2)
 rw [f1, f1', oe, oe']
 have z0 : ((0 : Int) != 0) = false := rfl
 have z1 : ((5 : Int) != 0) = true := rfl
 have z2 : ((5 : Int) != 5) = false := rfl
 have z3 : ((0 : Int) == 0) = true := rfl
 have d1 : decide ((F'.length : Int) ≥ (F.length : Int)) = true := decide_eq_true (by omega)
 have d2 : decide (d ≤ c) = true := decide_eq_true o4
 rcases T2 h hs with ⟨y, y1, y2, y3⟩ | ⟨y2, y3⟩ <;> rcases T2 hF hN with ⟨z, w1, w2, w3⟩ | ⟨w2, w3⟩
 ·have d3 : decide ((z.length : Int) ≤ (y.length : Int)) = true := decide_eq_true (by have := w3 y (mono y y1); omega)
  rw [y2, w2]
  simp only [Option.bind_some, z0, z1, z2, z3, cond_false, cond_true, d1, d2, d3]
 ·exact absurd (mono y y1) (w3 y)
 ·rw [y2, w2]
  simp only [Option.bind_some, z0, z1, z2, z3, cond_false, cond_true, d1, d2]
 ·rw [y2, w2]
  simp only [Option.bind_some, z0, z1, z2, z3, cond_false, cond_true, d1, d2]
end Go.V
end
