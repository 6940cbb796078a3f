/- Part of a proof. -/
import Derived.Test.YtmhlghgbfmcdaaaGreatDoorB1bl
set_option linter.all false
set_option maxRecDepth 4000
set_option maxHeartbeats 40000000
section
namespace Go.V
open Go Go.Proofs IntKind
def l8 (ai : GBk) (ae : List Int) (r8 : (List GSpan) × Int) (b2 : Int) (e0 : Int) : Nat → Int → Int → Option (LOut (Bool) (Int))
 | 0, dg, dI => some (.go dI)
 | k1 + 1, dg, dI => Option.bind (getI ae dg) (fun Of => cond (Of == e0) (Option.bind (getI r8.1 dg) (fun vU => l8 ai ae r8 b2 e0 k1 (dg + 1) (if dI < vU.Low then vU.Low else dI))) (Option.bind (getI ai.Strokes b2) (fun Og => Option.bind (t7 Og.Needs dg) (fun nA => cond (nA) (Option.bind (getI r8.1 dg) (fun J5 => l8 ai ae r8 b2 e0 k1 (dg + 1) (if dI < J5.Low then J5.Low else dI))) (l8 ai ae r8 b2 e0 k1 (dg + 1) dI)))))
def ou (ai : GBk) (ae : List Int) (xh : List Int) (r6 : (List GSpan) × Int) (r8 : (List GSpan) × Int) (l9 : (List GSpan) × Int) (hY : (List GSpan) × Int) : List Int → Int → Option (LOut (Bool) (Unit))
 | [], b2 => some (.go ())
 | e0 :: p0, b2 => Option.bind (getI r8.1 b2) (fun qz => cond (qz.Low != qz.High) (some (.ret false)) (Option.bind (getI r6.1 b2) (fun qS => cond (decide (qz.Low < qS.Low)) (some (.ret false)) (cond (decide (qz.Low > qS.High)) (some (.ret false)) (Option.bind (getI l9.1 b2) (fun J6 => Option.bind (nZ qS.Low qS.Low) (fun J7 => cond (J6.Low == J7.Low && (J6.High == J7.High)) (Option.bind (getI hY.1 b2) (fun J8 => Option.bind (nZ qS.High qS.High) (fun jq => cond (J8.Low == jq.Low && (J8.High == jq.High)) (cond (boundOk b2) (lbind (l8 ai ae r8 b2 e0 (Int.toNat (b2 - 0)) 0 0) (fun oe => some (.ret oe)) (fun J9 => cond (decide (J9 > 60)) (some (.ret false)) (Option.bind (getI xh b2) (fun Oh => cond (qz.Low != (i64.wrap (J9 + Oh))) (some (.ret false)) (ou ai ae xh r6 r8 l9 hY p0 (b2 + 1))))) (fun _ _ => none)) none) (some (.ret false))))) (some (.ret false)))))))))
def vV (ai : GBk) (ae : List Int) (xh : List Int) : Option (Bool) := Option.bind (q9 ai) (fun r1 => cond (r1) (Option.bind (tI ae) (fun r2 => cond (r2) (Option.bind (tI xh) (fun r3 => cond (r3) (Option.bind (tJ ai ae) (fun r4 => cond (r4) (Option.bind (qJ ai xh) (fun r5 => cond (r5) (Option.bind (lu ai ae) (fun r6 => Option.bind (oa ai xh) (fun r7 => Option.bind (lu r7 ae) (fun r8 => Option.bind (qO ai false) (fun r9 => Option.bind (oa ai r9) (fun vW => Option.bind (lu vW ae) (fun l9 => Option.bind (qO ai true) (fun Oi => Option.bind (oa ai Oi) (fun vK => Option.bind (lu vK ae) (fun hY => cond (r6.2 != 0) (some false) (cond (r8.2 != 0) (some false) (cond (l9.2 != 0) (some false) (cond (hY.2 != 0) (some false) (cond ((List.length r6.1 : Int) != (List.length ae : Int)) (some false) (cond ((List.length r8.1 : Int) != (List.length ae : Int)) (some false) (cond ((List.length l9.1 : Int) != (List.length ae : Int)) (some false) (cond ((List.length hY.1 : Int) != (List.length ae : Int)) (some false) (cond (aH ae) (lbind (ou ai ae xh r6 r8 l9 hY ae 0) (fun Oj => some Oj) (fun R1 => some true) (fun _ _ => none)) none)))))))))))))))))) (some true))) (some true))) (some true))) (some true))) (some true))
theorem Ok (ai : GBk) (ae : List Int) (xh : List Int) (R : Bool) (h : vV ai ae xh = some R) : ah Tryz.prog G0 4 [.agg (cGBk ai), .sl (aa eI ae) (List.length ae) false, .sl (aa eI xh) (List.length xh) false] (.tree (.lit (.bool R))) := by
 refine ah.runRQ mixed Tryz.call4 Tryz.func4 rfl (by simp [Tryz.ntmps4]; kernel_rfl) ?_
 obtain ⟨KF, h, kF, kN⟩ := cl h
 simp only [vV] at h
 obtain ⟨JA, Ol, h⟩ := optI h kN
 try simp only [hs] at h
 simp only [vz, @bk, @bl, tyf, nm, seval]
 refine ktA (Om _ _ Ol) ?_
 refine br (fun tm => tm 1 = .sl (aa eI ae) (List.length ae) false ∧ tm 2 = .sl (aa eI xh) (List.length xh) false ∧ tm 3 = .ptr 0 0 ∧ tm 20 = .lit (.bool JA) ∧ True) (by refine ⟨?_, ?_, ?_, ?_, trivial⟩ <;> first | (simp only [ua, nm, seval] <;> rfl) | rfl) ?_
 rintro tm ⟨ej, fZ, gw, gW, _⟩
 cases bx : (JA)
 ·simp only [bx, hs] at h
  simp only [vz, @bk, @bl, tyf, ej, fZ, gw, gW, bx, nm, seval]
  refine ktree0 qH ?_
  try simp only [vz, @bk, @bl, tyf, ej, fZ, gw, gW, bx, nm, seval]
  obtain rfl := kF _ h
  exact aU Tryz.results4 rfl
 simp only [bx, hs] at h
 obtain ⟨JB, qx, h⟩ := optI h kN
 try simp only [hs] at h
 simp only [vz, @bk, @bl, tyf, ej, fZ, gw, gW, bx, nm, seval]
 refine ktA (JC _ _ qx) ?_
 refine br (fun tm => tm 1 = .sl (aa eI ae) (List.length ae) false ∧ tm 2 = .sl (aa eI xh) (List.length xh) false ∧ tm 3 = .ptr 0 0 ∧ tm 22 = .lit (.bool false) ∧ tm 24 = .lit (.bool JB) ∧ True) (by refine ⟨ej, fZ, gw, ?_, ?_, trivial⟩ <;> first | (simp only [ua, ej, fZ, gw, gW, bx, nm, seval] <;> rfl) | rfl) ?_
 rintro tm ⟨fS, fT, de, di, fp, _⟩
 cases bE : (JB)
 ·simp only [bE, hs] at h
  simp only [vz, @bk, @bl, tyf, bx, fS, fT, de, di, fp, bE, nm, seval]
  refine ktree0 qH ?_
  try simp only [vz, @bk, @bl, tyf, bx, fS, fT, de, di, fp, bE, nm, seval]
  obtain rfl := kF _ h
  exact aU Tryz.results4 rfl
 simp only [bE, hs] at h
 obtain ⟨tK, C5, h⟩ := optI h kN
 try simp only [hs] at h
 simp only [vz, @bk, @bl, tyf, bx, fS, fT, de, di, fp, bE, nm, seval]
 refine ktA (JC _ _ C5) ?_
 refine br (fun tm => tm 1 = .sl (aa eI ae) (List.length ae) false ∧ tm 2 = .sl (aa eI xh) (List.length xh) false ∧ tm 3 = .ptr 0 0 ∧ tm 27 = .lit (.bool false) ∧ tm 29 = .lit (.bool tK) ∧ True) (by refine ⟨fS, fT, de, ?_, ?_, trivial⟩ <;> first | (simp only [ua, bx, fS, fT, de, di, fp, bE, nm, seval] <;> rfl) | rfl) ?_
 rintro tm ⟨dA, d4, f8, fU, gR, _⟩
 cases b3 : (tK)
 ·simp only [b3, hs] at h
  simp only [vz, @bk, @bl, tyf, bx, bE, dA, d4, f8, fU, gR, b3, nm, seval]
  refine ktree0 qH ?_
  try simp only [vz, @bk, @bl, tyf, bx, bE, dA, d4, f8, fU, gR, b3, nm, seval]
  obtain rfl := kF _ h
  exact aU Tryz.results4 rfl
 simp only [b3, hs] at h
 obtain ⟨JD, vX, h⟩ := optI h kN
 try simp only [hs] at h
 simp only [vz, @bk, @bl, tyf, bx, bE, dA, d4, f8, fU, gR, b3, nm, seval]
 refine ktA (On _ _ _ vX) ?_
 refine br (fun tm => tm 1 = .sl (aa eI ae) (List.length ae) false ∧ tm 2 = .sl (aa eI xh) (List.length xh) false ∧ tm 3 = .ptr 0 0 ∧ tm 32 = .lit (.bool false) ∧ tm 35 = .lit (.bool JD) ∧ True) (by refine ⟨dA, d4, f8, ?_, ?_, trivial⟩ <;> first | (simp only [ua, bx, bE, dA, d4, f8, fU, gR, b3, nm, seval] <;> rfl) | rfl) ?_
 rintro tm ⟨kA, kJ, lA, mS, vY, _⟩
 cases bH : (JD)
 ·simp only [bH, hs] at h
  simp only [vz, @bk, @bl, tyf, bx, bE, b3, kA, kJ, lA, mS, vY, bH, nm, seval]
  refine ktree0 qH ?_
  try simp only [vz, @bk, @bl, tyf, bx, bE, b3, kA, kJ, lA, mS, vY, bH, nm, seval]
  obtain rfl := kF _ h
  exact aU Tryz.results4 rfl
 simp only [bH, hs] at h
 obtain ⟨JE, Oo, h⟩ := optI h kN
 try simp only [hs] at h
 simp only [vz, @bk, @bl, tyf, bx, bE, b3, kA, kJ, lA, mS, vY, bH, nm, seval]
 refine ktA (MT _ _ _ Oo) ?_
 refine br (fun tm => tm 1 = .sl (aa eI ae) (List.length ae) false ∧ tm 2 = .sl (aa eI xh) (List.length xh) false ∧ tm 3 = .ptr 0 0 ∧ tm 38 = .lit (.bool false) ∧ tm 41 = .lit (.bool JE) ∧ True) (by refine ⟨kA, kJ, lA, ?_, ?_, trivial⟩ <;> first | (simp only [ua, bx, bE, b3, kA, kJ, lA, mS, vY, bH, nm, seval] <;> rfl) | rfl) ?_
 rintro tm ⟨tL, tM, tN, vZ, wa, _⟩
 cases cD : (JE)
 ·simp only [cD, hs] at h
  simp only [vz, @bk, @bl, tyf, bx, bE, b3, bH, tL, tM, tN, vZ, wa, cD, nm, seval]
  refine ktree0 qH ?_
  try simp only [vz, @bk, @bl, tyf, bx, bE, b3, bH, tL, tM, tN, vZ, wa, cD, nm, seval]
  obtain rfl := kF _ h
  exact aU Tryz.results4 rfl
 simp only [cD, hs] at h
 obtain ⟨bu, Oq, h⟩ := optI h kN
 try simp only [hs] at h
 simp only [vz, @bk, @bl, tyf, bx, bE, b3, bH, tL, tM, tN, vZ, wa, cD, nm, seval]
 refine ktA (vJ _ _ _ Oq) ?_
 refine br (fun tm => tm 1 = .sl (aa eI ae) (List.length ae) false ∧ tm 2 = .sl (aa eI xh) (List.length xh) false ∧ tm 3 = .ptr 0 0 ∧ tm 48 = .tup [.sl (aa aj bu.1) (List.length bu.1) false, .lit (.int .i64 bu.2)] ∧ True) (by refine ⟨tL, tM, tN, ?_, trivial⟩ <;> first | (simp only [ua, bx, bE, b3, bH, tL, tM, tN, vZ, wa, cD, nm, seval] <;> rfl) | rfl) ?_
 rintro tm ⟨C6, C7, C8, JF, _⟩
 obtain ⟨Ot, Ou, h⟩ := optI h kN
 try simp only [hs] at h
 simp only [vz, @bk, @bl, tyf, bx, bE, b3, bH, cD, C6, C7, C8, JF, nm, seval]
 refine ktA (Bj _ _ _ Ou) ?_
 refine br (fun tm => tm 1 = .sl (aa eI ae) (List.length ae) false ∧ tm 2 = .sl (aa eI xh) (List.length xh) false ∧ tm 3 = .ptr 0 0 ∧ tm 7 = .sl (aa aj bu.1) (List.length bu.1) false ∧ tm 8 = .lit (.int .i64 bu.2) ∧ tm 54 = .agg (cGBk Ot) ∧ True) (by refine ⟨C6, C7, C8, ?_, ?_, ?_, trivial⟩ <;> first | (simp only [ua, bx, bE, b3, bH, cD, C6, C7, C8, JF, nm, seval] <;> rfl) | rfl) ?_
 rintro tm ⟨C9, CA, CB, CD, CE, JG, _⟩
 obtain ⟨b7, Ov, h⟩ := optI h kN
 try simp only [hs] at h
 simp only [vz, @bk, @bl, tyf, bx, bE, b3, bH, cD, C9, CA, CB, CD, CE, JG, nm, seval]
 refine ktA (vJ _ _ _ Ov) ?_
 refine br (fun tm => tm 1 = .sl (aa eI ae) (List.length ae) false ∧ tm 2 = .sl (aa eI xh) (List.length xh) false ∧ tm 3 = .ptr 0 0 ∧ tm 7 = .sl (aa aj bu.1) (List.length bu.1) false ∧ tm 8 = .lit (.int .i64 bu.2) ∧ tm 56 = .tup [.sl (aa aj b7.1) (List.length b7.1) false, .lit (.int .i64 b7.2)] ∧ True) (by refine ⟨C9, CA, CB, CD, CE, ?_, trivial⟩ <;> first | (simp only [ua, bx, bE, b3, bH, cD, C9, CA, CB, CD, CE, JG, nm, seval] <;> rfl) | rfl) ?_
 rintro tm ⟨CF, CG, CH, CI, CJ, JH, _⟩
 simp only [vz, @bk, @bl, tyf, bx, bE, b3, bH, cD, CF, CG, CH, CI, CJ, JH, nm, seval]
 refine kq (fun tm => tm 1 = .sl (aa eI ae) (List.length ae) false ∧ tm 2 = .sl (aa eI xh) (List.length xh) false ∧ tm 3 = .ptr 0 0 ∧ tm 7 = .sl (aa aj bu.1) (List.length bu.1) false ∧ tm 8 = .lit (.int .i64 bu.2) ∧ tm 9 = .sl (aa aj b7.1) (List.length b7.1) false ∧ tm 10 = .lit (.int .i64 b7.2) ∧ True) (by refine ⟨CF, CG, CH, CI, CJ, ?_, ?_, trivial⟩ <;> first | (simp only [ua, bx, bE, b3, bH, cD, CF, CG, CH, CI, CJ, JH, nm, seval] <;> rfl) | rfl) ?_
 rintro tm ⟨CK, CL, CM, CN, CP, CQ, CS, _⟩
 obtain ⟨JI, CT, h⟩ := optI h kN
 try simp only [hs] at h
 simp only [vz, @bk, @bl, tyf, bx, bE, b3, bH, cD, CK, CL, CM, CN, CP, CQ, CS, nm, seval]
 refine dktA (IV _ _ _ CT) ?_
 refine br (fun tm => tm 1 = .sl (aa eI ae) (List.length ae) false ∧ tm 2 = .sl (aa eI xh) (List.length xh) false ∧ tm 3 = .ptr 0 0 ∧ tm 7 = .sl (aa aj bu.1) (List.length bu.1) false ∧ tm 8 = .lit (.int .i64 bu.2) ∧ tm 9 = .sl (aa aj b7.1) (List.length b7.1) false ∧ tm 10 = .lit (.int .i64 b7.2) ∧ tm 60 = .agg (cGBk ai) ∧ tm 62 = .sl (aa eI JI) (List.length JI) false ∧ True) (by refine ⟨CK, CL, CM, CN, CP, CQ, CS, ?_, ?_, trivial⟩ <;> first | (simp only [ua, bx, bE, b3, bH, cD, CK, CL, CM, CN, CP, CQ, CS, nm, seval] <;> rfl) | rfl) ?_
 rintro tm ⟨ov, ow, oy, oz, o0, o6, oA, tO, tP, _⟩
 obtain ⟨CU, CV, h⟩ := optI h kN
 try simp only [hs] at h
 simp only [vz, @bk, @bl, tyf, bx, bE, b3, bH, cD, ov, ow, oy, oz, o0, o6, oA, tO, tP, nm, seval]
 refine dktA (Bj _ _ _ CV) ?_
 refine br (fun tm => tm 1 = .sl (aa eI ae) (List.length ae) false ∧ tm 2 = .sl (aa eI xh) (List.length xh) false ∧ tm 3 = .ptr 0 0 ∧ tm 7 = .sl (aa aj bu.1) (List.length bu.1) false ∧ tm 8 = .lit (.int .i64 bu.2) ∧ tm 9 = .sl (aa aj b7.1) (List.length b7.1) false ∧ tm 10 = .lit (.int .i64 b7.2) ∧ tm 63 = .agg (cGBk CU) ∧ True) (by refine ⟨ov, ow, oy, oz, o0, o6, oA, ?_, trivial⟩ <;> first | (simp only [ua, bx, bE, b3, bH, cD, ov, ow, oy, oz, o0, o6, oA, tO, tP, nm, seval] <;> rfl) | rfl) ?_
 rintro tm ⟨oB, oC, oD, oE, oF, oG, oH, tQ, _⟩
 obtain ⟨aX, CW, h⟩ := optI h kN
 try simp only [hs] at h
 simp only [vz, @bk, @bl, tyf, bx, bE, b3, bH, cD, oB, oC, oD, oE, oF, oG, oH, tQ, nm, seval]
 refine dktA (vJ _ _ _ CW) ?_
 refine br (fun tm => tm 1 = .sl (aa eI ae) (List.length ae) false ∧ tm 2 = .sl (aa eI xh) (List.length xh) false ∧ tm 3 = .ptr 0 0 ∧ tm 7 = .sl (aa aj bu.1) (List.length bu.1) false ∧ tm 8 = .lit (.int .i64 bu.2) ∧ tm 9 = .sl (aa aj b7.1) (List.length b7.1) false ∧ tm 10 = .lit (.int .i64 b7.2) ∧ tm 65 = .tup [.sl (aa aj aX.1) (List.length aX.1) false, .lit (.int .i64 aX.2)] ∧ True) (by refine ⟨oB, oC, oD, oE, oF, oG, oH, ?_, trivial⟩ <;> first | (simp only [ua, bx, bE, b3, bH, cD, oB, oC, oD, oE, oF, oG, oH, tQ, nm, seval] <;> rfl) | rfl) ?_
 rintro tm ⟨oI, oJ, oL, oM, oN, oO, oP, tR, _⟩
 simp only [vz, @bk, @bl, tyf, bx, bE, b3, bH, cD, oI, oJ, oL, oM, oN, oO, oP, tR, nm, seval]
 refine kq (fun tm => tm 1 = .sl (aa eI ae) (List.length ae) false ∧ tm 2 = .sl (aa eI xh) (List.length xh) false ∧ tm 3 = .ptr 0 0 ∧ tm 7 = .sl (aa aj bu.1) (List.length bu.1) false ∧ tm 8 = .lit (.int .i64 bu.2) ∧ tm 9 = .sl (aa aj b7.1) (List.length b7.1) false ∧ tm 10 = .lit (.int .i64 b7.2) ∧ tm 11 = .sl (aa aj aX.1) (List.length aX.1) false ∧ tm 12 = .lit (.int .i64 aX.2) ∧ True) (by refine ⟨oI, oJ, oL, oM, oN, oO, oP, ?_, ?_, trivial⟩ <;> first | (simp only [ua, bx, bE, b3, bH, cD, oI, oJ, oL, oM, oN, oO, oP, tR, nm, seval] <;> rfl) | rfl) ?_
 rintro tm ⟨oQ, oR, oS, oT, oU, oV, oW, oX, oY, _⟩
 obtain ⟨tS, CX, h⟩ := optI h kN
 try simp only [hs] at h
 simp only [vz, @bk, @bl, tyf, bx, bE, b3, bH, cD, oQ, oR, oS, oT, oU, oV, oW, oX, oY, nm, seval]
 refine dktA (IV _ _ _ CX) ?_
 refine br (fun tm => tm 1 = .sl (aa eI ae) (List.length ae) false ∧ tm 2 = .sl (aa eI xh) (List.length xh) false ∧ tm 3 = .ptr 0 0 ∧ tm 7 = .sl (aa aj bu.1) (List.length bu.1) false ∧ tm 8 = .lit (.int .i64 bu.2) ∧ tm 9 = .sl (aa aj b7.1) (List.length b7.1) false ∧ tm 10 = .lit (.int .i64 b7.2) ∧ tm 11 = .sl (aa aj aX.1) (List.length aX.1) false ∧ tm 12 = .lit (.int .i64 aX.2) ∧ tm 69 = .agg (cGBk ai) ∧ tm 71 = .sl (aa eI tS) (List.length tS) false ∧ True) (by refine ⟨oQ, oR, oS, oT, oU, oV, oW, oX, oY, ?_, ?_, trivial⟩ <;> first | (simp only [ua, bx, bE, b3, bH, cD, oQ, oR, oS, oT, oU, oV, oW, oX, oY, nm, seval] <;> rfl) | rfl) ?_
 rintro tm ⟨oZ, pa, pb, pc, pd, pf, pg, ph, pj, tT, tU, _⟩
 obtain ⟨CY, CZ, h⟩ := optI h kN
 try simp only [hs] at h
 simp only [vz, @bk, @bl, tyf, bx, bE, b3, bH, cD, oZ, pa, pb, pc, pd, pf, pg, ph, pj, tT, tU, nm, seval]
 refine dktA (Bj _ _ _ CZ) ?_
 refine br (fun tm => tm 1 = .sl (aa eI ae) (List.length ae) false ∧ tm 2 = .sl (aa eI xh) (List.length xh) false ∧ tm 3 = .ptr 0 0 ∧ tm 7 = .sl (aa aj bu.1) (List.length bu.1) false ∧ tm 8 = .lit (.int .i64 bu.2) ∧ tm 9 = .sl (aa aj b7.1) (List.length b7.1) false ∧ tm 10 = .lit (.int .i64 b7.2) ∧ tm 11 = .sl (aa aj aX.1) (List.length aX.1) false ∧ tm 12 = .lit (.int .i64 aX.2) ∧ tm 72 = .agg (cGBk CY) ∧ True) (by refine ⟨oZ, pa, pb, pc, pd, pf, pg, ph, pj, ?_, trivial⟩ <;> first | (simp only [ua, bx, bE, b3, bH, cD, oZ, pa, pb, pc, pd, pf, pg, ph, pj, tT, tU, nm, seval] <;> rfl) | rfl) ?_
 rintro tm ⟨pk, pn, po, pq, pr, pv, pw, px, py, tV, _⟩
 obtain ⟨bB, Da, h⟩ := optI h kN
 try simp only [hs] at h
 simp only [vz, @bk, @bl, tyf, bx, bE, b3, bH, cD, pk, pn, po, pq, pr, pv, pw, px, py, tV, nm, seval]
 refine dktA (vJ _ _ _ Da) ?_
 refine br (fun tm => tm 1 = .sl (aa eI ae) (List.length ae) false ∧ tm 2 = .sl (aa eI xh) (List.length xh) false ∧ tm 3 = .ptr 0 0 ∧ tm 7 = .sl (aa aj bu.1) (List.length bu.1) false ∧ tm 8 = .lit (.int .i64 bu.2) ∧ tm 9 = .sl (aa aj b7.1) (List.length b7.1) false ∧ tm 10 = .lit (.int .i64 b7.2) ∧ tm 11 = .sl (aa aj aX.1) (List.length aX.1) false ∧ tm 12 = .lit (.int .i64 aX.2) ∧ tm 74 = .tup [.sl (aa aj bB.1) (List.length bB.1) false, .lit (.int .i64 bB.2)] ∧ True) (by refine ⟨pk, pn, po, pq, pr, pv, pw, px, py, ?_, trivial⟩ <;> first | (simp only [ua, bx, bE, b3, bH, cD, pk, pn, po, pq, pr, pv, pw, px, py, tV, nm, seval] <;> rfl) | rfl) ?_
 rintro tm ⟨dJ, dK, dL, dM, eE, dN, eF, dO, eG, eJ, _⟩
 cases jP : (bu.2 != 0)
 ·simp only [jP, hs] at h
  cases lB : (b7.2 != 0)
  ·simp only [lB, hs] at h
   have gx := And.intro bx (And.intro bE (And.intro b3 (And.intro bH (And.intro cD (And.intro jP lB)))))
   cases ff : (aX.2 != 0)
   ·simp only [ff, hs] at h
    cases fF : (bB.2 != 0)
    ·simp only [fF, hs] at h
     cases gy : ((List.length bu.1 : Int) != (List.length ae : Int))
     ·simp only [gy, hs] at h
      cases iq : ((List.length b7.1 : Int) != (List.length ae : Int))
      ·simp only [iq, hs] at h
       cases jQ : ((List.length aX.1 : Int) != (List.length ae : Int))
       ·simp only [jQ, hs] at h
        cases lC : ((List.length bB.1 : Int) != (List.length ae : Int))
        ·simp only [lC, hs] at h
         have fG := And.intro gx (And.intro ff (And.intro fF (And.intro gy (And.intro iq (And.intro jQ lC)))))
         cases fg : (aH ae)
         ·simp only [fg, hs] at h
          exact absurd h kN
         simp only [fg, hs] at h
         simp only [vz, @bk, @bl, tyf, fG, dJ, dK, dL, dM, eE, dN, eF, dO, eG, eJ, fg, nm, seval]
         obtain ⟨Db, h, dP, tW, JJ, cE⟩ := eW h kN
         obtain ⟨Dc, tX, h⟩ := call2 h
         obtain ⟨Dd, jR⟩ : ∃ I : Nat → St → Prop, I = (fun m st => ∃ (fH : List Int) (aP : Int), m = List.length fH ∧ 0 ≤ aP ∧ List.drop (Int.toNat aP) ae = fH ∧ st.df = [] ∧ 109 ≤ st.nx ∧ st.H 0 = some (.cells (some 25) (cGBk ai)) ∧ st.tm 1 = .sl (aa eI ae) (List.length ae) false ∧ st.tm 2 = .sl (aa eI xh) (List.length xh) false ∧ st.tm 3 = .ptr 0 0 ∧ st.tm 7 = .sl (aa aj bu.1) (List.length bu.1) false ∧ st.tm 9 = .sl (aa aj b7.1) (List.length b7.1) false ∧ st.tm 11 = .sl (aa aj aX.1) (List.length aX.1) false ∧ st.tm 13 = .sl (aa aj bB.1) (List.length bB.1) false ∧ st.tm 15 = .lit (.int .i64 (List.length ae : Int)) ∧ st.tm 16 = .lit (.int .i64 aP) ∧ Db (Dc fH aP)) := ⟨_, rfl⟩
         refine loopK mixed (jm (by kernel_rfl)) Dd (List.length ae) (by rw [jR]; refine ⟨ae, 0, rfl, Int.le_refl _, rfl, rfl, (show 109 ≤ 109 by omega), ?_, dJ, dK, dL, dM, dN, dO, ?_, ?_, ?_, h⟩ <;> first | (simp only [ua, fG, dJ, dK, dL, dM, eE, dN, eF, dO, eG, eJ, nm, seval] <;> rfl) | rfl) ?_
         rintro m ⟨tm, H, dh, df⟩ hinv
         rw [jR] at hinv
         obtain ⟨fH, aP, rfl, eR, fI, hdf, tY, gz, ir, iu, iv, iw, ix, iy, iz, i0, i5, h⟩ := hinv
         simp only at hdf tY gz ir iu iv iw ix iy iz i0 i5
         have i6 := f7 (m := 109) (b := dh) (by omega)
         subst hdf tX
         cases fH with
         | nil =>
          have tZ : (decide (aP < (List.length ae : Int))) = false := eL eR fI
          simp only [ou, hs, reduceCtorEq] at h
          replace h := tW _ h
          try dsimp only at h
          try simp only [hs] at h
          simp only [vz, @bk, @bl, tyf, fG, fg, i6, ir, iu, iv, iw, ix, iy, iz, i0, i5, gz, tZ, nm, seval]
          refine ktree0 qH ?_
          try simp only [vz, @bk, @bl, tyf, fG, fg, i6, ir, iu, iv, iw, ix, iy, iz, i0, i5, gz, tZ, nm, seval]
          obtain rfl := kF _ h
          exact aU Tryz.results4 rfl
         | cons De fH =>
          have lD : (decide (aP < (List.length ae : Int))) = true := eM eR fI
          have bQ := cL eR fI
          have lE := eN eR fI fg
          simp only [ou, hs, reduceCtorEq] at h
          simp only [vz, @bk, @bl, tyf, fG, fg, i6, ir, iu, iv, iw, ix, iy, iz, i0, i5, gz, lD, (aI bQ), lE, nm, seval]
          refine kq (fun tm => tm 1 = .sl (aa eI ae) (List.length ae) false ∧ tm 2 = .sl (aa eI xh) (List.length xh) false ∧ tm 3 = .ptr 0 0 ∧ tm 7 = .sl (aa aj bu.1) (List.length bu.1) false ∧ tm 9 = .sl (aa aj b7.1) (List.length b7.1) false ∧ tm 11 = .sl (aa aj aX.1) (List.length aX.1) false ∧ tm 13 = .sl (aa aj bB.1) (List.length bB.1) false ∧ tm 15 = .lit (.int .i64 (List.length ae : Int)) ∧ tm 16 = .lit (.int .i64 aP) ∧ True) (by refine ⟨ir, iu, iv, iw, ix, iy, iz, i0, i5, trivial⟩ <;> first | (simp only [ua, fG, i6, ir, iu, iv, iw, ix, iy, iz, i0, i5, gz, lD, lE, nm, seval] <;> rfl) | rfl) ?_
          rintro tm ⟨i7, i9, iA, iB, iC, iD, iE, iF, iG, _⟩
          obtain ⟨jS, bZ, h⟩ := optI h cE
          try simp only [hs] at h
          cases lF : (jS.Low != jS.High)
          ·simp only [lF, hs] at h
           have cg := And.intro fG (And.intro fg (And.intro i6 (And.intro gz (And.intro lD (And.intro lE lF)))))
           obtain ⟨ub, cj, h⟩ := optI h cE
           try simp only [hs] at h
           cases bR : (decide (jS.Low < ub.Low))
           ·simp only [bR, hs] at h
            cases ca : (decide (jS.Low > ub.High))
            ·simp only [ca, hs] at h
             obtain ⟨pz, cF, h⟩ := optI h cE
             try simp only [hs] at h
             obtain ⟨p7, Df, h⟩ := optI h cE
             try simp only [hs] at h
             simp only [vz, @bk, @bl, tyf, cg, (aI bQ), i7, i9, iA, iB, iC, iD, iE, iF, iG, (aN bZ), (aN cj), bR, ca, (aN cF), nm, seval]
             refine dktA (Bi _ _ _ Df) ?_
             refine br (fun tm => tm 1 = .sl (aa eI ae) (List.length ae) false ∧ tm 2 = .sl (aa eI xh) (List.length xh) false ∧ tm 3 = .ptr 0 0 ∧ tm 7 = .sl (aa aj bu.1) (List.length bu.1) false ∧ tm 9 = .sl (aa aj b7.1) (List.length b7.1) false ∧ tm 11 = .sl (aa aj aX.1) (List.length aX.1) false ∧ tm 13 = .sl (aa aj bB.1) (List.length bB.1) false ∧ tm 15 = .lit (.int .i64 (List.length ae : Int)) ∧ tm 16 = .lit (.int .i64 aP) ∧ tm 159 = .lit (.bool false) ∧ tm 163 = .agg (aj pz) ∧ tm 174 = .agg (aj p7) ∧ True) (by refine ⟨i7, i9, iA, iB, iC, iD, iE, iF, iG, ?_, ?_, ?_, trivial⟩ <;> first | (simp only [ua, cg, i7, i9, iA, iB, iC, iD, iE, iF, iG, bR, ca, nm, seval] <;> rfl) | rfl) ?_
             rintro tm ⟨lG, lH, lI, lJ, lK, lL, lM, lN, lO, p8, pA, pC, _⟩
             cases cG : (pz.Low == p7.Low && (pz.High == p7.High))
             ·simp only [cG, hs] at h
              try simp only [vz, @bk, @bl, tyf, cg, (aI bQ), (aN bZ), (aN cj), bR, ca, (aN cF), lG, lH, lI, lJ, lK, lL, lM, lN, lO, p8, pA, pC, cG, nm, seval]
              replace h := dP _ h
              try dsimp only at h
              obtain rfl := kF _ h
              exact aU Tryz.results4 rfl
             simp only [cG, hs] at h
             obtain ⟨pD, dp, h⟩ := optI h cE
             try simp only [hs] at h
             obtain ⟨pE, Dg, h⟩ := optI h cE
             try simp only [hs] at h
             simp only [vz, @bk, @bl, tyf, cg, (aI bQ), (aN bZ), (aN cj), bR, ca, (aN cF), lG, lH, lI, lJ, lK, lL, lM, lN, lO, p8, pA, pC, cG, (aN dp), nm, seval]
             refine dktA (Bi _ _ _ Dg) ?_
             refine br (fun tm => tm 1 = .sl (aa eI ae) (List.length ae) false ∧ tm 2 = .sl (aa eI xh) (List.length xh) false ∧ tm 3 = .ptr 0 0 ∧ tm 7 = .sl (aa aj bu.1) (List.length bu.1) false ∧ tm 9 = .sl (aa aj b7.1) (List.length b7.1) false ∧ tm 11 = .sl (aa aj aX.1) (List.length aX.1) false ∧ tm 13 = .sl (aa aj bB.1) (List.length bB.1) false ∧ tm 15 = .lit (.int .i64 (List.length ae : Int)) ∧ tm 16 = .lit (.int .i64 aP) ∧ tm 177 = .lit (.bool false) ∧ tm 181 = .agg (aj pD) ∧ tm 192 = .agg (aj pE) ∧ True) (by refine ⟨lG, lH, lI, lJ, lK, lL, lM, lN, lO, ?_, ?_, ?_, trivial⟩ <;> first | (simp only [ua, cg, bR, ca, lG, lH, lI, lJ, lK, lL, lM, lN, lO, p8, pA, pC, cG, nm, seval] <;> rfl) | rfl) ?_
             rintro tm ⟨lP, lQ, lR, lS, lT, lU, lV, lW, lX, pF, pG, pH, _⟩
             cases dQ : (pD.Low == pE.Low && (pD.High == pE.High))
             ·simp only [dQ, hs] at h
              try simp only [vz, @bk, @bl, tyf, cg, (aI bQ), (aN bZ), (aN cj), bR, ca, (aN cF), cG, (aN dp), lP, lQ, lR, lS, lT, lU, lV, lW, lX, pF, pG, pH, dQ, nm, seval]
              replace h := dP _ h
              try dsimp only at h
              obtain rfl := kF _ h
              exact aU Tryz.results4 rfl
             simp only [dQ, hs] at h
             cases fJ : (boundOk aP)
             ·simp only [fJ, hs] at h
              exact absurd h cE
             simp only [fJ, hs] at h
             simp only [vz, @bk, @bl, tyf, cg, (aI bQ), (aN bZ), (aN cj), bR, ca, (aN cF), cG, (aN dp), lP, lQ, lR, lS, lT, lU, lV, lW, lX, pF, pG, pH, dQ, fJ, nm, seval]
             obtain ⟨Dh, h, JK, uc, JL, fK⟩ := eW h cE
             obtain ⟨Di, ud, h⟩ := call3 h
             obtain ⟨Dj, fL⟩ : ∃ I : Nat → St → Prop, I = (fun m st => ∃ (dq : Nat) (aZ : Int) (aW : Int), dq = m ∧ loOk aZ = true ∧ Int.toNat (aP - aZ) = dq ∧ st.df = [] ∧ dh + 78 ≤ st.nx ∧ st.H 0 = some (.cells (some 25) (cGBk ai)) ∧ st.tm 1 = .sl (aa eI ae) (List.length ae) false ∧ st.tm 2 = .sl (aa eI xh) (List.length xh) false ∧ st.tm 3 = .ptr 0 0 ∧ st.tm 7 = .sl (aa aj bu.1) (List.length bu.1) false ∧ st.tm 9 = .sl (aa aj b7.1) (List.length b7.1) false ∧ st.tm 11 = .sl (aa aj aX.1) (List.length aX.1) false ∧ st.tm 13 = .sl (aa aj bB.1) (List.length bB.1) false ∧ st.tm 15 = .lit (.int .i64 (List.length ae : Int)) ∧ st.tm 16 = .lit (.int .i64 aP) ∧ st.tm 17 = .lit (.int .i64 aW) ∧ st.tm 18 = .lit (.int .i64 aZ) ∧ Dh (Di dq aZ aW)) := ⟨_, rfl⟩
             refine loopK mixed (jm (by kernel_rfl)) Dj (Int.toNat (aP - 0)) (by rw [fL]; refine ⟨Int.toNat (aP - 0), 0, 0, rfl, (by rfl), rfl, rfl, (show dh + 78 ≤ dh + 78 by omega), ?_, lP, lQ, lR, lS, lT, lU, lV, lW, lX, ?_, ?_, h⟩ <;> first | (simp only [ua, cg, bR, ca, cG, lP, lQ, lR, lS, lT, lU, lV, lW, lX, pF, pG, pH, dQ, nm, seval] <;> rfl) | rfl) ?_
             rintro m ⟨tm, H, eT, df⟩ hinv
             rw [fL] at hinv
             obtain ⟨dq, aZ, aW, rfl, gY, eU, hdf, ue, g9, gA, gB, gC, gD, gE, gF, gG, gH, gI, gJ, iH, h⟩ := hinv
             simp only at hdf ue g9 gA gB gC gD gE gF gG gH gI gJ iH
             have iI := f7 (m := 109) (b := eT) (by omega)
             have iJ := vy (a := dh) (m := 78) (b := eT) (by omega)
             subst hdf ud
             cases dq with
             | zero =>
              have pI : (decide (aZ < aP)) = false := Ow eU
              simp only [l8, hs, reduceCtorEq] at h
              replace h := uc _ h
              try dsimp only at h
              try simp only [hs] at h
              simp only [vz, @bk, @bl, tyf, cg, (aI bQ), (aN bZ), (aN cj), bR, ca, (aN cF), cG, (aN dp), dQ, fJ, iI, iJ, gA, gB, gC, gD, gE, gF, gG, gH, gI, gJ, iH, g9, pI, nm, seval]
              refine kq (fun tm => tm 1 = .sl (aa eI ae) (List.length ae) false ∧ tm 2 = .sl (aa eI xh) (List.length xh) false ∧ tm 3 = .ptr 0 0 ∧ tm 7 = .sl (aa aj bu.1) (List.length bu.1) false ∧ tm 9 = .sl (aa aj b7.1) (List.length b7.1) false ∧ tm 11 = .sl (aa aj aX.1) (List.length aX.1) false ∧ tm 13 = .sl (aa aj bB.1) (List.length bB.1) false ∧ tm 15 = .lit (.int .i64 (List.length ae : Int)) ∧ tm 16 = .lit (.int .i64 aP) ∧ tm 17 = .lit (.int .i64 aW) ∧ True) (by refine ⟨gA, gB, gC, gD, gE, gF, gG, gH, gI, gJ, trivial⟩ <;> first | (simp only [ua, cg, bR, ca, cG, dQ, iI, iJ, gA, gB, gC, gD, gE, gF, gG, gH, gI, gJ, iH, g9, pI, nm, seval] <;> rfl) | rfl) ?_
              rintro tm ⟨jT, jU, jV, jW, jX, jY, jZ, ka, lY, lZ, _⟩
              have kc := And.intro cg (And.intro bR (And.intro ca (And.intro cG (And.intro dQ (And.intro fJ (And.intro iI (And.intro iJ (And.intro g9 pI))))))))
              cases gL : (decide (aW > 60))
              ·simp only [gL, hs] at h
               obtain ⟨Dk, uf, h⟩ := optI h cE
               try simp only [hs] at h
               cases iK : (jS.Low != (i64.wrap (aW + Dk)))
               ·simp only [iK, hs] at h
                simp only [vz, @bk, @bl, tyf, kc, (aI bQ), (aN bZ), (aN cj), (aN cF), (aN dp), jT, jU, jV, jW, jX, jY, jZ, ka, lY, lZ, gL, (aI uf), iK, nm, seval]
                exact ⟨List.length fH, Nat.lt_succ_self _, by rw [jR]; refine ⟨fH, aP + 1, rfl, Int.le_trans eR (Int.le_add_one (Int.le_refl _)), cy eR fI, rfl, (show 109 ≤ eT + 22 by omega), ?_, jT, jU, jV, jW, jX, jY, jZ, ka, ?_, (by first | exact h | (simp only [kc, gL, iK]; exact h))⟩ <;> first | (simp only [ua, kc, jT, jU, jV, jW, jX, jY, jZ, ka, lY, lZ, gL, iK, nm, seval] <;> rfl) | rfl⟩
               simp only [iK, hs] at h
               try simp only [vz, @bk, @bl, tyf, kc, (aI bQ), (aN bZ), (aN cj), (aN cF), (aN dp), jT, jU, jV, jW, jX, jY, jZ, ka, lY, lZ, gL, (aI uf), iK, nm, seval]
               replace h := dP _ h
               try dsimp only at h
               obtain rfl := kF _ h
               exact aU Tryz.results4 rfl
              simp only [gL, hs] at h
              try simp only [vz, @bk, @bl, tyf, kc, (aI bQ), (aN bZ), (aN cj), (aN cF), (aN dp), jT, jU, jV, jW, jX, jY, jZ, ka, lY, lZ, gL, nm, seval]
              replace h := dP _ h
              try dsimp only at h
              obtain rfl := kF _ h
              exact aU Tryz.results4 rfl
             | succ dq =>
              have pJ : (decide (aZ < aP)) = true := Dl eU
              have pK := Dm gY eU fJ
              simp only [l8, hs, reduceCtorEq] at h
              simp only [vz, @bk, @bl, tyf, cg, (aI bQ), (aN bZ), (aN cj), bR, ca, (aN cF), cG, (aN dp), dQ, fJ, iI, iJ, gA, gB, gC, gD, gE, gF, gG, gH, gI, gJ, iH, g9, pJ, pK, nm, seval]
              refine kq (fun tm => tm 1 = .sl (aa eI ae) (List.length ae) false ∧ tm 2 = .sl (aa eI xh) (List.length xh) false ∧ tm 3 = .ptr 0 0 ∧ tm 7 = .sl (aa aj bu.1) (List.length bu.1) false ∧ tm 9 = .sl (aa aj b7.1) (List.length b7.1) false ∧ tm 11 = .sl (aa aj aX.1) (List.length aX.1) false ∧ tm 13 = .sl (aa aj bB.1) (List.length bB.1) false ∧ tm 15 = .lit (.int .i64 (List.length ae : Int)) ∧ tm 16 = .lit (.int .i64 aP) ∧ tm 17 = .lit (.int .i64 aW) ∧ tm 18 = .lit (.int .i64 aZ) ∧ True) (by refine ⟨gA, gB, gC, gD, gE, gF, gG, gH, gI, gJ, iH, trivial⟩ <;> first | (simp only [ua, cg, bR, ca, cG, dQ, iI, iJ, gA, gB, gC, gD, gE, gF, gG, gH, gI, gJ, iH, g9, pJ, pK, nm, seval] <;> rfl) | rfl) ?_
              rintro tm ⟨iL, iM, iN, iO, iP, iQ, iR, iS, iT, kd, ke, _⟩
              have dR := And.intro cg (And.intro bR (And.intro ca (And.intro cG (And.intro dQ (And.intro fJ (And.intro iI (And.intro iJ (And.intro g9 (And.intro pJ pK)))))))))
              obtain ⟨Dn, ma, h⟩ := optI h fK
              try simp only [hs] at h
              cases da : (Dn == De)
              ·simp only [da, hs] at h
               obtain ⟨Ox, pL, h⟩ := optI h fK
               try simp only [hs] at h
               obtain ⟨ug, Dp, h⟩ := optI h fK
               try simp only [hs] at h
               simp only [vz, @bk, @bl, tyf, dR, (aI bQ), (aN bZ), (aN cj), (aN cF), (aN dp), iL, iM, iN, iO, iP, iQ, iR, iS, iT, kd, ke, (aI ma), da, (aK pL), nm, seval]
               refine dktA (MZ _ _ _ Dp) ?_
               refine br (fun tm => tm 1 = .sl (aa eI ae) (List.length ae) false ∧ tm 2 = .sl (aa eI xh) (List.length xh) false ∧ tm 3 = .ptr 0 0 ∧ tm 7 = .sl (aa aj bu.1) (List.length bu.1) false ∧ tm 9 = .sl (aa aj b7.1) (List.length b7.1) false ∧ tm 11 = .sl (aa aj aX.1) (List.length aX.1) false ∧ tm 13 = .sl (aa aj bB.1) (List.length bB.1) false ∧ tm 15 = .lit (.int .i64 (List.length ae : Int)) ∧ tm 16 = .lit (.int .i64 aP) ∧ tm 17 = .lit (.int .i64 aW) ∧ tm 18 = .lit (.int .i64 aZ) ∧ tm 209 = .lit (.bool false) ∧ tm 217 = .lit (.bool ug) ∧ True) (by refine ⟨iL, iM, iN, iO, iP, iQ, iR, iS, iT, kd, ke, ?_, ?_, trivial⟩ <;> first | (simp only [ua, dR, iL, iM, iN, iO, iP, iQ, iR, iS, iT, kd, ke, da, nm, seval] <;> rfl) | rfl) ?_
               rintro tm ⟨iU, iV, iW, iX, iY, iZ, ja, jb, jc, kf, mb, mc, md, _⟩
               cases fM : (ug)
               ·simp only [fM, hs] at h
                simp only [vz, @bk, @bl, tyf, dR, (aI bQ), (aN bZ), (aN cj), (aN cF), (aN dp), (aI ma), da, (aK pL), iU, iV, iW, iX, iY, iZ, ja, jb, jc, kf, mb, mc, md, fM, nm, seval]
                exact ⟨dq, Nat.lt_succ_self _, by rw [fL]; refine ⟨dq, aZ + 1, aW, rfl, pM gY, Dq eU, rfl, (show dh + 78 ≤ eT + 25 by omega), ?_, iU, iV, iW, iX, iY, iZ, ja, jb, jc, kf, ?_, (by first | exact h | (simp only [dR, da, fM]; exact h))⟩ <;> first | (simp only [ua, dR, da, iU, iV, iW, iX, iY, iZ, ja, jb, jc, kf, mb, mc, md, fM, nm, seval] <;> rfl) | rfl⟩
               simp only [fM, hs] at h
               obtain ⟨uh, Dr, h⟩ := optI h fK
               try simp only [hs] at h
               simp only [vz, @bk, @bl, tyf, dR, (aI bQ), (aN bZ), (aN cj), (aN cF), (aN dp), (aI ma), da, (aK pL), iU, iV, iW, iX, iY, iZ, ja, jb, jc, kf, mb, mc, md, fM, (aN Dr), nm, seval]
               exact ⟨dq, Nat.lt_succ_self _, by rw [fL]; refine ⟨dq, aZ + 1, (if aW < uh.Low then uh.Low else aW), rfl, pM gY, Dq eU, rfl, (show dh + 78 ≤ eT + 33 by omega), ?_, iU, iV, iW, iX, iY, iZ, ja, jb, jc, ?_, ?_, (by first | exact h | (simp only [dR, da, fM]; exact h))⟩ <;> first | (simp only [ua, dR, da, iU, iV, iW, iX, iY, iZ, ja, jb, jc, kf, mb, mc, md, fM, nm, seval] <;> rfl) | rfl⟩
              simp only [da, hs] at h
              obtain ⟨ui, Ds, h⟩ := optI h fK
              try simp only [hs] at h
              simp only [vz, @bk, @bl, tyf, dR, (aI bQ), (aN bZ), (aN cj), (aN cF), (aN dp), iL, iM, iN, iO, iP, iQ, iR, iS, iT, kd, ke, (aI ma), da, (aN Ds), nm, seval]
              exact ⟨dq, Nat.lt_succ_self _, by rw [fL]; refine ⟨dq, aZ + 1, (if aW < ui.Low then ui.Low else aW), rfl, pM gY, Dq eU, rfl, (show dh + 78 ≤ eT + 33 by omega), ?_, iL, iM, iN, iO, iP, iQ, iR, iS, iT, ?_, ?_, (by first | exact h | (simp only [dR, da]; exact h))⟩ <;> first | (simp only [ua, dR, iL, iM, iN, iO, iP, iQ, iR, iS, iT, kd, ke, da, nm, seval] <;> rfl) | rfl⟩
            simp only [ca, hs] at h
            try simp only [vz, @bk, @bl, tyf, cg, (aI bQ), i7, i9, iA, iB, iC, iD, iE, iF, iG, (aN bZ), (aN cj), bR, ca, nm, seval]
            replace h := dP _ h
            try dsimp only at h
            obtain rfl := kF _ h
            exact aU Tryz.results4 rfl
           simp only [bR, hs] at h
           try simp only [vz, @bk, @bl, tyf, cg, (aI bQ), i7, i9, iA, iB, iC, iD, iE, iF, iG, (aN bZ), (aN cj), bR, nm, seval]
           replace h := dP _ h
           try dsimp only at h
           obtain rfl := kF _ h
           exact aU Tryz.results4 rfl
          simp only [lF, hs] at h
          have Dt := And.intro fG (And.intro fg (And.intro i6 (And.intro gz (And.intro lD (And.intro lE lF)))))
          try simp only [vz, @bk, @bl, tyf, Dt, (aI bQ), i7, i9, iA, iB, iC, iD, iE, iF, iG, (aN bZ), nm, seval]
          replace h := dP _ h
          try dsimp only at h
          obtain rfl := kF _ h
          exact aU Tryz.results4 rfl
        simp only [lC, hs] at h
        have Du := And.intro gx (And.intro ff (And.intro fF (And.intro gy (And.intro iq (And.intro jQ lC)))))
        try simp only [vz, @bk, @bl, tyf, Du, dJ, dK, dL, dM, eE, dN, eF, dO, eG, eJ, nm, seval]
        obtain rfl := kF _ h
        exact aU Tryz.results4 rfl
       simp only [jQ, hs] at h
       try simp only [vz, @bk, @bl, tyf, gx, dJ, dK, dL, dM, eE, dN, eF, dO, eG, eJ, ff, fF, gy, iq, jQ, nm, seval]
       obtain rfl := kF _ h
       exact aU Tryz.results4 rfl
      simp only [iq, hs] at h
      try simp only [vz, @bk, @bl, tyf, gx, dJ, dK, dL, dM, eE, dN, eF, dO, eG, eJ, ff, fF, gy, iq, nm, seval]
      obtain rfl := kF _ h
      exact aU Tryz.results4 rfl
     simp only [gy, hs] at h
     try simp only [vz, @bk, @bl, tyf, gx, dJ, dK, dL, dM, eE, dN, eF, dO, eG, eJ, ff, fF, gy, nm, seval]
     obtain rfl := kF _ h
     exact aU Tryz.results4 rfl
    simp only [fF, hs] at h
    try simp only [vz, @bk, @bl, tyf, gx, dJ, dK, dL, dM, eE, dN, eF, dO, eG, eJ, ff, fF, nm, seval]
    obtain rfl := kF _ h
    exact aU Tryz.results4 rfl
   simp only [ff, hs] at h
   try simp only [vz, @bk, @bl, tyf, gx, dJ, dK, dL, dM, eE, dN, eF, dO, eG, eJ, ff, nm, seval]
   obtain rfl := kF _ h
   exact aU Tryz.results4 rfl
  simp only [lB, hs] at h
  have Dv := And.intro bx (And.intro bE (And.intro b3 (And.intro bH (And.intro cD (And.intro jP lB)))))
  try simp only [vz, @bk, @bl, tyf, Dv, dJ, dK, dL, dM, eE, dN, eF, dO, eG, eJ, nm, seval]
  obtain rfl := kF _ h
  exact aU Tryz.results4 rfl
 simp only [jP, hs] at h
 try simp only [vz, @bk, @bl, tyf, bx, bE, b3, bH, cD, dJ, dK, dL, dM, eE, dN, eF, dO, eG, eJ, jP, nm, seval]
 obtain rfl := kF _ h
 exact aU Tryz.results4 rfl
def exS (s : GBs) (h : Int) : GBs := ⟨s.Board, s.Round, ⟨h, h⟩, s.Needs⟩
def exL : List GBs → List Int → List GBs
 | s :: ss, h :: hs => exS s h :: exL ss hs
 | ss, _ => ss
def exB (b : GBk) (hs : List Int) : GBk := ⟨b.Apprentices, b.Boards, exL b.Strokes hs⟩
theorem mT : ∀ (ss : List GBs) (hs : List Int), (exL ss hs).length = ss.length
 | [], [] => rfl
 | [], _ :: _ => rfl
 | s :: ss, [] => rfl
 | s :: ss, h :: hs => by simp [exL, mT ss hs]
theorem qT : ∀ (ss : List GBs) (hs : List Int), hs.length = ss.length → ∀ (i : Nat), (exL ss hs)[i]? = match ss[i]?, hs[i]? with | some s, some h => some (exS s h) | _, _ => none
 | [], [], _, i => by simp [exL]
 | s :: ss, h :: hs, e, 0 => rfl
 | s :: ss, h :: hs, e, i + 1 => by
  have := qT ss hs (by simpa using e) i
  simpa [exL] using this
theorem JM : ∀ (hs : List Int) (ss pre : List GBs), hs.length ≤ ss.length → qL hs (pre.length : Int) (pre ++ ss) = some (.go (pre ++ exL ss hs))
 | [], ss, pre, _ => by cases ss <;> rfl
 | h :: hs, [], pre, hl => by simp at hl
 | h :: hs, s :: ss, pre, hl => by
  have hg : getI (pre ++ s :: ss) (pre.length : Int) = some s := by
   unfold getI
   rw [if_pos (by omega)]
   simp
  have ih := JM hs ss (pre ++ [exS s h]) (by simpa using hl)
  simp only [qL, nZ, Option.bind_some, hg]
  have e1 : List.set (pre ++ s :: ss) (Int.toNat (pre.length : Int)) (GBs.mk s.Board s.Round (GSpan.mk h h) s.Needs) = (pre ++ [exS s h]) ++ ss := by
   simp [exS]
  have e2 : ((pre.length : Int) + 1) = ((pre ++ [exS s h]).length : Int) := by simp
  rw [e1, e2, ih]
  simp [exL]
theorem JN {b : GBk} (hb : BOk b) {hs : List Int} (hl : hs.length = b.Strokes.length) : oa b hs = some (exB b hs) := by
 have hns := hb.ns
 unfold oa
 rw [AY hns.1, cond_true, List.nil_append, room56 (by omega), cond_true, fQ (by omega), cond_true]
 have := JM hs b.Strokes [] (by omega)
 simp only [List.length_nil, List.nil_append] at this
 have e : ((0 : Nat) : Int) = 0 := rfl
 rw [e] at this
 rw [this]
 rfl
structure HsOk (b : GBk) (hs : List Int) : Prop where
 l : hs.length = b.Strokes.length
 v : ∀ (i : Nat) s h, b.Strokes[i]? = some s → hs[i]? = some h → s.Hours.Low ≤ h ∧ h ≤ s.Hours.High
theorem ex_ok {b : GBk} (hb : BOk b) {hs : List Int} (hh : HsOk b hs) : BOk (exB b hs) := by
 refine ⟨hb.ap, hb.nb, hb.bo, by show 1 ≤ (exL b.Strokes hs).length ∧ (exL b.Strokes hs).length ≤ 6; rw [mT]; exact hb.ns, fun i y hy => ?_⟩
 rw [JO]
 have hy' : (exL b.Strokes hs)[i]? = some y := hy
 rw [qT _ _ hh.l] at hy'
 split at hy'
 ·rename_i s h e1 e2
  cases hy'
  have h1 := hb.s e1
  have h2 := hh.v i s h e1 e2
  have h3 := h1.hr
  exact ⟨h1.bo, by show 1 ≤ h ∧ h ≤ h ∧ h ≤ 6; omega, h1.nd, h1.ad⟩
 ·cases hy'
theorem Dw {b : GBk} (h : Len b) {hs : List Int} (hl : hs.length = b.Strokes.length) : Len (exB b hs) := by
 refine ⟨h.bo, by show (exL b.Strokes hs).length < _; rw [mT]; exact h.st, fun y hy => ?_⟩
 obtain ⟨i, hi⟩ := List.getElem?_of_mem (show y ∈ exL b.Strokes hs from hy)
 rw [qT _ _ hl] at hi
 split at hi
 ·rename_i s x e1 e2
  cases hi
  exact h.nd s (List.mem_of_getElem? e1)
 ·cases hi
theorem Dx {b : GBk} {hs : List Int} (hl : hs.length = b.Strokes.length) {pl : List Int} (hP : POk b pl) : POk (exB b hs) pl := by
 refine ⟨by show pl.length = (exL b.Strokes hs).length; rw [mT]; exact hP.len, fun i y h hy hh => ?_⟩
 have hy' : (exL b.Strokes hs)[i]? = some y := hy
 rw [qT _ _ hl] at hy'
 split at hy'
 ·rename_i s x e1 e2
  cases hy'
  exact hP.may i s h e1 hh
 ·cases hy'
theorem ex_nF {b : GBk} {hs : List Int} (hl : hs.length = b.Strokes.length) : nF (exB b hs) = nF b := by
 funext i
 unfold nF
 show (match (exL b.Strokes hs)[i]? with | some x => x.Needs | none => []) = _
 rw [qT _ _ hl]
 cases e1 : b.Strokes[i]? with
 | none => rfl
 | some s =>
  have hi := (List.getElem?_eq_some_iff.1 e1).1
  rw [List.getElem?_eq_getElem (show i < hs.length by omega)]
  rfl
theorem ex_dF {b : GBk} {hs : List Int} (hl : hs.length = b.Strokes.length) (h : Int) (i : Nat) : dF (exB b hs) h i = (hs[i]?).getD 0 := by
 unfold dF
 show (match (exL b.Strokes hs)[i]? with | some x => if h = 0 then x.Hours.Low else x.Hours.High | none => 0) = _
 rw [qT _ _ hl]
 cases e1 : b.Strokes[i]? with
 | none =>
  have hi := List.getElem?_eq_none_iff.1 e1
  rw [List.getElem?_eq_none (show hs.length ≤ i by omega)]
  rfl
 | some s =>
  have hi := (List.getElem?_eq_some_iff.1 e1).1
  rw [List.getElem?_eq_getElem (show i < hs.length by omega)]
  simp [exS]
theorem Dy (hi : Bool) : ∀ (p : List GBs) (c : Int) (acc : List Int), acc.length + p.length ≤ 1000 → kG hi p c acc = some (.go (acc ++ p.map fun s => if hi then s.Hours.High else s.Hours.Low))
 | [], _, acc, _ => by simp [kG]
 | s :: p, c, acc, hn => by
  simp only [List.length_cons] at hn
  simp only [kG]
  cases hi with
  | true =>
   rw [cond_true, room8 (by simp; omega), cond_true, Dy true p (c + 1) _ (by simp; omega)]
   simp
  | false =>
   rw [cond_false, room8 (by simp; omega), cond_true, Dy false p (c + 1) _ (by simp; omega)]
   simp
def hrsL (b : GBk) (hi : Bool) : List Int := b.Strokes.map fun s => if hi then s.Hours.High else s.Hours.Low
theorem Dz {b : GBk} (hb : BOk b) (hi : Bool) : qO b hi = some (hrsL b hi) := by
 have := hb.ns
 unfold qO
 rw [fQ (by omega), cond_true, Dy hi b.Strokes 0 [] (by simp; omega)]
 rfl
theorem D0 {b : GBk} (hb : BOk b) (hi : Bool) : HsOk b (hrsL b hi) := by
 refine ⟨by simp [hrsL], fun i s h e1 e2 => ?_⟩
 simp only [hrsL, List.getElem?_map, e1, Option.map_some, Option.some.injEq] at e2
 have := (hb.s e1).hr
 subst e2
 cases hi <;> simp <;> omega
theorem hrs_d {b : GBk} (hi : Bool) (h : Int) (i : Nat) : dF (exB b (hrsL b hi)) h i = dF b (if hi then 1 else 0) i := by
 rw [ex_dF (by simp [hrsL])]
 unfold dF hrsL
 rw [List.getElem?_map]
 cases b.Strokes[i]? with
 | none => rfl
 | some s => cases hi <;> rfl
theorem JP {b : GBk} : ∀ (p : List Int) (c : Int) (ss : List GBs), 0 ≤ c → b.Strokes.drop c.toNat = ss → p.length = ss.length → ∃ r, qI b p c = goB r ∧ (r = true → ∀ (i : Nat) s h, ss[i]? = some s → p[i]? = some h → s.Hours.Low ≤ h ∧ h ≤ s.Hours.High)
 | [], _, [], _, _, _ => ⟨true, rfl, fun _ i s h e => by cases e⟩
 | h :: p, c, s :: ss, h0, hd, hl => by
  obtain ⟨r, e, hr⟩ := JP (b := b) p (c + 1) ss (by omega) (cy h0 hd) (by simpa using hl)
  refine ⟨inB s.Hours.Low s.Hours.High h && r, ?_, ?_⟩
  ·simp only [qI, cL h0 hd, qU, Option.bind_some, e, mw]
  ·intro hh i x y e1 e2
   simp only [Bool.and_eq_true] at hh
   cases i with
   | zero => simp at e1 e2; subst e1 e2; exact vr.1 hh.1
   | succ i => exact hr hh.2 i x y (by simpa using e1) (by simpa using e2)
theorem Oy {b : GBk} (h : Len b) (hs : List Int) : qJ b hs = some false ∨ (qJ b hs = some true ∧ HsOk b hs) := by
 have hst := h.st
 unfold qJ
 by_cases e : hs.length = b.Strokes.length
 ·have e1 : ((hs.length : Int) != (b.Strokes.length : Int)) = false := by simp [e]
  obtain ⟨r, er, hr⟩ := JP (b := b) hs 0 b.Strokes (Int.le_refl _) rfl e
  rw [e1, cond_false, fQ (by omega), cond_true, er, kU]
  cases r with
  | false => exact .inl rfl
  | true => exact .inr ⟨rfl, e, fun i s h => hr rfl i s h⟩
 ·have e1 : ((hs.length : Int) != (b.Strokes.length : Int)) = true := by simp; omega
  rw [e1]; exact .inl rfl
theorem JQ (n : Int) : ∀ (p : List Int) (c : Int), qQ n p c = if n ∈ p then some (.ret true) else some (.go ())
 | [], _ => rfl
 | e :: p, c => by
  simp only [qQ, JQ n p (c + 1), List.mem_cons]
  by_cases h : e = n
  ·subst h; simp
  ·have h' : ¬ n = e := fun h2 => h h2.symm
   simp [h, h']
theorem D1 {l : List Int} (hl : l.length < 9223372036854775808) (n : Int) : t7 l n = some (decide (n ∈ l)) := by
 unfold t7
 rw [fQ hl, cond_true, JQ]
 by_cases h : n ∈ l <;> simp [h, lbind]
def lsF (P : Nat → Bool) (e : Nat → Int) : Nat → Int
 | 0 => 0
 | k + 1 => if P k then max (lsF P e k) (e k) else lsF P e k
theorem uj {P : Nat → Bool} {e : Nat → Int} {m : Int} (hm : 0 ≤ m) : ∀ {n : Nat}, (∀ k, k < n → P k = true → e k ≤ m) → lsF P e n ≤ m
 | 0, _ => hm
 | n + 1, h => by
  have h1 := uj hm (n := n) (fun k hk => h k (by omega))
  unfold lsF
  split
  ·rename_i hp
   have := h n (by omega) hp
   omega
  ·exact h1
theorem pN {P : Nat → Bool} {e : Nat → Int} : ∀ {n k : Nat}, k < n → P k = true → e k ≤ lsF P e n
 | 0, _, h, _ => absurd h (Nat.not_lt_zero _)
 | n + 1, k, h, hp => by
  unfold lsF
  by_cases hk : k = n
  ·subst hk; rw [if_pos hp]; omega
  ·have := pN (e := e) (show k < n by omega) hp
   split <;> omega
theorem uk {P : Nat → Bool} {e : Nat → Int} : ∀ (n : Nat), 0 ≤ lsF P e n
 | 0 => Int.le_refl _
 | n + 1 => by
  have := uk (P := P) (e := e) n
  unfold lsF
  split <;> omega
def befB (b : GBk) (pl : List Int) (i k : Nat) : Bool := decide (hF pl k = hF pl i) || decide ((k : Int) ∈ nF b i)
theorem ls_Bg {b : GBk} (hb : BH b) (pl : List Int) (h : Int) (i : Nat) : lsF (befB b pl i) (EE b pl h) i = BB b pl h i := by
 refine Int.le_antisymm (uj (Bg_nn _) fun k hk hp => ?_) (sj hb.nd (uk _) (fun k hk hh => pN hk (by unfold befB; simp [hh])) (fun k hk => ?_))
 ·unfold befB at hp
  simp only [Bool.or_eq_true, decide_eq_true_eq] at hp
  rcases hp with hp | hp
  ·exact zI hb.nd (fun k => (hb.d h k).1) hk hp
  ·have := zH (hd := hF pl) (d := dF b h) hb.nd hp
   have e : ((k : Int)).toNat = k := by omega
   rw [e] at this
   exact this
 ·have h1 := hb.nd i k hk
  refine pN (P := befB b pl i) (e := EE b pl h) h1.2 ?_
  unfold befB
  rw [show ((k.toNat : Nat) : Int) = k by omega]
  simp [hk]
theorem um {b : GBk} (hb : BOk b) {hs : List Int} (hh : HsOk b hs) {pl : List Int} (hp : pl.length = b.Strokes.length) (n : Int) {i : Nat} (hi : i < b.Strokes.length) : ∀ (k c : Nat), c + k = i →
  l8 b pl (endsL (exB b hs) pl, n) i (hF pl i) k c (lsF (befB b pl i) (EE (exB b hs) pl 0) c) = some (.go (lsF (befB b pl i) (EE (exB b hs) pl 0) i))
 | 0, c, e => by simp at e; subst e; rfl
 | k + 1, c, e => by
  have hns := hb.ns
  have ih := um hb hh hp n hi k (c + 1) (by omega)
  have hl : (exB b hs).Strokes.length = b.Strokes.length := mT _ _
  have g1 : getI pl (c : Int) = some (hF pl c) := by have := getP hp (s := (c : Int)) (by omega) (by omega); simpa using this
  have g2 : getI (endsL (exB b hs) pl) (c : Int) = some (endS (exB b hs) pl c) := by have := getEnds (b := exB b hs) (pl := pl) (i := (c : Int)) (by omega) (by omega); simpa using this
  obtain ⟨x, g3, hx⟩ := getS (b := b) (s := (i : Int)) (by omega) (by omega)
  simp only [Int.toNat_natCast] at hx
  have hfew := ((hb.h.s hx).few (by omega))
  have hnd : nF b i = x.Needs := by unfold nF; rw [hx]
  have ec : ((c : Int) + 1) = ((c + 1 : Nat) : Int) := by omega
  simp only [l8, g1, Option.bind_some, g2, g3]
  rw [D1 (by omega), ec]
  have es : ∀ v : Int, (if v < (endS (exB b hs) pl c).Low then (endS (exB b hs) pl c).Low else v) = max v (EE (exB b hs) pl 0 c) := by
   intro v
   show (if v < EE (exB b hs) pl 0 c then EE (exB b hs) pl 0 c else v) = _
   split <;> omega
  have el : lsF (befB b pl i) (EE (exB b hs) pl 0) (c + 1) = if befB b pl i c then max (lsF (befB b pl i) (EE (exB b hs) pl 0) c) (EE (exB b hs) pl 0 c) else lsF (befB b pl i) (EE (exB b hs) pl 0) c := rfl
  rw [el] at ih
  by_cases q1 : hF pl c = hF pl i
  ·rw [show (hF pl c == hF pl i) = true by simpa using q1, cond_true, es]
   rw [show befB b pl i c = true by unfold befB; simp [q1], if_pos rfl] at ih
   exact ih
  ·rw [show (hF pl c == hF pl i) = false by simpa using q1, cond_false, Option.bind_some]
   by_cases q2 : (c : Int) ∈ x.Needs
   ·rw [decide_eq_true q2, cond_true, es]
    rw [show befB b pl i c = true by unfold befB; rw [hnd]; simp [q2], if_pos rfl] at ih
    exact ih
   ·rw [decide_eq_false q2, cond_false]
    rw [show befB b pl i c = false by unfold befB; rw [hnd]; simp [q1, q2]] at ih
    exact ih
theorem uo {b : GBk} (hb : BOk b) {hs : List Int} (hh : HsOk b hs) {pl : List Int} (hp : pl.length = b.Strokes.length) (n1 n2 n3 n4 : Int) : ∀ (p : List Int) (i : Nat), i + p.length = pl.length → pl.drop i = p →
  ou b pl hs (endsL b pl, n1) (endsL (exB b hs) pl, n2) (endsL (exB b (hrsL b false)) pl, n3) (endsL (exB b (hrsL b true)) pl, n4) p i = some (.go ())
 | [], i, _, _ => rfl
 | e :: p, i, hi, hd => by
  simp only [List.length_cons] at hi
  have hns := hb.ns
  have jx : pl.drop (i + 1) = p := by
   have : (pl.drop i).drop 1 = p := by rw [hd]; rfl
   rw [List.drop_drop] at this
   exact this
  have ih := uo hb hh hp n1 n2 n3 n4 p (i + 1) (by omega) jx
  have hlt : i < b.Strokes.length := by omega
  have hg : pl[i]? = some e := by
   have : (pl.drop i)[0]? = some e := by rw [hd]; rfl
   simpa using this
  have he : e = hF pl i := by unfold hF; rw [hg]; rfl
  have ge : ∀ ks : List Int, getI (endsL (exB b ks) pl) (i : Int) = some (endS (exB b ks) pl i) := fun ks => by
   have := getEnds (b := exB b ks) (pl := pl) (i := (i : Int)) (by omega) (by show _ < (exL b.Strokes ks).length; rw [mT]; omega)
   simpa using this
  have g0 : getI (endsL b pl) (i : Int) = some (endS b pl i) := by have := getEnds (b := b) (pl := pl) (i := (i : Int)) (by omega) (by omega); simpa using this
  have hB := ex_ok hb hh
  have eq1 : ∀ q, EE (exB b hs) pl q i = Ed (hF pl) (nF b) (fun k => (hs[k]?).getD 0) i := fun q => by
   unfold EE
   rw [ex_nF hh.l]
   congr 1
   funext k
   exact ex_dF hh.l q k
  have wb : ∀ (hi' : Bool) q, EE (exB b (hrsL b hi')) pl q i = EE b pl (if hi' then 1 else 0) i := fun hi' q => by
   unfold EE
   rw [ex_nF (by simp [hrsL])]
   congr 1
   funext k
   exact hrs_d hi' q k
  have hlo : EE b pl 0 i ≤ EE (exB b hs) pl 0 i := by
   rw [eq1]
   refine Ed_le hb.h.nd (fun k => ?_) i
   unfold dF
   cases e1 : b.Strokes[k]? with
   | none => rw [List.getElem?_eq_none (show hs.length ≤ k by have := List.getElem?_eq_none_iff.1 e1; have := hh.l; omega)]; exact Int.le_refl _
   | some s =>
    have hk := (List.getElem?_eq_some_iff.1 e1).1
    have e2 := List.getElem?_eq_getElem (show k < hs.length by have := hh.l; omega)
    have := hh.v k s _ e1 e2
    rw [e2]
    simpa using this.1
  have hhi : EE (exB b hs) pl 0 i ≤ EE b pl 1 i := by
   rw [eq1]
   refine Ed_le hb.h.nd (fun k => ?_) i
   unfold dF
   cases e1 : b.Strokes[k]? with
   | none => rw [List.getElem?_eq_none (show hs.length ≤ k by have := List.getElem?_eq_none_iff.1 e1; have := hh.l; omega)]; exact Int.le_refl _
   | some s =>
    have hk := (List.getElem?_eq_some_iff.1 e1).1
    have e2 := List.getElem?_eq_getElem (show k < hs.length by have := hh.l; omega)
    have := hh.v k s _ e1 e2
    rw [e2]
    simpa using this.2
  have z1 : ((endS (exB b hs) pl i).Low != (endS (exB b hs) pl i).High) = false := by
   show (EE (exB b hs) pl 0 i != EE (exB b hs) pl 1 i) = false
   rw [eq1, eq1]; simp
  have z2 : ((endS (exB b (hrsL b false)) pl i).Low == (endS b pl i).Low && ((endS (exB b (hrsL b false)) pl i).High == (endS b pl i).Low)) = true := by
   show (EE (exB b (hrsL b false)) pl 0 i == EE b pl 0 i && (EE (exB b (hrsL b false)) pl 1 i == EE b pl 0 i)) = true
   rw [wb, wb]; simp
  have z3 : ((endS (exB b (hrsL b true)) pl i).Low == (endS b pl i).High && ((endS (exB b (hrsL b true)) pl i).High == (endS b pl i).High)) = true := by
   show (EE (exB b (hrsL b true)) pl 0 i == EE b pl 1 i && (EE (exB b (hrsL b true)) pl 1 i == EE b pl 1 i)) = true
   rw [wb, wb]; simp
  have hbo : boundOk (i : Int) = true := by simp [boundOk]; omega
  have cX := um hb hh hp n2 hlt i 0 (by omega)
  have hlB : lsF (befB b pl i) (EE (exB b hs) pl 0) i = BB (exB b hs) pl 0 i := by
   rw [← ls_Bg hB.h pl 0 i]
   have : befB (exB b hs) pl i = befB b pl i := by funext k; unfold befB; rw [ex_nF hh.l]
   rw [this]
  have JR : i < (exB b hs).Strokes.length := by show i < (exL b.Strokes hs).length; rw [mT]; exact hlt
  have hBb := BB_b hB.h pl 0 JR
  have hEe := EE_eq hB.h pl 0 i
  have R2 := EE_36 hB pl 0 JR
  have hdd := hB.h.d 0 i
  rw [ex_dF hh.l] at hEe hdd
  have e2 := List.getElem?_eq_getElem (show i < hs.length by have := hh.l; omega)
  have gh : getI hs (i : Int) = some (hs[i]'(by have := hh.l; omega)) := by unfold getI; rw [if_pos (by omega)]; simpa using e2
  rw [e2] at hEe hdd
  simp only [Option.getD_some] at hEe hdd
  have ec : ((i : Int) + 1) = ((i + 1 : Nat) : Int) := by omega
  simp only [ou, ge, g0, Option.bind_some, nZ, z1, z2, z3, cond_false, cond_true, hbo]
  rw [decide_eq_false (show ¬ (endS (exB b hs) pl i).Low < (endS b pl i).Low from Int.not_lt.2 hlo), decide_eq_false (show ¬ (endS (exB b hs) pl i).Low > (endS b pl i).High from Int.not_lt.2 hhi)]
  simp only [cond_false, Int.sub_zero, Int.toNat_natCast]
  subst he
  have e0 : l8 b pl (endsL (exB b hs) pl, n2) i (hF pl i) i 0 0 = _ := cX
  rw [e0]
  simp only [lbind, hlB]
  rw [decide_eq_false (by omega), cond_false, gh, Option.bind_some, j6 (by omega) (by omega)]
  have z4 : ((endS (exB b hs) pl i).Low != BB (exB b hs) pl 0 i + hs[i]'(by have := hh.l; omega)) = false := by
   show (EE (exB b hs) pl 0 i != _) = false
   rw [hEe]; simp
  rw [z4, cond_false, ec]
  exact ih
theorem Oz (b : GBk) (pl hs : List Int) (hb : aH b.Boards = true ∧ aH b.Strokes = true ∧ ∀ y ∈ b.Strokes, aH y.Needs = true) (hp : aH pl = true) (hh : aH hs = true) : vV b pl hs = some true := by
 have hL := Len.of hb
 unfold vV
 rcases Mo hL with e | ⟨e, hB⟩
 ·rw [e]; rfl
 have hns := hB.ns
 have hBb := v9.2 hB
 simp only [e, Option.bind_some, cond_true, tI, D2 hL]
 cases (decide ((pl.length : Int) ≤ 9)) with
 | false => rfl
 | true =>
 cases (decide ((hs.length : Int) ≤ 9)) with
 | false => rfl
 | true =>
 cases hP : planB b pl with
 | false => rfl
 | true =>
 rcases Oy hL hs with e2 | ⟨e2, hO⟩
 ·simp only [cond_true, e2]; rfl
 have hpl := (vM.1 hP).len
 have hll : ∀ hi, (hrsL b hi).length = b.Strokes.length := fun hi => by simp [hrsL]
 have full : ∀ ks, HsOk b ks → lu (exB b ks) pl = some (endsL (exB b ks) pl, 0) := fun ks hk => by
  rw [tq (Dw hL hk.l), v9.2 (ex_ok hB hk), vM.2 (Dx hk.l (vM.1 hP))]
  rfl
 have lens : ∀ ks, (((endsL (exB b ks) pl).length : Int) != (pl.length : Int)) = false := fun ks => by
  rw [IL]
  show (((exL b.Strokes ks).length : Int) != _) = false
  rw [mT, hpl]; simp
 have pO : (((endsL b pl).length : Int) != (pl.length : Int)) = false := by rw [IL, hpl]; simp
 have z0 : ((0 : Int) != 0) = false := rfl
 simp only [cond_true, e2, Option.bind_some, tq hL, hBb, hP, Bool.and_self, if_true, JN hB hO.l, full hs hO, Dz hB, JN hB (hll _), full _ (D0 hB _), z0, cond_false, pO, lens, hp]
 have := uo hB hO hpl 0 0 0 0 pl 0 (by simp) rfl
 have e3 : ou b pl hs (endsL b pl, 0) (endsL (exB b hs) pl, 0) (endsL (exB b (hrsL b false)) pl, 0) (endsL (exB b (hrsL b true)) pl, 0) pl 0 = _ := this
 rw [e3]
 rfl
end Go.V
end
