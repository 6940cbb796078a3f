/- Part of a proof. -/
import Derived.Test.YtekhjalgmlflpaaGreatDoorZbi
set_option linter.all false
set_option maxRecDepth 4000
set_option maxHeartbeats 40000000
section
namespace Go.V
open Go Go.Proofs IntKind
def oo (ah : Gm) (r1 : List (Gf × Bool)) : Nat → (List Int) → Int → Option (LOut (List Int) ((List Int) × Int))
 | 0, _, _ => none
 | k0 + 1, cz, bS => cond (decide (bS ≤ ah.sh.Years.High)) (cond (mapGet cJ false r1 (Gf.mk 0 bS)) (cond (mapGet cJ false r1 (Gf.mk 1 bS)) (cond (mapGet cJ false r1 (Gf.mk 2 bS)) (cond (aw 8 (List.length (cz ++ [bS]))) (oo ah r1 k0 (cz ++ [bS]) (i64.wrap (bS + 1))) none) (oo ah r1 k0 cz (i64.wrap (bS + 1)))) (oo ah r1 k0 cz (i64.wrap (bS + 1)))) (oo ah r1 k0 cz (i64.wrap (bS + 1)))) (some (.go (cz, bS)))
def Bd (ah : Gm) : Option (List Int) := Option.bind (zk ah) (fun r1 => aN (oo ah r1 1000000 ([] : List Int) ah.sh.Years.Low) (fun r3 => some r3) (fun c2 => some c2.1) (fun _ _ => none))
theorem Yd (ah : Gm) (R : List Int) (h : Bd ah = some R) : ad Tryz.prog G0 70 [.agg (cGm ah)] (.tree (.sl (aa eI R) (List.length R) false)) := by
 refine ad.runR mixed Tryz.call70 Tryz.func70 rfl (by simp [Tryz.ntmps70]; kernel_rfl) ?_
 obtain ⟨KF, h, kF, kN⟩ := dp h
 simp only [Bd] at h
 simp only [vz, mq, mqm, tyf, mqt, nm, seval]
 refine Tn mixed (by kernel_rfl) ?_
 obtain ⟨r4, o5, h⟩ := optI h kN
 try simp only [hs] at h
 simp only [vz, mq, mqm, tyf, mqt, nm, seval]
 refine ktree (args0 := [.agg (cGm ah)]) (by first | (simp only [nrm, au, mqr] <;> rfl) | rfl) (by simp only [tre, ar, mqr, Bool.and_self]) (Vb _ _ o5) ?_
 refine aZ (fun tm => tm 1 = .ptr 0 0 ∧ tm 3 = .lit (.slice none 0 0) ∧ tm 8 = .mt (mtK du r4) (mtV oJ r4) ∧ True) (by refine ⟨?_, ?_, ?_, trivial⟩ <;> first | (simp only [ua, jg, nm, seval] <;> rfl) | rfl) ?_
 rintro tm ⟨e6, e7, e8, _⟩
 simp only [vz, mq, mqm, tyf, mqt, e6, e7, e8, nm, seval]
 obtain ⟨K9, h, xy, qx, CX, mz⟩ := fp h kN
 obtain ⟨f9, rQ, h⟩ := call3 h
 obtain ⟨I9, fU⟩ : ∃ I : Nat → St → Prop, I = (fun m st => ∃ (p9 : Nat) (dV : List Int) (bd : Int) (si : VV), p9 = m ∧ st.df = [] ∧ 11 ≤ st.nx ∧ st.H 0 = some (.cells (some 89) (cGm ah)) ∧ st.tm 1 = .ptr 0 0 ∧ st.tm 4 = .mt (mtK du r4) (mtV oJ r4) ∧ st.tm 3 = si ∧ st.tm 5 = .lit (.int .i64 bd) ∧ ((∃ (β : Nat) (el : Option TypeId), si = .ref β 0 (List.length dV) 1 (List.length dV) ∧ β < st.nx ∧ β ≠ 0 ∧ st.H β = some (.cells el (aa eI dV))) ∨ (si = .lit (.slice none 0 0) ∧ dV = [])) ∧ K9 (f9 p9 dV bd)) := ⟨_, rfl⟩
 refine loopK mixed (by kernel_rfl) I9 1000000 (by rw [fU]; refine ⟨1000000, ([] : List Int), ah.sh.Years.Low, .lit (.slice none 0 0), rfl, rfl, (show 11 ≤ 11 by omega), ?_, e6, ?_, ?_, ?_, Or.inr ⟨rfl, rfl⟩, h⟩ <;> first | (simp only [ua, jg, e6, e7, e8, nm, seval] <;> rfl) | rfl) ?_
 rintro m ⟨tm, H, gX, df⟩ hinv
 rw [fU] at hinv
 obtain ⟨p9, dV, bd, si, rfl, hdf, rR, dh, bg, aW, ba, bj, tC, h⟩ := hinv
 simp only at hdf rR dh bg aW ba bj tC
 have cN := fu (m := 11) (b := gX) (by omega)
 subst hdf rQ
 rcases tC with ⟨mF, lE, rfl, NA, NB, xN⟩ | ⟨rfl, rfl⟩
 ·have xO := rb NA
  have xP := ne_f NB
  cases p9 with
  | zero =>
   simp only [oo, hs, reduceCtorEq] at h
   exact absurd h mz
  | succ p9 =>
   simp only [oo, hs, reduceCtorEq] at h
   cases cl : (decide (bd ≤ ah.sh.Years.High))
   ·simp only [cl, hs] at h
    replace h := qx _ h
    try dsimp only at h
    try simp only [hs] at h
    try simp only [vz, mq, mqm, tyf, mqt, cN, bg, aW, ba, bj, dh, xO, xN, xP, cl, nm, seval]
    refine bG (x := (.ref mF 0 (List.length dV) 1 (List.length dV))) (by first | (simp only [Tryz.results70, resV, resL, av, bL, bM, uw, cr, tyf, mqt, cN, dh, xO, xN, xP, cl, nm, seval] <;> rfl) | rfl) ?_
    obtain rfl := kF _ h
    refine bO ?_ ?_
    ·simp only [tre, ar, mqr, Bool.and_self]
    ·first | (simp only [outV, uw, bT, cr, tyf, mqt, nrm, au, cN, bg, aW, ba, bj, dh, xO, xN, xP, cl, nm, seval] <;> rfl) | rfl
   simp only [cl, hs] at h
   simp only [vz, mq, mqm, tyf, mqt, cN, bg, aW, ba, bj, dh, xO, xN, xP, cl, nm, seval]
   refine qN mixed (by kernel_rfl) 4 ?_
   cases cI : (mapGet cJ false r4 (Gf.mk 0 bd))
   ·simp only [cI, hs] at h
    have NC := And.intro cN (And.intro dh (And.intro xO (And.intro xN (And.intro xP (And.intro cl cI)))))
    simp only [vz, mq, mqm, tyf, mqt, NC, bg, aW, ba, bj, nm, seval]
    exact ⟨p9, Nat.lt_succ_self _, by rw [fU]; refine ⟨p9, dV, i64.wrap (bd + 1), .ref mF 0 (List.length dV) 1 (List.length dV), rfl, rfl, (show 11 ≤ gX + 19 by omega), ?_, bg, aW, ?_, ?_, Or.inl ⟨mF, lE, rfl, (by first | omega | (simp only [nm, seval]; omega)), (by first | omega | (intro hh; simp only [NC, reduceCtorEq] at hh)), ?_⟩, h⟩ <;> first | (simp only [ua, jg, NC, bg, aW, ba, bj, nm, seval] <;> rfl) | rfl⟩
   simp only [cI, hs] at h
   have kc := And.intro cN (And.intro dh (And.intro xO (And.intro xN (And.intro xP (And.intro cl cI)))))
   cases jl : (mapGet cJ false r4 (Gf.mk 1 bd))
   ·simp only [jl, hs] at h
    simp only [vz, mq, mqm, tyf, mqt, kc, bg, aW, ba, bj, jl, nm, seval]
    exact ⟨p9, Nat.lt_succ_self _, by rw [fU]; refine ⟨p9, dV, i64.wrap (bd + 1), .ref mF 0 (List.length dV) 1 (List.length dV), rfl, rfl, (show 11 ≤ gX + 30 by omega), ?_, bg, aW, ?_, ?_, Or.inl ⟨mF, lE, rfl, (by first | omega | (simp only [nm, seval]; omega)), (by first | omega | (intro hh; simp only [kc, reduceCtorEq] at hh)), ?_⟩, h⟩ <;> first | (simp only [ua, jg, kc, bg, aW, ba, bj, jl, nm, seval] <;> rfl) | rfl⟩
   simp only [jl, hs] at h
   cases gR : (mapGet cJ false r4 (Gf.mk 2 bd))
   ·simp only [gR, hs] at h
    simp only [vz, mq, mqm, tyf, mqt, kc, bg, aW, ba, bj, jl, gR, nm, seval]
    exact ⟨p9, Nat.lt_succ_self _, by rw [fU]; refine ⟨p9, dV, i64.wrap (bd + 1), .ref mF 0 (List.length dV) 1 (List.length dV), rfl, rfl, (show 11 ≤ gX + 41 by omega), ?_, bg, aW, ?_, ?_, Or.inl ⟨mF, lE, rfl, (by first | omega | (simp only [nm, seval]; omega)), (by first | omega | (intro hh; simp only [kc, reduceCtorEq] at hh)), ?_⟩, h⟩ <;> first | (simp only [ua, jg, kc, bg, aW, ba, bj, jl, gR, nm, seval] <;> rfl) | rfl⟩
   simp only [gR, hs] at h
   cases jK : (aw 8 (List.length (dV ++ [bd])))
   ·simp only [jK, hs] at h
    exact absurd h mz
   simp only [jK, hs] at h
   simp only [vz, mq, mqm, tyf, mqt, kc, bg, aW, ba, bj, jl, gR, jK, nm, seval]
   refine k_app (w := 1) (enc := eI) (xs := dV) (ys := ([bd])) (el := lE) (mR := (some 3)) (fun _ => rfl) fQ eV Tryz.underlying29 (by first | rfl | assumption | (simp only [bp, cO, ct, kc, nm, seval] <;> rfl) | (simp only [bp, cO, sR, kd, rl, rn, tyf, mqt, kc, bg, aW, ba, bj, jl, gR, jK, nm, seval]; done)) (by first | rfl | assumption | (simp only [bp, cO, ct, kc, nm, seval] <;> rfl) | (simp only [bp, cO, sR, kd, rl, rn, tyf, mqt, kc, bg, aW, ba, bj, jl, gR, jK, nm, seval]; done)) (Nat.zero_lt_succ _) jK ?_
   simp only [vz, mq, mqm, tyf, mqt, kc, bg, aW, ba, bj, jl, gR, jK, nm, seval]
   exact ⟨p9, Nat.lt_succ_self _, by rw [fU]; refine ⟨p9, (dV ++ [bd]), i64.wrap (bd + 1), .ref (gX + 44) 0 (List.length (dV ++ [bd])) 1 (List.length (dV ++ [bd])), rfl, rfl, (show 11 ≤ gX + 49 by omega), ?_, bg, aW, ?_, ?_, Or.inl ⟨gX + 44, (sameEl lE 3), rfl, (by first | omega | (simp only [nm, seval]; omega)), (by first | omega | (intro hh; simp only [kc, reduceCtorEq] at hh)), ?_⟩, h⟩ <;> first | (simp only [ua, jg, kc, bg, aW, ba, bj, jl, gR, nm, seval] <;> rfl) | rfl⟩
 ·cases p9 with
  | zero =>
   simp only [oo, hs, reduceCtorEq] at h
   exact absurd h mz
  | succ p9 =>
   simp only [oo, hs, reduceCtorEq] at h
   cases cy : (decide (bd ≤ ah.sh.Years.High))
   ·simp only [cy, hs] at h
    replace h := qx _ h
    try dsimp only at h
    try simp only [hs] at h
    try simp only [vz, mq, mqm, tyf, mqt, cN, bg, aW, ba, bj, dh, cy, nm, seval]
    refine bG (x := (.lit (.slice none 0 0))) (by first | (simp only [Tryz.results70, resV, resL, av, bL, bM, uw, cr, tyf, mqt, cN, dh, cy, nm, seval] <;> rfl) | rfl) ?_
    obtain rfl := kF _ h
    refine bO ?_ ?_
    ·simp only [tre, ar, mqr, Bool.and_self]
    ·first | (simp only [outV, uw, bT, cr, tyf, mqt, nrm, au, cN, bg, aW, ba, bj, dh, cy, nm, seval] <;> rfl) | rfl
   simp only [cy, hs] at h
   simp only [vz, mq, mqm, tyf, mqt, cN, bg, aW, ba, bj, dh, cy, nm, seval]
   refine qN mixed (by kernel_rfl) 4 ?_
   cases fm : (mapGet cJ false r4 (Gf.mk 0 bd))
   ·simp only [fm, hs] at h
    simp only [vz, mq, mqm, tyf, mqt, cN, bg, aW, ba, bj, dh, cy, fm, nm, seval]
    exact ⟨p9, Nat.lt_succ_self _, by rw [fU]; refine ⟨p9, ([] : List Int), i64.wrap (bd + 1), .lit (.slice none 0 0), rfl, rfl, (show 11 ≤ gX + 19 by omega), ?_, bg, aW, ?_, ?_, Or.inr ⟨rfl, rfl⟩, h⟩ <;> first | (simp only [ua, jg, cN, bg, aW, ba, bj, dh, cy, fm, nm, seval] <;> rfl) | rfl⟩
   simp only [fm, hs] at h
   cases kY : (mapGet cJ false r4 (Gf.mk 1 bd))
   ·simp only [kY, hs] at h
    simp only [vz, mq, mqm, tyf, mqt, cN, bg, aW, ba, bj, dh, cy, fm, kY, nm, seval]
    exact ⟨p9, Nat.lt_succ_self _, by rw [fU]; refine ⟨p9, ([] : List Int), i64.wrap (bd + 1), .lit (.slice none 0 0), rfl, rfl, (show 11 ≤ gX + 30 by omega), ?_, bg, aW, ?_, ?_, Or.inr ⟨rfl, rfl⟩, h⟩ <;> first | (simp only [ua, jg, cN, bg, aW, ba, bj, dh, cy, fm, kY, nm, seval] <;> rfl) | rfl⟩
   simp only [kY, hs] at h
   cases en : (mapGet cJ false r4 (Gf.mk 2 bd))
   ·simp only [en, hs] at h
    simp only [vz, mq, mqm, tyf, mqt, cN, bg, aW, ba, bj, dh, cy, fm, kY, en, nm, seval]
    exact ⟨p9, Nat.lt_succ_self _, by rw [fU]; refine ⟨p9, ([] : List Int), i64.wrap (bd + 1), .lit (.slice none 0 0), rfl, rfl, (show 11 ≤ gX + 41 by omega), ?_, bg, aW, ?_, ?_, Or.inr ⟨rfl, rfl⟩, h⟩ <;> first | (simp only [ua, jg, cN, bg, aW, ba, bj, dh, cy, fm, kY, en, nm, seval] <;> rfl) | rfl⟩
   simp only [en, hs] at h
   cases nU : (aw 8 (List.length (([] : List Int) ++ [bd])))
   ·simp only [nU, hs] at h
    exact absurd h mz
   simp only [nU, hs] at h
   simp only [vz, mq, mqm, tyf, mqt, cN, bg, aW, ba, bj, dh, cy, fm, kY, en, nU, nm, seval]
   refine nk (w := 1) (enc := eI) (ys := ([bd])) (mR := (some 3)) (fun _ => rfl) fQ eV Tryz.underlying29 (by first | rfl | assumption | (simp only [bp, cO, ct, cN, dh, nm, seval] <;> rfl) | (simp only [bp, cO, sR, kd, rl, rn, tyf, mqt, cN, bg, aW, ba, bj, dh, cy, fm, kY, en, nU, nm, seval]; done)) (Nat.zero_lt_succ _) nU ?_
   simp only [vz, mq, mqm, tyf, mqt, cN, bg, aW, ba, bj, dh, cy, fm, kY, en, nU, nm, seval]
   exact ⟨p9, Nat.lt_succ_self _, by rw [fU]; refine ⟨p9, (([] : List Int) ++ [bd]), i64.wrap (bd + 1), .ref (gX + 44) 0 (List.length (([] : List Int) ++ [bd])) 1 (List.length (([] : List Int) ++ [bd])), rfl, rfl, (show 11 ≤ gX + 49 by omega), ?_, bg, aW, ?_, ?_, Or.inl ⟨gX + 44, (some 3), rfl, (by first | omega | (simp only [nm, seval]; omega)), (by first | omega | (intro hh; simp only [cN, reduceCtorEq] at hh)), ?_⟩, h⟩ <;> first | (simp only [ua, jg, cN, bg, aW, ba, bj, dh, cy, fm, kY, en, nm, seval] <;> rfl) | rfl⟩
def z7 (ah : Gm) : Option (Bool) := Option.bind (Bd ah) (fun r1 => some (decide ((List.length r1 : Int) > 0)))
theorem V6 (ah : Gm) (R : Bool) (h : z7 ah = some R) : ad Tryz.prog G0 69 [.agg (cGm ah)] (.tree (.lit (.bool R))) := by
 refine ad.runR mixed Tryz.call69 Tryz.func69 rfl (by simp [Tryz.ntmps69]; kernel_rfl) ?_
 obtain ⟨KF, h, kF, kN⟩ := dp h
 simp only [z7] at h
 obtain ⟨r2, o3, h⟩ := optI h kN
 try simp only [hs] at h
 simp only [vz, tyf, nm, seval]
 refine ktA (Yd _ _ o3) ?_
 refine aZ (fun tm => tm 4 = .sl (aa eI r2) (List.length r2) false ∧ True) (by refine ⟨?_, trivial⟩ <;> first | (simp only [ua, nm, seval] <;> rfl) | rfl) ?_
 rintro tm ⟨e4, _⟩
 try simp only [vz, tyf, e4, nm, seval]
 obtain rfl := kF _ h
 exact bB Tryz.results69 rfl


def oq (ae : Gs) (cg : Int) (aJ : Int) (r1 : Ga) (dG : Int) : Nat → Int → Option (LOut (Bool) (Int))
 | 0, _ => none
 | k2 + 1, lF => cond (decide (lF ≤ ae.Fade.a2.High)) (Option.bind (nd ae cg aJ lF) (fun eK => cond (decide (r1.a2.Low ≤ (i64.wrap ((i64.wrap (dG * eK)) + (i64.wrap (dG * ae.Off)))))) (cond (decide (r1.a2.High ≥ (i64.wrap ((i64.wrap (dG * eK)) - (i64.wrap (dG * ae.Off)))))) (some (.ret true)) (oq ae cg aJ r1 dG k2 (i64.wrap (lF + 1)))) (oq ae cg aJ r1 dG k2 (i64.wrap (lF + 1))))) (some (.go lF))
def ot (ae : Gs) (cg : Int) (aJ : Int) (r1 : Ga) (r6 : Int) : Nat → Int → Option (LOut (Bool) (Int))
 | 0, _ => none
 | k1 + 1, lG => cond (decide (lG ≤ ae.Fade.a1.High)) (Option.bind (nd ae cg aJ lG) (fun r7 => cond (decide (r1.a1.Low ≤ (i64.wrap ((i64.wrap (r6 * r7)) + (i64.wrap (r6 * ae.Off)))))) (cond (decide (r1.a1.High ≥ (i64.wrap ((i64.wrap (r6 * r7)) - (i64.wrap (r6 * ae.Off)))))) (some (.ret true)) (ot ae cg aJ r1 r6 k1 (i64.wrap (lG + 1)))) (ot ae cg aJ r1 r6 k1 (i64.wrap (lG + 1))))) (some (.go lG))
def ou (ae : Gs) (cg : Int) (aJ : Int) (r1 : Ga) (r2 : Int) : Nat → Int → Option (LOut (Bool) (Int))
 | 0, _ => none
 | k0 + 1, bw => cond (decide (bw ≤ ae.Fade.a0.High)) (Option.bind (nd ae cg aJ bw) (fun r3 => cond (decide (r1.a0.Low ≤ (i64.wrap ((i64.wrap (r2 * r3)) + (i64.wrap (r2 * ae.Off)))))) (cond (decide (r1.a0.High ≥ (i64.wrap ((i64.wrap (r2 * r3)) - (i64.wrap (r2 * ae.Off)))))) (some (.ret true)) (ou ae cg aJ r1 r2 k0 (i64.wrap (bw + 1)))) (ou ae cg aJ r1 r2 k0 (i64.wrap (bw + 1))))) (some (.go bw))
def vO (ae : Gs) (aq : List Int) (cg : Int) (aJ : Int) : Option (Bool) := Option.bind (wx ae aq) (fun r1 => cond (cg == 0) (Option.bind (qO aq) (fun r2 => aN (ou ae cg aJ r1 r2 1000000 ae.Fade.a0.Low) (fun r5 => some r5) (fun c4 => some false) (fun _ _ => none))) (cond (cg == 1) (Option.bind (qO aq) (fun r6 => aN (ot ae cg aJ r1 r6 1000000 ae.Fade.a1.Low) (fun r9 => some r9) (fun c8 => some false) (fun _ _ => none))) (cond (cg == 2) (Option.bind (qO aq) (fun dG => aN (oq ae cg aJ r1 dG 1000000 ae.Fade.a2.Low) (fun fc => some fc) (fun vw => some false) (fun _ _ => none))) (none))))
theorem ND (ae : Gs) (aq : List Int) (cg : Int) (aJ : Int) (R : Bool) (h : vO ae aq cg aJ = some R) : ad Tryz.prog G0 71 [.agg (cGs ae), .sl (aa eI aq) (List.length aq) false, .lit (.int .i64 cg), .lit (.int .i64 aJ)] (.tree (.lit (.bool R))) := by
 refine ad.runR mixed Tryz.call71 Tryz.func71 rfl (by simp [Tryz.ntmps71]; kernel_rfl) ?_
 obtain ⟨KF, h, kF, kN⟩ := dp h
 simp only [vO] at h
 simp only [vz, tyf, nm, seval]
 refine lP (fun tm => tm 1 = .sl (aa eI aq) (List.length aq) false ∧ tm 2 = .lit (.int .i64 cg) ∧ tm 3 = .lit (.int .i64 aJ) ∧ tm 4 = .ptr 0 0 ∧ True) (by refine ⟨?_, ?_, ?_, ?_, trivial⟩ <;> first | (simp only [ua, nm, seval] <;> rfl) | rfl) ?_
 rintro tm ⟨bj, bQ, bu, bC, _⟩
 obtain ⟨cu, fa, h⟩ := optI h kN
 try simp only [hs] at h
 simp only [vz, tyf, bj, bQ, bu, bC, nm, seval]
 refine dktA (QH _ _ _ fa) ?_
 refine aZ (fun tm => tm 1 = .sl (aa eI aq) (List.length aq) false ∧ tm 2 = .lit (.int .i64 cg) ∧ tm 3 = .lit (.int .i64 aJ) ∧ tm 4 = .ptr 0 0 ∧ tm 15 = .agg (cGa cu) ∧ True) (by refine ⟨bj, bQ, bu, bC, ?_, trivial⟩ <;> first | (simp only [ua, bj, bQ, bu, bC, nm, seval] <;> rfl) | rfl) ?_
 rintro tm ⟨ck, bz, bK, bD, cF, _⟩
 cases cE : (cg == 0)
 ·simp only [cE, hs] at h
  cases cy : (cg == 1)
  ·simp only [cy, hs] at h
   cases fm : (cg == 2)
   ·simp only [fm, hs] at h
    exact absurd h kN
   simp only [fm, hs] at h
   obtain ⟨tD, Ye, h⟩ := optI h kN
   try simp only [hs] at h
   simp only [vz, tyf, ck, bz, bK, bD, cF, cE, cy, fm, (mJ fm), nm, seval]
   refine dktA (yo _ _ Ye) ?_
   refine aZ (fun tm => tm 2 = .lit (.int .i64 cg) ∧ tm 3 = .lit (.int .i64 aJ) ∧ tm 4 = .ptr 0 0 ∧ tm 17 = .agg (aK cu.a2) ∧ tm 19 = .lit (.int .i64 tD) ∧ True) (by refine ⟨bz, bK, bD, ?_, ?_, trivial⟩ <;> first | (simp only [ua, ck, bz, bK, bD, cF, cE, cy, fm, nm, seval] <;> rfl) | rfl) ?_
   rintro tm ⟨bN, bZ, cQ, cK, bV, _⟩
   simp only [vz, tyf, cE, cy, fm, (mJ fm), bN, bZ, cQ, cK, bV, nm, seval]
   refine ja ⟨?_, ?_⟩
   ·simp only [iQ, iR, dy, iS, and_true, true_and]
    repeat' (first | exact trivial | refine And.intro ?_ ?_ | rw [dy] | rw [iT] | exact Or.inl (by decide +kernel) | exact Or.inl (by dsimp only; decide +kernel) | (refine Or.inr ⟨?_, ?_⟩ <;> simp; done) | (refine Or.inr ⟨?_, ?_⟩ <;> simp <;> omega) | (refine Or.inr ⟨?_, ?_⟩ <;> simp [VEff.wr] <;> omega))
   simp only [vz, tyf, cE, cy, fm, (mJ fm), bN, bZ, cQ, cK, bV, (iD fm), nm, seval]
   obtain ⟨Yf, h, NF, NG, Yg, Be⟩ := fp h kN
   obtain ⟨Yh, NH, h⟩ := call2 h
   obtain ⟨Yi, sj⟩ : ∃ I : Nat → St → Prop, I = (fun m st => ∃ (sk : Nat) (gL : Int), sk = m ∧ st.df = [] ∧ 18 ≤ st.nx ∧ st.H 0 = some (.cells (some 28) (cGs ae)) ∧ st.H 9 = some (.cells (some 24) (aK cu.a2)) ∧ st.tm 2 = .lit (.int .i64 cg) ∧ st.tm 3 = .lit (.int .i64 aJ) ∧ st.tm 4 = .ptr 0 0 ∧ st.tm 9 = .ptr 9 0 ∧ st.tm 10 = .lit (.int .i64 tD) ∧ st.tm 11 = .lit (.int .i64 gL) ∧ Yf (Yh sk gL)) := ⟨_, rfl⟩
   refine loopK mixed (by kernel_rfl) Yi 1000000 (by rw [sj]; refine ⟨1000000, ae.Fade.a2.Low, rfl, rfl, (show 18 ≤ 18 by omega), ?_, ?_, bN, bZ, cQ, ?_, ?_, ?_, h⟩ <;> first | (simp only [ua, cE, cy, fm, bN, bZ, cQ, cK, bV, nm, seval] <;> rfl) | rfl) ?_
   rintro m ⟨tm, H, vP, df⟩ hinv
   rw [sj] at hinv
   obtain ⟨sk, gL, rfl, hdf, NI, NJ, NK, dq, cR, cb, cU, cV, dQ, h⟩ := hinv
   simp only at hdf NI NJ NK dq cR cb cU cV dQ
   have T2 := fu (m := 18) (b := vP) (by omega)
   subst hdf NH
   cases sk with
   | zero =>
    simp only [ou, ot, oq, hs, reduceCtorEq] at h
    exact absurd h Be
   | succ sk =>
    simp only [ou, ot, oq, hs, reduceCtorEq] at h
    cases gz : (decide (gL ≤ ae.Fade.a2.High))
    ·simp only [gz, hs] at h
     have Yj := And.intro cE (And.intro cy (And.intro fm (And.intro T2 (And.intro NJ (And.intro NK gz)))))
     replace h := NG _ h
     try dsimp only at h
     try simp only [hs] at h
     try simp only [vz, tyf, Yj, (mJ fm), (iD fm), dq, cR, cb, cU, cV, dQ, nm, seval]
     obtain rfl := kF _ h
     exact bB Tryz.results71 rfl
    simp only [gz, hs] at h
    have qa := And.intro cE (And.intro cy (And.intro fm (And.intro T2 (And.intro NJ (And.intro NK gz)))))
    obtain ⟨jC, yj, h⟩ := optI h Be
    try simp only [hs] at h
    simp only [vz, tyf, qa, (mJ fm), (iD fm), dq, cR, cb, cU, cV, dQ, nm, seval]
    refine ktA (rY _ _ _ _ _ yj) ?_
    refine aZ (fun tm => tm 2 = .lit (.int .i64 cg) ∧ tm 3 = .lit (.int .i64 aJ) ∧ tm 4 = .ptr 0 0 ∧ tm 9 = .ptr 9 0 ∧ tm 10 = .lit (.int .i64 tD) ∧ tm 11 = .lit (.int .i64 gL) ∧ tm 34 = .lit (.int .i64 tD) ∧ tm 39 = .lit (.int .i64 jC) ∧ True) (by refine ⟨dq, cR, cb, cU, cV, dQ, ?_, ?_, trivial⟩ <;> first | (simp only [ua, qa, dq, cR, cb, cU, cV, dQ, nm, seval] <;> rfl) | rfl) ?_
    rintro tm ⟨cL, cM, cS, dc, dH, eO, ie, jm, _⟩
    cases vQ : (decide (cu.a2.Low ≤ (i64.wrap ((i64.wrap (tD * jC)) + (i64.wrap (tD * ae.Off))))))
    ·simp only [vQ, hs] at h
     simp only [vz, tyf, qa, (mJ fm), (iD fm), cL, cM, cS, dc, dH, eO, ie, jm, vQ, nm, seval]
     exact ⟨sk, Nat.lt_succ_self _, by rw [sj]; refine ⟨sk, i64.wrap (gL + 1), rfl, rfl, (show 18 ≤ vP + 38 by omega), ?_, ?_, cL, cM, cS, dc, dH, ?_, h⟩ <;> first | (simp only [ua, qa, cL, cM, cS, dc, dH, eO, ie, jm, vQ, nm, seval] <;> rfl) | rfl⟩
    simp only [vQ, hs] at h
    cases qi : (decide (cu.a2.High ≥ (i64.wrap ((i64.wrap (tD * jC)) - (i64.wrap (tD * ae.Off))))))
    ·simp only [qi, hs] at h
     simp only [vz, tyf, qa, (mJ fm), (iD fm), cL, cM, cS, dc, dH, eO, ie, jm, vQ, qi, nm, seval]
     exact ⟨sk, Nat.lt_succ_self _, by rw [sj]; refine ⟨sk, i64.wrap (gL + 1), rfl, rfl, (show 18 ≤ vP + 38 by omega), ?_, ?_, cL, cM, cS, dc, dH, ?_, h⟩ <;> first | (simp only [ua, qa, cL, cM, cS, dc, dH, eO, ie, jm, vQ, qi, nm, seval] <;> rfl) | rfl⟩
    simp only [qi, hs] at h
    try simp only [vz, tyf, qa, (mJ fm), (iD fm), cL, cM, cS, dc, dH, eO, ie, jm, vQ, qi, nm, seval]
    replace h := NF _ h
    try dsimp only at h
    obtain rfl := kF _ h
    exact bB Tryz.results71 rfl
  simp only [cy, hs] at h
  obtain ⟨tE, Yk, h⟩ := optI h kN
  try simp only [hs] at h
  simp only [vz, tyf, ck, bz, bK, bD, cF, cE, cy, (mK cy), nm, seval]
  refine dktA (yo _ _ Yk) ?_
  refine aZ (fun tm => tm 2 = .lit (.int .i64 cg) ∧ tm 3 = .lit (.int .i64 aJ) ∧ tm 4 = .ptr 0 0 ∧ tm 17 = .agg (aK cu.a1) ∧ tm 19 = .lit (.int .i64 tE) ∧ True) (by refine ⟨bz, bK, bD, ?_, ?_, trivial⟩ <;> first | (simp only [ua, ck, bz, bK, bD, cF, cE, cy, nm, seval] <;> rfl) | rfl) ?_
  rintro tm ⟨fO, dR, d7, dJ, dS, _⟩
  simp only [vz, tyf, cE, cy, (mK cy), fO, dR, d7, dJ, dS, nm, seval]
  refine ja ⟨?_, ?_⟩
  ·simp only [iQ, iR, dy, iS, and_true, true_and]
   repeat' (first | exact trivial | refine And.intro ?_ ?_ | rw [dy] | rw [iT] | exact Or.inl (by decide +kernel) | exact Or.inl (by dsimp only; decide +kernel) | (refine Or.inr ⟨?_, ?_⟩ <;> simp; done) | (refine Or.inr ⟨?_, ?_⟩ <;> simp <;> omega) | (refine Or.inr ⟨?_, ?_⟩ <;> simp [VEff.wr] <;> omega))
  simp only [vz, tyf, cE, cy, (mK cy), fO, dR, d7, dJ, dS, (iE cy), nm, seval]
  obtain ⟨Yl, h, NL, NM, Ym, Bf⟩ := fp h kN
  obtain ⟨Yn, NN, h⟩ := call2 h
  obtain ⟨Yo, sn⟩ : ∃ I : Nat → St → Prop, I = (fun m st => ∃ (so : Nat) (gM : Int), so = m ∧ st.df = [] ∧ 18 ≤ st.nx ∧ st.H 0 = some (.cells (some 28) (cGs ae)) ∧ st.H 9 = some (.cells (some 24) (aK cu.a1)) ∧ st.tm 2 = .lit (.int .i64 cg) ∧ st.tm 3 = .lit (.int .i64 aJ) ∧ st.tm 4 = .ptr 0 0 ∧ st.tm 9 = .ptr 9 0 ∧ st.tm 10 = .lit (.int .i64 tE) ∧ st.tm 11 = .lit (.int .i64 gM) ∧ Yl (Yn so gM)) := ⟨_, rfl⟩
  refine loopK mixed (by kernel_rfl) Yo 1000000 (by rw [sn]; refine ⟨1000000, ae.Fade.a1.Low, rfl, rfl, (show 18 ≤ 18 by omega), ?_, ?_, fO, dR, d7, ?_, ?_, ?_, h⟩ <;> first | (simp only [ua, cE, cy, fO, dR, d7, dJ, dS, nm, seval] <;> rfl) | rfl) ?_
  rintro m ⟨tm, H, vR, df⟩ hinv
  rw [sn] at hinv
  obtain ⟨so, gM, rfl, hdf, NO, xQ, xR, fX, gn, fk, fY, dI, dw, h⟩ := hinv
  simp only at hdf NO xQ xR fX gn fk fY dI dw
  have Bg := fu (m := 18) (b := vR) (by omega)
  subst hdf NN
  cases so with
  | zero =>
   simp only [ou, ot, oq, hs, reduceCtorEq] at h
   exact absurd h Bf
  | succ so =>
   simp only [ou, ot, oq, hs, reduceCtorEq] at h
   cases vS : (decide (gM ≤ ae.Fade.a1.High))
   ·simp only [vS, hs] at h
    replace h := NM _ h
    try dsimp only at h
    try simp only [hs] at h
    try simp only [vz, tyf, cE, cy, (mK cy), (iE cy), Bg, fX, gn, fk, fY, dI, dw, xQ, xR, vS, nm, seval]
    obtain rfl := kF _ h
    exact bB Tryz.results71 rfl
   simp only [vS, hs] at h
   obtain ⟨xH, LC, h⟩ := optI h Bf
   try simp only [hs] at h
   simp only [vz, tyf, cE, cy, (mK cy), (iE cy), Bg, fX, gn, fk, fY, dI, dw, xQ, xR, vS, nm, seval]
   refine ktA (rY _ _ _ _ _ LC) ?_
   refine aZ (fun tm => tm 2 = .lit (.int .i64 cg) ∧ tm 3 = .lit (.int .i64 aJ) ∧ tm 4 = .ptr 0 0 ∧ tm 9 = .ptr 9 0 ∧ tm 10 = .lit (.int .i64 tE) ∧ tm 11 = .lit (.int .i64 gM) ∧ tm 34 = .lit (.int .i64 tE) ∧ tm 39 = .lit (.int .i64 xH) ∧ True) (by refine ⟨fX, gn, fk, fY, dI, dw, ?_, ?_, trivial⟩ <;> first | (simp only [ua, cE, cy, Bg, fX, gn, fk, fY, dI, dw, xQ, xR, vS, nm, seval] <;> rfl) | rfl) ?_
   rintro tm ⟨fJ, je, kj, kl, jt, ke, gU, iG, _⟩
   cases Dy : (decide (cu.a1.Low ≤ (i64.wrap ((i64.wrap (tE * xH)) + (i64.wrap (tE * ae.Off))))))
   ·simp only [Dy, hs] at h
    have T3 := And.intro cE (And.intro cy (And.intro Bg (And.intro xQ (And.intro xR (And.intro vS Dy)))))
    simp only [vz, tyf, T3, (mK cy), (iE cy), fJ, je, kj, kl, jt, ke, gU, iG, nm, seval]
    exact ⟨so, Nat.lt_succ_self _, by rw [sn]; refine ⟨so, i64.wrap (gM + 1), rfl, rfl, (show 18 ≤ vR + 38 by omega), ?_, ?_, fJ, je, kj, kl, jt, ?_, h⟩ <;> first | (simp only [ua, T3, fJ, je, kj, kl, jt, ke, gU, iG, nm, seval] <;> rfl) | rfl⟩
   simp only [Dy, hs] at h
   have NP := And.intro cE (And.intro cy (And.intro Bg (And.intro xQ (And.intro xR (And.intro vS Dy)))))
   cases Bh : (decide (cu.a1.High ≥ (i64.wrap ((i64.wrap (tE * xH)) - (i64.wrap (tE * ae.Off))))))
   ·simp only [Bh, hs] at h
    simp only [vz, tyf, NP, (mK cy), (iE cy), fJ, je, kj, kl, jt, ke, gU, iG, Bh, nm, seval]
    exact ⟨so, Nat.lt_succ_self _, by rw [sn]; refine ⟨so, i64.wrap (gM + 1), rfl, rfl, (show 18 ≤ vR + 38 by omega), ?_, ?_, fJ, je, kj, kl, jt, ?_, h⟩ <;> first | (simp only [ua, NP, fJ, je, kj, kl, jt, ke, gU, iG, Bh, nm, seval] <;> rfl) | rfl⟩
   simp only [Bh, hs] at h
   try simp only [vz, tyf, NP, (mK cy), (iE cy), fJ, je, kj, kl, jt, ke, gU, iG, Bh, nm, seval]
   replace h := NL _ h
   try dsimp only at h
   obtain rfl := kF _ h
   exact bB Tryz.results71 rfl
 simp only [cE, hs] at h
 obtain ⟨tF, Yp, h⟩ := optI h kN
 try simp only [hs] at h
 simp only [vz, tyf, ck, bz, bK, bD, cF, cE, (mM cE), nm, seval]
 refine dktA (yo _ _ Yp) ?_
 refine aZ (fun tm => tm 2 = .lit (.int .i64 cg) ∧ tm 3 = .lit (.int .i64 aJ) ∧ tm 4 = .ptr 0 0 ∧ tm 17 = .agg (aK cu.a0) ∧ tm 19 = .lit (.int .i64 tF) ∧ True) (by refine ⟨bz, bK, bD, ?_, ?_, trivial⟩ <;> first | (simp only [ua, ck, bz, bK, bD, cF, cE, nm, seval] <;> rfl) | rfl) ?_
 rintro tm ⟨fR, oS, td, te, oT, _⟩
 simp only [vz, tyf, cE, (mM cE), fR, oS, td, te, oT, nm, seval]
 refine ja ⟨?_, ?_⟩
 ·simp only [iQ, iR, dy, iS, and_true, true_and]
  repeat' (first | exact trivial | refine And.intro ?_ ?_ | rw [dy] | rw [iT] | exact Or.inl (by decide +kernel) | exact Or.inl (by dsimp only; decide +kernel) | (refine Or.inr ⟨?_, ?_⟩ <;> simp; done) | (refine Or.inr ⟨?_, ?_⟩ <;> simp <;> omega) | (refine Or.inr ⟨?_, ?_⟩ <;> simp [VEff.wr] <;> omega))
 simp only [vz, tyf, cE, (mM cE), fR, oS, td, te, oT, (iF cE), nm, seval]
 obtain ⟨Yq, h, NQ, NR, Yr, Bi⟩ := fp h kN
 obtain ⟨Ys, NS, h⟩ := call2 h
 obtain ⟨Yt, sq⟩ : ∃ I : Nat → St → Prop, I = (fun m st => ∃ (ss : Nat) (gN : Int), ss = m ∧ st.df = [] ∧ 18 ≤ st.nx ∧ st.H 0 = some (.cells (some 28) (cGs ae)) ∧ st.H 9 = some (.cells (some 24) (aK cu.a0)) ∧ st.tm 2 = .lit (.int .i64 cg) ∧ st.tm 3 = .lit (.int .i64 aJ) ∧ st.tm 4 = .ptr 0 0 ∧ st.tm 9 = .ptr 9 0 ∧ st.tm 10 = .lit (.int .i64 tF) ∧ st.tm 11 = .lit (.int .i64 gN) ∧ Yq (Ys ss gN)) := ⟨_, rfl⟩
 refine loopK mixed (by kernel_rfl) Yt 1000000 (by rw [sq]; refine ⟨1000000, ae.Fade.a0.Low, rfl, rfl, (show 18 ≤ 18 by omega), ?_, ?_, fR, oS, td, ?_, ?_, ?_, h⟩ <;> first | (simp only [ua, cE, fR, oS, td, te, oT, nm, seval] <;> rfl) | rfl) ?_
 rintro m ⟨tm, H, vT, df⟩ hinv
 rw [sq] at hinv
 obtain ⟨ss, gN, rfl, hdf, NT, lH, lI, cW, eD, eE, gq, pG, pH, h⟩ := hinv
 simp only at hdf NT lH lI cW eD eE gq pG pH
 have mG := fu (m := 18) (b := vT) (by omega)
 subst hdf NS
 cases ss with
 | zero =>
  simp only [ou, ot, oq, hs, reduceCtorEq] at h
  exact absurd h Bi
 | succ ss =>
  simp only [ou, ot, oq, hs, reduceCtorEq] at h
  cases kI : (decide (gN ≤ ae.Fade.a0.High))
  ·simp only [kI, hs] at h
   replace h := NR _ h
   try dsimp only at h
   try simp only [hs] at h
   try simp only [vz, tyf, cE, (mM cE), (iF cE), mG, cW, eD, eE, gq, pG, pH, lH, lI, kI, nm, seval]
   obtain rfl := kF _ h
   exact bB Tryz.results71 rfl
  simp only [kI, hs] at h
  obtain ⟨vU, NU, h⟩ := optI h Bi
  try simp only [hs] at h
  simp only [vz, tyf, cE, (mM cE), (iF cE), mG, cW, eD, eE, gq, pG, pH, lH, lI, kI, nm, seval]
  refine ktA (rY _ _ _ _ _ NU) ?_
  refine aZ (fun tm => tm 2 = .lit (.int .i64 cg) ∧ tm 3 = .lit (.int .i64 aJ) ∧ tm 4 = .ptr 0 0 ∧ tm 9 = .ptr 9 0 ∧ tm 10 = .lit (.int .i64 tF) ∧ tm 11 = .lit (.int .i64 gN) ∧ tm 34 = .lit (.int .i64 tF) ∧ tm 39 = .lit (.int .i64 vU) ∧ True) (by refine ⟨cW, eD, eE, gq, pG, pH, ?_, ?_, trivial⟩ <;> first | (simp only [ua, cE, mG, cW, eD, eE, gq, pG, pH, lH, lI, kI, nm, seval] <;> rfl) | rfl) ?_
  rintro tm ⟨dC, dL, eg, fz, f6, fW, gO, gP, _⟩
  cases nH : (decide (cu.a0.Low ≤ (i64.wrap ((i64.wrap (tF * vU)) + (i64.wrap (tF * ae.Off))))))
  ·simp only [nH, hs] at h
   simp only [vz, tyf, cE, (mM cE), (iF cE), mG, lH, lI, kI, dC, dL, eg, fz, f6, fW, gO, gP, nH, nm, seval]
   exact ⟨ss, Nat.lt_succ_self _, by rw [sq]; refine ⟨ss, i64.wrap (gN + 1), rfl, rfl, (show 18 ≤ vT + 38 by omega), ?_, ?_, dC, dL, eg, fz, f6, ?_, h⟩ <;> first | (simp only [ua, cE, mG, lH, lI, kI, dC, dL, eg, fz, f6, fW, gO, gP, nH, nm, seval] <;> rfl) | rfl⟩
  simp only [nH, hs] at h
  cases su : (decide (cu.a0.High ≥ (i64.wrap ((i64.wrap (tF * vU)) - (i64.wrap (tF * ae.Off))))))
  ·simp only [su, hs] at h
   have Bj := And.intro cE (And.intro mG (And.intro lH (And.intro lI (And.intro kI (And.intro nH su)))))
   simp only [vz, tyf, Bj, (mM cE), (iF cE), dC, dL, eg, fz, f6, fW, gO, gP, nm, seval]
   exact ⟨ss, Nat.lt_succ_self _, by rw [sq]; refine ⟨ss, i64.wrap (gN + 1), rfl, rfl, (show 18 ≤ vT + 38 by omega), ?_, ?_, dC, dL, eg, fz, f6, ?_, h⟩ <;> first | (simp only [ua, Bj, dC, dL, eg, fz, f6, fW, gO, gP, nm, seval] <;> rfl) | rfl⟩
  simp only [su, hs] at h
  have NV := And.intro cE (And.intro mG (And.intro lH (And.intro lI (And.intro kI (And.intro nH su)))))
  try simp only [vz, tyf, NV, (mM cE), (iF cE), dC, dL, eg, fz, f6, fW, gO, gP, nm, seval]
  replace h := NQ _ h
  try dsimp only at h
  obtain rfl := kF _ h
  exact bB Tryz.results71 rfl
def pI (ae : Gs) (aq : List Int) : Nat → Bool → Int → Int → Int → Option (LOut (GSpan × Bool) (Bool × Int × Int × Int))
 | 0, _, _, _, _ => none
 | k0 + 1, pJ, bW, dv, eG => cond (decide (bW ≤ ae.Years.High)) (Option.bind (vO ae aq 0 bW) (fun r4 => cond (r4) (Option.bind (vO ae aq 1 bW) (fun r5 => cond (r5) (Option.bind (vO ae aq 2 bW) (fun r6 => cond (r6) (cond (pJ) (pI ae aq k0 true (i64.wrap (bW + 1)) dv bW) (pI ae aq k0 true (i64.wrap (bW + 1)) bW bW)) (pI ae aq k0 pJ (i64.wrap (bW + 1)) dv eG))) (pI ae aq k0 pJ (i64.wrap (bW + 1)) dv eG))) (pI ae aq k0 pJ (i64.wrap (bW + 1)) dv eG))) (some (.go (pJ, bW, dv, eG)))
def Bk (ae : Gs) (aq : List Int) : Option (GSpan × Bool) := aN (pI ae aq 1000000 false ae.Years.Low 0 0) (fun r8 => some r8) (fun c7 => some ((GSpan.mk c7.2.2.1 c7.2.2.2), c7.1)) (fun _ _ => none)
theorem Yu (ae : Gs) (aq : List Int) (R : GSpan × Bool) (h : Bk ae aq = some R) : ad Tryz.prog G0 29 [.agg (cGs ae), .sl (aa eI aq) (List.length aq) false] (.tree (.tup [.agg (aK R.1), .lit (.bool R.2)])) := by
 refine ad.runR mixed Tryz.call29 Tryz.func29 rfl (by simp [Tryz.ntmps29]; kernel_rfl) ?_
 obtain ⟨KF, h, kF, kN⟩ := dp h
 simp only [Bk] at h
 simp only [vz, tyf, nm, seval]
 obtain ⟨K9, h, xy, qx, CX, mz⟩ := fp h kN
 obtain ⟨f9, rQ, h⟩ := call5 h
 obtain ⟨I9, fU⟩ : ∃ I : Nat → St → Prop, I = (fun m st => ∃ (p9 : Nat) (j5 : Bool) (gQ : Int) (iO : Int) (j6 : Int), p9 = m ∧ st.df = [] ∧ 9 ≤ st.nx ∧ st.H 0 = some (.cells (some 28) (cGs ae)) ∧ st.H 1 = some (.cells (some 24) ([.lit (.int .i64 0)] ++ [.lit (.int .i64 0)])) ∧ st.H 3 = some (.cells (some 24) ([.lit (.int .i64 iO)] ++ [.lit (.int .i64 j6)])) ∧ st.tm 1 = .sl (aa eI aq) (List.length aq) false ∧ st.tm 2 = .ptr 0 0 ∧ st.tm 4 = .ptr 1 0 ∧ st.tm 6 = .ptr 3 0 ∧ st.tm 7 = .lit (.bool j5) ∧ st.tm 8 = .lit (.int .i64 gQ) ∧ K9 (f9 p9 j5 gQ iO j6)) := ⟨_, rfl⟩
 refine loopK mixed (by kernel_rfl) I9 1000000 (by rw [fU]; refine ⟨1000000, false, ae.Years.Low, 0, 0, rfl, rfl, (show 9 ≤ 9 by omega), ?_, ?_, ?_, ?_, ?_, ?_, ?_, ?_, ?_, h⟩ <;> first | (simp only [ua, nm, seval] <;> rfl) | rfl) ?_
 rintro m ⟨tm, H, gX, df⟩ hinv
 rw [fU] at hinv
 obtain ⟨p9, j5, gQ, iO, j6, rfl, hdf, rR, dh, cY, kE, ba, bj, bQ, bu, bC, cv, h⟩ := hinv
 simp only at hdf rR dh cY kE ba bj bQ bu bC cv
 have pK := fu (m := 9) (b := gX) (by omega)
 subst hdf rQ
 cases p9 with
 | zero =>
  simp only [pI, hs, reduceCtorEq] at h
  exact absurd h mz
 | succ p9 =>
  simp only [pI, hs, reduceCtorEq] at h
  cases cI : (decide (gQ ≤ ae.Years.High))
  ·simp only [cI, hs] at h
   replace h := qx _ h
   try dsimp only at h
   try simp only [hs] at h
   try simp only [vz, tyf, pK, ba, bj, bQ, bu, bC, cv, dh, cY, kE, cI, nm, seval]
   refine bG (x := (.tup [.agg ([.lit (.int .i64 iO)] ++ [.lit (.int .i64 j6)]), .lit (.bool j5)])) (by first | (simp only [Tryz.results29, resV, resL, av, bL, bM, uw, cr, tyf, pK, ba, bj, bQ, bu, bC, cv, dh, cY, kE, cI, nm, seval] <;> rfl) | rfl) ?_
   obtain rfl := kF _ h
   refine bO ?_ ?_
   ·simp only [tre, ar, Bool.and_self]
   ·first | (simp only [outV, uw, bT, cr, tyf, nrm, au, pK, ba, bj, bQ, bu, bC, cv, dh, cY, kE, cI, nm, seval] <;> rfl) | rfl
  simp only [cI, hs] at h
  obtain ⟨nP, uq, h⟩ := optI h mz
  try simp only [hs] at h
  simp only [vz, tyf, pK, ba, bj, bQ, bu, bC, cv, dh, cY, kE, cI, nm, seval]
  refine ktA (ND _ _ _ _ _ uq) ?_
  refine aZ (fun tm => tm 1 = .sl (aa eI aq) (List.length aq) false ∧ tm 2 = .ptr 0 0 ∧ tm 4 = .ptr 1 0 ∧ tm 6 = .ptr 3 0 ∧ tm 7 = .lit (.bool j5) ∧ tm 8 = .lit (.int .i64 gQ) ∧ tm 22 = .lit (.bool nP) ∧ True) (by refine ⟨ba, bj, bQ, bu, bC, cv, ?_, trivial⟩ <;> first | (simp only [ua, pK, ba, bj, bQ, bu, bC, cv, dh, cY, kE, cI, nm, seval] <;> rfl) | rfl) ?_
  rintro tm ⟨bD, cF, cD, cH, bY, bE, bA, _⟩
  cases tG : (nP)
  ·simp only [tG, hs] at h
   simp only [vz, tyf, pK, dh, cY, kE, cI, bD, cF, cD, cH, bY, bE, bA, tG, nm, seval]
   exact ⟨p9, Nat.lt_succ_self _, by rw [fU]; refine ⟨p9, j5, i64.wrap (gQ + 1), iO, j6, rfl, rfl, (show 9 ≤ gX + 24 by omega), ?_, ?_, ?_, bD, cF, cD, cH, bY, ?_, h⟩ <;> first | (simp only [ua, pK, dh, cY, kE, cI, bD, cF, cD, cH, bY, bE, bA, tG, nm, seval] <;> rfl) | rfl⟩
  simp only [tG, hs] at h
  obtain ⟨T4, Yv, h⟩ := optI h mz
  try simp only [hs] at h
  simp only [vz, tyf, pK, dh, cY, kE, cI, bD, cF, cD, cH, bY, bE, bA, tG, nm, seval]
  refine ktA (ND _ _ _ _ _ Yv) ?_
  refine aZ (fun tm => tm 1 = .sl (aa eI aq) (List.length aq) false ∧ tm 2 = .ptr 0 0 ∧ tm 4 = .ptr 1 0 ∧ tm 6 = .ptr 3 0 ∧ tm 7 = .lit (.bool j5) ∧ tm 8 = .lit (.int .i64 gQ) ∧ tm 23 = .lit (.bool true) ∧ tm 27 = .lit (.bool T4) ∧ True) (by refine ⟨bD, cF, cD, cH, bY, bE, ?_, ?_, trivial⟩ <;> first | (simp only [ua, pK, dh, cY, kE, cI, bD, cF, cD, cH, bY, bE, bA, tG, nm, seval] <;> rfl) | rfl) ?_
  rintro tm ⟨cK, bV, gZ, dP, eu, dq, cR, cb, _⟩
  cases pX : (T4)
  ·simp only [pX, hs] at h
   have tZ := And.intro pK (And.intro dh (And.intro cY (And.intro kE (And.intro cI (And.intro tG pX)))))
   simp only [vz, tyf, tZ, cK, bV, gZ, dP, eu, dq, cR, cb, nm, seval]
   exact ⟨p9, Nat.lt_succ_self _, by rw [fU]; refine ⟨p9, j5, i64.wrap (gQ + 1), iO, j6, rfl, rfl, (show 9 ≤ gX + 24 by omega), ?_, ?_, ?_, cK, bV, gZ, dP, eu, ?_, h⟩ <;> first | (simp only [ua, tZ, cK, bV, gZ, dP, eu, dq, cR, cb, nm, seval] <;> rfl) | rfl⟩
  simp only [pX, hs] at h
  have tH := And.intro pK (And.intro dh (And.intro cY (And.intro kE (And.intro cI (And.intro tG pX)))))
  obtain ⟨nQ, ur, h⟩ := optI h mz
  try simp only [hs] at h
  simp only [vz, tyf, tH, cK, bV, gZ, dP, eu, dq, cR, cb, nm, seval]
  refine ktA (ND _ _ _ _ _ ur) ?_
  refine aZ (fun tm => tm 1 = .sl (aa eI aq) (List.length aq) false ∧ tm 2 = .ptr 0 0 ∧ tm 4 = .ptr 1 0 ∧ tm 6 = .ptr 3 0 ∧ tm 7 = .lit (.bool j5) ∧ tm 8 = .lit (.int .i64 gQ) ∧ tm 29 = .lit (.bool true) ∧ tm 33 = .lit (.bool nQ) ∧ True) (by refine ⟨cK, bV, gZ, dP, eu, dq, ?_, ?_, trivial⟩ <;> first | (simp only [ua, tH, cK, bV, gZ, dP, eu, dq, cR, cb, nm, seval] <;> rfl) | rfl) ?_
  rintro tm ⟨eM, ep, ic, fe, cL, cM, cS, dc, _⟩
  cases tI : (nQ)
  ·simp only [tI, hs] at h
   simp only [vz, tyf, tH, eM, ep, ic, fe, cL, cM, cS, dc, tI, nm, seval]
   exact ⟨p9, Nat.lt_succ_self _, by rw [fU]; refine ⟨p9, j5, i64.wrap (gQ + 1), iO, j6, rfl, rfl, (show 9 ≤ gX + 24 by omega), ?_, ?_, ?_, eM, ep, ic, fe, cL, ?_, h⟩ <;> first | (simp only [ua, tH, eM, ep, ic, fe, cL, cM, cS, dc, tI, nm, seval] <;> rfl) | rfl⟩
  simp only [tI, hs] at h
  cases xS : (j5)
  ·simp only [xS, hs] at h
   simp only [vz, tyf, tH, eM, ep, ic, fe, cL, cM, cS, dc, tI, xS, nm, seval]
   exact ⟨p9, Nat.lt_succ_self _, by rw [fU]; refine ⟨p9, true, i64.wrap (gQ + 1), gQ, gQ, rfl, rfl, (show 9 ≤ gX + 33 by omega), ?_, ?_, ?_, eM, ep, ic, fe, ?_, ?_, h⟩ <;> first | (simp only [ua, tH, eM, ep, ic, fe, cL, cM, cS, dc, tI, xS, nm, seval] <;> rfl) | rfl⟩
  simp only [xS, hs] at h
  simp only [vz, tyf, tH, eM, ep, ic, fe, cL, cM, cS, dc, tI, xS, nm, seval]
  exact ⟨p9, Nat.lt_succ_self _, by rw [fU]; refine ⟨p9, true, i64.wrap (gQ + 1), iO, gQ, rfl, rfl, (show 9 ≤ gX + 30 by omega), ?_, ?_, ?_, eM, ep, ic, fe, ?_, ?_, h⟩ <;> first | (simp only [ua, tH, eM, ep, ic, fe, cL, cM, cS, dc, tI, xS, nm, seval] <;> rfl) | rfl⟩
def Ad (ae : Gs) (aq : List Int) : Option (Int) := Option.bind (tX ae aq) (fun r1 => cond (decide (r1 ≤ ae.Off)) (some 3) (Option.bind (Bk ae aq) (fun r2 => cond (r2.2) (some 2) (some 1))))
theorem Wq (ae : Gs) (aq : List Int) (R : Int) (h : Ad ae aq = some R) : ad Tryz.prog G0 30 [.agg (cGs ae), .sl (aa eI aq) (List.length aq) false] (.tree (.lit (.int .i64 R))) := by
 refine ad.runR mixed Tryz.call30 Tryz.func30 rfl (by simp [Tryz.ntmps30]; kernel_rfl) ?_
 obtain ⟨KF, h, kF, kN⟩ := dp h
 simp only [Ad] at h
 simp only [vz, tyf, nm, seval]
 refine mN (fun tm => tm 1 = .sl (aa eI aq) (List.length aq) false ∧ tm 2 = .ptr 0 0 ∧ True) (by refine ⟨?_, ?_, trivial⟩ <;> first | (simp only [ua, nm, seval] <;> rfl) | rfl) ?_
 rintro tm ⟨e3, e4, _⟩
 obtain ⟨r5, o6, h⟩ := optI h kN
 try simp only [hs] at h
 simp only [vz, tyf, e3, e4, nm, seval]
 refine dktA (Eu _ _ _ o6) ?_
 refine aZ (fun tm => tm 1 = .sl (aa eI aq) (List.length aq) false ∧ tm 2 = .ptr 0 0 ∧ tm 9 = .lit (.int .i64 r5) ∧ True) (by refine ⟨e3, e4, ?_, trivial⟩ <;> first | (simp only [ua, e3, e4, nm, seval] <;> rfl) | rfl) ?_
 rintro tm ⟨e7, e8, e9, _⟩
 cases dX : (decide (r5 ≤ ae.Off))
 ·simp only [dX, hs] at h
  obtain ⟨eK, uj, h⟩ := optI h kN
  try simp only [hs] at h
  simp only [vz, tyf, e7, e8, e9, dX, nm, seval]
  refine ktA (Yu _ _ _ uj) ?_
  refine aZ (fun tm => tm 16 = .tup [.agg (aK eK.1), .lit (.bool eK.2)] ∧ True) (by refine ⟨?_, trivial⟩ <;> first | (simp only [ua, e7, e8, e9, dX, nm, seval] <;> rfl) | rfl) ?_
  rintro tm ⟨ba, _⟩
  cases cT : (eK.2)
  ·simp only [cT, hs] at h
   try simp only [vz, tyf, dX, ba, cT, nm, seval]
   refine bG (x := (.lit (.int .i64 1))) (by first | (simp only [Tryz.results30, resV, resL, av, bL, bM, uw, cr, tyf, dX, cT, nm, seval] <;> rfl) | rfl) ?_
   obtain rfl := kF _ h
   refine bO ?_ ?_
   ·simp only [tre, ar, Bool.and_self]
   ·first | (simp only [outV, uw, bT, cr, tyf, nrm, au, dX, ba, cT, nm, seval] <;> rfl) | rfl
  simp only [cT, hs] at h
  try simp only [vz, tyf, dX, ba, cT, nm, seval]
  refine bG (x := (.lit (.int .i64 2))) (by first | (simp only [Tryz.results30, resV, resL, av, bL, bM, uw, cr, tyf, dX, cT, nm, seval] <;> rfl) | rfl) ?_
  obtain rfl := kF _ h
  refine bO ?_ ?_
  ·simp only [tre, ar, Bool.and_self]
  ·first | (simp only [outV, uw, bT, cr, tyf, nrm, au, dX, ba, cT, nm, seval] <;> rfl) | rfl
 simp only [dX, hs] at h
 try simp only [vz, tyf, e7, e8, e9, dX, nm, seval]
 refine bG (x := (.lit (.int .i64 3))) (by first | (simp only [Tryz.results30, resV, resL, av, bL, bM, uw, cr, tyf, dX, nm, seval] <;> rfl) | rfl) ?_
 obtain rfl := kF _ h
 refine bO ?_ ?_
 ·simp only [tre, ar, Bool.and_self]
 ·first | (simp only [outV, uw, bT, cr, tyf, nrm, au, e7, e8, e9, dX, nm, seval] <;> rfl) | rfl
def anyR (T : Int → Bool) : Nat → Int → Bool
 | 0, _ => false
 | k + 1, c => T c || anyR T k (c + 1)
theorem Bl {T : Int → Bool} : ∀ (k : Nat) (c : Int), anyR T k c = true ↔ ∃ f : Int, c ≤ f ∧ f < c + k ∧ T f = true
 | 0, c => by
  simp only [anyR, Bool.false_eq_true, false_iff]
  rintro ⟨f, h1, h2, _⟩
  omega
 | k + 1, c => by
  simp only [anyR, Bool.or_eq_true, Bl k (c + 1)]
  constructor
  ·rintro (h | ⟨f, h1, h2, h3⟩)
   ·exact ⟨c, by omega, by omega, h⟩
   ·exact ⟨f, by omega, by omega, h3⟩
  ·rintro ⟨f, h1, h2, h3⟩
   by_cases e : f = c
   ·subst e; exact .inl h3
   ·exact .inr ⟨f, by omega, by omega, h3⟩
def canT (s : Gs) (mix : List Int) (p : P3) (y f : Int) : Bool := decide (sumL mix * aB (selI s.Old p) y f - sumL mix * s.Off ≤ (aH s mix p).High) && decide ((aH s mix p).Low ≤ sumL mix * aB (selI s.Old p) y f + sumL mix * s.Off)
theorem can_b {s : Gs} (hs : ShOk s) {mix : List Int} (hm : MixOk s mix) (p : P3) {y f : Int} (hy : 0 ≤ y ∧ y ≤ 20) (hf : 0 ≤ f) : 0 ≤ sumL mix * aB (selI s.Old p) y f ∧ sumL mix * aB (selI s.Old p) y f ≤ 792 ∧ 0 ≤ sumL mix * s.Off ∧ sumL mix * s.Off ≤ 160 := by
 have h1 := hs.old p
 have h2 := tT (y := y) (f := f) h1 hy.1 hf
 have h3 := hm.s
 have h4 := hs.off
 have h5 := mulR (a := sumL mix) (A := 8) (by omega) h3.2 h2.1 (show aB (selI s.Old p) y f ≤ 99 by omega)
 have h6 := mulR (a := sumL mix) (A := 8) (b := s.Off) (B := 20) (by omega) h3.2 (by omega) (by omega)
 omega
theorem Bm {s : Gs} (hs : ShOk s) {mix : List Int} (hm : MixOk s mix) {y : Int} (hy : 0 ≤ y ∧ y ≤ 20) : ∀ (k fuel : Nat) (c : Int), k < fuel → 0 ≤ c → c + k = s.Fade.a0.High + 1 → nY ⟨s, mix⟩ y (aH s mix .p0) (sumL mix) fuel c = cond (anyR (canT s mix .p0 y) k c) (some (.ret true)) (some (.go (c + k)))
 | 0, fuel + 1, c, _, h0, hc => by
  simp only [nY]
  rw [decide_eq_false (by show ¬ c ≤ s.Fade.a0.High; omega)]
  simp [anyR]
 | k + 1, fuel + 1, c, hf, h0, hc => by
  have hfd := hs.fade .p0
  simp only [selS] at hfd
  have ih := Bm hs hm hy k fuel (c + 1) (by omega) (by omega) (by omega)
  have e1 := wv (hs.old .p0) hy (show 0 ≤ c ∧ c ≤ 9 by omega)
  simp only [selI] at e1
  have hb := can_b hs hm .p0 hy (show 0 ≤ c by omega)
  simp only [selI] at hb
  have e2 : i64.wrap (sumL mix * aB s.Old.a0 y c) = sumL mix * aB s.Old.a0 y c := cB (by omega) (by omega)
  have e3 : i64.wrap (sumL mix * s.Off) = sumL mix * s.Off := cB (by omega) (by omega)
  have e4 : i64.wrap (sumL mix * aB s.Old.a0 y c - sumL mix * s.Off) = sumL mix * aB s.Old.a0 y c - sumL mix * s.Off := cB (by omega) (by omega)
  have e5 : i64.wrap (sumL mix * aB s.Old.a0 y c + sumL mix * s.Off) = sumL mix * aB s.Old.a0 y c + sumL mix * s.Off := cB (by omega) (by omega)
  have e6 : i64.wrap (c + 1) = c + 1 := cB (by omega) (by omega)
  have hT : canT s mix .p0 y c = (decide (sumL mix * aB s.Old.a0 y c - sumL mix * s.Off ≤ (aH s mix .p0).High) && decide ((aH s mix .p0).Low ≤ sumL mix * aB s.Old.a0 y c + sumL mix * s.Off)) := rfl
  simp only [nY]
  rw [decide_eq_true (show c ≤ s.Fade.a0.High by omega), e1]
  simp only [Option.bind_some, cond_true, e2, e3, e4, e5, e6, ih, anyR, hT]
  rw [show c + 1 + (k : Int) = c + ((k + 1 : Nat) : Int) by omega]
  cases decide (sumL mix * aB s.Old.a0 y c - sumL mix * s.Off ≤ (aH s mix .p0).High) <;> cases decide ((aH s mix .p0).Low ≤ sumL mix * aB s.Old.a0 y c + sumL mix * s.Off) <;> rfl
 | _ , 0, _, hf, _, _ => by omega
theorem Bn {s : Gs} (hs : ShOk s) {mix : List Int} (hm : MixOk s mix) {y : Int} (hy : 0 ≤ y ∧ y ≤ 20) : ∀ (k fuel : Nat) (c : Int), k < fuel → 0 ≤ c → c + k = s.Fade.a0.High + 1 → ou s P3.p0.i y (sumsS s mix) (sumL mix) fuel c = cond (anyR (canT s mix .p0 y) k c) (some (.ret true)) (some (.go (c + k)))
 | 0, fuel + 1, c, _, h0, hc => by
  simp only [ou]
  rw [decide_eq_false (by show ¬ c ≤ s.Fade.a0.High; omega)]
  simp [anyR]
 | k + 1, fuel + 1, c, hf, h0, hc => by
  have hfd := hs.fade .p0
  simp only [selS] at hfd
  have ih := Bn hs hm hy k fuel (c + 1) (by omega) (by omega) (by omega)
  have e1 := qK hs .p0 hy (show 0 ≤ c ∧ c ≤ 9 by omega)
  simp only [selI] at e1
  have hb := can_b hs hm .p0 hy (show 0 ≤ c by omega)
  simp only [selI] at hb
  have e2 : i64.wrap (sumL mix * aB s.Old.a0 y c) = sumL mix * aB s.Old.a0 y c := cB (by omega) (by omega)
  have e3 : i64.wrap (sumL mix * s.Off) = sumL mix * s.Off := cB (by omega) (by omega)
  have e4 : i64.wrap (sumL mix * aB s.Old.a0 y c - sumL mix * s.Off) = sumL mix * aB s.Old.a0 y c - sumL mix * s.Off := cB (by omega) (by omega)
  have e5 : i64.wrap (sumL mix * aB s.Old.a0 y c + sumL mix * s.Off) = sumL mix * aB s.Old.a0 y c + sumL mix * s.Off := cB (by omega) (by omega)
  have e6 : i64.wrap (c + 1) = c + 1 := cB (by omega) (by omega)
  have hT : canT s mix .p0 y c = (decide (sumL mix * aB s.Old.a0 y c - sumL mix * s.Off ≤ (aH s mix .p0).High) && decide ((aH s mix .p0).Low ≤ sumL mix * aB s.Old.a0 y c + sumL mix * s.Off)) := rfl
  have hS : (sumsS s mix).a0 = aH s mix .p0 := rfl
  simp only [ou]
  rw [decide_eq_true (show c ≤ s.Fade.a0.High by omega), e1]
  simp only [Option.bind_some, cond_true, e2, e3, e4, e5, e6, ih, anyR, hT, hS, ge_iff_le]
  rw [show c + 1 + (k : Int) = c + ((k + 1 : Nat) : Int) by omega]
  cases decide (sumL mix * aB s.Old.a0 y c - sumL mix * s.Off ≤ (aH s mix .p0).High) <;> cases decide ((aH s mix .p0).Low ≤ sumL mix * aB s.Old.a0 y c + sumL mix * s.Off) <;> rfl
 | _ , 0, _, hf, _, _ => by omega
theorem Bo {s : Gs} (hs : ShOk s) {mix : List Int} (hm : MixOk s mix) {y : Int} (hy : 0 ≤ y ∧ y ≤ 20) : ∀ (k fuel : Nat) (c : Int), k < fuel → 0 ≤ c → c + k = s.Fade.a1.High + 1 → nX ⟨s, mix⟩ y (aH s mix .p1) (sumL mix) fuel c = cond (anyR (canT s mix .p1 y) k c) (some (.ret true)) (some (.go (c + k)))
 | 0, fuel + 1, c, _, h0, hc => by
  simp only [nX]
  rw [decide_eq_false (by show ¬ c ≤ s.Fade.a1.High; omega)]
  simp [anyR]
 | k + 1, fuel + 1, c, hf, h0, hc => by
  have hfd := hs.fade .p1
  simp only [selS] at hfd
  have ih := Bo hs hm hy k fuel (c + 1) (by omega) (by omega) (by omega)
  have e1 := wv (hs.old .p1) hy (show 0 ≤ c ∧ c ≤ 9 by omega)
  simp only [selI] at e1
  have hb := can_b hs hm .p1 hy (show 0 ≤ c by omega)
  simp only [selI] at hb
  have e2 : i64.wrap (sumL mix * aB s.Old.a1 y c) = sumL mix * aB s.Old.a1 y c := cB (by omega) (by omega)
  have e3 : i64.wrap (sumL mix * s.Off) = sumL mix * s.Off := cB (by omega) (by omega)
  have e4 : i64.wrap (sumL mix * aB s.Old.a1 y c - sumL mix * s.Off) = sumL mix * aB s.Old.a1 y c - sumL mix * s.Off := cB (by omega) (by omega)
  have e5 : i64.wrap (sumL mix * aB s.Old.a1 y c + sumL mix * s.Off) = sumL mix * aB s.Old.a1 y c + sumL mix * s.Off := cB (by omega) (by omega)
  have e6 : i64.wrap (c + 1) = c + 1 := cB (by omega) (by omega)
  have hT : canT s mix .p1 y c = (decide (sumL mix * aB s.Old.a1 y c - sumL mix * s.Off ≤ (aH s mix .p1).High) && decide ((aH s mix .p1).Low ≤ sumL mix * aB s.Old.a1 y c + sumL mix * s.Off)) := rfl
  simp only [nX]
  rw [decide_eq_true (show c ≤ s.Fade.a1.High by omega), e1]
  simp only [Option.bind_some, cond_true, e2, e3, e4, e5, e6, ih, anyR, hT]
  rw [show c + 1 + (k : Int) = c + ((k + 1 : Nat) : Int) by omega]
  cases decide (sumL mix * aB s.Old.a1 y c - sumL mix * s.Off ≤ (aH s mix .p1).High) <;> cases decide ((aH s mix .p1).Low ≤ sumL mix * aB s.Old.a1 y c + sumL mix * s.Off) <;> rfl
 | _ , 0, _, hf, _, _ => by omega
theorem Bp {s : Gs} (hs : ShOk s) {mix : List Int} (hm : MixOk s mix) {y : Int} (hy : 0 ≤ y ∧ y ≤ 20) : ∀ (k fuel : Nat) (c : Int), k < fuel → 0 ≤ c → c + k = s.Fade.a1.High + 1 → ot s P3.p1.i y (sumsS s mix) (sumL mix) fuel c = cond (anyR (canT s mix .p1 y) k c) (some (.ret true)) (some (.go (c + k)))
 | 0, fuel + 1, c, _, h0, hc => by
  simp only [ot]
  rw [decide_eq_false (by show ¬ c ≤ s.Fade.a1.High; omega)]
  simp [anyR]
 | k + 1, fuel + 1, c, hf, h0, hc => by
  have hfd := hs.fade .p1
  simp only [selS] at hfd
  have ih := Bp hs hm hy k fuel (c + 1) (by omega) (by omega) (by omega)
  have e1 := qK hs .p1 hy (show 0 ≤ c ∧ c ≤ 9 by omega)
  simp only [selI] at e1
  have hb := can_b hs hm .p1 hy (show 0 ≤ c by omega)
  simp only [selI] at hb
  have e2 : i64.wrap (sumL mix * aB s.Old.a1 y c) = sumL mix * aB s.Old.a1 y c := cB (by omega) (by omega)
  have e3 : i64.wrap (sumL mix * s.Off) = sumL mix * s.Off := cB (by omega) (by omega)
  have e4 : i64.wrap (sumL mix * aB s.Old.a1 y c - sumL mix * s.Off) = sumL mix * aB s.Old.a1 y c - sumL mix * s.Off := cB (by omega) (by omega)
  have e5 : i64.wrap (sumL mix * aB s.Old.a1 y c + sumL mix * s.Off) = sumL mix * aB s.Old.a1 y c + sumL mix * s.Off := cB (by omega) (by omega)
  have e6 : i64.wrap (c + 1) = c + 1 := cB (by omega) (by omega)
  have hT : canT s mix .p1 y c = (decide (sumL mix * aB s.Old.a1 y c - sumL mix * s.Off ≤ (aH s mix .p1).High) && decide ((aH s mix .p1).Low ≤ sumL mix * aB s.Old.a1 y c + sumL mix * s.Off)) := rfl
  have hS : (sumsS s mix).a1 = aH s mix .p1 := rfl
  simp only [ot]
  rw [decide_eq_true (show c ≤ s.Fade.a1.High by omega), e1]
  simp only [Option.bind_some, cond_true, e2, e3, e4, e5, e6, ih, anyR, hT, hS, ge_iff_le]
  rw [show c + 1 + (k : Int) = c + ((k + 1 : Nat) : Int) by omega]
  cases decide (sumL mix * aB s.Old.a1 y c - sumL mix * s.Off ≤ (aH s mix .p1).High) <;> cases decide ((aH s mix .p1).Low ≤ sumL mix * aB s.Old.a1 y c + sumL mix * s.Off) <;> rfl
 | _ , 0, _, hf, _, _ => by omega
theorem Bq {s : Gs} (hs : ShOk s) {mix : List Int} (hm : MixOk s mix) {y : Int} (hy : 0 ≤ y ∧ y ≤ 20) : ∀ (k fuel : Nat) (c : Int), k < fuel → 0 ≤ c → c + k = s.Fade.a2.High + 1 → nW ⟨s, mix⟩ y (aH s mix .p2) (sumL mix) fuel c = cond (anyR (canT s mix .p2 y) k c) (some (.ret true)) (some (.go (c + k)))
 | 0, fuel + 1, c, _, h0, hc => by
  simp only [nW]
  rw [decide_eq_false (by show ¬ c ≤ s.Fade.a2.High; omega)]
  simp [anyR]
 | k + 1, fuel + 1, c, hf, h0, hc => by
  have hfd := hs.fade .p2
  simp only [selS] at hfd
  have ih := Bq hs hm hy k fuel (c + 1) (by omega) (by omega) (by omega)
  have e1 := wv (hs.old .p2) hy (show 0 ≤ c ∧ c ≤ 9 by omega)
  simp only [selI] at e1
  have hb := can_b hs hm .p2 hy (show 0 ≤ c by omega)
  simp only [selI] at hb
  have e2 : i64.wrap (sumL mix * aB s.Old.a2 y c) = sumL mix * aB s.Old.a2 y c := cB (by omega) (by omega)
  have e3 : i64.wrap (sumL mix * s.Off) = sumL mix * s.Off := cB (by omega) (by omega)
  have e4 : i64.wrap (sumL mix * aB s.Old.a2 y c - sumL mix * s.Off) = sumL mix * aB s.Old.a2 y c - sumL mix * s.Off := cB (by omega) (by omega)
  have e5 : i64.wrap (sumL mix * aB s.Old.a2 y c + sumL mix * s.Off) = sumL mix * aB s.Old.a2 y c + sumL mix * s.Off := cB (by omega) (by omega)
  have e6 : i64.wrap (c + 1) = c + 1 := cB (by omega) (by omega)
  have hT : canT s mix .p2 y c = (decide (sumL mix * aB s.Old.a2 y c - sumL mix * s.Off ≤ (aH s mix .p2).High) && decide ((aH s mix .p2).Low ≤ sumL mix * aB s.Old.a2 y c + sumL mix * s.Off)) := rfl
  simp only [nW]
  rw [decide_eq_true (show c ≤ s.Fade.a2.High by omega), e1]
  simp only [Option.bind_some, cond_true, e2, e3, e4, e5, e6, ih, anyR, hT]
  rw [show c + 1 + (k : Int) = c + ((k + 1 : Nat) : Int) by omega]
  cases decide (sumL mix * aB s.Old.a2 y c - sumL mix * s.Off ≤ (aH s mix .p2).High) <;> cases decide ((aH s mix .p2).Low ≤ sumL mix * aB s.Old.a2 y c + sumL mix * s.Off) <;> rfl
 | _ , 0, _, hf, _, _ => by omega
theorem Br {s : Gs} (hs : ShOk s) {mix : List Int} (hm : MixOk s mix) {y : Int} (hy : 0 ≤ y ∧ y ≤ 20) : ∀ (k fuel : Nat) (c : Int), k < fuel → 0 ≤ c → c + k = s.Fade.a2.High + 1 → oq s P3.p2.i y (sumsS s mix) (sumL mix) fuel c = cond (anyR (canT s mix .p2 y) k c) (some (.ret true)) (some (.go (c + k)))
 | 0, fuel + 1, c, _, h0, hc => by
  simp only [oq]
  rw [decide_eq_false (by show ¬ c ≤ s.Fade.a2.High; omega)]
  simp [anyR]
 | k + 1, fuel + 1, c, hf, h0, hc => by
  have hfd := hs.fade .p2
  simp only [selS] at hfd
  have ih := Br hs hm hy k fuel (c + 1) (by omega) (by omega) (by omega)
  have e1 := qK hs .p2 hy (show 0 ≤ c ∧ c ≤ 9 by omega)
  simp only [selI] at e1
  have hb := can_b hs hm .p2 hy (show 0 ≤ c by omega)
  simp only [selI] at hb
  have e2 : i64.wrap (sumL mix * aB s.Old.a2 y c) = sumL mix * aB s.Old.a2 y c := cB (by omega) (by omega)
  have e3 : i64.wrap (sumL mix * s.Off) = sumL mix * s.Off := cB (by omega) (by omega)
  have e4 : i64.wrap (sumL mix * aB s.Old.a2 y c - sumL mix * s.Off) = sumL mix * aB s.Old.a2 y c - sumL mix * s.Off := cB (by omega) (by omega)
  have e5 : i64.wrap (sumL mix * aB s.Old.a2 y c + sumL mix * s.Off) = sumL mix * aB s.Old.a2 y c + sumL mix * s.Off := cB (by omega) (by omega)
  have e6 : i64.wrap (c + 1) = c + 1 := cB (by omega) (by omega)
  have hT : canT s mix .p2 y c = (decide (sumL mix * aB s.Old.a2 y c - sumL mix * s.Off ≤ (aH s mix .p2).High) && decide ((aH s mix .p2).Low ≤ sumL mix * aB s.Old.a2 y c + sumL mix * s.Off)) := rfl
  have hS : (sumsS s mix).a2 = aH s mix .p2 := rfl
  simp only [oq]
  rw [decide_eq_true (show c ≤ s.Fade.a2.High by omega), e1]
  simp only [Option.bind_some, cond_true, e2, e3, e4, e5, e6, ih, anyR, hT, hS, ge_iff_le]
  rw [show c + 1 + (k : Int) = c + ((k + 1 : Nat) : Int) by omega]
  cases decide (sumL mix * aB s.Old.a2 y c - sumL mix * s.Off ≤ (aH s mix .p2).High) <;> cases decide ((aH s mix .p2).Low ≤ sumL mix * aB s.Old.a2 y c + sumL mix * s.Off) <;> rfl
 | _ , 0, _, hf, _, _ => by omega
def canB (s : Gs) (mix : List Int) (p : P3) (y : Int) : Bool := anyR (canT s mix p y) ((selS s.Fade p).High + 1 - (selS s.Fade p).Low).toNat (selS s.Fade p).Low
theorem NW {s : Gs} (hs : ShOk s) {mix : List Int} (hm : MixOk s mix) (p : P3) {y : Int} (hy : 0 ≤ y ∧ y ≤ 20) : uD ⟨s, mix⟩ y p.i (aH s mix p) = some (canB s mix p y) := by
 have f0 := hs.fade .p0
 have f1 := hs.fade .p1
 have f2 := hs.fade .p2
 simp only [selS] at f0 f1 f2
 unfold uD canB
 rw [Eb hs hm]
 simp only [Option.bind_some]
 cases p <;> simp only [P3.i, Int.reduceBEq, cond_true, cond_false, selS]
 ·rw [Bm hs hm hy (s.Fade.a0.High + 1 - s.Fade.a0.Low).toNat 1000000 s.Fade.a0.Low (by omega) (by omega) (by omega)]
  cases anyR (canT s mix .p0 y) (s.Fade.a0.High + 1 - s.Fade.a0.Low).toNat s.Fade.a0.Low <;> rfl
 ·rw [Bo hs hm hy (s.Fade.a1.High + 1 - s.Fade.a1.Low).toNat 1000000 s.Fade.a1.Low (by omega) (by omega) (by omega)]
  cases anyR (canT s mix .p1 y) (s.Fade.a1.High + 1 - s.Fade.a1.Low).toNat s.Fade.a1.Low <;> rfl
 ·rw [Bq hs hm hy (s.Fade.a2.High + 1 - s.Fade.a2.Low).toNat 1000000 s.Fade.a2.Low (by omega) (by omega) (by omega)]
  cases anyR (canT s mix .p2 y) (s.Fade.a2.High + 1 - s.Fade.a2.Low).toNat s.Fade.a2.Low <;> rfl
theorem vV {s : Gs} (hs : ShOk s) {mix : List Int} (hm : MixOk s mix) (p : P3) {y : Int} (hy : 0 ≤ y ∧ y ≤ 20) : vO s mix p.i y = some (canB s mix p y) := by
 have hl := hs.n
 have hn := hm.n
 have f0 := hs.fade .p0
 have f1 := hs.fade .p1
 have f2 := hs.fade .p2
 simp only [selS] at f0 f1 f2
 have r0 := Bn hs hm hy (s.Fade.a0.High + 1 - s.Fade.a0.Low).toNat 1000000 s.Fade.a0.Low (by omega) (by omega) (by omega)
 have r1 := Bp hs hm hy (s.Fade.a1.High + 1 - s.Fade.a1.Low).toNat 1000000 s.Fade.a1.Low (by omega) (by omega) (by omega)
 have r2 := Br hs hm hy (s.Fade.a2.High + 1 - s.Fade.a2.Low).toNat 1000000 s.Fade.a2.Low (by omega) (by omega) (by omega)
 simp only [P3.i] at r0 r1 r2
 unfold vO canB
 rw [yf hs hm, KI hm.b (by omega)]
 simp only [Option.bind_some]
 cases p <;> simp only [P3.i, Int.reduceBEq, cond_true, cond_false, selS]
 ·rw [r0]
  cases anyR (canT s mix .p0 y) (s.Fade.a0.High + 1 - s.Fade.a0.Low).toNat s.Fade.a0.Low <;> rfl
 ·rw [r1]
  cases anyR (canT s mix .p1 y) (s.Fade.a1.High + 1 - s.Fade.a1.Low).toNat s.Fade.a1.Low <;> rfl
 ·rw [r2]
  cases anyR (canT s mix .p2 y) (s.Fade.a2.High + 1 - s.Fade.a2.Low).toNat s.Fade.a2.Low <;> rfl
def fillM (p : Int) (T : Int → Bool) : Nat → Int → List (Gf × Bool) → List (Gf × Bool)
 | 0, _, m => m
 | k + 1, c, m => fillM p T k (c + 1) (mapSet cJ m ⟨p, c⟩ (T c))
theorem NX (a b : Gf) : cJ a b = true ↔ a = b := by
 constructor
 ·exact sX a b
 ·rintro rfl
  simp [cJ]
theorem Dz (p : Int) (T : Int → Bool) : ∀ (k : Nat) (c : Int) (m : List (Gf × Bool)) (p' y : Int), mapGet cJ false (fillM p T k c m) ⟨p', y⟩ = if p' = p ∧ c ≤ y ∧ y < c + k then T y else mapGet cJ false m ⟨p', y⟩
 | 0, c, m, p', y => by
  rw [if_neg (by rintro ⟨_, h1, h2⟩; omega)]
  rfl
 | k + 1, c, m, p', y => by
  rw [fillM, Dz p T k (c + 1), Gv NX]
  by_cases h1 : p' = p
  ·by_cases h2 : y = c
   ·subst h1 h2
    rw [if_neg (by rintro ⟨_, h1, _⟩; omega), if_pos (by simp [cJ]), if_pos ⟨rfl, by omega, by omega⟩]
   ·have h3 : ¬ cJ ⟨p', y⟩ ⟨p, c⟩ = true := by
     rw [NX]
     intro e
     exact h2 (congrArg Gf.years e)
    rw [if_neg h3]
    by_cases h4 : c + 1 ≤ y ∧ y < c + 1 + k
    ·rw [if_pos ⟨h1, h4⟩, if_pos ⟨h1, by omega, by omega⟩]
    ·rw [if_neg (fun h => h4 h.2), if_neg (fun h => h4 ⟨by omega, by omega⟩)]
  ·have h3 : ¬ cJ ⟨p', y⟩ ⟨p, c⟩ = true := by
    rw [NX]
    intro e
    exact h1 (congrArg Gf.pigment e)
   rw [if_neg (fun h => h1 h.1), if_neg h3, if_neg (fun h => h1 h.1)]
theorem T5 {s : Gs} (hs : ShOk s) {mix : List Int} (hm : MixOk s mix) : ∀ (k fuel : Nat) (c : Int) (m : List (Gf × Bool)), k < fuel → 0 ≤ c → c + k = s.Years.High + 1 → oR ⟨s, mix⟩ (sumsS s mix) fuel c m = some (.go (c + k, fillM 0 (canB s mix .p0) k c m))
 | 0, fuel + 1, c, m, _, h0, hc => by
  simp only [oR]
  rw [decide_eq_false (by show ¬ c ≤ s.Years.High; omega)]
  simp [fillM]
 | k + 1, fuel + 1, c, m, hf, h0, hc => by
  have hyr := hs.yrs
  have ih := fun m => T5 hs hm k fuel (c + 1) m (by omega) (by omega) (by omega)
  have e1 := NW hs hm .p0 (show 0 ≤ c ∧ c ≤ 20 by omega)
  rw [show P3.p0.i = 0 from rfl] at e1
  have e6 : i64.wrap (c + 1) = c + 1 := cB (by omega) (by omega)
  simp only [oR]
  rw [decide_eq_true (show c ≤ s.Years.High by omega), show (sumsS s mix).a0 = aH s mix .p0 from rfl, e1]
  simp only [Option.bind_some, cond_true, e6, ih, fillM]
  rw [show c + 1 + (k : Int) = c + ((k + 1 : Nat) : Int) by omega]
 | _ , 0, _, _, hf, _, _ => by omega
theorem T6 {s : Gs} (hs : ShOk s) {mix : List Int} (hm : MixOk s mix) : ∀ (k fuel : Nat) (c : Int) (m : List (Gf × Bool)), k < fuel → 0 ≤ c → c + k = s.Years.High + 1 → oP ⟨s, mix⟩ (sumsS s mix) fuel c m = some (.go (c + k, fillM 1 (canB s mix .p1) k c m))
 | 0, fuel + 1, c, m, _, h0, hc => by
  simp only [oP]
  rw [decide_eq_false (by show ¬ c ≤ s.Years.High; omega)]
  simp [fillM]
 | k + 1, fuel + 1, c, m, hf, h0, hc => by
  have hyr := hs.yrs
  have ih := fun m => T6 hs hm k fuel (c + 1) m (by omega) (by omega) (by omega)
  have e1 := NW hs hm .p1 (show 0 ≤ c ∧ c ≤ 20 by omega)
  rw [show P3.p1.i = 1 from rfl] at e1
  have e6 : i64.wrap (c + 1) = c + 1 := cB (by omega) (by omega)
  simp only [oP]
  rw [decide_eq_true (show c ≤ s.Years.High by omega), show (sumsS s mix).a1 = aH s mix .p1 from rfl, e1]
  simp only [Option.bind_some, cond_true, e6, ih, fillM]
  rw [show c + 1 + (k : Int) = c + ((k + 1 : Nat) : Int) by omega]
 | _ , 0, _, _, hf, _, _ => by omega
theorem T7 {s : Gs} (hs : ShOk s) {mix : List Int} (hm : MixOk s mix) : ∀ (k fuel : Nat) (c : Int) (m : List (Gf × Bool)), k < fuel → 0 ≤ c → c + k = s.Years.High + 1 → oN ⟨s, mix⟩ (sumsS s mix) fuel c m = some (.go (c + k, fillM 2 (canB s mix .p2) k c m))
 | 0, fuel + 1, c, m, _, h0, hc => by
  simp only [oN]
  rw [decide_eq_false (by show ¬ c ≤ s.Years.High; omega)]
  simp [fillM]
 | k + 1, fuel + 1, c, m, hf, h0, hc => by
  have hyr := hs.yrs
  have ih := fun m => T7 hs hm k fuel (c + 1) m (by omega) (by omega) (by omega)
  have e1 := NW hs hm .p2 (show 0 ≤ c ∧ c ≤ 20 by omega)
  rw [show P3.p2.i = 2 from rfl] at e1
  have e6 : i64.wrap (c + 1) = c + 1 := cB (by omega) (by omega)
  simp only [oN]
  rw [decide_eq_true (show c ≤ s.Years.High by omega), show (sumsS s mix).a2 = aH s mix .p2 from rfl, e1]
  simp only [Option.bind_some, cond_true, e6, ih, fillM]
  rw [show c + 1 + (k : Int) = c + ((k + 1 : Nat) : Int) by omega]
 | _ , 0, _, _, hf, _, _ => by omega
def yrsN (s : Gs) : Nat := (s.Years.High + 1 - s.Years.Low).toNat
def mapM (s : Gs) (mix : List Int) : List (Gf × Bool) := fillM 2 (canB s mix .p2) (yrsN s) s.Years.Low (fillM 1 (canB s mix .p1) (yrsN s) s.Years.Low (fillM 0 (canB s mix .p0) (yrsN s) s.Years.Low []))
theorem NY {s : Gs} (hs : ShOk s) {mix : List Int} (hm : MixOk s mix) : zk ⟨s, mix⟩ = some (mapM s mix) := by
 have hy := hs.yrs
 have hk : s.Years.Low + (yrsN s : Int) = s.Years.High + 1 := by unfold yrsN; omega
 have tJ : yrsN s < 1000000 := by unfold yrsN; omega
 unfold zk
 rw [tS hs hm]
 simp only [Option.bind_some, T5 hs hm (yrsN s) 1000000 _ _ tJ hy.1 hk, T6 hs hm (yrsN s) 1000000 _ _ tJ hy.1 hk, T7 hs hm (yrsN s) 1000000 _ _ tJ hy.1 hk, aN]
 rfl
theorem NZ {s : Gs} {mix : List Int} (hs : ShOk s) (p : P3) {y : Int} (hy : s.Years.Low ≤ y ∧ y ≤ s.Years.High) : mapGet cJ false (mapM s mix) ⟨p.i, y⟩ = canB s mix p y := by
 have hk : s.Years.Low + (yrsN s : Int) = s.Years.High + 1 := by have := hs.yrs; unfold yrsN; omega
 unfold mapM
 rw [Dz, Dz, Dz]
 cases p <;> simp only [P3.i]
 ·rw [if_neg (by rintro ⟨h, _⟩; omega), if_neg (by rintro ⟨h, _⟩; omega), if_pos ⟨trivial, by omega, by omega⟩]
 ·rw [if_neg (by rintro ⟨h, _⟩; omega), if_pos ⟨trivial, by omega, by omega⟩]
 ·rw [if_pos ⟨trivial, by omega, by omega⟩]
def allC (s : Gs) (mix : List Int) (y : Int) : Bool := canB s mix .p0 y && (canB s mix .p1 y && canB s mix .p2 y)
def yL (A : Int → Bool) : Nat → Int → List Int
 | 0, _ => []
 | k + 1, c => cond (A c) (c :: yL A k (c + 1)) (yL A k (c + 1))
theorem vW {A : Int → Bool} {y : Int} : ∀ (k : Nat) (c : Int), y ∈ yL A k c ↔ c ≤ y ∧ y < c + k ∧ A y = true
 | 0, c => by simp only [yL, List.not_mem_nil, false_iff]; omega
 | k + 1, c => by
  simp only [yL]
  cases h : A c with
  | true =>
   simp only [cond_true, List.mem_cons, vW k (c + 1)]
   constructor
   ·rintro (rfl | ⟨h1, h2, h3⟩)
    ·exact ⟨by omega, by omega, h⟩
    ·exact ⟨by omega, by omega, h3⟩
   ·rintro ⟨h1, h2, h3⟩
    by_cases e : y = c
    ·exact .inl e
    ·exact .inr ⟨by omega, by omega, h3⟩
  | false =>
   simp only [cond_false, vW k (c + 1)]
   constructor
   ·rintro ⟨h1, h2, h3⟩
    exact ⟨by omega, by omega, h3⟩
   ·rintro ⟨h1, h2, h3⟩
    by_cases e : y = c
    ·subst e; rw [h] at h3; cases h3
    ·exact ⟨by omega, by omega, h3⟩
theorem Bs {s : Gs} (hs : ShOk s) {mix : List Int} : ∀ (k fuel : Nat) (c : Int) (acc : List Int), k < fuel → s.Years.Low ≤ c → c + k = s.Years.High + 1 → acc.length + k ≤ 1000 → oo ⟨s, mix⟩ (mapM s mix) fuel acc c = some (.go (acc ++ yL (allC s mix) k c, c + k))
 | 0, fuel + 1, c, acc, _, h0, hc, _ => by
  simp only [oo]
  rw [decide_eq_false (by show ¬ c ≤ s.Years.High; omega)]
  simp [yL]
 | k + 1, fuel + 1, c, acc, hf, h0, hc, hl => by
  have hyr := hs.yrs
  have ih := fun acc hl => Bs (mix := mix) hs k fuel (c + 1) acc (by omega) (by omega) (by omega) hl
  have g0 := NZ (mix := mix) hs .p0 (y := c) ⟨h0, by omega⟩
  have g1 := NZ (mix := mix) hs .p1 (y := c) ⟨h0, by omega⟩
  have g2 := NZ (mix := mix) hs .p2 (y := c) ⟨h0, by omega⟩
  simp only [P3.i] at g0 g1 g2
  have e6 : i64.wrap (c + 1) = c + 1 := cB (by omega) (by omega)
  have hr : aw 8 (List.length (acc ++ [c])) = true := by
   unfold aw
   simp only [List.length_append, List.length_cons, List.length_nil, decide_eq_true_eq]
   omega
  have i1 := ih (acc ++ [c]) (by simp only [List.length_append, List.length_cons, List.length_nil]; omega)
  have i2 := ih acc (by omega)
  simp only [oo]
  rw [decide_eq_true (show c ≤ s.Years.High by omega), g0, g1, g2, e6, hr, i1, i2]
  simp only [cond_true, yL, allC]
  rw [show c + 1 + (k : Int) = c + ((k + 1 : Nat) : Int) by omega]
  cases canB s mix .p0 c <;> cases canB s mix .p1 c <;> cases canB s mix .p2 c <;> simp
 | _ , 0, _, _, hf, _, _, _ => by omega
def yearsL (s : Gs) (mix : List Int) : List Int := yL (allC s mix) (yrsN s) s.Years.Low
theorem Oa {s : Gs} (hs : ShOk s) {mix : List Int} (hm : MixOk s mix) : Bd ⟨s, mix⟩ = some (yearsL s mix) := by
 have hy := hs.yrs
 have hk : s.Years.Low + (yrsN s : Int) = s.Years.High + 1 := by unfold yrsN; omega
 have tJ : yrsN s ≤ 900 := by unfold yrsN; omega
 unfold Bd
 rw [NY hs hm]
 simp only [Option.bind_some, Bs hs (yrsN s) 1000000 _ [] (by omega) (Int.le_refl _) hk (by simp only [List.length_nil]; omega), aN]
 rfl
theorem Ob {s : Gs} (hs : ShOk s) {mix : List Int} (hm : MixOk s mix) : z7 ⟨s, mix⟩ = some (!(yearsL s mix).isEmpty) := by
 unfold z7
 rw [Oa hs hm, Option.bind_some]
 cases yearsL s mix with
 | nil => rfl
 | cons a l =>
  rw [decide_eq_true (by show ((a :: l).length : Int) > 0; simp only [List.length_cons]; omega)]
  rfl
def wordI (s : Gs) (mix : List Int) : Int := cond (surelyB s mix) 3 (cond (!(yearsL s mix).isEmpty) 2 1)
def spanY : List Int → GSpan × Int
 | [] => (⟨0, 0⟩, 5)
 | a :: l => (⟨a, (a :: l).getLast (by simp)⟩, 0)
def ry (A : Int → Bool) : Nat → Int → Bool → Int → Int → Bool × Int × Int
 | 0, _, is, lo, hi => (is, lo, hi)
 | k + 1, c, is, lo, hi => cond (A c) (ry A k (c + 1) true (cond is lo c) c) (ry A k (c + 1) is lo hi)
theorem ry_eq (A : Int → Bool) : ∀ (k : Nat) (c : Int) (is : Bool) (lo hi : Int), ry A k c is lo hi = match yL A k c with
  | [] => (is, lo, hi)
  | a :: l => (true, cond is lo a, (a :: l).getLast (by simp))
 | 0, c, is, lo, hi => rfl
 | k + 1, c, is, lo, hi => by
  simp only [ry, yL]
  cases A c with
  | false => simp only [cond_false]; exact ry_eq A k (c + 1) is lo hi
  | true =>
   simp only [cond_true]
   rw [ry_eq A k (c + 1) true]
   cases yL A k (c + 1) with
   | nil => rfl
   | cons b l => simp [List.getLast_cons]
theorem T8 {s : Gs} (hs : ShOk s) {mix : List Int} (hm : MixOk s mix) : ∀ (k fuel : Nat) (c : Int) (is : Bool) (lo hi : Int), k < fuel → s.Years.Low ≤ c → c + k = s.Years.High + 1 → pI s mix fuel is c lo hi = some (.go ((ry (allC s mix) k c is lo hi).1, c + k, (ry (allC s mix) k c is lo hi).2.1, (ry (allC s mix) k c is lo hi).2.2))
 | 0, fuel + 1, c, is, lo, hi, _, h0, hc => by
  simp only [pI]
  rw [decide_eq_false (by show ¬ c ≤ s.Years.High; omega)]
  simp [ry]
 | k + 1, fuel + 1, c, is, lo, hi, hf, h0, hc => by
  have hyr := hs.yrs
  have ih := fun is lo hi => T8 hs hm k fuel (c + 1) is lo hi (by omega) (by omega) (by omega)
  have g0 := vV hs hm .p0 (y := c) (by omega)
  have g1 := vV hs hm .p1 (y := c) (by omega)
  have g2 := vV hs hm .p2 (y := c) (by omega)
  simp only [P3.i] at g0 g1 g2
  have e6 : i64.wrap (c + 1) = c + 1 := cB (by omega) (by omega)
  simp only [pI]
  rw [decide_eq_true (show c ≤ s.Years.High by omega), g0]
  simp only [Option.bind_some, cond_true, g1, g2, e6, ih, ry, allC]
  rw [show c + 1 + (k : Int) = c + ((k + 1 : Nat) : Int) by omega]
  cases canB s mix .p0 c <;> cases canB s mix .p1 c <;> cases canB s mix .p2 c <;> cases is <;> rfl
 | _ , 0, _, _, _, _, hf, _, _ => by omega
theorem Oc {s : Gs} (hs : ShOk s) {mix : List Int} (hm : MixOk s mix) : Bk s mix = some ((spanY (yearsL s mix)).1, !(yearsL s mix).isEmpty) := by
 have hy := hs.yrs
 have hk : s.Years.Low + (yrsN s : Int) = s.Years.High + 1 := by unfold yrsN; omega
 have tJ : yrsN s ≤ 900 := by unfold yrsN; omega
 unfold Bk
 rw [T8 hs hm (yrsN s) 1000000 _ _ _ _ (by omega) (Int.le_refl _) hk, ry_eq]
 show aN (some (.go _)) _ _ _ = _
 simp only [aN, yearsL]
 cases yL (allC s mix) (yrsN s) s.Years.Low <;> rfl
def maxI (a b : Int) : Int := if a < b then b else a
def needI (s : Gs) (mix : List Int) : Int := maxI (maxI (maxI 0 (farI s mix .p0)) (farI s mix .p1)) (farI s mix .p2)
theorem Od {s : Gs} (hs : ShOk s) {mix : List Int} (hm : MixOk s mix) : tX s mix = some (needI s mix) := by
 have hl := hs.n
 have hn := hm.n
 have hne : (sumL mix != 0) = true := by have := hm.s; simp; omega
 have e : ∀ p, i64.wrap (Int.tdiv (i64.wrap ((i64.wrap ((if (i64.wrap ((aH s mix p).High - (i64.wrap (sumL mix * (aimP s p).Low)))) < (i64.wrap ((i64.wrap (sumL mix * (aimP s p).High)) - (aH s mix p).Low)) then (i64.wrap ((i64.wrap (sumL mix * (aimP s p).High)) - (aH s mix p).Low)) else (i64.wrap ((aH s mix p).High - (i64.wrap (sumL mix * (aimP s p).Low))))) + sumL mix)) - 1)) (sumL mix)) = farI s mix p := by
  intro p
  have h := yu hs hm p
  unfold qM at h
  rw [tS hs hm, yd hs, Eb hs hm] at h
  simp only [Option.bind_some, hne, cond_true] at h
  cases p <;> simp only [P3.i, Int.reduceBEq, cond_true, cond_false, Option.some.injEq] at h <;> exact h
 have a0 := e .p0
 have a1 := e .p1
 have a2 := e .p2
 unfold tX
 rw [Eg hs, yf hs hm, KI hm.b (by omega)]
 simp only [Option.bind_some]
 rw [show Int.toNat (3 - 0) = 3 from rfl, show boundOk 3 = true from rfl]
 simp only [tW, Int.reduceAdd, Int.reduceBEq, cond_true, cond_false, hne]
 simp only [show (sumsS s mix).a0 = aH s mix .p0 from rfl, show (sumsS s mix).a1 = aH s mix .p1 from rfl, show (sumsS s mix).a2 = aH s mix .p2 from rfl, show (aimS s).a0 = aimP s .p0 from rfl, show (aimS s).a1 = aimP s .p1 from rfl, show (aimS s).a2 = aimP s .p2 from rfl, a0, a1, a2, aN]
 rfl
theorem Oe {s : Gs} {mix : List Int} {k : Int} (hk : 0 ≤ k) : needI s mix ≤ k ↔ ∀ p, farI s mix p ≤ k := by
 have h : ∀ a b : Int, maxI a b ≤ k ↔ a ≤ k ∧ b ≤ k := by
  intro a b
  unfold maxI
  split <;> omega
 unfold needI
 rw [h, h, h]
 constructor
 ·rintro ⟨⟨⟨_, a⟩, b⟩, c⟩ p
  cases p <;> assumption
 ·intro h
  exact ⟨⟨⟨hk, h .p0⟩, h .p1⟩, h .p2⟩
theorem Of {s : Gs} (hs : ShOk s) {mix : List Int} : surelyB s mix = decide (needI s mix ≤ s.Off) := by
 rw [Bool.eq_iff_iff, decide_eq_true_eq, Oe (by have := hs.off; omega)]
 simp only [surelyB, Bool.and_eq_true, decide_eq_true_eq]
 constructor
 ·rintro ⟨a, b, c⟩ p
  cases p <;> assumption
 ·intro h
  exact ⟨h .p0, h .p1, h .p2⟩
theorem Og {s : Gs} (hs : ShOk s) {mix : List Int} (hm : MixOk s mix) : Ad s mix = some (wordI s mix) := by
 unfold Ad wordI
 rw [Od hs hm, Of hs, Oc hs hm]
 simp only [Option.bind_some]
 cases decide (needI s mix ≤ s.Off) <;> cases (yearsL s mix).isEmpty <;> rfl
end Go.V
end
