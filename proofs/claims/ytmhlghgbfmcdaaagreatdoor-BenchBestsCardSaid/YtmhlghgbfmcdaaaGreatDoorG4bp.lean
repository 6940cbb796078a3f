/- Part of a proof. -/
import Derived.Test.YtmhlghgbfmcdaaaGreatDoorG4bo
set_option linter.all false
set_option maxRecDepth 4000
set_option maxHeartbeats 40000000
section
namespace Go.V
open Go Go.Proofs
def kTab : KTab := [
  (64, [], kB),
  (22, [kB, .sl [.lit (.int .i64 (0)), .lit (.int .i64 (1)), .lit (.int .i64 (0)), .lit (.int .i64 (1))] 4 false], kEnds),
  (23, [kB, .sl [.lit (.int .i64 (0)), .lit (.int .i64 (1)), .lit (.int .i64 (0)), .lit (.int .i64 (1))] 4 false, .lit (.int .i64 (0))], kDone),
  (36, [kB, .sl [.lit (.int .i64 (0)), .lit (.int .i64 (1)), .lit (.int .i64 (0)), .lit (.int .i64 (0))] 4 false], kLate),
  (37, [kB, .sl [.lit (.int .i64 (0)), .lit (.int .i64 (1)), .lit (.int .i64 (0)), .lit (.int .i64 (1))] 4 false], kWaits),
  (42, [kB, .sl [.lit (.int .i64 (0)), .lit (.int .i64 (1)), .lit (.int .i64 (0)), .lit (.int .i64 (1))] 4 false], kChain),
  (43, [kB, .sl [.lit (.int .i64 (0)), .lit (.int .i64 (1)), .lit (.int .i64 (0)), .lit (.int .i64 (1))] 4 false, .lit (.int .i64 (0))], kSpare),
  (51, [kB], kBest),
  (52, [kB], kCount),
  (55, [kB, .lit (.int .i64 (1))], kWho),
  (56, [kB, .sl [.lit (.int .i64 (0)), .lit (.int .i64 (0)), .lit (.int .i64 (0)), .lit (.int .i64 (0))] 4 false, .lit (.int .i64 (1))], kGive),
  (60, [kB], kMore),
  (61, [kB, .lit (.int .i64 (5))], kLeast),
  (65, [.lit (.string ⟨⟨[98, 101, 110, 99, 104, 32, 48, 10, 98, 111, 97, 114, 100, 32, 48, 10, 115, 116, 114, 97, 105, 103, 104, 116, 32, 48, 32, 49, 32, 49, 32, 45, 10, 101, 110, 100, 32, 49, 55, 53, 10]⟩⟩)], kRead)]
theorem kTabOk : KTabOk Tryz.prog G0 kTab := ⟨⟨by kernel_rfl, pB⟩, ⟨⟨by kernel_rfl, pEnds⟩, ⟨⟨by kernel_rfl, pDone⟩, ⟨⟨by kernel_rfl, pLate⟩, ⟨⟨by kernel_rfl, pWaits⟩, ⟨⟨by kernel_rfl, pChain⟩, ⟨⟨by kernel_rfl, pSpare⟩, ⟨⟨by kernel_rfl, pBest⟩, ⟨⟨by kernel_rfl, pCount⟩, ⟨⟨by kernel_rfl, pWho⟩, ⟨⟨by kernel_rfl, pGive⟩, ⟨⟨by kernel_rfl, pMore⟩, ⟨⟨by kernel_rfl, pLeast⟩, ⟨⟨by kernel_rfl, pRead⟩, trivial⟩⟩⟩⟩⟩⟩⟩⟩⟩⟩⟩⟩⟩⟩
theorem pKnown : aj Tryz.prog G0 20 [] (.tree (.lit (.bool true))) := aj.closedF (fs := []) hmix kTabOk 1000 (by kernel_rfl)
#print axioms pKnown
theorem xS : aj Tryz.prog G0 20 [] (.tree (.lit (.bool true))) := pKnown
def vL (an : GBk) : Option (Bool) := Option.bind (pJ an) (fun r1 => cond (r1) (Option.bind (n5 an) (fun r2 => Option.bind (nC an) (fun r3 => Option.bind (rn an) (fun r4 => cond (r4) (Option.bind (rp an) (fun r5 => cond (r2.2.2 == 0) (Option.bind (getI r5 0) (fun x6 => Option.bind (rq r2.1 x6) (fun r7 => cond (r7) (Option.bind (pK an x6) (fun r8 => cond (r2.2.1 == r8) (cond (r3.2 == 0) (cond (r3.1 == (List.length r5 : Int)) (some true) (some false)) (some false)) (some false))) (some false)))) (some false))) (cond (r2.2.2 == 2) (cond ((List.length r2.1 : Int) == 0) (cond (r2.2.1 == 0) (cond (r3.2 == 2) (cond (r3.1 == 0) (some true) (some false)) (some false)) (some false)) (some false)) (some false)))))) (some true))
theorem Nj (an : GBk) (R : Bool) (h : vL an = some R) : aj Tryz.prog G0 10 [.agg (cGBk an)] (.tree (.lit (.bool R))) := by
 refine aj.runRQ mixed Tryz.call10 Tryz.func10 rfl (by simp [Tryz.ntmps10]; kernel_rfl) ?_
 obtain ⟨KF, h, kF, kN⟩ := cT h
 simp only [vL] at h
 obtain ⟨r9, fP, h⟩ := optI h kN
 try simp only [hs] at h
 simp only [vz, tyf, nm, seval]
 refine ktA (Nk _ _ fP) ?_
 refine bY (fun tm => tm 1 = .ptr 0 0 ∧ tm 10 = .lit (.bool r9) ∧ True) (by refine ⟨?_, ?_, trivial⟩ <;> first | (simp only [ua, nm, seval] <;> rfl) | rfl) ?_
 rintro tm ⟨bM, bB, _⟩
 cases bQ : (r9)
 ·simp only [bQ, hs] at h
  simp only [vz, tyf, bM, bB, bQ, nm, seval]
  refine ktree0 xS ?_
  try simp only [vz, tyf, bM, bB, bQ, nm, seval]
  obtain rfl := kF _ h
  exact bx Tryz.results10 rfl
 simp only [bQ, hs] at h
 obtain ⟨cZ, kV, h⟩ := optI h kN
 try simp only [hs] at h
 simp only [vz, tyf, bM, bB, bQ, nm, seval]
 refine ktA (Nl _ _ kV) ?_
 refine bY (fun tm => tm 1 = .ptr 0 0 ∧ tm 15 = .tup [.sl (ae eI cZ.1) (List.length cZ.1) false, .lit (.int .i64 cZ.2.1), .lit (.int .i64 cZ.2.2)] ∧ True) (by refine ⟨bM, ?_, trivial⟩ <;> first | (simp only [ua, bM, bB, bQ, nm, seval] <;> rfl) | rfl) ?_
 rintro tm ⟨bz, bT, _⟩
 obtain ⟨gW, lX, h⟩ := optI h kN
 try simp only [hs] at h
 simp only [vz, tyf, bQ, bz, bT, nm, seval]
 refine ktA (Nm _ _ lX) ?_
 refine bY (fun tm => tm 1 = .ptr 0 0 ∧ tm 3 = .sl (ae eI cZ.1) (List.length cZ.1) false ∧ tm 4 = .lit (.int .i64 cZ.2.1) ∧ tm 5 = .lit (.int .i64 cZ.2.2) ∧ tm 21 = .tup [.lit (.int .i64 gW.1), .lit (.int .i64 gW.2)] ∧ True) (by refine ⟨bz, ?_, ?_, ?_, ?_, trivial⟩ <;> first | (simp only [ua, bQ, bz, bT, nm, seval] <;> rfl) | rfl) ?_
 rintro tm ⟨fa, gi, gX, eE, hZ, _⟩
 obtain ⟨i5, jf, h⟩ := optI h kN
 try simp only [hs] at h
 simp only [vz, tyf, bQ, fa, gi, gX, eE, hZ, nm, seval]
 refine ktA (Nn _ _ jf) ?_
 refine bY (fun tm => tm 1 = .ptr 0 0 ∧ tm 3 = .sl (ae eI cZ.1) (List.length cZ.1) false ∧ tm 4 = .lit (.int .i64 cZ.2.1) ∧ tm 5 = .lit (.int .i64 cZ.2.2) ∧ tm 6 = .lit (.int .i64 gW.1) ∧ tm 7 = .lit (.int .i64 gW.2) ∧ tm 25 = .lit (.bool i5) ∧ True) (by refine ⟨fa, gi, gX, eE, ?_, ?_, ?_, trivial⟩ <;> first | (simp only [ua, bQ, fa, gi, gX, eE, hZ, nm, seval] <;> rfl) | rfl) ?_
 rintro tm ⟨bJ, dt, da, cF, cz, du, bC, _⟩
 cases fk : (i5)
 ·simp only [fk, hs] at h
  cases lY : (cZ.2.2 == 2)
  ·simp only [lY, hs] at h
   try simp only [vz, tyf, bQ, bJ, dt, da, cF, cz, du, bC, fk, lY, nm, seval]
   obtain rfl := kF _ h
   exact bx Tryz.results10 rfl
  simp only [lY, hs] at h
  cases kl : ((List.length cZ.1 : Int) == 0)
  ·simp only [kl, hs] at h
   try simp only [vz, tyf, bQ, bJ, dt, da, cF, cz, du, bC, fk, lY, kl, nm, seval]
   obtain rfl := kF _ h
   exact bx Tryz.results10 rfl
  simp only [kl, hs] at h
  cases fl : (cZ.2.1 == 0)
  ·simp only [fl, hs] at h
   try simp only [vz, tyf, bQ, bJ, dt, da, cF, cz, du, bC, fk, lY, kl, fl, nm, seval]
   obtain rfl := kF _ h
   exact bx Tryz.results10 rfl
  simp only [fl, hs] at h
  cases nD : (gW.2 == 2)
  ·simp only [nD, hs] at h
   try simp only [vz, tyf, bQ, bJ, dt, da, cF, cz, du, bC, fk, lY, kl, fl, nD, nm, seval]
   obtain rfl := kF _ h
   exact bx Tryz.results10 rfl
  simp only [nD, hs] at h
  cases cG : (gW.1 == 0)
  ·simp only [cG, hs] at h
   have No := And.intro bQ (And.intro fk (And.intro lY (And.intro kl (And.intro fl (And.intro nD cG)))))
   try simp only [vz, tyf, No, bJ, dt, da, cF, cz, du, bC, nm, seval]
   obtain rfl := kF _ h
   exact bx Tryz.results10 rfl
  simp only [cG, hs] at h
  have J6 := And.intro bQ (And.intro fk (And.intro lY (And.intro kl (And.intro fl (And.intro nD cG)))))
  simp only [vz, tyf, J6, bJ, dt, da, cF, cz, du, bC, nm, seval]
  refine ktree0 xS ?_
  try simp only [vz, tyf, J6, bJ, dt, da, cF, cz, du, bC, nm, seval]
  obtain rfl := kF _ h
  exact bx Tryz.results10 rfl
 simp only [fk, hs] at h
 obtain ⟨kW, Np, h⟩ := optI h kN
 try simp only [hs] at h
 simp only [vz, tyf, bQ, bJ, dt, da, cF, cz, du, bC, fk, nm, seval]
 refine ktA (Nq _ _ Np) ?_
 refine bY (fun tm => tm 1 = .ptr 0 0 ∧ tm 3 = .sl (ae eI cZ.1) (List.length cZ.1) false ∧ tm 4 = .lit (.int .i64 cZ.2.1) ∧ tm 5 = .lit (.int .i64 cZ.2.2) ∧ tm 6 = .lit (.int .i64 gW.1) ∧ tm 7 = .lit (.int .i64 gW.2) ∧ tm 50 = .sl (ae (eSl eI) kW) (List.length kW) false ∧ True) (by refine ⟨bJ, dt, da, cF, cz, du, ?_, trivial⟩ <;> first | (simp only [ua, bQ, bJ, dt, da, cF, cz, du, bC, fk, nm, seval] <;> rfl) | rfl) ?_
 rintro tm ⟨cR, di, eF, dv, cS, f8, i6, _⟩
 simp only [vz, tyf, bQ, fk, cR, di, eF, dv, cS, f8, i6, nm, seval]
 refine km (fun tm => tm 1 = .ptr 0 0 ∧ tm 3 = .sl (ae eI cZ.1) (List.length cZ.1) false ∧ tm 4 = .lit (.int .i64 cZ.2.1) ∧ tm 5 = .lit (.int .i64 cZ.2.2) ∧ tm 6 = .lit (.int .i64 gW.1) ∧ tm 7 = .lit (.int .i64 gW.2) ∧ tm 8 = .sl (ae (eSl eI) kW) (List.length kW) false ∧ True) (by refine ⟨cR, di, eF, dv, cS, f8, ?_, trivial⟩ <;> first | (simp only [ua, bQ, fk, cR, di, eF, dv, cS, f8, i6, nm, seval] <;> rfl) | rfl) ?_
 rintro tm ⟨fQ, jy, jg, jz, lZ, vM, kX, _⟩
 cases jh : (cZ.2.2 == 0)
 ·simp only [jh, hs] at h
  try simp only [vz, tyf, bQ, fk, fQ, jy, jg, jz, lZ, vM, kX, jh, nm, seval]
  obtain rfl := kF _ h
  exact bx Tryz.results10 rfl
 simp only [jh, hs] at h
 obtain ⟨S6, ma, h⟩ := optI h kN
 try simp only [hs] at h
 obtain ⟨J7, Nr, h⟩ := optI h kN
 try simp only [hs] at h
 simp only [vz, tyf, bQ, fk, fQ, jy, jg, jz, lZ, vM, kX, jh, (bj ma), nm, seval]
 refine dktA (Ns _ _ _ Nr) ?_
 refine bY (fun tm => tm 1 = .ptr 0 0 ∧ tm 4 = .lit (.int .i64 cZ.2.1) ∧ tm 6 = .lit (.int .i64 gW.1) ∧ tm 7 = .lit (.int .i64 gW.2) ∧ tm 8 = .sl (ae (eSl eI) kW) (List.length kW) false ∧ tm 53 = .lit (.bool true) ∧ tm 58 = .lit (.bool J7) ∧ True) (by refine ⟨fQ, jg, lZ, vM, kX, ?_, ?_, trivial⟩ <;> first | (simp only [ua, bQ, fk, fQ, jy, jg, jz, lZ, vM, kX, jh, nm, seval] <;> rfl) | rfl) ?_
 rintro tm ⟨fm, xT, vN, kn, ko, kY, kZ, _⟩
 cases fR : (J7)
 ·simp only [fR, hs] at h
  try simp only [vz, tyf, bQ, fk, jh, (bj ma), fm, xT, vN, kn, ko, kY, kZ, fR, nm, seval]
  obtain rfl := kF _ h
  exact bx Tryz.results10 rfl
 simp only [fR, hs] at h
 obtain ⟨J8, Nt, h⟩ := optI h kN
 try simp only [hs] at h
 simp only [vz, tyf, bQ, fk, jh, (bj ma), fm, xT, vN, kn, ko, kY, kZ, fR, nm, seval]
 refine dktA (xU _ _ _ Nt) ?_
 refine bY (fun tm => tm 6 = .lit (.int .i64 gW.1) ∧ tm 7 = .lit (.int .i64 gW.2) ∧ tm 8 = .sl (ae (eSl eI) kW) (List.length kW) false ∧ tm 60 = .lit (.bool true) ∧ tm 61 = .lit (.int .i64 cZ.2.1) ∧ tm 66 = .lit (.int .i64 J8) ∧ True) (by refine ⟨vN, kn, ko, ?_, ?_, ?_, trivial⟩ <;> first | (simp only [ua, bQ, fk, jh, fm, xT, vN, kn, ko, kY, kZ, fR, nm, seval] <;> rfl) | rfl) ?_
 rintro tm ⟨ru, rv, ry, rz, rA, rB, _⟩
 cases pL : (cZ.2.1 == J8)
 ·simp only [pL, hs] at h
  try simp only [vz, tyf, bQ, fk, jh, (bj ma), fR, ru, rv, ry, rz, rA, rB, pL, nm, seval]
  obtain rfl := kF _ h
  exact bx Tryz.results10 rfl
 simp only [pL, hs] at h
 cases rC : (gW.2 == 0)
 ·simp only [rC, hs] at h
  try simp only [vz, tyf, bQ, fk, jh, (bj ma), fR, ru, rv, ry, rz, rA, rB, pL, rC, nm, seval]
  obtain rfl := kF _ h
  exact bx Tryz.results10 rfl
 simp only [rC, hs] at h
 cases vO : (gW.1 == (List.length kW : Int))
 ·simp only [vO, hs] at h
  have Nu := And.intro bQ (And.intro fk (And.intro jh (And.intro fR (And.intro pL (And.intro rC vO)))))
  try simp only [vz, tyf, Nu, (bj ma), ru, rv, ry, rz, rA, rB, nm, seval]
  obtain rfl := kF _ h
  exact bx Tryz.results10 rfl
 simp only [vO, hs] at h
 have J9 := And.intro bQ (And.intro fk (And.intro jh (And.intro fR (And.intro pL (And.intro rC vO)))))
 simp only [vz, tyf, J9, (bj ma), ru, rv, ry, rz, rA, rB, nm, seval]
 refine dktree0 xS ?_
 try simp only [vz, tyf, J9, (bj ma), ru, rv, ry, rz, rA, rB, nm, seval]
 obtain rfl := kF _ h
 exact bx Tryz.results10 rfl
theorem Nv (b : GBk) (hb : aK b.Boards = true ∧ aK b.Strokes = true ∧ ∀ y ∈ b.Strokes, aK y.Needs = true) : vL b = some true := by
 have hL := Len.of hb
 unfold vL
 rcases Nw hL with e | e
 ·rw [e]; rfl
 simp only [e, Option.bind_some, cond_true, xV hL]
 cases hBb : benchB b with
 | false =>
  have e1 : n5 b = some ([], 0, 2) := by unfold n5; rw [vP hL, hBb]; rfl
  have e2 : nC b = some (0, 2) := by unfold nC; rw [vP hL, hBb]; rfl
  rw [e1, e2]; rfl
 | true =>
  have hB := vQ.1 hBb
  have hA := hB.ap
  obtain ⟨R, hR⟩ := xW b b.Apprentices
  have eB := xX hL hB hA.1 hA.2 hR
  rw [xY] at eB
  obtain ⟨L, x1, x2, x3⟩ := xZ hL hB hR
  have hRl := (rD hB).1 R hR.2.1
  have hp := JA hB hA.1 hA.2
  rw [xY] at hp
  have eQ := hR.1
  rw [xY] at eQ
  have eC : nC b = some (((R :: L).length : Int), 0) := by
   unfold nC
   rw [vP hL, hBb, Option.bind_some, cond_true, cond_true, hp, Option.bind_some, eQ, Option.bind_some]
   have : whL b (TK b R) (LA b b.Apprentices) = R :: L := x2.symm
   rw [this, decide_eq_true (by omega)]; rfl
  have hn := hB.ns
  rw [eB, eC]
  simp only [Option.bind_some, cond_true, x1, show getI (R :: L) 0 = some R from rfl, beq_self_eq_true, ya hL hB hRl, sameI (show R.length ≤ 1000 by omega)]
end Go.V
end
