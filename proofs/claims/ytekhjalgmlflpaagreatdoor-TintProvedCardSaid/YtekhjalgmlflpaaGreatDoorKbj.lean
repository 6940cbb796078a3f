/- Part of a proof. -/
import Derived.Test.YtekhjalgmlflpaaGreatDoorKbi
set_option linter.all false
set_option maxRecDepth 4000
set_option maxHeartbeats 40000000
section
namespace Go.V
open Go Go.Proofs IntKind
def qx (ah : Gm) (r1 : Ga) : Nat → Int → (List (Gf × Bool)) → Option (LOut (List (Gf × Bool)) (Int × (List (Gf × Bool))))
 | 0, _, _ => none
 | k2 + 1, ko, uq => cond (decide (ko ≤ ah.sh.Years.High)) (Option.bind (wo ah ko 2 r1.a2) (fun r7 => qx ah r1 k2 (i64.wrap (ko + 1)) (mapSet cK uq (Gf.mk 2 ko) r7))) (some (.go (ko, uq)))
def qy (ah : Gm) (r1 : Ga) : Nat → Int → (List (Gf × Bool)) → Option (LOut (List (Gf × Bool)) (Int × (List (Gf × Bool))))
 | 0, _, _ => none
 | k1 + 1, kq, ur => cond (decide (kq ≤ ah.sh.Years.High)) (Option.bind (wo ah kq 1 r1.a1) (fun r5 => qy ah r1 k1 (i64.wrap (kq + 1)) (mapSet cK ur (Gf.mk 1 kq) r5))) (some (.go (kq, ur)))
def qz (ah : Gm) (r1 : Ga) : Nat → Int → (List (Gf × Bool)) → Option (LOut (List (Gf × Bool)) (Int × (List (Gf × Bool))))
 | 0, _, _ => none
 | k0 + 1, eM, eR => cond (decide (eM ≤ ah.sh.Years.High)) (Option.bind (wo ah eM 0 r1.a0) (fun r3 => qz ah r1 k0 (i64.wrap (eM + 1)) (mapSet cK eR (Gf.mk 0 eM) r3))) (some (.go (eM, eR)))
def Dm (ah : Gm) : Option (List (Gf × Bool)) := Option.bind (zW ah) (fun r1 => aK (qz ah r1 1000000 ah.sh.Years.Low ([] : List (Gf × Bool))) (fun dW => some dW) (fun c4 => aK (qy ah r1 1000000 ah.sh.Years.Low c4.2) (fun dA => some dA) (fun c6 => aK (qx ah r1 1000000 ah.sh.Years.Low c6.2) (fun r9 => some r9) (fun c8 => some c8.2) (fun _ _ => none)) (fun _ _ => none)) (fun _ _ => none))
theorem zjv (ah : Gm) (R : List (Gf × Bool)) (h : Dm ah = some R) : ad Tryz.prog G0 103 [.agg (cGm ah)] (.tree (.mt (mtK cZ R) (mtV qj R))) := by
 refine ad.runM mixed Tryz.call103 Tryz.func103 rfl (by simp [Tryz.ntmps103]; kernel_rfl) ?_
 obtain ⟨KF, h, kF, kN⟩ := cQ h
 simp only [Dm] at h
 obtain ⟨iJ, kL, h⟩ := optI h kN
 try simp only [hs] at h
 simp only [vz, mq, mqm, tyf, mqt, nm, seval]
 refine ktree (args0 := [.agg (cGm ah)]) (by first | (simp only [nrm, av, mqr] <;> rfl) | rfl) (by simp only [tre, au, mqr, Bool.and_self]) (WD _ _ kL) ?_
 refine aV (fun tm => tm 1 = .ptr 0 0 ∧ tm 3 = .mp 2 ∧ tm 9 = .agg (cGa iJ) ∧ True) (by refine ⟨?_, ?_, ?_, trivial⟩ <;> first | (simp only [ua, je, nm, seval] <;> rfl) | rfl) ?_
 rintro tm ⟨bg, bK, bw, _⟩
 simp only [vz, mq, mqm, tyf, mqt, bg, bK, bw, nm, seval]
 refine pv mixed (by kernel_rfl) 4 ?_
 simp only [vz, mq, mqm, tyf, mqt, bg, bK, bw, nm, seval]
 obtain ⟨K17, h, kR17, Qc, kB17, Dn⟩ := eO h kN
 obtain ⟨f17, Qd, h⟩ := call3 h
 obtain ⟨I17, wT⟩ : ∃ I : Nat → St → Prop, I = (fun m st => ∃ (wU : Nat) (ga : Int) (iA : List (Gf × Bool)), wU = m ∧ st.df = [] ∧ 18 ≤ st.nx ∧ st.H 0 = some (.cells (some 89) (cGm ah)) ∧ st.H 2 = some (.map (encM cZ qj iA)) ∧ st.H 10 = some (.cells (some 24) (aF iJ.a0)) ∧ st.tm 1 = .ptr 0 0 ∧ st.tm 3 = .mp 2 ∧ st.tm 4 = .lit (.int .i64 0) ∧ st.tm 5 = .ptr 10 0 ∧ st.tm 9 = .agg (cGa iJ) ∧ st.tm 10 = .lit (.int .i64 0) ∧ st.tm 6 = .lit (.int .i64 ga) ∧ K17 (f17 wU ga iA)) := ⟨_, rfl⟩
 refine loopK mixed (by kernel_rfl) I17 1000000 (by rw [wT]; refine ⟨1000000, ah.sh.Years.Low, ([] : List (Gf × Bool)), rfl, rfl, (show 18 ≤ 18 by omega), ?_, ?_, ?_, bg, bK, ?_, ?_, bw, ?_, ?_, h⟩ <;> first | (simp only [ua, je, bg, bK, bw, nm, seval] <;> rfl) | rfl) ?_
 rintro m ⟨tm, H, js, df⟩ hinv
 rw [wT] at hinv
 obtain ⟨wU, ga, iA, rfl, hdf, Qe, mm, mn, wV, bJ, bR, bz, cS, cq, da, cn, h⟩ := hinv
 simp only at hdf Qe mm mn wV bJ bR bz cS cq da cn
 have uu := eN (m := 18) (b := js) (by omega)
 subst hdf Qd
 cases wU with
 | zero =>
  simp only [qz, qy, qx, hs, reduceCtorEq] at h
  exact absurd h Dn
 | succ wU =>
  simp only [qz, qy, qx, hs, reduceCtorEq] at h
  cases iB : (decide (ga ≤ ah.sh.Years.High))
  ·simp only [iB, hs] at h
   replace h := Qc _ h
   try dsimp only at h
   try simp only [hs] at h
   simp only [vz, mq, mqm, tyf, mqt, uu, bJ, bR, bz, cS, cq, da, cn, mm, mn, wV, iB, nm, seval]
   obtain ⟨K30, h, kR30, Qf, kB30, Dp⟩ := eO h kN
   obtain ⟨f30, Qg, h⟩ := call3 h
   obtain ⟨I30, wW⟩ : ∃ I : Nat → St → Prop, I = (fun m st => ∃ (wX : Nat) (gb : Int) (iC : List (Gf × Bool)), wX = m ∧ st.df = [] ∧ js + 19 ≤ st.nx ∧ st.H 0 = some (.cells (some 89) (cGm ah)) ∧ st.H 2 = some (.map (encM cZ qj iC)) ∧ st.H (js + 11) = some (.cells (some 24) (aF iJ.a1)) ∧ st.tm 1 = .ptr 0 0 ∧ st.tm 3 = .mp 2 ∧ st.tm 4 = .lit (.int .i64 1) ∧ st.tm 5 = .ptr (js + 11) 0 ∧ st.tm 9 = .agg (cGa iJ) ∧ st.tm 10 = .lit (.int .i64 1) ∧ st.tm 6 = .lit (.int .i64 gb) ∧ K30 (f30 wX gb iC)) := ⟨_, rfl⟩
   refine loopK mixed (by kernel_rfl) I30 1000000 (by rw [wW]; refine ⟨1000000, ah.sh.Years.Low, iA, rfl, rfl, (show js + 19 ≤ js + 19 by omega), ?_, ?_, ?_, bJ, bR, ?_, ?_, cq, ?_, ?_, h⟩ <;> first | (simp only [ua, je, uu, bJ, bR, bz, cS, cq, da, cn, mm, mn, wV, iB, nm, seval] <;> rfl) | rfl) ?_
   rintro m ⟨tm, H, jt, df⟩ hinv
   rw [wW] at hinv
   obtain ⟨wX, gb, iC, rfl, hdf, Qh, Qi, Qj, rH, fF, gk, eh, fy, cY, di, dp, h⟩ := hinv
   simp only at hdf Qh Qi Qj rH fF gk eh fy cY di dp
   have WT := eN (m := 18) (b := jt) (by omega)
   have WU := oM (a := js) (m := 19) (b := jt) (by omega)
   subst hdf Qg
   cases wX with
   | zero =>
    simp only [qz, qy, qx, hs, reduceCtorEq] at h
    exact absurd h Dp
   | succ wX =>
    simp only [qz, qy, qx, hs, reduceCtorEq] at h
    cases dg : (decide (gb ≤ ah.sh.Years.High))
    ·simp only [dg, hs] at h
     have GF := And.intro uu (And.intro iB (And.intro WT (And.intro WU (And.intro Qi (And.intro Qj (And.intro rH dg))))))
     replace h := Qf _ h
     try dsimp only at h
     try simp only [hs] at h
     simp only [vz, mq, mqm, tyf, mqt, GF, fF, gk, eh, fy, cY, di, dp, nm, seval]
     obtain ⟨K45, h, kR45, Qk, kB45, Dq⟩ := eO h kN
     obtain ⟨f45, Ql, h⟩ := call3 h
     obtain ⟨I45, wY⟩ : ∃ I : Nat → St → Prop, I = (fun m st => ∃ (wZ : Nat) (gf : Int) (ju : List (Gf × Bool)), wZ = m ∧ st.df = [] ∧ jt + 19 ≤ st.nx ∧ st.H 0 = some (.cells (some 89) (cGm ah)) ∧ st.H 2 = some (.map (encM cZ qj ju)) ∧ st.H (jt + 11) = some (.cells (some 24) (aF iJ.a2)) ∧ st.tm 1 = .ptr 0 0 ∧ st.tm 3 = .mp 2 ∧ st.tm 4 = .lit (.int .i64 2) ∧ st.tm 5 = .ptr (jt + 11) 0 ∧ st.tm 9 = .agg (cGa iJ) ∧ st.tm 10 = .lit (.int .i64 2) ∧ st.tm 6 = .lit (.int .i64 gf) ∧ K45 (f45 wZ gf ju)) := ⟨_, rfl⟩
     refine loopK mixed (by kernel_rfl) I45 1000000 (by rw [wY]; refine ⟨1000000, ah.sh.Years.Low, iC, rfl, rfl, (show jt + 19 ≤ jt + 19 by omega), ?_, ?_, ?_, fF, gk, ?_, ?_, cY, ?_, ?_, h⟩ <;> first | (simp only [ua, je, GF, fF, gk, eh, fy, cY, di, dp, nm, seval] <;> rfl) | rfl) ?_
     rintro m ⟨tm, H, tg, df⟩ hinv
     rw [wY] at hinv
     obtain ⟨wZ, gf, ju, rfl, hdf, Qm, Qn, rv, ry, ed, dj, eu, en, eU, ff, gO, h⟩ := hinv
     simp only at hdf Qm Qn rv ry ed dj eu en eU ff gO
     have WV := eN (m := 18) (b := tg) (by omega)
     have WW := oM (a := js) (m := 19) (b := tg) (by omega)
     have WX := oM (a := jt) (m := 19) (b := tg) (by omega)
     subst hdf Ql
     cases wZ with
     | zero =>
      simp only [qz, qy, qx, hs, reduceCtorEq] at h
      exact absurd h Dq
     | succ wZ =>
      simp only [qz, qy, qx, hs, reduceCtorEq] at h
      cases nh : (decide (gf ≤ ah.sh.Years.High))
      ·simp only [nh, hs] at h
       have Qo := And.intro GF (And.intro WV (And.intro WW (And.intro WX (And.intro Qn (And.intro rv (And.intro ry nh))))))
       replace h := Qk _ h
       try dsimp only at h
       try simp only [hs] at h
       try simp only [vz, mq, mqm, tyf, mqt, Qo, ed, dj, eu, en, eU, ff, gO, nm, seval]
       refine bP (x := (.mp 2)) (by first | (simp only [Tryz.results103, resV, resL, ar, bV, bU, uw, cr, tyf, mqt, Qo, nm, seval] <;> rfl) | rfl) ?_
       obtain rfl := kF _ h
       refine O1 et4 ?_
       ·simp only [uw, je, cr, tyf, mqt, Qo, ed, dj, eu, en, eU, ff, gO, nm, seval] <;> rfl
      simp only [nh, hs] at h
      have GG := And.intro GF (And.intro WV (And.intro WW (And.intro WX (And.intro Qn (And.intro rv (And.intro ry nh))))))
      obtain ⟨Qq, o63, h⟩ := optI h Dq
      try simp only [hs] at h
      simp only [vz, mq, mqm, tyf, mqt, GG, ed, dj, eu, en, eU, ff, gO, nm, seval]
      refine ktree (args0 := [.agg (cGm ah), .lit (.int .i64 gf), .lit (.int .i64 2), .agg (aF iJ.a2)]) (by first | (simp only [nrm, av, mqr] <;> rfl) | rfl) (by simp only [tre, au, mqr, Bool.and_self]) (OA _ _ _ _ _ o63) ?_
      refine aV (fun tm => tm 1 = .ptr 0 0 ∧ tm 3 = .mp 2 ∧ tm 4 = .lit (.int .i64 2) ∧ tm 5 = .ptr (jt + 11) 0 ∧ tm 6 = .lit (.int .i64 gf) ∧ tm 9 = .agg (cGa iJ) ∧ tm 10 = .lit (.int .i64 2) ∧ tm 26 = .mp 2 ∧ tm 29 = .agg ([.lit (.int .i64 2)] ++ [.lit (.int .i64 gf)]) ∧ tm 34 = .lit (.bool Qq) ∧ True) (by refine ⟨ed, dj, eu, en, gO, eU, ff, ?_, ?_, ?_, trivial⟩ <;> first | (simp only [ua, je, GG, ed, dj, eu, en, eU, ff, gO, nm, seval] <;> rfl) | rfl) ?_
      rintro tm ⟨gE, gI, gY, gD, iY, gm, eQ, fj, eG, fN, _⟩
      have vi := fun H => qk (β := 2) ju (Gf.mk 2 gf) Qq H
      try simp only [je] at vi
      simp only [vz, mq, mqm, tyf, mqt, GG, gE, gI, gY, gD, iY, gm, eQ, fj, eG, fN, vi, nm, seval]
      exact ⟨wZ, Nat.lt_succ_self _, by rw [wY]; refine ⟨wZ, i64.wrap (gf + 1), (mapSet cK ju (Gf.mk 2 gf) Qq), rfl, rfl, (show jt + 19 ≤ tg + 19 by omega), ?_, ?_, ?_, gE, gI, gY, gD, gm, eQ, ?_, h⟩ <;> first | (simp only [ua, je, GG, gE, gI, gY, gD, iY, gm, eQ, fj, eG, fN, vi, nm, seval] <;> rfl) | rfl⟩
    simp only [dg, hs] at h
    have GH := And.intro uu (And.intro iB (And.intro WT (And.intro WU (And.intro Qi (And.intro Qj (And.intro rH dg))))))
    obtain ⟨zt, Ns, h⟩ := optI h Dp
    try simp only [hs] at h
    simp only [vz, mq, mqm, tyf, mqt, GH, fF, gk, eh, fy, cY, di, dp, nm, seval]
    refine ktree (args0 := [.agg (cGm ah), .lit (.int .i64 gb), .lit (.int .i64 1), .agg (aF iJ.a1)]) (by first | (simp only [nrm, av, mqr] <;> rfl) | rfl) (by simp only [tre, au, mqr, Bool.and_self]) (OA _ _ _ _ _ Ns) ?_
    refine aV (fun tm => tm 1 = .ptr 0 0 ∧ tm 3 = .mp 2 ∧ tm 4 = .lit (.int .i64 1) ∧ tm 5 = .ptr (js + 11) 0 ∧ tm 6 = .lit (.int .i64 gb) ∧ tm 9 = .agg (cGa iJ) ∧ tm 10 = .lit (.int .i64 1) ∧ tm 26 = .mp 2 ∧ tm 29 = .agg ([.lit (.int .i64 1)] ++ [.lit (.int .i64 gb)]) ∧ tm 34 = .lit (.bool zt) ∧ True) (by refine ⟨fF, gk, eh, fy, dp, cY, di, ?_, ?_, ?_, trivial⟩ <;> first | (simp only [ua, je, GH, fF, gk, eh, fy, cY, di, dp, nm, seval] <;> rfl) | rfl) ?_
    rintro tm ⟨iN, iO, jb, jP, mo, nd, il, jl, fH, hY, _⟩
    have Qr := fun H => qk (β := 2) iC (Gf.mk 1 gb) zt H
    try simp only [je] at Qr
    simp only [vz, mq, mqm, tyf, mqt, GH, iN, iO, jb, jP, mo, nd, il, jl, fH, hY, Qr, nm, seval]
    exact ⟨wX, Nat.lt_succ_self _, by rw [wW]; refine ⟨wX, i64.wrap (gb + 1), (mapSet cK iC (Gf.mk 1 gb) zt), rfl, rfl, (show js + 19 ≤ jt + 19 by omega), ?_, ?_, ?_, iN, iO, jb, jP, nd, il, ?_, h⟩ <;> first | (simp only [ua, je, GH, iN, iO, jb, jP, mo, nd, il, jl, fH, hY, Qr, nm, seval] <;> rfl) | rfl⟩
  simp only [iB, hs] at h
  obtain ⟨Qs, o90, h⟩ := optI h Dn
  try simp only [hs] at h
  simp only [vz, mq, mqm, tyf, mqt, uu, bJ, bR, bz, cS, cq, da, cn, mm, mn, wV, iB, nm, seval]
  refine ktree (args0 := [.agg (cGm ah), .lit (.int .i64 ga), .lit (.int .i64 0), .agg (aF iJ.a0)]) (by first | (simp only [nrm, av, mqr] <;> rfl) | rfl) (by simp only [tre, au, mqr, Bool.and_self]) (OA _ _ _ _ _ o90) ?_
  refine aV (fun tm => tm 1 = .ptr 0 0 ∧ tm 3 = .mp 2 ∧ tm 4 = .lit (.int .i64 0) ∧ tm 5 = .ptr 10 0 ∧ tm 6 = .lit (.int .i64 ga) ∧ tm 9 = .agg (cGa iJ) ∧ tm 10 = .lit (.int .i64 0) ∧ tm 26 = .mp 2 ∧ tm 29 = .agg ([.lit (.int .i64 0)] ++ [.lit (.int .i64 ga)]) ∧ tm 34 = .lit (.bool Qs) ∧ True) (by refine ⟨bJ, bR, bz, cS, cn, cq, da, ?_, ?_, ?_, trivial⟩ <;> first | (simp only [ua, je, uu, bJ, bR, bz, cS, cq, da, cn, mm, mn, wV, iB, nm, seval] <;> rfl) | rfl) ?_
  rintro tm ⟨lj, kR, iP, kl, kS, mT, tQ, Aa, WY, jB, _⟩
  have mj := fun H => qk (β := 2) iA (Gf.mk 0 ga) Qs H
  try simp only [je] at mj
  simp only [vz, mq, mqm, tyf, mqt, uu, mm, mn, wV, iB, lj, kR, iP, kl, kS, mT, tQ, Aa, WY, jB, mj, nm, seval]
  exact ⟨wU, Nat.lt_succ_self _, by rw [wT]; refine ⟨wU, i64.wrap (ga + 1), (mapSet cK iA (Gf.mk 0 ga) Qs), rfl, rfl, (show 18 ≤ js + 19 by omega), ?_, ?_, ?_, lj, kR, iP, kl, mT, tQ, ?_, h⟩ <;> first | (simp only [ua, je, uu, mm, mn, wV, iB, lj, kR, iP, kl, kS, mT, tQ, Aa, WY, jB, mj, nm, seval] <;> rfl) | rfl⟩
def pf (ah : Gm) (r1 : List (Gf × Bool)) : Nat → (List Int) → Int → Option (LOut (List Int) ((List Int) × Int))
 | 0, _, _ => none
 | k0 + 1, cj, bx => cond (decide (bx ≤ ah.sh.Years.High)) (cond (mapGet cK false r1 (Gf.mk 0 bx)) (cond (mapGet cK false r1 (Gf.mk 1 bx)) (cond (mapGet cK false r1 (Gf.mk 2 bx)) (cond (roomOk 8 (List.length (cj ++ [bx]))) (pf ah r1 k0 (cj ++ [bx]) (i64.wrap (bx + 1))) none) (pf ah r1 k0 cj (i64.wrap (bx + 1)))) (pf ah r1 k0 cj (i64.wrap (bx + 1)))) (pf ah r1 k0 cj (i64.wrap (bx + 1)))) (some (.go (cj, bx)))
def Dr (ah : Gm) : Option (List Int) := Option.bind (Dm ah) (fun r1 => aK (pf ah r1 1000000 ([] : List Int) ah.sh.Years.Low) (fun r3 => some r3) (fun c2 => some c2.1) (fun _ _ => none))
theorem zld (ah : Gm) (R : List Int) (h : Dr ah = some R) : ad Tryz.prog G0 70 [.agg (cGm ah)] (.tree (.sl (aa eI R) (List.length R) false)) := by
 refine ad.runR mixed Tryz.call70 Tryz.func70 rfl (by simp [Tryz.ntmps70]; kernel_rfl) ?_
 obtain ⟨KF, h, kF, kN⟩ := cQ h
 simp only [Dr] at h
 simp only [vz, mq, mqm, tyf, mqt, nm, seval]
 refine UR mixed (by kernel_rfl) ?_
 obtain ⟨r4, o5, h⟩ := optI h kN
 try simp only [hs] at h
 simp only [vz, mq, mqm, tyf, mqt, nm, seval]
 refine ktree (args0 := [.agg (cGm ah)]) (by first | (simp only [nrm, av, mqr] <;> rfl) | rfl) (by simp only [tre, au, mqr, Bool.and_self]) (zjv _ _ o5) ?_
 refine aV (fun tm => tm 1 = .ptr 0 0 ∧ tm 3 = .lit (.slice none 0 0) ∧ tm 8 = .mt (mtK cZ r4) (mtV qj r4) ∧ True) (by refine ⟨?_, ?_, ?_, trivial⟩ <;> first | (simp only [ua, je, nm, seval] <;> rfl) | rfl) ?_
 rintro tm ⟨e6, e7, e8, _⟩
 simp only [vz, mq, mqm, tyf, mqt, e6, e7, e8, nm, seval]
 obtain ⟨K9, h, kR9, WZ, kB9, GI⟩ := eO h kN
 obtain ⟨f9, hf9, h⟩ := call3 h
 obtain ⟨I9, ph⟩ : ∃ I : Nat → St → Prop, I = (fun m st => ∃ (p9 : Nat) (dQ : List Int) (cP : Int) (th : VV), p9 = m ∧ st.df = [] ∧ 11 ≤ st.nx ∧ st.H 0 = some (.cells (some 89) (cGm ah)) ∧ st.tm 1 = .ptr 0 0 ∧ st.tm 4 = .mt (mtK cZ r4) (mtV qj r4) ∧ st.tm 3 = th ∧ st.tm 5 = .lit (.int .i64 cP) ∧ ((∃ (β : Nat) (el : Option TypeId), th = .ref β 0 (List.length dQ) 1 (List.length dQ) ∧ β < st.nx ∧ β ≠ 0 ∧ st.H β = some (.cells el (aa eI dQ))) ∨ (th = .lit (.slice none 0 0) ∧ dQ = [])) ∧ K9 (f9 p9 dQ cP)) := ⟨_, rfl⟩
 refine loopK mixed (by kernel_rfl) I9 1000000 (by rw [ph]; refine ⟨1000000, ([] : List Int), ah.sh.Years.Low, .lit (.slice none 0 0), rfl, rfl, (show 11 ≤ 11 by omega), ?_, e6, ?_, ?_, ?_, Or.inr ⟨rfl, rfl⟩, h⟩ <;> first | (simp only [ua, je, e6, e7, e8, nm, seval] <;> rfl) | rfl) ?_
 rintro m ⟨tm, H, nU, df⟩ hinv
 rw [ph] at hinv
 obtain ⟨p9, dQ, cP, th, rfl, hdf, hn9, fZ, aX, aY, bd, bg, uv, h⟩ := hinv
 simp only at hdf hn9 fZ aX aY bd bg uv
 have fE := eN (m := 11) (b := nU) (by omega)
 subst hdf hf9
 rcases uv with ⟨mC, lv, rfl, Qt, Qu, nV⟩ | ⟨rfl, rfl⟩
 ·have Ab := uQ Qt
  have Ac := ne_f Qu
  cases p9 with
  | zero =>
   simp only [pf, hs, reduceCtorEq] at h
   exact absurd h GI
  | succ p9 =>
   simp only [pf, hs, reduceCtorEq] at h
   cases dc : (decide (cP ≤ ah.sh.Years.High))
   ·simp only [dc, hs] at h
    replace h := WZ _ h
    try dsimp only at h
    try simp only [hs] at h
    try simp only [vz, mq, mqm, tyf, mqt, fE, aX, aY, bd, bg, fZ, Ab, nV, Ac, dc, nm, seval]
    refine bP (x := (.ref mC 0 (List.length dQ) 1 (List.length dQ))) (by first | (simp only [Tryz.results70, resV, resL, ar, bV, bU, uw, cr, tyf, mqt, fE, fZ, Ab, nV, Ac, dc, nm, seval] <;> rfl) | rfl) ?_
    obtain rfl := kF _ h
    refine bZ ?_ ?_
    ·simp only [tre, au, mqr, Bool.and_self]
    ·first | (simp only [outV, uw, cA, cr, tyf, mqt, nrm, av, fE, aX, aY, bd, bg, fZ, Ab, nV, Ac, dc, nm, seval] <;> rfl) | rfl
   simp only [dc, hs] at h
   simp only [vz, mq, mqm, tyf, mqt, fE, aX, aY, bd, bg, fZ, Ab, nV, Ac, dc, nm, seval]
   refine pv mixed (by kernel_rfl) 4 ?_
   cases cw : (mapGet cK false r4 (Gf.mk 0 cP))
   ·simp only [cw, hs] at h
    have Qv := And.intro fE (And.intro fZ (And.intro Ab (And.intro nV (And.intro Ac (And.intro dc cw)))))
    simp only [vz, mq, mqm, tyf, mqt, Qv, aX, aY, bd, bg, nm, seval]
    exact ⟨p9, Nat.lt_succ_self _, by rw [ph]; refine ⟨p9, dQ, i64.wrap (cP + 1), .ref mC 0 (List.length dQ) 1 (List.length dQ), rfl, rfl, (show 11 ≤ nU + 19 by omega), ?_, aX, aY, ?_, ?_, Or.inl ⟨mC, lv, rfl, (by first | omega | (simp only [nm, seval]; omega)), (by first | omega | (intro hh; simp only [Qv, reduceCtorEq] at hh)), ?_⟩, h⟩ <;> first | (simp only [ua, je, Qv, aX, aY, bd, bg, nm, seval] <;> rfl) | rfl⟩
   simp only [cw, hs] at h
   have jY := And.intro fE (And.intro fZ (And.intro Ab (And.intro nV (And.intro Ac (And.intro dc cw)))))
   cases gS : (mapGet cK false r4 (Gf.mk 1 cP))
   ·simp only [gS, hs] at h
    simp only [vz, mq, mqm, tyf, mqt, jY, aX, aY, bd, bg, gS, nm, seval]
    exact ⟨p9, Nat.lt_succ_self _, by rw [ph]; refine ⟨p9, dQ, i64.wrap (cP + 1), .ref mC 0 (List.length dQ) 1 (List.length dQ), rfl, rfl, (show 11 ≤ nU + 30 by omega), ?_, aX, aY, ?_, ?_, Or.inl ⟨mC, lv, rfl, (by first | omega | (simp only [nm, seval]; omega)), (by first | omega | (intro hh; simp only [jY, reduceCtorEq] at hh)), ?_⟩, h⟩ <;> first | (simp only [ua, je, jY, aX, aY, bd, bg, gS, nm, seval] <;> rfl) | rfl⟩
   simp only [gS, hs] at h
   cases dY : (mapGet cK false r4 (Gf.mk 2 cP))
   ·simp only [dY, hs] at h
    simp only [vz, mq, mqm, tyf, mqt, jY, aX, aY, bd, bg, gS, dY, nm, seval]
    exact ⟨p9, Nat.lt_succ_self _, by rw [ph]; refine ⟨p9, dQ, i64.wrap (cP + 1), .ref mC 0 (List.length dQ) 1 (List.length dQ), rfl, rfl, (show 11 ≤ nU + 41 by omega), ?_, aX, aY, ?_, ?_, Or.inl ⟨mC, lv, rfl, (by first | omega | (simp only [nm, seval]; omega)), (by first | omega | (intro hh; simp only [jY, reduceCtorEq] at hh)), ?_⟩, h⟩ <;> first | (simp only [ua, je, jY, aX, aY, bd, bg, gS, dY, nm, seval] <;> rfl) | rfl⟩
   simp only [dY, hs] at h
   cases ng : (roomOk 8 (List.length (dQ ++ [cP])))
   ·simp only [ng, hs] at h
    exact absurd h GI
   simp only [ng, hs] at h
   simp only [vz, mq, mqm, tyf, mqt, jY, aX, aY, bd, bg, gS, dY, ng, nm, seval]
   refine k_app (w := 1) (enc := eI) (xs := dQ) (ys := ([cP])) (el := lv) (rz := (some 3)) (fun _ => rfl) mz mA Tryz.underlying29 (by first | rfl | assumption | (simp only [bG, fm, ll, jY, nm, seval] <;> rfl) | (simp only [bG, fm, rC, lk, py, pz, tyf, mqt, jY, aX, aY, bd, bg, gS, dY, ng, nm, seval]; done)) (by first | rfl | assumption | (simp only [bG, fm, ll, jY, nm, seval] <;> rfl) | (simp only [bG, fm, rC, lk, py, pz, tyf, mqt, jY, aX, aY, bd, bg, gS, dY, ng, nm, seval]; done)) (Nat.zero_lt_succ _) ng ?_
   simp only [vz, mq, mqm, tyf, mqt, jY, aX, aY, bd, bg, gS, dY, ng, nm, seval]
   exact ⟨p9, Nat.lt_succ_self _, by rw [ph]; refine ⟨p9, (dQ ++ [cP]), i64.wrap (cP + 1), .ref (nU + 44) 0 (List.length (dQ ++ [cP])) 1 (List.length (dQ ++ [cP])), rfl, rfl, (show 11 ≤ nU + 49 by omega), ?_, aX, aY, ?_, ?_, Or.inl ⟨nU + 44, (sameEl lv 3), rfl, (by first | omega | (simp only [nm, seval]; omega)), (by first | omega | (intro hh; simp only [jY, reduceCtorEq] at hh)), ?_⟩, h⟩ <;> first | (simp only [ua, je, jY, aX, aY, bd, bg, gS, dY, nm, seval] <;> rfl) | rfl⟩
 ·cases p9 with
  | zero =>
   simp only [pf, hs, reduceCtorEq] at h
   exact absurd h GI
  | succ p9 =>
   simp only [pf, hs, reduceCtorEq] at h
   cases dC : (decide (cP ≤ ah.sh.Years.High))
   ·simp only [dC, hs] at h
    replace h := WZ _ h
    try dsimp only at h
    try simp only [hs] at h
    try simp only [vz, mq, mqm, tyf, mqt, fE, aX, aY, bd, bg, fZ, dC, nm, seval]
    refine bP (x := (.lit (.slice none 0 0))) (by first | (simp only [Tryz.results70, resV, resL, ar, bV, bU, uw, cr, tyf, mqt, fE, fZ, dC, nm, seval] <;> rfl) | rfl) ?_
    obtain rfl := kF _ h
    refine bZ ?_ ?_
    ·simp only [tre, au, mqr, Bool.and_self]
    ·first | (simp only [outV, uw, cA, cr, tyf, mqt, nrm, av, fE, aX, aY, bd, bg, fZ, dC, nm, seval] <;> rfl) | rfl
   simp only [dC, hs] at h
   simp only [vz, mq, mqm, tyf, mqt, fE, aX, aY, bd, bg, fZ, dC, nm, seval]
   refine pv mixed (by kernel_rfl) 4 ?_
   cases j7 : (mapGet cK false r4 (Gf.mk 0 cP))
   ·simp only [j7, hs] at h
    simp only [vz, mq, mqm, tyf, mqt, fE, aX, aY, bd, bg, fZ, dC, j7, nm, seval]
    exact ⟨p9, Nat.lt_succ_self _, by rw [ph]; refine ⟨p9, ([] : List Int), i64.wrap (cP + 1), .lit (.slice none 0 0), rfl, rfl, (show 11 ≤ nU + 19 by omega), ?_, aX, aY, ?_, ?_, Or.inr ⟨rfl, rfl⟩, h⟩ <;> first | (simp only [ua, je, fE, aX, aY, bd, bg, fZ, dC, j7, nm, seval] <;> rfl) | rfl⟩
   simp only [j7, hs] at h
   cases gL : (mapGet cK false r4 (Gf.mk 1 cP))
   ·simp only [gL, hs] at h
    simp only [vz, mq, mqm, tyf, mqt, fE, aX, aY, bd, bg, fZ, dC, j7, gL, nm, seval]
    exact ⟨p9, Nat.lt_succ_self _, by rw [ph]; refine ⟨p9, ([] : List Int), i64.wrap (cP + 1), .lit (.slice none 0 0), rfl, rfl, (show 11 ≤ nU + 30 by omega), ?_, aX, aY, ?_, ?_, Or.inr ⟨rfl, rfl⟩, h⟩ <;> first | (simp only [ua, je, fE, aX, aY, bd, bg, fZ, dC, j7, gL, nm, seval] <;> rfl) | rfl⟩
   simp only [gL, hs] at h
   cases iB : (mapGet cK false r4 (Gf.mk 2 cP))
   ·simp only [iB, hs] at h
    simp only [vz, mq, mqm, tyf, mqt, fE, aX, aY, bd, bg, fZ, dC, j7, gL, iB, nm, seval]
    exact ⟨p9, Nat.lt_succ_self _, by rw [ph]; refine ⟨p9, ([] : List Int), i64.wrap (cP + 1), .lit (.slice none 0 0), rfl, rfl, (show 11 ≤ nU + 41 by omega), ?_, aX, aY, ?_, ?_, Or.inr ⟨rfl, rfl⟩, h⟩ <;> first | (simp only [ua, je, fE, aX, aY, bd, bg, fZ, dC, j7, gL, iB, nm, seval] <;> rfl) | rfl⟩
   simp only [iB, hs] at h
   cases Ad : (roomOk 8 (List.length (([] : List Int) ++ [cP])))
   ·simp only [Ad, hs] at h
    exact absurd h GI
   simp only [Ad, hs] at h
   simp only [vz, mq, mqm, tyf, mqt, fE, aX, aY, bd, bg, fZ, dC, j7, gL, iB, Ad, nm, seval]
   refine sV (w := 1) (enc := eI) (ys := ([cP])) (rz := (some 3)) (fun _ => rfl) mz mA Tryz.underlying29 (by first | rfl | assumption | (simp only [bG, fm, ll, fE, fZ, nm, seval] <;> rfl) | (simp only [bG, fm, rC, lk, py, pz, tyf, mqt, fE, aX, aY, bd, bg, fZ, dC, j7, gL, iB, Ad, nm, seval]; done)) (Nat.zero_lt_succ _) Ad ?_
   simp only [vz, mq, mqm, tyf, mqt, fE, aX, aY, bd, bg, fZ, dC, j7, gL, iB, Ad, nm, seval]
   exact ⟨p9, Nat.lt_succ_self _, by rw [ph]; refine ⟨p9, (([] : List Int) ++ [cP]), i64.wrap (cP + 1), .ref (nU + 44) 0 (List.length (([] : List Int) ++ [cP])) 1 (List.length (([] : List Int) ++ [cP])), rfl, rfl, (show 11 ≤ nU + 49 by omega), ?_, aX, aY, ?_, ?_, Or.inl ⟨nU + 44, (some 3), rfl, (by first | omega | (simp only [nm, seval]; omega)), (by first | omega | (intro hh; simp only [fE, reduceCtorEq] at hh)), ?_⟩, h⟩ <;> first | (simp only [ua, je, fE, aX, aY, bd, bg, fZ, dC, j7, gL, iB, nm, seval] <;> rfl) | rfl⟩
def Ds (ah : Gm) : Option (Bool) := Option.bind (Dr ah) (fun r1 => some (decide ((List.length r1 : Int) > 0)))
theorem zjo (ah : Gm) (R : Bool) (h : Ds ah = some R) : ad Tryz.prog G0 69 [.agg (cGm ah)] (.tree (.lit (.bool R))) := by
 refine ad.runR mixed Tryz.call69 Tryz.func69 rfl (by simp [Tryz.ntmps69]; kernel_rfl) ?_
 obtain ⟨KF, h, kF, kN⟩ := cQ h
 simp only [Ds] at h
 obtain ⟨r2, o3, h⟩ := optI h kN
 try simp only [hs] at h
 simp only [vz, tyf, nm, seval]
 refine ktA (zld _ _ o3) ?_
 refine aV (fun tm => tm 4 = .sl (aa eI r2) (List.length r2) false ∧ True) (by refine ⟨?_, trivial⟩ <;> first | (simp only [ua, nm, seval] <;> rfl) | rfl) ?_
 rintro tm ⟨e4, _⟩
 try simp only [vz, tyf, e4, nm, seval]
 obtain rfl := kF _ h
 exact bl Tryz.results69 rfl
def Dt (ae : Gs) (an : List Int) : Option (Int × Int) := Option.bind (my ae) (fun r1 => cond (r1) (Option.bind (zV ae an) (fun r2 => cond (r2) (Option.bind (wc (Gm.mk ae an)) (fun r3 => cond (r3) (some (3, 0)) (Option.bind (Ds (Gm.mk ae an)) (fun r4 => cond (r4) (some (2, 0)) (some (1, 0)))))) (some (0, 2)))) (some (0, 2)))
theorem zte (ae : Gs) (an : List Int) (R : Int × Int) (h : Dt ae an = some R) : ad Tryz.prog G0 27 [.agg (cGs ae), .sl (aa eI an) (List.length an) false] (.tree (.tup [.lit (.int .i64 R.1), .lit (.int .i64 R.2)])) := by
 refine ad.runR mixed Tryz.call27 Tryz.func27 rfl (by simp [Tryz.ntmps27]; kernel_rfl) ?_
 obtain ⟨KF, h, kF, kN⟩ := cQ h
 simp only [Dt] at h
 obtain ⟨r5, o6, h⟩ := optI h kN
 try simp only [hs] at h
 simp only [vz, tyf, nm, seval]
 refine ktA (wA _ _ o6) ?_
 refine aV (fun tm => tm 1 = .sl (aa eI an) (List.length an) false ∧ tm 2 = .ptr 0 0 ∧ tm 8 = .lit (.bool r5) ∧ True) (by refine ⟨?_, ?_, ?_, trivial⟩ <;> first | (simp only [ua, nm, seval] <;> rfl) | rfl) ?_
 rintro tm ⟨e7, e8, e9, _⟩
 cases bX : (r5)
 ·simp only [bX, hs] at h
  try simp only [vz, tyf, e7, e8, e9, bX, nm, seval]
  refine bP (x := (.tup [.lit (.int .i64 0), .lit (.int .i64 2)])) (by first | (simp only [Tryz.results27, resV, resL, ar, bV, bU, uw, cr, tyf, bX, nm, seval] <;> rfl) | rfl) ?_
  obtain rfl := kF _ h
  refine bZ ?_ ?_
  ·simp only [tre, au, Bool.and_self]
  ·first | (simp only [outV, uw, cA, cr, tyf, nrm, av, e7, e8, e9, bX, nm, seval] <;> rfl) | rfl
 simp only [bX, hs] at h
 obtain ⟨dW, pO, h⟩ := optI h kN
 try simp only [hs] at h
 simp only [vz, tyf, e7, e8, e9, bX, nm, seval]
 refine ktA (WB _ _ _ pO) ?_
 refine aV (fun tm => tm 1 = .sl (aa eI an) (List.length an) false ∧ tm 2 = .ptr 0 0 ∧ tm 10 = .lit (.bool false) ∧ tm 13 = .lit (.bool dW) ∧ True) (by refine ⟨e7, e8, ?_, ?_, trivial⟩ <;> first | (simp only [ua, e7, e8, e9, bX, nm, seval] <;> rfl) | rfl) ?_
 rintro tm ⟨bd, bg, bK, bw, _⟩
 cases cL : (dW)
 ·simp only [cL, hs] at h
  try simp only [vz, tyf, bX, bd, bg, bK, bw, cL, nm, seval]
  refine bP (x := (.tup [.lit (.int .i64 0), .lit (.int .i64 2)])) (by first | (simp only [Tryz.results27, resV, resL, ar, bV, bU, uw, cr, tyf, bX, cL, nm, seval] <;> rfl) | rfl) ?_
  obtain rfl := kF _ h
  refine bZ ?_ ?_
  ·simp only [tre, au, Bool.and_self]
  ·first | (simp only [outV, uw, cA, cr, tyf, nrm, av, bX, bd, bg, bK, bw, cL, nm, seval] <;> rfl) | rfl
 simp only [cL, hs] at h
 obtain ⟨kQ, iT, h⟩ := optI h kN
 try simp only [hs] at h
 simp only [vz, tyf, bX, bd, bg, bK, bw, cL, nm, seval]
 refine ktA (Pj _ _ iT) ?_
 refine aV (fun tm => tm 6 = .ptr 15 0 ∧ tm 21 = .lit (.bool kQ) ∧ True) (by refine ⟨?_, ?_, trivial⟩ <;> first | (simp only [ua, bX, bd, bg, bK, bw, cL, nm, seval] <;> rfl) | rfl) ?_
 rintro tm ⟨cB, bJ, _⟩
 cases gJ : (kQ)
 ·simp only [gJ, hs] at h
  obtain ⟨wK, Db, h⟩ := optI h kN
  try simp only [hs] at h
  simp only [vz, tyf, bX, cL, cB, bJ, gJ, nm, seval]
  refine ktA (zjo _ _ Db) ?_
  refine aV (fun tm => tm 24 = .lit (.bool wK) ∧ True) (by refine ⟨?_, trivial⟩ <;> first | (simp only [ua, bX, cL, cB, bJ, gJ, nm, seval] <;> rfl) | rfl) ?_
  rintro tm ⟨cq, _⟩
  cases dC : (wK)
  ·simp only [dC, hs] at h
   try simp only [vz, tyf, bX, cL, gJ, cq, dC, nm, seval]
   refine bP (x := (.tup [.lit (.int .i64 1), .lit (.int .i64 0)])) (by first | (simp only [Tryz.results27, resV, resL, ar, bV, bU, uw, cr, tyf, bX, cL, gJ, dC, nm, seval] <;> rfl) | rfl) ?_
   obtain rfl := kF _ h
   refine bZ ?_ ?_
   ·simp only [tre, au, Bool.and_self]
   ·first | (simp only [outV, uw, cA, cr, tyf, nrm, av, bX, cL, gJ, cq, dC, nm, seval] <;> rfl) | rfl
  simp only [dC, hs] at h
  try simp only [vz, tyf, bX, cL, gJ, cq, dC, nm, seval]
  refine bP (x := (.tup [.lit (.int .i64 2), .lit (.int .i64 0)])) (by first | (simp only [Tryz.results27, resV, resL, ar, bV, bU, uw, cr, tyf, bX, cL, gJ, dC, nm, seval] <;> rfl) | rfl) ?_
  obtain rfl := kF _ h
  refine bZ ?_ ?_
  ·simp only [tre, au, Bool.and_self]
  ·first | (simp only [outV, uw, cA, cr, tyf, nrm, av, bX, cL, gJ, cq, dC, nm, seval] <;> rfl) | rfl
 simp only [gJ, hs] at h
 try simp only [vz, tyf, bX, cL, cB, bJ, gJ, nm, seval]
 refine bP (x := (.tup [.lit (.int .i64 3), .lit (.int .i64 0)])) (by first | (simp only [Tryz.results27, resV, resL, ar, bV, bU, uw, cr, tyf, bX, cL, gJ, nm, seval] <;> rfl) | rfl) ?_
 obtain rfl := kF _ h
 refine bZ ?_ ?_
 ·simp only [tre, au, Bool.and_self]
 ·first | (simp only [outV, uw, cA, cr, tyf, nrm, av, bX, cL, cB, bJ, gJ, nm, seval] <;> rfl) | rfl




def anyR (T : Int → Bool) : Nat → Int → Bool
 | 0, _ => false
 | k + 1, c => T c || anyR T k (c + 1)
theorem GJ {T : Int → Bool} : ∀ (k : Nat) (c : Int), anyR T k c = true ↔ ∃ f : Int, c ≤ f ∧ f < c + k ∧ T f = true
 | 0, c => by
  simp only [anyR, Bool.false_eq_true, false_iff]
  rintro ⟨f, h1, h2, _⟩
  omega
 | k + 1, c => by
  simp only [anyR, Bool.or_eq_true, GJ k (c + 1)]
  constructor
  ·rintro (h | ⟨f, h1, h2, h3⟩)
   ·exact ⟨c, by omega, by omega, h⟩
   ·exact ⟨f, by omega, by omega, h3⟩
  ·rintro ⟨f, h1, h2, h3⟩
   by_cases e : f = c
   ·subst e; exact .inl h3
   ·exact .inr ⟨f, by omega, by omega, h3⟩
def canT (s : Gs) (mix : List Int) (p : P3) (y f : Int) : Bool := decide (sumL mix * aI (selI s.Old p) y f - sumL mix * s.Off ≤ (aN s mix p).High) && decide ((aN s mix p).Low ≤ sumL mix * aI (selI s.Old p) y f + sumL mix * s.Off)
theorem can_b {s : Gs} (hs : ShOk s) {mix : List Int} (hm : MixOk s mix) (p : P3) {y f : Int} (hy : 0 ≤ y ∧ y ≤ 20) (hf : 0 ≤ f) : 0 ≤ sumL mix * aI (selI s.Old p) y f ∧ sumL mix * aI (selI s.Old p) y f ≤ 792 ∧ 0 ≤ sumL mix * s.Off ∧ sumL mix * s.Off ≤ 160 := by
 have h1 := hs.old p
 have h2 := Du (y := y) (f := f) h1 hy.1 hf
 have h3 := hm.s
 have h4 := hs.off
 have h5 := mulR (a := sumL mix) (A := 8) (by omega) h3.2 h2.1 (show aI (selI s.Old p) y f ≤ 99 by omega)
 have h6 := mulR (a := sumL mix) (A := 8) (b := s.Off) (B := 20) (by omega) h3.2 (by omega) (by omega)
 omega
theorem Dv {s : Gs} (hs : ShOk s) {mix : List Int} (hm : MixOk s mix) {y : Int} (hy : 0 ≤ y ∧ y ≤ 20) : ∀ (k fuel : Nat) (c : Int), k < fuel → 0 ≤ c → c + k = s.Fade.a0.High + 1 → pb ⟨s, mix⟩ y (aN s mix .p0) (sumL mix) fuel c = cond (anyR (canT s mix .p0 y) k c) (some (.ret true)) (some (.go (c + k)))
 | 0, fuel + 1, c, _, h0, hc => by
  simp only [pb]
  rw [decide_eq_false (by show ¬ c ≤ s.Fade.a0.High; omega)]
  simp [anyR]
 | k + 1, fuel + 1, c, hf, h0, hc => by
  have hfd := hs.fade .p0
  simp only [selS] at hfd
  have ih := Dv hs hm hy k fuel (c + 1) (by omega) (by omega) (by omega)
  have e1 := Ae (hs.old .p0) hy (show 0 ≤ c ∧ c ≤ 9 by omega)
  simp only [selI] at e1
  have hb := can_b hs hm .p0 hy (show 0 ≤ c by omega)
  simp only [selI] at hb
  have e2 : i64.wrap (sumL mix * aI s.Old.a0 y c) = sumL mix * aI s.Old.a0 y c := cF (by omega) (by omega)
  have e3 : i64.wrap (sumL mix * s.Off) = sumL mix * s.Off := cF (by omega) (by omega)
  have e4 : i64.wrap (sumL mix * aI s.Old.a0 y c - sumL mix * s.Off) = sumL mix * aI s.Old.a0 y c - sumL mix * s.Off := cF (by omega) (by omega)
  have e5 : i64.wrap (sumL mix * aI s.Old.a0 y c + sumL mix * s.Off) = sumL mix * aI s.Old.a0 y c + sumL mix * s.Off := cF (by omega) (by omega)
  have e6 : i64.wrap (c + 1) = c + 1 := cF (by omega) (by omega)
  have hT : canT s mix .p0 y c = (decide (sumL mix * aI s.Old.a0 y c - sumL mix * s.Off ≤ (aN s mix .p0).High) && decide ((aN s mix .p0).Low ≤ sumL mix * aI s.Old.a0 y c + sumL mix * s.Off)) := rfl
  simp only [pb]
  rw [decide_eq_true (show c ≤ s.Fade.a0.High by omega), e1]
  simp only [Option.bind_some, cond_true, e2, e3, e4, e5, e6, ih, anyR, hT]
  rw [show c + 1 + (k : Int) = c + ((k + 1 : Nat) : Int) by omega]
  cases decide (sumL mix * aI s.Old.a0 y c - sumL mix * s.Off ≤ (aN s mix .p0).High) <;> cases decide ((aN s mix .p0).Low ≤ sumL mix * aI s.Old.a0 y c + sumL mix * s.Off) <;> rfl
 | _ , 0, _, hf, _, _ => by omega
theorem Dw {s : Gs} (hs : ShOk s) {mix : List Int} (hm : MixOk s mix) {y : Int} (hy : 0 ≤ y ∧ y ≤ 20) : ∀ (k fuel : Nat) (c : Int), k < fuel → 0 ≤ c → c + k = s.Fade.a1.High + 1 → pa ⟨s, mix⟩ y (aN s mix .p1) (sumL mix) fuel c = cond (anyR (canT s mix .p1 y) k c) (some (.ret true)) (some (.go (c + k)))
 | 0, fuel + 1, c, _, h0, hc => by
  simp only [pa]
  rw [decide_eq_false (by show ¬ c ≤ s.Fade.a1.High; omega)]
  simp [anyR]
 | k + 1, fuel + 1, c, hf, h0, hc => by
  have hfd := hs.fade .p1
  simp only [selS] at hfd
  have ih := Dw hs hm hy k fuel (c + 1) (by omega) (by omega) (by omega)
  have e1 := Ae (hs.old .p1) hy (show 0 ≤ c ∧ c ≤ 9 by omega)
  simp only [selI] at e1
  have hb := can_b hs hm .p1 hy (show 0 ≤ c by omega)
  simp only [selI] at hb
  have e2 : i64.wrap (sumL mix * aI s.Old.a1 y c) = sumL mix * aI s.Old.a1 y c := cF (by omega) (by omega)
  have e3 : i64.wrap (sumL mix * s.Off) = sumL mix * s.Off := cF (by omega) (by omega)
  have e4 : i64.wrap (sumL mix * aI s.Old.a1 y c - sumL mix * s.Off) = sumL mix * aI s.Old.a1 y c - sumL mix * s.Off := cF (by omega) (by omega)
  have e5 : i64.wrap (sumL mix * aI s.Old.a1 y c + sumL mix * s.Off) = sumL mix * aI s.Old.a1 y c + sumL mix * s.Off := cF (by omega) (by omega)
  have e6 : i64.wrap (c + 1) = c + 1 := cF (by omega) (by omega)
  have hT : canT s mix .p1 y c = (decide (sumL mix * aI s.Old.a1 y c - sumL mix * s.Off ≤ (aN s mix .p1).High) && decide ((aN s mix .p1).Low ≤ sumL mix * aI s.Old.a1 y c + sumL mix * s.Off)) := rfl
  simp only [pa]
  rw [decide_eq_true (show c ≤ s.Fade.a1.High by omega), e1]
  simp only [Option.bind_some, cond_true, e2, e3, e4, e5, e6, ih, anyR, hT]
  rw [show c + 1 + (k : Int) = c + ((k + 1 : Nat) : Int) by omega]
  cases decide (sumL mix * aI s.Old.a1 y c - sumL mix * s.Off ≤ (aN s mix .p1).High) <;> cases decide ((aN s mix .p1).Low ≤ sumL mix * aI s.Old.a1 y c + sumL mix * s.Off) <;> rfl
 | _ , 0, _, hf, _, _ => by omega
theorem Dx {s : Gs} (hs : ShOk s) {mix : List Int} (hm : MixOk s mix) {y : Int} (hy : 0 ≤ y ∧ y ≤ 20) : ∀ (k fuel : Nat) (c : Int), k < fuel → 0 ≤ c → c + k = s.Fade.a2.High + 1 → oZ ⟨s, mix⟩ y (aN s mix .p2) (sumL mix) fuel c = cond (anyR (canT s mix .p2 y) k c) (some (.ret true)) (some (.go (c + k)))
 | 0, fuel + 1, c, _, h0, hc => by
  simp only [oZ]
  rw [decide_eq_false (by show ¬ c ≤ s.Fade.a2.High; omega)]
  simp [anyR]
 | k + 1, fuel + 1, c, hf, h0, hc => by
  have hfd := hs.fade .p2
  simp only [selS] at hfd
  have ih := Dx hs hm hy k fuel (c + 1) (by omega) (by omega) (by omega)
  have e1 := Ae (hs.old .p2) hy (show 0 ≤ c ∧ c ≤ 9 by omega)
  simp only [selI] at e1
  have hb := can_b hs hm .p2 hy (show 0 ≤ c by omega)
  simp only [selI] at hb
  have e2 : i64.wrap (sumL mix * aI s.Old.a2 y c) = sumL mix * aI s.Old.a2 y c := cF (by omega) (by omega)
  have e3 : i64.wrap (sumL mix * s.Off) = sumL mix * s.Off := cF (by omega) (by omega)
  have e4 : i64.wrap (sumL mix * aI s.Old.a2 y c - sumL mix * s.Off) = sumL mix * aI s.Old.a2 y c - sumL mix * s.Off := cF (by omega) (by omega)
  have e5 : i64.wrap (sumL mix * aI s.Old.a2 y c + sumL mix * s.Off) = sumL mix * aI s.Old.a2 y c + sumL mix * s.Off := cF (by omega) (by omega)
  have e6 : i64.wrap (c + 1) = c + 1 := cF (by omega) (by omega)
  have hT : canT s mix .p2 y c = (decide (sumL mix * aI s.Old.a2 y c - sumL mix * s.Off ≤ (aN s mix .p2).High) && decide ((aN s mix .p2).Low ≤ sumL mix * aI s.Old.a2 y c + sumL mix * s.Off)) := rfl
  simp only [oZ]
  rw [decide_eq_true (show c ≤ s.Fade.a2.High by omega), e1]
  simp only [Option.bind_some, cond_true, e2, e3, e4, e5, e6, ih, anyR, hT]
  rw [show c + 1 + (k : Int) = c + ((k + 1 : Nat) : Int) by omega]
  cases decide (sumL mix * aI s.Old.a2 y c - sumL mix * s.Off ≤ (aN s mix .p2).High) <;> cases decide ((aN s mix .p2).Low ≤ sumL mix * aI s.Old.a2 y c + sumL mix * s.Off) <;> rfl
 | _ , 0, _, hf, _, _ => by omega
def canB (s : Gs) (mix : List Int) (p : P3) (y : Int) : Bool := anyR (canT s mix p y) ((selS s.Fade p).High + 1 - (selS s.Fade p).Low).toNat (selS s.Fade p).Low
theorem Qw {s : Gs} (hs : ShOk s) {mix : List Int} (hm : MixOk s mix) (p : P3) {y : Int} (hy : 0 ≤ y ∧ y ≤ 20) : wo ⟨s, mix⟩ y p.i (aN s mix p) = some (canB s mix p y) := by
 have f0 := hs.fade .p0
 have f1 := hs.fade .p1
 have f2 := hs.fade .p2
 simp only [selS] at f0 f1 f2
 unfold wo canB
 rw [C5 hs hm]
 simp only [Option.bind_some]
 cases p <;> simp only [P3.i, Int.reduceBEq, cond_true, cond_false, selS]
 ·rw [Dv hs hm hy (s.Fade.a0.High + 1 - s.Fade.a0.Low).toNat 1000000 s.Fade.a0.Low (by omega) (by omega) (by omega)]
  cases anyR (canT s mix .p0 y) (s.Fade.a0.High + 1 - s.Fade.a0.Low).toNat s.Fade.a0.Low <;> rfl
 ·rw [Dw hs hm hy (s.Fade.a1.High + 1 - s.Fade.a1.Low).toNat 1000000 s.Fade.a1.Low (by omega) (by omega) (by omega)]
  cases anyR (canT s mix .p1 y) (s.Fade.a1.High + 1 - s.Fade.a1.Low).toNat s.Fade.a1.Low <;> rfl
 ·rw [Dx hs hm hy (s.Fade.a2.High + 1 - s.Fade.a2.Low).toNat 1000000 s.Fade.a2.Low (by omega) (by omega) (by omega)]
  cases anyR (canT s mix .p2 y) (s.Fade.a2.High + 1 - s.Fade.a2.Low).toNat s.Fade.a2.Low <;> rfl
def fillM (p : Int) (T : Int → Bool) : Nat → Int → List (Gf × Bool) → List (Gf × Bool)
 | 0, _, m => m
 | k + 1, c, m => fillM p T k (c + 1) (mapSet cK m ⟨p, c⟩ (T c))
theorem Qx (a b : Gf) : cK a b = true ↔ a = b := by
 constructor
 ·exact tX a b
 ·rintro rfl
  simp [cK]
theorem GK (p : Int) (T : Int → Bool) : ∀ (k : Nat) (c : Int) (m : List (Gf × Bool)) (p' y : Int), mapGet cK false (fillM p T k c m) ⟨p', y⟩ = if p' = p ∧ c ≤ y ∧ y < c + k then T y else mapGet cK false m ⟨p', y⟩
 | 0, c, m, p', y => by
  rw [if_neg (by rintro ⟨_, h1, h2⟩; omega)]
  rfl
 | k + 1, c, m, p', y => by
  rw [fillM, GK p T k (c + 1), O8 Qx]
  by_cases h1 : p' = p
  ·by_cases h2 : y = c
   ·subst h1 h2
    rw [if_neg (by rintro ⟨_, h1, _⟩; omega), if_pos (by simp [cK]), if_pos ⟨rfl, by omega, by omega⟩]
   ·have h3 : ¬ cK ⟨p', y⟩ ⟨p, c⟩ = true := by
     rw [Qx]
     intro e
     exact h2 (congrArg Gf.years e)
    rw [if_neg h3]
    by_cases h4 : c + 1 ≤ y ∧ y < c + 1 + k
    ·rw [if_pos ⟨h1, h4⟩, if_pos ⟨h1, by omega, by omega⟩]
    ·rw [if_neg (fun h => h4 h.2), if_neg (fun h => h4 ⟨by omega, by omega⟩)]
  ·have h3 : ¬ cK ⟨p', y⟩ ⟨p, c⟩ = true := by
    rw [Qx]
    intro e
    exact h1 (congrArg Gf.pigment e)
   rw [if_neg (fun h => h1 h.1), if_neg h3, if_neg (fun h => h1 h.1)]
theorem Xa {s : Gs} (hs : ShOk s) {mix : List Int} (hm : MixOk s mix) : ∀ (k fuel : Nat) (c : Int) (m : List (Gf × Bool)), k < fuel → 0 ≤ c → c + k = s.Years.High + 1 → qz ⟨s, mix⟩ (sumsS s mix) fuel c m = some (.go (c + k, fillM 0 (canB s mix .p0) k c m))
 | 0, fuel + 1, c, m, _, h0, hc => by
  simp only [qz]
  rw [decide_eq_false (by show ¬ c ≤ s.Years.High; omega)]
  simp [fillM]
 | k + 1, fuel + 1, c, m, hf, h0, hc => by
  have hyr := hs.yrs
  have ih := fun m => Xa hs hm k fuel (c + 1) m (by omega) (by omega) (by omega)
  have e1 := Qw hs hm .p0 (show 0 ≤ c ∧ c ≤ 20 by omega)
  rw [show P3.p0.i = 0 from rfl] at e1
  have e6 : i64.wrap (c + 1) = c + 1 := cF (by omega) (by omega)
  simp only [qz]
  rw [decide_eq_true (show c ≤ s.Years.High by omega), show (sumsS s mix).a0 = aN s mix .p0 from rfl, e1]
  simp only [Option.bind_some, cond_true, e6, ih, fillM]
  rw [show c + 1 + (k : Int) = c + ((k + 1 : Nat) : Int) by omega]
 | _ , 0, _, _, hf, _, _ => by omega
theorem Xb {s : Gs} (hs : ShOk s) {mix : List Int} (hm : MixOk s mix) : ∀ (k fuel : Nat) (c : Int) (m : List (Gf × Bool)), k < fuel → 0 ≤ c → c + k = s.Years.High + 1 → qy ⟨s, mix⟩ (sumsS s mix) fuel c m = some (.go (c + k, fillM 1 (canB s mix .p1) k c m))
 | 0, fuel + 1, c, m, _, h0, hc => by
  simp only [qy]
  rw [decide_eq_false (by show ¬ c ≤ s.Years.High; omega)]
  simp [fillM]
 | k + 1, fuel + 1, c, m, hf, h0, hc => by
  have hyr := hs.yrs
  have ih := fun m => Xb hs hm k fuel (c + 1) m (by omega) (by omega) (by omega)
  have e1 := Qw hs hm .p1 (show 0 ≤ c ∧ c ≤ 20 by omega)
  rw [show P3.p1.i = 1 from rfl] at e1
  have e6 : i64.wrap (c + 1) = c + 1 := cF (by omega) (by omega)
  simp only [qy]
  rw [decide_eq_true (show c ≤ s.Years.High by omega), show (sumsS s mix).a1 = aN s mix .p1 from rfl, e1]
  simp only [Option.bind_some, cond_true, e6, ih, fillM]
  rw [show c + 1 + (k : Int) = c + ((k + 1 : Nat) : Int) by omega]
 | _ , 0, _, _, hf, _, _ => by omega
theorem Xc {s : Gs} (hs : ShOk s) {mix : List Int} (hm : MixOk s mix) : ∀ (k fuel : Nat) (c : Int) (m : List (Gf × Bool)), k < fuel → 0 ≤ c → c + k = s.Years.High + 1 → qx ⟨s, mix⟩ (sumsS s mix) fuel c m = some (.go (c + k, fillM 2 (canB s mix .p2) k c m))
 | 0, fuel + 1, c, m, _, h0, hc => by
  simp only [qx]
  rw [decide_eq_false (by show ¬ c ≤ s.Years.High; omega)]
  simp [fillM]
 | k + 1, fuel + 1, c, m, hf, h0, hc => by
  have hyr := hs.yrs
  have ih := fun m => Xc hs hm k fuel (c + 1) m (by omega) (by omega) (by omega)
  have e1 := Qw hs hm .p2 (show 0 ≤ c ∧ c ≤ 20 by omega)
  rw [show P3.p2.i = 2 from rfl] at e1
  have e6 : i64.wrap (c + 1) = c + 1 := cF (by omega) (by omega)
  simp only [qx]
  rw [decide_eq_true (show c ≤ s.Years.High by omega), show (sumsS s mix).a2 = aN s mix .p2 from rfl, e1]
  simp only [Option.bind_some, cond_true, e6, ih, fillM]
  rw [show c + 1 + (k : Int) = c + ((k + 1 : Nat) : Int) by omega]
 | _ , 0, _, _, hf, _, _ => by omega
def yrsN (s : Gs) : Nat := (s.Years.High + 1 - s.Years.Low).toNat
def mapM (s : Gs) (mix : List Int) : List (Gf × Bool) := fillM 2 (canB s mix .p2) (yrsN s) s.Years.Low (fillM 1 (canB s mix .p1) (yrsN s) s.Years.Low (fillM 0 (canB s mix .p0) (yrsN s) s.Years.Low []))
theorem Qy {s : Gs} (hs : ShOk s) {mix : List Int} (hm : MixOk s mix) : Dm ⟨s, mix⟩ = some (mapM s mix) := by
 have hy := hs.yrs
 have hk : s.Years.Low + (yrsN s : Int) = s.Years.High + 1 := by unfold yrsN; omega
 have ux : yrsN s < 1000000 := by unfold yrsN; omega
 unfold Dm
 rw [C3 hs hm]
 simp only [Option.bind_some, Xa hs hm (yrsN s) 1000000 _ _ ux hy.1 hk, Xb hs hm (yrsN s) 1000000 _ _ ux hy.1 hk, Xc hs hm (yrsN s) 1000000 _ _ ux hy.1 hk, aK]
 rfl
theorem Qz {s : Gs} {mix : List Int} (hs : ShOk s) (p : P3) {y : Int} (hy : s.Years.Low ≤ y ∧ y ≤ s.Years.High) : mapGet cK false (mapM s mix) ⟨p.i, y⟩ = canB s mix p y := by
 have hk : s.Years.Low + (yrsN s : Int) = s.Years.High + 1 := by have := hs.yrs; unfold yrsN; omega
 unfold mapM
 rw [GK, GK, GK]
 cases p <;> simp only [P3.i]
 ·rw [if_neg (by rintro ⟨h, _⟩; omega), if_neg (by rintro ⟨h, _⟩; omega), if_pos ⟨trivial, by omega, by omega⟩]
 ·rw [if_neg (by rintro ⟨h, _⟩; omega), if_pos ⟨trivial, by omega, by omega⟩]
 ·rw [if_pos ⟨trivial, by omega, by omega⟩]
def allC (s : Gs) (mix : List Int) (y : Int) : Bool := canB s mix .p0 y && (canB s mix .p1 y && canB s mix .p2 y)
def yL (A : Int → Bool) : Nat → Int → List Int
 | 0, _ => []
 | k + 1, c => cond (A c) (c :: yL A k (c + 1)) (yL A k (c + 1))
theorem xa {A : Int → Bool} {y : Int} : ∀ (k : Nat) (c : Int), y ∈ yL A k c ↔ c ≤ y ∧ y < c + k ∧ A y = true
 | 0, c => by simp only [yL, List.not_mem_nil, false_iff]; omega
 | k + 1, c => by
  simp only [yL]
  cases h : A c with
  | true =>
   simp only [cond_true, List.mem_cons, xa k (c + 1)]
   constructor
   ·rintro (rfl | ⟨h1, h2, h3⟩)
    ·exact ⟨by omega, by omega, h⟩
    ·exact ⟨by omega, by omega, h3⟩
   ·rintro ⟨h1, h2, h3⟩
    by_cases e : y = c
    ·exact .inl e
    ·exact .inr ⟨by omega, by omega, h3⟩
  | false =>
   simp only [cond_false, xa k (c + 1)]
   constructor
   ·rintro ⟨h1, h2, h3⟩
    exact ⟨by omega, by omega, h3⟩
   ·rintro ⟨h1, h2, h3⟩
    by_cases e : y = c
    ·subst e; rw [h] at h3; cases h3
    ·exact ⟨by omega, by omega, h3⟩
theorem Dy {s : Gs} (hs : ShOk s) {mix : List Int} : ∀ (k fuel : Nat) (c : Int) (acc : List Int), k < fuel → s.Years.Low ≤ c → c + k = s.Years.High + 1 → acc.length + k ≤ 1000 → pf ⟨s, mix⟩ (mapM s mix) fuel acc c = some (.go (acc ++ yL (allC s mix) k c, c + k))
 | 0, fuel + 1, c, acc, _, h0, hc, _ => by
  simp only [pf]
  rw [decide_eq_false (by show ¬ c ≤ s.Years.High; omega)]
  simp [yL]
 | k + 1, fuel + 1, c, acc, hf, h0, hc, hl => by
  have hyr := hs.yrs
  have ih := fun acc hl => Dy (mix := mix) hs k fuel (c + 1) acc (by omega) (by omega) (by omega) hl
  have g0 := Qz (mix := mix) hs .p0 (y := c) ⟨h0, by omega⟩
  have g1 := Qz (mix := mix) hs .p1 (y := c) ⟨h0, by omega⟩
  have g2 := Qz (mix := mix) hs .p2 (y := c) ⟨h0, by omega⟩
  simp only [P3.i] at g0 g1 g2
  have e6 : i64.wrap (c + 1) = c + 1 := cF (by omega) (by omega)
  have hr : roomOk 8 (List.length (acc ++ [c])) = true := by
   unfold roomOk
   simp only [List.length_append, List.length_cons, List.length_nil, decide_eq_true_eq]
   omega
  have i1 := ih (acc ++ [c]) (by simp only [List.length_append, List.length_cons, List.length_nil]; omega)
  have i2 := ih acc (by omega)
  simp only [pf]
  rw [decide_eq_true (show c ≤ s.Years.High by omega), g0, g1, g2, e6, hr, i1, i2]
  simp only [cond_true, yL, allC]
  rw [show c + 1 + (k : Int) = c + ((k + 1 : Nat) : Int) by omega]
  cases canB s mix .p0 c <;> cases canB s mix .p1 c <;> cases canB s mix .p2 c <;> simp
 | _ , 0, _, _, hf, _, _, _ => by omega
def yearsL (s : Gs) (mix : List Int) : List Int := yL (allC s mix) (yrsN s) s.Years.Low
theorem Q0 {s : Gs} (hs : ShOk s) {mix : List Int} (hm : MixOk s mix) : Dr ⟨s, mix⟩ = some (yearsL s mix) := by
 have hy := hs.yrs
 have hk : s.Years.Low + (yrsN s : Int) = s.Years.High + 1 := by unfold yrsN; omega
 have ux : yrsN s ≤ 900 := by unfold yrsN; omega
 unfold Dr
 rw [Qy hs hm]
 simp only [Option.bind_some, Dy hs (yrsN s) 1000000 _ [] (by omega) (Int.le_refl _) hk (by simp only [List.length_nil]; omega), aK]
 rfl
theorem Q1 {s : Gs} (hs : ShOk s) {mix : List Int} (hm : MixOk s mix) : Ds ⟨s, mix⟩ = some (!(yearsL s mix).isEmpty) := by
 unfold Ds
 rw [Q0 hs hm, Option.bind_some]
 cases yearsL s mix with
 | nil => rfl
 | cons a l =>
  rw [decide_eq_true (by show ((a :: l).length : Int) > 0; simp only [List.length_cons]; omega)]
  rfl
def wordI (s : Gs) (mix : List Int) : Int := cond (surelyB s mix) 3 (cond (!(yearsL s mix).isEmpty) 2 1)
theorem Q2 {s : Gs} (h : lenOk s.Tins = true) (mix : List Int) : Dt s mix = some (cond (sheetB s && mixB s mix) (wordI s mix, 0) (0, 2)) := by
 unfold Dt
 rw [Q3 h]
 cases hb : sheetB s with
 | false => rfl
 | true =>
  have hs := ShOk.of hb
  simp only [Option.bind_some, cond_true, Dz hs, Bool.true_and]
  cases hx : mixB s mix with
  | false => rfl
  | true =>
   have hm := MixOk.of hx
   simp only [cond_true, VP hs hm, Q1 hs hm, Option.bind_some, wordI]
   cases surelyB s mix <;> cases (yearsL s mix).isEmpty <;> rfl
def GL (xs : List Int) : Option (List Int) := cond (neB xs) (cond (roomOk 8 xs.length) (some xs) none) none
theorem zlf (xs R : List Int) (h : GL xs = some R) : ad Tryz.prog G0 140 [.sl (aa eI xs) xs.length false] (.own (aa eI R) R.length 1) := by
 unfold GL at h
 cases hn : neB xs with
 | false => rw [hn] at h; cases h
 | true =>
 cases hr : roomOk 8 xs.length with
 | false => rw [hn, hr] at h; cases h
 | true =>
 rw [hn, hr] at h
 simp only [cond_true, Option.some.injEq] at h
 subst h
 have hc : aa eI xs ≠ [] := by
  cases xs with
  | nil => cases hn
  | cons a l => intro hh; cases hh
 have hnil : ∀ (H : Nat → Option VObj) (x y : Operand), binV Tryz.prog H .eql 29 x y (.sl (aa eI xs) xs.length false) (.lit (.slice none 0 0)) = some (.lit (.bool false)) := fun H x y => Q4 Tryz.underlying29 hc
 have hb : aM Tryz.prog 29 0 [] = some ([], 1) := by kernel_rfl
 refine ad.run mixed Tryz.call140 Tryz.func140 rfl (by simp [Tryz.ntmps140]; kernel_rfl) ?_
 simp only [vz, tyf, hnil, hb, List.map_nil, seval]
 refine Q5 (w := 1) (enc := eI) (xs := ([] : List Int)) (ys := xs) (el := some 3) (fun _ => rfl) mz mA Tryz.underlying29 rfl hn (by rw [List.nil_append]; exact hr) ?_
 simp only [vz, tyf, List.nil_append, seval]
 refine ⟨rfl, .ref 5 0 xs.length 1 xs.length, by simp [Tryz.results140, resV, resL, ar, upd], (aa eI xs).length + 1, 5, _, aa eI xs, ⟨_, rfl⟩, by simp only [bG, fm, seval] <;> rfl, sL _ _ (eI_ok.treeL xs) (Nat.lt_succ_self _)⟩
def ExtOk (β y e : Nat) (mc : List VV) (mf : Nat) (ln lim : Nat) (may : List Int → Int → Option Bool) (I : Inv) (d : Nat) : Prop :=
 ∀ (p : List Int) (rest : List VV) (L : List (List Int)) (Fr : Nat → Prop) (H : Nat → Option VObj) (nx : Nat), p.length + d = ln → listsO may lim d p = some L → (∀ γ, Fr γ → γ < nx) → Fr y → Fr e → H y = some (.cells (some 184) [.yl β]) →
  H e = some (.cells (some 184) [.fn (.func 139) [] [.tp [.lit (.int .i64 ln)], .ptr y 0, .tp [.lit (.int .i64 lim)], .tp [.fn (.func mf) [] mc], .ptr e 0]]) →
  I (some (L.map (vx eI) ++ rest)) Fr H nx →
  aB Tryz.prog G0 139 [vx eI p, .tp [.lit (.int .i64 ln)], .ptr y 0, .tp [.lit (.int .i64 lim)], .tp [.fn (.func mf) [] mc], .ptr e 0] H nx
   (fun v H' nx' => ∃ b, v = .lit (.bool b) ∧ nx ≤ nx' ∧ (∀ γ, Fr γ → H' γ = H γ) ∧ I (if b then some rest else none) Fr H' nx') (fun _ _ _ => False)
theorem argsTm6 {a b c e f g : VV} : aO [a, b, c, e, f, g] = upd (upd (upd (upd (upd (upd (fun _ => .lit undef) 0 a) 1 b) 2 c) 3 e) 4 f) 5 g := by
 funext t; rcases t with _ | _ | _ | _ | _ | _ | t <;> simp [aO, upd]
theorem D0 {P : Program} {t e : Nat} {H : Nat → Option VObj} (hu : P.underlying t = some (.slice e)) : ∀ {p : List Int}, vlen P H t (vx eI p) = some (.lit (.int .i64 p.length))
 | [] => by simp [vlen, vx, hu, sls]
 | _ :: _ => by simp [vlen, vx, hu, sls]
theorem Q6 : ad Tryz.prog G0 140 [.lit (.slice none 0 0)] (.tree (.lit (.slice none 0 0))) := by
 have hnil : ∀ (H : Nat → Option VObj) (x y : Operand), binV Tryz.prog H .eql 29 x y (.lit (.slice none 0 0)) (.lit (.slice none 0 0)) = some (.lit (.bool true)) := fun H x y => by kernel_rfl
 refine ad.run mixed Tryz.call140 Tryz.func140 rfl (by simp [Tryz.ntmps140]; kernel_rfl) ?_
 simp only [vz, tyf, hnil, seval, ua]
 exact ⟨rfl, .lit (.slice none 0 0), by simp [Tryz.results140, resV, resL, ar, upd], 1, rfl⟩
theorem Q7 {β y e : Nat} {mc : List VV} {mf ln lim : Nat} {may : List Int → Int → Option Bool} {I : Inv} (hst : Stable I) (hr : Rounds Tryz.prog G0 β I) (htm : treeL mc = true) (D1 : 0 < ln) (hln : ln < 1000) (hlim : lim < 1000000)
  (hm : ∀ (p : List Int) (j : Int) (b : Bool), may p j = some b → ad Tryz.prog G0 mf (.sl (aa eI p) p.length false :: .lit (.int .i64 j) :: mc) (.tree (.lit (.bool b)))) : ∀ d, ExtOk β y e mc mf ln lim may I d := by
 intro d
 induction d with
 | zero =>
  intro p rest L Fr H nx hd hL hF hFy hFe hy he hI
  simp only [listsO, Option.some.injEq] at hL
  subst hL
  refine aB.run mixed Tryz.call139 Tryz.func139 rfl (by simp [Tryz.ntmps139]; kernel_rfl) ?_
  have hl := fun H => D0 (P := Tryz.prog) (H := H) Tryz.underlying29 (p := p)
  have hq : ((p.length : Int) == (ln : Int)) = true := by rw [show p.length = ln from hd]; simp
  simp only [argsTm6, vz, tyf, seval, ua, hl, hq, hy, rg]
  have ph : I (some (vx eI p :: rest)) Fr H (nx + 9) := hst _ _ _ _ _ _ _ hI (fun _ _ _ => rfl) (by omega) (fun γ h => .inl h)
  refine (hr (vx eI p) rest Fr H (nx + 9) (fun γ h => by have := hF γ h; omega) ph) (some none) _ _ _ rfl rfl ?_
  rintro b H' nx' ⟨h1, h2, h3⟩
  simp only [vz, tyf, seval, ua]
  exact bP (x := .lit (.bool b)) (by simp [Tryz.results139, resV, resL, ar, upd]) ⟨b, rfl, by omega, h2, h3⟩
 | succ d ih =>
  intro p rest L Fr H nx hd hL hF hFy hFe hy he hI
  rw [listsO] at hL
  refine aB.run mixed Tryz.call139 Tryz.func139 rfl (by simp [Tryz.ntmps139]; kernel_rfl) ?_
  have hl := fun H => D0 (P := Tryz.prog) (H := H) Tryz.underlying29 (p := p)
  have hq : ((p.length : Int) == (ln : Int)) = false := by rw [← hd]; simp; omega
  simp only [argsTm6, vz, tyf, seval, ua, hl, hq, hy, rg]
  obtain ⟨J, hJ⟩ : ∃ J : Nat → St → Prop, J = (fun m st => ∃ j : Nat, j + m = lim ∧ st.df = [] ∧ nx ≤ st.nx ∧ (∀ γ, Fr γ → st.H γ = H γ) ∧
   (∃ L, goL (listsO may lim d) may p (List.range' j m) = some L ∧ I (some (L.map (vx eI) ++ rest)) Fr st.H st.nx) ∧
   st.tm 0 = vx eI p ∧ st.tm 4 = .tp [.fn (.func mf) [] mc] ∧ st.tm 5 = .ptr e 0 ∧ st.tm 16 = .lit (.int .i64 lim) ∧ st.tm 17 = .lit (.int .i64 j)) := ⟨_, rfl⟩
  refine loopK mixed (by kernel_rfl) J lim (by rw [hJ]; refine ⟨0, by omega, rfl, ?_, fun _ _ => rfl, ⟨L, hL, hst _ _ _ _ _ _ _ hI (fun _ _ _ => rfl) ?_ (fun γ h => .inl h)⟩, ?_, ?_, ?_, ?_, ?_⟩ <;> first | rfl | (simp only; omega)) ?_
  rintro m ⟨tm, H1, bc, df⟩ hinv
  rw [hJ] at hinv
  obtain ⟨j, hj, hdf, hn, xb, ⟨L1, lx, rB⟩, e0, e4, e5, bw, bI⟩ := hinv
  simp only at hdf hn xb rB e0 e4 e5 bw bI
  subst hdf
  cases m with
  | zero =>
   have mw : decide ((j : Int) < (lim : Int)) = false := by simp; omega
   simp only [vz, tyf, seval, ua, bw, bI, mw]
   refine bP (x := .lit (.bool true)) (by simp [Tryz.results139, resV, resL, ar, upd]) ⟨true, rfl, by omega, xb, ?_⟩
   simp only [List.range'_zero, goL, Option.some.injEq] at lx
   subst lx
   exact hst _ _ _ _ _ _ _ rB (fun _ _ _ => rfl) (by omega) (fun γ h => .inl h)
  | succ m =>
   have mw : decide ((j : Int) < (lim : Int)) = true := by simp; omega
   simp only [vz, tyf, seval, ua, bw, bI, mw, e0, e4, e5]
   refine zk (fun tm => tm 0 = vx eI p ∧ tm 4 = .tp [.fn (.func mf) [] mc] ∧ tm 5 = .ptr e 0 ∧ tm 8 = .lit (.int .i64 j) ∧ tm 16 = .lit (.int .i64 lim) ∧ tm 17 = .lit (.int .i64 j)) (by refine ⟨?_, ?_, ?_, ?_, ?_, ?_⟩ <;> simp only [ua, seval, e0, e4, e5, bw, bI]) ?_
   clear e0 e4 e5 bw bI tm
   rintro tm ⟨e0, e4, e5, e8, bw, bI⟩
   refine UY mixed 11 rfl rfl rfl (by kernel_rfl) ?_
   rw [List.range'_succ] at lx
   unfold goL at lx
   rcases hmb : may p (j : Int) with _ | mb
   ·rw [hmb] at lx; cases lx
   rw [hmb, Option.bind_some] at lx
   have hmay' : ad Tryz.prog G0 mf (vx eI p :: .lit (.int .i64 j) :: mc) (.tree (.lit (.bool mb))) := ad.weaken (by
    rintro c W vs ⟨u, us, rfl, h1, h2⟩
    exact ⟨u, us, rfl, Oq h1, h2⟩) (hm p j mb hmb)
   simp only [vz, tyf, seval, ua, e0, e4, e5, e8, bw, bI, rg]
   refine .inl ⟨by simp only [zn, Ot eI_ok, Ls, htm, Bool.and_self], .tree _, hmay', ?_⟩
   have hw : i64.wrap ((j : Int) + 1) = ((j + 1 : Nat) : Int) := by rw [IntWalk.i64_in _ (by omega)]; simp
   have q9 : H1 e = _ := (xb e hFe).trans he
   have FB : H1 y = _ := (xb y hFy).trans hy
   have hen : e < bc := Nat.lt_of_lt_of_le (hF e hFe) hn
   have hyn : y < bc := Nat.lt_of_lt_of_le (hF y hFy) hn
   cases mb with
   | false =>
    rw [cond_false] at lx
    simp only [vz, tyf, seval, ua, e0, e4, e5, e8, bw, bI, rg, hw]
    rw [hJ]
    exact ⟨m, Nat.lt_succ_self _, j + 1, by omega, rfl, (by show nx ≤ bc + 19; omega), xb, ⟨L1, lx, hst _ _ _ _ _ _ _ rB (fun _ _ _ => rfl) (by show bc ≤ bc + 19; omega) (fun γ h => .inl h)⟩, by simp only [ua, seval, e0], by simp only [ua, seval, e4], by simp only [ua, seval, e5], by simp only [ua, seval, bw], by simp only [ua, seval]⟩
   | true =>
    rw [cond_true] at lx
    rcases hLa : listsO may lim d (p ++ [(j : Int)]) with _ | La
    ·rw [hLa] at lx; cases lx
    rw [hLa, Option.bind_some] at lx
    rcases hLr : goL (listsO may lim d) may p (List.range' (j + 1) m) with _ | Lr
    ·rw [hLr] at lx; cases lx
    rw [hLr, Option.bind_some, Option.some.injEq] at lx
    subst lx
    rw [List.map_append, List.append_assoc] at rB
    have hv : vx eI (p ++ [(j : Int)]) = .sl (aa eI (p ++ [(j : Int)])) (p ++ [(j : Int)]).length false := wi (by simp)
    have hroom : roomOk 8 (p ++ [(j : Int)]).length = true := by
     unfold roomOk
     simp only [List.length_append, List.length_cons, List.length_nil, decide_eq_true_eq]
     omega
    simp only [vz, tyf, seval, ua, e0, e4, e5, e8, bw, bI, rg, q9]
    rcases hpc : p with _ | ⟨p0, pt⟩
    ·subst hpc
     refine .inl ⟨rfl, .tree _, Q6, ?_⟩
     simp only [vz, tyf, seval, ua, e0, e4, e5, e8, bw, bI, rg, q9]
     have hroom1 : roomOk 8 ([] ++ [(j : Int)]).length = true := rfl
     refine sV (w := 1) (enc := eI) (ys := [(j : Int)]) (rz := some 3) (fun _ => rfl) mz mA Tryz.underlying29 (by simp only [ua, nm, seval]; rfl) (Nat.zero_lt_succ _) hroom1 ?_
     simp only [vz, tyf, seval, ua, nm, e0, e4, e5, e8, bw, bI, rg, q9]
     refine jS ⟨?_, ?_⟩
     ·simp only [jT, jU, eA, jV, and_true, true_and]
      repeat' (first | exact trivial | refine And.intro ?_ ?_ | rw [eA] | rw [jW] | exact Or.inl (by decide +kernel) | exact Or.inl (by dsimp only; decide +kernel) | (refine Or.inr ⟨?_, ?_⟩ <;> simp; done) | (refine Or.inr ⟨?_, ?_⟩ <;> simp <;> omega) | (refine Or.inr ⟨?_, ?_⟩ <;> simp [VEff.wr] <;> omega))
     simp only [vz, tyf, seval, ua, e0, e4, e5, e8, bw, bI, rg, q9]
     refine kopen ?_
     rw [FM]
     have hcell : (updH (updH H1 (bc + 12) (VObj.cells (some 3) [VV.lit (Value.int IntKind.i64 ↑j)])) (bc + 13) (VObj.cells (some 3) (aa eI ([] ++ [(j : Int)])))) (bc + 13) = some (.cells (some 3) (aa eI ([] ++ [(j : Int)]))) := by simp only [ua, seval]
     have hbig : ∀ γ, γ < bc → without (updH (updH H1 (bc + 12) (VObj.cells (some 3) [VV.lit (Value.int IntKind.i64 ↑j)])) (bc + 13) (VObj.cells (some 3) (aa eI ([] ++ [(j : Int)])))) (bc + 13) γ = H1 γ := by
      intro γ h
      simp only [updH, without]
      repeat rw [if_neg (by omega)]
     refine aB.mono (aB.freeze1 (γ := bc + 13) hcell (args' := [vx eI ([] ++ [(j : Int)]), .tp [.lit (.int .i64 ln)], .ptr y 0, .tp [.lit (.int .i64 lim)], .tp [.fn (.func mf) [] mc], .ptr e 0]) ⟨by rw [hv]; exact Frozen.own hcell (eI_ok.treeL _) (by rw [pc (w := 1) (fun _ => rfl)]), FrozenL.same⟩ (ih ([] ++ [(j : Int)]) _ La Fr _ _ (by simp at hd ⊢; omega) hLa (fun γ h => by have := hF γ h; omega) hFy hFe ((hbig y hyn).trans FB) ((hbig e hen).trans q9) (hst _ _ _ _ _ _ _ rB (fun γ h _ => hbig γ h) (by omega) (fun γ h => .inl h)))) ?_ (fun _ _ _ h => h.elim)
     rintro v H2 gZ ⟨b, rfl, h1, h2, h3⟩
     have D2 : ∀ γ, Fr γ → H2 γ = H γ := fun γ h => by rw [h2 γ h, hbig γ (Nat.lt_of_lt_of_le (hF γ h) hn), xb γ h]
     simp only [vz, tyf, seval, ua, e0, e4, e5, e8, bw, bI, rg, q9]
     cases b with
     | false =>
      simp only [vz, tyf, seval, ua, Bool.not_false]
      refine bP (x := .lit (.bool false)) (by simp [Tryz.results139, resV, resL, ar, upd]) ⟨false, rfl, by omega, D2, ?_⟩
      exact hst _ _ _ _ _ _ _ h3 (fun _ _ _ => rfl) (by omega) (fun γ h => .inl h)
     | true =>
      simp only [vz, tyf, seval, ua, Bool.not_true, hw]
      simp only [if_true] at h3
      rw [hJ]
      exact ⟨m, Nat.lt_succ_self _, j + 1, by omega, rfl, (by show nx ≤ gZ + 2; omega), D2, ⟨Lr, hLr, hst _ _ _ _ _ _ _ h3 (fun _ _ _ => rfl) (by show gZ ≤ gZ + 2; omega) (fun γ h => .inl h)⟩, by simp only [ua, seval, e0], by simp only [ua, seval, e4], by simp only [ua, seval, e5], by simp only [ua, seval, bw], by simp only [ua, seval]⟩
    rw [← hpc]
    have hne : p ≠ [] := by rw [hpc]; simp
    have hvp : vx eI p = .sl (aa eI p) p.length false := wi hne
    rw [hvp]
    have hcl : GL p = some p := by
     unfold GL
     have h1 : neB p = true := by rw [hpc]; rfl
     have h2 : roomOk 8 p.length = true := by
      unfold roomOk at hroom ⊢
      simp only [List.length_append, List.length_cons, List.length_nil, decide_eq_true_eq] at hroom ⊢
      omega
     rw [h1, h2]; rfl
    refine dkown (args0 := [.sl (aa eI p) p.length false]) (by first | (simp only [nrm, av]; done) | (simp only [nrm, av]; rfl) | rfl) (by simp only [tre, au, Bool.and_self]) (zlf _ _ hcl) ?_
    simp only [vz, tyf, seval, ua, e0, e4, e5, e8, bw, bI, rg, q9]
    refine k_app (w := 1) (enc := eI) (xs := p) (ys := [(j : Int)]) (el := none) (rz := some 3) (fun _ => rfl) mz mA Tryz.underlying29 (by simp only [ua, nm, seval]) (by simp only [ua, nm, seval]; rfl) (Nat.zero_lt_succ _) hroom ?_
    simp only [vz, tyf, seval, ua, nm, e0, e4, e5, e8, bw, bI, rg, q9]
    refine jS ⟨?_, ?_⟩
    ·simp only [jT, jU, eA, jV, and_true, true_and]
     repeat' (first | exact trivial | refine And.intro ?_ ?_ | rw [eA] | rw [jW] | exact Or.inl (by decide +kernel) | exact Or.inl (by dsimp only; decide +kernel) | (refine Or.inr ⟨?_, ?_⟩ <;> simp; done) | (refine Or.inr ⟨?_, ?_⟩ <;> simp <;> omega) | (refine Or.inr ⟨?_, ?_⟩ <;> simp [VEff.wr] <;> omega))
    simp only [vz, tyf, seval, ua, e0, e4, e5, e8, bw, bI, rg, q9]
    refine kopen ?_
    rw [FM]
    have hcell : (updH (without (updH (updH H1 (bc + 10) (VObj.cells none (aa eI p))) (bc + 12) (VObj.cells (some 3) [VV.lit (Value.int IntKind.i64 ↑j)])) (bc + 10)) (bc + 13) (VObj.cells (sameEl none 3) (aa eI (p ++ [(j : Int)])))) (bc + 13) = some (.cells (sameEl none 3) (aa eI (p ++ [(j : Int)]))) := by simp only [ua, seval]
    have hbig : ∀ γ, γ < bc → without (updH (without (updH (updH H1 (bc + 10) (VObj.cells none (aa eI p))) (bc + 12) (VObj.cells (some 3) [VV.lit (Value.int IntKind.i64 ↑j)])) (bc + 10)) (bc + 13) (VObj.cells (sameEl none 3) (aa eI (p ++ [(j : Int)])))) (bc + 13) γ = H1 γ := by
     intro γ h
     simp only [updH, without]
     repeat rw [if_neg (by omega)]
    refine aB.mono (aB.freeze1 (γ := bc + 13) hcell (args' := [vx eI (p ++ [(j : Int)]), .tp [.lit (.int .i64 ln)], .ptr y 0, .tp [.lit (.int .i64 lim)], .tp [.fn (.func mf) [] mc], .ptr e 0]) ⟨by rw [hv]; exact Frozen.own hcell (eI_ok.treeL _) (by rw [pc (w := 1) (fun _ => rfl)]), FrozenL.same⟩ (ih (p ++ [(j : Int)]) _ La Fr _ _ (by simp; omega) hLa (fun γ h => by have := hF γ h; omega) hFy hFe ((hbig y hyn).trans FB) ((hbig e hen).trans q9) (hst _ _ _ _ _ _ _ rB (fun γ h _ => hbig γ h) (by omega) (fun γ h => .inl h)))) ?_ (fun _ _ _ h => h.elim)
    rintro v H2 gZ ⟨b, rfl, h1, h2, h3⟩
    have D2 : ∀ γ, Fr γ → H2 γ = H γ := fun γ h => by rw [h2 γ h, hbig γ (Nat.lt_of_lt_of_le (hF γ h) hn), xb γ h]
    simp only [vz, tyf, seval, ua, e0, e4, e5, e8, bw, bI, rg, q9]
    cases b with
    | false =>
     simp only [vz, tyf, seval, ua, Bool.not_false]
     refine bP (x := .lit (.bool false)) (by simp [Tryz.results139, resV, resL, ar, upd]) ⟨false, rfl, by omega, D2, ?_⟩
     exact hst _ _ _ _ _ _ _ h3 (fun _ _ _ => rfl) (by omega) (fun γ h => .inl h)
    | true =>
     simp only [vz, tyf, seval, ua, Bool.not_true, hw]
     simp only [if_true] at h3
     rw [hJ]
     exact ⟨m, Nat.lt_succ_self _, j + 1, by omega, rfl, (by show nx ≤ gZ + 2; omega), D2, ⟨Lr, hLr, hst _ _ _ _ _ _ _ h3 (fun _ _ _ => rfl) (by show gZ ≤ gZ + 2; omega) (fun γ h => .inl h)⟩, by simp only [ua, seval, e0], by simp only [ua, seval, e4], by simp only [ua, seval, e5], by simp only [ua, seval, bw], by simp only [ua, seval]⟩
theorem Xd {mc : List VV} {mf ln lim : Nat} {may : List Int → Int → Option Bool} {L : List (List Int)} (htm : treeL mc = true) (D1 : 0 < ln) (hln : ln < 1000) (hlim : lim < 1000000)
  (hL : listsO may lim ln [] = some L) (hm : ∀ (p : List Int) (j : Int) (b : Bool), may p j = some b → ad Tryz.prog G0 mf (.sl (aa eI p) p.length false :: .lit (.int .i64 j) :: mc) (.tree (.lit (.bool b)))) :
  Iter Tryz.prog G0 (.fn (.func 138) [] [.tp [.lit (.int .i64 ln)], .tp [.lit (.int .i64 lim)], .tp [.fn (.func mf) [] mc]]) (L.map sI) := by
 rw [← Ou (fun q hq hn => by have := VW _ _ _ hL q hq; rw [hn] at this; simp at this; omega)]
 refine ⟨138, [], _, rfl, fun β I hst hr H nx hβ hI => ?_⟩
 refine aB.run mixed Tryz.call138 Tryz.func138 rfl (by simp [Tryz.ntmps138]; kernel_rfl) ?_
 simp only [List.nil_append, List.cons_append, argsTm4, vz, tyf, seval, ua, rg]
 refine kopen ?_
 rw [FM]
 refine aB.mono (Q7 hst hr htm D1 hln hlim hm ln [] [] L (fun γ => γ = nx + 0 ∨ γ = nx + 1) _ _ (by simp) hL (by rintro γ (rfl | rfl) <;> omega) (.inl rfl) (.inr rfl) (by simp [updH]) (by simp [updH]) ?_) ?_ (fun _ _ _ h => h.elim)
 ·rw [List.append_nil]
  refine hst _ _ _ _ _ _ _ hI ?_ (by omega) (by rintro γ (rfl | rfl) <;> right <;> omega)
  intro γ h _
  simp only [updH]
  repeat rw [if_neg (by omega)]
 rintro v H2 gZ ⟨b, rfl, h1, h2, h3⟩
 simp only [vz, tyf, seval, ua]
 refine Bh (x := .tup []) (by simp [Tryz.results138, resV, resL]) ?_
 replace h3 := hst _ _ noFr _ _ _ _ h3 (fun _ _ _ => rfl) (Nat.le_refl _) (fun γ h => h.elim)
 cases b with
 | true => exact .inl h3
 | false => exact .inr h3
def Q8 (bT : List Int) (dk : Int) (aH : Int) (cb : Int) : Option (Bool) := Option.bind (uZ bT) (fun r1 => cond ((i64.wrap ((i64.wrap (aH - r1)) - dk)) == 0) (some true) (cond (decide ((i64.wrap ((i64.wrap (aH - r1)) - dk)) > 0)) (some (decide ((List.length bT : Int) < (i64.wrap (cb - 1))))) (some false)))
theorem znu (bT : List Int) (dk : Int) (aH : Int) (cb : Int) (R : Bool) (h : Q8 bT dk aH cb = some R) : ad Tryz.prog G0 127 [.sl (aa eI bT) (List.length bT) false, .lit (.int .i64 dk), .tp ([.lit (.int .i64 aH)]), .tp ([.lit (.int .i64 cb)])] (.tree (.lit (.bool R))) := by
 refine ad.runR mixed Tryz.call127 Tryz.func127 rfl (by simp [Tryz.ntmps127]; kernel_rfl) ?_
 obtain ⟨KF, h, kF, kN⟩ := cQ h
 simp only [Q8] at h
 simp only [vz, tyf, nm, seval]
 refine fu (fun tm => tm 0 = .sl (aa eI bT) (List.length bT) false ∧ tm 1 = .lit (.int .i64 dk) ∧ tm 2 = .tp ([.lit (.int .i64 aH)]) ∧ tm 3 = .tp ([.lit (.int .i64 cb)]) ∧ True) (by refine ⟨?_, ?_, ?_, ?_, trivial⟩ <;> first | (simp only [ua, nm, seval] <;> rfl) | rfl) ?_
 rintro tm ⟨e2, e3, e4, e5, _⟩
 obtain ⟨r6, o7, h⟩ := optI h kN
 try simp only [hs] at h
 simp only [vz, tyf, e2, e3, e4, e5, nm, seval]
 refine dktA (Ng _ _ o7) ?_
 refine aV (fun tm => tm 0 = .sl (aa eI bT) (List.length bT) false ∧ tm 1 = .lit (.int .i64 dk) ∧ tm 3 = .tp ([.lit (.int .i64 cb)]) ∧ tm 8 = .lit (.int .i64 aH) ∧ tm 10 = .lit (.int .i64 r6) ∧ True) (by refine ⟨e2, e3, e5, ?_, ?_, trivial⟩ <;> first | (simp only [ua, e2, e3, e4, e5, nm, seval] <;> rfl) | rfl) ?_
 rintro tm ⟨e8, e9, aW, aX, aY, _⟩
 cases cV : ((i64.wrap ((i64.wrap (aH - r6)) - dk)) == 0)
 ·simp only [cV, hs] at h
  cases bH : (decide ((i64.wrap ((i64.wrap (aH - r6)) - dk)) > 0))
  ·simp only [bH, hs] at h
   try simp only [vz, tyf, e8, e9, aW, aX, aY, cV, bH, nm, seval]
   obtain rfl := kF _ h
   exact bl Tryz.results127 rfl
  simp only [bH, hs] at h
  try simp only [vz, tyf, e8, e9, aW, aX, aY, cV, bH, nm, seval]
  obtain rfl := kF _ h
  exact bl Tryz.results127 rfl
 simp only [cV, hs] at h
 try simp only [vz, tyf, e8, e9, aW, aX, aY, cV, nm, seval]
 obtain rfl := kF _ h
 exact bl Tryz.results127 rfl
theorem D3 {mc : List VV} {mf : Nat} {ln lim : Int} (htm : treeL mc = true) : ad Tryz.prog G0 125 [.lit (.int .i64 ln), .lit (.int .i64 lim), .fn (.func mf) [] mc] (.tree (.fn (.func 138) [] [.tp [.lit (.int .i64 ln)], .tp [.lit (.int .i64 lim)], .tp [.fn (.func mf) [] mc]])) := by
 refine ad.run mixed Tryz.call125 Tryz.func125 rfl (by simp [Tryz.ntmps125]; kernel_rfl) ?_
 simp only [vz, tyf, seval, ua, rg]
 refine ⟨rfl, .fn (.func 138) [] [.ptr 0 0, .ptr 1 0, .ptr 2 0], by simp [Tryz.results125, resV, resL, ar, upd], 20, ?_⟩
 simp [sealV, aT, VV.tree, treeL, updH, htm]
def mayC (t p : Int) : List VV := [.tp [.lit (.int .i64 p)], .tp [.lit (.int .i64 t)]]
theorem D4 {t p : Int} : treeL (mayC t p) = true := rfl
def itM (t p : Int) : VV := .fn (.func 138) [] [.tp [.lit (.int .i64 t)], .tp [.lit (.int .i64 (i64.wrap (p + 1)))], .tp [.fn (.func 127) [] (mayC t p)]]
theorem Q9 (t p : Int) : ad Tryz.prog G0 110 [.lit (.int .i64 t), .lit (.int .i64 p)] (.tree (itM t p)) := by
 refine ad.run mixed Tryz.call110 Tryz.func110 rfl (by simp [Tryz.ntmps110]; kernel_rfl) ?_
 simp only [vz, tyf, seval, ua, rg]
 refine kopen ?_
 rw [FM]
 refine aB.mono (aB.freezeN [1, 0] ?_ (args' := [.lit (.int .i64 t), .lit (.int .i64 (i64.wrap (p + 1))), .fn (.func 127) [] (mayC t p)]) ⟨.same, .same, Frozen.closure [(1, [.lit (.int .i64 p)]), (0, [.lit (.int .i64 t)])] 20 (by simp) ?_, trivial⟩ (aB.of_pure (D3 D4) rfl)) ?_ (fun _ _ _ h => h.elim)
 ·intro γ hγ
  rcases List.mem_cons.1 hγ with rfl | hγ
  ·exact ⟨some 3, [.lit (.int .i64 p)], by simp [updH]⟩
  rw [List.mem_singleton.1 hγ]
  exact ⟨some 3, [.lit (.int .i64 t)], by simp [updH]⟩
 ·intro q hq
  rcases List.mem_cons.1 hq with rfl | hq
  ·exact ⟨⟨some 3, by simp [updH]⟩, by simp [lessN], rfl, by simp⟩
  rw [List.mem_singleton.1 hq]
  exact ⟨⟨some 3, by simp [updH]⟩, by simp [lessN], rfl, by simp⟩
 rintro v H2 gZ ⟨rfl, rfl, rfl⟩
 simp only [vz, tyf, seval, ua]
 refine ⟨rfl, itM t p, by simp [Tryz.results110, resV, resL, ar, upd]; rfl, 2, ?_⟩
 simp [sealV, itM, VV.tree, treeL, mayC]
def smallOk (n m : Int) : Bool := decide (0 < n) && (decide (n < 1000) && (decide (0 ≤ m) && decide (m < 999999)))
def Gn (t p : Int) : Option (List (List Int)) := cond (smallOk t p) (listsO (fun l j => Q8 l j p t) (p + 1).toNat t.toNat []) none
theorem Pd (t p : Int) (R : List (List Int)) (h : Gn t p = some R) : ad Tryz.prog G0 110 [.lit (.int .i64 t), .lit (.int .i64 p)] (.tree (itM t p)) ∧ Iter Tryz.prog G0 (itM t p) (R.map sI) := by
 refine ⟨Q9 t p, ?_⟩
 unfold Gn at h
 cases hs : smallOk t p with
 | false => rw [hs] at h; cases h
 | true =>
 rw [hs, cond_true] at h
 simp only [smallOk, Bool.and_eq_true, decide_eq_true_eq] at hs
 obtain ⟨h1, h2, h3, h4⟩ := hs
 obtain ⟨n, rfl⟩ : ∃ n : Nat, t = n := ⟨t.toNat, by omega⟩
 obtain ⟨m, rfl⟩ : ∃ m : Nat, p = m := ⟨p.toNat, by omega⟩
 have e1 : i64.wrap ((m : Int) + 1) = ((m + 1 : Nat) : Int) := by rw [IntWalk.i64_in _ (by omega)]; simp
 have e2 : ((m : Int) + 1).toNat = m + 1 := by omega
 have e3 : ((n : Int)).toNat = n := by omega
 unfold itM
 rw [e2, e3] at h
 rw [e1]
 exact Xd D4 (by omega) (by omega) (by omega) h (fun l j b hb => znu l j m n b hb)
end Go.V
end
