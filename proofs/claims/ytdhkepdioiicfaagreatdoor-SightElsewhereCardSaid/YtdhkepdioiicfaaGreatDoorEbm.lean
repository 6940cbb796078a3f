/- Part of a proof: a logic of values by content, lifted functions, what follows. -/
import Derived.Test.YtdhkepdioiicfaaGreatDoorEbf
import Derived.Test.YtdhkepdioiicfaaGreatDoorEbl
import Derived.Test.YtdhkepdioiicfaaGreatDoorEbi
import Derived.Test.YtdhkepdioiicfaaGreatDoorEbj
set_option linter.all false
set_option maxRecDepth 4000
set_option maxHeartbeats 4000000
section
namespace Go.V
open Go Go.Proofs
def g_sight_readFrom_l1 (x0_s : GSightStreet) (x1_b : GSightBoard) (c0_8 : Int) : Nat → Int → (List (GSightPlace × Int)) → Option (LOut (Unit) ((List (GSightPlace × Int))))
 | 0, c1_13, c1_o0 => some (.go c1_o0)
 | k1 + 1, c1_13, c1_o0 => Option.bind (g_sight_seen x0_s x1_b (GSightPlace.mk c0_8 (c1_13 + 1))) (fun r5 => g_sight_readFrom_l1 x0_s x1_b c0_8 k1 (c1_13 + 1) (mapSet q34 c1_o0 (GSightPlace.mk c0_8 (c1_13 + 1)) r5))
def g_sight_readFrom_l0 (x0_s : GSightStreet) (x1_b : GSightBoard) : Nat → Int → (List (GSightPlace × Int)) → Option (LOut (Unit) ((List (GSightPlace × Int))))
 | 0, c0_8, c0_o0 => some (.go c0_o0)
 | k0 + 1, c0_8, c0_o0 => cond (boundOk x0_s.Width) (lbind (g_sight_readFrom_l1 x0_s x1_b c0_8 (Int.toNat (x0_s.Width - 0)) 0 c0_o0) (fun r7 => some (.ret r7)) (fun c6 => g_sight_readFrom_l0 x0_s x1_b k0 (c0_8 + 1) c6) (fun _ _ => none)) none
def g_sight_readFrom (x0_s : GSightStreet) (x1_b : GSightBoard) : Option (List (GSightPlace × Int)) := cond (boundOk (IntKind.i64.wrap (x0_s.Length + 1))) (lbind (g_sight_readFrom_l0 x0_s x1_b (Int.toNat ((IntKind.i64.wrap (x0_s.Length + 1)) - 0)) 0 ([] : List (GSightPlace × Int))) (fun r9 => some ([] : List (GSightPlace × Int))) (fun c8 => some c8) (fun _ _ => none)) none
theorem g_sight_readFrom_ok (x0_s : GSightStreet) (x1_b : GSightBoard) (R : List (GSightPlace × Int)) (h : g_sight_readFrom x0_s x1_b = some R) : VPure Tryz.prog G0 56 [.agg (cGSightStreet x0_s), .agg (cGSightBoard x1_b)] (.tree (.mt (mtK kv34 R) (mtV ev46 R))) := by
 refine VPure.runM mixed Tryz.call56 Tryz.func56 rfl (by simp [Tryz.ntmps56]; kernel_rfl) ?_
 obtain ⟨KF, h, kF, kN⟩ := fun_intro h
 simp only [g_sight_readFrom] at h
 try simp only [vz, mq, mqm, tyf, mqt, nm, seval]
 refine kopen ?_
 rw [openK_eq]
 refine VOpen.run mixed Tryz.call98 Tryz.func98 rfl (by simp [Tryz.ntmps98]; kernel_rfl) ?_
 try simp only [vz, mq, mqm, tyf, mqt, nm, seval]
 refine opd_ret (x := (VV.fn (Fn.func 126) [] [.ptr 8 0])) (by first | (simp only [Tryz.results98, resV, resL, resV1, tgt_ptr, tgt_tp, uw, cr, tyf, mqt, nm, seval] <;> rfl) | rfl) ?_
 try simp only [vz, mq, mqm, tyf, mqt, nm, seval]
 refine range_open (f := 126) (first := []) (captured := [.ptr 8 0]) (by first | (simp only [ev_tmp, ev_func, upd_apply, nm, seval] <;> rfl) | rfl) ?_
 intro LO10 hLO10
 refine VOpen.run mixed Tryz.call126 Tryz.func126 rfl (by simp [Tryz.ntmps126]; kernel_rfl) ?_
 cases g12 : (boundOk (IntKind.i64.wrap (x0_s.Length + 1)))
 ·simp only [g12, hs] at h
  exact absurd h kN
 simp only [g12, hs] at h
 simp only [vz, mq, mqm, tyf, mqt, g12, nm, seval]
 obtain ⟨K11, h, kR11, kG11, kB11, kN11⟩ := lbind_intro h kN
 obtain ⟨f11, hf11, h⟩ := call3 h
 obtain ⟨I11, hI11⟩ : ∃ I : Nat → St → Prop, I = (fun m st => ∃ (p11 : Nat) (c11_8 : Int) (c11_o0 : List (GSightPlace × Int)), p11 = m ∧ loOk c11_8 = true ∧ Int.toNat ((IntKind.i64.wrap (x0_s.Length + 1)) - c11_8) = p11 ∧ st.df = [] ∧ 18 ≤ st.nx ∧ st.H 0 = some (.cells (some 27) (cGSightStreet x0_s)) ∧ st.H 1 = some (.cells (some 40) (cGSightBoard x1_b)) ∧ st.H 3 = some (.map (encM kv34 ev46 c11_o0)) ∧ st.H 4 = some (.cells (some 97) ([.mp 3])) ∧ st.H 8 = some (.cells (some 27) (cGSightStreet x0_s)) ∧ st.H 12 = some (.deferred (some [])) ∧ st.H 13 = some LO10 ∧ st.tm 0 = .yl 13 ∧ st.tm 1 = .ptr 8 0 ∧ st.tm 7 = .lit (.int .i64 (IntKind.i64.wrap (x0_s.Length + 1))) ∧ st.tm 8 = .lit (.int .i64 c11_8) ∧ K11 (f11 p11 c11_8 c11_o0)) := ⟨_, rfl⟩
 refine loopK mixed (by kernel_rfl) I11 (Int.toNat ((IntKind.i64.wrap (x0_s.Length + 1)) - 0)) (by rw [hI11]; refine ⟨Int.toNat ((IntKind.i64.wrap (x0_s.Length + 1)) - 0), 0, ([] : List (GSightPlace × Int)), rfl, (by rfl), rfl, rfl, (show 18 ≤ 18 by omega), ?_, ?_, ?_, ?_, ?_, ?_, ?_, ?_, ?_, ?_, ?_, h⟩ <;> first | (simp only [ua, encM_nil, nm, seval] <;> rfl) | rfl) ?_
 rintro m ⟨tm, H, nx11, df⟩ hinv
 rw [hI11] at hinv
 obtain ⟨p11, c11_8, c11_o0, rfl, hi11, hp11, hdf, hn11, H13, H14, H15, H16, H17, H18, H19, e20, e21, e22, e23, h⟩ := hinv
 simp only at hdf hn11 H13 H14 H15 H16 H17 H18 H19 e20 e21 e22 e23
 have n24 := base_ne0 (m := 18) (b := nx11) (by omega)
 subst hdf hf11
 cases p11 with
 | zero =>
  have d25 : (decide (c11_8 < (IntKind.i64.wrap (x0_s.Length + 1)))) = false := cnt_not_lt hp11
  simp only [g_sight_readFrom_l0, hs, reduceCtorEq] at h
  replace h := kG11 _ h
  try dsimp only at h
  try simp only [hs] at h
  try simp only [vz, mq, mqm, tyf, mqt, g12, n24, e20, e21, e22, e23, H13, H14, H15, H16, H17, H18, H19, d25, nm, seval]
  refine opd_normal (x := .tup []) (by simp [Tryz.results126, resV, resL]) ?_
  refine rangeEnd_go hLO10 (by simp only [updH_apply, without_apply, n24, H13, H14, H15, H16, H17, H18, H19, nm, seval] <;> rfl) ?_
  intro LX26
  try simp only [vz, mq, mqm, tyf, mqt, g12, n24, H13, H14, H15, H16, H17, H18, H19, d25, nm, seval]
  refine opd_coll (by simp only [updH_apply, without_apply, n24, H13, H14, H15, H16, H17, H18, H19, nm, seval] <;> rfl) ?_
  try simp only [vz, mq, mqm, tyf, mqt, g12, n24, H13, H14, H15, H16, H17, H18, H19, d25, nm, seval]
  refine opd_ret (x := (.mp 3)) (by first | (simp only [Tryz.results56, resV, resL, resV1, tgt_ptr, tgt_tp, uw, cr, tyf, mqt, g12, n24, H13, H14, H15, H16, H17, H18, H19, d25, nm, seval] <;> rfl) | rfl) ?_
  obtain rfl := kF _ h
  refine rm_map et46 ?_
  ·simp only [uw, encM_nil, cr, tyf, mqt, g12, n24, H13, H14, H15, H16, H17, H18, H19, d25, nm, seval] <;> rfl
 | succ p11 =>
  have d27 : (decide (c11_8 < (IntKind.i64.wrap (x0_s.Length + 1)))) = true := cnt_lt hp11
  have w28 := cnt_wrap hi11 hp11 g12
  simp only [g_sight_readFrom_l0, hs, reduceCtorEq] at h
  cases g30 : (boundOk x0_s.Width)
  ·simp only [g30, hs] at h
   exact absurd h kN11
  simp only [g30, hs] at h
  simp only [vz, mq, mqm, tyf, mqt, g12, n24, e20, e21, e22, e23, H13, H14, H15, H16, H17, H18, H19, d27, w28, g30, nm, seval]
  obtain ⟨K29, h, kR29, kG29, kB29, kN29⟩ := lbind_intro h kN11
  obtain ⟨f29, hf29, h⟩ := call3 h
  obtain ⟨I29, hI29⟩ : ∃ I : Nat → St → Prop, I = (fun m st => ∃ (p29 : Nat) (c29_13 : Int) (c29_o0 : List (GSightPlace × Int)), p29 = m ∧ loOk c29_13 = true ∧ Int.toNat (x0_s.Width - c29_13) = p29 ∧ st.df = [] ∧ nx11 + 6 ≤ st.nx ∧ st.H 0 = some (.cells (some 27) (cGSightStreet x0_s)) ∧ st.H 1 = some (.cells (some 40) (cGSightBoard x1_b)) ∧ st.H 3 = some (.map (encM kv34 ev46 c29_o0)) ∧ st.H 4 = some (.cells (some 97) ([.mp 3])) ∧ st.H 8 = some (.cells (some 27) (cGSightStreet x0_s)) ∧ st.H 12 = some (.deferred (some [])) ∧ st.H 13 = some LO10 ∧ st.tm 0 = .yl 13 ∧ st.tm 1 = .ptr 8 0 ∧ st.tm 3 = .lit (.int .i64 c11_8) ∧ st.tm 7 = .lit (.int .i64 (IntKind.i64.wrap (x0_s.Length + 1))) ∧ st.tm 8 = .lit (.int .i64 c11_8) ∧ st.tm 12 = .lit (.int .i64 x0_s.Width) ∧ st.tm 13 = .lit (.int .i64 c29_13) ∧ K29 (f29 p29 c29_13 c29_o0)) := ⟨_, rfl⟩
  refine loopK mixed (by kernel_rfl) I29 (Int.toNat (x0_s.Width - 0)) (by rw [hI29]; refine ⟨Int.toNat (x0_s.Width - 0), 0, c11_o0, rfl, (by rfl), rfl, rfl, (show nx11 + 6 ≤ nx11 + 6 by omega), ?_, ?_, ?_, ?_, ?_, ?_, ?_, e20, e21, ?_, e22, e23, ?_, ?_, h⟩ <;> first | (simp only [ua, encM_nil, n24, e20, e21, e22, e23, H13, H14, H15, H16, H17, H18, H19, d27, w28, nm, seval] <;> rfl) | rfl) ?_
  rintro m ⟨tm, H, nx29, df⟩ hinv
  rw [hI29] at hinv
  obtain ⟨p29, c29_13, c29_o0, rfl, hi29, hp29, hdf, hn29, H31, H32, H33, H34, H35, H36, H37, e38, e39, e40, e41, e42, e43, e44, h⟩ := hinv
  simp only at hdf hn29 H31 H32 H33 H34 H35 H36 H37 e38 e39 e40 e41 e42 e43 e44
  have n45 := base_ne0 (m := 18) (b := nx29) (by omega)
  have n46 := base_ne (a := nx11) (m := 6) (b := nx29) (by omega)
  subst hdf hf29
  cases p29 with
  | zero =>
   have d47 : (decide (c29_13 < x0_s.Width)) = false := cnt_not_lt hp29
   simp only [g_sight_readFrom_l1, hs, reduceCtorEq] at h
   replace h := kG29 _ h
   try dsimp only at h
   try simp only [hs] at h
   simp only [vz, mq, mqm, tyf, mqt, g12, n24, d27, w28, g30, n45, n46, e38, e39, e40, e41, e42, e43, e44, H31, H32, H33, H34, H35, H36, H37, d47, nm, seval]
   exact ⟨p11, Nat.lt_succ_self _, by rw [hI11]; refine ⟨p11, c11_8 + 1, c29_o0, rfl, cnt_lo hi11, cnt_next hp11, rfl, (show 18 ≤ nx29 + 3 by omega), ?_, ?_, ?_, ?_, ?_, ?_, ?_, e38, e39, e41, ?_, h⟩ <;> first | (simp only [ua, encM_nil, n24, d27, w28, n45, n46, e38, e39, e40, e41, e42, e43, e44, H31, H32, H33, H34, H35, H36, H37, d47, nm, seval] <;> rfl) | rfl⟩
  | succ p29 =>
   have d48 : (decide (c29_13 < x0_s.Width)) = true := cnt_lt hp29
   have w49 := cnt_wrap hi29 hp29 g30
   simp only [g_sight_readFrom_l1, hs, reduceCtorEq] at h
   try simp only [vz, mq, mqm, tyf, mqt, g12, n24, d27, w28, g30, n45, n46, e38, e39, e40, e41, e42, e43, e44, H31, H32, H33, H34, H35, H36, H37, d48, w49, rg, nm, seval]
   refine yield_open mixed (psl := [10]) hLO10 (by simp only [updH_apply, without_apply, n24, n45, n46, H31, H32, H33, H34, H35, H36, H37, nm, seval] <;> rfl) tmL_length rfl (by kernel_rfl) (by kernel_rfl) ?_
   intro LB50 LD50 hLB50 hLD50
   refine cwp_tmcut (fun tm => tm 2 = .ptr 0 0 ∧ tm 3 = .ptr 1 0 ∧ tm 5 = .ptr 4 0 ∧ tm 10 = .agg ([.lit (.int .i64 c11_8)] ++ [.lit (.int .i64 (c29_13 + 1))]) ∧ True) (by refine ⟨?_, ?_, ?_, ?_, trivial⟩ <;> (simp only [round_tm, round_tm0, Tryz.ntmps56, e38, e39, e40, e41, e42, e43, e44, nm, seval] <;> first | rfl | trivial)) ?_
   rintro tm ⟨e51, e52, e53, e54, _⟩
   have b55 := And.intro g12 (And.intro n24 (And.intro d27 (And.intro w28 (And.intro g30 (And.intro n45 (And.intro n46 (And.intro H31 (And.intro H32 (And.intro H33 (And.intro H34 (And.intro H35 (And.intro H36 (And.intro H37 (And.intro d48 w49))))))))))))))
   try simp only [vz, mq, mqm, tyf, mqt, b55, e51, e52, e53, e54, nm, seval]
   rw [rndAs_normal (by simp only [updH_apply, without_apply, b55, nm, seval] <;> rfl)]
   simp only [vz, mq, mqm, tyf, mqt, b55, e51, e52, e53, e54, nm, seval]
   refine cwp_drawTF (fun tm => tm 2 = .ptr 0 0 ∧ tm 3 = .ptr 1 0 ∧ tm 5 = .ptr 4 0 ∧ tm 6 = .ptr (nx29 + 10) 0 ∧ True) (by refine ⟨e51, e52, e53, ?_, trivial⟩ <;> first | (simp only [ua, encM_nil, b55, e51, e52, e53, e54, nm, seval] <;> rfl) | rfl) ?_
   rintro tm ⟨e56, e57, e58, e59, _⟩
   rcases o61 : (g_sight_seen x0_s x1_b (GSightPlace.mk c11_8 (c29_13 + 1))) with _ | r60
   ·simp only [o61, hs] at h
    exact absurd h kN29
   simp only [o61, hs] at h
   simp only [vz, mq, mqm, tyf, mqt, b55, e56, e57, e58, e59, nm, seval]
   refine dktree (args0 := [.agg (cGSightStreet x0_s), .agg (cGSightBoard x1_b), .agg (cGSightPlace (GSightPlace.mk c11_8 (c29_13 + 1)))]) (by first | (simp only [nrm, tynrm] <;> rfl) | rfl) (by simp only [tre, tytre, Bool.and_self]) (g_sight_seen_ok _ _ _ _ o61) ?_
   refine fin_cut (fun tm => tm 11 = .mp 3 ∧ tm 12 = .agg ([.lit (.int .i64 c11_8)] ++ [.lit (.int .i64 (c29_13 + 1))]) ∧ tm 16 = .lit (.int .i64 r60) ∧ True) (by refine ⟨?_, ?_, ?_, trivial⟩ <;> first | (simp only [ua, encM_nil, b55, e56, e57, e58, e59, nm, seval] <;> rfl) | rfl) ?_
   rintro tm ⟨e62, e63, e64, _⟩
   have w65 := fun H => up97 (β := 3) c29_o0 (GSightPlace.mk c11_8 (c29_13 + 1)) r60 H
   try simp only [encM_nil] at w65
   simp only [vz, mq, mqm, tyf, mqt, b55, e62, e63, e64, w65, nm, seval]
   refine drawK_nil ⟨?_, ?_⟩
   ·simp only [traceR_cons, traceR_nil, hitK_quiet, hitK_nil, and_true, true_and]
    repeat' (first | exact trivial | refine And.intro ?_ ?_ | rw [hitK_quiet] | rw [hitK_cons] | exact Or.inl (by decide +kernel) | exact Or.inl (by dsimp only; decide +kernel) | (refine Or.inr ⟨?_, ?_⟩ <;> simp; done) | (refine Or.inr ⟨?_, ?_⟩ <;> simp <;> omega) | (refine Or.inr ⟨?_, ?_⟩ <;> simp [VEff.wr] <;> omega))
   try simp only [vz, mq, mqm, tyf, mqt, b55, e62, e63, e64, w65, nm, seval]
   rw [rnd_normal (by simp only [updH_apply, without_apply, b55, nm, seval] <;> rfl)]
   simp only [vz, mq, mqm, tyf, mqt, b55, w65, e38, e39, e40, e41, e42, e43, e44, nm, seval]
   exact ⟨p29, Nat.lt_succ_self _, by rw [hI29]; refine ⟨p29, c29_13 + 1, (mapSet q34 c29_o0 (GSightPlace.mk c11_8 (c29_13 + 1)) r60), rfl, cnt_lo hi29, cnt_next hp29, rfl, (show nx11 + 6 ≤ nx29 + 21 by omega), ?_, ?_, ?_, ?_, ?_, ?_, ?_, e38, e39, e40, e41, e42, e43, ?_, h⟩ <;> first | (simp only [ua, encM_nil, b55, w65, e38, e39, e40, e41, e42, e43, e44, nm, seval] <;> rfl) | rfl⟩
end Go.V
end
section
namespace Go.V
open Go Go.Proofs
def g_sight_Many_l5 (r4 : List (GSightPlace × Int)) (c4_8 : Int) : Nat → Int → Int → Option (LOut (Unit) (Int))
 | 0, c5_13, c5_o0 => some (.go c5_o0)
 | k5 + 1, c5_13, c5_o0 => cond (decide ((mapGet q34 0 r4 (GSightPlace.mk c4_8 (c5_13 + 1))) ≥ 2)) (g_sight_Many_l5 r4 c4_8 k5 (c5_13 + 1) (IntKind.i64.wrap (c5_o0 + 1))) (g_sight_Many_l5 r4 c4_8 k5 (c5_13 + 1) c5_o0)
def g_sight_Many_l4 (x0_s : GSightStreet) (r4 : List (GSightPlace × Int)) : Nat → Int → Int → Option (LOut (Unit) (Int))
 | 0, c4_8, c4_o0 => some (.go c4_o0)
 | k4 + 1, c4_8, c4_o0 => cond (boundOk x0_s.Width) (lbind (g_sight_Many_l5 r4 c4_8 (Int.toNat (x0_s.Width - 0)) 0 c4_o0) (fun r16 => some (.ret r16)) (fun c15 => g_sight_Many_l4 x0_s r4 k4 (c4_8 + 1) c15) (fun _ _ => none)) none
def g_sight_Many_l3 (r4 : List (GSightPlace × Int)) (c2_8 : Int) : Nat → Int → Int → Option (LOut (Unit) (Int))
 | 0, c3_13, c3_o0 => some (.go c3_o0)
 | k3 + 1, c3_13, c3_o0 => cond (decide ((mapGet q34 0 r4 (GSightPlace.mk c2_8 (c3_13 + 1))) ≥ 2)) (g_sight_Many_l3 r4 c2_8 k3 (c3_13 + 1) (IntKind.i64.wrap (c3_o0 + 1))) (g_sight_Many_l3 r4 c2_8 k3 (c3_13 + 1) c3_o0)
def g_sight_Many_l2 (x0_s : GSightStreet) (r4 : List (GSightPlace × Int)) : Nat → Int → Int → Option (LOut (Unit) (Int))
 | 0, c2_8, c2_o0 => some (.go c2_o0)
 | k2 + 1, c2_8, c2_o0 => cond (boundOk x0_s.Width) (lbind (g_sight_Many_l3 r4 c2_8 (Int.toNat (x0_s.Width - 0)) 0 c2_o0) (fun r11 => some (.ret r11)) (fun c10 => g_sight_Many_l2 x0_s r4 k2 (c2_8 + 1) c10) (fun _ _ => none)) none
def g_sight_Many_l1 (r4 : List (GSightPlace × Int)) (c0_8 : Int) : Nat → Int → Int → Option (LOut (Unit) (Int))
 | 0, c1_13, c1_o0 => some (.go c1_o0)
 | k1 + 1, c1_13, c1_o0 => cond ((mapGet q34 0 r4 (GSightPlace.mk c0_8 (c1_13 + 1))) == 3) (g_sight_Many_l1 r4 c0_8 k1 (c1_13 + 1) (IntKind.i64.wrap (c1_o0 + 1))) (g_sight_Many_l1 r4 c0_8 k1 (c1_13 + 1) c1_o0)
def g_sight_Many_l0 (x0_s : GSightStreet) (r4 : List (GSightPlace × Int)) : Nat → Int → Int → Option (LOut (Unit) (Int))
 | 0, c0_8, c0_o0 => some (.go c0_o0)
 | k0 + 1, c0_8, c0_o0 => cond (boundOk x0_s.Width) (lbind (g_sight_Many_l1 r4 c0_8 (Int.toNat (x0_s.Width - 0)) 0 c0_o0) (fun r8 => some (.ret r8)) (fun c7 => g_sight_Many_l0 x0_s r4 k0 (c0_8 + 1) c7) (fun _ _ => none)) none
def g_sight_Many (x0_s : GSightStreet) (x1_board : Int) : Option (Int × Int × Int) := Option.bind (g_sight_isStreet x0_s) (fun r1 => cond (r1) (Option.bind (g_sight_isBoard x0_s x1_board) (fun r2 => cond (r2) (Option.bind (getI x0_s.Boards x1_board) (fun x3 => Option.bind (g_sight_readFrom x0_s x3) (fun r4 => cond (boundOk (IntKind.i64.wrap (x0_s.Length + 1))) (lbind (g_sight_Many_l0 x0_s r4 (Int.toNat ((IntKind.i64.wrap (x0_s.Length + 1)) - 0)) 0 0) (fun r14 => lbind (g_sight_Many_l4 x0_s r4 (Int.toNat ((IntKind.i64.wrap (x0_s.Length + 1)) - 0)) 0 0) (fun r18 => some (0, 0, 0)) (fun c17 => some (0, c17, 0)) (fun _ _ => none)) (fun c9 => lbind (g_sight_Many_l2 x0_s r4 (Int.toNat ((IntKind.i64.wrap (x0_s.Length + 1)) - 0)) 0 0) (fun r13 => some (c9, 0, 0)) (fun c12 => some (c9, c12, 0)) (fun _ _ => none)) (fun _ _ => none)) none))) (some (0, 0, 2)))) (some (0, 0, 2)))
theorem g_sight_Many_ok (x0_s : GSightStreet) (x1_board : Int) (R : Int × Int × Int) (h : g_sight_Many x0_s x1_board = some R) : VPure Tryz.prog G0 17 [.agg (cGSightStreet x0_s), .lit (.int .i64 x1_board)] (.tree (.tup [.lit (.int .i64 R.1), .lit (.int .i64 R.2.1), .lit (.int .i64 R.2.2)])) := by
 refine VPure.runR mixed Tryz.call17 Tryz.func17 rfl (by simp [Tryz.ntmps17]; kernel_rfl) ?_
 obtain ⟨KF, h, kF, kN⟩ := fun_intro h
 simp only [g_sight_Many] at h
 rcases o20 : (g_sight_isStreet x0_s) with _ | r19
 ·simp only [o20, hs] at h
  exact absurd h kN
 simp only [o20, hs] at h
 simp only [vz, mq, mqm, tyf, mqt, nm, seval]
 refine ktree (args0 := [.agg (cGSightStreet x0_s)]) (by first | (simp only [nrm, tynrm] <;> rfl) | rfl) (by simp only [tre, tytre, Bool.and_self]) (g_sight_isStreet_ok _ _ o20) ?_
 refine fin_cut (fun tm => tm 1 = .lit (.int .i64 x1_board) ∧ tm 2 = .ptr 0 0 ∧ tm 11 = .lit (.bool r19) ∧ True) (by refine ⟨?_, ?_, ?_, trivial⟩ <;> first | (simp only [ua, encM_nil, nm, seval] <;> rfl) | rfl) ?_
 rintro tm ⟨e21, e22, e23, _⟩
 cases d24 : (r19)
 ·simp only [d24, hs] at h
  try simp only [vz, mq, mqm, tyf, mqt, e21, e22, e23, d24, nm, seval]
  refine opd_ret (x := (.tup [.lit (.int .i64 0), .lit (.int .i64 0), .lit (.int .i64 2)])) (by first | (simp only [Tryz.results17, resV, resL, resV1, tgt_ptr, tgt_tp, uw, cr, tyf, mqt, d24, nm, seval] <;> rfl) | rfl) ?_
  obtain rfl := kF _ h
  refine rr_tree ?_ ?_
  ·simp only [tre, tytre, Bool.and_self]
  ·first | (simp only [outV, uw, showV_ref, cr, tyf, mqt, nrm, tynrm, e21, e22, e23, d24, nm, seval] <;> rfl) | rfl
 simp only [d24, hs] at h
 rcases o26 : (g_sight_isBoard x0_s x1_board) with _ | r25
 ·simp only [o26, hs] at h
  exact absurd h kN
 simp only [o26, hs] at h
 simp only [vz, mq, mqm, tyf, mqt, e21, e22, e23, d24, nm, seval]
 refine ktree (args0 := [.agg (cGSightStreet x0_s), .lit (.int .i64 x1_board)]) (by first | (simp only [nrm, tynrm] <;> rfl) | rfl) (by simp only [tre, tytre, Bool.and_self]) (g_sight_isBoard_ok _ _ _ o26) ?_
 refine fin_cut (fun tm => tm 1 = .lit (.int .i64 x1_board) ∧ tm 2 = .ptr 0 0 ∧ tm 13 = .lit (.bool false) ∧ tm 16 = .lit (.bool r25) ∧ True) (by refine ⟨e21, e22, ?_, ?_, trivial⟩ <;> first | (simp only [ua, encM_nil, e21, e22, e23, d24, nm, seval] <;> rfl) | rfl) ?_
 rintro tm ⟨e27, e28, e29, e30, _⟩
 cases d31 : (r25)
 ·simp only [d31, hs] at h
  try simp only [vz, mq, mqm, tyf, mqt, d24, e27, e28, e29, e30, d31, nm, seval]
  refine opd_ret (x := (.tup [.lit (.int .i64 0), .lit (.int .i64 0), .lit (.int .i64 2)])) (by first | (simp only [Tryz.results17, resV, resL, resV1, tgt_ptr, tgt_tp, uw, cr, tyf, mqt, d24, d31, nm, seval] <;> rfl) | rfl) ?_
  obtain rfl := kF _ h
  refine rr_tree ?_ ?_
  ·simp only [tre, tytre, Bool.and_self]
  ·first | (simp only [outV, uw, showV_ref, cr, tyf, mqt, nrm, tynrm, d24, e27, e28, e29, e30, d31, nm, seval] <;> rfl) | rfl
 simp only [d31, hs] at h
 simp only [vz, mq, mqm, tyf, mqt, d24, e27, e28, e29, e30, d31, nm, seval]
 refine cwp_drawTF (fun tm => tm 1 = .lit (.int .i64 x1_board) ∧ tm 2 = .ptr 0 0 ∧ True) (by refine ⟨e27, e28, trivial⟩ <;> first | (simp only [ua, encM_nil, d24, e27, e28, e29, e30, d31, nm, seval] <;> rfl) | rfl) ?_
 rintro tm ⟨e32, e33, _⟩
 rcases o35 : (getI x0_s.Boards x1_board) with _ | x34
 ·simp only [o35, hs] at h
  exact absurd h kN
 simp only [o35, hs] at h
 rcases o37 : (g_sight_readFrom x0_s x34) with _ | r36
 ·simp only [o37, hs] at h
  exact absurd h kN
 simp only [o37, hs] at h
 simp only [vz, mq, mqm, tyf, mqt, d24, d31, e32, e33, (ix24 o35), nm, seval]
 refine dktree (args0 := [.agg (cGSightStreet x0_s), .agg (cGSightBoard x34)]) (by first | (simp only [nrm, tynrm] <;> rfl) | rfl) (by simp only [tre, tytre, Bool.and_self]) (g_sight_readFrom_ok _ _ _ o37) ?_
 refine fin_cut (fun tm => tm 2 = .ptr 0 0 ∧ tm 25 = .mt (mtK kv34 r36) (mtV ev46 r36) ∧ True) (by refine ⟨e33, ?_, trivial⟩ <;> first | (simp only [ua, encM_nil, d24, d31, e32, e33, nm, seval] <;> rfl) | rfl) ?_
 rintro tm ⟨e38, e39, _⟩
 simp only [vz, mq, mqm, tyf, mqt, d24, d31, (ix24 o35), e38, e39, nm, seval]
 refine drawK_nil ⟨?_, ?_⟩
 ·simp only [traceR_cons, traceR_nil, hitK_quiet, hitK_nil, and_true, true_and]
  repeat' (first | exact trivial | refine And.intro ?_ ?_ | rw [hitK_quiet] | rw [hitK_cons] | exact Or.inl (by decide +kernel) | exact Or.inl (by dsimp only; decide +kernel) | (refine Or.inr ⟨?_, ?_⟩ <;> simp; done) | (refine Or.inr ⟨?_, ?_⟩ <;> simp <;> omega) | (refine Or.inr ⟨?_, ?_⟩ <;> simp [VEff.wr] <;> omega))
 try simp only [vz, mq, mqm, tyf, mqt, d24, d31, (ix24 o35), e38, e39, nm, seval]
 refine kopen ?_
 rw [openK_eq]
 refine VOpen.run mixed Tryz.call57 Tryz.func57 rfl (by simp [Tryz.ntmps57]; kernel_rfl) ?_
 try simp only [vz, mq, mqm, tyf, mqt, d24, d31, (ix24 o35), nm, seval]
 refine kopen ?_
 rw [openK_eq]
 refine VOpen.run mixed Tryz.call64 Tryz.func64 rfl (by simp [Tryz.ntmps64]; kernel_rfl) ?_
 try simp only [vz, mq, mqm, tyf, mqt, d24, d31, (ix24 o35), nm, seval]
 refine kopen ?_
 rw [openK_eq]
 refine VOpen.run mixed Tryz.call98 Tryz.func98 rfl (by simp [Tryz.ntmps98]; kernel_rfl) ?_
 try simp only [vz, mq, mqm, tyf, mqt, d24, d31, (ix24 o35), nm, seval]
 refine opd_ret (x := (VV.fn (Fn.func 126) [] [.ptr 40 0])) (by first | (simp only [Tryz.results98, resV, resL, resV1, tgt_ptr, tgt_tp, uw, cr, tyf, mqt, d24, d31, (ix24 o35), nm, seval] <;> rfl) | rfl) ?_
 try simp only [vz, mq, mqm, tyf, mqt, d24, d31, (ix24 o35), nm, seval]
 refine kopen ?_
 rw [openK_eq]
 refine VOpen.run mixed Tryz.call100 Tryz.func100 rfl (by simp [Tryz.ntmps100]; kernel_rfl) ?_
 try simp only [vz, mq, mqm, tyf, mqt, d24, d31, (ix24 o35), nm, seval]
 refine opd_ret (x := (VV.fn (Fn.func 127) [] [.ptr 44 0, .ptr 45 0])) (by first | (simp only [Tryz.results100, resV, resL, resV1, tgt_ptr, tgt_tp, uw, cr, tyf, mqt, d24, d31, (ix24 o35), nm, seval] <;> rfl) | rfl) ?_
 try simp only [vz, mq, mqm, tyf, mqt, d24, d31, (ix24 o35), nm, seval]
 refine opd_ret (x := (VV.fn (Fn.func 127) [] [.ptr 44 0, .ptr 45 0])) (by first | (simp only [Tryz.results64, resV, resL, resV1, tgt_ptr, tgt_tp, uw, cr, tyf, mqt, d24, d31, (ix24 o35), nm, seval] <;> rfl) | rfl) ?_
 try simp only [vz, mq, mqm, tyf, mqt, d24, d31, (ix24 o35), nm, seval]
 refine range_open (f := 127) (first := []) (captured := [.ptr 44 0, .ptr 45 0]) (by first | (simp only [ev_tmp, ev_func, d24, d31, (ix24 o35), upd_apply, nm, seval] <;> rfl) | rfl) ?_
 intro LO40 hLO40
 refine VOpen.run mixed Tryz.call127 Tryz.func127 rfl (by simp [Tryz.ntmps127]; kernel_rfl) ?_
 try simp only [vz, mq, mqm, tyf, mqt, d24, d31, (ix24 o35), nm, seval]
 refine range_open (f := 126) (first := []) (captured := [.ptr 40 0]) (by first | (simp only [ev_tmp, ev_func, d24, d31, (ix24 o35), upd_apply, nm, seval] <;> rfl) | rfl) ?_
 intro LO41 hLO41
 refine VOpen.run mixed Tryz.call126 Tryz.func126 rfl (by simp [Tryz.ntmps126]; kernel_rfl) ?_
 cases g43 : (boundOk (IntKind.i64.wrap (x0_s.Length + 1)))
 ·simp only [g43, hs] at h
  exact absurd h kN
 simp only [g43, hs] at h
 simp only [vz, mq, mqm, tyf, mqt, d24, d31, (ix24 o35), g43, nm, seval]
 obtain ⟨K42, h, kR42, kG42, kB42, kN42⟩ := lbind_intro h kN
 obtain ⟨f42, hf42, h⟩ := call3 h
 obtain ⟨I42, hI42⟩ : ∃ I : Nat → St → Prop, I = (fun m st => ∃ (p42 : Nat) (c42_8 : Int) (c42_o0 : Int), p42 = m ∧ loOk c42_8 = true ∧ Int.toNat ((IntKind.i64.wrap (x0_s.Length + 1)) - c42_8) = p42 ∧ st.df = [] ∧ 59 ≤ st.nx ∧ st.H 0 = some (.cells (some 27) (cGSightStreet x0_s)) ∧ st.H 20 = some (.cells (some 97) ([.mt (mtK kv34 r36) (mtV ev46 r36)])) ∧ st.H 26 = some (.cells (some 27) (cGSightStreet x0_s)) ∧ st.H 28 = some (.cells (some 3) ([.lit (.int .i64 c42_o0)])) ∧ st.H 40 = some (.cells (some 27) (cGSightStreet x0_s)) ∧ st.H 44 = some (.cells (some 108) ([VV.fn (Fn.func 126) [] [.ptr 40 0]])) ∧ st.H 45 = some (.cells (some 100) ([VV.fn (Fn.func 58) [] [.ptr 20 0]])) ∧ st.H 49 = some (.deferred (some [])) ∧ st.H 50 = some LO40 ∧ st.H 51 = some (.cells (some 100) ([.yl 50])) ∧ st.H 53 = some (.deferred (some [])) ∧ st.H 54 = some LO41 ∧ st.tm 0 = .yl 54 ∧ st.tm 1 = .ptr 40 0 ∧ st.tm 7 = .lit (.int .i64 (IntKind.i64.wrap (x0_s.Length + 1))) ∧ st.tm 8 = .lit (.int .i64 c42_8) ∧ K42 (f42 p42 c42_8 c42_o0)) := ⟨_, rfl⟩
 refine loopK mixed (by kernel_rfl) I42 (Int.toNat ((IntKind.i64.wrap (x0_s.Length + 1)) - 0)) (by rw [hI42]; refine ⟨Int.toNat ((IntKind.i64.wrap (x0_s.Length + 1)) - 0), 0, 0, rfl, (by rfl), rfl, rfl, (show 59 ≤ 59 by omega), ?_, ?_, ?_, ?_, ?_, ?_, ?_, ?_, ?_, ?_, ?_, ?_, ?_, ?_, ?_, ?_, h⟩ <;> first | (simp only [ua, encM_nil, d24, d31, nm, seval] <;> rfl) | rfl) ?_
 rintro m ⟨tm, H, nx42, df⟩ hinv
 rw [hI42] at hinv
 obtain ⟨p42, c42_8, c42_o0, rfl, hi42, hp42, hdf, hn42, H44, H45, H46, H47, H48, H49, H50, H51, H52, H53, H54, H55, e56, e57, e58, e59, h⟩ := hinv
 simp only at hdf hn42 H44 H45 H46 H47 H48 H49 H50 H51 H52 H53 H54 H55 e56 e57 e58 e59
 have n60 := base_ne0 (m := 59) (b := nx42) (by omega)
 subst hdf hf42
 cases p42 with
 | zero =>
  have d61 : (decide (c42_8 < (IntKind.i64.wrap (x0_s.Length + 1)))) = false := cnt_not_lt hp42
  simp only [g_sight_Many_l0, hs, reduceCtorEq] at h
  replace h := kG42 _ h
  try dsimp only at h
  try simp only [hs] at h
  try simp only [vz, mq, mqm, tyf, mqt, d24, d31, (ix24 o35), g43, n60, e56, e57, e58, e59, H44, H45, H46, H47, H48, H49, H50, H51, H52, H53, H54, H55, d61, nm, seval]
  refine opd_normal (x := .tup []) (by simp [Tryz.results126, resV, resL]) ?_
  refine rangeEnd_go hLO41 (by simp only [updH_apply, without_apply, n60, H44, H45, H46, H47, H48, H49, H50, H51, H52, H53, H54, H55, nm, seval] <;> rfl) ?_
  intro LX62
  try simp only [vz, mq, mqm, tyf, mqt, d24, d31, (ix24 o35), g43, n60, H44, H45, H46, H47, H48, H49, H50, H51, H52, H53, H54, H55, d61, nm, seval]
  refine opd_collN (by simp only [updH_apply, without_apply, n60, H44, H45, H46, H47, H48, H49, H50, H51, H52, H53, H54, H55, nm, seval] <;> rfl) ?_
  try simp only [vz, mq, mqm, tyf, mqt, d24, d31, (ix24 o35), g43, n60, H44, H45, H46, H47, H48, H49, H50, H51, H52, H53, H54, H55, d61, nm, seval]
  refine opd_normal (x := .tup []) (by simp [Tryz.results127, resV, resL]) ?_
  refine rangeEnd_go hLO40 (by simp only [updH_apply, without_apply, n60, H44, H45, H46, H47, H48, H49, H50, H51, H52, H53, H54, H55, nm, seval] <;> rfl) ?_
  intro LX63
  try simp only [vz, mq, mqm, tyf, mqt, d24, d31, (ix24 o35), g43, n60, H44, H45, H46, H47, H48, H49, H50, H51, H52, H53, H54, H55, d61, nm, seval]
  refine opd_coll (by simp only [updH_apply, without_apply, n60, H44, H45, H46, H47, H48, H49, H50, H51, H52, H53, H54, H55, nm, seval] <;> rfl) ?_
  try simp only [vz, mq, mqm, tyf, mqt, d24, d31, (ix24 o35), g43, n60, H44, H45, H46, H47, H48, H49, H50, H51, H52, H53, H54, H55, d61, nm, seval]
  refine opd_ret (x := (.lit (.int .i64 c42_o0))) (by first | (simp only [Tryz.results57, resV, resL, resV1, tgt_ptr, tgt_tp, uw, cr, tyf, mqt, d24, d31, (ix24 o35), g43, n60, H44, H45, H46, H47, H48, H49, H50, H51, H52, H53, H54, H55, d61, nm, seval] <;> rfl) | rfl) ?_
  try simp only [vz, mq, mqm, tyf, mqt, d24, d31, (ix24 o35), g43, n60, H44, H45, H46, H47, H48, H49, H50, H51, H52, H53, H54, H55, d61, e38, e39, nm, seval]
  refine kopen ?_
  rw [openK_eq]
  refine VOpen.run mixed Tryz.call57 Tryz.func57 rfl (by simp [Tryz.ntmps57]; kernel_rfl) ?_
  try simp only [vz, mq, mqm, tyf, mqt, d24, d31, (ix24 o35), g43, n60, H44, H45, H46, H47, H48, H49, H50, H51, H52, H53, H54, H55, d61, nm, seval]
  refine kopen ?_
  rw [openK_eq]
  refine VOpen.run mixed Tryz.call64 Tryz.func64 rfl (by simp [Tryz.ntmps64]; kernel_rfl) ?_
  try simp only [vz, mq, mqm, tyf, mqt, d24, d31, (ix24 o35), g43, n60, H44, H45, H46, H47, H48, H49, H50, H51, H52, H53, H54, H55, d61, nm, seval]
  refine kopen ?_
  rw [openK_eq]
  refine VOpen.run mixed Tryz.call98 Tryz.func98 rfl (by simp [Tryz.ntmps98]; kernel_rfl) ?_
  try simp only [vz, mq, mqm, tyf, mqt, d24, d31, (ix24 o35), g43, n60, H44, H45, H46, H47, H48, H49, H50, H51, H52, H53, H54, H55, d61, nm, seval]
  refine opd_ret (x := (VV.fn (Fn.func 126) [] [.ptr (nx42 + 21) 0])) (by first | (simp only [Tryz.results98, resV, resL, resV1, tgt_ptr, tgt_tp, uw, cr, tyf, mqt, d24, d31, (ix24 o35), g43, n60, H44, H45, H46, H47, H48, H49, H50, H51, H52, H53, H54, H55, d61, nm, seval] <;> rfl) | rfl) ?_
  try simp only [vz, mq, mqm, tyf, mqt, d24, d31, (ix24 o35), g43, n60, H44, H45, H46, H47, H48, H49, H50, H51, H52, H53, H54, H55, d61, nm, seval]
  refine kopen ?_
  rw [openK_eq]
  refine VOpen.run mixed Tryz.call100 Tryz.func100 rfl (by simp [Tryz.ntmps100]; kernel_rfl) ?_
  try simp only [vz, mq, mqm, tyf, mqt, d24, d31, (ix24 o35), g43, n60, H44, H45, H46, H47, H48, H49, H50, H51, H52, H53, H54, H55, d61, nm, seval]
  refine opd_ret (x := (VV.fn (Fn.func 127) [] [.ptr (nx42 + 25) 0, .ptr (nx42 + 26) 0])) (by first | (simp only [Tryz.results100, resV, resL, resV1, tgt_ptr, tgt_tp, uw, cr, tyf, mqt, d24, d31, (ix24 o35), g43, n60, H44, H45, H46, H47, H48, H49, H50, H51, H52, H53, H54, H55, d61, nm, seval] <;> rfl) | rfl) ?_
  try simp only [vz, mq, mqm, tyf, mqt, d24, d31, (ix24 o35), g43, n60, H44, H45, H46, H47, H48, H49, H50, H51, H52, H53, H54, H55, d61, nm, seval]
  refine opd_ret (x := (VV.fn (Fn.func 127) [] [.ptr (nx42 + 25) 0, .ptr (nx42 + 26) 0])) (by first | (simp only [Tryz.results64, resV, resL, resV1, tgt_ptr, tgt_tp, uw, cr, tyf, mqt, d24, d31, (ix24 o35), g43, n60, H44, H45, H46, H47, H48, H49, H50, H51, H52, H53, H54, H55, d61, nm, seval] <;> rfl) | rfl) ?_
  try simp only [vz, mq, mqm, tyf, mqt, d24, d31, (ix24 o35), g43, n60, H44, H45, H46, H47, H48, H49, H50, H51, H52, H53, H54, H55, d61, nm, seval]
  refine range_open (f := 127) (first := []) (captured := [.ptr (nx42 + 25) 0, .ptr (nx42 + 26) 0]) (by first | (simp only [ev_tmp, ev_func, d24, d31, (ix24 o35), g43, n60, H44, H45, H46, H47, H48, H49, H50, H51, H52, H53, H54, H55, d61, upd_apply, nm, seval] <;> rfl) | rfl) ?_
  intro LO64 hLO64
  refine VOpen.run mixed Tryz.call127 Tryz.func127 rfl (by simp [Tryz.ntmps127]; kernel_rfl) ?_
  try simp only [vz, mq, mqm, tyf, mqt, d24, d31, (ix24 o35), g43, n60, H44, H45, H46, H47, H48, H49, H50, H51, H52, H53, H54, H55, d61, nm, seval]
  refine range_open (f := 126) (first := []) (captured := [.ptr (nx42 + 21) 0]) (by first | (simp only [ev_tmp, ev_func, d24, d31, (ix24 o35), g43, n60, H44, H45, H46, H47, H48, H49, H50, H51, H52, H53, H54, H55, d61, upd_apply, nm, seval] <;> rfl) | rfl) ?_
  intro LO65 hLO65
  refine VOpen.run mixed Tryz.call126 Tryz.func126 rfl (by simp [Tryz.ntmps126]; kernel_rfl) ?_
  simp only [vz, mq, mqm, tyf, mqt, d24, d31, (ix24 o35), g43, n60, H44, H45, H46, H47, H48, H49, H50, H51, H52, H53, H54, H55, d61, nm, seval]
  obtain ⟨K66, h, kR66, kG66, kB66, kN66⟩ := lbind_intro h kN
  obtain ⟨f66, hf66, h⟩ := call3 h
  obtain ⟨I66, hI66⟩ : ∃ I : Nat → St → Prop, I = (fun m st => ∃ (p66 : Nat) (c66_8 : Int) (c66_o0 : Int), p66 = m ∧ loOk c66_8 = true ∧ Int.toNat ((IntKind.i64.wrap (x0_s.Length + 1)) - c66_8) = p66 ∧ st.df = [] ∧ nx42 + 40 ≤ st.nx ∧ st.H 20 = some (.cells (some 97) ([.mt (mtK kv34 r36) (mtV ev46 r36)])) ∧ st.H (nx42 + 7) = some (.cells (some 27) (cGSightStreet x0_s)) ∧ st.H (nx42 + 9) = some (.cells (some 3) ([.lit (.int .i64 c66_o0)])) ∧ st.H (nx42 + 21) = some (.cells (some 27) (cGSightStreet x0_s)) ∧ st.H (nx42 + 25) = some (.cells (some 108) ([VV.fn (Fn.func 126) [] [.ptr (nx42 + 21) 0]])) ∧ st.H (nx42 + 26) = some (.cells (some 100) ([VV.fn (Fn.func 59) [] [.ptr 20 0]])) ∧ st.H (nx42 + 32) = some (.cells (some 100) ([.yl (nx42 + 31)])) ∧ st.H (nx42 + 30) = some (.deferred (some [])) ∧ st.H (nx42 + 31) = some LO64 ∧ st.H (nx42 + 34) = some (.deferred (some [])) ∧ st.H (nx42 + 35) = some LO65 ∧ st.tm 0 = .yl (nx42 + 35) ∧ st.tm 1 = .ptr (nx42 + 21) 0 ∧ st.tm 7 = .lit (.int .i64 (IntKind.i64.wrap (x0_s.Length + 1))) ∧ st.tm 8 = .lit (.int .i64 c66_8) ∧ K66 (f66 p66 c66_8 c66_o0)) := ⟨_, rfl⟩
  refine loopK mixed (by kernel_rfl) I66 (Int.toNat ((IntKind.i64.wrap (x0_s.Length + 1)) - 0)) (by rw [hI66]; refine ⟨Int.toNat ((IntKind.i64.wrap (x0_s.Length + 1)) - 0), 0, 0, rfl, (by rfl), rfl, rfl, (show nx42 + 40 ≤ nx42 + 40 by omega), ?_, ?_, ?_, ?_, ?_, ?_, ?_, ?_, ?_, ?_, ?_, ?_, ?_, ?_, ?_, h⟩ <;> first | (simp only [ua, encM_nil, d24, d31, n60, H44, H45, H46, H47, H48, H49, H50, H51, H52, H53, H54, H55, d61, nm, seval] <;> rfl) | rfl) ?_
  rintro m ⟨tm, H, nx66, df⟩ hinv
  rw [hI66] at hinv
  obtain ⟨p66, c66_8, c66_o0, rfl, hi66, hp66, hdf, hn66, H67, H68, H69, H70, H71, H72, H73, H74, H75, H76, H77, e78, e79, e80, e81, h⟩ := hinv
  simp only at hdf hn66 H67 H68 H69 H70 H71 H72 H73 H74 H75 H76 H77 e78 e79 e80 e81
  have n82 := base_ne0 (m := 59) (b := nx66) (by omega)
  have n83 := base_ne (a := nx42) (m := 40) (b := nx66) (by omega)
  subst hdf hf66
  cases p66 with
  | zero =>
   have d84 : (decide (c66_8 < (IntKind.i64.wrap (x0_s.Length + 1)))) = false := cnt_not_lt hp66
   simp only [g_sight_Many_l2, g_sight_Many_l4, hs, reduceCtorEq] at h
   replace h := kG66 _ h
   try dsimp only at h
   try simp only [hs] at h
   try simp only [vz, mq, mqm, tyf, mqt, d24, d31, (ix24 o35), g43, n60, d61, n82, n83, e78, e79, e80, e81, H67, H68, H69, H70, H71, H72, H73, H74, H75, H76, H77, d84, nm, seval]
   refine opd_normal (x := .tup []) (by simp [Tryz.results126, resV, resL]) ?_
   refine rangeEnd_go hLO65 (by simp only [updH_apply, without_apply, n60, n82, n83, H67, H68, H69, H70, H71, H72, H73, H74, H75, H76, H77, nm, seval] <;> rfl) ?_
   intro LX85
   try simp only [vz, mq, mqm, tyf, mqt, d24, d31, (ix24 o35), g43, n60, d61, n82, n83, H67, H68, H69, H70, H71, H72, H73, H74, H75, H76, H77, d84, nm, seval]
   refine opd_collN (by simp only [updH_apply, without_apply, n60, n82, n83, H67, H68, H69, H70, H71, H72, H73, H74, H75, H76, H77, nm, seval] <;> rfl) ?_
   try simp only [vz, mq, mqm, tyf, mqt, d24, d31, (ix24 o35), g43, n60, d61, n82, n83, H67, H68, H69, H70, H71, H72, H73, H74, H75, H76, H77, d84, nm, seval]
   refine opd_normal (x := .tup []) (by simp [Tryz.results127, resV, resL]) ?_
   refine rangeEnd_go hLO64 (by simp only [updH_apply, without_apply, n60, n82, n83, H67, H68, H69, H70, H71, H72, H73, H74, H75, H76, H77, nm, seval] <;> rfl) ?_
   intro LX86
   try simp only [vz, mq, mqm, tyf, mqt, d24, d31, (ix24 o35), g43, n60, d61, n82, n83, H67, H68, H69, H70, H71, H72, H73, H74, H75, H76, H77, d84, nm, seval]
   refine opd_coll (by simp only [updH_apply, without_apply, n60, n82, n83, H67, H68, H69, H70, H71, H72, H73, H74, H75, H76, H77, nm, seval] <;> rfl) ?_
   try simp only [vz, mq, mqm, tyf, mqt, d24, d31, (ix24 o35), g43, n60, d61, n82, n83, H67, H68, H69, H70, H71, H72, H73, H74, H75, H76, H77, d84, nm, seval]
   refine opd_ret (x := (.lit (.int .i64 c66_o0))) (by first | (simp only [Tryz.results57, resV, resL, resV1, tgt_ptr, tgt_tp, uw, cr, tyf, mqt, d24, d31, (ix24 o35), g43, n60, d61, n82, n83, H67, H68, H69, H70, H71, H72, H73, H74, H75, H76, H77, d84, nm, seval] <;> rfl) | rfl) ?_
   try simp only [vz, mq, mqm, tyf, mqt, d24, d31, (ix24 o35), g43, n60, d61, n82, n83, H67, H68, H69, H70, H71, H72, H73, H74, H75, H76, H77, d84, e38, e39, nm, seval]
   refine opd_ret (x := (.tup [.lit (.int .i64 c42_o0), .lit (.int .i64 c66_o0), .lit (.int .i64 0)])) (by first | (simp only [Tryz.results17, resV, resL, resV1, tgt_ptr, tgt_tp, uw, cr, tyf, mqt, d24, d31, (ix24 o35), g43, n60, d61, n82, n83, H67, H68, H69, H70, H71, H72, H73, H74, H75, H76, H77, d84, nm, seval] <;> rfl) | rfl) ?_
   obtain rfl := kF _ h
   refine rr_tree ?_ ?_
   ·simp only [tre, tytre, Bool.and_self]
   ·first | (simp only [outV, uw, showV_ref, cr, tyf, mqt, nrm, tynrm, d24, d31, (ix24 o35), g43, n60, d61, n82, n83, H67, H68, H69, H70, H71, H72, H73, H74, H75, H76, H77, d84, e38, e39, nm, seval] <;> rfl) | rfl
  | succ p66 =>
   have d87 : (decide (c66_8 < (IntKind.i64.wrap (x0_s.Length + 1)))) = true := cnt_lt hp66
   have w88 := cnt_wrap hi66 hp66 g43
   simp only [g_sight_Many_l2, g_sight_Many_l4, hs, reduceCtorEq] at h
   cases g90 : (boundOk x0_s.Width)
   ·simp only [g90, hs] at h
    exact absurd h kN66
   simp only [g90, hs] at h
   simp only [vz, mq, mqm, tyf, mqt, d24, d31, (ix24 o35), g43, n60, d61, n82, n83, e78, e79, e80, e81, H67, H68, H69, H70, H71, H72, H73, H74, H75, H76, H77, d87, w88, g90, nm, seval]
   obtain ⟨K89, h, kR89, kG89, kB89, kN89⟩ := lbind_intro h kN66
   obtain ⟨f89, hf89, h⟩ := call3 h
   obtain ⟨I89, hI89⟩ : ∃ I : Nat → St → Prop, I = (fun m st => ∃ (p89 : Nat) (c89_13 : Int) (c89_o0 : Int), p89 = m ∧ loOk c89_13 = true ∧ Int.toNat (x0_s.Width - c89_13) = p89 ∧ st.df = [] ∧ nx66 + 6 ≤ st.nx ∧ st.H 20 = some (.cells (some 97) ([.mt (mtK kv34 r36) (mtV ev46 r36)])) ∧ st.H (nx42 + 7) = some (.cells (some 27) (cGSightStreet x0_s)) ∧ st.H (nx42 + 9) = some (.cells (some 3) ([.lit (.int .i64 c89_o0)])) ∧ st.H (nx42 + 21) = some (.cells (some 27) (cGSightStreet x0_s)) ∧ st.H (nx42 + 25) = some (.cells (some 108) ([VV.fn (Fn.func 126) [] [.ptr (nx42 + 21) 0]])) ∧ st.H (nx42 + 26) = some (.cells (some 100) ([VV.fn (Fn.func 59) [] [.ptr 20 0]])) ∧ st.H (nx42 + 32) = some (.cells (some 100) ([.yl (nx42 + 31)])) ∧ st.H (nx42 + 30) = some (.deferred (some [])) ∧ st.H (nx42 + 31) = some LO64 ∧ st.H (nx42 + 34) = some (.deferred (some [])) ∧ st.H (nx42 + 35) = some LO65 ∧ st.tm 0 = .yl (nx42 + 35) ∧ st.tm 1 = .ptr (nx42 + 21) 0 ∧ st.tm 3 = .lit (.int .i64 c66_8) ∧ st.tm 7 = .lit (.int .i64 (IntKind.i64.wrap (x0_s.Length + 1))) ∧ st.tm 8 = .lit (.int .i64 c66_8) ∧ st.tm 12 = .lit (.int .i64 x0_s.Width) ∧ st.tm 13 = .lit (.int .i64 c89_13) ∧ K89 (f89 p89 c89_13 c89_o0)) := ⟨_, rfl⟩
   refine loopK mixed (by kernel_rfl) I89 (Int.toNat (x0_s.Width - 0)) (by rw [hI89]; refine ⟨Int.toNat (x0_s.Width - 0), 0, c66_o0, rfl, (by rfl), rfl, rfl, (show nx66 + 6 ≤ nx66 + 6 by omega), ?_, ?_, ?_, ?_, ?_, ?_, ?_, ?_, ?_, ?_, ?_, e78, e79, ?_, e80, e81, ?_, ?_, h⟩ <;> first | (simp only [ua, encM_nil, d24, d31, n60, d61, n82, n83, e78, e79, e80, e81, H67, H68, H69, H70, H71, H72, H73, H74, H75, H76, H77, d87, w88, nm, seval] <;> rfl) | rfl) ?_
   rintro m ⟨tm, H, nx89, df⟩ hinv
   rw [hI89] at hinv
   obtain ⟨p89, c89_13, c89_o0, rfl, hi89, hp89, hdf, hn89, H91, H92, H93, H94, H95, H96, H97, H98, H99, H100, H101, e102, e103, e104, e105, e106, e107, e108, h⟩ := hinv
   simp only at hdf hn89 H91 H92 H93 H94 H95 H96 H97 H98 H99 H100 H101 e102 e103 e104 e105 e106 e107 e108
   have n109 := base_ne0 (m := 59) (b := nx89) (by omega)
   have n110 := base_ne (a := nx42) (m := 40) (b := nx89) (by omega)
   have n111 := base_ne (a := nx66) (m := 6) (b := nx89) (by omega)
   subst hdf hf89
   cases p89 with
   | zero =>
    have d112 : (decide (c89_13 < x0_s.Width)) = false := cnt_not_lt hp89
    simp only [g_sight_Many_l3, g_sight_Many_l5, hs, reduceCtorEq] at h
    replace h := kG89 _ h
    try dsimp only at h
    try simp only [hs] at h
    simp only [vz, mq, mqm, tyf, mqt, d24, d31, (ix24 o35), g43, n60, d61, n82, n83, d87, w88, g90, n109, n110, n111, e102, e103, e104, e105, e106, e107, e108, H91, H92, H93, H94, H95, H96, H97, H98, H99, H100, H101, d112, nm, seval]
    exact ⟨p66, Nat.lt_succ_self _, by rw [hI66]; refine ⟨p66, c66_8 + 1, c89_o0, rfl, cnt_lo hi66, cnt_next hp66, rfl, (show nx42 + 40 ≤ nx89 + 3 by omega), ?_, ?_, ?_, ?_, ?_, ?_, ?_, ?_, ?_, ?_, ?_, e102, e103, e105, ?_, h⟩ <;> first | (simp only [ua, encM_nil, d24, d31, n60, d61, n82, n83, d87, w88, n109, n110, n111, e102, e103, e104, e105, e106, e107, e108, H91, H92, H93, H94, H95, H96, H97, H98, H99, H100, H101, d112, nm, seval] <;> rfl) | rfl⟩
   | succ p89 =>
    have d113 : (decide (c89_13 < x0_s.Width)) = true := cnt_lt hp89
    have w114 := cnt_wrap hi89 hp89 g90
    simp only [g_sight_Many_l3, g_sight_Many_l5, hs, reduceCtorEq] at h
    try simp only [vz, mq, mqm, tyf, mqt, d24, d31, (ix24 o35), g43, n60, d61, n82, n83, d87, w88, g90, n109, n110, n111, e102, e103, e104, e105, e106, e107, e108, H91, H92, H93, H94, H95, H96, H97, H98, H99, H100, H101, d113, w114, rg, nm, seval]
    refine yield_open mixed (psl := [6]) hLO65 (by simp only [updH_apply, without_apply, n60, n82, n83, n109, n110, n111, H91, H92, H93, H94, H95, H96, H97, H98, H99, H100, H101, nm, seval] <;> rfl) tmL_length rfl (by kernel_rfl) (by kernel_rfl) ?_
    intro LB115 LD115 hLB115 hLD115
    refine cwp_tmcut (fun tm => tm 2 = .ptr (nx42 + 26) 0 ∧ tm 3 = .ptr (nx42 + 32) 0 ∧ tm 6 = .agg ([.lit (.int .i64 c66_8)] ++ [.lit (.int .i64 (c89_13 + 1))]) ∧ True) (by refine ⟨?_, ?_, ?_, trivial⟩ <;> (simp only [round_tm, round_tm0, Tryz.ntmps127, e102, e103, e104, e105, e106, e107, e108, nm, seval] <;> first | rfl | trivial)) ?_
    rintro tm ⟨e116, e117, e118, _⟩
    have b119 := And.intro d24 (And.intro d31 (And.intro g43 (And.intro n60 (And.intro d61 (And.intro n82 (And.intro n83 (And.intro d87 (And.intro w88 (And.intro g90 (And.intro n109 (And.intro n110 (And.intro n111 (And.intro H91 (And.intro H92 (And.intro H93 (And.intro H94 (And.intro H95 (And.intro H96 (And.intro H97 (And.intro H98 (And.intro H99 (And.intro H100 (And.intro H101 (And.intro d113 w114))))))))))))))))))))))))
    try simp only [vz, mq, mqm, tyf, mqt, b119, (ix24 o35), e116, e117, e118, nm, seval]
    rw [rndAs_normal (by simp only [updH_apply, without_apply, b119, nm, seval] <;> rfl)]
    try simp only [vz, mq, mqm, tyf, mqt, b119, (ix24 o35), e116, e117, e118, nm, seval]
    refine kopen ?_
    rw [openK_eq]
    refine VOpen.run mixed Tryz.call59 Tryz.func59 rfl (by simp [Tryz.ntmps59]; kernel_rfl) ?_
    try simp only [vz, mq, mqm, tyf, mqt, b119, (ix24 o35), nm, seval]
    refine opd_ret (x := (.lit (.bool (decide ((mapGet q34 0 r36 (GSightPlace.mk c66_8 (c89_13 + 1))) ≥ 2))))) (by first | (simp only [Tryz.results59, resV, resL, resV1, tgt_ptr, tgt_tp, uw, cr, tyf, mqt, b119, (ix24 o35), nm, seval] <;> rfl) | rfl) ?_
    cases d120 : (decide ((mapGet q34 0 r36 (GSightPlace.mk c66_8 (c89_13 + 1))) ≥ 2))
    ·simp only [d120, hs] at h
     try simp only [vz, mq, mqm, tyf, mqt, b119, (ix24 o35), e116, e117, e118, d120, nm, seval]
     rw [rnd_normal (by simp only [updH_apply, without_apply, b119, nm, seval] <;> rfl)]
     simp only [vz, mq, mqm, tyf, mqt, b119, (ix24 o35), d120, e102, e103, e104, e105, e106, e107, e108, nm, seval]
     exact ⟨p89, Nat.lt_succ_self _, by rw [hI89]; refine ⟨p89, c89_13 + 1, c89_o0, rfl, cnt_lo hi89, cnt_next hp89, rfl, (show nx66 + 6 ≤ nx89 + 30 by omega), ?_, ?_, ?_, ?_, ?_, ?_, ?_, ?_, ?_, ?_, ?_, e102, e103, e104, e105, e106, e107, ?_, h⟩ <;> first | (simp only [ua, encM_nil, b119, d120, e102, e103, e104, e105, e106, e107, e108, nm, seval] <;> rfl) | rfl⟩
    simp only [d120, hs] at h
    try simp only [vz, mq, mqm, tyf, mqt, b119, (ix24 o35), e116, e117, e118, d120, rg, nm, seval]
    refine yield_open mixed (psl := [9]) hLO64 (by simp only [updH_apply, without_apply, b119, nm, seval] <;> rfl) tmL_length rfl (by kernel_rfl) (by kernel_rfl) ?_
    intro LB121 LD121 hLB121 hLD121
    refine cwp_tmcut (fun tm => tm 5 = .ptr (nx42 + 9) 0 ∧ True) (by refine ⟨?_, trivial⟩ <;> (simp only [round_tm, round_tm0, Tryz.ntmps57, e116, e117, e118, nm, seval] <;> first | rfl | trivial)) ?_
    rintro tm ⟨e122, _⟩
    try simp only [vz, mq, mqm, tyf, mqt, b119, (ix24 o35), d120, e122, nm, seval]
    rw [rndAs_normal (by simp only [updH_apply, without_apply, b119, nm, seval] <;> rfl)]
    try simp only [vz, mq, mqm, tyf, mqt, b119, (ix24 o35), d120, e122, nm, seval]
    rw [rnd_normal (by simp only [updH_apply, without_apply, b119, nm, seval] <;> rfl)]
    try simp only [vz, mq, mqm, tyf, mqt, b119, (ix24 o35), d120, e116, e117, e118, nm, seval]
    rw [rnd_normal (by simp only [updH_apply, without_apply, b119, nm, seval] <;> rfl)]
    simp only [vz, mq, mqm, tyf, mqt, b119, (ix24 o35), d120, e102, e103, e104, e105, e106, e107, e108, nm, seval]
    exact ⟨p89, Nat.lt_succ_self _, by rw [hI89]; refine ⟨p89, c89_13 + 1, IntKind.i64.wrap (c89_o0 + 1), rfl, cnt_lo hi89, cnt_next hp89, rfl, (show nx66 + 6 ≤ nx89 + 33 by omega), ?_, ?_, ?_, ?_, ?_, ?_, ?_, ?_, ?_, ?_, ?_, e102, e103, e104, e105, e106, e107, ?_, h⟩ <;> first | (simp only [ua, encM_nil, b119, d120, e102, e103, e104, e105, e106, e107, e108, nm, seval] <;> rfl) | rfl⟩
 | succ p42 =>
  have d123 : (decide (c42_8 < (IntKind.i64.wrap (x0_s.Length + 1)))) = true := cnt_lt hp42
  have w124 := cnt_wrap hi42 hp42 g43
  simp only [g_sight_Many_l0, hs, reduceCtorEq] at h
  cases g126 : (boundOk x0_s.Width)
  ·simp only [g126, hs] at h
   exact absurd h kN42
  simp only [g126, hs] at h
  simp only [vz, mq, mqm, tyf, mqt, d24, d31, (ix24 o35), g43, n60, e56, e57, e58, e59, H44, H45, H46, H47, H48, H49, H50, H51, H52, H53, H54, H55, d123, w124, g126, nm, seval]
  obtain ⟨K125, h, kR125, kG125, kB125, kN125⟩ := lbind_intro h kN42
  obtain ⟨f125, hf125, h⟩ := call3 h
  obtain ⟨I125, hI125⟩ : ∃ I : Nat → St → Prop, I = (fun m st => ∃ (p125 : Nat) (c125_13 : Int) (c125_o0 : Int), p125 = m ∧ loOk c125_13 = true ∧ Int.toNat (x0_s.Width - c125_13) = p125 ∧ st.df = [] ∧ nx42 + 6 ≤ st.nx ∧ st.H 0 = some (.cells (some 27) (cGSightStreet x0_s)) ∧ st.H 20 = some (.cells (some 97) ([.mt (mtK kv34 r36) (mtV ev46 r36)])) ∧ st.H 26 = some (.cells (some 27) (cGSightStreet x0_s)) ∧ st.H 28 = some (.cells (some 3) ([.lit (.int .i64 c125_o0)])) ∧ st.H 40 = some (.cells (some 27) (cGSightStreet x0_s)) ∧ st.H 44 = some (.cells (some 108) ([VV.fn (Fn.func 126) [] [.ptr 40 0]])) ∧ st.H 45 = some (.cells (some 100) ([VV.fn (Fn.func 58) [] [.ptr 20 0]])) ∧ st.H 49 = some (.deferred (some [])) ∧ st.H 50 = some LO40 ∧ st.H 51 = some (.cells (some 100) ([.yl 50])) ∧ st.H 53 = some (.deferred (some [])) ∧ st.H 54 = some LO41 ∧ st.tm 0 = .yl 54 ∧ st.tm 1 = .ptr 40 0 ∧ st.tm 3 = .lit (.int .i64 c42_8) ∧ st.tm 7 = .lit (.int .i64 (IntKind.i64.wrap (x0_s.Length + 1))) ∧ st.tm 8 = .lit (.int .i64 c42_8) ∧ st.tm 12 = .lit (.int .i64 x0_s.Width) ∧ st.tm 13 = .lit (.int .i64 c125_13) ∧ K125 (f125 p125 c125_13 c125_o0)) := ⟨_, rfl⟩
  refine loopK mixed (by kernel_rfl) I125 (Int.toNat (x0_s.Width - 0)) (by rw [hI125]; refine ⟨Int.toNat (x0_s.Width - 0), 0, c42_o0, rfl, (by rfl), rfl, rfl, (show nx42 + 6 ≤ nx42 + 6 by omega), ?_, ?_, ?_, ?_, ?_, ?_, ?_, ?_, ?_, ?_, ?_, ?_, e56, e57, ?_, e58, e59, ?_, ?_, h⟩ <;> first | (simp only [ua, encM_nil, d24, d31, n60, e56, e57, e58, e59, H44, H45, H46, H47, H48, H49, H50, H51, H52, H53, H54, H55, d123, w124, nm, seval] <;> rfl) | rfl) ?_
  rintro m ⟨tm, H, nx125, df⟩ hinv
  rw [hI125] at hinv
  obtain ⟨p125, c125_13, c125_o0, rfl, hi125, hp125, hdf, hn125, H127, H128, H129, H130, H131, H132, H133, H134, H135, H136, H137, H138, e139, e140, e141, e142, e143, e144, e145, h⟩ := hinv
  simp only at hdf hn125 H127 H128 H129 H130 H131 H132 H133 H134 H135 H136 H137 H138 e139 e140 e141 e142 e143 e144 e145
  have n146 := base_ne0 (m := 59) (b := nx125) (by omega)
  have n147 := base_ne (a := nx42) (m := 6) (b := nx125) (by omega)
  subst hdf hf125
  cases p125 with
  | zero =>
   have d148 : (decide (c125_13 < x0_s.Width)) = false := cnt_not_lt hp125
   simp only [g_sight_Many_l1, hs, reduceCtorEq] at h
   replace h := kG125 _ h
   try dsimp only at h
   try simp only [hs] at h
   simp only [vz, mq, mqm, tyf, mqt, d24, d31, (ix24 o35), g43, n60, d123, w124, g126, n146, n147, e139, e140, e141, e142, e143, e144, e145, H127, H128, H129, H130, H131, H132, H133, H134, H135, H136, H137, H138, d148, nm, seval]
   exact ⟨p42, Nat.lt_succ_self _, by rw [hI42]; refine ⟨p42, c42_8 + 1, c125_o0, rfl, cnt_lo hi42, cnt_next hp42, rfl, (show 59 ≤ nx125 + 3 by omega), ?_, ?_, ?_, ?_, ?_, ?_, ?_, ?_, ?_, ?_, ?_, ?_, e139, e140, e142, ?_, h⟩ <;> first | (simp only [ua, encM_nil, d24, d31, n60, d123, w124, n146, n147, e139, e140, e141, e142, e143, e144, e145, H127, H128, H129, H130, H131, H132, H133, H134, H135, H136, H137, H138, d148, nm, seval] <;> rfl) | rfl⟩
  | succ p125 =>
   have d149 : (decide (c125_13 < x0_s.Width)) = true := cnt_lt hp125
   have w150 := cnt_wrap hi125 hp125 g126
   simp only [g_sight_Many_l1, hs, reduceCtorEq] at h
   try simp only [vz, mq, mqm, tyf, mqt, d24, d31, (ix24 o35), g43, n60, d123, w124, g126, n146, n147, e139, e140, e141, e142, e143, e144, e145, H127, H128, H129, H130, H131, H132, H133, H134, H135, H136, H137, H138, d149, w150, rg, nm, seval]
   refine yield_open mixed (psl := [6]) hLO41 (by simp only [updH_apply, without_apply, n60, n146, n147, H127, H128, H129, H130, H131, H132, H133, H134, H135, H136, H137, H138, nm, seval] <;> rfl) tmL_length rfl (by kernel_rfl) (by kernel_rfl) ?_
   intro LB151 LD151 hLB151 hLD151
   refine cwp_tmcut (fun tm => tm 2 = .ptr 45 0 ∧ tm 3 = .ptr 51 0 ∧ tm 6 = .agg ([.lit (.int .i64 c42_8)] ++ [.lit (.int .i64 (c125_13 + 1))]) ∧ True) (by refine ⟨?_, ?_, ?_, trivial⟩ <;> (simp only [round_tm, round_tm0, Tryz.ntmps127, e139, e140, e141, e142, e143, e144, e145, nm, seval] <;> first | rfl | trivial)) ?_
   rintro tm ⟨e152, e153, e154, _⟩
   have b155 := And.intro d24 (And.intro d31 (And.intro g43 (And.intro n60 (And.intro d123 (And.intro w124 (And.intro g126 (And.intro n146 (And.intro n147 (And.intro H127 (And.intro H128 (And.intro H129 (And.intro H130 (And.intro H131 (And.intro H132 (And.intro H133 (And.intro H134 (And.intro H135 (And.intro H136 (And.intro H137 (And.intro H138 (And.intro d149 w150)))))))))))))))))))))
   try simp only [vz, mq, mqm, tyf, mqt, b155, (ix24 o35), e152, e153, e154, nm, seval]
   rw [rndAs_normal (by simp only [updH_apply, without_apply, b155, nm, seval] <;> rfl)]
   try simp only [vz, mq, mqm, tyf, mqt, b155, (ix24 o35), e152, e153, e154, nm, seval]
   refine kopen ?_
   rw [openK_eq]
   refine VOpen.run mixed Tryz.call58 Tryz.func58 rfl (by simp [Tryz.ntmps58]; kernel_rfl) ?_
   try simp only [vz, mq, mqm, tyf, mqt, b155, (ix24 o35), nm, seval]
   refine opd_ret (x := (.lit (.bool ((mapGet q34 0 r36 (GSightPlace.mk c42_8 (c125_13 + 1))) == 3)))) (by first | (simp only [Tryz.results58, resV, resL, resV1, tgt_ptr, tgt_tp, uw, cr, tyf, mqt, b155, (ix24 o35), nm, seval] <;> rfl) | rfl) ?_
   cases d156 : ((mapGet q34 0 r36 (GSightPlace.mk c42_8 (c125_13 + 1))) == 3)
   ·simp only [d156, hs] at h
    try simp only [vz, mq, mqm, tyf, mqt, b155, (ix24 o35), e152, e153, e154, d156, nm, seval]
    rw [rnd_normal (by simp only [updH_apply, without_apply, b155, nm, seval] <;> rfl)]
    simp only [vz, mq, mqm, tyf, mqt, b155, (ix24 o35), d156, e139, e140, e141, e142, e143, e144, e145, nm, seval]
    exact ⟨p125, Nat.lt_succ_self _, by rw [hI125]; refine ⟨p125, c125_13 + 1, c125_o0, rfl, cnt_lo hi125, cnt_next hp125, rfl, (show nx42 + 6 ≤ nx125 + 30 by omega), ?_, ?_, ?_, ?_, ?_, ?_, ?_, ?_, ?_, ?_, ?_, ?_, e139, e140, e141, e142, e143, e144, ?_, h⟩ <;> first | (simp only [ua, encM_nil, b155, d156, e139, e140, e141, e142, e143, e144, e145, nm, seval] <;> rfl) | rfl⟩
   simp only [d156, hs] at h
   try simp only [vz, mq, mqm, tyf, mqt, b155, (ix24 o35), e152, e153, e154, d156, rg, nm, seval]
   refine yield_open mixed (psl := [9]) hLO40 (by simp only [updH_apply, without_apply, b155, nm, seval] <;> rfl) tmL_length rfl (by kernel_rfl) (by kernel_rfl) ?_
   intro LB157 LD157 hLB157 hLD157
   refine cwp_tmcut (fun tm => tm 5 = .ptr 28 0 ∧ True) (by refine ⟨?_, trivial⟩ <;> (simp only [round_tm, round_tm0, Tryz.ntmps57, e152, e153, e154, nm, seval] <;> first | rfl | trivial)) ?_
   rintro tm ⟨e158, _⟩
   try simp only [vz, mq, mqm, tyf, mqt, b155, (ix24 o35), d156, e158, nm, seval]
   rw [rndAs_normal (by simp only [updH_apply, without_apply, b155, nm, seval] <;> rfl)]
   try simp only [vz, mq, mqm, tyf, mqt, b155, (ix24 o35), d156, e158, nm, seval]
   rw [rnd_normal (by simp only [updH_apply, without_apply, b155, nm, seval] <;> rfl)]
   try simp only [vz, mq, mqm, tyf, mqt, b155, (ix24 o35), d156, e152, e153, e154, nm, seval]
   rw [rnd_normal (by simp only [updH_apply, without_apply, b155, nm, seval] <;> rfl)]
   simp only [vz, mq, mqm, tyf, mqt, b155, (ix24 o35), d156, e139, e140, e141, e142, e143, e144, e145, nm, seval]
   exact ⟨p125, Nat.lt_succ_self _, by rw [hI125]; refine ⟨p125, c125_13 + 1, IntKind.i64.wrap (c125_o0 + 1), rfl, cnt_lo hi125, cnt_next hp125, rfl, (show nx42 + 6 ≤ nx125 + 33 by omega), ?_, ?_, ?_, ?_, ?_, ?_, ?_, ?_, ?_, ?_, ?_, ?_, e139, e140, e141, e142, e143, e144, ?_, h⟩ <;> first | (simp only [ua, encM_nil, b155, d156, e139, e140, e141, e142, e143, e144, e145, nm, seval] <;> rfl) | rfl⟩
end Go.V
end
section
namespace Go.V
open Go Go.Proofs
end Go.V
end
section
namespace Go.V
open Go Go.Proofs
end Go.V
end
section
namespace Go.V
open Go Go.Proofs
end Go.V
end
section
namespace Go.V
open Go Go.Proofs
end Go.V
end
section
namespace Go.V
open Go Go.Proofs
end Go.V
end
