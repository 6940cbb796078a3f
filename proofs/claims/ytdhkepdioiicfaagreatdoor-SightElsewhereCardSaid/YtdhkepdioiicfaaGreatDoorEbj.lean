/- Part of a proof: a logic of values by content, lifted functions, what follows. -/
import Derived.Test.YtdhkepdioiicfaaGreatDoorEbf
import Derived.Test.YtdhkepdioiicfaaGreatDoorEbi
import Derived.Test.YtdhkepdioiicfaaGreatDoorEbg
set_option linter.all false
set_option maxRecDepth 4000
set_option maxHeartbeats 4000000
section
namespace Go.V
open Go Go.Proofs
def g_ref02_Street_l1 (x0_s : GSightStreet) : List GSightBlock → Int → Option (LOut (Bool) (Unit))
 | [], c1_4 => some (.go ())
 | e1 :: p1, c1_4 => Option.bind (g_ref02_span e1.Along 0 x0_s.Length) (fun r8 => cond (r8) (Option.bind (g_ref02_span e1.Across 1 x0_s.Width) (fun r9 => cond (r9) (g_ref02_Street_l1 x0_s p1 (c1_4 + 1)) (some (.ret false)))) (some (.ret false)))
def g_ref02_Street_l0 (x0_s : GSightStreet) : List GSightBoard → Int → Option (LOut (Bool) (Unit))
 | [], c0_3 => some (.go ())
 | e0 :: p0, c0_3 => Option.bind (g_ref02_board e0 x0_s.Length) (fun r6 => cond (r6) (g_ref02_Street_l0 x0_s p0 (c0_3 + 1)) (some (.ret false)))
def g_ref02_Street (x0_s : GSightStreet) : Option (Bool) := Option.bind (g_ref02_in x0_s.Length 1 40) (fun r1 => cond (r1) (Option.bind (g_ref02_in x0_s.Width 1 12) (fun r2 => cond (r2) (Option.bind (g_ref02_span x0_s.Eye 1 40) (fun r3 => cond (r3) (Option.bind (g_ref02_span x0_s.Light 1 100) (fun r4 => cond (r4) (Option.bind (g_ref02_in (List.length x0_s.Boards : Int) 1 3) (fun r5 => cond (r5) (cond (decide ((List.length x0_s.Blocks : Int) > 4)) (some false) (cond (lenOk x0_s.Boards) (lbind (g_ref02_Street_l0 x0_s x0_s.Boards 0) (fun r12 => some r12) (fun c7 => cond (lenOk x0_s.Blocks) (lbind (g_ref02_Street_l1 x0_s x0_s.Blocks 0) (fun r11 => some r11) (fun c10 => some true) (fun _ _ => none)) none) (fun _ _ => none)) none)) (some false))) (some false))) (some false))) (some false))) (some false))
theorem g_ref02_Street_ok (x0_s : GSightStreet) (R : Bool) (h : g_ref02_Street x0_s = some R) : VPure Tryz.prog G0 19 [.agg (cGSightStreet x0_s)] (.tree (.lit (.bool R))) := by
 refine VPure.runR mixed Tryz.call19 Tryz.func19 rfl (by simp [Tryz.ntmps19]; kernel_rfl) ?_
 obtain ⟨KF, h, kF, kN⟩ := fun_intro h
 simp only [g_ref02_Street] at h
 rcases o14 : (g_ref02_in x0_s.Length 1 40) with _ | r13
 ·simp only [o14, hs] at h
  exact absurd h kN
 simp only [o14, hs] at h
 simp only [vz, tyf, nm, seval]
 refine ktree (args0 := [.lit (.int .i64 x0_s.Length), .lit (.int .i64 1), .lit (.int .i64 40)]) (by first | (simp only [nrm, tynrm] <;> rfl) | rfl) (by simp only [tre, tytre, Bool.and_self]) (g_ref02_in_ok _ _ _ _ o14) ?_
 refine fin_cut (fun tm => tm 1 = .ptr 0 0 ∧ tm 7 = .lit (.bool r13) ∧ True) (by refine ⟨?_, ?_, trivial⟩ <;> first | (simp only [ua, nm, seval] <;> rfl) | rfl) ?_
 rintro tm ⟨e15, e16, _⟩
 cases d17 : (r13)
 ·simp only [d17, hs] at h
  try simp only [vz, tyf, e15, e16, d17, nm, seval]
  obtain rfl := kF _ h
  exact opd_bool Tryz.results19 rfl
 simp only [d17, hs] at h
 rcases o19 : (g_ref02_in x0_s.Width 1 12) with _ | r18
 ·simp only [o19, hs] at h
  exact absurd h kN
 simp only [o19, hs] at h
 simp only [vz, tyf, e15, e16, d17, nm, seval]
 refine ktree (args0 := [.lit (.int .i64 x0_s.Width), .lit (.int .i64 1), .lit (.int .i64 12)]) (by first | (simp only [nrm, tynrm] <;> rfl) | rfl) (by simp only [tre, tytre, Bool.and_self]) (g_ref02_in_ok _ _ _ _ o19) ?_
 refine fin_cut (fun tm => tm 1 = .ptr 0 0 ∧ tm 9 = .lit (.bool false) ∧ tm 12 = .lit (.bool r18) ∧ True) (by refine ⟨e15, ?_, ?_, trivial⟩ <;> first | (simp only [ua, e15, e16, d17, nm, seval] <;> rfl) | rfl) ?_
 rintro tm ⟨e20, e21, e22, _⟩
 cases d23 : (r18)
 ·simp only [d23, hs] at h
  try simp only [vz, tyf, d17, e20, e21, e22, d23, nm, seval]
  obtain rfl := kF _ h
  exact opd_bool Tryz.results19 rfl
 simp only [d23, hs] at h
 rcases o25 : (g_ref02_span x0_s.Eye 1 40) with _ | r24
 ·simp only [o25, hs] at h
  exact absurd h kN
 simp only [o25, hs] at h
 simp only [vz, tyf, d17, e20, e21, e22, d23, nm, seval]
 refine ktree (args0 := [.agg (cGSpan x0_s.Eye), .lit (.int .i64 1), .lit (.int .i64 40)]) (by first | (simp only [nrm, tynrm] <;> rfl) | rfl) (by simp only [tre, tytre, Bool.and_self]) (g_ref02_span_ok _ _ _ _ o25) ?_
 refine fin_cut (fun tm => tm 1 = .ptr 0 0 ∧ tm 15 = .lit (.bool false) ∧ tm 18 = .lit (.bool r24) ∧ True) (by refine ⟨e20, ?_, ?_, trivial⟩ <;> first | (simp only [ua, d17, e20, e21, e22, d23, nm, seval] <;> rfl) | rfl) ?_
 rintro tm ⟨e26, e27, e28, _⟩
 cases d29 : (r24)
 ·simp only [d29, hs] at h
  try simp only [vz, tyf, d17, d23, e26, e27, e28, d29, nm, seval]
  obtain rfl := kF _ h
  exact opd_bool Tryz.results19 rfl
 simp only [d29, hs] at h
 rcases o31 : (g_ref02_span x0_s.Light 1 100) with _ | r30
 ·simp only [o31, hs] at h
  exact absurd h kN
 simp only [o31, hs] at h
 simp only [vz, tyf, d17, d23, e26, e27, e28, d29, nm, seval]
 refine ktree (args0 := [.agg (cGSpan x0_s.Light), .lit (.int .i64 1), .lit (.int .i64 100)]) (by first | (simp only [nrm, tynrm] <;> rfl) | rfl) (by simp only [tre, tytre, Bool.and_self]) (g_ref02_span_ok _ _ _ _ o31) ?_
 refine fin_cut (fun tm => tm 1 = .ptr 0 0 ∧ tm 21 = .lit (.bool false) ∧ tm 24 = .lit (.bool r30) ∧ True) (by refine ⟨e26, ?_, ?_, trivial⟩ <;> first | (simp only [ua, d17, d23, e26, e27, e28, d29, nm, seval] <;> rfl) | rfl) ?_
 rintro tm ⟨e32, e33, e34, _⟩
 cases d35 : (r30)
 ·simp only [d35, hs] at h
  try simp only [vz, tyf, d17, d23, d29, e32, e33, e34, d35, nm, seval]
  obtain rfl := kF _ h
  exact opd_bool Tryz.results19 rfl
 simp only [d35, hs] at h
 rcases o37 : (g_ref02_in (List.length x0_s.Boards : Int) 1 3) with _ | r36
 ·simp only [o37, hs] at h
  exact absurd h kN
 simp only [o37, hs] at h
 simp only [vz, tyf, d17, d23, d29, e32, e33, e34, d35, nm, seval]
 refine ktree (args0 := [.lit (.int .i64 (List.length x0_s.Boards : Int)), .lit (.int .i64 1), .lit (.int .i64 3)]) (by first | (simp only [nrm, tynrm] <;> rfl) | rfl) (by simp only [tre, tytre, Bool.and_self]) (g_ref02_in_ok _ _ _ _ o37) ?_
 refine fin_cut (fun tm => tm 1 = .ptr 0 0 ∧ tm 27 = .lit (.bool false) ∧ tm 31 = .lit (.bool r36) ∧ True) (by refine ⟨e32, ?_, ?_, trivial⟩ <;> first | (simp only [ua, d17, d23, d29, e32, e33, e34, d35, nm, seval] <;> rfl) | rfl) ?_
 rintro tm ⟨e38, e39, e40, _⟩
 cases d41 : (r36)
 ·simp only [d41, hs] at h
  try simp only [vz, tyf, d17, d23, d29, d35, e38, e39, e40, d41, nm, seval]
  obtain rfl := kF _ h
  exact opd_bool Tryz.results19 rfl
 simp only [d41, hs] at h
 cases d42 : (decide ((List.length x0_s.Blocks : Int) > 4))
 ·simp only [d42, hs] at h
  cases g44 : (lenOk x0_s.Boards)
  ·simp only [g44, hs] at h
   exact absurd h kN
  simp only [g44, hs] at h
  simp only [vz, tyf, d17, d23, d29, d35, e38, e39, e40, d41, d42, g44, nm, seval]
  obtain ⟨K43, h, kR43, kG43, kB43, kN43⟩ := lbind_intro h kN
  obtain ⟨f43, hf43, h⟩ := call2 h
  obtain ⟨I43, hI43⟩ : ∃ I : Nat → St → Prop, I = (fun m st => ∃ (p43 : List GSightBoard) (c43_3 : Int), m = List.length p43 ∧ 0 ≤ c43_3 ∧ List.drop (Int.toNat c43_3) x0_s.Boards = p43 ∧ st.df = [] ∧ 38 ≤ st.nx ∧ st.H 0 = some (.cells (some 27) (cGSightStreet x0_s)) ∧ st.tm 1 = .ptr 0 0 ∧ st.tm 3 = .lit (.int .i64 c43_3) ∧ K43 (f43 p43 c43_3)) := ⟨_, rfl⟩
  refine loopK mixed (by kernel_rfl) I43 (List.length x0_s.Boards) (by rw [hI43]; refine ⟨x0_s.Boards, 0, rfl, Int.le_refl _, rfl, rfl, (show 38 ≤ 38 by omega), ?_, e38, ?_, h⟩ <;> first | (simp only [ua, d17, d23, d29, d35, e38, e39, e40, d41, d42, nm, seval] <;> rfl) | rfl) ?_
  rintro m ⟨tm, H, nx43, df⟩ hinv
  rw [hI43] at hinv
  obtain ⟨p43, c43_3, rfl, hi43, hp43, hdf, hn43, H45, e46, e47, h⟩ := hinv
  simp only at hdf hn43 H45 e46 e47
  have n48 := base_ne0 (m := 38) (b := nx43) (by omega)
  subst hdf hf43
  cases p43 with
  | nil =>
   have d49 : (decide (c43_3 < (List.length x0_s.Boards : Int))) = false := not_lt_of_drop hi43 hp43
   simp only [g_ref02_Street_l0, hs, reduceCtorEq] at h
   replace h := kG43 _ h
   try dsimp only at h
   try simp only [hs] at h
   cases g51 : (lenOk x0_s.Blocks)
   ·simp only [g51, hs] at h
    exact absurd h kN
   simp only [g51, hs] at h
   simp only [vz, tyf, d17, d23, d29, d35, d41, d42, g44, n48, e46, e47, H45, d49, g51, nm, seval]
   obtain ⟨K50, h, kR50, kG50, kB50, kN50⟩ := lbind_intro h kN
   obtain ⟨f50, hf50, h⟩ := call2 h
   obtain ⟨I50, hI50⟩ : ∃ I : Nat → St → Prop, I = (fun m st => ∃ (p50 : List GSightBlock) (c50_4 : Int), m = List.length p50 ∧ 0 ≤ c50_4 ∧ List.drop (Int.toNat c50_4) x0_s.Blocks = p50 ∧ st.df = [] ∧ nx43 + 6 ≤ st.nx ∧ st.H 0 = some (.cells (some 27) (cGSightStreet x0_s)) ∧ st.tm 1 = .ptr 0 0 ∧ st.tm 4 = .lit (.int .i64 c50_4) ∧ K50 (f50 p50 c50_4)) := ⟨_, rfl⟩
   refine loopK mixed (by kernel_rfl) I50 (List.length x0_s.Blocks) (by rw [hI50]; refine ⟨x0_s.Blocks, 0, rfl, Int.le_refl _, rfl, rfl, (show nx43 + 6 ≤ nx43 + 6 by omega), ?_, e46, ?_, h⟩ <;> first | (simp only [ua, d17, d23, d29, d35, d41, d42, n48, e46, e47, H45, d49, nm, seval] <;> rfl) | rfl) ?_
   rintro m ⟨tm, H, nx50, df⟩ hinv
   rw [hI50] at hinv
   obtain ⟨p50, c50_4, rfl, hi50, hp50, hdf, hn50, H52, e53, e54, h⟩ := hinv
   simp only at hdf hn50 H52 e53 e54
   have n55 := base_ne0 (m := 38) (b := nx50) (by omega)
   have n56 := base_ne (a := nx43) (m := 6) (b := nx50) (by omega)
   subst hdf hf50
   cases p50 with
   | nil =>
    have d57 : (decide (c50_4 < (List.length x0_s.Blocks : Int))) = false := not_lt_of_drop hi50 hp50
    simp only [g_ref02_Street_l1, hs, reduceCtorEq] at h
    replace h := kG50 _ h
    try dsimp only at h
    try simp only [hs] at h
    try simp only [vz, tyf, d17, d23, d29, d35, d41, d42, g44, n48, d49, g51, n55, n56, e53, e54, H52, d57, nm, seval]
    obtain rfl := kF _ h
    exact opd_bool Tryz.results19 rfl
   | cons e50 p50 =>
    have d58 : (decide (c50_4 < (List.length x0_s.Blocks : Int))) = true := lt_of_drop hi50 hp50
    have o60 := getI_of_drop hi50 hp50
    have w59 := wrap_next hi50 hp50 g51
    simp only [g_ref02_Street_l1, hs, reduceCtorEq] at h
    simp only [vz, tyf, d17, d23, d29, d35, d41, d42, g44, n48, d49, g51, n55, n56, e53, e54, H52, d58, (ix25 o60), w59, nm, seval]
    refine cwp_drwQF (fun tm => tm 1 = .ptr 0 0 ∧ tm 4 = .lit (.int .i64 c50_4) ∧ True) (by refine ⟨e53, e54, trivial⟩ <;> first | (simp only [ua, d17, d23, d29, d35, d41, d42, n48, d49, n55, n56, e53, e54, H52, d58, w59, nm, seval] <;> rfl) | rfl) ?_
    rintro tm ⟨e61, e62, _⟩
    have b63 := And.intro d17 (And.intro d23 (And.intro d29 (And.intro d35 (And.intro d41 (And.intro d42 (And.intro g44 (And.intro n48 (And.intro d49 (And.intro g51 (And.intro n55 (And.intro n56 (And.intro H52 (And.intro d58 w59)))))))))))))
    rcases o65 : (g_ref02_span e50.Along 0 x0_s.Length) with _ | r64
    ·simp only [o65, hs] at h
     exact absurd h kN50
    simp only [o65, hs] at h
    simp only [vz, tyf, b63, (ix25 o60), e61, e62, nm, seval]
    refine dktree (args0 := [.agg (cGSpan e50.Along), .lit (.int .i64 0), .lit (.int .i64 x0_s.Length)]) (by first | (simp only [nrm, tynrm] <;> rfl) | rfl) (by simp only [tre, tytre, Bool.and_self]) (g_ref02_span_ok _ _ _ _ o65) ?_
    refine fin_cut (fun tm => tm 1 = .ptr 0 0 ∧ tm 4 = .lit (.int .i64 c50_4) ∧ tm 71 = .lit (.bool r64) ∧ True) (by refine ⟨e61, e62, ?_, trivial⟩ <;> first | (simp only [ua, b63, e61, e62, nm, seval] <;> rfl) | rfl) ?_
    rintro tm ⟨e66, e67, e68, _⟩
    cases d69 : (r64)
    ·simp only [d69, hs] at h
     try simp only [vz, tyf, b63, (ix25 o60), e66, e67, e68, d69, nm, seval]
     replace h := kR50 _ h
     try dsimp only at h
     obtain rfl := kF _ h
     exact opd_bool Tryz.results19 rfl
    simp only [d69, hs] at h
    rcases o71 : (g_ref02_span e50.Across 1 x0_s.Width) with _ | r70
    ·simp only [o71, hs] at h
     exact absurd h kN50
    simp only [o71, hs] at h
    simp only [vz, tyf, b63, (ix25 o60), e66, e67, e68, d69, nm, seval]
    refine dktree (args0 := [.agg (cGSpan e50.Across), .lit (.int .i64 1), .lit (.int .i64 x0_s.Width)]) (by first | (simp only [nrm, tynrm] <;> rfl) | rfl) (by simp only [tre, tytre, Bool.and_self]) (g_ref02_span_ok _ _ _ _ o71) ?_
    refine fin_cut (fun tm => tm 1 = .ptr 0 0 ∧ tm 4 = .lit (.int .i64 c50_4) ∧ tm 73 = .lit (.bool false) ∧ tm 82 = .lit (.bool r70) ∧ True) (by refine ⟨e66, e67, ?_, ?_, trivial⟩ <;> first | (simp only [ua, b63, e66, e67, e68, d69, nm, seval] <;> rfl) | rfl) ?_
    rintro tm ⟨e72, e73, e74, e75, _⟩
    cases d76 : (r70)
    ·simp only [d76, hs] at h
     try simp only [vz, tyf, b63, (ix25 o60), d69, e72, e73, e74, e75, d76, nm, seval]
     replace h := kR50 _ h
     try dsimp only at h
     obtain rfl := kF _ h
     exact opd_bool Tryz.results19 rfl
    simp only [d76, hs] at h
    simp only [vz, tyf, b63, (ix25 o60), d69, e72, e73, e74, e75, d76, nm, seval]
    exact ⟨List.length p50, Nat.lt_succ_self _, by rw [hI50]; refine ⟨p50, c50_4 + 1, rfl, Int.le_trans hi50 (Int.le_add_one (Int.le_refl _)), drop_next hi50 hp50, rfl, (show nx43 + 6 ≤ nx50 + 30 by omega), ?_, e72, ?_, h⟩ <;> first | (simp only [ua, b63, d69, e72, e73, e74, e75, d76, nm, seval] <;> rfl) | rfl⟩
  | cons e43 p43 =>
   have d77 : (decide (c43_3 < (List.length x0_s.Boards : Int))) = true := lt_of_drop hi43 hp43
   have o79 := getI_of_drop hi43 hp43
   have w78 := wrap_next hi43 hp43 g44
   simp only [g_ref02_Street_l0, hs, reduceCtorEq] at h
   simp only [vz, tyf, d17, d23, d29, d35, d41, d42, g44, n48, e46, e47, H45, d77, (ix24 o79), w78, nm, seval]
   refine cwp_drwQF (fun tm => tm 1 = .ptr 0 0 ∧ tm 3 = .lit (.int .i64 c43_3) ∧ True) (by refine ⟨e46, e47, trivial⟩ <;> first | (simp only [ua, d17, d23, d29, d35, d41, d42, n48, e46, e47, H45, d77, w78, nm, seval] <;> rfl) | rfl) ?_
   rintro tm ⟨e80, e81, _⟩
   have b82 := And.intro d17 (And.intro d23 (And.intro d29 (And.intro d35 (And.intro d41 (And.intro d42 (And.intro g44 (And.intro n48 (And.intro H45 (And.intro d77 w78)))))))))
   rcases o84 : (g_ref02_board e43 x0_s.Length) with _ | r83
   ·simp only [o84, hs] at h
    exact absurd h kN43
   simp only [o84, hs] at h
   simp only [vz, tyf, b82, (ix24 o79), e80, e81, nm, seval]
   refine dktree (args0 := [.agg (cGSightBoard e43), .lit (.int .i64 x0_s.Length)]) (by first | (simp only [nrm, tynrm] <;> rfl) | rfl) (by simp only [tre, tytre, Bool.and_self]) (g_ref02_board_ok _ _ _ o84) ?_
   refine fin_cut (fun tm => tm 1 = .ptr 0 0 ∧ tm 3 = .lit (.int .i64 c43_3) ∧ tm 54 = .lit (.bool r83) ∧ True) (by refine ⟨e80, e81, ?_, trivial⟩ <;> first | (simp only [ua, b82, e80, e81, nm, seval] <;> rfl) | rfl) ?_
   rintro tm ⟨e85, e86, e87, _⟩
   cases d88 : (r83)
   ·simp only [d88, hs] at h
    try simp only [vz, tyf, b82, (ix24 o79), e85, e86, e87, d88, nm, seval]
    replace h := kR43 _ h
    try dsimp only at h
    obtain rfl := kF _ h
    exact opd_bool Tryz.results19 rfl
   simp only [d88, hs] at h
   simp only [vz, tyf, b82, (ix24 o79), e85, e86, e87, d88, nm, seval]
   exact ⟨List.length p43, Nat.lt_succ_self _, by rw [hI43]; refine ⟨p43, c43_3 + 1, rfl, Int.le_trans hi43 (Int.le_add_one (Int.le_refl _)), drop_next hi43 hp43, rfl, (show 38 ≤ nx43 + 17 by omega), ?_, e85, ?_, h⟩ <;> first | (simp only [ua, b82, e85, e86, e87, d88, nm, seval] <;> rfl) | rfl⟩
 simp only [d42, hs] at h
 try simp only [vz, tyf, d17, d23, d29, d35, e38, e39, e40, d41, d42, nm, seval]
 obtain rfl := kF _ h
 exact opd_bool Tryz.results19 rfl
end Go.V
end
section
namespace Go.V
open Go Go.Proofs
def g_ref02_Board (x0_s : GSightStreet) (x1_n : Int) : Option (Bool) := Option.bind (g_ref02_in x1_n 0 (IntKind.i64.wrap ((List.length x0_s.Boards : Int) - 1))) (fun r1 => some r1)
theorem g_ref02_Board_ok (x0_s : GSightStreet) (x1_n : Int) (R : Bool) (h : g_ref02_Board x0_s x1_n = some R) : VPure Tryz.prog G0 20 [.agg (cGSightStreet x0_s), .lit (.int .i64 x1_n)] (.tree (.lit (.bool R))) := by
 refine VPure.runR mixed Tryz.call20 Tryz.func20 rfl (by simp [Tryz.ntmps20]; kernel_rfl) ?_
 obtain ⟨KF, h, kF, kN⟩ := fun_intro h
 simp only [g_ref02_Board] at h
 rcases o3 : (g_ref02_in x1_n 0 (IntKind.i64.wrap ((List.length x0_s.Boards : Int) - 1))) with _ | r2
 ·simp only [o3, hs] at h
  exact absurd h kN
 simp only [o3, hs] at h
 simp only [vz, tyf, nm, seval]
 refine ktree (args0 := [.lit (.int .i64 x1_n), .lit (.int .i64 0), .lit (.int .i64 (IntKind.i64.wrap ((List.length x0_s.Boards : Int) - 1)))]) (by first | (simp only [nrm, tynrm] <;> rfl) | rfl) (by simp only [tre, tytre, Bool.and_self]) (g_ref02_in_ok _ _ _ _ o3) ?_
 refine fin_cut (fun tm => tm 10 = .lit (.bool r2) ∧ True) (by refine ⟨?_, trivial⟩ <;> first | (simp only [ua, nm, seval] <;> rfl) | rfl) ?_
 rintro tm ⟨e4, _⟩
 try simp only [vz, tyf, e4, nm, seval]
 obtain rfl := kF _ h
 exact opd_bool Tryz.results20 rfl
end Go.V
end
section
namespace Go.V
open Go Go.Proofs
end Go.V
end
section
namespace Go.V
open Go Go.Proofs
def g_law02_short_l0  : List GSightBoard → Int → Option (LOut (Bool) (Unit))
 | [], c0_3 => some (.go ())
 | e0 :: p0, c0_3 => cond (decide (c0_3 < 6)) (cond (decide ((List.length e0.Letters : Int) > 7)) (some (.ret false)) (g_law02_short_l0 p0 (c0_3 + 1))) (some (.go ()))
def g_law02_short (x0_s : GSightStreet) : Option (Bool) := cond (lenOk x0_s.Boards) (lbind (g_law02_short_l0 x0_s.Boards 0) (fun r2 => some r2) (fun c1 => cond (decide ((List.length x0_s.Boards : Int) ≤ 5)) (some (decide ((List.length x0_s.Blocks : Int) ≤ 6))) (some false)) (fun _ _ => none)) none
theorem g_law02_short_ok (x0_s : GSightStreet) (R : Bool) (h : g_law02_short x0_s = some R) : VPure Tryz.prog G0 15 [.agg (cGSightStreet x0_s)] (.tree (.lit (.bool R))) := by
 refine VPure.runR mixed Tryz.call15 Tryz.func15 rfl (by simp [Tryz.ntmps15]; kernel_rfl) ?_
 obtain ⟨KF, h, kF, kN⟩ := fun_intro h
 simp only [g_law02_short] at h
 cases g4 : (lenOk x0_s.Boards)
 ·simp only [g4, hs] at h
  exact absurd h kN
 simp only [g4, hs] at h
 simp only [vz, tyf, g4, nm, seval]
 obtain ⟨K3, h, kR3, kG3, kB3, kN3⟩ := lbind_intro h kN
 obtain ⟨f3, hf3, h⟩ := call2 h
 obtain ⟨I3, hI3⟩ : ∃ I : Nat → St → Prop, I = (fun m st => ∃ (p3 : List GSightBoard) (c3_3 : Int), m = List.length p3 ∧ 0 ≤ c3_3 ∧ List.drop (Int.toNat c3_3) x0_s.Boards = p3 ∧ st.df = [] ∧ 3 ≤ st.nx ∧ st.H 0 = some (.cells (some 27) (cGSightStreet x0_s)) ∧ st.tm 1 = .ptr 0 0 ∧ st.tm 3 = .lit (.int .i64 c3_3) ∧ K3 (f3 p3 c3_3)) := ⟨_, rfl⟩
 refine loopK mixed (by kernel_rfl) I3 (List.length x0_s.Boards) (by rw [hI3]; refine ⟨x0_s.Boards, 0, rfl, Int.le_refl _, rfl, rfl, (show 3 ≤ 3 by omega), ?_, ?_, ?_, h⟩ <;> first | (simp only [ua, nm, seval] <;> rfl) | rfl) ?_
 rintro m ⟨tm, H, nx3, df⟩ hinv
 rw [hI3] at hinv
 obtain ⟨p3, c3_3, rfl, hi3, hp3, hdf, hn3, H5, e6, e7, h⟩ := hinv
 simp only at hdf hn3 H5 e6 e7
 have n8 := base_ne0 (m := 3) (b := nx3) (by omega)
 subst hdf hf3
 cases p3 with
 | nil =>
  have d9 : (decide (c3_3 < (List.length x0_s.Boards : Int))) = false := not_lt_of_drop hi3 hp3
  simp only [g_law02_short_l0, hs, reduceCtorEq] at h
  replace h := kG3 _ h
  try dsimp only at h
  try simp only [hs] at h
  cases d10 : (decide ((List.length x0_s.Boards : Int) ≤ 5))
  ·simp only [d10, hs] at h
   try simp only [vz, tyf, g4, n8, e6, e7, H5, d9, d10, nm, seval]
   obtain rfl := kF _ h
   exact opd_bool Tryz.results15 rfl
  simp only [d10, hs] at h
  try simp only [vz, tyf, g4, n8, e6, e7, H5, d9, d10, nm, seval]
  obtain rfl := kF _ h
  exact opd_bool Tryz.results15 rfl
 | cons e3 p3 =>
  have d11 : (decide (c3_3 < (List.length x0_s.Boards : Int))) = true := lt_of_drop hi3 hp3
  have o13 := getI_of_drop hi3 hp3
  have w12 := wrap_next hi3 hp3 g4
  simp only [g_law02_short_l0, hs, reduceCtorEq] at h
  cases d14 : (decide (c3_3 < 6))
  ·simp only [d14, hs] at h
   replace h := kG3 _ h
   try dsimp only at h
   try simp only [hs] at h
   cases d15 : (decide ((List.length x0_s.Boards : Int) ≤ 5))
   ·simp only [d15, hs] at h
    have b16 := And.intro g4 (And.intro n8 (And.intro H5 (And.intro d11 (And.intro w12 (And.intro d14 d15)))))
    try simp only [vz, tyf, b16, e6, e7, (ix24 o13), nm, seval]
    obtain rfl := kF _ h
    exact opd_bool Tryz.results15 rfl
   simp only [d15, hs] at h
   have b17 := And.intro g4 (And.intro n8 (And.intro H5 (And.intro d11 (And.intro w12 (And.intro d14 d15)))))
   try simp only [vz, tyf, b17, e6, e7, (ix24 o13), nm, seval]
   obtain rfl := kF _ h
   exact opd_bool Tryz.results15 rfl
  simp only [d14, hs] at h
  cases d18 : (decide ((List.length e3.Letters : Int) > 7))
  ·simp only [d18, hs] at h
   have b19 := And.intro g4 (And.intro n8 (And.intro H5 (And.intro d11 (And.intro w12 (And.intro d14 d18)))))
   simp only [vz, tyf, b19, e6, e7, (ix24 o13), nm, seval]
   exact ⟨List.length p3, Nat.lt_succ_self _, by rw [hI3]; refine ⟨p3, c3_3 + 1, rfl, Int.le_trans hi3 (Int.le_add_one (Int.le_refl _)), drop_next hi3 hp3, rfl, (show 3 ≤ nx3 + 20 by omega), ?_, e6, ?_, h⟩ <;> first | (simp only [ua, b19, e6, e7, nm, seval] <;> rfl) | rfl⟩
  simp only [d18, hs] at h
  have b20 := And.intro g4 (And.intro n8 (And.intro H5 (And.intro d11 (And.intro w12 (And.intro d14 d18)))))
  try simp only [vz, tyf, b20, e6, e7, (ix24 o13), nm, seval]
  replace h := kR3 _ h
  try dsimp only at h
  obtain rfl := kF _ h
  exact opd_bool Tryz.results15 rfl
end Go.V
end
section
namespace Go.V
open Go
theorem isFrom_eq (a n b : Int) : g_limits_IsFrom a n b = some (inB a b n) := by
 unfold g_limits_IsFrom inB
 cases decide (a ≤ n) <;> rfl
theorem in_eq (n a b : Int) : g_ref02_in n a b = some (inB a b n) := by
 unfold g_ref02_in inB
 show cond (decide (a ≤ n)) _ _ = _
 cases decide (a ≤ n) <;> rfl
def spanB (a b : Int) (x : GSpan) : Bool := decide (a ≤ x.Low) && (decide (x.Low ≤ x.High) && decide (x.High ≤ b))
theorem spanB_iff {a b : Int} {x : GSpan} : spanB a b x = true ↔ a ≤ x.Low ∧ x.Low ≤ x.High ∧ x.High ≤ b := by simp [spanB]
theorem isSpan_eq (a b : Int) (x : GSpan) : g_limits_IsSpan a x b = some (spanB a b x) := by
 unfold g_limits_IsSpan spanB
 cases decide (a ≤ x.Low) <;> cases decide (x.Low ≤ x.High) <;> rfl
theorem span_eq (x : GSpan) (a b : Int) : g_ref02_span x a b = some (spanB a b x) := by
 unfold g_ref02_span
 simp only [in_eq, Option.bind_some, csome]
 by_cases h1 : a ≤ x.Low <;> by_cases h2 : x.Low ≤ x.High <;> by_cases h3 : x.High ≤ b <;> by_cases h4 : x.Low ≤ b <;> simp [inB, spanB, h1, h2, h3, h4] <;> omega
def letterB (l : GSightLetter) : Bool := inB 1 30 l.Height && (inB 1 30 l.Width && (inB 1 10 l.Stroke && inB 0 20 l.Space))
def lastB (ls : List GSightLetter) : Bool := match ls.getLast? with | some l => l.Space == 0 | none => false
def lettersB (ls : List GSightLetter) : Bool := inB 1 5 ls.length && (ls.all letterB && lastB ls)
def boardB (len : Int) (b : GSightBoard) : Bool := inB 0 len b.At && lettersB b.Letters
def boardsB (len : Int) (bs : List GSightBoard) : Bool := inB 1 3 bs.length && bs.all (boardB len)
def blockB (len wid : Int) (b : GSightBlock) : Bool := spanB 0 len b.Along && spanB 1 wid b.Across
def blocksB (len wid : Int) (bs : List GSightBlock) : Bool := bs.all (blockB len wid) && decide ((bs.length : Int) ≤ 4)
def streetB (s : GSightStreet) : Bool := inB 1 40 s.Length && (inB 1 12 s.Width && (spanB 1 40 s.Eye && (spanB 1 100 s.Light && (boardsB s.Length s.Boards && blocksB s.Length s.Width s.Blocks))))
def FineS (s : GSightStreet) : Prop := lenOk s.Boards = true ∧ (∀ b ∈ s.Boards, lenOk b.Letters = true) ∧ lenOk s.Blocks = true
theorem isLetter_eq (l : GSightLetter) : g_sight_isLetter l = some (letterB l) := by
 simp only [g_sight_isLetter, isFrom_eq, Option.bind_some, csome, letterB]
theorem areLetters_l0_eq : ∀ (p : List GSightLetter) (i : Int), g_sight_areLetters_l0 p i = goB (p.all letterB)
 | [], _ => rfl
 | e :: p, i => by simp only [g_sight_areLetters_l0, goB_and, isLetter_eq, Option.bind_some, areLetters_l0_eq p, List.all_cons]
theorem last_eq {ls : List GSightLetter} (h1 : inB 1 5 ls.length = true) : ∃ l, getI ls (IntKind.i64.wrap ((ls.length : Int) - 1)) = some l ∧ lastB ls = (l.Space == 0) := by
 have h := inB_iff.1 h1
 have hl := getI_last (xs := ls) (by omega) (by omega)
 have hne : ls ≠ [] := by intro h'; rw [h'] at h; simp at h
 refine ⟨ls.getLast hne, by rw [hl, List.getLast?_eq_some_getLast hne], ?_⟩
 unfold lastB
 rw [List.getLast?_eq_some_getLast hne]
theorem areLetters_eq (ls : List GSightLetter) (h : lenOk ls = true) : g_sight_areLetters ls = some (lettersB ls) := by
 simp only [g_sight_areLetters, isFrom_eq, Option.bind_some, h, cond_true, areLetters_l0_eq, goB_lbind, lettersB]
 cases h1 : inB 1 5 ls.length with
 | false => rfl
 | true =>
  obtain ⟨l, e1, e2⟩ := last_eq h1
  simp only [cond_true, e1, Option.bind_some, csome, e2, Bool.true_and]
theorem areBoards_l0_eq (len : Int) : ∀ (p : List GSightBoard) (i : Int), (∀ b ∈ p, lenOk b.Letters = true) → g_sight_areBoards_l0 len p i = goB (p.all (boardB len))
 | [], _, _ => rfl
 | e :: p, i, h => by
  simp only [g_sight_areBoards_l0, goB_and, isFrom_eq, areLetters_eq _ (h e (List.mem_cons_self ..)), Option.bind_some, areBoards_l0_eq len p (i + 1) (fun b hb => h b (List.mem_cons_of_mem _ hb)), List.all_cons, boardB, cand]
theorem areBoards_eq (len : Int) (bs : List GSightBoard) (h : lenOk bs = true) (h2 : ∀ b ∈ bs, lenOk b.Letters = true) : g_sight_areBoards bs len = some (boardsB len bs) := by
 simp only [g_sight_areBoards, isFrom_eq, Option.bind_some, h, cond_true, areBoards_l0_eq len bs 0 h2, goB_lbind, boardsB, csome, Bool.and_true]
theorem areBlocks_l0_eq (len wid : Int) : ∀ (p : List GSightBlock) (i : Int), g_sight_areBlocks_l0 len wid p i = goB (p.all (blockB len wid))
 | [], _ => rfl
 | e :: p, i => by simp only [g_sight_areBlocks_l0, goB_and, isSpan_eq, Option.bind_some, areBlocks_l0_eq len wid p, List.all_cons, blockB, cand]
theorem areBlocks_eq (len wid : Int) (bs : List GSightBlock) (h : lenOk bs = true) : g_sight_areBlocks bs len wid = some (blocksB len wid bs) := by
 simp only [g_sight_areBlocks, h, cond_true, areBlocks_l0_eq, goB_lbind, blocksB, csome]
theorem isStreet_eq (s : GSightStreet) (h : FineS s) : g_sight_isStreet s = some (streetB s) := by
 simp only [g_sight_isStreet, isFrom_eq, isSpan_eq, areBoards_eq _ _ h.1 h.2.1, areBlocks_eq _ _ _ h.2.2, Option.bind_some, csome, streetB]
theorem refboard_l0_eq : ∀ (p : List GSightLetter) (i : Int), g_ref02_board_l0 p i = goB (p.all letterB)
 | [], _ => rfl
 | e :: p, i => by simp only [g_ref02_board_l0, goB_and, in_eq, Option.bind_some, refboard_l0_eq p, List.all_cons, letterB, cand]
theorem refboard_eq (b : GSightBoard) (len : Int) (h : lenOk b.Letters = true) : g_ref02_board b len = some (boardB len b) := by
 simp only [g_ref02_board, in_eq, Option.bind_some, h, cond_true, refboard_l0_eq, goB_lbind, boardB, lettersB]
 cases h0 : inB 0 len b.At with
 | false => rfl
 | true =>
  cases h1 : inB 1 5 b.Letters.length with
  | false => rfl
  | true =>
   obtain ⟨l, e1, e2⟩ := last_eq h1
   simp only [cond_true, e1, Option.bind_some, csome, e2, Bool.true_and]
   have hne : (l.Space != 0) = !(l.Space == 0) := rfl
   rw [hne]
   cases (l.Space == 0) <;> cases b.Letters.all letterB <;> rfl
theorem refStreet_l0_eq (s : GSightStreet) : ∀ (p : List GSightBoard) (i : Int), (∀ b ∈ p, lenOk b.Letters = true) → g_ref02_Street_l0 s p i = goB (p.all (boardB s.Length))
 | [], _, _ => rfl
 | e :: p, i, h => by
  simp only [g_ref02_Street_l0, goB_and, refboard_eq _ _ (h e (List.mem_cons_self ..)), Option.bind_some, refStreet_l0_eq s p (i + 1) (fun b hb => h b (List.mem_cons_of_mem _ hb)), List.all_cons]
theorem refStreet_l1_eq (s : GSightStreet) : ∀ (p : List GSightBlock) (i : Int), g_ref02_Street_l1 s p i = goB (p.all (blockB s.Length s.Width))
 | [], _ => rfl
 | e :: p, i => by simp only [g_ref02_Street_l1, goB_and, span_eq, Option.bind_some, refStreet_l1_eq s p, List.all_cons, blockB, cand]
theorem refStreet_eq (s : GSightStreet) (h : FineS s) : g_ref02_Street s = some (streetB s) := by
 simp only [g_ref02_Street, in_eq, span_eq, Option.bind_some, h.1, h.2.2, cond_true, refStreet_l0_eq s _ _ h.2.1, refStreet_l1_eq, goB_lbind, csome, streetB, boardsB, blocksB]
 by_cases h4 : (s.Blocks.length : Int) ≤ 4
 ·have : ¬ (s.Blocks.length : Int) > 4 := by omega
  simp only [h4, this, decide_true, decide_false, cond_false, csome, Bool.and_true, Bool.and_assoc]
 ·have : (s.Blocks.length : Int) > 4 := by omega
  simp only [h4, this, decide_true, decide_false, cond_true, csome, Bool.and_false]
theorem isBoard_eq (s : GSightStreet) (n : Int) : g_sight_isBoard s n = some (inB 0 (IntKind.i64.wrap ((s.Boards.length : Int) - 1)) n) := by
 simp only [g_sight_isBoard, isFrom_eq, Option.bind_some]
theorem refBoard_eq (s : GSightStreet) (n : Int) : g_ref02_Board s n = some (inB 0 (IntKind.i64.wrap ((s.Boards.length : Int) - 1)) n) := by
 simp only [g_ref02_Board, in_eq, Option.bind_some]
def placeB (s : GSightStreet) (p : GSightPlace) : Bool := inB 0 s.Length p.Along && inB 1 s.Width p.Across
def numB (s : GSightStreet) (n : Int) : Bool := inB 0 (IntKind.i64.wrap ((s.Boards.length : Int) - 1)) n
theorem short_l0_some : ∀ (p : List GSightBoard) (i : Int), g_law02_short_l0 p i = some (.go ()) ∨ g_law02_short_l0 p i = some (.ret false)
 | [], _ => .inl rfl
 | e :: p, i => by
  unfold g_law02_short_l0
  cases decide (i < 6)
  ·exact .inl rfl
  ·cases decide ((e.Letters.length : Int) > 7)
   ·exact short_l0_some p (i + 1)
   ·exact .inr rfl
theorem short_some (s : GSightStreet) (h : FineS s) : ∃ b, g_law02_short s = some b := by
 simp only [g_law02_short, h.1, cond_true]
 rcases short_l0_some s.Boards 0 with e | e <;> rw [e]
 ·simp only [lbind_go]; cases decide ((s.Boards.length : Int) ≤ 5) <;> exact ⟨_, rfl⟩
 ·exact ⟨_, rfl⟩
structure Good (s : GSightStreet) (b : GSightBoard) (p : GSightPlace) : Prop where
 el : 1 ≤ s.Eye.Low
 em : s.Eye.Low ≤ s.Eye.High
 eh : s.Eye.High ≤ 40
 ll : 1 ≤ s.Light.Low
 lm : s.Light.Low ≤ s.Light.High
 lh : s.Light.High ≤ 100
 a0 : 0 ≤ b.At
 a1 : b.At ≤ 40
 n1 : 1 ≤ b.Letters.length
 n5 : b.Letters.length ≤ 5
 lets : ∀ l ∈ b.Letters, letterB l = true
 last : lastB b.Letters = true
 p0 : 0 ≤ p.Along
 p1 : p.Along ≤ 40
 q0 : 1 ≤ p.Across
 q1 : p.Across ≤ 12
 nb : s.Blocks.length ≤ 4
 blks : ∀ k ∈ s.Blocks, 0 ≤ k.Along.Low ∧ k.Along.Low ≤ k.Along.High ∧ k.Along.High ≤ 40 ∧ 1 ≤ k.Across.Low ∧ k.Across.Low ≤ k.Across.High ∧ k.Across.High ≤ 12
theorem good_of {s : GSightStreet} {n : Int} {p : GSightPlace} (h1 : streetB s = true) (h2 : numB s n = true) (h3 : placeB s p = true) : ∃ b, getI s.Boards n = some b ∧ b ∈ s.Boards ∧ Good s b p := by
 simp only [streetB, Bool.and_eq_true, inB_iff, spanB_iff, boardsB, blocksB, decide_eq_true_eq, List.all_eq_true] at h1
 obtain ⟨⟨l0, l1⟩, ⟨w0, w1⟩, ⟨e0, e1, e2⟩, ⟨g0, g1, g2⟩, ⟨⟨b0, b1⟩, hb⟩, hk, hk4⟩ := h1
 have h2' := inB_iff.1 h2
 rw [wrap_eq (by omega) (by omega)] at h2'
 obtain ⟨b, hb1, hb2⟩ := getI_some (xs := s.Boards) (i := n) (by omega) (by omega)
 have hbb := hb b hb2
 simp only [boardB, lettersB, Bool.and_eq_true, inB_iff, List.all_eq_true] at hbb
 obtain ⟨⟨a0, a1⟩, ⟨n1, n5⟩, hl, hz⟩ := hbb
 simp only [placeB, Bool.and_eq_true, inB_iff] at h3
 refine ⟨b, hb1, hb2, ⟨e0, e1, e2, g0, g1, g2, a0, by omega, by omega, by omega, hl, hz, h3.1.1, by omega, h3.2.1, by omega, by omega, ?_⟩⟩
 intro k hkm
 have := hk k hkm
 simp only [blockB, Bool.and_eq_true, spanB_iff] at this
 omega
end Go.V
end
section
namespace Go.V
open Go Go.Proofs
def g_sight_squares_l0  : List Int → Int → Int → Option (LOut (Int) (Int))
 | [], c0_8, c0_3 => some (.go c0_3)
 | e0 :: p0, c0_8, c0_3 => g_sight_squares_l0 p0 (c0_8 + 1) (IntKind.i64.wrap (c0_3 + (IntKind.i64.wrap (e0 * e0))))
def g_sight_squares (x0_numbers : List Int) : Option (Int) := cond (lenOk x0_numbers) (lbind (g_sight_squares_l0 x0_numbers 0 0) (fun r2 => some r2) (fun c1 => some c1) (fun _ _ => none)) none
theorem g_sight_squares_ok (x0_numbers : List Int) (R : Int) (h : g_sight_squares x0_numbers = some R) : VPure Tryz.prog G0 99 [.sl (cellsL eI x0_numbers) (List.length x0_numbers) false] (.tree (.lit (.int .i64 R))) := by
 refine VPure.runR mixed Tryz.call99 Tryz.func99 rfl (by simp [Tryz.ntmps99]; kernel_rfl) ?_
 obtain ⟨KF, h, kF, kN⟩ := fun_intro h
 simp only [g_sight_squares] at h
 cases g4 : (lenOk x0_numbers)
 ·simp only [g4, hs] at h
  exact absurd h kN
 simp only [g4, hs] at h
 simp only [vz, tyf, g4, nm, seval]
 obtain ⟨K3, h, kR3, kG3, kB3, kN3⟩ := lbind_intro h kN
 obtain ⟨f3, hf3, h⟩ := call3 h
 obtain ⟨I3, hI3⟩ : ∃ I : Nat → St → Prop, I = (fun m st => ∃ (p3 : List Int) (c3_8 : Int) (c3_3 : Int), m = List.length p3 ∧ 0 ≤ c3_8 ∧ List.drop (Int.toNat c3_8) x0_numbers = p3 ∧ st.df = [] ∧ 5 ≤ st.nx ∧ st.tm 6 = .sl (cellsL eI x0_numbers) (List.length x0_numbers) false ∧ st.tm 7 = .lit (.int .i64 (List.length x0_numbers : Int)) ∧ st.tm 3 = .lit (.int .i64 c3_3) ∧ st.tm 8 = .lit (.int .i64 c3_8) ∧ K3 (f3 p3 c3_8 c3_3)) := ⟨_, rfl⟩
 refine loopK mixed (by kernel_rfl) I3 (List.length x0_numbers) (by rw [hI3]; refine ⟨x0_numbers, 0, 0, rfl, Int.le_refl _, rfl, rfl, (show 5 ≤ 5 by omega), ?_, ?_, ?_, ?_, h⟩ <;> first | (simp only [ua, nm, seval] <;> rfl) | rfl) ?_
 rintro m ⟨tm, H, nx3, df⟩ hinv
 rw [hI3] at hinv
 obtain ⟨p3, c3_8, c3_3, rfl, hi3, hp3, hdf, hn3, e5, e6, e7, e8, h⟩ := hinv
 simp only at hdf hn3 e5 e6 e7 e8
 have n9 := base_ne0 (m := 5) (b := nx3) (by omega)
 subst hdf hf3
 cases p3 with
 | nil =>
  have d10 : (decide (c3_8 < (List.length x0_numbers : Int))) = false := not_lt_of_drop hi3 hp3
  simp only [g_sight_squares_l0, hs, reduceCtorEq] at h
  replace h := kG3 _ h
  try dsimp only at h
  try simp only [hs] at h
  try simp only [vz, tyf, g4, n9, e5, e6, e7, e8, d10, nm, seval]
  refine opd_ret (x := (.lit (.int .i64 c3_3))) (by first | (simp only [Tryz.results99, resV, resL, resV1, tgt_ptr, tgt_tp, uw, cr, tyf, g4, n9, d10, nm, seval] <;> rfl) | rfl) ?_
  obtain rfl := kF _ h
  refine rr_tree ?_ ?_
  ·simp only [tre, tytre, Bool.and_self]
  ·first | (simp only [outV, uw, showV_ref, cr, tyf, nrm, tynrm, g4, n9, e5, e6, e7, e8, d10, nm, seval] <;> rfl) | rfl
 | cons e3 p3 =>
  have d11 : (decide (c3_8 < (List.length x0_numbers : Int))) = true := lt_of_drop hi3 hp3
  have o13 := getI_of_drop hi3 hp3
  have w12 := wrap_next hi3 hp3 g4
  simp only [g_sight_squares_l0, hs, reduceCtorEq] at h
  simp only [vz, tyf, g4, n9, e5, e6, e7, e8, d11, (ix78 o13), w12, nm, seval]
  exact ⟨List.length p3, Nat.lt_succ_self _, by rw [hI3]; refine ⟨p3, c3_8 + 1, IntKind.i64.wrap (c3_3 + (IntKind.i64.wrap (e3 * e3))), rfl, Int.le_trans hi3 (Int.le_add_one (Int.le_refl _)), drop_next hi3 hp3, rfl, (show 5 ≤ nx3 + 12 by omega), e5, e6, ?_, ?_, h⟩ <;> first | (simp only [ua, n9, e5, e6, e7, e8, d11, w12, nm, seval] <;> rfl) | rfl⟩
end Go.V
end
section
namespace Go.V
open Go Go.Proofs
def g_sight_view_far (x0_v : Gsightview) : Option (Int) := Option.bind (g_sight_squares ([IntKind.i64.wrap (x0_v.SightPlace.Along - x0_v.board.At), x0_v.SightPlace.Across])) (fun r1 => some r1)
theorem g_sight_view_far_ok (x0_v : Gsightview) (R : Int) (h : g_sight_view_far x0_v = some R) : VPure Tryz.prog G0 62 [.agg (cGsightview x0_v)] (.tree (.lit (.int .i64 R))) := by
 refine VPure.runR mixed Tryz.call62 Tryz.func62 rfl (by simp [Tryz.ntmps62]; kernel_rfl) ?_
 obtain ⟨KF, h, kF, kN⟩ := fun_intro h
 simp only [g_sight_view_far] at h
 rcases o3 : (g_sight_squares ([IntKind.i64.wrap (x0_v.SightPlace.Along - x0_v.board.At), x0_v.SightPlace.Across])) with _ | r2
 ·simp only [o3, hs] at h
  exact absurd h kN
 simp only [o3, hs] at h
 simp only [vz, tyf, nm, seval]
 refine kseen (args0 := [.sl (cellsL eI ([IntKind.i64.wrap (x0_v.SightPlace.Along - x0_v.board.At), x0_v.SightPlace.Across])) (List.length ([IntKind.i64.wrap (x0_v.SightPlace.Along - x0_v.board.At), x0_v.SightPlace.Across])) false]) (by simp only [List.map_cons, List.map_nil, showV_ref, updH_apply, without_apply, cr, tyf, nrm, tynrm, nm, seval] <;> rfl) (by simp only [List.map_cons, List.map_nil, showV_ref, updH_apply, without_apply, cr, tyf, nrm, tynrm, nm, seval]; simp only [tre, tytre, Bool.and_self]) (g_sight_squares_ok _ _ o3) (by first | rfl | simp only [VV.flat, flatL, Bool.and_self]) ?_
 refine fin_cut (fun tm => tm 14 = .lit (.int .i64 r2) ∧ True) (by refine ⟨?_, trivial⟩ <;> first | (simp only [ua, nm, seval] <;> rfl) | rfl) ?_
 rintro tm ⟨e4, _⟩
 try simp only [vz, tyf, e4, nm, seval]
 refine opd_ret (x := (.lit (.int .i64 r2))) (by first | (simp only [Tryz.results62, resV, resL, resV1, tgt_ptr, tgt_tp, uw, cr, tyf, nm, seval] <;> rfl) | rfl) ?_
 obtain rfl := kF _ h
 refine rr_tree ?_ ?_
 ·simp only [tre, tytre, Bool.and_self]
 ·first | (simp only [outV, uw, showV_ref, cr, tyf, nrm, tynrm, e4, nm, seval] <;> rfl) | rfl
end Go.V
end
section
namespace Go.V
open Go Go.Proofs
def g_sight_view_spreads (x0_v : Gsightview) (x1_width : Int) : Option (Bool) := Option.bind (g_sight_view_far x0_v) (fun r1 => some (decide ((IntKind.i64.wrap ((IntKind.i64.wrap (x1_width * x0_v.power)) * x0_v.SightPlace.Across)) ≥ (IntKind.i64.wrap (100 * r1)))))
theorem g_sight_view_spreads_ok (x0_v : Gsightview) (x1_width : Int) (R : Bool) (h : g_sight_view_spreads x0_v x1_width = some R) : VPure Tryz.prog G0 123 [.agg (cGsightview x0_v), .lit (.int .i64 x1_width)] (.tree (.lit (.bool R))) := by
 refine VPure.runR mixed Tryz.call123 Tryz.func123 rfl (by simp [Tryz.ntmps123]; kernel_rfl) ?_
 obtain ⟨KF, h, kF, kN⟩ := fun_intro h
 simp only [g_sight_view_spreads] at h
 simp only [vz, tyf, nm, seval]
 refine cwp_drwQF (fun tm => tm 1 = .lit (.int .i64 x1_width) ∧ tm 2 = .ptr 0 0 ∧ True) (by refine ⟨?_, ?_, trivial⟩ <;> first | (simp only [ua, nm, seval] <;> rfl) | rfl) ?_
 rintro tm ⟨e2, e3, _⟩
 rcases o5 : (g_sight_view_far x0_v) with _ | r4
 ·simp only [o5, hs] at h
  exact absurd h kN
 simp only [o5, hs] at h
 simp only [vz, tyf, e2, e3, nm, seval]
 refine dktree (args0 := [.agg (cGsightview x0_v)]) (by first | (simp only [nrm, tynrm] <;> rfl) | rfl) (by simp only [tre, tytre, Bool.and_self]) (g_sight_view_far_ok _ _ o5) ?_
 refine fin_cut (fun tm => tm 12 = .lit (.int .i64 (IntKind.i64.wrap ((IntKind.i64.wrap (x1_width * x0_v.power)) * x0_v.SightPlace.Across))) ∧ tm 14 = .lit (.int .i64 r4) ∧ True) (by refine ⟨?_, ?_, trivial⟩ <;> first | (simp only [ua, e2, e3, nm, seval] <;> rfl) | rfl) ?_
 rintro tm ⟨e6, e7, _⟩
 try simp only [vz, tyf, e6, e7, nm, seval]
 obtain rfl := kF _ h
 exact opd_bool Tryz.results123 rfl
end Go.V
end
section
namespace Go.V
open Go Go.Proofs
def g_sight_view_isApart (x0_v : Gsightview) (x1_letter : Int) : Option (Bool) := Option.bind (getI x0_v.board.Letters x1_letter) (fun x1 => Option.bind (g_sight_view_spreads x0_v (IntKind.i64.wrap (5 * x1.Space))) (fun r2 => some r2))
theorem g_sight_view_isApart_ok (x0_v : Gsightview) (x1_letter : Int) (R : Bool) (h : g_sight_view_isApart x0_v x1_letter = some R) : VPure Tryz.prog G0 92 [.agg (cGsightview x0_v), .lit (.int .i64 x1_letter)] (.tree (.lit (.bool R))) := by
 refine VPure.runR mixed Tryz.call92 Tryz.func92 rfl (by simp [Tryz.ntmps92]; kernel_rfl) ?_
 obtain ⟨KF, h, kF, kN⟩ := fun_intro h
 simp only [g_sight_view_isApart] at h
 simp only [vz, tyf, nm, seval]
 refine cwp_drwQF (fun tm => tm 1 = .lit (.int .i64 x1_letter) ∧ tm 2 = .ptr 0 0 ∧ True) (by refine ⟨?_, ?_, trivial⟩ <;> first | (simp only [ua, nm, seval] <;> rfl) | rfl) ?_
 rintro tm ⟨e3, e4, _⟩
 rcases o6 : (getI x0_v.board.Letters x1_letter) with _ | x5
 ·simp only [o6, hs] at h
  exact absurd h kN
 simp only [o6, hs] at h
 rcases o8 : (g_sight_view_spreads x0_v (IntKind.i64.wrap (5 * x5.Space))) with _ | r7
 ·simp only [o8, hs] at h
  exact absurd h kN
 simp only [o8, hs] at h
 simp only [vz, tyf, e3, e4, (ix38 o6), nm, seval]
 refine dktree (args0 := [.agg (cGsightview x0_v), .lit (.int .i64 (IntKind.i64.wrap (5 * x5.Space)))]) (by first | (simp only [nrm, tynrm] <;> rfl) | rfl) (by simp only [tre, tytre, Bool.and_self]) (g_sight_view_spreads_ok _ _ _ o8) ?_
 refine fin_cut (fun tm => tm 14 = .lit (.bool r7) ∧ True) (by refine ⟨?_, trivial⟩ <;> first | (simp only [ua, e3, e4, nm, seval] <;> rfl) | rfl) ?_
 rintro tm ⟨e9, _⟩
 try simp only [vz, tyf, (ix38 o6), e9, nm, seval]
 obtain rfl := kF _ h
 exact opd_bool Tryz.results92 rfl
end Go.V
end
section
namespace Go.V
open Go Go.Proofs
def g_sight_view_reaches (x0_v : Gsightview) (x1_height : Int) : Option (Bool) := Option.bind (g_sight_squares ([IntKind.i64.wrap (x1_height * x0_v.power)])) (fun r1 => Option.bind (g_sight_squares ([100])) (fun r2 => Option.bind (g_sight_view_far x0_v) (fun r3 => some (decide (r1 ≥ (IntKind.i64.wrap (r2 * r3)))))))
theorem g_sight_view_reaches_ok (x0_v : Gsightview) (x1_height : Int) (R : Bool) (h : g_sight_view_reaches x0_v x1_height = some R) : VPure Tryz.prog G0 149 [.agg (cGsightview x0_v), .lit (.int .i64 x1_height)] (.tree (.lit (.bool R))) := by
 refine VPure.runR mixed Tryz.call149 Tryz.func149 rfl (by simp [Tryz.ntmps149]; kernel_rfl) ?_
 obtain ⟨KF, h, kF, kN⟩ := fun_intro h
 simp only [g_sight_view_reaches] at h
 simp only [vz, tyf, nm, seval]
 refine cwp_drawTF (fun tm => tm 1 = .lit (.int .i64 x1_height) ∧ tm 2 = .ptr 0 0 ∧ True) (by refine ⟨?_, ?_, trivial⟩ <;> first | (simp only [ua, nm, seval] <;> rfl) | rfl) ?_
 rintro tm ⟨e4, e5, _⟩
 rcases o7 : (g_sight_squares ([IntKind.i64.wrap (x1_height * x0_v.power)])) with _ | r6
 ·simp only [o7, hs] at h
  exact absurd h kN
 simp only [o7, hs] at h
 simp only [vz, tyf, e4, e5, nm, seval]
 refine dkseen1 (w := 1) (enc := eI) (xs := ([IntKind.i64.wrap (x1_height * x0_v.power)])) (el := (some 3)) ⟨eI_ok.tree, eI_ok.norm⟩ (fun _ => rfl) (by simp only [List.length_cons, List.length_nil]; decide) (by simp only [updH_apply, without_apply, et78, nm, seval] <;> rfl) (g_sight_squares_ok _ _ o7) (by first | rfl | simp only [VV.flat, flatL, Bool.and_self]) ?_
 refine fin_cut (fun tm => tm 2 = .ptr 0 0 ∧ tm 10 = .lit (.int .i64 r6) ∧ True) (by refine ⟨e5, ?_, trivial⟩ <;> first | (simp only [ua, e4, e5, nm, seval] <;> rfl) | rfl) ?_
 rintro tm ⟨e8, e9, _⟩
 rcases o11 : (g_sight_squares ([100])) with _ | r10
 ·simp only [o11, hs] at h
  exact absurd h kN
 simp only [o11, hs] at h
 simp only [vz, tyf, e8, e9, nm, seval]
 refine dkseen1 (w := 1) (enc := eI) (xs := ([100])) (el := (some 3)) ⟨eI_ok.tree, eI_ok.norm⟩ (fun _ => rfl) (by simp only [List.length_cons, List.length_nil]; decide) (by simp only [updH_apply, without_apply, et78, nm, seval] <;> rfl) (g_sight_squares_ok _ _ o11) (by first | rfl | simp only [VV.flat, flatL, Bool.and_self]) ?_
 refine fin_cut (fun tm => tm 2 = .ptr 0 0 ∧ tm 10 = .lit (.int .i64 r6) ∧ tm 12 = .lit (.int .i64 r10) ∧ True) (by refine ⟨e8, e9, ?_, trivial⟩ <;> first | (simp only [ua, e8, e9, nm, seval] <;> rfl) | rfl) ?_
 rintro tm ⟨e12, e13, e14, _⟩
 rcases o16 : (g_sight_view_far x0_v) with _ | r15
 ·simp only [o16, hs] at h
  exact absurd h kN
 simp only [o16, hs] at h
 simp only [vz, tyf, e12, e13, e14, nm, seval]
 refine dktree (args0 := [.agg (cGsightview x0_v)]) (by first | (simp only [nrm, tynrm] <;> rfl) | rfl) (by simp only [tre, tytre, Bool.and_self]) (g_sight_view_far_ok _ _ o16) ?_
 refine fin_cut (fun tm => tm 10 = .lit (.int .i64 r6) ∧ tm 12 = .lit (.int .i64 r10) ∧ tm 14 = .lit (.int .i64 r15) ∧ True) (by refine ⟨e13, e14, ?_, trivial⟩ <;> first | (simp only [ua, e12, e13, e14, nm, seval] <;> rfl) | rfl) ?_
 rintro tm ⟨e17, e18, e19, _⟩
 simp only [vz, tyf, e17, e18, e19, nm, seval]
 refine drawK_nil ⟨?_, ?_⟩
 ·simp only [traceR_cons, traceR_nil, hitK_quiet, hitK_nil, and_true, true_and]
  repeat' (first | exact trivial | refine And.intro ?_ ?_ | rw [hitK_quiet] | rw [hitK_cons] | exact Or.inl (by decide +kernel) | exact Or.inl (by dsimp only; decide +kernel) | (refine Or.inr ⟨?_, ?_⟩ <;> simp; done) | (refine Or.inr ⟨?_, ?_⟩ <;> simp <;> omega) | (refine Or.inr ⟨?_, ?_⟩ <;> simp [VEff.wr] <;> omega))
 try simp only [vz, tyf, e17, e18, e19, nm, seval]
 obtain rfl := kF _ h
 exact opd_bool Tryz.results149 rfl
end Go.V
end
section
namespace Go.V
open Go Go.Proofs
def g_sight_view_isTall (x0_v : Gsightview) (x1_letter : Int) : Option (Bool) := Option.bind (getI x0_v.board.Letters x1_letter) (fun x1 => Option.bind (g_sight_view_reaches x0_v x1.Height) (fun r2 => some r2))
theorem g_sight_view_isTall_ok (x0_v : Gsightview) (x1_letter : Int) (R : Bool) (h : g_sight_view_isTall x0_v x1_letter = some R) : VPure Tryz.prog G0 131 [.agg (cGsightview x0_v), .lit (.int .i64 x1_letter)] (.tree (.lit (.bool R))) := by
 refine VPure.runR mixed Tryz.call131 Tryz.func131 rfl (by simp [Tryz.ntmps131]; kernel_rfl) ?_
 obtain ⟨KF, h, kF, kN⟩ := fun_intro h
 simp only [g_sight_view_isTall] at h
 simp only [vz, tyf, nm, seval]
 refine cwp_drwQF (fun tm => tm 1 = .lit (.int .i64 x1_letter) ∧ tm 2 = .ptr 0 0 ∧ True) (by refine ⟨?_, ?_, trivial⟩ <;> first | (simp only [ua, nm, seval] <;> rfl) | rfl) ?_
 rintro tm ⟨e3, e4, _⟩
 rcases o6 : (getI x0_v.board.Letters x1_letter) with _ | x5
 ·simp only [o6, hs] at h
  exact absurd h kN
 simp only [o6, hs] at h
 rcases o8 : (g_sight_view_reaches x0_v x5.Height) with _ | r7
 ·simp only [o8, hs] at h
  exact absurd h kN
 simp only [o8, hs] at h
 simp only [vz, tyf, e3, e4, (ix38 o6), nm, seval]
 refine dktree (args0 := [.agg (cGsightview x0_v), .lit (.int .i64 x5.Height)]) (by first | (simp only [nrm, tynrm] <;> rfl) | rfl) (by simp only [tre, tytre, Bool.and_self]) (g_sight_view_reaches_ok _ _ _ o8) ?_
 refine fin_cut (fun tm => tm 13 = .lit (.bool r7) ∧ True) (by refine ⟨?_, trivial⟩ <;> first | (simp only [ua, e3, e4, nm, seval] <;> rfl) | rfl) ?_
 rintro tm ⟨e9, _⟩
 try simp only [vz, tyf, (ix38 o6), e9, nm, seval]
 obtain rfl := kF _ h
 exact opd_bool Tryz.results131 rfl
end Go.V
end
section
namespace Go.V
open Go Go.Proofs
def g_sight_view_isBroad (x0_v : Gsightview) (x1_letter : Int) : Option (Bool) := Option.bind (getI x0_v.board.Letters x1_letter) (fun x1 => Option.bind (g_sight_view_spreads x0_v x1.Width) (fun r2 => some r2))
theorem g_sight_view_isBroad_ok (x0_v : Gsightview) (x1_letter : Int) (R : Bool) (h : g_sight_view_isBroad x0_v x1_letter = some R) : VPure Tryz.prog G0 132 [.agg (cGsightview x0_v), .lit (.int .i64 x1_letter)] (.tree (.lit (.bool R))) := by
 refine VPure.runR mixed Tryz.call132 Tryz.func132 rfl (by simp [Tryz.ntmps132]; kernel_rfl) ?_
 obtain ⟨KF, h, kF, kN⟩ := fun_intro h
 simp only [g_sight_view_isBroad] at h
 simp only [vz, tyf, nm, seval]
 refine cwp_drwQF (fun tm => tm 1 = .lit (.int .i64 x1_letter) ∧ tm 2 = .ptr 0 0 ∧ True) (by refine ⟨?_, ?_, trivial⟩ <;> first | (simp only [ua, nm, seval] <;> rfl) | rfl) ?_
 rintro tm ⟨e3, e4, _⟩
 rcases o6 : (getI x0_v.board.Letters x1_letter) with _ | x5
 ·simp only [o6, hs] at h
  exact absurd h kN
 simp only [o6, hs] at h
 rcases o8 : (g_sight_view_spreads x0_v x5.Width) with _ | r7
 ·simp only [o8, hs] at h
  exact absurd h kN
 simp only [o8, hs] at h
 simp only [vz, tyf, e3, e4, (ix38 o6), nm, seval]
 refine dktree (args0 := [.agg (cGsightview x0_v), .lit (.int .i64 x5.Width)]) (by first | (simp only [nrm, tynrm] <;> rfl) | rfl) (by simp only [tre, tytre, Bool.and_self]) (g_sight_view_spreads_ok _ _ _ o8) ?_
 refine fin_cut (fun tm => tm 13 = .lit (.bool r7) ∧ True) (by refine ⟨?_, trivial⟩ <;> first | (simp only [ua, e3, e4, nm, seval] <;> rfl) | rfl) ?_
 rintro tm ⟨e9, _⟩
 try simp only [vz, tyf, (ix38 o6), e9, nm, seval]
 obtain rfl := kF _ h
 exact opd_bool Tryz.results132 rfl
end Go.V
end
section
namespace Go.V
open Go Go.Proofs
def g_sight_view_isThick (x0_v : Gsightview) (x1_letter : Int) : Option (Bool) := Option.bind (getI x0_v.board.Letters x1_letter) (fun x1 => Option.bind (g_sight_view_reaches x0_v (IntKind.i64.wrap (5 * x1.Stroke))) (fun r2 => some r2))
theorem g_sight_view_isThick_ok (x0_v : Gsightview) (x1_letter : Int) (R : Bool) (h : g_sight_view_isThick x0_v x1_letter = some R) : VPure Tryz.prog G0 133 [.agg (cGsightview x0_v), .lit (.int .i64 x1_letter)] (.tree (.lit (.bool R))) := by
 refine VPure.runR mixed Tryz.call133 Tryz.func133 rfl (by simp [Tryz.ntmps133]; kernel_rfl) ?_
 obtain ⟨KF, h, kF, kN⟩ := fun_intro h
 simp only [g_sight_view_isThick] at h
 simp only [vz, tyf, nm, seval]
 refine cwp_drwQF (fun tm => tm 1 = .lit (.int .i64 x1_letter) ∧ tm 2 = .ptr 0 0 ∧ True) (by refine ⟨?_, ?_, trivial⟩ <;> first | (simp only [ua, nm, seval] <;> rfl) | rfl) ?_
 rintro tm ⟨e3, e4, _⟩
 rcases o6 : (getI x0_v.board.Letters x1_letter) with _ | x5
 ·simp only [o6, hs] at h
  exact absurd h kN
 simp only [o6, hs] at h
 rcases o8 : (g_sight_view_reaches x0_v (IntKind.i64.wrap (5 * x5.Stroke))) with _ | r7
 ·simp only [o8, hs] at h
  exact absurd h kN
 simp only [o8, hs] at h
 simp only [vz, tyf, e3, e4, (ix38 o6), nm, seval]
 refine dktree (args0 := [.agg (cGsightview x0_v), .lit (.int .i64 (IntKind.i64.wrap (5 * x5.Stroke)))]) (by first | (simp only [nrm, tynrm] <;> rfl) | rfl) (by simp only [tre, tytre, Bool.and_self]) (g_sight_view_reaches_ok _ _ _ o8) ?_
 refine fin_cut (fun tm => tm 14 = .lit (.bool r7) ∧ True) (by refine ⟨?_, trivial⟩ <;> first | (simp only [ua, e3, e4, nm, seval] <;> rfl) | rfl) ?_
 rintro tm ⟨e9, _⟩
 try simp only [vz, tyf, (ix38 o6), e9, nm, seval]
 obtain rfl := kF _ h
 exact opd_bool Tryz.results133 rfl
end Go.V
end
section
namespace Go.V
open Go Go.Proofs
end Go.V
end
section
namespace Go.V
open Go Go.Proofs
def g_sight_view_lineAt (x0_v : Gsightview) (x1_across : Int) : Option (Int) := some (IntKind.i64.wrap ((IntKind.i64.wrap (x0_v.board.At * x0_v.SightPlace.Across)) + (IntKind.i64.wrap ((IntKind.i64.wrap (x0_v.SightPlace.Along - x0_v.board.At)) * x1_across))))
theorem g_sight_view_lineAt_ok (x0_v : Gsightview) (x1_across : Int) (R : Int) (h : g_sight_view_lineAt x0_v x1_across = some R) : VPure Tryz.prog G0 112 [.agg (cGsightview x0_v), .lit (.int .i64 x1_across)] (.tree (.lit (.int .i64 R))) := by
 refine VPure.runR mixed Tryz.call112 Tryz.func112 rfl (by simp [Tryz.ntmps112]; kernel_rfl) ?_
 obtain ⟨KF, h, kF, kN⟩ := fun_intro h
 simp only [g_sight_view_lineAt] at h
 try simp only [vz, tyf, nm, seval]
 refine opd_ret (x := (.lit (.int .i64 (IntKind.i64.wrap ((IntKind.i64.wrap (x0_v.board.At * x0_v.SightPlace.Across)) + (IntKind.i64.wrap ((IntKind.i64.wrap (x0_v.SightPlace.Along - x0_v.board.At)) * x1_across))))))) (by first | (simp only [Tryz.results112, resV, resL, resV1, tgt_ptr, tgt_tp, uw, cr, tyf, nm, seval] <;> rfl) | rfl) ?_
 obtain rfl := kF _ h
 refine rr_tree ?_ ?_
 ·simp only [tre, tytre, Bool.and_self]
 ·first | (simp only [outV, uw, showV_ref, cr, tyf, nrm, tynrm, nm, seval] <;> rfl) | rfl
end Go.V
end
section
namespace Go.V
open Go Go.Proofs
def g_sight_view_isBehind (x0_v : Gsightview) (x1_block : GSightBlock) : Option (Bool) := cond (decide (x1_block.Across.Low > x0_v.SightPlace.Across)) (some false) (Option.bind (g_sight_view_lineAt x0_v x1_block.Across.Low) (fun r1 => Option.bind (g_sight_view_lineAt x0_v (if x0_v.SightPlace.Across < x1_block.Across.High then x0_v.SightPlace.Across else x1_block.Across.High)) (fun r2 => cond (decide ((if r2 < r1 then r2 else r1) ≤ (IntKind.i64.wrap (x1_block.Along.High * x0_v.SightPlace.Across)))) (some (decide ((if r1 < r2 then r2 else r1) ≥ (IntKind.i64.wrap (x1_block.Along.Low * x0_v.SightPlace.Across))))) (some false))))
theorem g_sight_view_isBehind_ok (x0_v : Gsightview) (x1_block : GSightBlock) (R : Bool) (h : g_sight_view_isBehind x0_v x1_block = some R) : VPure Tryz.prog G0 80 [.agg (cGsightview x0_v), .agg (cGSightBlock x1_block)] (.tree (.lit (.bool R))) := by
 refine VPure.runR mixed Tryz.call80 Tryz.func80 rfl (by simp [Tryz.ntmps80]; kernel_rfl) ?_
 obtain ⟨KF, h, kF, kN⟩ := fun_intro h
 simp only [g_sight_view_isBehind] at h
 cases d3 : (decide (x1_block.Across.Low > x0_v.SightPlace.Across))
 ·simp only [d3, hs] at h
  simp only [vz, tyf, d3, nm, seval]
  refine cwp_drwQF (fun tm => tm 2 = .ptr 0 0 ∧ tm 3 = .ptr 1 0 ∧ True) (by refine ⟨?_, ?_, trivial⟩ <;> first | (simp only [ua, d3, nm, seval] <;> rfl) | rfl) ?_
  rintro tm ⟨e4, e5, _⟩
  rcases o7 : (g_sight_view_lineAt x0_v x1_block.Across.Low) with _ | r6
  ·simp only [o7, hs] at h
   exact absurd h kN
  simp only [o7, hs] at h
  simp only [vz, tyf, d3, e4, e5, nm, seval]
  refine dktree (args0 := [.agg (cGsightview x0_v), .lit (.int .i64 x1_block.Across.Low)]) (by first | (simp only [nrm, tynrm] <;> rfl) | rfl) (by simp only [tre, tytre, Bool.and_self]) (g_sight_view_lineAt_ok _ _ _ o7) ?_
  refine fin_cut (fun tm => tm 2 = .ptr 0 0 ∧ tm 3 = .ptr 1 0 ∧ tm 18 = .lit (.int .i64 r6) ∧ True) (by refine ⟨e4, e5, ?_, trivial⟩ <;> first | (simp only [ua, d3, e4, e5, nm, seval] <;> rfl) | rfl) ?_
  rintro tm ⟨e8, e9, e10, _⟩
  rcases o12 : (g_sight_view_lineAt x0_v (if x0_v.SightPlace.Across < x1_block.Across.High then x0_v.SightPlace.Across else x1_block.Across.High)) with _ | r11
  ·simp only [o12, hs] at h
   exact absurd h kN
  simp only [o12, hs] at h
  simp only [vz, tyf, d3, e8, e9, e10, nm, seval]
  refine dktree (args0 := [.agg (cGsightview x0_v), .lit (.int .i64 (if x0_v.SightPlace.Across < x1_block.Across.High then x0_v.SightPlace.Across else x1_block.Across.High))]) (by first | (simp only [nrm, tynrm] <;> rfl) | rfl) (by simp only [tre, tytre, Bool.and_self]) (g_sight_view_lineAt_ok _ _ _ o12) ?_
  refine fin_cut (fun tm => tm 2 = .ptr 0 0 ∧ tm 3 = .ptr 1 0 ∧ tm 18 = .lit (.int .i64 r6) ∧ tm 27 = .lit (.int .i64 r11) ∧ True) (by refine ⟨e8, e9, e10, ?_, trivial⟩ <;> first | (simp only [ua, d3, e8, e9, e10, nm, seval] <;> rfl) | rfl) ?_
  rintro tm ⟨e13, e14, e15, e16, _⟩
  cases d17 : (decide ((if r11 < r6 then r11 else r6) ≤ (IntKind.i64.wrap (x1_block.Along.High * x0_v.SightPlace.Across))))
  ·simp only [d17, hs] at h
   try simp only [vz, tyf, d3, e13, e14, e15, e16, d17, nm, seval]
   obtain rfl := kF _ h
   exact opd_bool Tryz.results80 rfl
  simp only [d17, hs] at h
  try simp only [vz, tyf, d3, e13, e14, e15, e16, d17, nm, seval]
  obtain rfl := kF _ h
  exact opd_bool Tryz.results80 rfl
 simp only [d3, hs] at h
 try simp only [vz, tyf, d3, nm, seval]
 obtain rfl := kF _ h
 exact opd_bool Tryz.results80 rfl
end Go.V
end
section
namespace Go.V
open Go Go.Proofs
end Go.V
end
section
namespace Go.V
open Go Go.Proofs
end Go.V
end
section
namespace Go.V
open Go Go.Proofs
end Go.V
end
section
namespace Go.V
open Go Go.Proofs
end Go.V
end
