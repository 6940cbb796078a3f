/- Part of a proof: a logic of values by content, lifted functions, what follows. -/
import Derived.Test.YtgdgkkloccpbnaaGreatDoorZbf
import Derived.Test.YtgdgkkloccpbnaaGreatDoorZbh
set_option linter.all false
set_option maxRecDepth 4000
set_option maxHeartbeats 40000000
section
namespace Go.V
open Go Go.Proofs
def g_ref03_Sheet_l1  : List GCoatCoat → Int → Option (LOut (Bool) (Unit))
 | [], c1_4 => some (.go ())
 | e1 :: p1, c1_4 => Option.bind (g_ref03_in e1.Need 1 288) (fun r7 => cond (r7) (Option.bind (g_ref03_in e1.Peel e1.Need 400) (fun r8 => cond (r8) (g_ref03_Sheet_l1 p1 (c1_4 + 1)) (some (.ret false)))) (some (.ret false)))
def g_ref03_Sheet_l0  : List GSpan → Int → Option (LOut (Bool) (Unit))
 | [], c0_3 => some (.go ())
 | e0 :: p0, c0_3 => Option.bind (g_ref03_in e0.Low 0 24) (fun r4 => cond (r4) (Option.bind (g_ref03_in e0.High e0.Low 24) (fun r5 => cond (r5) (g_ref03_Sheet_l0 p0 (c0_3 + 1)) (some (.ret false)))) (some (.ret false)))
def g_ref03_Sheet (x0_s : GCoatSheet) : Option (Bool) := Option.bind (g_ref03_in (List.length x0_s.Dry : Int) 1 12) (fun r1 => cond (r1) (Option.bind (g_ref03_in (List.length x0_s.Coats : Int) 1 5) (fun r2 => cond (r2) (Option.bind (g_ref03_rising x0_s x0_s.Work) (fun r3 => cond (r3) (cond (lenOk x0_s.Dry) (lbind (g_ref03_Sheet_l0 x0_s.Dry 0) (fun r11 => some r11) (fun c6 => cond (lenOk x0_s.Coats) (lbind (g_ref03_Sheet_l1 x0_s.Coats 0) (fun r10 => some r10) (fun c9 => some true) (fun _ _ => none)) none) (fun _ _ => none)) none) (some false))) (some false))) (some false))
theorem g_ref03_Sheet_ok (x0_s : GCoatSheet) (R : Bool) (h : g_ref03_Sheet x0_s = some R) : VPure Tryz.prog G0 19 [.agg (cGCoatSheet x0_s)] (.tree (.lit (.bool R))) := by
 refine VPure.runR mixed Tryz.call19 Tryz.func19 rfl (by simp [Tryz.ntmps19]; kernel_rfl) ?_
 obtain ⟨KF, h, kF, kN⟩ := fun_intro h
 simp only [g_ref03_Sheet] at h
 rcases o13 : (g_ref03_in (List.length x0_s.Dry : Int) 1 12) with _ | r12
 ·simp only [o13, hs] at h
  exact absurd h kN
 simp only [o13, hs] at h
 simp only [vz, tyf, nm, seval]
 refine ktree (args0 := [.lit (.int .i64 (List.length x0_s.Dry : Int)), .lit (.int .i64 1), .lit (.int .i64 12)]) (by first | (simp only [nrm, tynrm] <;> rfl) | rfl) (by simp only [tre, tytre, Bool.and_self]) (g_ref03_in_ok _ _ _ _ o13) ?_
 refine fin_cut (fun tm => tm 1 = .ptr 0 0 ∧ tm 8 = .lit (.bool r12) ∧ True) (by refine ⟨?_, ?_, trivial⟩ <;> first | (simp only [ua, nm, seval] <;> rfl) | rfl) ?_
 rintro tm ⟨e14, e15, _⟩
 cases d16 : (r12)
 ·simp only [d16, hs] at h
  try simp only [vz, tyf, e14, e15, d16, nm, seval]
  obtain rfl := kF _ h
  exact opd_bool Tryz.results19 rfl
 simp only [d16, hs] at h
 rcases o18 : (g_ref03_in (List.length x0_s.Coats : Int) 1 5) with _ | r17
 ·simp only [o18, hs] at h
  exact absurd h kN
 simp only [o18, hs] at h
 simp only [vz, tyf, e14, e15, d16, nm, seval]
 refine ktree (args0 := [.lit (.int .i64 (List.length x0_s.Coats : Int)), .lit (.int .i64 1), .lit (.int .i64 5)]) (by first | (simp only [nrm, tynrm] <;> rfl) | rfl) (by simp only [tre, tytre, Bool.and_self]) (g_ref03_in_ok _ _ _ _ o18) ?_
 refine fin_cut (fun tm => tm 1 = .ptr 0 0 ∧ tm 10 = .lit (.bool false) ∧ tm 14 = .lit (.bool r17) ∧ True) (by refine ⟨e14, ?_, ?_, trivial⟩ <;> first | (simp only [ua, e14, e15, d16, nm, seval] <;> rfl) | rfl) ?_
 rintro tm ⟨e19, e20, e21, _⟩
 cases d22 : (r17)
 ·simp only [d22, hs] at h
  try simp only [vz, tyf, d16, e19, e20, e21, d22, nm, seval]
  obtain rfl := kF _ h
  exact opd_bool Tryz.results19 rfl
 simp only [d22, hs] at h
 rcases o24 : (g_ref03_rising x0_s x0_s.Work) with _ | r23
 ·simp only [o24, hs] at h
  exact absurd h kN
 simp only [o24, hs] at h
 simp only [vz, tyf, d16, e19, e20, e21, d22, nm, seval]
 refine ktree (args0 := [.agg (cGCoatSheet x0_s), .sl (cellsL eI x0_s.Work) (List.length x0_s.Work) false]) (by first | (simp only [nrm, tynrm] <;> rfl) | rfl) (by simp only [tre, tytre, Bool.and_self]) (g_ref03_rising_ok _ _ _ o24) ?_
 refine fin_cut (fun tm => tm 1 = .ptr 0 0 ∧ tm 17 = .lit (.bool false) ∧ tm 21 = .lit (.bool r23) ∧ True) (by refine ⟨e19, ?_, ?_, trivial⟩ <;> first | (simp only [ua, d16, e19, e20, e21, d22, nm, seval] <;> rfl) | rfl) ?_
 rintro tm ⟨e25, e26, e27, _⟩
 cases d28 : (r23)
 ·simp only [d28, hs] at h
  try simp only [vz, tyf, d16, d22, e25, e26, e27, d28, nm, seval]
  obtain rfl := kF _ h
  exact opd_bool Tryz.results19 rfl
 simp only [d28, hs] at h
 cases g30 : (lenOk x0_s.Dry)
 ·simp only [g30, hs] at h
  exact absurd h kN
 simp only [g30, hs] at h
 simp only [vz, tyf, d16, d22, e25, e26, e27, d28, g30, nm, seval]
 obtain ⟨K29, h, kR29, kG29, kB29, kN29⟩ := lbind_intro h kN
 obtain ⟨f29, hf29, h⟩ := call2 h
 obtain ⟨I29, hI29⟩ : ∃ I : Nat → St → Prop, I = (fun m st => ∃ (p29 : List GSpan) (c29_3 : Int), m = List.length p29 ∧ 0 ≤ c29_3 ∧ List.drop (Int.toNat c29_3) x0_s.Dry = p29 ∧ st.df = [] ∧ 22 ≤ st.nx ∧ st.H 0 = some (.cells (some 26) (cGCoatSheet x0_s)) ∧ st.tm 1 = .ptr 0 0 ∧ st.tm 3 = .lit (.int .i64 c29_3) ∧ K29 (f29 p29 c29_3)) := ⟨_, rfl⟩
 refine loopK mixed (by kernel_rfl) I29 (List.length x0_s.Dry) (by rw [hI29]; refine ⟨x0_s.Dry, 0, rfl, Int.le_refl _, rfl, rfl, (show 22 ≤ 22 by omega), ?_, e25, ?_, h⟩ <;> first | (simp only [ua, d16, d22, e25, e26, e27, d28, nm, seval] <;> rfl) | rfl) ?_
 rintro m ⟨tm, H, nx29, df⟩ hinv
 rw [hI29] at hinv
 obtain ⟨p29, c29_3, rfl, hi29, hp29, hdf, hn29, H31, e32, e33, h⟩ := hinv
 simp only at hdf hn29 H31 e32 e33
 have n34 := base_ne0 (m := 22) (b := nx29) (by omega)
 subst hdf hf29
 cases p29 with
 | nil =>
  have d35 : (decide (c29_3 < (List.length x0_s.Dry : Int))) = false := not_lt_of_drop hi29 hp29
  simp only [g_ref03_Sheet_l0, hs, reduceCtorEq] at h
  replace h := kG29 _ h
  try dsimp only at h
  try simp only [hs] at h
  cases g37 : (lenOk x0_s.Coats)
  ·simp only [g37, hs] at h
   exact absurd h kN
  simp only [g37, hs] at h
  simp only [vz, tyf, d16, d22, d28, g30, n34, e32, e33, H31, d35, g37, nm, seval]
  obtain ⟨K36, h, kR36, kG36, kB36, kN36⟩ := lbind_intro h kN
  obtain ⟨f36, hf36, h⟩ := call2 h
  obtain ⟨I36, hI36⟩ : ∃ I : Nat → St → Prop, I = (fun m st => ∃ (p36 : List GCoatCoat) (c36_4 : Int), m = List.length p36 ∧ 0 ≤ c36_4 ∧ List.drop (Int.toNat c36_4) x0_s.Coats = p36 ∧ st.df = [] ∧ nx29 + 6 ≤ st.nx ∧ st.H 0 = some (.cells (some 26) (cGCoatSheet x0_s)) ∧ st.tm 1 = .ptr 0 0 ∧ st.tm 4 = .lit (.int .i64 c36_4) ∧ K36 (f36 p36 c36_4)) := ⟨_, rfl⟩
  refine loopK mixed (by kernel_rfl) I36 (List.length x0_s.Coats) (by rw [hI36]; refine ⟨x0_s.Coats, 0, rfl, Int.le_refl _, rfl, rfl, (show nx29 + 6 ≤ nx29 + 6 by omega), ?_, e32, ?_, h⟩ <;> first | (simp only [ua, d16, d22, d28, n34, e32, e33, H31, d35, nm, seval] <;> rfl) | rfl) ?_
  rintro m ⟨tm, H, nx36, df⟩ hinv
  rw [hI36] at hinv
  obtain ⟨p36, c36_4, rfl, hi36, hp36, hdf, hn36, H38, e39, e40, h⟩ := hinv
  simp only at hdf hn36 H38 e39 e40
  have n41 := base_ne0 (m := 22) (b := nx36) (by omega)
  have n42 := base_ne (a := nx29) (m := 6) (b := nx36) (by omega)
  subst hdf hf36
  cases p36 with
  | nil =>
   have d43 : (decide (c36_4 < (List.length x0_s.Coats : Int))) = false := not_lt_of_drop hi36 hp36
   simp only [g_ref03_Sheet_l1, hs, reduceCtorEq] at h
   replace h := kG36 _ h
   try dsimp only at h
   try simp only [hs] at h
   try simp only [vz, tyf, d16, d22, d28, g30, n34, d35, g37, n41, n42, e39, e40, H38, d43, nm, seval]
   obtain rfl := kF _ h
   exact opd_bool Tryz.results19 rfl
  | cons e36 p36 =>
   have d44 : (decide (c36_4 < (List.length x0_s.Coats : Int))) = true := lt_of_drop hi36 hp36
   have o46 := getI_of_drop hi36 hp36
   have w45 := wrap_next hi36 hp36 g37
   simp only [g_ref03_Sheet_l1, hs, reduceCtorEq] at h
   simp only [vz, tyf, d16, d22, d28, g30, n34, d35, g37, n41, n42, e39, e40, H38, d44, (ix24 o46), w45, nm, seval]
   refine cwp_drwQF (fun tm => tm 1 = .ptr 0 0 ∧ tm 4 = .lit (.int .i64 c36_4) ∧ True) (by refine ⟨e39, e40, trivial⟩ <;> first | (simp only [ua, d16, d22, d28, n34, d35, n41, n42, e39, e40, H38, d44, w45, nm, seval] <;> rfl) | rfl) ?_
   rintro tm ⟨e47, e48, _⟩
   have b49 := And.intro d16 (And.intro d22 (And.intro d28 (And.intro g30 (And.intro n34 (And.intro d35 (And.intro g37 (And.intro n41 (And.intro n42 (And.intro H38 (And.intro d44 w45))))))))))
   rcases o51 : (g_ref03_in e36.Need 1 288) with _ | r50
   ·simp only [o51, hs] at h
    exact absurd h kN36
   simp only [o51, hs] at h
   simp only [vz, tyf, b49, (ix24 o46), e47, e48, nm, seval]
   refine dktree (args0 := [.lit (.int .i64 e36.Need), .lit (.int .i64 1), .lit (.int .i64 288)]) (by first | (simp only [nrm, tynrm] <;> rfl) | rfl) (by simp only [tre, tytre, Bool.and_self]) (g_ref03_in_ok _ _ _ _ o51) ?_
   refine fin_cut (fun tm => tm 1 = .ptr 0 0 ∧ tm 4 = .lit (.int .i64 c36_4) ∧ tm 68 = .lit (.bool r50) ∧ True) (by refine ⟨e47, e48, ?_, trivial⟩ <;> first | (simp only [ua, b49, e47, e48, nm, seval] <;> rfl) | rfl) ?_
   rintro tm ⟨e52, e53, e54, _⟩
   cases d55 : (r50)
   ·simp only [d55, hs] at h
    try simp only [vz, tyf, b49, (ix24 o46), e52, e53, e54, d55, nm, seval]
    replace h := kR36 _ h
    try dsimp only at h
    obtain rfl := kF _ h
    exact opd_bool Tryz.results19 rfl
   simp only [d55, hs] at h
   rcases o57 : (g_ref03_in e36.Peel e36.Need 400) with _ | r56
   ·simp only [o57, hs] at h
    exact absurd h kN36
   simp only [o57, hs] at h
   simp only [vz, tyf, b49, (ix24 o46), e52, e53, e54, d55, nm, seval]
   refine dktree (args0 := [.lit (.int .i64 e36.Peel), .lit (.int .i64 e36.Need), .lit (.int .i64 400)]) (by first | (simp only [nrm, tynrm] <;> rfl) | rfl) (by simp only [tre, tytre, Bool.and_self]) (g_ref03_in_ok _ _ _ _ o57) ?_
   refine fin_cut (fun tm => tm 1 = .ptr 0 0 ∧ tm 4 = .lit (.int .i64 c36_4) ∧ tm 70 = .lit (.bool false) ∧ tm 83 = .lit (.bool r56) ∧ True) (by refine ⟨e52, e53, ?_, ?_, trivial⟩ <;> first | (simp only [ua, b49, e52, e53, e54, d55, nm, seval] <;> rfl) | rfl) ?_
   rintro tm ⟨e58, e59, e60, e61, _⟩
   cases d62 : (r56)
   ·simp only [d62, hs] at h
    try simp only [vz, tyf, b49, (ix24 o46), d55, e58, e59, e60, e61, d62, nm, seval]
    replace h := kR36 _ h
    try dsimp only at h
    obtain rfl := kF _ h
    exact opd_bool Tryz.results19 rfl
   simp only [d62, hs] at h
   simp only [vz, tyf, b49, (ix24 o46), d55, e58, e59, e60, e61, d62, nm, seval]
   exact ⟨List.length p36, Nat.lt_succ_self _, by rw [hI36]; refine ⟨p36, c36_4 + 1, rfl, Int.le_trans hi36 (Int.le_add_one (Int.le_refl _)), drop_next hi36 hp36, rfl, (show nx29 + 6 ≤ nx36 + 32 by omega), ?_, e58, ?_, h⟩ <;> first | (simp only [ua, b49, d55, e58, e59, e60, e61, d62, nm, seval] <;> rfl) | rfl⟩
 | cons e29 p29 =>
  have d63 : (decide (c29_3 < (List.length x0_s.Dry : Int))) = true := lt_of_drop hi29 hp29
  have o65 := getI_of_drop hi29 hp29
  have w64 := wrap_next hi29 hp29 g30
  simp only [g_ref03_Sheet_l0, hs, reduceCtorEq] at h
  simp only [vz, tyf, d16, d22, d28, g30, n34, e32, e33, H31, d63, (ix22 o65), w64, nm, seval]
  refine cwp_drwQF (fun tm => tm 1 = .ptr 0 0 ∧ tm 3 = .lit (.int .i64 c29_3) ∧ True) (by refine ⟨e32, e33, trivial⟩ <;> first | (simp only [ua, d16, d22, d28, n34, e32, e33, H31, d63, w64, nm, seval] <;> rfl) | rfl) ?_
  rintro tm ⟨e66, e67, _⟩
  have b68 := And.intro d16 (And.intro d22 (And.intro d28 (And.intro g30 (And.intro n34 (And.intro H31 (And.intro d63 w64))))))
  rcases o70 : (g_ref03_in e29.Low 0 24) with _ | r69
  ·simp only [o70, hs] at h
   exact absurd h kN29
  simp only [o70, hs] at h
  simp only [vz, tyf, b68, (ix22 o65), e66, e67, nm, seval]
  refine dktree (args0 := [.lit (.int .i64 e29.Low), .lit (.int .i64 0), .lit (.int .i64 24)]) (by first | (simp only [nrm, tynrm] <;> rfl) | rfl) (by simp only [tre, tytre, Bool.and_self]) (g_ref03_in_ok _ _ _ _ o70) ?_
  refine fin_cut (fun tm => tm 1 = .ptr 0 0 ∧ tm 3 = .lit (.int .i64 c29_3) ∧ tm 37 = .lit (.bool r69) ∧ True) (by refine ⟨e66, e67, ?_, trivial⟩ <;> first | (simp only [ua, b68, e66, e67, nm, seval] <;> rfl) | rfl) ?_
  rintro tm ⟨e71, e72, e73, _⟩
  cases d74 : (r69)
  ·simp only [d74, hs] at h
   try simp only [vz, tyf, b68, (ix22 o65), e71, e72, e73, d74, nm, seval]
   replace h := kR29 _ h
   try dsimp only at h
   obtain rfl := kF _ h
   exact opd_bool Tryz.results19 rfl
  simp only [d74, hs] at h
  rcases o76 : (g_ref03_in e29.High e29.Low 24) with _ | r75
  ·simp only [o76, hs] at h
   exact absurd h kN29
  simp only [o76, hs] at h
  simp only [vz, tyf, b68, (ix22 o65), e71, e72, e73, d74, nm, seval]
  refine dktree (args0 := [.lit (.int .i64 e29.High), .lit (.int .i64 e29.Low), .lit (.int .i64 24)]) (by first | (simp only [nrm, tynrm] <;> rfl) | rfl) (by simp only [tre, tytre, Bool.and_self]) (g_ref03_in_ok _ _ _ _ o76) ?_
  refine fin_cut (fun tm => tm 1 = .ptr 0 0 ∧ tm 3 = .lit (.int .i64 c29_3) ∧ tm 39 = .lit (.bool false) ∧ tm 52 = .lit (.bool r75) ∧ True) (by refine ⟨e71, e72, ?_, ?_, trivial⟩ <;> first | (simp only [ua, b68, e71, e72, e73, d74, nm, seval] <;> rfl) | rfl) ?_
  rintro tm ⟨e77, e78, e79, e80, _⟩
  cases d81 : (r75)
  ·simp only [d81, hs] at h
   try simp only [vz, tyf, b68, (ix22 o65), d74, e77, e78, e79, e80, d81, nm, seval]
   replace h := kR29 _ h
   try dsimp only at h
   obtain rfl := kF _ h
   exact opd_bool Tryz.results19 rfl
  simp only [d81, hs] at h
  simp only [vz, tyf, b68, (ix22 o65), d74, e77, e78, e79, e80, d81, nm, seval]
  exact ⟨List.length p29, Nat.lt_succ_self _, by rw [hI29]; refine ⟨p29, c29_3 + 1, rfl, Int.le_trans hi29 (Int.le_add_one (Int.le_refl _)), drop_next hi29 hp29, rfl, (show 22 ≤ nx29 + 32 by omega), ?_, e77, ?_, h⟩ <;> first | (simp only [ua, b68, d74, e77, e78, e79, e80, d81, nm, seval] <;> rfl) | rfl⟩
end Go.V
end
section
namespace Go.V
open Go Go.Proofs
def g_ref01_Listed_l0 (x1_n : Int) : List Int → Int → Option (LOut (Bool) (Unit))
 | [], c0_5 => some (.go ())
 | e0 :: p0, c0_5 => cond (e0 == x1_n) (some (.ret true)) (g_ref01_Listed_l0 x1_n p0 (c0_5 + 1))
def g_ref01_Listed (x0_l : List Int) (x1_n : Int) : Option (Bool) := cond (lenOk x0_l) (lbind (g_ref01_Listed_l0 x1_n x0_l 0) (fun r2 => some r2) (fun c1 => some false) (fun _ _ => none)) none
theorem g_ref01_Listed_ok (x0_l : List Int) (x1_n : Int) (R : Bool) (h : g_ref01_Listed x0_l x1_n = some R) : VPure Tryz.prog G0 33 [.sl (cellsL eI x0_l) (List.length x0_l) false, .lit (.int .i64 x1_n)] (.tree (.lit (.bool R))) := by
 refine VPure.runR mixed Tryz.call33 Tryz.func33 rfl (by simp [Tryz.ntmps33]; kernel_rfl) ?_
 obtain ⟨KF, h, kF, kN⟩ := fun_intro h
 simp only [g_ref01_Listed] at h
 cases g4 : (lenOk x0_l)
 ·simp only [g4, hs] at h
  exact absurd h kN
 simp only [g4, hs] at h
 simp only [vz, tyf, g4, nm, seval]
 obtain ⟨K3, h, kR3, kG3, kB3, kN3⟩ := lbind_intro h kN
 obtain ⟨f3, hf3, h⟩ := call2 h
 obtain ⟨I3, hI3⟩ : ∃ I : Nat → St → Prop, I = (fun m st => ∃ (p3 : List Int) (c3_5 : Int), m = List.length p3 ∧ 0 ≤ c3_5 ∧ List.drop (Int.toNat c3_5) x0_l = p3 ∧ st.df = [] ∧ 2 ≤ st.nx ∧ st.tm 0 = .sl (cellsL eI x0_l) (List.length x0_l) false ∧ st.tm 1 = .lit (.int .i64 x1_n) ∧ st.tm 5 = .lit (.int .i64 c3_5) ∧ K3 (f3 p3 c3_5)) := ⟨_, rfl⟩
 refine loopK mixed (by kernel_rfl) I3 (List.length x0_l) (by rw [hI3]; refine ⟨x0_l, 0, rfl, Int.le_refl _, rfl, rfl, (show 2 ≤ 2 by omega), ?_, ?_, ?_, h⟩ <;> first | (simp only [ua, nm, seval] <;> rfl) | rfl) ?_
 rintro m ⟨tm, H, nx3, df⟩ hinv
 rw [hI3] at hinv
 obtain ⟨p3, c3_5, rfl, hi3, hp3, hdf, hn3, e5, e6, e7, h⟩ := hinv
 simp only at hdf hn3 e5 e6 e7
 have n8 := base_ne0 (m := 2) (b := nx3) (by omega)
 subst hdf hf3
 cases p3 with
 | nil =>
  have d9 : (decide (c3_5 < (List.length x0_l : Int))) = false := not_lt_of_drop hi3 hp3
  simp only [g_ref01_Listed_l0, hs, reduceCtorEq] at h
  replace h := kG3 _ h
  try dsimp only at h
  try simp only [hs] at h
  try simp only [vz, tyf, g4, n8, e5, e6, e7, d9, nm, seval]
  obtain rfl := kF _ h
  exact opd_bool Tryz.results33 rfl
 | cons e3 p3 =>
  have d10 : (decide (c3_5 < (List.length x0_l : Int))) = true := lt_of_drop hi3 hp3
  have o12 := getI_of_drop hi3 hp3
  have w11 := wrap_next hi3 hp3 g4
  simp only [g_ref01_Listed_l0, hs, reduceCtorEq] at h
  cases d13 : (e3 == x1_n)
  ·simp only [d13, hs] at h
   simp only [vz, tyf, g4, n8, e5, e6, e7, d10, (ix23 o12), w11, d13, nm, seval]
   exact ⟨List.length p3, Nat.lt_succ_self _, by rw [hI3]; refine ⟨p3, c3_5 + 1, rfl, Int.le_trans hi3 (Int.le_add_one (Int.le_refl _)), drop_next hi3 hp3, rfl, (show 2 ≤ nx3 + 13 by omega), e5, e6, ?_, h⟩ <;> first | (simp only [ua, n8, e5, e6, e7, d10, w11, d13, nm, seval] <;> rfl) | rfl⟩
  simp only [d13, hs] at h
  try simp only [vz, tyf, g4, n8, e5, e6, e7, d10, (ix23 o12), w11, d13, nm, seval]
  replace h := kR3 _ h
  try dsimp only at h
  obtain rfl := kF _ h
  exact opd_bool Tryz.results33 rfl
end Go.V
end
section
namespace Go.V
open Go Go.Proofs
def g_ref03_Plan_l0 (x0_s : GCoatSheet) : List Int → Int → Option (LOut (Bool) (Unit))
 | [], c0_5 => some (.go ())
 | e0 :: p0, c0_5 => Option.bind (g_ref01_Listed x0_s.Work e0) (fun r1 => cond (r1) (g_ref03_Plan_l0 x0_s p0 (c0_5 + 1)) (some (.ret false)))
def g_ref03_Plan (x0_s : GCoatSheet) (x1_l : List Int) : Option (Bool) := cond (lenOk x1_l) (lbind (g_ref03_Plan_l0 x0_s x1_l 0) (fun r4 => some r4) (fun c2 => cond ((List.length x1_l : Int) == (List.length x0_s.Coats : Int)) (Option.bind (g_ref03_rising x0_s x1_l) (fun r3 => some r3)) (some false)) (fun _ _ => none)) none
theorem g_ref03_Plan_ok (x0_s : GCoatSheet) (x1_l : List Int) (R : Bool) (h : g_ref03_Plan x0_s x1_l = some R) : VPure Tryz.prog G0 24 [.agg (cGCoatSheet x0_s), .sl (cellsL eI x1_l) (List.length x1_l) false] (.tree (.lit (.bool R))) := by
 refine VPure.runR mixed Tryz.call24 Tryz.func24 rfl (by simp [Tryz.ntmps24]; kernel_rfl) ?_
 obtain ⟨KF, h, kF, kN⟩ := fun_intro h
 simp only [g_ref03_Plan] at h
 cases g6 : (lenOk x1_l)
 ·simp only [g6, hs] at h
  exact absurd h kN
 simp only [g6, hs] at h
 simp only [vz, tyf, g6, nm, seval]
 obtain ⟨K5, h, kR5, kG5, kB5, kN5⟩ := lbind_intro h kN
 obtain ⟨f5, hf5, h⟩ := call2 h
 obtain ⟨I5, hI5⟩ : ∃ I : Nat → St → Prop, I = (fun m st => ∃ (p5 : List Int) (c5_5 : Int), m = List.length p5 ∧ 0 ≤ c5_5 ∧ List.drop (Int.toNat c5_5) x1_l = p5 ∧ st.df = [] ∧ 3 ≤ st.nx ∧ st.H 0 = some (.cells (some 26) (cGCoatSheet x0_s)) ∧ st.tm 1 = .sl (cellsL eI x1_l) (List.length x1_l) false ∧ st.tm 2 = .ptr 0 0 ∧ st.tm 5 = .lit (.int .i64 c5_5) ∧ K5 (f5 p5 c5_5)) := ⟨_, rfl⟩
 refine loopK mixed (by kernel_rfl) I5 (List.length x1_l) (by rw [hI5]; refine ⟨x1_l, 0, rfl, Int.le_refl _, rfl, rfl, (show 3 ≤ 3 by omega), ?_, ?_, ?_, ?_, h⟩ <;> first | (simp only [ua, nm, seval] <;> rfl) | rfl) ?_
 rintro m ⟨tm, H, nx5, df⟩ hinv
 rw [hI5] at hinv
 obtain ⟨p5, c5_5, rfl, hi5, hp5, hdf, hn5, H7, e8, e9, e10, h⟩ := hinv
 simp only at hdf hn5 H7 e8 e9 e10
 have n11 := base_ne0 (m := 3) (b := nx5) (by omega)
 subst hdf hf5
 cases p5 with
 | nil =>
  have d12 : (decide (c5_5 < (List.length x1_l : Int))) = false := not_lt_of_drop hi5 hp5
  simp only [g_ref03_Plan_l0, hs, reduceCtorEq] at h
  replace h := kG5 _ h
  try dsimp only at h
  try simp only [hs] at h
  cases d13 : ((List.length x1_l : Int) == (List.length x0_s.Coats : Int))
  ·simp only [d13, hs] at h
   try simp only [vz, tyf, g6, n11, e8, e9, e10, H7, d12, d13, nm, seval]
   obtain rfl := kF _ h
   exact opd_bool Tryz.results24 rfl
  simp only [d13, hs] at h
  rcases o15 : (g_ref03_rising x0_s x1_l) with _ | r14
  ·simp only [o15, hs] at h
   exact absurd h kN
  simp only [o15, hs] at h
  simp only [vz, tyf, g6, n11, e8, e9, e10, H7, d12, d13, nm, seval]
  refine ktree (args0 := [.agg (cGCoatSheet x0_s), .sl (cellsL eI x1_l) (List.length x1_l) false]) (by first | (simp only [nrm, tynrm] <;> rfl) | rfl) (by simp only [tre, tytre, Bool.and_self]) (g_ref03_rising_ok _ _ _ o15) ?_
  refine fin_cut (fun tm => tm 26 = .lit (.bool true) ∧ tm 29 = .lit (.bool r14) ∧ True) (by refine ⟨?_, ?_, trivial⟩ <;> first | (simp only [ua, n11, e8, e9, e10, H7, d12, d13, nm, seval] <;> rfl) | rfl) ?_
  rintro tm ⟨e16, e17, _⟩
  try simp only [vz, tyf, g6, n11, H7, d12, d13, e16, e17, nm, seval]
  obtain rfl := kF _ h
  exact opd_bool Tryz.results24 rfl
 | cons e5 p5 =>
  have d18 : (decide (c5_5 < (List.length x1_l : Int))) = true := lt_of_drop hi5 hp5
  have o20 := getI_of_drop hi5 hp5
  have w19 := wrap_next hi5 hp5 g6
  simp only [g_ref03_Plan_l0, hs, reduceCtorEq] at h
  simp only [vz, tyf, g6, n11, e8, e9, e10, H7, d18, (ix23 o20), w19, nm, seval]
  refine cwp_drwQF (fun tm => tm 1 = .sl (cellsL eI x1_l) (List.length x1_l) false ∧ tm 2 = .ptr 0 0 ∧ tm 5 = .lit (.int .i64 c5_5) ∧ True) (by refine ⟨e8, e9, e10, trivial⟩ <;> first | (simp only [ua, n11, e8, e9, e10, H7, d18, w19, nm, seval] <;> rfl) | rfl) ?_
  rintro tm ⟨e21, e22, e23, _⟩
  rcases o25 : (g_ref01_Listed x0_s.Work e5) with _ | r24
  ·simp only [o25, hs] at h
   exact absurd h kN5
  simp only [o25, hs] at h
  simp only [vz, tyf, g6, n11, H7, d18, (ix23 o20), w19, e21, e22, e23, nm, seval]
  refine dktree (args0 := [.sl (cellsL eI x0_s.Work) (List.length x0_s.Work) false, .lit (.int .i64 e5)]) (by first | (simp only [nrm, tynrm] <;> rfl) | rfl) (by simp only [tre, tytre, Bool.and_self]) (g_ref01_Listed_ok _ _ _ o25) ?_
  refine fin_cut (fun tm => tm 1 = .sl (cellsL eI x1_l) (List.length x1_l) false ∧ tm 2 = .ptr 0 0 ∧ tm 5 = .lit (.int .i64 c5_5) ∧ tm 18 = .lit (.bool r24) ∧ True) (by refine ⟨e21, e22, e23, ?_, trivial⟩ <;> first | (simp only [ua, n11, H7, d18, w19, e21, e22, e23, nm, seval] <;> rfl) | rfl) ?_
  rintro tm ⟨e26, e27, e28, e29, _⟩
  cases d30 : (r24)
  ·simp only [d30, hs] at h
   try simp only [vz, tyf, g6, n11, H7, d18, (ix23 o20), w19, e26, e27, e28, e29, d30, nm, seval]
   replace h := kR5 _ h
   try dsimp only at h
   obtain rfl := kF _ h
   exact opd_bool Tryz.results24 rfl
  simp only [d30, hs] at h
  simp only [vz, tyf, g6, n11, H7, d18, (ix23 o20), w19, e26, e27, e28, e29, d30, nm, seval]
  exact ⟨List.length p5, Nat.lt_succ_self _, by rw [hI5]; refine ⟨p5, c5_5 + 1, rfl, Int.le_trans hi5 (Int.le_add_one (Int.le_refl _)), drop_next hi5 hp5, rfl, (show 3 ≤ nx5 + 15 by omega), ?_, e26, e27, ?_, h⟩ <;> first | (simp only [ua, n11, H7, d18, w19, e26, e27, e28, e29, d30, nm, seval] <;> rfl) | rfl⟩
end Go.V
end
section
namespace Go.V
open Go Go.Proofs
def g_ref03_Coat (x0_s : GCoatSheet) (x1_n : Int) : Option (Bool) := Option.bind (g_ref03_in x1_n 0 (IntKind.i64.wrap ((List.length x0_s.Coats : Int) - 1))) (fun r1 => some r1)
theorem g_ref03_Coat_ok (x0_s : GCoatSheet) (x1_n : Int) (R : Bool) (h : g_ref03_Coat x0_s x1_n = some R) : VPure Tryz.prog G0 31 [.agg (cGCoatSheet x0_s), .lit (.int .i64 x1_n)] (.tree (.lit (.bool R))) := by
 refine VPure.runR mixed Tryz.call31 Tryz.func31 rfl (by simp [Tryz.ntmps31]; kernel_rfl) ?_
 obtain ⟨KF, h, kF, kN⟩ := fun_intro h
 simp only [g_ref03_Coat] at h
 rcases o3 : (g_ref03_in x1_n 0 (IntKind.i64.wrap ((List.length x0_s.Coats : Int) - 1))) with _ | r2
 ·simp only [o3, hs] at h
  exact absurd h kN
 simp only [o3, hs] at h
 simp only [vz, tyf, nm, seval]
 refine ktree (args0 := [.lit (.int .i64 x1_n), .lit (.int .i64 0), .lit (.int .i64 (IntKind.i64.wrap ((List.length x0_s.Coats : Int) - 1)))]) (by first | (simp only [nrm, tynrm] <;> rfl) | rfl) (by simp only [tre, tytre, Bool.and_self]) (g_ref03_in_ok _ _ _ _ o3) ?_
 refine fin_cut (fun tm => tm 10 = .lit (.bool r2) ∧ True) (by refine ⟨?_, trivial⟩ <;> first | (simp only [ua, nm, seval] <;> rfl) | rfl) ?_
 rintro tm ⟨e4, _⟩
 try simp only [vz, tyf, e4, nm, seval]
 obtain rfl := kF _ h
 exact opd_bool Tryz.results31 rfl
end Go.V
end
section
namespace Go.V
open Go Go.Proofs
def g_law03_short (x0_s : GCoatSheet) : Option (Bool) := cond (decide ((List.length x0_s.Dry : Int) ≤ 14)) (cond (decide ((List.length x0_s.Work : Int) ≤ 16)) (some (decide ((List.length x0_s.Coats : Int) ≤ 7))) (some false)) (some false)
theorem g_law03_short_ok (x0_s : GCoatSheet) (R : Bool) (h : g_law03_short x0_s = some R) : VPure Tryz.prog G0 15 [.agg (cGCoatSheet x0_s)] (.tree (.lit (.bool R))) := by
 refine VPure.runR mixed Tryz.call15 Tryz.func15 rfl (by simp [Tryz.ntmps15]; kernel_rfl) ?_
 obtain ⟨KF, h, kF, kN⟩ := fun_intro h
 simp only [g_law03_short] at h
 cases d1 : (decide ((List.length x0_s.Dry : Int) ≤ 14))
 ·simp only [d1, hs] at h
  try simp only [vz, tyf, d1, nm, seval]
  obtain rfl := kF _ h
  exact opd_bool Tryz.results15 rfl
 simp only [d1, hs] at h
 cases d2 : (decide ((List.length x0_s.Work : Int) ≤ 16))
 ·simp only [d2, hs] at h
  try simp only [vz, tyf, d1, d2, nm, seval]
  obtain rfl := kF _ h
  exact opd_bool Tryz.results15 rfl
 simp only [d2, hs] at h
 try simp only [vz, tyf, d1, d2, nm, seval]
 obtain rfl := kF _ h
 exact opd_bool Tryz.results15 rfl
end Go.V
end
section
namespace Go.V
open Go Go.Proofs
def g_law03_right (x0_s : GCoatSheet) (x1_plan : List Int) : Option (Bool) := Option.bind (g_law03_short x0_s) (fun r1 => cond (r1) (cond (decide ((List.length x1_plan : Int) ≤ 7)) (Option.bind (g_ref03_Sheet x0_s) (fun r2 => cond (r2) (Option.bind (g_ref03_Plan x0_s x1_plan) (fun r3 => some r3)) (some false))) (some false)) (some false))
theorem g_law03_right_ok (x0_s : GCoatSheet) (x1_plan : List Int) (R : Bool) (h : g_law03_right x0_s x1_plan = some R) : VPure Tryz.prog G0 22 [.agg (cGCoatSheet x0_s), .sl (cellsL eI x1_plan) (List.length x1_plan) false] (.tree (.lit (.bool R))) := by
 refine VPure.runR mixed Tryz.call22 Tryz.func22 rfl (by simp [Tryz.ntmps22]; kernel_rfl) ?_
 obtain ⟨KF, h, kF, kN⟩ := fun_intro h
 simp only [g_law03_right] at h
 rcases o5 : (g_law03_short x0_s) with _ | r4
 ·simp only [o5, hs] at h
  exact absurd h kN
 simp only [o5, hs] at h
 simp only [vz, tyf, nm, seval]
 refine ktree (args0 := [.agg (cGCoatSheet x0_s)]) (by first | (simp only [nrm, tynrm] <;> rfl) | rfl) (by simp only [tre, tytre, Bool.and_self]) (g_law03_short_ok _ _ o5) ?_
 refine fin_cut (fun tm => tm 1 = .sl (cellsL eI x1_plan) (List.length x1_plan) false ∧ tm 2 = .ptr 0 0 ∧ tm 6 = .lit (.bool r4) ∧ True) (by refine ⟨?_, ?_, ?_, trivial⟩ <;> first | (simp only [ua, nm, seval] <;> rfl) | rfl) ?_
 rintro tm ⟨e6, e7, e8, _⟩
 cases d9 : (r4)
 ·simp only [d9, hs] at h
  try simp only [vz, tyf, e6, e7, e8, d9, nm, seval]
  obtain rfl := kF _ h
  exact opd_bool Tryz.results22 rfl
 simp only [d9, hs] at h
 cases d10 : (decide ((List.length x1_plan : Int) ≤ 7))
 ·simp only [d10, hs] at h
  try simp only [vz, tyf, e6, e7, e8, d9, d10, nm, seval]
  obtain rfl := kF _ h
  exact opd_bool Tryz.results22 rfl
 simp only [d10, hs] at h
 rcases o12 : (g_ref03_Sheet x0_s) with _ | r11
 ·simp only [o12, hs] at h
  exact absurd h kN
 simp only [o12, hs] at h
 simp only [vz, tyf, e6, e7, e8, d9, d10, nm, seval]
 refine ktree (args0 := [.agg (cGCoatSheet x0_s)]) (by first | (simp only [nrm, tynrm] <;> rfl) | rfl) (by simp only [tre, tytre, Bool.and_self]) (g_ref03_Sheet_ok _ _ o12) ?_
 refine fin_cut (fun tm => tm 1 = .sl (cellsL eI x1_plan) (List.length x1_plan) false ∧ tm 2 = .ptr 0 0 ∧ tm 12 = .lit (.bool true) ∧ tm 14 = .lit (.bool r11) ∧ True) (by refine ⟨e6, e7, ?_, ?_, trivial⟩ <;> first | (simp only [ua, e6, e7, e8, d9, d10, nm, seval] <;> rfl) | rfl) ?_
 rintro tm ⟨e13, e14, e15, e16, _⟩
 cases d17 : (r11)
 ·simp only [d17, hs] at h
  try simp only [vz, tyf, d9, d10, e13, e14, e15, e16, d17, nm, seval]
  obtain rfl := kF _ h
  exact opd_bool Tryz.results22 rfl
 simp only [d17, hs] at h
 rcases o19 : (g_ref03_Plan x0_s x1_plan) with _ | r18
 ·simp only [o19, hs] at h
  exact absurd h kN
 simp only [o19, hs] at h
 simp only [vz, tyf, d9, d10, e13, e14, e15, e16, d17, nm, seval]
 refine ktree (args0 := [.agg (cGCoatSheet x0_s), .sl (cellsL eI x1_plan) (List.length x1_plan) false]) (by first | (simp only [nrm, tynrm] <;> rfl) | rfl) (by simp only [tre, tytre, Bool.and_self]) (g_ref03_Plan_ok _ _ _ o19) ?_
 refine fin_cut (fun tm => tm 16 = .lit (.bool true) ∧ tm 19 = .lit (.bool r18) ∧ True) (by refine ⟨?_, ?_, trivial⟩ <;> first | (simp only [ua, d9, d10, e13, e14, e15, e16, d17, nm, seval] <;> rfl) | rfl) ?_
 rintro tm ⟨e20, e21, _⟩
 try simp only [vz, tyf, d9, d10, d17, e20, e21, nm, seval]
 obtain rfl := kF _ h
 exact opd_bool Tryz.results22 rfl
end Go.V
end
section
namespace Go.V
open Go
theorem isFrom_eq (a n b : Int) : g_limits_IsFrom a n b = some (inB a b n) := csome _ _
theorem rin_eq (n a b : Int) : g_ref03_in n a b = some (inB a b n) := csome _ _
def upB : List Int → Bool
 | a :: b :: l => decide (a < b) && upB (b :: l)
 | _ => true
def spanB (x : GSpan) : Bool := inB 0 x.High x.Low && decide (x.High ≤ 24)
def coatB (c : GCoatCoat) : Bool := inB 1 288 c.Need && inB c.Need 400 c.Peel
theorem isSpan_eq (x : GSpan) : g_limits_IsSpan 0 x 24 = some (spanB x) := by
 unfold g_limits_IsSpan spanB inB
 cases decide (0 ≤ x.Low) <;> cases decide (x.Low ≤ x.High) <;> rfl
theorem areFrom_l0 (a b : Int) : ∀ (p : List Int) (c : Int), g_limits_AreFrom_l0 a b p c = goB (p.all (inB a b))
 | [], _ => rfl
 | e :: p, c => by
  simp only [g_limits_AreFrom_l0, isFrom_eq, Option.bind_some, areFrom_l0 a b p, List.all_cons, goB_and]
theorem areFrom_eq (a b : Int) {x : List Int} (h : lenOk x = true) : g_limits_AreFrom a x b = some (x.all (inB a b)) := by
 unfold g_limits_AreFrom
 rw [h, areFrom_l0, goB_lbind]
 cases x.all (inB a b) <;> rfl
theorem upB_cons (a e : Int) (p : List Int) : upB (a :: e :: p) = (decide (a < e) && upB (e :: p)) := rfl
theorem le_not (a e : Int) : decide (e ≤ a) = !decide (a < e) := by
 by_cases h : a < e
 ·simp [h]
 ·simp [h]; omega
theorem areInc_l0 {x : List Int} (hx : lenOk x = true) : ∀ (p : List Int) (c a : Int), 0 ≤ c → x.drop c.toNat = a :: p → g_limits_AreIncreasing_l0 x p (c + 1) = goB (upB (a :: p))
 | [], _, _, _, _ => rfl
 | e :: p, c, a, h0, h => by
  have hg := getI_of_drop h0 h
  have hl := (getI_lt hg).2
  have hx' := lenOk_lt hx
  simp only [g_limits_AreIncreasing_l0]
  rw [wrap_eq (by omega) (by omega), show c + 1 - 1 = c by omega, hg]
  simp only [Option.bind_some, le_not, cnot, upB_cons, goB_and]
  rw [areInc_l0 hx p (c + 1) e (by omega) (drop_next h0 h)]
theorem areInc_eq (a b : Int) {x : List Int} (hx : lenOk x = true) : g_limits_AreIncreasing a x b = some (upB x && x.all (inB a b)) := by
 unfold g_limits_AreIncreasing
 rw [hx, areFrom_eq a b hx, show leB 0 1 = true from rfl]
 simp only [cond_true, Option.bind_some]
 cases x with
 | nil => rfl
 | cons e p =>
  have := areInc_l0 hx p 0 e (Int.le_refl _) rfl
  rw [show (0 : Int) + 1 = 1 from rfl] at this
  rw [show List.drop (Int.toNat 1) (e :: p) = p from rfl, this, goB_lbind]
  cases upB (e :: p) <;> rfl
def dayB (n : Nat) : Int → Bool := inB 0 ((n : Int) - 1)
def incB (n : Nat) (x : List Int) : Bool := upB x && x.all (dayB n)
theorem day_eq (s : GCoatSheet) (h : lenOk s.Dry = true) (n : Int) : g_ref03_Day s n = some (dayB s.Dry.length n) := by
 have := lenOk_lt h
 unfold g_ref03_Day dayB
 rw [rin_eq, wrap_eq (by omega) (by omega)]
 rfl
theorem rising_l0 {s : GCoatSheet} (hs : lenOk s.Dry = true) {x : List Int} (hx : lenOk x = true) : ∀ (p : List Int) (c a : Int), 0 ≤ c → x.drop c.toNat = a :: p → g_ref03_rising_l0 s x p (c + 1) = goB (upB (a :: p) && p.all (dayB s.Dry.length))
 | [], _, _, _, _ => rfl
 | e :: p, c, a, h0, h => by
  have hg := getI_of_drop h0 h
  have hl := (getI_lt hg).2
  have hx' := lenOk_lt hx
  simp only [g_ref03_rising_l0]
  rw [wrap_eq (by omega) (by omega), show c + 1 - 1 = c by omega, hg, day_eq s hs, show decide (c + 1 > 0) = true from decide_eq_true (by omega)]
  simp only [Option.bind_some, le_not, cnot, upB_cons, cond_true, List.all_cons]
  rw [rising_l0 hs hx p (c + 1) e (by omega) (drop_next h0 h)]
  cases dayB s.Dry.length e <;> cases decide (a < e) <;> cases upB (e :: p) <;> rfl
theorem rising_eq {s : GCoatSheet} (hs : lenOk s.Dry = true) {x : List Int} (hx : lenOk x = true) : g_ref03_rising s x = some (incB s.Dry.length x) := by
 unfold g_ref03_rising
 rw [hx]
 simp only [cond_true]
 cases x with
 | nil => rfl
 | cons e p =>
  have := rising_l0 hs hx p 0 e (Int.le_refl _) rfl
  simp only [g_ref03_rising_l0, day_eq s hs, Option.bind_some, show decide ((0 : Int) > 0) = false from rfl, cond_false, this]
  unfold incB
  rw [List.all_cons]
  cases dayB s.Dry.length e <;> cases upB (e :: p) <;> cases p.all (dayB s.Dry.length) <;> rfl
theorem areDays_l0 : ∀ (p : List GSpan) (c : Int), g_coat_areDays_l0 p c = goB (p.all spanB)
 | [], _ => rfl
 | e :: p, c => by simp only [g_coat_areDays_l0, isSpan_eq, Option.bind_some, areDays_l0 p, List.all_cons, goB_and]
theorem areCoats_l0 : ∀ (p : List GCoatCoat) (c : Int), g_coat_areCoats_l0 p c = goB (p.all coatB)
 | [], _ => rfl
 | e :: p, c => by
  simp only [g_coat_areCoats_l0, isFrom_eq, Option.bind_some, areCoats_l0 p, List.all_cons, goB_and, coatB, cand]
def sheetB (s : GCoatSheet) : Bool := (inB 1 12 s.Dry.length && s.Dry.all spanB) && (incB s.Dry.length s.Work && (inB 1 5 s.Coats.length && s.Coats.all coatB))
theorem areDays_eq {x : List GSpan} (h : lenOk x = true) : g_coat_areDays x = some (inB 1 12 x.length && x.all spanB) := by
 unfold g_coat_areDays
 rw [isFrom_eq, h, areDays_l0, goB_lbind]
 cases inB 1 12 (x.length : Int) <;> cases x.all spanB <;> rfl
theorem areCoats_eq {x : List GCoatCoat} (h : lenOk x = true) : g_coat_areCoats x = some (inB 1 5 x.length && x.all coatB) := by
 unfold g_coat_areCoats
 rw [isFrom_eq, h, areCoats_l0, goB_lbind]
 cases inB 1 5 (x.length : Int) <;> cases x.all coatB <;> rfl
structure OkS (s : GCoatSheet) : Prop where
 d : lenOk s.Dry = true
 w : lenOk s.Work = true
 c : lenOk s.Coats = true
theorem isSheet_eq {s : GCoatSheet} (h : OkS s) : g_coat_isSheet s = some (sheetB s) := by
 have := lenOk_lt h.d
 unfold g_coat_isSheet sheetB incB dayB
 rw [areDays_eq h.d, areCoats_eq h.c, areInc_eq _ _ h.w, wrap_eq (by omega) (by omega)]
 simp only [Option.bind_some]
 cases (inB 1 12 (s.Dry.length : Int) && s.Dry.all spanB) <;> cases (upB s.Work && s.Work.all (inB 0 ((s.Dry.length : Int) - 1))) <;> rfl
theorem sheet_l0 : ∀ (p : List GSpan) (c : Int), g_ref03_Sheet_l0 p c = goB (p.all spanB)
 | [], _ => rfl
 | e :: p, c => by
  simp only [g_ref03_Sheet_l0, rin_eq, Option.bind_some, sheet_l0 p, List.all_cons]
  unfold spanB inB
  by_cases h1 : 0 ≤ e.Low
  ·by_cases h2 : e.Low ≤ e.High
   ·by_cases h3 : e.High ≤ 24
    ·simp [h1, h2, h3, show e.Low ≤ 24 by omega]
    ·by_cases h4 : e.Low ≤ 24 <;> simp [h1, h2, h3, h4, goB]
   ·by_cases h4 : e.Low ≤ 24 <;> simp [h1, h2, h4, goB]
  ·simp [h1, goB]
theorem sheet_l1 : ∀ (p : List GCoatCoat) (c : Int), g_ref03_Sheet_l1 p c = goB (p.all coatB)
 | [], _ => rfl
 | e :: p, c => by
  simp only [g_ref03_Sheet_l1, rin_eq, Option.bind_some, sheet_l1 p, List.all_cons, goB_and, coatB, cand]
theorem rSheet_eq {s : GCoatSheet} (h : OkS s) : g_ref03_Sheet s = some (sheetB s) := by
 unfold g_ref03_Sheet sheetB
 rw [rin_eq, rin_eq, rising_eq h.d h.w, h.d, h.c, sheet_l0, sheet_l1, goB_lbind, goB_lbind]
 simp only [Option.bind_some]
 cases inB 1 12 (s.Dry.length : Int) <;> cases s.Dry.all spanB <;> cases inB 1 5 (s.Coats.length : Int) <;> cases s.Coats.all coatB <;> cases incB s.Dry.length s.Work <;> rfl
theorem index_l0 (v : Int) : ∀ (p : List Int) (c : Int), 0 ≤ c → ∃ r, g_slices_Index_int_int_l0 v p c = r ∧ ((p.contains v = true ∧ ∃ j, r = some (.ret j) ∧ 0 ≤ j) ∨ (p.contains v = false ∧ r = some (.go ())))
 | [], _, _ => ⟨_, rfl, .inr ⟨rfl, rfl⟩⟩
 | e :: p, c, h => by
  refine ⟨_, rfl, ?_⟩
  simp only [g_slices_Index_int_int_l0, List.contains_cons]
  cases he : (v == e) with
  | true => exact .inl ⟨by simp, c, rfl, h⟩
  | false =>
   obtain ⟨r, hr, h2⟩ := index_l0 v p (c + 1) (by omega)
   subst hr
   simpa using h2
theorem contains_eq {x : List Int} (hx : lenOk x = true) (v : Int) : g_slices_Contains_int_int x v = some (x.contains v) := by
 unfold g_slices_Contains_int_int g_slices_Index_int_int
 rw [hx]
 obtain ⟨r, hr, h2⟩ := index_l0 v x 0 (Int.le_refl _)
 rcases h2 with ⟨h3, j, hj, h4⟩ | ⟨h3, hj⟩
 ·rw [hr, hj, h3]; simp [lbind, h4]
 ·rw [hr, hj, h3]; simp [lbind]
theorem listed_l0 (v : Int) : ∀ (p : List Int) (c : Int), g_ref01_Listed_l0 v p c = cond (p.contains v) (some (.ret true)) (some (.go ()))
 | [], _ => rfl
 | e :: p, c => by
  simp only [g_ref01_Listed_l0, List.contains_cons, listed_l0 v p, Bool.beq_comm (a := e)]
  cases (v == e) <;> rfl
theorem listed_eq {x : List Int} (hx : lenOk x = true) (v : Int) : g_ref01_Listed x v = some (x.contains v) := by
 unfold g_ref01_Listed
 rw [hx, listed_l0]
 cases x.contains v <;> rfl
def planB (s : GCoatSheet) (l : List Int) : Bool := (decide (l.length = s.Coats.length) && incB s.Dry.length l) && l.all fun d => s.Work.contains d
theorem isPlan_l0 {s : GCoatSheet} (h : OkS s) : ∀ (p : List Int) (c : Int), g_coat_isPlan_l0 s p c = goB (p.all fun d => s.Work.contains d)
 | [], _ => rfl
 | e :: p, c => by simp only [g_coat_isPlan_l0, contains_eq h.w, Option.bind_some, isPlan_l0 h p, List.all_cons, goB_and]
theorem plan_l0 {s : GCoatSheet} (h : OkS s) : ∀ (p : List Int) (c : Int), g_ref03_Plan_l0 s p c = goB (p.all fun d => s.Work.contains d)
 | [], _ => rfl
 | e :: p, c => by simp only [g_ref03_Plan_l0, listed_eq h.w, Option.bind_some, plan_l0 h p, List.all_cons, goB_and]
theorem lenB (a b : Nat) : ((a : Int) == (b : Int)) = decide (a = b) := by
 by_cases h : a = b
 ·simp [h]
 ·rw [decide_eq_false h]; exact beq_false_of_ne (by omega)
theorem isPlan_eq {s : GCoatSheet} (h : OkS s) {l : List Int} (hl : lenOk l = true) : g_coat_isPlan s l = some (planB s l) := by
 have := lenOk_lt h.d
 unfold g_coat_isPlan planB
 rw [areInc_eq _ _ hl, hl, isPlan_l0 h, goB_lbind, wrap_eq (by omega) (by omega)]
 unfold incB dayB
 simp only [Option.bind_some, bne, lenB, cnot]
 cases decide (l.length = s.Coats.length) <;> cases (upB l && l.all (inB 0 ((s.Dry.length : Int) - 1))) <;> cases (l.all fun d => s.Work.contains d) <;> rfl
theorem rPlan_eq {s : GCoatSheet} (h : OkS s) {l : List Int} (hl : lenOk l = true) : g_ref03_Plan s l = some (planB s l) := by
 unfold g_ref03_Plan planB
 rw [rising_eq h.d hl, hl, plan_l0 h, goB_lbind]
 simp only [Option.bind_some, lenB]
 cases decide (l.length = s.Coats.length) <;> cases incB s.Dry.length l <;> cases (l.all fun d => s.Work.contains d) <;> rfl
def inW : List GSpan → List Int → Bool
 | [], [] => true
 | x :: xs, w :: ws => inB x.Low x.High w && inW xs ws
 | _, _ => false
end Go.V
end
section
set_option linter.unusedVariables false
set_option linter.defProp false
namespace Go.V
open Go
section
variable {P : Program} {G : Glob} {n : Nat} {x : Code} {Q : VExit → St → Prop} {st : St}
end
theorem setC {α : Type} {enc : α → List VV} {w : Nat} (xs : List α) (n : Nat) (v : α) (he : ∀ x, (enc x).length = w) : List.take (xs.length * w) (cellsL enc (xs.set n v)) = cellsL enc (xs.set n v) :=
 List.take_of_length_le (by rw [cellsL_length he, List.length_set]; exact Nat.le_refl _)
end Go.V
end
section
set_option linter.unusedVariables false
set_option linter.unusedSimpArgs false
set_option linter.defProp false
namespace Go.V
open Go
section
variable {P : Program} {G : Glob} {n : Nat} {Q : VExit → St → Prop} {tm : Nat → VV} {H : Nat → Option VObj} {nx : Nat} {df : List VDef} {g : Operand} {ps : Array Tmp} {az bo : Code} {f : FuncId} {first captured : List VV}
theorem range_open (hg : ev (G.at (some none)) tm g = .fn (.func f) first captured)
  (h : ∀ LO, LO = VObj.loop .ready none (tmL n tm) ps az bo nx → VOpen P (G.at (some none)) f (first ++ [.yl (nx + 1)] ++ captured) (updH (updH H nx (.deferred (some []))) (nx + 1) LO) (nx + 2)
   (fun _ H' nx' => RangeEnd P (G.at (some none)) n Q ⟨tm, H, nx, df⟩ H' nx') (fun x H' nx' => Q (.panic x) ⟨tm, H', nx', .coll nx :: df⟩)) : CWp P (G.at (some none)) n (.rangeFunc g ps az bo) Q ⟨tm, H, nx, df⟩ := by
 unfold CWp
 refine ⟨rfl, ?_⟩
 rw [show St.ρ (G.at (some none)) ⟨tm, H, nx, df⟩ g = ev (G.at (some none)) tm g from ev_eq .. ▸ rfl, hg]
 exact h _ rfl
theorem rangeEnd_go {H' : Nat → Option VObj} {nx' : Nat} {LO : VObj} {tml : List VV} {d : Nat} (hL : LO = VObj.loop .ready none tml ps az bo d) (h : H' (nx + 1) = some LO) (hq : ∀ LX, Q .normal ⟨tm, updH H' (nx + 1) LX, nx', .coll nx :: df⟩) : RangeEnd P G n Q ⟨tm, H, nx, df⟩ H' nx' :=
 ⟨.ready, none, tml, ps, az, bo, d, by rw [h, hL], by simp, hq _⟩
def RndEnd (β : Nat) (LB LO : VObj) (LD : Code → VObj) (o : Oper) (st : St) (K : St → Prop) : VExit → St → Prop
 | .normal, s2 => s2.H β = some LB ∧ K { st.put o.dst (.lit (.bool true)) with H := updH s2.H β LO, nx := s2.nx }
 | .ret, s2 => s2.H β = some LB ∧ K { st.put o.dst (.lit (.bool false)) with H := updH s2.H β (LD .ret), nx := s2.nx }
 | .exit id, s2 => s2.H β = some LB ∧ K { st.put o.dst (.lit (.bool false)) with H := updH s2.H β (LD (.exit id)), nx := s2.nx }
 | _, _ => False
def RndAs (P : Program) (G : Glob) (n β : Nat) (LB LO : VObj) (LD : Code → VObj) (bo : Code) (o : Oper) (st : St) (K : St → Prop) : VExit → St → Prop
 | .normal, s1 => s1.H β = some LO ∧ CWp P (G.at (some (some β))) n bo (RndEnd β LB LO LD o st K) { s1 with H := updH s1.H β LB }
 | _, _ => False
theorem yield_open (hm : P.follows .mixedOrders = true) {o : Oper} {β : Nat} {args : List VV} {st : St} {K : St → Prop} {LO : VObj} {tml : List VV} {d : Nat} {psl : List Tmp} (hL : LO = VObj.loop .ready none tml ⟨psl⟩ az bo d) (hβ : st.H β = some LO) (hn : tml.length = n) (ha : args.length = psl.length)
  (h1 : codeOk n az = true) (h2 : codeOk n bo = true)
  (h : ∀ LB LD, LB = VObj.loop .busy none tml ⟨psl⟩ az bo d → LD = (fun c => VObj.loop .done (some c) tml ⟨psl⟩ az bo d) →
   CWp P (G.at (some (some β))) n az (RndAs P G n β LB LO LD bo o st K) ⟨argsTm (roundTm tml psl args), st.H, st.nx, []⟩) : yieldK P G o β args st K := by
 unfold yieldK
 rw [hβ, hL]
 subst hn
 refine ⟨ha, (CWp_sound hm az _ _ h1 (h _ _ rfl rfl)).mono ?_⟩
 intro e s1 hs
 cases e with
 | normal =>
  obtain ⟨q1, q2⟩ := hs
  refine ⟨none, tml, ⟨psl⟩, az, bo, d, by rw [q1, hL], (CWp_sound hm bo _ _ h2 q2).mono ?_⟩
  intro e s2 hs2
  cases e with
  | normal =>
   obtain ⟨r1, r2⟩ := hs2
   refine ⟨_, _, _, _, _, _, _, r1, ?_⟩
   rw [hL] at r2
   exact r2
  | ret =>
   obtain ⟨r1, r2⟩ := hs2
   exact ⟨_, _, _, _, _, _, _, r1, r2⟩
  | exit id =>
   obtain ⟨r1, r2⟩ := hs2
   exact ⟨_, _, _, _, _, _, _, r1, r2⟩
  | goto l => exact hs2.elim
  | panic x => exact hs2.elim
 | _ => exact hs.elim
theorem round_tm {m t p : Nat} {x : VV} (h : t < m) : argsTm (roundTm (tmL m tm) [p] [x]) t = if t = p then x else tm t := by
 unfold argsTm roundTm tmL
 simp only [List.zip_cons_cons, List.zip_nil_right, List.foldl_cons, List.foldl_nil]
 by_cases hp : t = p
 ·subst hp
  rw [if_pos rfl]
  simp [h]
 ·rw [if_neg hp]
  simp [List.getElem?_set, h, Ne.symm hp]
theorem round_tm0 {m t : Nat} (h : t < m) : argsTm (roundTm (tmL m tm) [] []) t = tm t := by
 unfold argsTm roundTm tmL
 simp [h]
theorem tmL_length {m : Nat} : (tmL m tm).length = m := by simp [tmL]
theorem cwp_tmcut {code : Code} (F : (Nat → VV) → Prop) (hF : F tm) (h : ∀ tm, F tm → CWp P G n code Q ⟨tm, H, nx, df⟩) : CWp P G n code Q ⟨tm, H, nx, df⟩ := h tm hF
theorem vcells_yl {β : Nat} : vcells (.yl β) = some [.yl β] := rfl
theorem leaf_yl {β : Nat} : (VV.yl β).leaf = true := rfl
theorem VPure.at {x : Option (Option Nat)} {args : List VV} {r : PRes} (h : VPure P G f args r) : VPure P (G.at x) f args r := h
def rg := And.intro @vcells_yl (And.intro @leaf_yl @cvalK_yl)
theorem opd_coll {fn : Func} {R Rp : VV → (Nat → Option VObj) → Nat → Prop} {β : Nat} (h : H β = some (.deferred (some []))) (h2 : OpenPostD P G fn R Rp .ret ⟨tm, updH H β (.deferred none), nx, df⟩) : OpenPostD P G fn R Rp .ret ⟨tm, H, nx, .coll β :: df⟩ := ⟨h, h2⟩
end
end Go.V
end
section
set_option linter.unusedVariables false
set_option linter.unusedSimpArgs false
namespace Go.V
open Go
def pfxOk (n : Nat) (i : Int) : Bool := decide (0 < n) && (decide (0 ≤ i) && decide (i ≤ n))
theorem pfxOk_iff {n : Nat} {i : Int} : pfxOk n i = true ↔ 0 < n ∧ 0 ≤ i ∧ i ≤ n := by
 unfold pfxOk
 rw [Bool.and_eq_true, Bool.and_eq_true, decide_eq_true_eq, decide_eq_true_eq, decide_eq_true_eq]
theorem neB_nil {α : Type} : neB ([] : List α) = false := rfl
def le1000 (n : Nat) : Bool := decide (n ≤ 1000)
theorem le1000_of {n : Nat} (h : le1000 n = true) : n ≤ 1000 := of_decide_eq_true h
def sliceO {α : Type} (xs : List α) (lo hi : Int) : Option (List α) := if 0 ≤ lo ∧ lo ≤ hi ∧ hi ≤ xs.length then some ((xs.drop lo.toNat).take (hi - lo).toNat) else none
section
variable {P : Program} {G : Glob} {f : FuncId} {β γ w c nx : Nat} {tm : Nat → VV} {H : Nat → Option VObj} {df : List VDef} {d : Option Tmp} {K : List Nat → List Nat → St → Prop} {el : Option TypeId} {α : Type} {enc : α → List VV} {xs ys : List α} {x : VV}
theorem pfx_take (hw : ∀ x, (enc x).length = w) {i : Int} (h : pfxOk xs.length i = true) : (cellsL enc xs).take (i.toNat * w) = cellsL enc (xs.take i.toNat) ∧ (xs.take i.toNat).length = i.toNat := by
 obtain ⟨h1, h2, h3⟩ := pfxOk_iff.1 h
 have hl : (xs.take i.toNat).length = i.toNat := by rw [List.length_take]; omega
 refine ⟨?_, hl⟩
 have h3 : xs = xs.take i.toNat ++ xs.drop i.toNat := (List.take_append_drop ..).symm
 have h4 := cellsL_length hw (xs.take i.toNat)
 rw [hl] at h4
 conv => lhs; rw [h3]
 rw [cellsL_append, List.take_append_of_le_length (by omega), List.take_of_length_le (by omega)]
theorem dkseenP (he : EncT enc) (hw : ∀ x, (enc x).length = w) {i : Int} (hi : pfxOk xs.length i = true) (hl : xs.length * w ≤ 1000) (hH : H β = some (.cells el (cellsL enc xs))) (hp : VPure P G f [.sl (cellsL enc (xs.take i.toNat)) (xs.take i.toNat).length false] (.tree x)) (hf : x.flat = true) (h : fin d γ tm H nx df (K [β] []) x .none) :
  dcallK P G f [.ref β 0 i.toNat w c] tm H nx df d γ K := by
 obtain ⟨e1, e2⟩ := pfx_take hw hi
 have ht : treeL (cellsL enc (xs.take i.toNat)) = true := treeL_cellsL he.tree _
 have hlen := cellsL_length hw (xs.take i.toNat)
 have h5 := (pfxOk_iff.1 hi).2.2
 rw [e2] at hlen
 have h6 : i.toNat * w ≤ 1000 := Nat.le_trans (Nat.mul_le_mul_right w (by omega)) hl
 have e0 : (VV.ref β 0 i.toNat w c).tree = false := rfl
 refine dkseen (args1 := [.sl (cellsL enc (xs.take i.toNat)) (xs.take i.toNat).length false]) (x := x) ?_ (normL_sl1 he) hp hf ?_
 ·show sealL H (99999 + 1) _ = _
  have h2 : sealV H (99998 + 1) (.ref β 0 i.toNat w c) = some (.sl (cellsL enc (xs.take i.toNat)) (xs.take i.toNat).length false) := by
   simp only [sealV, e0, hH, Nat.zero_le, if_true, List.drop_zero, e1]
   rw [seal_tree _ 99998 ht (by omega), e2]
   rfl
  simp only [sealL]
  rw [show (99999 : Nat) = 99998 + 1 from rfl, h2]
 ·have h3 : nmL H fuelS [.ref β 0 i.toNat w c] = [β] := by
   show nmL H (99999 + 1) _ = _
   have h4 : nmV H (99998 + 1) (.ref β 0 i.toNat w c) = [β] := by
    simp only [nmV, e0, hH, List.drop_zero, e1]
    rw [nm_tree _ _ ht]
    rfl
   simp only [nmL]
   rw [show (99999 : Nat) = 99998 + 1 from rfl, h4]
   simp [nmL]
  rw [h3]
  exact h
end
section
variable {P : Program} {G : Glob} {β γ w e : Nat} {t ty : TypeId} {tm : Nat → VV} {H : Nat → Option VObj} {d : Option Tmp} {k : VV → VEff → Prop} {el : Option TypeId} {α : Type} {enc : α → List VV} {xs ys : List α} {pos : String} {af : Array Edge} {g : Option (Nat × Bool)} {x : Operand} {lo hi : Option Operand}
theorem k_slP {o : Operand} {kd : IntKind} {i : Int} (hu : P.underlying t = some (.slice e)) (hs : szT P e = some w) (hx : ev G tm x = .ref β 0 xs.length w xs.length) (hH : H β = some (.cells el (cellsL enc xs))) (ho : ev G tm o = .lit (.int kd i)) (hi : pfxOk xs.length i = true)
  (h : k (.ref β 0 i.toNat w xs.length) .none) : oeK (vop P ⟨d, .slice t x none (some o) none, ty, pos, af, g⟩ (ev G tm) H γ) k := by
 obtain ⟨h1, h2, h3⟩ := pfxOk_iff.1 hi
 have e1 : vslice P H t (.ref β 0 xs.length w xs.length) none (some (.lit (.int kd i))) none = some (.ref β 0 i.toNat w xs.length) := by
  have h4 : i.toNat ≤ xs.length := by omega
  simp [vslice, hu, hs, sls, hH, vbound, h2, h4, h1]
 have e2 : vop P ⟨d, .slice t x none (some o) none, ty, pos, af, g⟩ (ev G tm) H γ = some (.ref β 0 i.toNat w xs.length, .none) := by
  simp [vop, hu, hx, ho, e1]
 rw [e2]
 exact h
theorem sliceO_some {lo hi : Int} (h : sliceO xs lo hi = some ys) : 0 ≤ lo ∧ lo ≤ hi ∧ hi ≤ xs.length ∧ ys = (xs.drop lo.toNat).take (hi - lo).toNat := by
 unfold sliceO at h
 split at h
 ·rename_i hc; cases h; exact ⟨hc.1, hc.2.1, hc.2.2, rfl⟩
 ·cases h
theorem k_slT {l r : Int} (hu : P.underlying t = some (.slice e)) (hs : szT P e = some w) (hw : ∀ x, (enc x).length = w) (hx : ev G tm x = .sl (cellsL enc xs) xs.length false)
  (hl : (lo.map (ev G tm) = none ∧ l = 0) ∨ ∃ kd, lo.map (ev G tm) = some (.lit (.int kd l))) (hr : (hi.map (ev G tm) = none ∧ r = xs.length) ∨ ∃ kd, hi.map (ev G tm) = some (.lit (.int kd r)))
  (ho : sliceO xs l r = some ys) (h : k (.sl (cellsL enc ys) ys.length false) .none) : oeK (vop P ⟨d, .slice t x lo hi none, ty, pos, af, g⟩ (ev G tm) H γ) k := by
 obtain ⟨h1, h2, h3, rfl⟩ := sliceO_some ho
 have hl' : vbound 0 (lo.map (ev G tm)) = some l.toNat := by
  rcases hl with ⟨hz, rfl⟩ | ⟨kd, hz⟩
  ·rw [hz]; rfl
  ·rw [hz]; simp [vbound, h1]
 have hr' : vbound xs.length (hi.map (ev G tm)) = some r.toNat := by
  rcases hr with ⟨hz, rfl⟩ | ⟨kd, hz⟩
  ·rw [hz]; simp [vbound]
  ·rw [hz]; simp [vbound, show (0:Int) ≤ r by omega]
 have hlen : ((xs.drop l.toNat).take (r - l).toNat).length = r.toNat - l.toNat := by
  rw [List.length_take, List.length_drop]; omega
 have hcs : ((cellsL enc xs).drop (l.toNat * w)).take ((r.toNat - l.toNat) * w) = cellsL enc ((xs.drop l.toNat).take (r - l).toNat) := by
  have h4 : xs = xs.take l.toNat ++ xs.drop l.toNat := (List.take_append_drop ..).symm
  have h5 := cellsL_length hw (xs.take l.toNat)
  have h6 : (xs.take l.toNat).length = l.toNat := by rw [List.length_take]; omega
  rw [h6] at h5
  have h7 : (cellsL enc xs).drop (l.toNat * w) = cellsL enc (xs.drop l.toNat) := by
   conv => lhs; rw [h4]
   rw [cellsL_append, ← h5, List.drop_left]
  rw [h7]
  generalize hz : xs.drop l.toNat = zs at hlen ⊢
  have h8 : zs = zs.take (r - l).toNat ++ zs.drop (r - l).toNat := (List.take_append_drop ..).symm
  have h9 := cellsL_length hw (zs.take (r - l).toNat)
  rw [hlen] at h9
  conv => lhs; rw [h8]
  rw [cellsL_append, ← h9, List.take_left]
 have e1 : vslice P H t (.sl (cellsL enc xs) xs.length false) (lo.map (ev G tm)) (hi.map (ev G tm)) none = some (.sl (cellsL enc ((xs.drop l.toNat).take (r - l).toNat)) ((xs.drop l.toNat).take (r - l).toNat).length false) := by
  have h10 : l.toNat ≤ r.toNat := by omega
  have h11 : r.toNat ≤ xs.length := by omega
  have h12 : vbound xs.length none = some xs.length := rfl
  simp only [vslice, hu, hs, sls, hl', hr', h12, h10, h11, Nat.le_refl, true_and, if_true, Option.isSome_none, Bool.false_eq_true, false_imp_iff, Bool.false_and, Bool.and_false, Bool.or_false, hcs, hlen]
 have e2 : vop P ⟨d, .slice t x lo hi none, ty, pos, af, g⟩ (ev G tm) H γ = some (.sl (cellsL enc ((xs.drop l.toNat).take (r - l).toNat)) ((xs.drop l.toNat).take (r - l).toNat).length false, .none) := by
  simp only [vop, hu, hx, Option.map_none, e1]
 rw [e2]
 exact h
end
section
variable {P : Program} {G : Glob} {f : FuncId} {γ nx : Nat} {tm : Nat → VV} {H : Nat → Option VObj} {df : List VDef} {d : Option Tmp} {x : VV}
theorem ktree0 {K : St → Prop} {Qp : VV → St → Prop} (hp : VPure P G f [] (.tree x)) (h : fin d γ tm H nx df K x .none) : callK P G f [] ⟨tm, H, nx, df⟩ d γ K Qp := ktree (args0 := []) rfl rfl hp h
end
end Go.V
end
section
namespace Go.V
open Go Go.Proofs
def g_sum_Of_l0  : List Int → Int → Int → Option (LOut (Int) (Int))
 | [], c0_8, c0_3 => some (.go c0_3)
 | e0 :: p0, c0_8, c0_3 => g_sum_Of_l0 p0 (c0_8 + 1) (IntKind.i64.wrap (c0_3 + e0))
def g_sum_Of (x0_numbers : List Int) : Option (Int) := cond (lenOk x0_numbers) (lbind (g_sum_Of_l0 x0_numbers 0 0) (fun r2 => some r2) (fun c1 => some c1) (fun _ _ => none)) none
theorem g_sum_Of_ok (x0_numbers : List Int) (R : Int) (h : g_sum_Of x0_numbers = some R) : VPure Tryz.prog G0 103 [.sl (cellsL eI x0_numbers) (List.length x0_numbers) false] (.tree (.lit (.int .i64 R))) := by
 refine VPure.runR mixed Tryz.call103 Tryz.func103 rfl (by simp [Tryz.ntmps103]; kernel_rfl) ?_
 obtain ⟨KF, h, kF, kN⟩ := fun_intro h
 simp only [g_sum_Of] at h
 cases g4 : (lenOk x0_numbers)
 ·simp only [g4, hs] at h
  exact absurd h kN
 simp only [g4, hs] at h
 simp only [vz, tyf, g4, nm, seval]
 obtain ⟨K3, h, kR3, kG3, kB3, kN3⟩ := lbind_intro h kN
 obtain ⟨f3, hf3, h⟩ := call3 h
 obtain ⟨I3, hI3⟩ : ∃ I : Nat → St → Prop, I = (fun m st => ∃ (p3 : List Int) (c3_8 : Int) (c3_3 : Int), m = List.length p3 ∧ 0 ≤ c3_8 ∧ List.drop (Int.toNat c3_8) x0_numbers = p3 ∧ st.df = [] ∧ 5 ≤ st.nx ∧ st.tm 6 = .sl (cellsL eI x0_numbers) (List.length x0_numbers) false ∧ st.tm 7 = .lit (.int .i64 (List.length x0_numbers : Int)) ∧ st.tm 3 = .lit (.int .i64 c3_3) ∧ st.tm 8 = .lit (.int .i64 c3_8) ∧ K3 (f3 p3 c3_8 c3_3)) := ⟨_, rfl⟩
 refine loopK mixed (by kernel_rfl) I3 (List.length x0_numbers) (by rw [hI3]; refine ⟨x0_numbers, 0, 0, rfl, Int.le_refl _, rfl, rfl, (show 5 ≤ 5 by omega), ?_, ?_, ?_, ?_, h⟩ <;> first | (simp only [ua, nm, seval] <;> rfl) | rfl) ?_
 rintro m ⟨tm, H, nx3, df⟩ hinv
 rw [hI3] at hinv
 obtain ⟨p3, c3_8, c3_3, rfl, hi3, hp3, hdf, hn3, e5, e6, e7, e8, h⟩ := hinv
 simp only at hdf hn3 e5 e6 e7 e8
 have n9 := base_ne0 (m := 5) (b := nx3) (by omega)
 subst hdf hf3
 cases p3 with
 | nil =>
  have d10 : (decide (c3_8 < (List.length x0_numbers : Int))) = false := not_lt_of_drop hi3 hp3
  simp only [g_sum_Of_l0, hs, reduceCtorEq] at h
  replace h := kG3 _ h
  try dsimp only at h
  try simp only [hs] at h
  try simp only [vz, tyf, g4, n9, e5, e6, e7, e8, d10, nm, seval]
  refine opd_ret (x := (.lit (.int .i64 c3_3))) (by first | (simp only [Tryz.results103, resV, resL, resV1, tgt_ptr, tgt_tp, uw, cr, tyf, g4, n9, d10, nm, seval] <;> rfl) | rfl) ?_
  obtain rfl := kF _ h
  refine rr_tree ?_ ?_
  ·simp only [tre, tytre, Bool.and_self]
  ·first | (simp only [outV, uw, showV_ref, cr, tyf, nrm, tynrm, g4, n9, e5, e6, e7, e8, d10, nm, seval] <;> rfl) | rfl
 | cons e3 p3 =>
  have d11 : (decide (c3_8 < (List.length x0_numbers : Int))) = true := lt_of_drop hi3 hp3
  have o13 := getI_of_drop hi3 hp3
  have w12 := wrap_next hi3 hp3 g4
  simp only [g_sum_Of_l0, hs, reduceCtorEq] at h
  simp only [vz, tyf, g4, n9, e5, e6, e7, e8, d11, (ix23 o13), w12, nm, seval]
  exact ⟨List.length p3, Nat.lt_succ_self _, by rw [hI3]; refine ⟨p3, c3_8 + 1, IntKind.i64.wrap (c3_3 + e3), rfl, Int.le_trans hi3 (Int.le_add_one (Int.le_refl _)), drop_next hi3 hp3, rfl, (show 5 ≤ nx3 + 10 by omega), e5, e6, ?_, ?_, h⟩ <;> first | (simp only [ua, n9, e5, e6, e7, e8, d11, w12, nm, seval] <;> rfl) | rfl⟩
end Go.V
end
