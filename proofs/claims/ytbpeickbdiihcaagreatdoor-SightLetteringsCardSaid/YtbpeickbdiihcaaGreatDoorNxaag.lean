/- Part of the proof of statements of YtbpeickbdiihcaaGreatDoor: a logic of values by content, the lifted functions, and what follows. -/
import Derived.Test.YtbpeickbdiihcaaGreatDoorNbc
import Derived.Test.YtbpeickbdiihcaaGreatDoorNbe
import Derived.Test.YtbpeickbdiihcaaGreatDoorNbj
import Derived.Test.YtbpeickbdiihcaaGreatDoorNxaac
import Derived.Test.YtbpeickbdiihcaaGreatDoorNxaad
import Derived.Test.YtbpeickbdiihcaaGreatDoorNxaae
import Derived.Test.YtbpeickbdiihcaaGreatDoorNxaaf
set_option linter.unusedVariables false
set_option linter.unusedSimpArgs false
set_option linter.unusedSectionVars false
set_option linter.constructorNameAsVariable false
set_option linter.defProp false
set_option maxRecDepth 4000
set_option maxHeartbeats 4000000
section
namespace Go.V
open Go Go.Proofs
def g_ref01_Same_l0 (x1_b : List Int) : List Int → Int → Option (LOut (Bool) (Unit))
 | [], c0_5 => some (.go ())
 | e0 :: p0, c0_5 => Option.bind (getI x1_b c0_5) (fun x1 => cond (e0 != x1) (some (.ret false)) (g_ref01_Same_l0 x1_b p0 (c0_5 + 1)))
def g_ref01_Same (x0_a : List Int) (x1_b : List Int) : Option (Bool) := cond ((List.length x0_a : Int) != (List.length x1_b : Int)) (some false) (cond (lenOk x0_a) (lbind (g_ref01_Same_l0 x1_b x0_a 0) (fun r3 => some r3) (fun c2 => some true) (fun _ _ => none)) none)
theorem g_ref01_Same_ok (x0_a : List Int) (x1_b : List Int) (R : Bool) (h : g_ref01_Same x0_a x1_b = some R) : VPure Tryz.prog G0 34 [.sl (cellsL eI x0_a) (List.length x0_a) false, .sl (cellsL eI x1_b) (List.length x1_b) false] (.tree (.lit (.bool R))) := by
 refine VPure.runR mixed Tryz.call34 Tryz.func34 rfl (by simp [Tryz.ntmps34]; kernel_rfl) ?_
 obtain ⟨KF, h, kF, kN⟩ := fun_intro h
 simp only [g_ref01_Same] at h
 cases d4 : ((List.length x0_a : Int) != (List.length x1_b : Int))
 ·simp only [d4, hs, reduceCtorEq] at h
  cases g6 : (lenOk x0_a)
  ·simp only [g6, hs, reduceCtorEq] at h
   exact absurd h kN
  simp only [g6, hs, reduceCtorEq] at h
  simp only [vz, tyf, d4, g6, nm, seval]
  obtain ⟨K5, h, kR5, kG5, kB5, kN5⟩ := lbind_intro h kN
  obtain ⟨f5, hf5, h⟩ := call2 h
  obtain ⟨I5, hI5⟩ : ∃ I : Nat → St → Prop, I = (fun m st => ∃ (p5 : List Int) (c5_5 : Int), m = List.length p5 ∧ 0 ≤ c5_5 ∧ List.drop (Int.toNat c5_5) x0_a = p5 ∧ st.df = [] ∧ 7 ≤ st.nx ∧ st.tm 0 = .sl (cellsL eI x0_a) (List.length x0_a) false ∧ st.tm 1 = .sl (cellsL eI x1_b) (List.length x1_b) false ∧ st.tm 5 = .lit (.int .i64 c5_5) ∧ K5 (f5 p5 c5_5)) := ⟨_, rfl⟩
  refine loopK mixed (by kernel_rfl) I5 (List.length x0_a) (by rw [hI5]; refine ⟨x0_a, 0, rfl, Int.le_refl _, rfl, rfl, (show 7 ≤ 7 by omega), ?_, ?_, ?_, h⟩ <;> first | (simp only [ua, d4, nm, seval] <;> rfl) | rfl) ?_
  rintro m ⟨tm, H, nx5, df⟩ hinv
  rw [hI5] at hinv
  obtain ⟨p5, c5_5, rfl, hi5, hp5, hdf, hn5, e7, e8, e9, h⟩ := hinv
  simp only at hdf hn5 e7 e8 e9
  have n10 := base_ne0 (m := 7) (b := nx5) (by omega)
  subst hdf hf5
  cases p5 with
  | nil =>
   have d11 : (decide (c5_5 < (List.length x0_a : Int))) = false := not_lt_of_drop hi5 hp5
   simp only [g_ref01_Same_l0, hs, reduceCtorEq] at h
   replace h := kG5 _ h
   try dsimp only at h
   try simp only [hs] at h
   simp only [vz, tyf, d4, g6, n10, e7, e8, e9, d11, nm, seval]
   obtain rfl := kF _ h
   exact opd_bool Tryz.results34 (by first | rfl | (simp only [upd_apply, e7, e8, e9, seval] <;> rfl))
  | cons e5 p5 =>
   have d12 : (decide (c5_5 < (List.length x0_a : Int))) = true := lt_of_drop hi5 hp5
   have o14 := getI_of_drop hi5 hp5
   have w13 := wrap_next hi5 hp5 g6
   simp only [g_ref01_Same_l0, hs, reduceCtorEq] at h
   simp only [vz, tyf, d4, g6, n10, e7, e8, e9, d12, (ix57 o14), w13, nm, seval]
   refine cwp_drwQF (fun tm => tm 0 = .sl (cellsL eI x0_a) (List.length x0_a) false ∧ tm 1 = .sl (cellsL eI x1_b) (List.length x1_b) false ∧ tm 5 = .lit (.int .i64 c5_5) ∧ True) (by refine ⟨e7, e8, e9, trivial⟩ <;> first | (simp only [ua, d4, n10, e7, e8, e9, d12, w13, nm, seval] <;> rfl) | rfl) ?_
   rintro tm ⟨e15, e16, e17, _⟩
   cases o19 : (getI x1_b c5_5) with
   | none =>
    simp only [o19, hs, reduceCtorEq] at h
    exact absurd h kN5
   | some x18 =>
    simp only [o19, hs, reduceCtorEq] at h
    cases d20 : (e5 != x18)
    ·simp only [d20, hs, reduceCtorEq] at h
     simp only [vz, tyf, d4, g6, n10, d12, (ix57 o14), w13, e15, e16, e17, (ix57 o19), d20, nm, seval]
     exact ⟨List.length p5, Nat.lt_succ_self _, by rw [hI5]; refine ⟨p5, c5_5 + 1, rfl, Int.le_trans hi5 (Int.le_add_one (Int.le_refl _)), drop_next hi5 hp5, rfl, (show 7 ≤ nx5 + 16 by omega), e15, e16, ?_, h⟩ <;> first | (simp only [ua, d4, n10, d12, w13, e15, e16, e17, d20, nm, seval] <;> rfl) | rfl⟩
    simp only [d20, hs, reduceCtorEq] at h
    simp only [vz, tyf, d4, g6, n10, d12, (ix57 o14), w13, e15, e16, e17, (ix57 o19), d20, nm, seval]
    replace h := kR5 _ h
    try dsimp only at h
    obtain rfl := kF _ h
    exact opd_bool Tryz.results34 (by first | rfl | (simp only [upd_apply, e15, e16, e17, seval] <;> rfl))
 simp only [d4, hs, reduceCtorEq] at h
 simp only [vz, tyf, d4, nm, seval]
 obtain rfl := kF _ h
 exact opd_bool Tryz.results34 (by first | rfl | (simp only [upd_apply, seval] <;> rfl))
end Go.V
end
section
namespace Go.V
open Go
def powI (s : GSightStreet) (i j : Int) : Int := (s.Eye.Low + i) * (s.Light.Low + j)
theorem pow_ok {s : GSightStreet} {i j : Int} (h1 : 0 ≤ s.Eye.Low + i) (h2 : s.Eye.Low + i ≤ 40) (h3 : 0 ≤ s.Light.Low + j) (h4 : s.Light.Low + j ≤ 100) : PW (powI s i j) := mulR h1 h2 h3 h4
theorem pow_wrap {s : GSightStreet} {i j : Int} (h1 : 0 ≤ s.Eye.Low + i) (h2 : s.Eye.Low + i ≤ 40) (h3 : 0 ≤ s.Light.Low + j) (h4 : s.Light.Low + j ≤ 100) : IntKind.i64.wrap (IntKind.i64.wrap (s.Eye.Low + i) * IntKind.i64.wrap (s.Light.Low + j)) = powI s i j := by
 rw [wrap_eq (n := s.Eye.Low + i) (by omega) (by omega), wrap_eq (n := s.Light.Low + j) (by omega) (by omega)]
 exact pw_wrap (pow_ok h1 h2 h3 h4)
theorem let_l2 (r : Gsightview) (c0 c1 : Int) (l : GSightLetter) (hp : PG r.board.At r.SightPlace) (hl : BL l) (hi : getI r.board.Letters c0 = some l) (e1 : 0 ≤ r.SightStreet.Eye.Low + c1) (e2 : r.SightStreet.Eye.Low + c1 ≤ 40) (e3 : 0 ≤ r.SightStreet.Light.Low) :
  ∀ (k : Nat) (c : Int) (st : Option Bool) (pw : Int), 0 ≤ c → r.SightStreet.Light.Low + c + k ≤ 101 → ∃ pw', g_sight_Letters_l2 r c0 c1 k c (ea st) (eo st) pw = match cmb st (rowT (fun j => legB (powI r.SightStreet c1 j) r.board.At r.SightPlace l) k c) with | some st' => some (.go (ea st', eo st', pw')) | none => some (.brk 0 (false, true, pw'))
 | 0, c, st, pw, h0, hk => ⟨pw, by cases st <;> rfl⟩
 | k + 1, c, st, pw, h0, hk => by
  have hw := pow_ok (s := r.SightStreet) (i := c1) (j := c) e1 e2 (by omega) (by omega)
  have hww := pow_wrap (s := r.SightStreet) (i := c1) (j := c) e1 e2 (by omega) (by omega)
  have hleg := isLegible_eq ⟨r.SightStreet, r.SightPlace, r.board, powI r.SightStreet c1 c⟩ c0 l hp hw hl hi
  simp only [] at hleg
  have ih := fun st => let_l2 r c0 c1 l hp hl hi e1 e2 e3 k (c + 1) st (powI r.SightStreet c1 c) (by omega) (by omega)
  unfold g_sight_Letters_l2
  simp only [hww, hleg, Option.bind_some, rowT]
  cases hT : legB (powI r.SightStreet c1 c) r.board.At r.SightPlace l with
  | true =>
   obtain ⟨pw', ih'⟩ := ih (some true)
   cases st with
   | none => exact ⟨pw', ih'⟩
   | some b => cases b with
    | true => exact ⟨pw', ih'⟩
    | false => exact ⟨_, rfl⟩
  | false =>
   obtain ⟨pw', ih'⟩ := ih (some false)
   cases st with
   | none => exact ⟨pw', ih'⟩
   | some b => cases b with
    | true => exact ⟨_, rfl⟩
    | false => exact ⟨pw', ih'⟩
theorem light_n {s : GSightStreet} (h1 : 0 ≤ s.Light.Low) (h2 : s.Light.Low ≤ s.Light.High) (h3 : s.Light.High ≤ 100) : IntKind.i64.wrap (IntKind.i64.wrap (s.Light.High - s.Light.Low) + 1) = s.Light.High - s.Light.Low + 1 := by
 rw [wrap_eq (n := s.Light.High - s.Light.Low) (by omega) (by omega), wrap_eq (by omega) (by omega)]
theorem eye_n {s : GSightStreet} (h1 : 0 ≤ s.Eye.Low) (h2 : s.Eye.Low ≤ s.Eye.High) (h3 : s.Eye.High ≤ 100) : IntKind.i64.wrap (IntKind.i64.wrap (s.Eye.High - s.Eye.Low) + 1) = s.Eye.High - s.Eye.Low + 1 := by
 rw [wrap_eq (n := s.Eye.High - s.Eye.Low) (by omega) (by omega), wrap_eq (by omega) (by omega)]
theorem bound_small {n : Int} (h : n ≤ 1000) : boundOk n = true := by unfold boundOk; exact decide_eq_true (by omega)
def lightN (s : GSightStreet) : Nat := (s.Light.High - s.Light.Low + 1).toNat
def eyeN (s : GSightStreet) : Nat := (s.Eye.High - s.Eye.Low + 1).toNat
theorem let_l1 (r : Gsightview) (c0 : Int) (l : GSightLetter) (hp : PG r.board.At r.SightPlace) (hl : BL l) (hi : getI r.board.Letters c0 = some l) (e1 : 0 ≤ r.SightStreet.Eye.Low) (e3 : 0 ≤ r.SightStreet.Light.Low) (e4 : r.SightStreet.Light.Low ≤ r.SightStreet.Light.High) (e5 : r.SightStreet.Light.High ≤ 100) :
  ∀ (k : Nat) (c : Int) (st : Option Bool) (pw : Int), 0 ≤ c → r.SightStreet.Eye.Low + c + k ≤ 41 → ∃ pw', g_sight_Letters_l1 r c0 k c (ea st) (eo st) pw = match cmb st (gridT (fun i j => legB (powI r.SightStreet i j) r.board.At r.SightPlace l) (lightN r.SightStreet) k c) with | some st' => some (.go (ea st', eo st', pw')) | none => some (.go (false, true, pw'))
 | 0, c, st, pw, h0, hk => ⟨pw, by cases st <;> rfl⟩
 | k + 1, c, st, pw, h0, hk => by
  have hn := light_n e3 e4 e5
  have hb : boundOk (r.SightStreet.Light.High - r.SightStreet.Light.Low + 1) = true := bound_small (by omega)
  obtain ⟨pw1, h2⟩ := let_l2 r c0 c l hp hl hi (by omega) (by omega) e3 (lightN r.SightStreet) 0 st pw (by omega) (by unfold lightN; omega)
  have hN : Int.toNat (r.SightStreet.Light.High - r.SightStreet.Light.Low + 1 - 0) = lightN r.SightStreet := by unfold lightN; omega
  unfold g_sight_Letters_l1
  simp only [hn, hb, cond_true, hN, h2, gridT, cmb_append]
  cases cmb st (rowT (fun j => legB (powI r.SightStreet c j) r.board.At r.SightPlace l) (lightN r.SightStreet) 0) with
  | none => exact ⟨pw1, rfl⟩
  | some st' =>
   simp only [lbind_go]
   exact let_l1 r c0 l hp hl hi e1 e3 e4 e5 k (c + 1) st' pw1 (by omega) (by omega)
def howI (m M : Bool) : Int := cond m 3 (cond M 2 1)
theorem pow_range {s : GSightStreet} {i j : Int} (e0 : 0 ≤ s.Eye.Low) (l0 : 0 ≤ s.Light.Low) (i0 : 0 ≤ i) (i1 : s.Eye.Low + i ≤ s.Eye.High) (j0 : 0 ≤ j) (j1 : s.Light.Low + j ≤ s.Light.High) : 0 ≤ s.Eye.Low * s.Light.Low ∧ s.Eye.Low * s.Light.Low ≤ powI s i j ∧ powI s i j ≤ s.Eye.High * s.Light.High :=
 ⟨Int.mul_nonneg e0 l0, Int.mul_le_mul (by omega) (by omega) l0 (by omega), Int.mul_le_mul i1 j1 (by omega) (by omega)⟩
theorem pow_low {s : GSightStreet} : powI s 0 0 = s.Eye.Low * s.Light.Low := by unfold powI; rw [Int.add_zero, Int.add_zero]
theorem pow_high {s : GSightStreet} : powI s (s.Eye.High - s.Eye.Low) (s.Light.High - s.Light.Low) = s.Eye.High * s.Light.High := by
 unfold powI
 congr 1 <;> omega
section
variable {s : GSightStreet} {b : GSightBoard} {p : GSightPlace} (h : Good s b p)
include h
theorem grid_leg {l : GSightLetter} (hl : BL l) : wordT (cmb none (gridT (fun i j => legB (powI s i j) b.At p l) (lightN s) (eyeN s) 0)) = howI (legB (s.Eye.Low * s.Light.Low) b.At p l) (legB (s.Eye.High * s.Light.High) b.At p l) := by
 have hp := (goods h).1
 have h1 := h.el; have h2 := h.em; have h3 := h.eh; have h4 := h.ll; have h5 := h.lm; have h6 := h.lh
 refine word_grid ?_ ?_ ?_ ?_
 ·exact (mem_grid _ _).2 ⟨0, 0, by omega, by unfold eyeN; omega, by omega, by unfold lightN; omega, by rw [pow_low]⟩
 ·exact (mem_grid _ _).2 ⟨s.Eye.High - s.Eye.Low, s.Light.High - s.Light.Low, by omega, by unfold eyeN; omega, by omega, by unfold lightN; omega, by rw [pow_high]⟩
 ·intro hm x hx
  obtain ⟨i, j, i0, i1, j0, j1, rfl⟩ := (mem_grid _ _).1 hx
  unfold eyeN at i1; unfold lightN at j1
  have := pow_range (s := s) (i := i) (j := j) (by omega) (by omega) i0 (by omega) j0 (by omega)
  exact leg_mono hl hp this.1 this.2.1 hm
 ·intro hM x hx
  obtain ⟨i, j, i0, i1, j0, j1, rfl⟩ := (mem_grid _ _).1 hx
  unfold eyeN at i1; unfold lightN at j1
  have := pow_range (s := s) (i := i) (j := j) (by omega) (by omega) i0 (by omega) j0 (by omega)
  rw [Bool.eq_false_iff]
  intro ht
  rw [leg_mono hl hp (Int.le_trans this.1 this.2.1) this.2.2 ht] at hM
  cases hM
theorem grid_melt {l : GSightLetter} (hl : BL l) : wordT (cmb none (gridT (fun i j => !apartB (powI s i j) b.At p l) (lightN s) (eyeN s) 0)) = howI (!apartB (s.Eye.High * s.Light.High) b.At p l) (!apartB (s.Eye.Low * s.Light.Low) b.At p l) := by
 have hp := (goods h).1
 have h1 := h.el; have h2 := h.em; have h3 := h.eh; have h4 := h.ll; have h5 := h.lm; have h6 := h.lh
 refine word_grid ?_ ?_ ?_ ?_
 ·exact (mem_grid _ _).2 ⟨s.Eye.High - s.Eye.Low, s.Light.High - s.Light.Low, by omega, by unfold eyeN; omega, by omega, by unfold lightN; omega, by rw [pow_high]⟩
 ·exact (mem_grid _ _).2 ⟨0, 0, by omega, by unfold eyeN; omega, by omega, by unfold lightN; omega, by rw [pow_low]⟩
 ·intro hm x hx
  obtain ⟨i, j, i0, i1, j0, j1, rfl⟩ := (mem_grid _ _).1 hx
  unfold eyeN at i1; unfold lightN at j1
  have := pow_range (s := s) (i := i) (j := j) (by omega) (by omega) i0 (by omega) j0 (by omega)
  cases ht : apartB (powI s i j) b.At p l with
  | false => rfl
  | true => rw [apart_mono hl hp this.2.2 ht] at hm; cases hm
 ·intro hM x hx
  obtain ⟨i, j, i0, i1, j0, j1, rfl⟩ := (mem_grid _ _).1 hx
  unfold eyeN at i1; unfold lightN at j1
  have := pow_range (s := s) (i := i) (j := j) (by omega) (by omega) i0 (by omega) j0 (by omega)
  have hl' : apartB (s.Eye.Low * s.Light.Low) b.At p l = true := by simpa using hM
  rw [apart_mono hl hp this.2.1 hl']; rfl
def legW (s : GSightStreet) (b : GSightBoard) (p : GSightPlace) (l : GSightLetter) : Int := howI (legB (s.Eye.Low * s.Light.Low) b.At p l) (legB (s.Eye.High * s.Light.High) b.At p l)
def meltW (s : GSightStreet) (b : GSightBoard) (p : GSightPlace) (l : GSightLetter) : Int := howI (!apartB (s.Eye.High * s.Light.High) b.At p l) (!apartB (s.Eye.Low * s.Light.Low) b.At p l)
theorem let_l0 (w : Int) : ∀ (ls : List GSightLetter) (c : Int) (acc : List Int), 0 ≤ c → b.Letters.drop c.toNat = ls → acc.length + ls.length ≤ 100 → g_sight_Letters_l0 ⟨s, p, b, w⟩ ls c acc = some (.go (acc ++ ls.map (legW s b p)))
 | [], c, acc, _, _, _ => by simp [g_sight_Letters_l0]
 | e :: ls, c, acc, h0, hd, hlen => by
  obtain ⟨hp, hl, hk, w1, w2⟩ := goods h
  have h1 := h.el; have h2 := h.em; have h3 := h.eh; have h4 := h.ll; have h5 := h.lm; have h6 := h.lh
  simp only [List.length_cons] at hlen
  have hi := getI_of_drop h0 hd
  have hle := hl e (getI_mem hi)
  have hn := eye_n (s := s) (by omega) h2 (by omega)
  have hb : boundOk (s.Eye.High - s.Eye.Low + 1) = true := bound_small (by omega)
  have hN : Int.toNat (s.Eye.High - s.Eye.Low + 1 - 0) = eyeN s := by unfold eyeN; omega
  obtain ⟨pw', hx⟩ := let_l1 ⟨s, p, b, w⟩ c e hp hle hi (show 0 ≤ s.Eye.Low by omega) (show 0 ≤ s.Light.Low by omega) h5 h6 (eyeN s) 0 none w (by omega) (show s.Eye.Low + 0 + eyeN s ≤ 41 by unfold eyeN; omega)
  simp only [ea, eo] at hx
  have ih := let_l0 w ls (c + 1)
  have hgl := grid_leg h hle
  unfold g_sight_Letters_l0
  have room : ∀ v : Int, roomOk 8 (acc ++ [v]).length = true := fun v => room_small 8 (by simp; omega) (by omega)
  have ih' : ∀ v : Int, g_sight_Letters_l0 ⟨s, p, b, w⟩ ls (c + 1) (acc ++ [v]) = some (.go (acc ++ [v] ++ ls.map (legW s b p))) := fun v => ih (acc ++ [v]) (by omega) (drop_next h0 hd) (by simp; omega)
  simp only [hn, hb, cond_true, hN, hx, room, ih', List.map_cons]
  have hlw : legW s b p e = wordT (cmb none (gridT (fun i j => legB (powI s i j) b.At p e) (lightN s) (eyeN s) 0)) := hgl.symm
  rw [hlw]
  cases cmb none (gridT (fun i j => legB (powI s i j) b.At p e) (lightN s) (eyeN s) 0) with
  | none => simp [lbind_go, wordT]
  | some st => cases st with
   | none => simp [lbind_go, wordT]
   | some t => cases t <;> simp [lbind_go, wordT]
theorem melt_l2 (w c0 c1 : Int) (l : GSightLetter) (hl : BL l) (hi : getI b.Letters c0 = some l) (e1 : 0 ≤ s.Eye.Low + c1) (e2 : s.Eye.Low + c1 ≤ 40) :
  ∀ (k : Nat) (c : Int) (st : Option Bool) (pw : Int), 0 ≤ c → s.Light.Low + c + k ≤ 101 → ∃ pw', g_sight_Melts_l2 ⟨s, p, b, w⟩ c0 c1 k c (ea st) (eo st) pw = match cmb st (rowT (fun j => !apartB (powI s c1 j) b.At p l) k c) with | some st' => some (.go (ea st', eo st', pw')) | none => some (.brk 0 (false, true, pw'))
 | 0, c, st, pw, h0, hk => ⟨pw, by cases st <;> rfl⟩
 | k + 1, c, st, pw, h0, hk => by
  have hp := (goods h).1
  have h4 := h.ll
  have hw := pow_ok (s := s) (i := c1) (j := c) e1 e2 (by omega) (by omega)
  have hww := pow_wrap (s := s) (i := c1) (j := c) e1 e2 (by omega) (by omega)
  have hleg := isApart_eq ⟨s, p, b, powI s c1 c⟩ c0 l hp hw hl hi
  simp only [] at hleg
  have ih := fun st => melt_l2 w c0 c1 l hl hi e1 e2 k (c + 1) st (powI s c1 c) (by omega) (by omega)
  unfold g_sight_Melts_l2
  simp only [hww, hleg, Option.bind_some, rowT]
  cases hT : apartB (powI s c1 c) b.At p l with
  | false =>
   obtain ⟨pw', ih'⟩ := ih (some true)
   cases st with
   | none => exact ⟨pw', ih'⟩
   | some b => cases b with
    | true => exact ⟨pw', ih'⟩
    | false => exact ⟨_, rfl⟩
  | true =>
   obtain ⟨pw', ih'⟩ := ih (some false)
   cases st with
   | none => exact ⟨pw', ih'⟩
   | some b => cases b with
    | true => exact ⟨_, rfl⟩
    | false => exact ⟨pw', ih'⟩
theorem melt_l1 (w c0 : Int) (l : GSightLetter) (hl : BL l) (hi : getI b.Letters c0 = some l) :
  ∀ (k : Nat) (c : Int) (st : Option Bool) (pw : Int), 0 ≤ c → s.Eye.Low + c + k ≤ 41 → ∃ pw', g_sight_Melts_l1 ⟨s, p, b, w⟩ c0 k c (ea st) (eo st) pw = match cmb st (gridT (fun i j => !apartB (powI s i j) b.At p l) (lightN s) k c) with | some st' => some (.go (ea st', eo st', pw')) | none => some (.go (false, true, pw'))
 | 0, c, st, pw, h0, hk => ⟨pw, by cases st <;> rfl⟩
 | k + 1, c, st, pw, h0, hk => by
  have h1 := h.el; have h2 := h.em; have h3 := h.eh; have h4 := h.ll; have h5 := h.lm; have h6 := h.lh
  have hn := light_n (s := s) (by omega) h5 h6
  have hb : boundOk (s.Light.High - s.Light.Low + 1) = true := bound_small (by omega)
  obtain ⟨pw1, h2⟩ := melt_l2 h w c0 c l hl hi (by omega) (by omega) (lightN s) 0 st pw (by omega) (by unfold lightN; omega)
  have hN : Int.toNat (s.Light.High - s.Light.Low + 1 - 0) = lightN s := by unfold lightN; omega
  unfold g_sight_Melts_l1
  simp only [hn, hb, cond_true, hN, h2, gridT, cmb_append]
  cases cmb st (rowT (fun j => !apartB (powI s c j) b.At p l) (lightN s) 0) with
  | none => exact ⟨pw1, rfl⟩
  | some st' =>
   simp only [lbind_go]
   exact melt_l1 w c0 l hl hi k (c + 1) st' pw1 (by omega) (by omega)
theorem melt_l0 (w : Int) : ∀ (k : Nat) (c : Int) (acc : List Int), 0 ≤ c → c + k ≤ b.Letters.length → acc.length + k ≤ 100 → g_sight_Melts_l0 ⟨s, p, b, w⟩ k c acc = some (.go (acc ++ ((b.Letters.drop c.toNat).take k).map (meltW s b p)))
 | 0, c, acc, _, _, _ => by simp [g_sight_Melts_l0]
 | k + 1, c, acc, h0, hk0, hlen => by
  obtain ⟨hp, hl, hk, w1, w2⟩ := goods h
  have h1 := h.el; have h2 := h.em; have h3 := h.eh; have h4 := h.ll; have h5 := h.lm; have h6 := h.lh
  obtain ⟨e, hi, hm⟩ := getI_some (xs := b.Letters) (i := c) h0 (by omega)
  have hd := (getI_drop hi).2.2
  have hcc : c.toNat + 1 = (c + 1).toNat := by omega
  rw [hcc] at hd
  have hle := hl e hm
  have hn := eye_n (s := s) (by omega) h2 (by omega)
  have hb : boundOk (s.Eye.High - s.Eye.Low + 1) = true := bound_small (by omega)
  have hN : Int.toNat (s.Eye.High - s.Eye.Low + 1 - 0) = eyeN s := by unfold eyeN; omega
  obtain ⟨pw', hx⟩ := melt_l1 h w c e hle hi (eyeN s) 0 none w (by omega) (show s.Eye.Low + 0 + eyeN s ≤ 41 by unfold eyeN; omega)
  simp only [ea, eo] at hx
  have ih := melt_l0 w k (c + 1)
  have hgl := grid_melt h hle
  unfold g_sight_Melts_l0
  have room : ∀ v : Int, roomOk 8 (acc ++ [v]).length = true := fun v => room_small 8 (by simp; omega) (by omega)
  have ih' : ∀ v : Int, g_sight_Melts_l0 ⟨s, p, b, w⟩ k (c + 1) (acc ++ [v]) = some (.go (acc ++ [v] ++ ((b.Letters.drop (c + 1).toNat).take k).map (meltW s b p))) := fun v => ih (acc ++ [v]) (by omega) (by omega) (by simp; omega)
  rw [hd, List.take_succ_cons]
  simp only [hn, hb, cond_true, hN, hx, room, ih', List.map_cons]
  have hlw : meltW s b p e = wordT (cmb none (gridT (fun i j => !apartB (powI s i j) b.At p e) (lightN s) (eyeN s) 0)) := hgl.symm
  rw [hlw]
  cases cmb none (gridT (fun i j => !apartB (powI s i j) b.At p e) (lightN s) (eyeN s) 0) with
  | none => simp [lbind_go, wordT]
  | some st => cases st with
   | none => simp [lbind_go, wordT]
   | some t => cases t <;> simp [lbind_go, wordT]
theorem hid_l0 (w : Int) : ∀ (ks : List GSightBlock) (i : Int) (acc : List Int), (∀ k ∈ ks, BK k) → acc.length + ks.length ≤ 100 → g_sight_Hidden_l0 ⟨s, p, b, w⟩ ks i acc = some (.go (acc ++ hids (behB b.At p) ks i))
 | [], _, acc, _, _ => by simp [g_sight_Hidden_l0, hids]
 | e :: ks, i, acc, hk, hl => by
  have hp := (goods h).1
  have ih := hid_l0 w ks
  simp only [List.length_cons] at hl
  have hb := isBehind_eq ⟨s, p, b, w⟩ e hp (hk e (List.mem_cons_self ..))
  simp only [] at hb
  simp only [g_sight_Hidden_l0, hb, Option.bind_some, hids]
  have ht : ∀ k ∈ ks, BK k := fun k hk' => hk k (List.mem_cons_of_mem _ hk')
  cases behB b.At p e with
  | true =>
   rw [room_small 8 (by simp; omega) (by omega)]
   simp only [cond_true]
   rw [ih (i + 1) (acc ++ [i]) ht (by simp; omega)]
   simp
  | false => exact ih (i + 1) acc ht (by omega)
end
def legsL (s : GSightStreet) (b : GSightBoard) (p : GSightPlace) : List Int := b.Letters.map (legW s b p)
def meltsL (s : GSightStreet) (b : GSightBoard) (p : GSightPlace) : List Int := (b.Letters.take (b.Letters.length - 1)).map (meltW s b p)
def hidL (s : GSightStreet) (b : GSightBoard) (p : GSightPlace) : List Int := hids (behB b.At p) s.Blocks 0
theorem LMH_eq (s : GSightStreet) (n : Int) (p : GSightPlace) (h : FineS s) : (∃ b, getI s.Boards n = some b ∧ b ∈ s.Boards ∧ Good s b p ∧ streetB s = true ∧ numB s n = true ∧ placeB s p = true ∧ g_sight_Letters s n p = some (legsL s b p, 0) ∧ g_sight_Melts s n p = some (meltsL s b p, 0) ∧ g_sight_Hidden s n p = some (hidL s b p, 0)) ∨ ((streetB s && (numB s n && placeB s p)) = false ∧ g_sight_Letters s n p = some ([], 2) ∧ g_sight_Melts s n p = some ([], 2) ∧ g_sight_Hidden s n p = some ([], 2)) := by
 simp only [g_sight_Letters, g_sight_Melts, g_sight_Hidden, isView_eq s n p h, Option.bind_some]
 cases h1 : streetB s with
 | false => exact .inr ⟨rfl, rfl, rfl, rfl⟩
 | true =>
  cases h2 : numB s n with
  | false => exact .inr ⟨rfl, rfl, rfl, rfl⟩
  | true =>
   cases h3 : placeB s p with
   | false => exact .inr ⟨rfl, rfl, rfl, rfl⟩
   | true =>
    obtain ⟨b, b1, b2, b3⟩ := good_of h1 h2 h3
    obtain ⟨hp, hl, hk, w1, w2⟩ := goods b3
    have n1 := b3.n1; have n5 := b3.n5; have nb := b3.nb
    have l1 : lenOk s.Blocks = true := lenOk_of (by omega)
    have l2 : lenOk b.Letters = true := lenOk_of (by omega)
    have e1 : IntKind.i64.wrap ((b.Letters.length : Int) - 1) = (b.Letters.length : Int) - 1 := wrap_eq (by omega) (by omega)
    have e2 : boundOk ((b.Letters.length : Int) - 1) = true := bound_small (by omega)
    have e3 : Int.toNat ((b.Letters.length : Int) - 1 - 0) = b.Letters.length - 1 := by omega
    refine .inl ⟨b, b1, b2, b3, rfl, rfl, rfl, ?_, ?_, ?_⟩
    ·simp only [Bool.and_self, cond_true, b1, Option.bind_some, g_sight_atWorst, l2, let_l0 b3 _ b.Letters 0 [] (by omega) rfl (by simp; omega), lbind_go, List.nil_append, legsL]
    ·simp only [Bool.and_self, cond_true, b1, Option.bind_some, g_sight_atWorst, e1, e2, e3, melt_l0 b3 _ (b.Letters.length - 1) 0 [] (by omega) (by omega) (by simp; omega), lbind_go, List.nil_append, meltsL]
     rfl
    ·simp only [Bool.and_self, cond_true, b1, Option.bind_some, g_sight_atWorst, l1, hid_l0 b3 _ s.Blocks 0 [] hk (by simp; omega), lbind_go, List.nil_append, hidL]
theorem refLetters_l0_eq (s : GSightStreet) (b : GSightBoard) (p : GSightPlace) (h : Good s b p) : ∀ (ls : List GSightLetter) (c : Int) (acc : List Int), (∀ l ∈ ls, BL l) → acc.length + ls.length ≤ 100 → g_ref02_Letters_l0 s b p ls c acc = some (.go (acc ++ ls.map (legW s b p)))
 | [], c, acc, _, _ => by simp [g_ref02_Letters_l0]
 | e :: ls, c, acc, hl, hlen => by
  obtain ⟨hp, _, hk, w1, w2⟩ := goods h
  simp only [List.length_cons] at hlen
  have he := hl e (List.mem_cons_self ..)
  have z : ∀ w, (faultK w b.At p e == 0) = legB w b.At p e := by
   intro w
   have := faultK_zero (w := w) (a := b.At) (p := p) (l := e)
   simp only [bne] at this
   exact Bool.not_inj this
  have hw : g_ref02_word (legB (s.Eye.Low * s.Light.Low) b.At p e) (legB (s.Eye.High * s.Light.High) b.At p e) = some (legW s b p e) := by
   unfold g_ref02_word legW howI
   cases legB (s.Eye.Low * s.Light.Low) b.At p e <;> cases legB (s.Eye.High * s.Light.High) b.At p e <;> rfl
  simp only [g_ref02_Letters_l0, pw_wrap w1, pw_wrap w2, refFault_eq e b.At p _ hp w1 he, refFault_eq e b.At p _ hp w2 he, Option.bind_some, z, hw, room_small 8 (n := (acc ++ [legW s b p e]).length) (by simp; omega) (by omega), cond_true]
  rw [refLetters_l0_eq s b p h ls (c + 1) _ (fun l hl' => hl l (List.mem_cons_of_mem _ hl')) (by simp; omega)]
  simp
theorem refPairs_l0_eq (s : GSightStreet) (b : GSightBoard) (p : GSightPlace) (h : Good s b p) : ∀ (ls : List GSightLetter) (c : Int) (fuel : Nat) (acc : List Int), 0 ≤ c → c ≤ b.Letters.length → b.Letters.drop c.toNat = ls → ls.length < fuel → acc.length + ls.length ≤ 100 →
  ∃ c', g_ref02_Pairs_l0 s b p fuel acc c = some (.go (acc ++ (ls.take (ls.length - 1)).map (meltW s b p), c'))
 | [], c, fuel + 1, acc, h0, hc, hd, hf, hlen => by
  have n5 := h.n5
  have hx : b.Letters.length ≤ c.toNat := List.drop_eq_nil_iff.1 hd
  have w1 : IntKind.i64.wrap (c + 1) = c + 1 := wrap_eq (by omega) (by omega)
  have : decide (c + 1 < (b.Letters.length : Int)) = false := decide_eq_false (by omega)
  exact ⟨c, by simp [g_ref02_Pairs_l0, w1, this]⟩
 | [e], c, fuel + 1, acc, h0, hc, hd, hf, hlen => by
  have n5 := h.n5
  have hx := drop_next h0 hd
  have w1 : IntKind.i64.wrap (c + 1) = c + 1 := wrap_eq (by omega) (by omega)
  have : decide (c + 1 < (b.Letters.length : Int)) = false := not_lt_of_drop (by omega) hx
  exact ⟨c, by simp [g_ref02_Pairs_l0, w1, this]⟩
 | e :: e' :: ls, c, fuel + 1, acc, h0, hc, hd, hf, hlen => by
  obtain ⟨hp, hl, hk, pw1, pw2⟩ := goods h
  have n5 := h.n5
  have hx := drop_next h0 hd
  have w1 : IntKind.i64.wrap (c + 1) = c + 1 := wrap_eq (by omega) (by omega)
  have ht : decide (c + 1 < (b.Letters.length : Int)) = true := lt_of_drop (by omega) hx
  have hlt : c + 1 < (b.Letters.length : Int) := of_decide_eq_true ht
  have hi := getI_of_drop h0 hd
  have he := hl e (getI_mem hi)
  have hw : g_ref02_word (!apartB (s.Eye.High * s.Light.High) b.At p e) (!apartB (s.Eye.Low * s.Light.Low) b.At p e) = some (meltW s b p e) := by
   unfold g_ref02_word meltW howI
   cases apartB (s.Eye.Low * s.Light.Low) b.At p e <;> cases apartB (s.Eye.High * s.Light.High) b.At p e <;> rfl
  simp only [List.length_cons] at hlen hf
  obtain ⟨c', ih⟩ := refPairs_l0_eq s b p h (e' :: ls) (c + 1) fuel (acc ++ [meltW s b p e]) (by omega) (by omega) hx (by simp only [List.length_cons]; omega) (by simp only [List.length_append, List.length_cons, List.length_nil]; omega)
  refine ⟨c', ?_⟩
  unfold g_ref02_Pairs_l0
  simp only [w1, ht, cond_true, hi, Option.bind_some, pw_wrap pw1, pw_wrap pw2, refMelts_eq e b.At p _ hp pw1 he, refMelts_eq e b.At p _ hp pw2 he, hw, room_small 8 (n := (acc ++ [meltW s b p e]).length) (by simp; omega) (by omega), ih]
  simp
theorem same_l0_eq : ∀ (p q : List Int) (c : Int), 0 ≤ c → q.drop c.toNat = p → g_ref01_Same_l0 q p c = some (.go ())
 | [], _, _, _, _ => rfl
 | e :: p, q, c, h0, hd => by
  simp only [g_ref01_Same_l0, getI_of_drop h0 hd, Option.bind_some, bne_self_eq_false, cond_false]
  exact same_l0_eq p q (c + 1) (by omega) (drop_next h0 hd)
theorem same_self (q : List Int) (h : lenOk q = true) : g_ref01_Same q q = some true := by
 simp only [g_ref01_Same, bne_self_eq_false, cond_false, h, cond_true, same_l0_eq q q 0 (by omega) rfl, lbind_go]
theorem samew_l0_eq : ∀ (p q : List Int) (c : Int), 0 ≤ c → q.drop c.toNat = p → g_ref02_SameWords_l0 q p c = some (.go ())
 | [], _, _, _, _ => rfl
 | e :: p, q, c, h0, hd => by
  simp only [g_ref02_SameWords_l0, getI_of_drop h0 hd, Option.bind_some, bne_self_eq_false, cond_false]
  exact samew_l0_eq p q (c + 1) (by omega) (drop_next h0 hd)
theorem samew_self (q : List Int) (h : lenOk q = true) : g_ref02_SameWords q q = some true := by
 simp only [g_ref02_SameWords, bne_self_eq_false, cond_false, h, cond_true, samew_l0_eq q q 0 (by omega) rfl, lbind_go]
end Go.V
end
