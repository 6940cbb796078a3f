/- Part of a proof: a logic of values by content, lifted functions, what follows. -/
import Derived.Test.YtbpeickbdiihcaaGreatDoorZbl
import Derived.Test.YtbpeickbdiihcaaGreatDoorZbo
import Derived.Test.YtbpeickbdiihcaaGreatDoorZay
import Derived.Test.YtbpeickbdiihcaaGreatDoorZbf
import Derived.Test.YtbpeickbdiihcaaGreatDoorProg
import Derived.Test.YtbpeickbdiihcaaGreatDoorZbi
import Derived.Test.YtbpeickbdiihcaaGreatDoorZbj
set_option linter.all false
set_option maxRecDepth 4000
set_option maxHeartbeats 4000000
section
namespace Go.V
open Go
def powI (s : GSightStreet) (i j : Int) : Int := (s.Eye.Low + i) * (s.Light.Low + j)
theorem pow_ok {s : GSightStreet} {i j : Int} (h1 : 0 ≤ s.Eye.Low + i) (h2 : s.Eye.Low + i ≤ 40) (h3 : 0 ≤ s.Light.Low + j) (h4 : s.Light.Low + j ≤ 100) : PW (powI s i j) := mulR h1 h2 h3 h4
theorem pow_wrap {s : GSightStreet} {i j : Int} (h1 : 0 ≤ s.Eye.Low + i) (h2 : s.Eye.Low + i ≤ 40) (h3 : 0 ≤ s.Light.Low + j) (h4 : s.Light.Low + j ≤ 100) : IntKind.i64.wrap (IntKind.i64.wrap (s.Eye.Low + i) * IntKind.i64.wrap (s.Light.Low + j)) = powI s i j := by
 rw [wrap_eq (n := s.Eye.Low + i) (by omega) (by omega), wrap_eq (n := s.Light.Low + j) (by omega) (by omega)]
 exact pw_wrap (pow_ok h1 h2 h3 h4)
theorem let_l2 (r : Gsightview) (c0 c1 : Int) (l : GSightLetter) (hp : PG r.board.At r.SightPlace) (hl : BL l) (hi : getI r.board.Letters c0 = some l) (e1 : 0 ≤ r.SightStreet.Eye.Low + c1) (e2 : r.SightStreet.Eye.Low + c1 ≤ 40) (e3 : 0 ≤ r.SightStreet.Light.Low) :
  ∀ (k : Nat) (c : Int) (st : Option Bool) (pw : Int), 0 ≤ c → r.SightStreet.Light.Low + c + k ≤ 101 → ∃ pw', g_sight_Letters_l2 r c0 c1 k c (ea st) (eo st) pw = match cmb st (rowT (fun j => legB (powI r.SightStreet c1 j) r.board.At r.SightPlace l) k c) with | some st' => some (.go (ea st', eo st', pw')) | none => some (.brk 0 (false, true, pw'))
 | 0, c, st, pw, h0, hk => ⟨pw, by cases st <;> rfl⟩
 | k + 1, c, st, pw, h0, hk => by
  have hw := pow_ok (s := r.SightStreet) (i := c1) (j := c) e1 e2 (by omega) (by omega)
  have hww := pow_wrap (s := r.SightStreet) (i := c1) (j := c) e1 e2 (by omega) (by omega)
  have hleg := isLegible_eq ⟨r.SightStreet, r.SightPlace, r.board, powI r.SightStreet c1 c⟩ c0 l hp hw hl hi
  simp only [] at hleg
  have ih := fun st => let_l2 r c0 c1 l hp hl hi e1 e2 e3 k (c + 1) st (powI r.SightStreet c1 c) (by omega) (by omega)
  unfold g_sight_Letters_l2
  simp only [hww, hleg, Option.bind_some, rowT]
  cases hT : legB (powI r.SightStreet c1 c) r.board.At r.SightPlace l with
  | true =>
   obtain ⟨pw', ih'⟩ := ih (some true)
   cases st with
   | none => exact ⟨pw', ih'⟩
   | some b => cases b with
    | true => exact ⟨pw', ih'⟩
    | false => exact ⟨_, rfl⟩
  | false =>
   obtain ⟨pw', ih'⟩ := ih (some false)
   cases st with
   | none => exact ⟨pw', ih'⟩
   | some b => cases b with
    | true => exact ⟨_, rfl⟩
    | false => exact ⟨pw', ih'⟩
theorem light_n {s : GSightStreet} (h1 : 0 ≤ s.Light.Low) (h2 : s.Light.Low ≤ s.Light.High) (h3 : s.Light.High ≤ 100) : IntKind.i64.wrap (IntKind.i64.wrap (s.Light.High - s.Light.Low) + 1) = s.Light.High - s.Light.Low + 1 := by
 rw [wrap_eq (n := s.Light.High - s.Light.Low) (by omega) (by omega), wrap_eq (by omega) (by omega)]
theorem eye_n {s : GSightStreet} (h1 : 0 ≤ s.Eye.Low) (h2 : s.Eye.Low ≤ s.Eye.High) (h3 : s.Eye.High ≤ 100) : IntKind.i64.wrap (IntKind.i64.wrap (s.Eye.High - s.Eye.Low) + 1) = s.Eye.High - s.Eye.Low + 1 := by
 rw [wrap_eq (n := s.Eye.High - s.Eye.Low) (by omega) (by omega), wrap_eq (by omega) (by omega)]
theorem bound_small {n : Int} (h : n ≤ 1000) : boundOk n = true := by unfold boundOk; exact decide_eq_true (by omega)
def lightN (s : GSightStreet) : Nat := (s.Light.High - s.Light.Low + 1).toNat
def eyeN (s : GSightStreet) : Nat := (s.Eye.High - s.Eye.Low + 1).toNat
theorem let_l1 (r : Gsightview) (c0 : Int) (l : GSightLetter) (hp : PG r.board.At r.SightPlace) (hl : BL l) (hi : getI r.board.Letters c0 = some l) (e1 : 0 ≤ r.SightStreet.Eye.Low) (e3 : 0 ≤ r.SightStreet.Light.Low) (e4 : r.SightStreet.Light.Low ≤ r.SightStreet.Light.High) (e5 : r.SightStreet.Light.High ≤ 100) :
  ∀ (k : Nat) (c : Int) (st : Option Bool) (pw : Int), 0 ≤ c → r.SightStreet.Eye.Low + c + k ≤ 41 → ∃ pw', g_sight_Letters_l1 r c0 k c (ea st) (eo st) pw = match cmb st (gridT (fun i j => legB (powI r.SightStreet i j) r.board.At r.SightPlace l) (lightN r.SightStreet) k c) with | some st' => some (.go (ea st', eo st', pw')) | none => some (.go (false, true, pw'))
 | 0, c, st, pw, h0, hk => ⟨pw, by cases st <;> rfl⟩
 | k + 1, c, st, pw, h0, hk => by
  have hn := light_n e3 e4 e5
  have hb : boundOk (r.SightStreet.Light.High - r.SightStreet.Light.Low + 1) = true := bound_small (by omega)
  obtain ⟨pw1, h2⟩ := let_l2 r c0 c l hp hl hi (by omega) (by omega) e3 (lightN r.SightStreet) 0 st pw (by omega) (by unfold lightN; omega)
  have hN : Int.toNat (r.SightStreet.Light.High - r.SightStreet.Light.Low + 1 - 0) = lightN r.SightStreet := by unfold lightN; omega
  unfold g_sight_Letters_l1
  simp only [hn, hb, cond_true, hN, h2, gridT, cmb_append]
  cases cmb st (rowT (fun j => legB (powI r.SightStreet c j) r.board.At r.SightPlace l) (lightN r.SightStreet) 0) with
  | none => exact ⟨pw1, rfl⟩
  | some st' =>
   simp only [lbind_go]
   exact let_l1 r c0 l hp hl hi e1 e3 e4 e5 k (c + 1) st' pw1 (by omega) (by omega)
def howI (m M : Bool) : Int := cond m 3 (cond M 2 1)
theorem pow_range {s : GSightStreet} {i j : Int} (e0 : 0 ≤ s.Eye.Low) (l0 : 0 ≤ s.Light.Low) (i0 : 0 ≤ i) (i1 : s.Eye.Low + i ≤ s.Eye.High) (j0 : 0 ≤ j) (j1 : s.Light.Low + j ≤ s.Light.High) : 0 ≤ s.Eye.Low * s.Light.Low ∧ s.Eye.Low * s.Light.Low ≤ powI s i j ∧ powI s i j ≤ s.Eye.High * s.Light.High :=
 ⟨Int.mul_nonneg e0 l0, Int.mul_le_mul (by omega) (by omega) l0 (by omega), Int.mul_le_mul i1 j1 (by omega) (by omega)⟩
theorem pow_low {s : GSightStreet} : powI s 0 0 = s.Eye.Low * s.Light.Low := by unfold powI; rw [Int.add_zero, Int.add_zero]
theorem pow_high {s : GSightStreet} : powI s (s.Eye.High - s.Eye.Low) (s.Light.High - s.Light.Low) = s.Eye.High * s.Light.High := by
 unfold powI
 congr 1 <;> omega
section
variable {s : GSightStreet} {b : GSightBoard} {p : GSightPlace} (h : Good s b p)
include h
theorem grid_leg {l : GSightLetter} (hl : BL l) : wordT (cmb none (gridT (fun i j => legB (powI s i j) b.At p l) (lightN s) (eyeN s) 0)) = howI (legB (s.Eye.Low * s.Light.Low) b.At p l) (legB (s.Eye.High * s.Light.High) b.At p l) := by
 have hp := (goods h).1
 have h1 := h.el; have h2 := h.em; have h3 := h.eh; have h4 := h.ll; have h5 := h.lm; have h6 := h.lh
 refine word_grid ?_ ?_ ?_ ?_
 ·exact (mem_grid _ _).2 ⟨0, 0, by omega, by unfold eyeN; omega, by omega, by unfold lightN; omega, by rw [pow_low]⟩
 ·exact (mem_grid _ _).2 ⟨s.Eye.High - s.Eye.Low, s.Light.High - s.Light.Low, by omega, by unfold eyeN; omega, by omega, by unfold lightN; omega, by rw [pow_high]⟩
 ·intro hm x hx
  obtain ⟨i, j, i0, i1, j0, j1, rfl⟩ := (mem_grid _ _).1 hx
  unfold eyeN at i1; unfold lightN at j1
  have := pow_range (s := s) (i := i) (j := j) (by omega) (by omega) i0 (by omega) j0 (by omega)
  exact leg_mono hl hp this.1 this.2.1 hm
 ·intro hM x hx
  obtain ⟨i, j, i0, i1, j0, j1, rfl⟩ := (mem_grid _ _).1 hx
  unfold eyeN at i1; unfold lightN at j1
  have := pow_range (s := s) (i := i) (j := j) (by omega) (by omega) i0 (by omega) j0 (by omega)
  rw [Bool.eq_false_iff]
  intro ht
  rw [leg_mono hl hp (Int.le_trans this.1 this.2.1) this.2.2 ht] at hM
  cases hM
theorem grid_melt {l : GSightLetter} (hl : BL l) : wordT (cmb none (gridT (fun i j => !apartB (powI s i j) b.At p l) (lightN s) (eyeN s) 0)) = howI (!apartB (s.Eye.High * s.Light.High) b.At p l) (!apartB (s.Eye.Low * s.Light.Low) b.At p l) := by
 have hp := (goods h).1
 have h1 := h.el; have h2 := h.em; have h3 := h.eh; have h4 := h.ll; have h5 := h.lm; have h6 := h.lh
 refine word_grid ?_ ?_ ?_ ?_
 ·exact (mem_grid _ _).2 ⟨s.Eye.High - s.Eye.Low, s.Light.High - s.Light.Low, by omega, by unfold eyeN; omega, by omega, by unfold lightN; omega, by rw [pow_high]⟩
 ·exact (mem_grid _ _).2 ⟨0, 0, by omega, by unfold eyeN; omega, by omega, by unfold lightN; omega, by rw [pow_low]⟩
 ·intro hm x hx
  obtain ⟨i, j, i0, i1, j0, j1, rfl⟩ := (mem_grid _ _).1 hx
  unfold eyeN at i1; unfold lightN at j1
  have := pow_range (s := s) (i := i) (j := j) (by omega) (by omega) i0 (by omega) j0 (by omega)
  cases ht : apartB (powI s i j) b.At p l with
  | false => rfl
  | true => rw [apart_mono hl hp this.2.2 ht] at hm; cases hm
 ·intro hM x hx
  obtain ⟨i, j, i0, i1, j0, j1, rfl⟩ := (mem_grid _ _).1 hx
  unfold eyeN at i1; unfold lightN at j1
  have := pow_range (s := s) (i := i) (j := j) (by omega) (by omega) i0 (by omega) j0 (by omega)
  have hl' : apartB (s.Eye.Low * s.Light.Low) b.At p l = true := by simpa using hM
  rw [apart_mono hl hp this.2.1 hl']; rfl
def legW (s : GSightStreet) (b : GSightBoard) (p : GSightPlace) (l : GSightLetter) : Int := howI (legB (s.Eye.Low * s.Light.Low) b.At p l) (legB (s.Eye.High * s.Light.High) b.At p l)
def meltW (s : GSightStreet) (b : GSightBoard) (p : GSightPlace) (l : GSightLetter) : Int := howI (!apartB (s.Eye.High * s.Light.High) b.At p l) (!apartB (s.Eye.Low * s.Light.Low) b.At p l)
theorem let_l0 (w : Int) : ∀ (ls : List GSightLetter) (c : Int) (acc : List Int), 0 ≤ c → b.Letters.drop c.toNat = ls → acc.length + ls.length ≤ 100 → g_sight_Letters_l0 ⟨s, p, b, w⟩ ls c acc = some (.go (acc ++ ls.map (legW s b p)))
 | [], c, acc, _, _, _ => by simp [g_sight_Letters_l0]
 | e :: ls, c, acc, h0, hd, hlen => by
  obtain ⟨hp, hl, hk, w1, w2⟩ := goods h
  have h1 := h.el; have h2 := h.em; have h3 := h.eh; have h4 := h.ll; have h5 := h.lm; have h6 := h.lh
  simp only [List.length_cons] at hlen
  have hi := getI_of_drop h0 hd
  have hle := hl e (getI_mem hi)
  have hn := eye_n (s := s) (by omega) h2 (by omega)
  have hb : boundOk (s.Eye.High - s.Eye.Low + 1) = true := bound_small (by omega)
  have hN : Int.toNat (s.Eye.High - s.Eye.Low + 1 - 0) = eyeN s := by unfold eyeN; omega
  obtain ⟨pw', hx⟩ := let_l1 ⟨s, p, b, w⟩ c e hp hle hi (show 0 ≤ s.Eye.Low by omega) (show 0 ≤ s.Light.Low by omega) h5 h6 (eyeN s) 0 none w (by omega) (show s.Eye.Low + 0 + eyeN s ≤ 41 by unfold eyeN; omega)
  simp only [ea, eo] at hx
  have ih := let_l0 w ls (c + 1)
  have hgl := grid_leg h hle
  unfold g_sight_Letters_l0
  have room : ∀ v : Int, roomOk 8 (acc ++ [v]).length = true := fun v => room_small 8 (by simp; omega) (by omega)
  have ih' : ∀ v : Int, g_sight_Letters_l0 ⟨s, p, b, w⟩ ls (c + 1) (acc ++ [v]) = some (.go (acc ++ [v] ++ ls.map (legW s b p))) := fun v => ih (acc ++ [v]) (by omega) (drop_next h0 hd) (by simp; omega)
  simp only [hn, hb, cond_true, hN, hx, room, ih', List.map_cons]
  have hlw : legW s b p e = wordT (cmb none (gridT (fun i j => legB (powI s i j) b.At p e) (lightN s) (eyeN s) 0)) := hgl.symm
  rw [hlw]
  cases cmb none (gridT (fun i j => legB (powI s i j) b.At p e) (lightN s) (eyeN s) 0) with
  | none => simp [lbind_go, wordT]
  | some st => cases st with
   | none => simp [lbind_go, wordT]
   | some t => cases t <;> simp [lbind_go, wordT]
theorem melt_l2 (w c0 c1 : Int) (l : GSightLetter) (hl : BL l) (hi : getI b.Letters c0 = some l) (e1 : 0 ≤ s.Eye.Low + c1) (e2 : s.Eye.Low + c1 ≤ 40) :
  ∀ (k : Nat) (c : Int) (st : Option Bool) (pw : Int), 0 ≤ c → s.Light.Low + c + k ≤ 101 → ∃ pw', g_sight_Melts_l2 ⟨s, p, b, w⟩ c0 c1 k c (ea st) (eo st) pw = match cmb st (rowT (fun j => !apartB (powI s c1 j) b.At p l) k c) with | some st' => some (.go (ea st', eo st', pw')) | none => some (.brk 0 (false, true, pw'))
 | 0, c, st, pw, h0, hk => ⟨pw, by cases st <;> rfl⟩
 | k + 1, c, st, pw, h0, hk => by
  have hp := (goods h).1
  have h4 := h.ll
  have hw := pow_ok (s := s) (i := c1) (j := c) e1 e2 (by omega) (by omega)
  have hww := pow_wrap (s := s) (i := c1) (j := c) e1 e2 (by omega) (by omega)
  have hleg := isApart_eq ⟨s, p, b, powI s c1 c⟩ c0 l hp hw hl hi
  simp only [] at hleg
  have ih := fun st => melt_l2 w c0 c1 l hl hi e1 e2 k (c + 1) st (powI s c1 c) (by omega) (by omega)
  unfold g_sight_Melts_l2
  simp only [hww, hleg, Option.bind_some, rowT]
  cases hT : apartB (powI s c1 c) b.At p l with
  | false =>
   obtain ⟨pw', ih'⟩ := ih (some true)
   cases st with
   | none => exact ⟨pw', ih'⟩
   | some b => cases b with
    | true => exact ⟨pw', ih'⟩
    | false => exact ⟨_, rfl⟩
  | true =>
   obtain ⟨pw', ih'⟩ := ih (some false)
   cases st with
   | none => exact ⟨pw', ih'⟩
   | some b => cases b with
    | true => exact ⟨_, rfl⟩
    | false => exact ⟨pw', ih'⟩
theorem melt_l1 (w c0 : Int) (l : GSightLetter) (hl : BL l) (hi : getI b.Letters c0 = some l) :
  ∀ (k : Nat) (c : Int) (st : Option Bool) (pw : Int), 0 ≤ c → s.Eye.Low + c + k ≤ 41 → ∃ pw', g_sight_Melts_l1 ⟨s, p, b, w⟩ c0 k c (ea st) (eo st) pw = match cmb st (gridT (fun i j => !apartB (powI s i j) b.At p l) (lightN s) k c) with | some st' => some (.go (ea st', eo st', pw')) | none => some (.go (false, true, pw'))
 | 0, c, st, pw, h0, hk => ⟨pw, by cases st <;> rfl⟩
 | k + 1, c, st, pw, h0, hk => by
  have h1 := h.el; have h2 := h.em; have h3 := h.eh; have h4 := h.ll; have h5 := h.lm; have h6 := h.lh
  have hn := light_n (s := s) (by omega) h5 h6
  have hb : boundOk (s.Light.High - s.Light.Low + 1) = true := bound_small (by omega)
  obtain ⟨pw1, h2⟩ := melt_l2 h w c0 c l hl hi (by omega) (by omega) (lightN s) 0 st pw (by omega) (by unfold lightN; omega)
  have hN : Int.toNat (s.Light.High - s.Light.Low + 1 - 0) = lightN s := by unfold lightN; omega
  unfold g_sight_Melts_l1
  simp only [hn, hb, cond_true, hN, h2, gridT, cmb_append]
  cases cmb st (rowT (fun j => !apartB (powI s c j) b.At p l) (lightN s) 0) with
  | none => exact ⟨pw1, rfl⟩
  | some st' =>
   simp only [lbind_go]
   exact melt_l1 w c0 l hl hi k (c + 1) st' pw1 (by omega) (by omega)
theorem melt_l0 (w : Int) : ∀ (k : Nat) (c : Int) (acc : List Int), 0 ≤ c → c + k ≤ b.Letters.length → acc.length + k ≤ 100 → g_sight_Melts_l0 ⟨s, p, b, w⟩ k c acc = some (.go (acc ++ ((b.Letters.drop c.toNat).take k).map (meltW s b p)))
 | 0, c, acc, _, _, _ => by simp [g_sight_Melts_l0]
 | k + 1, c, acc, h0, hk0, hlen => by
  obtain ⟨hp, hl, hk, w1, w2⟩ := goods h
  have h1 := h.el; have h2 := h.em; have h3 := h.eh; have h4 := h.ll; have h5 := h.lm; have h6 := h.lh
  obtain ⟨e, hi, hm⟩ := getI_some (xs := b.Letters) (i := c) h0 (by omega)
  have hd := (getI_drop hi).2.2
  have hcc : c.toNat + 1 = (c + 1).toNat := by omega
  rw [hcc] at hd
  have hle := hl e hm
  have hn := eye_n (s := s) (by omega) h2 (by omega)
  have hb : boundOk (s.Eye.High - s.Eye.Low + 1) = true := bound_small (by omega)
  have hN : Int.toNat (s.Eye.High - s.Eye.Low + 1 - 0) = eyeN s := by unfold eyeN; omega
  obtain ⟨pw', hx⟩ := melt_l1 h w c e hle hi (eyeN s) 0 none w (by omega) (show s.Eye.Low + 0 + eyeN s ≤ 41 by unfold eyeN; omega)
  simp only [ea, eo] at hx
  have ih := melt_l0 w k (c + 1)
  have hgl := grid_melt h hle
  unfold g_sight_Melts_l0
  have room : ∀ v : Int, roomOk 8 (acc ++ [v]).length = true := fun v => room_small 8 (by simp; omega) (by omega)
  have ih' : ∀ v : Int, g_sight_Melts_l0 ⟨s, p, b, w⟩ k (c + 1) (acc ++ [v]) = some (.go (acc ++ [v] ++ ((b.Letters.drop (c + 1).toNat).take k).map (meltW s b p))) := fun v => ih (acc ++ [v]) (by omega) (by omega) (by simp; omega)
  rw [hd, List.take_succ_cons]
  simp only [hn, hb, cond_true, hN, hx, room, ih', List.map_cons]
  have hlw : meltW s b p e = wordT (cmb none (gridT (fun i j => !apartB (powI s i j) b.At p e) (lightN s) (eyeN s) 0)) := hgl.symm
  rw [hlw]
  cases cmb none (gridT (fun i j => !apartB (powI s i j) b.At p e) (lightN s) (eyeN s) 0) with
  | none => simp [lbind_go, wordT]
  | some st => cases st with
   | none => simp [lbind_go, wordT]
   | some t => cases t <;> simp [lbind_go, wordT]
theorem hid_l0 (w : Int) : ∀ (ks : List GSightBlock) (i : Int) (acc : List Int), (∀ k ∈ ks, BK k) → acc.length + ks.length ≤ 100 → g_sight_Hidden_l0 ⟨s, p, b, w⟩ ks i acc = some (.go (acc ++ hids (behB b.At p) ks i))
 | [], _, acc, _, _ => by simp [g_sight_Hidden_l0, hids]
 | e :: ks, i, acc, hk, hl => by
  have hp := (goods h).1
  have ih := hid_l0 w ks
  simp only [List.length_cons] at hl
  have hb := isBehind_eq ⟨s, p, b, w⟩ e hp (hk e (List.mem_cons_self ..))
  simp only [] at hb
  simp only [g_sight_Hidden_l0, hb, Option.bind_some, hids]
  have ht : ∀ k ∈ ks, BK k := fun k hk' => hk k (List.mem_cons_of_mem _ hk')
  cases behB b.At p e with
  | true =>
   rw [room_small 8 (by simp; omega) (by omega)]
   simp only [cond_true]
   rw [ih (i + 1) (acc ++ [i]) ht (by simp; omega)]
   simp
  | false => exact ih (i + 1) acc ht (by omega)
end
def legsL (s : GSightStreet) (b : GSightBoard) (p : GSightPlace) : List Int := b.Letters.map (legW s b p)
def meltsL (s : GSightStreet) (b : GSightBoard) (p : GSightPlace) : List Int := (b.Letters.take (b.Letters.length - 1)).map (meltW s b p)
def hidL (s : GSightStreet) (b : GSightBoard) (p : GSightPlace) : List Int := hids (behB b.At p) s.Blocks 0
theorem LMH_eq (s : GSightStreet) (n : Int) (p : GSightPlace) (h : FineS s) : (∃ b, getI s.Boards n = some b ∧ b ∈ s.Boards ∧ Good s b p ∧ streetB s = true ∧ numB s n = true ∧ placeB s p = true ∧ g_sight_Letters s n p = some (legsL s b p, 0) ∧ g_sight_Melts s n p = some (meltsL s b p, 0) ∧ g_sight_Hidden s n p = some (hidL s b p, 0)) ∨ ((streetB s && (numB s n && placeB s p)) = false ∧ g_sight_Letters s n p = some ([], 2) ∧ g_sight_Melts s n p = some ([], 2) ∧ g_sight_Hidden s n p = some ([], 2)) := by
 simp only [g_sight_Letters, g_sight_Melts, g_sight_Hidden, isView_eq s n p h, Option.bind_some]
 cases h1 : streetB s with
 | false => exact .inr ⟨rfl, rfl, rfl, rfl⟩
 | true =>
  cases h2 : numB s n with
  | false => exact .inr ⟨rfl, rfl, rfl, rfl⟩
  | true =>
   cases h3 : placeB s p with
   | false => exact .inr ⟨rfl, rfl, rfl, rfl⟩
   | true =>
    obtain ⟨b, b1, b2, b3⟩ := good_of h1 h2 h3
    obtain ⟨hp, hl, hk, w1, w2⟩ := goods b3
    have n1 := b3.n1; have n5 := b3.n5; have nb := b3.nb
    have l1 : lenOk s.Blocks = true := lenOk_of (by omega)
    have l2 : lenOk b.Letters = true := lenOk_of (by omega)
    have e1 : IntKind.i64.wrap ((b.Letters.length : Int) - 1) = (b.Letters.length : Int) - 1 := wrap_eq (by omega) (by omega)
    have e2 : boundOk ((b.Letters.length : Int) - 1) = true := bound_small (by omega)
    have e3 : Int.toNat ((b.Letters.length : Int) - 1 - 0) = b.Letters.length - 1 := by omega
    refine .inl ⟨b, b1, b2, b3, rfl, rfl, rfl, ?_, ?_, ?_⟩
    ·simp only [Bool.and_self, cond_true, b1, Option.bind_some, g_sight_atWorst, l2, let_l0 b3 _ b.Letters 0 [] (by omega) rfl (by simp; omega), lbind_go, List.nil_append, legsL]
    ·simp only [Bool.and_self, cond_true, b1, Option.bind_some, g_sight_atWorst, e1, e2, e3, melt_l0 b3 _ (b.Letters.length - 1) 0 [] (by omega) (by omega) (by simp; omega), lbind_go, List.nil_append, meltsL]
     rfl
    ·simp only [Bool.and_self, cond_true, b1, Option.bind_some, g_sight_atWorst, l1, hid_l0 b3 _ s.Blocks 0 [] hk (by simp; omega), lbind_go, List.nil_append, hidL]
theorem same_l0_eq : ∀ (p q : List Int) (c : Int), 0 ≤ c → q.drop c.toNat = p → g_ref01_Same_l0 q p c = some (.go ())
 | [], _, _, _, _ => rfl
 | e :: p, q, c, h0, hd => by
  simp only [g_ref01_Same_l0, getI_of_drop h0 hd, Option.bind_some, bne_self_eq_false, cond_false]
  exact same_l0_eq p q (c + 1) (by omega) (drop_next h0 hd)
theorem same_self (q : List Int) (h : lenOk q = true) : g_ref01_Same q q = some true := by
 simp only [g_ref01_Same, bne_self_eq_false, cond_false, h, cond_true, same_l0_eq q q 0 (by omega) rfl, lbind_go]
end Go.V
end
section
namespace Go.V
open Go Go.Proofs
theorem hmix : Tryz.prog.follows .mixedOrders = true := by kernel_rfl
def kS : VV := (Go.V.VV.agg [(Go.V.VV.lit (Go.Value.int Go.IntKind.i64 (Int.ofNat 20))), (Go.V.VV.lit (Go.Value.int Go.IntKind.i64 (Int.ofNat 6))), (Go.V.VV.lit (Go.Value.int Go.IntKind.i64 (Int.ofNat 4))), (Go.V.VV.lit (Go.Value.int Go.IntKind.i64 (Int.ofNat 6))), (Go.V.VV.lit (Go.Value.int Go.IntKind.i64 (Int.ofNat 50))), (Go.V.VV.lit (Go.Value.int Go.IntKind.i64 (Int.ofNat 100))), (Go.V.VV.sl [(Go.V.VV.lit (Go.Value.int Go.IntKind.i64 (Int.ofNat 10))), (Go.V.VV.sl [(Go.V.VV.lit (Go.Value.int Go.IntKind.i64 (Int.ofNat 6))), (Go.V.VV.lit (Go.Value.int Go.IntKind.i64 (Int.ofNat 4))), (Go.V.VV.lit (Go.Value.int Go.IntKind.i64 (Int.ofNat 1))), (Go.V.VV.lit (Go.Value.int Go.IntKind.i64 (Int.ofNat 1))), (Go.V.VV.lit (Go.Value.int Go.IntKind.i64 (Int.ofNat 8))), (Go.V.VV.lit (Go.Value.int Go.IntKind.i64 (Int.ofNat 5))), (Go.V.VV.lit (Go.Value.int Go.IntKind.i64 (Int.ofNat 2))), (Go.V.VV.lit (Go.Value.int Go.IntKind.i64 (Int.ofNat 0)))] 2 Bool.false), (Go.V.VV.lit (Go.Value.int Go.IntKind.i64 (Int.ofNat 0))), (Go.V.VV.sl [(Go.V.VV.lit (Go.Value.int Go.IntKind.i64 (Int.ofNat 10))), (Go.V.VV.lit (Go.Value.int Go.IntKind.i64 (Int.ofNat 10))), (Go.V.VV.lit (Go.Value.int Go.IntKind.i64 (Int.ofNat 2))), (Go.V.VV.lit (Go.Value.int Go.IntKind.i64 (Int.ofNat 0)))] 1 Bool.false)] 2 Bool.false), (Go.V.VV.sl [(Go.V.VV.lit (Go.Value.int Go.IntKind.i64 (Int.ofNat 12))), (Go.V.VV.lit (Go.Value.int Go.IntKind.i64 (Int.ofNat 13))), (Go.V.VV.lit (Go.Value.int Go.IntKind.i64 (Int.ofNat 2))), (Go.V.VV.lit (Go.Value.int Go.IntKind.i64 (Int.ofNat 3))), (Go.V.VV.lit (Go.Value.bool Bool.true)), (Go.V.VV.lit (Go.Value.int Go.IntKind.i64 (Int.ofNat 5))), (Go.V.VV.lit (Go.Value.int Go.IntKind.i64 (Int.ofNat 6))), (Go.V.VV.lit (Go.Value.int Go.IntKind.i64 (Int.ofNat 4))), (Go.V.VV.lit (Go.Value.int Go.IntKind.i64 (Int.ofNat 5))), (Go.V.VV.lit (Go.Value.bool Bool.false))] 2 Bool.false)])
def kT : VV := (Go.V.VV.agg [(Go.V.VV.lit (Go.Value.int Go.IntKind.i64 (Int.ofNat 4))), (Go.V.VV.lit (Go.Value.int Go.IntKind.i64 (Int.ofNat 2))), (Go.V.VV.lit (Go.Value.int Go.IntKind.i64 (Int.ofNat 1))), (Go.V.VV.lit (Go.Value.int Go.IntKind.i64 (Int.ofNat 1))), (Go.V.VV.lit (Go.Value.int Go.IntKind.i64 (Int.ofNat 100))), (Go.V.VV.lit (Go.Value.int Go.IntKind.i64 (Int.ofNat 100))), (Go.V.VV.sl [(Go.V.VV.lit (Go.Value.int Go.IntKind.i64 (Int.ofNat 0))), (Go.V.VV.sl [(Go.V.VV.lit (Go.Value.int Go.IntKind.i64 (Int.ofNat 3))), (Go.V.VV.lit (Go.Value.int Go.IntKind.i64 (Int.ofNat 2))), (Go.V.VV.lit (Go.Value.int Go.IntKind.i64 (Int.ofNat 1))), (Go.V.VV.lit (Go.Value.int Go.IntKind.i64 (Int.ofNat 0)))] 1 Bool.false)] 1 Bool.false), (Go.V.VV.lit (Go.Value.slice Option.none 0 0))])
def kAt46 : VV := (Go.V.VV.agg [(Go.V.VV.lit (Go.Value.int Go.IntKind.i64 (Int.ofNat 4))), (Go.V.VV.lit (Go.Value.int Go.IntKind.i64 (Int.ofNat 6)))])
def kAt41 : VV := (Go.V.VV.agg [(Go.V.VV.lit (Go.Value.int Go.IntKind.i64 (Int.ofNat 4))), (Go.V.VV.lit (Go.Value.int Go.IntKind.i64 (Int.ofNat 1)))])
def kAt201 : VV := (Go.V.VV.agg [(Go.V.VV.lit (Go.Value.int Go.IntKind.i64 (Int.ofNat 20))), (Go.V.VV.lit (Go.Value.int Go.IntKind.i64 (Int.ofNat 1)))])
def kAt166 : VV := (Go.V.VV.agg [(Go.V.VV.lit (Go.Value.int Go.IntKind.i64 (Int.ofNat 16))), (Go.V.VV.lit (Go.Value.int Go.IntKind.i64 (Int.ofNat 6)))])
def kAt106 : VV := (Go.V.VV.agg [(Go.V.VV.lit (Go.Value.int Go.IntKind.i64 (Int.ofNat 10))), (Go.V.VV.lit (Go.Value.int Go.IntKind.i64 (Int.ofNat 6)))])
def kSeen : VV := (Go.V.VV.tup [(Go.V.VV.lit (Go.Value.int Go.IntKind.i64 (Int.ofNat 2))), (Go.V.VV.lit (Go.Value.int Go.IntKind.i64 (Int.ofNat 0)))])
def kWhy : VV := (Go.V.VV.tup [(Go.V.VV.agg [(Go.V.VV.lit (Go.Value.int Go.IntKind.i64 (Int.ofNat 3))), (Go.V.VV.lit (Go.Value.int Go.IntKind.i64 (Int.ofNat 0)))]), (Go.V.VV.lit (Go.Value.int Go.IntKind.i64 (Int.ofNat 0)))])
def kLetters : VV := (Go.V.VV.tup [(Go.V.VV.sl [(Go.V.VV.lit (Go.Value.int Go.IntKind.i64 (Int.ofNat 2))), (Go.V.VV.lit (Go.Value.int Go.IntKind.i64 (Int.ofNat 2)))] 2 Bool.false), (Go.V.VV.lit (Go.Value.int Go.IntKind.i64 (Int.ofNat 0)))])
def kMelts : VV := (Go.V.VV.tup [(Go.V.VV.sl [(Go.V.VV.lit (Go.Value.int Go.IntKind.i64 (Int.ofNat 3)))] 1 Bool.false), (Go.V.VV.lit (Go.Value.int Go.IntKind.i64 (Int.ofNat 0)))])
def kHidden : VV := (Go.V.VV.tup [(Go.V.VV.sl [(Go.V.VV.lit (Go.Value.int Go.IntKind.i64 (Int.ofNat 0)))] 1 Bool.false), (Go.V.VV.lit (Go.Value.int Go.IntKind.i64 (Int.ofNat 0)))])
def kMany : VV := (Go.V.VV.tup [(Go.V.VV.lit (Go.Value.int Go.IntKind.i64 (Int.ofNat 3))), (Go.V.VV.lit (Go.Value.int Go.IntKind.i64 (Int.ofNat 3))), (Go.V.VV.lit (Go.Value.int Go.IntKind.i64 (Int.ofNat 0)))])
def kFarthest : VV := (Go.V.VV.tup [(Go.V.VV.agg [(Go.V.VV.lit (Go.Value.int Go.IntKind.i64 (Int.ofNat 0))), (Go.V.VV.lit (Go.Value.int Go.IntKind.i64 (Int.ofNat 2)))]), (Go.V.VV.lit (Go.Value.int Go.IntKind.i64 (Int.ofNat 0)))])
def kLeast : VV := (Go.V.VV.tup [(Go.V.VV.lit (Go.Value.int Go.IntKind.i64 (Int.ofNat 5))), (Go.V.VV.lit (Go.Value.int Go.IntKind.i64 (Int.ofNat 0)))])
def kLight : VV := (Go.V.VV.tup [(Go.V.VV.lit (Go.Value.int Go.IntKind.i64 (Int.ofNat 38))), (Go.V.VV.lit (Go.Value.int Go.IntKind.i64 (Int.ofNat 0)))])
def kHang : VV := (Go.V.VV.tup [(Go.V.VV.lit (Go.Value.int Go.IntKind.i64 (Int.ofNat 1))), (Go.V.VV.lit (Go.Value.int Go.IntKind.i64 (Int.ofNat 4))), (Go.V.VV.lit (Go.Value.int Go.IntKind.i64 (Int.ofNat 0)))])
def kRead : VV := (Go.V.VV.tup [(Go.V.VV.agg [(Go.V.VV.lit (Go.Value.int Go.IntKind.i64 (Int.ofNat 1))), (Go.V.VV.lit (Go.Value.int Go.IntKind.i64 (Int.ofNat 1))), (Go.V.VV.lit (Go.Value.int Go.IntKind.i64 (Int.ofNat 1))), (Go.V.VV.lit (Go.Value.int Go.IntKind.i64 (Int.ofNat 1))), (Go.V.VV.lit (Go.Value.int Go.IntKind.i64 (Int.ofNat 1))), (Go.V.VV.lit (Go.Value.int Go.IntKind.i64 (Int.ofNat 1))), (Go.V.VV.sl [(Go.V.VV.lit (Go.Value.int Go.IntKind.i64 (Int.ofNat 0))), (Go.V.VV.sl [(Go.V.VV.lit (Go.Value.int Go.IntKind.i64 (Int.ofNat 1))), (Go.V.VV.lit (Go.Value.int Go.IntKind.i64 (Int.ofNat 1))), (Go.V.VV.lit (Go.Value.int Go.IntKind.i64 (Int.ofNat 1))), (Go.V.VV.lit (Go.Value.int Go.IntKind.i64 (Int.ofNat 0)))] 1 Bool.false)] 1 Bool.false), (Go.V.VV.lit (Go.Value.slice Option.none 0 0))]), (Go.V.VV.lit (Go.Value.int Go.IntKind.i64 (Int.ofNat 0)))])
end Go.V
end
section
namespace Go.V
open Go Go.Proofs
theorem pS : VPure Tryz.prog G0 50 [] (.tree kS) := VPure.closedB hmix 1000 (by kernel_rfl)
theorem pT : VPure Tryz.prog G0 51 [] (.tree kT) := VPure.closedB hmix 1000 (by kernel_rfl)
theorem pAt46 : VPure Tryz.prog G0 49 [.lit (.int .i64 (4)), .lit (.int .i64 (6))] (.tree kAt46) := VPure.closedB hmix 1000 (by kernel_rfl)
theorem pAt41 : VPure Tryz.prog G0 49 [.lit (.int .i64 (4)), .lit (.int .i64 (1))] (.tree kAt41) := VPure.closedB hmix 1000 (by kernel_rfl)
theorem pAt201 : VPure Tryz.prog G0 49 [.lit (.int .i64 (20)), .lit (.int .i64 (1))] (.tree kAt201) := VPure.closedB hmix 1000 (by kernel_rfl)
theorem pAt166 : VPure Tryz.prog G0 49 [.lit (.int .i64 (16)), .lit (.int .i64 (6))] (.tree kAt166) := VPure.closedB hmix 1000 (by kernel_rfl)
theorem pAt106 : VPure Tryz.prog G0 49 [.lit (.int .i64 (10)), .lit (.int .i64 (6))] (.tree kAt106) := VPure.closedB hmix 1000 (by kernel_rfl)
theorem pSeen : VPure Tryz.prog G0 18 [kS, .lit (.int .i64 (0)), kAt46] (.tree kSeen) := VPure.closedB hmix 1000 (by kernel_rfl)
theorem pWhy : VPure Tryz.prog G0 26 [kS, .lit (.int .i64 (0)), kAt41] (.tree kWhy) := VPure.closedB hmix 1000 (by kernel_rfl)
theorem pLetters : VPure Tryz.prog G0 28 [kS, .lit (.int .i64 (0)), kAt46] (.tree kLetters) := VPure.closedB hmix 1000 (by kernel_rfl)
theorem pMelts : VPure Tryz.prog G0 29 [kS, .lit (.int .i64 (0)), kAt201] (.tree kMelts) := VPure.closedB hmix 1000 (by kernel_rfl)
theorem pHidden : VPure Tryz.prog G0 30 [kS, .lit (.int .i64 (0)), kAt166] (.tree kHidden) := VPure.closedB hmix 1000 (by kernel_rfl)
end Go.V
end
section
namespace Go.V
open Go Go.Proofs
theorem pMany : VPure Tryz.prog G0 36 [kT, .lit (.int .i64 (0))] (.tree kMany) := VPure.closedB hmix 1000 (by kernel_rfl)
theorem pFarthest : VPure Tryz.prog G0 37 [kT, .lit (.int .i64 (0))] (.tree kFarthest) := VPure.closedB hmix 1000 (by kernel_rfl)
theorem pLeast : VPure Tryz.prog G0 41 [kS, .lit (.int .i64 (0)), kAt41] (.tree kLeast) := VPure.closedB hmix 1000 (by kernel_rfl)
theorem pLight : VPure Tryz.prog G0 42 [kS, .lit (.int .i64 (0)), kAt106] (.tree kLight) := VPure.closedB hmix 1000 (by kernel_rfl)
end Go.V
end
section
namespace Go.V
open Go Go.Proofs
theorem pHang : VPure Tryz.prog G0 52 [kT, .lit (.int .i64 (0))] (.tree kHang) := VPure.closedB hmix 1000 (by kernel_rfl)
end Go.V
end
section
namespace Go.V
open Go Go.Proofs
theorem pRead : VPure Tryz.prog G0 53 [.lit (.string ⟨⟨[115, 105, 103, 104, 116, 32, 49, 32, 49, 32, 49, 32, 49, 32, 49, 32, 49, 10, 98, 111, 97, 114, 100, 32, 48, 10, 108, 101, 116, 116, 101, 114, 32, 49, 32, 49, 32, 49, 32, 48, 10, 101, 110, 100, 32, 48, 49, 57, 10]⟩⟩)] (.tree kRead) := VPure.closedB hmix 1000 (by kernel_rfl)
end Go.V
end
section
namespace Go.V
open Go Go.Proofs
def kTab : KTab := [
  (50, [], kS),
  (51, [], kT),
  (49, [.lit (.int .i64 (4)), .lit (.int .i64 (6))], kAt46),
  (49, [.lit (.int .i64 (4)), .lit (.int .i64 (1))], kAt41),
  (49, [.lit (.int .i64 (20)), .lit (.int .i64 (1))], kAt201),
  (49, [.lit (.int .i64 (16)), .lit (.int .i64 (6))], kAt166),
  (49, [.lit (.int .i64 (10)), .lit (.int .i64 (6))], kAt106),
  (18, [kS, .lit (.int .i64 (0)), kAt46], kSeen),
  (26, [kS, .lit (.int .i64 (0)), kAt41], kWhy),
  (28, [kS, .lit (.int .i64 (0)), kAt46], kLetters),
  (29, [kS, .lit (.int .i64 (0)), kAt201], kMelts),
  (30, [kS, .lit (.int .i64 (0)), kAt166], kHidden),
  (36, [kT, .lit (.int .i64 (0))], kMany),
  (37, [kT, .lit (.int .i64 (0))], kFarthest),
  (41, [kS, .lit (.int .i64 (0)), kAt41], kLeast),
  (42, [kS, .lit (.int .i64 (0)), kAt106], kLight),
  (52, [kT, .lit (.int .i64 (0))], kHang),
  (53, [.lit (.string ⟨⟨[115, 105, 103, 104, 116, 32, 49, 32, 49, 32, 49, 32, 49, 32, 49, 32, 49, 10, 98, 111, 97, 114, 100, 32, 48, 10, 108, 101, 116, 116, 101, 114, 32, 49, 32, 49, 32, 49, 32, 48, 10, 101, 110, 100, 32, 48, 49, 57, 10]⟩⟩)], kRead)]
theorem kTabOk : KTabOk Tryz.prog G0 kTab := ⟨⟨by kernel_rfl, pS⟩, ⟨⟨by kernel_rfl, pT⟩, ⟨⟨by kernel_rfl, pAt46⟩, ⟨⟨by kernel_rfl, pAt41⟩, ⟨⟨by kernel_rfl, pAt201⟩, ⟨⟨by kernel_rfl, pAt166⟩, ⟨⟨by kernel_rfl, pAt106⟩, ⟨⟨by kernel_rfl, pSeen⟩, ⟨⟨by kernel_rfl, pWhy⟩, ⟨⟨by kernel_rfl, pLetters⟩, ⟨⟨by kernel_rfl, pMelts⟩, ⟨⟨by kernel_rfl, pHidden⟩, ⟨⟨by kernel_rfl, pMany⟩, ⟨⟨by kernel_rfl, pFarthest⟩, ⟨⟨by kernel_rfl, pLeast⟩, ⟨⟨by kernel_rfl, pLight⟩, ⟨⟨by kernel_rfl, pHang⟩, ⟨⟨by kernel_rfl, pRead⟩, trivial⟩⟩⟩⟩⟩⟩⟩⟩⟩⟩⟩⟩⟩⟩⟩⟩⟩⟩
theorem pKnown : VPure Tryz.prog G0 16 [] (.tree (.lit (.bool true))) := VPure.closedT hmix kTabOk 1000 (by kernel_rfl)
#print axioms pKnown
end Go.V
end
section
namespace Go.V
open Go Go.Proofs
def g_law02_known : Option Bool := some true
theorem g_law02_known_ok (R : Bool) (h : g_law02_known = some R) : VPure Tryz.prog G0 16 [] (.tree (.lit (.bool R))) := by
 cases h
 exact pKnown
end Go.V
end
section
namespace Go.V
open Go Go.Proofs
def g_law02_right (x0_s : GSightStreet) (x1_board : Int) (x2_p : GSightPlace) : Option (Bool) := Option.bind (g_law02_short x0_s) (fun r1 => cond (r1) (Option.bind (g_ref02_Street x0_s) (fun r2 => cond (r2) (Option.bind (g_ref02_Board x0_s x1_board) (fun r3 => cond (r3) (Option.bind (g_ref02_Place x0_s x2_p) (fun r4 => some r4)) (some false))) (some false))) (some false))
theorem g_law02_right_ok (x0_s : GSightStreet) (x1_board : Int) (x2_p : GSightPlace) (R : Bool) (h : g_law02_right x0_s x1_board x2_p = some R) : VPure Tryz.prog G0 23 [.agg (cGSightStreet x0_s), .lit (.int .i64 x1_board), .agg (cGSightPlace x2_p)] (.tree (.lit (.bool R))) := by
 refine VPure.runR mixed Tryz.call23 Tryz.func23 rfl (by simp [Tryz.ntmps23]; kernel_rfl) ?_
 obtain ⟨KF, h, kF, kN⟩ := fun_intro h
 simp only [g_law02_right] at h
 cases o6 : (g_law02_short x0_s) with
 | none =>
  simp only [o6, hs, reduceCtorEq] at h
  exact absurd h kN
 | some r5 =>
  simp only [o6, hs, reduceCtorEq] at h
  simp only [vz, tyf, nm, seval]
  refine ktree (args0 := [.agg (cGSightStreet x0_s)]) (by first | (simp only [nrm, tynrm] <;> rfl) | rfl) (by simp only [tre, tytre, Bool.and_self]) (g_law02_short_ok _ _ o6) ?_
  refine fin_cut (fun tm => tm 1 = .lit (.int .i64 x1_board) ∧ tm 3 = .ptr 0 0 ∧ tm 5 = .ptr 1 0 ∧ tm 8 = .lit (.bool r5) ∧ True) (by refine ⟨?_, ?_, ?_, ?_, trivial⟩ <;> first | (simp only [ua, nm, seval] <;> rfl) | rfl) ?_
  rintro tm ⟨e7, e8, e9, e10, _⟩
  cases d11 : (r5)
  ·simp only [d11, hs, reduceCtorEq] at h
   try simp only [vz, tyf, e7, e8, e9, e10, d11, nm, seval]
   obtain rfl := kF _ h
   exact opd_bool Tryz.results23 (by first | rfl | (simp only [upd_apply, seval] <;> rfl))
  simp only [d11, hs, reduceCtorEq] at h
  cases o13 : (g_ref02_Street x0_s) with
  | none =>
   simp only [o13, hs, reduceCtorEq] at h
   exact absurd h kN
  | some r12 =>
   simp only [o13, hs, reduceCtorEq] at h
   simp only [vz, tyf, e7, e8, e9, e10, d11, nm, seval]
   refine ktree (args0 := [.agg (cGSightStreet x0_s)]) (by first | (simp only [nrm, tynrm] <;> rfl) | rfl) (by simp only [tre, tytre, Bool.and_self]) (g_ref02_Street_ok _ _ o13) ?_
   refine fin_cut (fun tm => tm 1 = .lit (.int .i64 x1_board) ∧ tm 3 = .ptr 0 0 ∧ tm 5 = .ptr 1 0 ∧ tm 9 = .lit (.bool true) ∧ tm 11 = .lit (.bool r12) ∧ True) (by refine ⟨e7, e8, e9, ?_, ?_, trivial⟩ <;> first | (simp only [ua, e7, e8, e9, e10, d11, nm, seval] <;> rfl) | rfl) ?_
   rintro tm ⟨e14, e15, e16, e17, e18, _⟩
   cases d19 : (r12)
   ·simp only [d19, hs, reduceCtorEq] at h
    try simp only [vz, tyf, d11, e14, e15, e16, e17, e18, d19, nm, seval]
    obtain rfl := kF _ h
    exact opd_bool Tryz.results23 (by first | rfl | (simp only [upd_apply, seval] <;> rfl))
   simp only [d19, hs, reduceCtorEq] at h
   cases o21 : (g_ref02_Board x0_s x1_board) with
   | none =>
    simp only [o21, hs, reduceCtorEq] at h
    exact absurd h kN
   | some r20 =>
    simp only [o21, hs, reduceCtorEq] at h
    simp only [vz, tyf, d11, e14, e15, e16, e17, e18, d19, nm, seval]
    refine ktree (args0 := [.agg (cGSightStreet x0_s), .lit (.int .i64 x1_board)]) (by first | (simp only [nrm, tynrm] <;> rfl) | rfl) (by simp only [tre, tytre, Bool.and_self]) (g_ref02_Board_ok _ _ _ o21) ?_
    refine fin_cut (fun tm => tm 3 = .ptr 0 0 ∧ tm 5 = .ptr 1 0 ∧ tm 13 = .lit (.bool true) ∧ tm 16 = .lit (.bool r20) ∧ True) (by refine ⟨e15, e16, ?_, ?_, trivial⟩ <;> first | (simp only [ua, d11, e14, e15, e16, e17, e18, d19, nm, seval] <;> rfl) | rfl) ?_
    rintro tm ⟨e22, e23, e24, e25, _⟩
    cases d26 : (r20)
    ·simp only [d26, hs, reduceCtorEq] at h
     try simp only [vz, tyf, d11, d19, e22, e23, e24, e25, d26, nm, seval]
     obtain rfl := kF _ h
     exact opd_bool Tryz.results23 (by first | rfl | (simp only [upd_apply, seval] <;> rfl))
    simp only [d26, hs, reduceCtorEq] at h
    cases o28 : (g_ref02_Place x0_s x2_p) with
    | none =>
     simp only [o28, hs, reduceCtorEq] at h
     exact absurd h kN
    | some r27 =>
     simp only [o28, hs, reduceCtorEq] at h
     simp only [vz, tyf, d11, d19, e22, e23, e24, e25, d26, nm, seval]
     refine ktree (args0 := [.agg (cGSightStreet x0_s), .agg (cGSightPlace x2_p)]) (by first | (simp only [nrm, tynrm] <;> rfl) | rfl) (by simp only [tre, tytre, Bool.and_self]) (g_ref02_Place_ok _ _ _ o28) ?_
     refine fin_cut (fun tm => tm 18 = .lit (.bool true) ∧ tm 21 = .lit (.bool r27) ∧ True) (by refine ⟨?_, ?_, trivial⟩ <;> first | (simp only [ua, d11, d19, e22, e23, e24, e25, d26, nm, seval] <;> rfl) | rfl) ?_
     rintro tm ⟨e29, e30, _⟩
     try simp only [vz, tyf, d11, d19, d26, e29, e30, nm, seval]
     obtain rfl := kF _ h
     exact opd_bool Tryz.results23 (by first | rfl | (simp only [upd_apply, seval] <;> rfl))
end Go.V
end
section
namespace Go.V
open Go Go.Proofs
def g_law02_at (x0_along : Int) (x1_across : Int) : Option (GSightPlace) := some (GSightPlace.mk x0_along x1_across)
theorem g_law02_at_ok (x0_along : Int) (x1_across : Int) (R : GSightPlace) (h : g_law02_at x0_along x1_across = some R) : VPure Tryz.prog G0 49 [.lit (.int .i64 x0_along), .lit (.int .i64 x1_across)] (.tree (.agg (cGSightPlace R))) := by
 refine VPure.runR mixed Tryz.call49 Tryz.func49 rfl (by simp [Tryz.ntmps49]; kernel_rfl) ?_
 obtain ⟨KF, h, kF, kN⟩ := fun_intro h
 simp only [g_law02_at] at h
 try simp only [vz, tyf, nm, seval]
 refine opd_ret (x := (.agg ([.lit (.int .i64 x0_along)] ++ [.lit (.int .i64 x1_across)]))) (by first | (simp only [Tryz.results49, resV, resL, resV1, tgt_ptr, tgt_tp, uw, cr, tyf, nm, seval] <;> rfl) | rfl) ?_
 obtain rfl := kF _ h
 refine rr_tree ?_ ?_
 ·simp only [tre, tytre, Bool.and_self]
 ·first | (simp only [outV, uw, showV_ref, cr, tyf, nrm, tynrm, nm, seval] <;> rfl) | rfl
end Go.V
end
section
namespace Go.V
open Go Go.Proofs
def g_law02_span (x0_low : Int) (x1_high : Int) : Option (GSpan) := some (GSpan.mk x0_low x1_high)
theorem g_law02_span_ok (x0_low : Int) (x1_high : Int) (R : GSpan) (h : g_law02_span x0_low x1_high = some R) : VPure Tryz.prog G0 47 [.lit (.int .i64 x0_low), .lit (.int .i64 x1_high)] (.tree (.agg (cGSpan R))) := by
 refine VPure.runR mixed Tryz.call47 Tryz.func47 rfl (by simp [Tryz.ntmps47]; kernel_rfl) ?_
 obtain ⟨KF, h, kF, kN⟩ := fun_intro h
 simp only [g_law02_span] at h
 try simp only [vz, tyf, nm, seval]
 refine opd_ret (x := (.agg ([.lit (.int .i64 x0_low)] ++ [.lit (.int .i64 x1_high)]))) (by first | (simp only [Tryz.results47, resV, resL, resV1, tgt_ptr, tgt_tp, uw, cr, tyf, nm, seval] <;> rfl) | rfl) ?_
 obtain rfl := kF _ h
 refine rr_tree ?_ ?_
 ·simp only [tre, tytre, Bool.and_self]
 ·first | (simp only [outV, uw, showV_ref, cr, tyf, nrm, tynrm, nm, seval] <;> rfl) | rfl
end Go.V
end
section
namespace Go.V
open Go Go.Proofs
def g_ref02_Moved (x0_b : GSightBoard) (x1_at : Int) : Option (GSightBoard) := some (GSightBoard.mk x1_at x0_b.Letters)
theorem g_ref02_Moved_ok (x0_b : GSightBoard) (x1_at : Int) (R : GSightBoard) (h : g_ref02_Moved x0_b x1_at = some R) : VPure Tryz.prog G0 90 [.agg (cGSightBoard x0_b), .lit (.int .i64 x1_at)] (.tree (.agg (cGSightBoard R))) := by
 refine VPure.runR mixed Tryz.call90 Tryz.func90 rfl (by simp [Tryz.ntmps90]; kernel_rfl) ?_
 obtain ⟨KF, h, kF, kN⟩ := fun_intro h
 simp only [g_ref02_Moved] at h
 try simp only [vz, tyf, nm, seval]
 refine opd_ret (x := (.agg ([.lit (.int .i64 x1_at)] ++ [.sl (cellsL cGSightLetter x0_b.Letters) (List.length x0_b.Letters) false]))) (by first | (simp only [Tryz.results90, resV, resL, resV1, tgt_ptr, tgt_tp, uw, cr, tyf, nm, seval] <;> rfl) | rfl) ?_
 obtain rfl := kF _ h
 refine rr_tree ?_ ?_
 ·simp only [tre, tytre, Bool.and_self]
 ·first | (simp only [outV, uw, showV_ref, cr, tyf, nrm, tynrm, nm, seval] <;> rfl) | rfl
end Go.V
end
