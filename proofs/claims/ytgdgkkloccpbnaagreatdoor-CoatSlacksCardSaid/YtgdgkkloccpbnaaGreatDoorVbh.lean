/- Part of a proof: a logic of values by content, lifted functions, what follows. -/
import Derived.Test.YtgdgkkloccpbnaaGreatDoorVbg
import Derived.Test.YtgdgkkloccpbnaaGreatDoorVbf
set_option linter.all false
set_option maxRecDepth 4000
set_option maxHeartbeats 40000000
section
set_option linter.unusedVariables false
set_option linter.unusedSimpArgs false
namespace Go.V
open Go
def neB {α : Type} (xs : List α) : Bool := !xs.isEmpty
theorem neB_pos {α : Type} {xs : List α} (h : neB xs = true) : 0 < xs.length := by
 cases xs with
 | nil => cases h
 | cons a l => exact Nat.succ_pos _
section
variable {P : Program} {H : Nat → Option VObj} {γ : Nat} {α : Type} {enc : α → List VV} {t t2 e e2 w b : Nat} {xs ys : List α} {el : Option TypeId} {β : Nat} {f : Bool} {k : VV → VEff → Prop}
theorem k_appS (he : ∀ x, (enc x).length = w) (hl : ∀ x, leafL (enc x) = true) (ha : appOk P t = some (e, w, b)) (hu2 : P.underlying t2 = some (.slice e2)) (hb : H β = some (.cells el (cellsL enc xs)))
  (hm : neB ys = true) (hr : roomOk b (xs ++ ys).length = true) (h : k (.ref γ 0 (xs ++ ys).length w (xs ++ ys).length) (.mv β (sameEl el e) (cellsL enc (xs ++ ys)))) :
  oeK (vappend P H γ t t2 (.ref β 0 xs.length w xs.length) (.sl (cellsL enc ys) ys.length f)) k := by
 have hm := neB_pos hm
 obtain ⟨hu, inf, z, hi, hz, rfl, rfl, hs0, hb0, hzs⟩ := appOk_some ha
 have hr' : (xs.length + ys.length) * inf.bytes ≤ 140737488355328 := by simpa [roomOk] using hr
 have h4 : (cellsL enc ys).all VV.leaf = true := by rw [leafL_all]; exact leafL_cells hl ys
 have h2 := cellsL_length he ys
 have h1 := cellsL_length he xs
 have h5 : (cellsL enc ys).take (ys.length * inf.size) = cellsL enc ys := List.take_of_length_le (by omega)
 have h6 : ¬ (xs.length + ys.length ≤ xs.length) := by omega
 have key : vappend P H γ t t2 (.ref β 0 xs.length inf.size xs.length) (.sl (cellsL enc ys) ys.length f) = some (.ref γ 0 (xs ++ ys).length inf.size (xs ++ ys).length, .mv β (sameEl el e) (cellsL enc (xs ++ ys))) := by
  simp only [vappend, nilS, vappend1, hu, hu2, hi, hz, srcV, sls, h5, h4, hs0, hb0, hzs, hb]
  simp [h2, h6, h1, hr', cellsL_append]
 rw [key]
 exact h
theorem k_appNS (he : ∀ x, (enc x).length = w) (hl : ∀ x, leafL (enc x) = true) (ha : appOk P t = some (e, w, b)) (hu2 : P.underlying t2 = some (.slice e2))
  (hm : neB ys = true) (hr : roomOk b ([] ++ ys).length = true) (h : k (.ref γ 0 ([] ++ ys).length w ([] ++ ys).length) (.new (.cells (some e) (cellsL enc ([] ++ ys))))) :
  oeK (vappend P H γ t t2 (.lit (.slice none 0 0)) (.sl (cellsL enc ys) ys.length f)) k := by
 have hm := neB_pos hm
 obtain ⟨hu, inf, z, hi, hz, rfl, rfl, hs0, hb0, hzs⟩ := appOk_some ha
 have hr' : ys.length * inf.bytes ≤ 140737488355328 := by simpa [roomOk] using hr
 have h4 : (cellsL enc ys).all VV.leaf = true := by rw [leafL_all]; exact leafL_cells hl ys
 have h2 := cellsL_length he ys
 have h5 : (cellsL enc ys).take (ys.length * inf.size) = cellsL enc ys := List.take_of_length_le (by omega)
 have h6 : ys ≠ [] := by intro h; rw [h] at hm; exact absurd hm (by simp)
 have key : vappend P H γ t t2 (.lit (.slice none 0 0)) (.sl (cellsL enc ys) ys.length f) = some (.ref γ 0 ([] ++ ys).length inf.size ([] ++ ys).length, .new (.cells (some e) (cellsL enc ([] ++ ys)))) := by
  simp only [vappend, nilS, vappend1, hu, hu2, hi, hz, srcV, sls, h5, h4, hs0, hb0, hzs]
  simp [h2, h6, hr']
 rw [key]
 exact h
theorem setA {x : α} {i : Int} (he : ∀ x, (enc x).length = w) (h : getI xs i = some x) : (i.toNat * w + w ≤ (cellsL enc xs).length) = True := by
 obtain ⟨h0, h1, _⟩ := getI_drop h
 rw [cellsL_length he, eq_true_iff_of_true]
 have : i.toNat + 1 ≤ xs.length := by omega
 have := Nat.mul_le_mul_right w this
 rw [Nat.add_mul, Nat.one_mul] at this
 exact this
 where
 eq_true_iff_of_true : ∀ {p : Prop}, (p = True) = p := fun {p} => propext ⟨fun h => h ▸ trivial, fun h => eq_true h⟩
end
theorem binV_slNil {P : Program} {H : Nat → Option VObj} {t e : TypeId} {x y : Operand} {cs : List VV} {n : Nat} {f : Bool} (hu : P.underlying t = some (.slice e)) (hc : cs ≠ []) : binV P H .eql t x y (.sl cs n f) (.lit (.slice none 0 0)) = some (.lit (.bool false)) := by
 simp [binV, VV.val?, vptrEq, vptrEq.eq1, hu, hc]
end Go.V
end
section
namespace Go.V
open Go Go.Proofs
def g_limits_IsFrom (x0_least : Int) (x1_n : Int) (x2_most : Int) : Option (Bool) := cond (decide (x0_least ≤ x1_n)) (some (decide (x1_n ≤ x2_most))) (some false)
theorem g_limits_IsFrom_ok (x0_least : Int) (x1_n : Int) (x2_most : Int) (R : Bool) (h : g_limits_IsFrom x0_least x1_n x2_most = some R) : VPure Tryz.prog G0 108 [.lit (.int .i64 x0_least), .lit (.int .i64 x1_n), .lit (.int .i64 x2_most)] (.tree (.lit (.bool R))) := by
 refine VPure.runR mixed Tryz.call108 Tryz.func108 rfl (by simp [Tryz.ntmps108]; kernel_rfl) ?_
 obtain ⟨KF, h, kF, kN⟩ := fun_intro h
 simp only [g_limits_IsFrom] at h
 cases d1 : (decide (x0_least ≤ x1_n))
 ·simp only [d1, hs] at h
  try simp only [vz, tyf, d1, nm, seval]
  obtain rfl := kF _ h
  exact opd_bool Tryz.results108 rfl
 simp only [d1, hs] at h
 try simp only [vz, tyf, d1, nm, seval]
 obtain rfl := kF _ h
 exact opd_bool Tryz.results108 rfl
end Go.V
end
section
namespace Go.V
open Go Go.Proofs
def g_limits_IsSpan (x0_least : Int) (x1_x : GSpan) (x2_most : Int) : Option (Bool) := cond (decide (x0_least ≤ x1_x.Low)) (cond (decide (x1_x.Low ≤ x1_x.High)) (some (decide (x1_x.High ≤ x2_most))) (some false)) (some false)
theorem g_limits_IsSpan_ok (x0_least : Int) (x1_x : GSpan) (x2_most : Int) (R : Bool) (h : g_limits_IsSpan x0_least x1_x x2_most = some R) : VPure Tryz.prog G0 130 [.lit (.int .i64 x0_least), .agg (cGSpan x1_x), .lit (.int .i64 x2_most)] (.tree (.lit (.bool R))) := by
 refine VPure.runR mixed Tryz.call130 Tryz.func130 rfl (by simp [Tryz.ntmps130]; kernel_rfl) ?_
 obtain ⟨KF, h, kF, kN⟩ := fun_intro h
 simp only [g_limits_IsSpan] at h
 cases d1 : (decide (x0_least ≤ x1_x.Low))
 ·simp only [d1, hs] at h
  try simp only [vz, tyf, d1, nm, seval]
  obtain rfl := kF _ h
  exact opd_bool Tryz.results130 rfl
 simp only [d1, hs] at h
 cases d2 : (decide (x1_x.Low ≤ x1_x.High))
 ·simp only [d2, hs] at h
  try simp only [vz, tyf, d1, d2, nm, seval]
  obtain rfl := kF _ h
  exact opd_bool Tryz.results130 rfl
 simp only [d2, hs] at h
 try simp only [vz, tyf, d1, d2, nm, seval]
 obtain rfl := kF _ h
 exact opd_bool Tryz.results130 rfl
end Go.V
end
section
namespace Go.V
open Go Go.Proofs
def g_coat_areDays_l0  : List GSpan → Int → Option (LOut (Bool) (Unit))
 | [], c0_11 => some (.go ())
 | e0 :: p0, c0_11 => Option.bind (g_limits_IsSpan 0 e0 24) (fun r2 => cond (r2) (g_coat_areDays_l0 p0 (c0_11 + 1)) (some (.ret false)))
def g_coat_areDays (x0_dry : List GSpan) : Option (Bool) := Option.bind (g_limits_IsFrom 1 (List.length x0_dry : Int) 12) (fun r1 => cond (r1) (cond (lenOk x0_dry) (lbind (g_coat_areDays_l0 x0_dry 0) (fun r4 => some r4) (fun c3 => some true) (fun _ _ => none)) none) (some false))
theorem g_coat_areDays_ok (x0_dry : List GSpan) (R : Bool) (h : g_coat_areDays x0_dry = some R) : VPure Tryz.prog G0 100 [.sl (cellsL cGSpan x0_dry) (List.length x0_dry) false] (.tree (.lit (.bool R))) := by
 refine VPure.runR mixed Tryz.call100 Tryz.func100 rfl (by simp [Tryz.ntmps100]; kernel_rfl) ?_
 obtain ⟨KF, h, kF, kN⟩ := fun_intro h
 simp only [g_coat_areDays] at h
 rcases o6 : (g_limits_IsFrom 1 (List.length x0_dry : Int) 12) with _ | r5
 ·simp only [o6, hs] at h
  exact absurd h kN
 simp only [o6, hs] at h
 simp only [vz, tyf, nm, seval]
 refine ktree (args0 := [.lit (.int .i64 1), .lit (.int .i64 (List.length x0_dry : Int)), .lit (.int .i64 12)]) (by first | (simp only [nrm, tynrm] <;> rfl) | rfl) (by simp only [tre, tytre, Bool.and_self]) (g_limits_IsFrom_ok _ _ _ _ o6) ?_
 refine fin_cut (fun tm => tm 0 = .sl (cellsL cGSpan x0_dry) (List.length x0_dry) false ∧ tm 7 = .lit (.bool r5) ∧ True) (by refine ⟨?_, ?_, trivial⟩ <;> first | (simp only [ua, nm, seval] <;> rfl) | rfl) ?_
 rintro tm ⟨e7, e8, _⟩
 cases d9 : (r5)
 ·simp only [d9, hs] at h
  try simp only [vz, tyf, e7, e8, d9, nm, seval]
  obtain rfl := kF _ h
  exact opd_bool Tryz.results100 rfl
 simp only [d9, hs] at h
 cases g11 : (lenOk x0_dry)
 ·simp only [g11, hs] at h
  exact absurd h kN
 simp only [g11, hs] at h
 simp only [vz, tyf, e7, e8, d9, g11, nm, seval]
 obtain ⟨K10, h, kR10, kG10, kB10, kN10⟩ := lbind_intro h kN
 obtain ⟨f10, hf10, h⟩ := call2 h
 obtain ⟨I10, hI10⟩ : ∃ I : Nat → St → Prop, I = (fun m st => ∃ (p10 : List GSpan) (c10_11 : Int), m = List.length p10 ∧ 0 ≤ c10_11 ∧ List.drop (Int.toNat c10_11) x0_dry = p10 ∧ st.df = [] ∧ 8 ≤ st.nx ∧ st.tm 9 = .sl (cellsL cGSpan x0_dry) (List.length x0_dry) false ∧ st.tm 10 = .lit (.int .i64 (List.length x0_dry : Int)) ∧ st.tm 11 = .lit (.int .i64 c10_11) ∧ K10 (f10 p10 c10_11)) := ⟨_, rfl⟩
 refine loopK mixed (by kernel_rfl) I10 (List.length x0_dry) (by rw [hI10]; refine ⟨x0_dry, 0, rfl, Int.le_refl _, rfl, rfl, (show 8 ≤ 8 by omega), ?_, ?_, ?_, h⟩ <;> first | (simp only [ua, e7, e8, d9, nm, seval] <;> rfl) | rfl) ?_
 rintro m ⟨tm, H, nx10, df⟩ hinv
 rw [hI10] at hinv
 obtain ⟨p10, c10_11, rfl, hi10, hp10, hdf, hn10, e12, e13, e14, h⟩ := hinv
 simp only at hdf hn10 e12 e13 e14
 have n15 := base_ne0 (m := 8) (b := nx10) (by omega)
 subst hdf hf10
 cases p10 with
 | nil =>
  have d16 : (decide (c10_11 < (List.length x0_dry : Int))) = false := not_lt_of_drop hi10 hp10
  simp only [g_coat_areDays_l0, hs, reduceCtorEq] at h
  replace h := kG10 _ h
  try dsimp only at h
  try simp only [hs] at h
  try simp only [vz, tyf, d9, g11, n15, e12, e13, e14, d16, nm, seval]
  obtain rfl := kF _ h
  exact opd_bool Tryz.results100 rfl
 | cons e10 p10 =>
  have d17 : (decide (c10_11 < (List.length x0_dry : Int))) = true := lt_of_drop hi10 hp10
  have o19 := getI_of_drop hi10 hp10
  have w18 := wrap_next hi10 hp10 g11
  simp only [g_coat_areDays_l0, hs, reduceCtorEq] at h
  rcases o21 : (g_limits_IsSpan 0 e10 24) with _ | r20
  ·simp only [o21, hs] at h
   exact absurd h kN10
  simp only [o21, hs] at h
  simp only [vz, tyf, d9, g11, n15, e12, e13, e14, d17, (ix22 o19), w18, nm, seval]
  refine ktree (args0 := [.lit (.int .i64 0), .agg (cGSpan e10), .lit (.int .i64 24)]) (by first | (simp only [nrm, tynrm] <;> rfl) | rfl) (by simp only [tre, tytre, Bool.and_self]) (g_limits_IsSpan_ok _ _ _ _ o21) ?_
  refine fin_cut (fun tm => tm 9 = .sl (cellsL cGSpan x0_dry) (List.length x0_dry) false ∧ tm 10 = .lit (.int .i64 (List.length x0_dry : Int)) ∧ tm 11 = .lit (.int .i64 c10_11) ∧ tm 16 = .lit (.bool r20) ∧ True) (by refine ⟨e12, e13, e14, ?_, trivial⟩ <;> first | (simp only [ua, d9, n15, e12, e13, e14, d17, w18, nm, seval] <;> rfl) | rfl) ?_
  rintro tm ⟨e22, e23, e24, e25, _⟩
  cases d26 : (r20)
  ·simp only [d26, hs] at h
   try simp only [vz, tyf, d9, g11, n15, d17, (ix22 o19), w18, e22, e23, e24, e25, d26, nm, seval]
   replace h := kR10 _ h
   try dsimp only at h
   obtain rfl := kF _ h
   exact opd_bool Tryz.results100 rfl
  simp only [d26, hs] at h
  simp only [vz, tyf, d9, g11, n15, d17, (ix22 o19), w18, e22, e23, e24, e25, d26, nm, seval]
  exact ⟨List.length p10, Nat.lt_succ_self _, by rw [hI10]; refine ⟨p10, c10_11 + 1, rfl, Int.le_trans hi10 (Int.le_add_one (Int.le_refl _)), drop_next hi10 hp10, rfl, (show 8 ≤ nx10 + 10 by omega), e22, e23, ?_, h⟩ <;> first | (simp only [ua, d9, n15, d17, w18, e22, e23, e24, e25, d26, nm, seval] <;> rfl) | rfl⟩
end Go.V
end
section
namespace Go.V
open Go Go.Proofs
def g_limits_AreFrom_l0 (x0_least : Int) (x2_most : Int) : List Int → Int → Option (LOut (Bool) (Unit))
 | [], c0_11 => some (.go ())
 | e0 :: p0, c0_11 => Option.bind (g_limits_IsFrom x0_least e0 x2_most) (fun r1 => cond (r1) (g_limits_AreFrom_l0 x0_least x2_most p0 (c0_11 + 1)) (some (.ret false)))
def g_limits_AreFrom (x0_least : Int) (x1_numbers : List Int) (x2_most : Int) : Option (Bool) := cond (lenOk x1_numbers) (lbind (g_limits_AreFrom_l0 x0_least x2_most x1_numbers 0) (fun r3 => some r3) (fun c2 => some true) (fun _ _ => none)) none
theorem g_limits_AreFrom_ok (x0_least : Int) (x1_numbers : List Int) (x2_most : Int) (R : Bool) (h : g_limits_AreFrom x0_least x1_numbers x2_most = some R) : VPure Tryz.prog G0 131 [.lit (.int .i64 x0_least), .sl (cellsL eI x1_numbers) (List.length x1_numbers) false, .lit (.int .i64 x2_most)] (.tree (.lit (.bool R))) := by
 refine VPure.runR mixed Tryz.call131 Tryz.func131 rfl (by simp [Tryz.ntmps131]; kernel_rfl) ?_
 obtain ⟨KF, h, kF, kN⟩ := fun_intro h
 simp only [g_limits_AreFrom] at h
 cases g5 : (lenOk x1_numbers)
 ·simp only [g5, hs] at h
  exact absurd h kN
 simp only [g5, hs] at h
 simp only [vz, tyf, g5, nm, seval]
 obtain ⟨K4, h, kR4, kG4, kB4, kN4⟩ := lbind_intro h kN
 obtain ⟨f4, hf4, h⟩ := call2 h
 obtain ⟨I4, hI4⟩ : ∃ I : Nat → St → Prop, I = (fun m st => ∃ (p4 : List Int) (c4_11 : Int), m = List.length p4 ∧ 0 ≤ c4_11 ∧ List.drop (Int.toNat c4_11) x1_numbers = p4 ∧ st.df = [] ∧ 4 ≤ st.nx ∧ st.tm 0 = .lit (.int .i64 x0_least) ∧ st.tm 2 = .lit (.int .i64 x2_most) ∧ st.tm 9 = .sl (cellsL eI x1_numbers) (List.length x1_numbers) false ∧ st.tm 10 = .lit (.int .i64 (List.length x1_numbers : Int)) ∧ st.tm 11 = .lit (.int .i64 c4_11) ∧ K4 (f4 p4 c4_11)) := ⟨_, rfl⟩
 refine loopK mixed (by kernel_rfl) I4 (List.length x1_numbers) (by rw [hI4]; refine ⟨x1_numbers, 0, rfl, Int.le_refl _, rfl, rfl, (show 4 ≤ 4 by omega), ?_, ?_, ?_, ?_, ?_, h⟩ <;> first | (simp only [ua, nm, seval] <;> rfl) | rfl) ?_
 rintro m ⟨tm, H, nx4, df⟩ hinv
 rw [hI4] at hinv
 obtain ⟨p4, c4_11, rfl, hi4, hp4, hdf, hn4, e6, e7, e8, e9, e10, h⟩ := hinv
 simp only at hdf hn4 e6 e7 e8 e9 e10
 have n11 := base_ne0 (m := 4) (b := nx4) (by omega)
 subst hdf hf4
 cases p4 with
 | nil =>
  have d12 : (decide (c4_11 < (List.length x1_numbers : Int))) = false := not_lt_of_drop hi4 hp4
  simp only [g_limits_AreFrom_l0, hs, reduceCtorEq] at h
  replace h := kG4 _ h
  try dsimp only at h
  try simp only [hs] at h
  try simp only [vz, tyf, g5, n11, e6, e7, e8, e9, e10, d12, nm, seval]
  obtain rfl := kF _ h
  exact opd_bool Tryz.results131 rfl
 | cons e4 p4 =>
  have d13 : (decide (c4_11 < (List.length x1_numbers : Int))) = true := lt_of_drop hi4 hp4
  have o15 := getI_of_drop hi4 hp4
  have w14 := wrap_next hi4 hp4 g5
  simp only [g_limits_AreFrom_l0, hs, reduceCtorEq] at h
  rcases o17 : (g_limits_IsFrom x0_least e4 x2_most) with _ | r16
  ·simp only [o17, hs] at h
   exact absurd h kN4
  simp only [o17, hs] at h
  simp only [vz, tyf, g5, n11, e6, e7, e8, e9, e10, d13, (ix23 o15), w14, nm, seval]
  refine ktree (args0 := [.lit (.int .i64 x0_least), .lit (.int .i64 e4), .lit (.int .i64 x2_most)]) (by first | (simp only [nrm, tynrm] <;> rfl) | rfl) (by simp only [tre, tytre, Bool.and_self]) (g_limits_IsFrom_ok _ _ _ _ o17) ?_
  refine fin_cut (fun tm => tm 0 = .lit (.int .i64 x0_least) ∧ tm 2 = .lit (.int .i64 x2_most) ∧ tm 9 = .sl (cellsL eI x1_numbers) (List.length x1_numbers) false ∧ tm 10 = .lit (.int .i64 (List.length x1_numbers : Int)) ∧ tm 11 = .lit (.int .i64 c4_11) ∧ tm 18 = .lit (.bool r16) ∧ True) (by refine ⟨e6, e7, e8, e9, e10, ?_, trivial⟩ <;> first | (simp only [ua, n11, e6, e7, e8, e9, e10, d13, w14, nm, seval] <;> rfl) | rfl) ?_
  rintro tm ⟨e18, e19, e20, e21, e22, e23, _⟩
  cases d24 : (r16)
  ·simp only [d24, hs] at h
   try simp only [vz, tyf, g5, n11, d13, (ix23 o15), w14, e18, e19, e20, e21, e22, e23, d24, nm, seval]
   replace h := kR4 _ h
   try dsimp only at h
   obtain rfl := kF _ h
   exact opd_bool Tryz.results131 rfl
  simp only [d24, hs] at h
  simp only [vz, tyf, g5, n11, d13, (ix23 o15), w14, e18, e19, e20, e21, e22, e23, d24, nm, seval]
  exact ⟨List.length p4, Nat.lt_succ_self _, by rw [hI4]; refine ⟨p4, c4_11 + 1, rfl, Int.le_trans hi4 (Int.le_add_one (Int.le_refl _)), drop_next hi4 hp4, rfl, (show 4 ≤ nx4 + 11 by omega), e18, e19, e20, e21, ?_, h⟩ <;> first | (simp only [ua, n11, d13, w14, e18, e19, e20, e21, e22, e23, d24, nm, seval] <;> rfl) | rfl⟩
end Go.V
end
section
namespace Go.V
open Go Go.Proofs
def g_limits_AreIncreasing_l0 (x1_numbers : List Int) : List Int → Int → Option (LOut (Bool) (Unit))
 | [], c0_7 => some (.go ())
 | e0 :: p0, c0_7 => Option.bind (getI x1_numbers (IntKind.i64.wrap (c0_7 - 1))) (fun x1 => cond (decide (e0 ≤ x1)) (some (.ret false)) (g_limits_AreIncreasing_l0 x1_numbers p0 (c0_7 + 1)))
def g_limits_AreIncreasing (x0_least : Int) (x1_numbers : List Int) (x2_most : Int) : Option (Bool) := cond (lenOk x1_numbers) (cond (leB 0 1) (lbind (g_limits_AreIncreasing_l0 x1_numbers (List.drop (Int.toNat 1) x1_numbers) 1) (fun r4 => some r4) (fun c2 => Option.bind (g_limits_AreFrom x0_least x1_numbers x2_most) (fun r3 => some r3)) (fun _ _ => none)) none) none
theorem g_limits_AreIncreasing_ok (x0_least : Int) (x1_numbers : List Int) (x2_most : Int) (R : Bool) (h : g_limits_AreIncreasing x0_least x1_numbers x2_most = some R) : VPure Tryz.prog G0 101 [.lit (.int .i64 x0_least), .sl (cellsL eI x1_numbers) (List.length x1_numbers) false, .lit (.int .i64 x2_most)] (.tree (.lit (.bool R))) := by
 refine VPure.runR mixed Tryz.call101 Tryz.func101 rfl (by simp [Tryz.ntmps101]; kernel_rfl) ?_
 obtain ⟨KF, h, kF, kN⟩ := fun_intro h
 simp only [g_limits_AreIncreasing] at h
 cases g6 : (lenOk x1_numbers)
 ·simp only [g6, hs] at h
  exact absurd h kN
 simp only [g6, hs] at h
 cases g7 : (leB 0 1)
 ·simp only [g7, hs] at h
  exact absurd h kN
 simp only [g7, hs] at h
 simp only [vz, tyf, g6, g7, nm, seval]
 obtain ⟨K5, h, kR5, kG5, kB5, kN5⟩ := lbind_intro h kN
 obtain ⟨f5, hf5, h⟩ := call2 h
 obtain ⟨I5, hI5⟩ : ∃ I : Nat → St → Prop, I = (fun m st => ∃ (p5 : List Int) (c5_7 : Int), m = List.length p5 ∧ 0 ≤ c5_7 ∧ List.drop (Int.toNat c5_7) x1_numbers = p5 ∧ st.df = [] ∧ 2 ≤ st.nx ∧ st.tm 0 = .lit (.int .i64 x0_least) ∧ st.tm 1 = .sl (cellsL eI x1_numbers) (List.length x1_numbers) false ∧ st.tm 2 = .lit (.int .i64 x2_most) ∧ st.tm 7 = .lit (.int .i64 c5_7) ∧ K5 (f5 p5 c5_7)) := ⟨_, rfl⟩
 refine loopK mixed (by kernel_rfl) I5 (List.length (List.drop (Int.toNat 1) x1_numbers)) (by rw [hI5]; refine ⟨List.drop (Int.toNat 1) x1_numbers, 1, rfl, of_decide_eq_true g7, rfl, rfl, (show 2 ≤ 2 by omega), ?_, ?_, ?_, ?_, h⟩ <;> first | (simp only [ua, nm, seval] <;> rfl) | rfl) ?_
 rintro m ⟨tm, H, nx5, df⟩ hinv
 rw [hI5] at hinv
 obtain ⟨p5, c5_7, rfl, hi5, hp5, hdf, hn5, e8, e9, e10, e11, h⟩ := hinv
 simp only at hdf hn5 e8 e9 e10 e11
 have n12 := base_ne0 (m := 2) (b := nx5) (by omega)
 subst hdf hf5
 cases p5 with
 | nil =>
  have d13 : (decide (c5_7 < (List.length x1_numbers : Int))) = false := not_lt_of_drop hi5 hp5
  simp only [g_limits_AreIncreasing_l0, hs, reduceCtorEq] at h
  replace h := kG5 _ h
  try dsimp only at h
  try simp only [hs] at h
  rcases o15 : (g_limits_AreFrom x0_least x1_numbers x2_most) with _ | r14
  ·simp only [o15, hs] at h
   exact absurd h kN
  simp only [o15, hs] at h
  simp only [vz, tyf, g6, g7, n12, e8, e9, e10, e11, d13, nm, seval]
  refine ktree (args0 := [.lit (.int .i64 x0_least), .sl (cellsL eI x1_numbers) (List.length x1_numbers) false, .lit (.int .i64 x2_most)]) (by first | (simp only [nrm, tynrm] <;> rfl) | rfl) (by simp only [tre, tytre, Bool.and_self]) (g_limits_AreFrom_ok _ _ _ _ o15) ?_
  refine fin_cut (fun tm => tm 27 = .lit (.bool r14) ∧ True) (by refine ⟨?_, trivial⟩ <;> first | (simp only [ua, n12, e8, e9, e10, e11, d13, nm, seval] <;> rfl) | rfl) ?_
  rintro tm ⟨e16, _⟩
  try simp only [vz, tyf, g6, g7, n12, d13, e16, nm, seval]
  obtain rfl := kF _ h
  exact opd_bool Tryz.results101 rfl
 | cons e5 p5 =>
  have d17 : (decide (c5_7 < (List.length x1_numbers : Int))) = true := lt_of_drop hi5 hp5
  have o19 := getI_of_drop hi5 hp5
  have w18 := wrap_next hi5 hp5 g6
  simp only [g_limits_AreIncreasing_l0, hs, reduceCtorEq] at h
  simp only [vz, tyf, g6, g7, n12, e8, e9, e10, e11, d17, (ix23 o19), w18, nm, seval]
  refine cwp_drwQF (fun tm => tm 0 = .lit (.int .i64 x0_least) ∧ tm 1 = .sl (cellsL eI x1_numbers) (List.length x1_numbers) false ∧ tm 2 = .lit (.int .i64 x2_most) ∧ tm 7 = .lit (.int .i64 c5_7) ∧ True) (by refine ⟨e8, e9, e10, e11, trivial⟩ <;> first | (simp only [ua, n12, e8, e9, e10, e11, d17, w18, nm, seval] <;> rfl) | rfl) ?_
  rintro tm ⟨e20, e21, e22, e23, _⟩
  rcases o25 : (getI x1_numbers (IntKind.i64.wrap (c5_7 - 1))) with _ | x24
  ·simp only [o25, hs] at h
   exact absurd h kN5
  simp only [o25, hs] at h
  cases d26 : (decide (e5 ≤ x24))
  ·simp only [d26, hs] at h
   simp only [vz, tyf, g6, g7, n12, d17, (ix23 o19), w18, e20, e21, e22, e23, (ix23 o25), d26, nm, seval]
   exact ⟨List.length p5, Nat.lt_succ_self _, by rw [hI5]; refine ⟨p5, c5_7 + 1, rfl, Int.le_trans hi5 (Int.le_add_one (Int.le_refl _)), drop_next hi5 hp5, rfl, (show 2 ≤ nx5 + 17 by omega), e20, e21, e22, ?_, h⟩ <;> first | (simp only [ua, n12, d17, w18, e20, e21, e22, e23, d26, nm, seval] <;> rfl) | rfl⟩
  simp only [d26, hs] at h
  try simp only [vz, tyf, g6, g7, n12, d17, (ix23 o19), w18, e20, e21, e22, e23, (ix23 o25), d26, nm, seval]
  replace h := kR5 _ h
  try dsimp only at h
  obtain rfl := kF _ h
  exact opd_bool Tryz.results101 rfl
end Go.V
end
section
namespace Go.V
open Go Go.Proofs
def g_coat_areCoats_l0  : List GCoatCoat → Int → Option (LOut (Bool) (Unit))
 | [], c0_11 => some (.go ())
 | e0 :: p0, c0_11 => Option.bind (g_limits_IsFrom 1 e0.Need 288) (fun r2 => cond (r2) (Option.bind (g_limits_IsFrom e0.Need e0.Peel 400) (fun r3 => cond (r3) (g_coat_areCoats_l0 p0 (c0_11 + 1)) (some (.ret false)))) (some (.ret false)))
def g_coat_areCoats (x0_coats : List GCoatCoat) : Option (Bool) := Option.bind (g_limits_IsFrom 1 (List.length x0_coats : Int) 5) (fun r1 => cond (r1) (cond (lenOk x0_coats) (lbind (g_coat_areCoats_l0 x0_coats 0) (fun r5 => some r5) (fun c4 => some true) (fun _ _ => none)) none) (some false))
theorem g_coat_areCoats_ok (x0_coats : List GCoatCoat) (R : Bool) (h : g_coat_areCoats x0_coats = some R) : VPure Tryz.prog G0 102 [.sl (cellsL cGCoatCoat x0_coats) (List.length x0_coats) false] (.tree (.lit (.bool R))) := by
 refine VPure.runR mixed Tryz.call102 Tryz.func102 rfl (by simp [Tryz.ntmps102]; kernel_rfl) ?_
 obtain ⟨KF, h, kF, kN⟩ := fun_intro h
 simp only [g_coat_areCoats] at h
 rcases o7 : (g_limits_IsFrom 1 (List.length x0_coats : Int) 5) with _ | r6
 ·simp only [o7, hs] at h
  exact absurd h kN
 simp only [o7, hs] at h
 simp only [vz, tyf, nm, seval]
 refine ktree (args0 := [.lit (.int .i64 1), .lit (.int .i64 (List.length x0_coats : Int)), .lit (.int .i64 5)]) (by first | (simp only [nrm, tynrm] <;> rfl) | rfl) (by simp only [tre, tytre, Bool.and_self]) (g_limits_IsFrom_ok _ _ _ _ o7) ?_
 refine fin_cut (fun tm => tm 0 = .sl (cellsL cGCoatCoat x0_coats) (List.length x0_coats) false ∧ tm 7 = .lit (.bool r6) ∧ True) (by refine ⟨?_, ?_, trivial⟩ <;> first | (simp only [ua, nm, seval] <;> rfl) | rfl) ?_
 rintro tm ⟨e8, e9, _⟩
 cases d10 : (r6)
 ·simp only [d10, hs] at h
  try simp only [vz, tyf, e8, e9, d10, nm, seval]
  obtain rfl := kF _ h
  exact opd_bool Tryz.results102 rfl
 simp only [d10, hs] at h
 cases g12 : (lenOk x0_coats)
 ·simp only [g12, hs] at h
  exact absurd h kN
 simp only [g12, hs] at h
 simp only [vz, tyf, e8, e9, d10, g12, nm, seval]
 obtain ⟨K11, h, kR11, kG11, kB11, kN11⟩ := lbind_intro h kN
 obtain ⟨f11, hf11, h⟩ := call2 h
 obtain ⟨I11, hI11⟩ : ∃ I : Nat → St → Prop, I = (fun m st => ∃ (p11 : List GCoatCoat) (c11_11 : Int), m = List.length p11 ∧ 0 ≤ c11_11 ∧ List.drop (Int.toNat c11_11) x0_coats = p11 ∧ st.df = [] ∧ 8 ≤ st.nx ∧ st.tm 9 = .sl (cellsL cGCoatCoat x0_coats) (List.length x0_coats) false ∧ st.tm 10 = .lit (.int .i64 (List.length x0_coats : Int)) ∧ st.tm 11 = .lit (.int .i64 c11_11) ∧ K11 (f11 p11 c11_11)) := ⟨_, rfl⟩
 refine loopK mixed (by kernel_rfl) I11 (List.length x0_coats) (by rw [hI11]; refine ⟨x0_coats, 0, rfl, Int.le_refl _, rfl, rfl, (show 8 ≤ 8 by omega), ?_, ?_, ?_, h⟩ <;> first | (simp only [ua, e8, e9, d10, nm, seval] <;> rfl) | rfl) ?_
 rintro m ⟨tm, H, nx11, df⟩ hinv
 rw [hI11] at hinv
 obtain ⟨p11, c11_11, rfl, hi11, hp11, hdf, hn11, e13, e14, e15, h⟩ := hinv
 simp only at hdf hn11 e13 e14 e15
 have n16 := base_ne0 (m := 8) (b := nx11) (by omega)
 subst hdf hf11
 cases p11 with
 | nil =>
  have d17 : (decide (c11_11 < (List.length x0_coats : Int))) = false := not_lt_of_drop hi11 hp11
  simp only [g_coat_areCoats_l0, hs, reduceCtorEq] at h
  replace h := kG11 _ h
  try dsimp only at h
  try simp only [hs] at h
  try simp only [vz, tyf, d10, g12, n16, e13, e14, e15, d17, nm, seval]
  obtain rfl := kF _ h
  exact opd_bool Tryz.results102 rfl
 | cons e11 p11 =>
  have d18 : (decide (c11_11 < (List.length x0_coats : Int))) = true := lt_of_drop hi11 hp11
  have o20 := getI_of_drop hi11 hp11
  have w19 := wrap_next hi11 hp11 g12
  simp only [g_coat_areCoats_l0, hs, reduceCtorEq] at h
  rcases o22 : (g_limits_IsFrom 1 e11.Need 288) with _ | r21
  ·simp only [o22, hs] at h
   exact absurd h kN11
  simp only [o22, hs] at h
  simp only [vz, tyf, d10, g12, n16, e13, e14, e15, d18, (ix24 o20), w19, nm, seval]
  refine ktree (args0 := [.lit (.int .i64 1), .lit (.int .i64 e11.Need), .lit (.int .i64 288)]) (by first | (simp only [nrm, tynrm] <;> rfl) | rfl) (by simp only [tre, tytre, Bool.and_self]) (g_limits_IsFrom_ok _ _ _ _ o22) ?_
  refine fin_cut (fun tm => tm 4 = .ptr (nx11 + 3) 0 ∧ tm 9 = .sl (cellsL cGCoatCoat x0_coats) (List.length x0_coats) false ∧ tm 10 = .lit (.int .i64 (List.length x0_coats : Int)) ∧ tm 11 = .lit (.int .i64 c11_11) ∧ tm 17 = .lit (.bool r21) ∧ True) (by refine ⟨?_, e13, e14, e15, ?_, trivial⟩ <;> first | (simp only [ua, d10, n16, e13, e14, e15, d18, w19, nm, seval] <;> rfl) | rfl) ?_
  rintro tm ⟨e23, e24, e25, e26, e27, _⟩
  cases d28 : (r21)
  ·simp only [d28, hs] at h
   try simp only [vz, tyf, d10, g12, n16, d18, (ix24 o20), w19, e23, e24, e25, e26, e27, d28, nm, seval]
   replace h := kR11 _ h
   try dsimp only at h
   obtain rfl := kF _ h
   exact opd_bool Tryz.results102 rfl
  simp only [d28, hs] at h
  rcases o30 : (g_limits_IsFrom e11.Need e11.Peel 400) with _ | r29
  ·simp only [o30, hs] at h
   exact absurd h kN11
  simp only [o30, hs] at h
  simp only [vz, tyf, d10, g12, n16, d18, (ix24 o20), w19, e23, e24, e25, e26, e27, d28, nm, seval]
  refine ktree (args0 := [.lit (.int .i64 e11.Need), .lit (.int .i64 e11.Peel), .lit (.int .i64 400)]) (by first | (simp only [nrm, tynrm] <;> rfl) | rfl) (by simp only [tre, tytre, Bool.and_self]) (g_limits_IsFrom_ok _ _ _ _ o30) ?_
  refine fin_cut (fun tm => tm 9 = .sl (cellsL cGCoatCoat x0_coats) (List.length x0_coats) false ∧ tm 10 = .lit (.int .i64 (List.length x0_coats : Int)) ∧ tm 11 = .lit (.int .i64 c11_11) ∧ tm 19 = .lit (.bool false) ∧ tm 24 = .lit (.bool r29) ∧ True) (by refine ⟨e24, e25, e26, ?_, ?_, trivial⟩ <;> first | (simp only [ua, d10, n16, d18, w19, e23, e24, e25, e26, e27, d28, nm, seval] <;> rfl) | rfl) ?_
  rintro tm ⟨e31, e32, e33, e34, e35, _⟩
  cases d36 : (r29)
  ·simp only [d36, hs] at h
   have b37 := And.intro d10 (And.intro g12 (And.intro n16 (And.intro d18 (And.intro w19 (And.intro d28 d36)))))
   try simp only [vz, tyf, b37, (ix24 o20), e31, e32, e33, e34, e35, nm, seval]
   replace h := kR11 _ h
   try dsimp only at h
   obtain rfl := kF _ h
   exact opd_bool Tryz.results102 rfl
  simp only [d36, hs] at h
  have b38 := And.intro d10 (And.intro g12 (And.intro n16 (And.intro d18 (And.intro w19 (And.intro d28 d36)))))
  simp only [vz, tyf, b38, (ix24 o20), e31, e32, e33, e34, e35, nm, seval]
  exact ⟨List.length p11, Nat.lt_succ_self _, by rw [hI11]; refine ⟨p11, c11_11 + 1, rfl, Int.le_trans hi11 (Int.le_add_one (Int.le_refl _)), drop_next hi11 hp11, rfl, (show 8 ≤ nx11 + 19 by omega), e31, e32, ?_, h⟩ <;> first | (simp only [ua, b38, e31, e32, e33, e34, e35, nm, seval] <;> rfl) | rfl⟩
end Go.V
end
section
namespace Go.V
open Go Go.Proofs
def g_coat_isSheet (x0_s : GCoatSheet) : Option (Bool) := Option.bind (g_coat_areDays x0_s.Dry) (fun r1 => cond (r1) (Option.bind (g_limits_AreIncreasing 0 x0_s.Work (IntKind.i64.wrap ((List.length x0_s.Dry : Int) - 1))) (fun r2 => cond (r2) (Option.bind (g_coat_areCoats x0_s.Coats) (fun r3 => some r3)) (some false))) (some false))
theorem g_coat_isSheet_ok (x0_s : GCoatSheet) (R : Bool) (h : g_coat_isSheet x0_s = some R) : VPure Tryz.prog G0 58 [.agg (cGCoatSheet x0_s)] (.tree (.lit (.bool R))) := by
 refine VPure.runR mixed Tryz.call58 Tryz.func58 rfl (by simp [Tryz.ntmps58]; kernel_rfl) ?_
 obtain ⟨KF, h, kF, kN⟩ := fun_intro h
 simp only [g_coat_isSheet] at h
 rcases o5 : (g_coat_areDays x0_s.Dry) with _ | r4
 ·simp only [o5, hs] at h
  exact absurd h kN
 simp only [o5, hs] at h
 simp only [vz, tyf, nm, seval]
 refine ktree (args0 := [.sl (cellsL cGSpan x0_s.Dry) (List.length x0_s.Dry) false]) (by first | (simp only [nrm, tynrm] <;> rfl) | rfl) (by simp only [tre, tytre, Bool.and_self]) (g_coat_areDays_ok _ _ o5) ?_
 refine fin_cut (fun tm => tm 1 = .ptr 0 0 ∧ tm 5 = .lit (.bool r4) ∧ True) (by refine ⟨?_, ?_, trivial⟩ <;> first | (simp only [ua, nm, seval] <;> rfl) | rfl) ?_
 rintro tm ⟨e6, e7, _⟩
 cases d8 : (r4)
 ·simp only [d8, hs] at h
  try simp only [vz, tyf, e6, e7, d8, nm, seval]
  obtain rfl := kF _ h
  exact opd_bool Tryz.results58 rfl
 simp only [d8, hs] at h
 rcases o10 : (g_limits_AreIncreasing 0 x0_s.Work (IntKind.i64.wrap ((List.length x0_s.Dry : Int) - 1))) with _ | r9
 ·simp only [o10, hs] at h
  exact absurd h kN
 simp only [o10, hs] at h
 simp only [vz, tyf, e6, e7, d8, nm, seval]
 refine ktree (args0 := [.lit (.int .i64 0), .sl (cellsL eI x0_s.Work) (List.length x0_s.Work) false, .lit (.int .i64 (IntKind.i64.wrap ((List.length x0_s.Dry : Int) - 1)))]) (by first | (simp only [nrm, tynrm] <;> rfl) | rfl) (by simp only [tre, tytre, Bool.and_self]) (g_limits_AreIncreasing_ok _ _ _ _ o10) ?_
 refine fin_cut (fun tm => tm 1 = .ptr 0 0 ∧ tm 6 = .lit (.bool true) ∧ tm 13 = .lit (.bool r9) ∧ True) (by refine ⟨e6, ?_, ?_, trivial⟩ <;> first | (simp only [ua, e6, e7, d8, nm, seval] <;> rfl) | rfl) ?_
 rintro tm ⟨e11, e12, e13, _⟩
 cases d14 : (r9)
 ·simp only [d14, hs] at h
  try simp only [vz, tyf, d8, e11, e12, e13, d14, nm, seval]
  obtain rfl := kF _ h
  exact opd_bool Tryz.results58 rfl
 simp only [d14, hs] at h
 rcases o16 : (g_coat_areCoats x0_s.Coats) with _ | r15
 ·simp only [o16, hs] at h
  exact absurd h kN
 simp only [o16, hs] at h
 simp only [vz, tyf, d8, e11, e12, e13, d14, nm, seval]
 refine ktree (args0 := [.sl (cellsL cGCoatCoat x0_s.Coats) (List.length x0_s.Coats) false]) (by first | (simp only [nrm, tynrm] <;> rfl) | rfl) (by simp only [tre, tytre, Bool.and_self]) (g_coat_areCoats_ok _ _ o16) ?_
 refine fin_cut (fun tm => tm 15 = .lit (.bool true) ∧ tm 18 = .lit (.bool r15) ∧ True) (by refine ⟨?_, ?_, trivial⟩ <;> first | (simp only [ua, d8, e11, e12, e13, d14, nm, seval] <;> rfl) | rfl) ?_
 rintro tm ⟨e17, e18, _⟩
 try simp only [vz, tyf, d8, d14, e17, e18, nm, seval]
 obtain rfl := kF _ h
 exact opd_bool Tryz.results58 rfl
end Go.V
end
section
namespace Go.V
open Go Go.Proofs
end Go.V
end
section
namespace Go.V
open Go Go.Proofs
end Go.V
end
section
namespace Go.V
open Go Go.Proofs
end Go.V
end
section
namespace Go.V
open Go Go.Proofs
end Go.V
end
section
namespace Go.V
open Go Go.Proofs
def g_ref03_in (x0_n : Int) (x1_low : Int) (x2_high : Int) : Option (Bool) := cond (decide (x0_n ≥ x1_low)) (some (decide (x0_n ≤ x2_high))) (some false)
theorem g_ref03_in_ok (x0_n : Int) (x1_low : Int) (x2_high : Int) (R : Bool) (h : g_ref03_in x0_n x1_low x2_high = some R) : VPure Tryz.prog G0 61 [.lit (.int .i64 x0_n), .lit (.int .i64 x1_low), .lit (.int .i64 x2_high)] (.tree (.lit (.bool R))) := by
 refine VPure.runR mixed Tryz.call61 Tryz.func61 rfl (by simp [Tryz.ntmps61]; kernel_rfl) ?_
 obtain ⟨KF, h, kF, kN⟩ := fun_intro h
 simp only [g_ref03_in] at h
 cases d1 : (decide (x0_n ≥ x1_low))
 ·simp only [d1, hs] at h
  try simp only [vz, tyf, d1, nm, seval]
  obtain rfl := kF _ h
  exact opd_bool Tryz.results61 rfl
 simp only [d1, hs] at h
 try simp only [vz, tyf, d1, nm, seval]
 obtain rfl := kF _ h
 exact opd_bool Tryz.results61 rfl
end Go.V
end
section
namespace Go.V
open Go Go.Proofs
def g_ref03_Day (x0_s : GCoatSheet) (x1_n : Int) : Option (Bool) := Option.bind (g_ref03_in x1_n 0 (IntKind.i64.wrap ((List.length x0_s.Dry : Int) - 1))) (fun r1 => some r1)
theorem g_ref03_Day_ok (x0_s : GCoatSheet) (x1_n : Int) (R : Bool) (h : g_ref03_Day x0_s x1_n = some R) : VPure Tryz.prog G0 42 [.agg (cGCoatSheet x0_s), .lit (.int .i64 x1_n)] (.tree (.lit (.bool R))) := by
 refine VPure.runR mixed Tryz.call42 Tryz.func42 rfl (by simp [Tryz.ntmps42]; kernel_rfl) ?_
 obtain ⟨KF, h, kF, kN⟩ := fun_intro h
 simp only [g_ref03_Day] at h
 rcases o3 : (g_ref03_in x1_n 0 (IntKind.i64.wrap ((List.length x0_s.Dry : Int) - 1))) with _ | r2
 ·simp only [o3, hs] at h
  exact absurd h kN
 simp only [o3, hs] at h
 simp only [vz, tyf, nm, seval]
 refine ktree (args0 := [.lit (.int .i64 x1_n), .lit (.int .i64 0), .lit (.int .i64 (IntKind.i64.wrap ((List.length x0_s.Dry : Int) - 1)))]) (by first | (simp only [nrm, tynrm] <;> rfl) | rfl) (by simp only [tre, tytre, Bool.and_self]) (g_ref03_in_ok _ _ _ _ o3) ?_
 refine fin_cut (fun tm => tm 10 = .lit (.bool r2) ∧ True) (by refine ⟨?_, trivial⟩ <;> first | (simp only [ua, nm, seval] <;> rfl) | rfl) ?_
 rintro tm ⟨e4, _⟩
 try simp only [vz, tyf, e4, nm, seval]
 obtain rfl := kF _ h
 exact opd_bool Tryz.results42 rfl
end Go.V
end
section
namespace Go.V
open Go Go.Proofs
def g_ref03_rising_l0 (x0_s : GCoatSheet) (x1_l : List Int) : List Int → Int → Option (LOut (Bool) (Unit))
 | [], c0_5 => some (.go ())
 | e0 :: p0, c0_5 => Option.bind (g_ref03_Day x0_s e0) (fun r1 => cond (r1) (cond (decide (c0_5 > 0)) (Option.bind (getI x1_l (IntKind.i64.wrap (c0_5 - 1))) (fun x2 => cond (decide (e0 ≤ x2)) (some (.ret false)) (g_ref03_rising_l0 x0_s x1_l p0 (c0_5 + 1)))) (g_ref03_rising_l0 x0_s x1_l p0 (c0_5 + 1))) (some (.ret false)))
def g_ref03_rising (x0_s : GCoatSheet) (x1_l : List Int) : Option (Bool) := cond (lenOk x1_l) (lbind (g_ref03_rising_l0 x0_s x1_l x1_l 0) (fun r4 => some r4) (fun c3 => some true) (fun _ _ => none)) none
theorem g_ref03_rising_ok (x0_s : GCoatSheet) (x1_l : List Int) (R : Bool) (h : g_ref03_rising x0_s x1_l = some R) : VPure Tryz.prog G0 62 [.agg (cGCoatSheet x0_s), .sl (cellsL eI x1_l) (List.length x1_l) false] (.tree (.lit (.bool R))) := by
 refine VPure.runR mixed Tryz.call62 Tryz.func62 rfl (by simp [Tryz.ntmps62]; kernel_rfl) ?_
 obtain ⟨KF, h, kF, kN⟩ := fun_intro h
 simp only [g_ref03_rising] at h
 cases g6 : (lenOk x1_l)
 ·simp only [g6, hs] at h
  exact absurd h kN
 simp only [g6, hs] at h
 simp only [vz, tyf, g6, nm, seval]
 obtain ⟨K5, h, kR5, kG5, kB5, kN5⟩ := lbind_intro h kN
 obtain ⟨f5, hf5, h⟩ := call2 h
 obtain ⟨I5, hI5⟩ : ∃ I : Nat → St → Prop, I = (fun m st => ∃ (p5 : List Int) (c5_5 : Int), m = List.length p5 ∧ 0 ≤ c5_5 ∧ List.drop (Int.toNat c5_5) x1_l = p5 ∧ st.df = [] ∧ 3 ≤ st.nx ∧ st.H 0 = some (.cells (some 26) (cGCoatSheet x0_s)) ∧ st.tm 1 = .sl (cellsL eI x1_l) (List.length x1_l) false ∧ st.tm 2 = .ptr 0 0 ∧ st.tm 5 = .lit (.int .i64 c5_5) ∧ K5 (f5 p5 c5_5)) := ⟨_, rfl⟩
 refine loopK mixed (by kernel_rfl) I5 (List.length x1_l) (by rw [hI5]; refine ⟨x1_l, 0, rfl, Int.le_refl _, rfl, rfl, (show 3 ≤ 3 by omega), ?_, ?_, ?_, ?_, h⟩ <;> first | (simp only [ua, nm, seval] <;> rfl) | rfl) ?_
 rintro m ⟨tm, H, nx5, df⟩ hinv
 rw [hI5] at hinv
 obtain ⟨p5, c5_5, rfl, hi5, hp5, hdf, hn5, H7, e8, e9, e10, h⟩ := hinv
 simp only at hdf hn5 H7 e8 e9 e10
 have n11 := base_ne0 (m := 3) (b := nx5) (by omega)
 subst hdf hf5
 cases p5 with
 | nil =>
  have d12 : (decide (c5_5 < (List.length x1_l : Int))) = false := not_lt_of_drop hi5 hp5
  simp only [g_ref03_rising_l0, hs, reduceCtorEq] at h
  replace h := kG5 _ h
  try dsimp only at h
  try simp only [hs] at h
  try simp only [vz, tyf, g6, n11, e8, e9, e10, H7, d12, nm, seval]
  obtain rfl := kF _ h
  exact opd_bool Tryz.results62 rfl
 | cons e5 p5 =>
  have d13 : (decide (c5_5 < (List.length x1_l : Int))) = true := lt_of_drop hi5 hp5
  have o15 := getI_of_drop hi5 hp5
  have w14 := wrap_next hi5 hp5 g6
  simp only [g_ref03_rising_l0, hs, reduceCtorEq] at h
  simp only [vz, tyf, g6, n11, e8, e9, e10, H7, d13, (ix23 o15), w14, nm, seval]
  refine cwp_drwQF (fun tm => tm 1 = .sl (cellsL eI x1_l) (List.length x1_l) false ∧ tm 2 = .ptr 0 0 ∧ tm 5 = .lit (.int .i64 c5_5) ∧ True) (by refine ⟨e8, e9, e10, trivial⟩ <;> first | (simp only [ua, n11, e8, e9, e10, H7, d13, w14, nm, seval] <;> rfl) | rfl) ?_
  rintro tm ⟨e16, e17, e18, _⟩
  rcases o20 : (g_ref03_Day x0_s e5) with _ | r19
  ·simp only [o20, hs] at h
   exact absurd h kN5
  simp only [o20, hs] at h
  simp only [vz, tyf, g6, n11, H7, d13, (ix23 o15), w14, e16, e17, e18, nm, seval]
  refine dktree (args0 := [.agg (cGCoatSheet x0_s), .lit (.int .i64 e5)]) (by first | (simp only [nrm, tynrm] <;> rfl) | rfl) (by simp only [tre, tytre, Bool.and_self]) (g_ref03_Day_ok _ _ _ o20) ?_
  refine fin_cut (fun tm => tm 1 = .sl (cellsL eI x1_l) (List.length x1_l) false ∧ tm 2 = .ptr 0 0 ∧ tm 5 = .lit (.int .i64 c5_5) ∧ tm 17 = .lit (.bool r19) ∧ True) (by refine ⟨e16, e17, e18, ?_, trivial⟩ <;> first | (simp only [ua, n11, H7, d13, w14, e16, e17, e18, nm, seval] <;> rfl) | rfl) ?_
  rintro tm ⟨e21, e22, e23, e24, _⟩
  cases d25 : (r19)
  ·simp only [d25, hs] at h
   try simp only [vz, tyf, g6, n11, H7, d13, (ix23 o15), w14, e21, e22, e23, e24, d25, nm, seval]
   replace h := kR5 _ h
   try dsimp only at h
   obtain rfl := kF _ h
   exact opd_bool Tryz.results62 rfl
  simp only [d25, hs] at h
  cases d26 : (decide (c5_5 > 0))
  ·simp only [d26, hs] at h
   have b27 := And.intro g6 (And.intro n11 (And.intro H7 (And.intro d13 (And.intro w14 (And.intro d25 d26)))))
   simp only [vz, tyf, b27, (ix23 o15), e21, e22, e23, e24, nm, seval]
   exact ⟨List.length p5, Nat.lt_succ_self _, by rw [hI5]; refine ⟨p5, c5_5 + 1, rfl, Int.le_trans hi5 (Int.le_add_one (Int.le_refl _)), drop_next hi5 hp5, rfl, (show 3 ≤ nx5 + 30 by omega), ?_, e21, e22, ?_, h⟩ <;> first | (simp only [ua, b27, e21, e22, e23, e24, nm, seval] <;> rfl) | rfl⟩
  simp only [d26, hs] at h
  have b28 := And.intro g6 (And.intro n11 (And.intro H7 (And.intro d13 (And.intro w14 (And.intro d25 d26)))))
  rcases o30 : (getI x1_l (IntKind.i64.wrap (c5_5 - 1))) with _ | x29
  ·simp only [o30, hs] at h
   exact absurd h kN5
  simp only [o30, hs] at h
  cases d31 : (decide (e5 ≤ x29))
  ·simp only [d31, hs] at h
   simp only [vz, tyf, b28, (ix23 o15), e21, e22, e23, e24, (ix23 o30), d31, nm, seval]
   exact ⟨List.length p5, Nat.lt_succ_self _, by rw [hI5]; refine ⟨p5, c5_5 + 1, rfl, Int.le_trans hi5 (Int.le_add_one (Int.le_refl _)), drop_next hi5 hp5, rfl, (show 3 ≤ nx5 + 30 by omega), ?_, e21, e22, ?_, h⟩ <;> first | (simp only [ua, b28, e21, e22, e23, e24, d31, nm, seval] <;> rfl) | rfl⟩
  simp only [d31, hs] at h
  try simp only [vz, tyf, b28, (ix23 o15), e21, e22, e23, e24, (ix23 o30), d31, nm, seval]
  replace h := kR5 _ h
  try dsimp only at h
  obtain rfl := kF _ h
  exact opd_bool Tryz.results62 rfl
end Go.V
end
section
namespace Go.V
open Go Go.Proofs
def g_ref03_Sheet_l1  : List GCoatCoat → Int → Option (LOut (Bool) (Unit))
 | [], c1_4 => some (.go ())
 | e1 :: p1, c1_4 => Option.bind (g_ref03_in e1.Need 1 288) (fun r7 => cond (r7) (Option.bind (g_ref03_in e1.Peel e1.Need 400) (fun r8 => cond (r8) (g_ref03_Sheet_l1 p1 (c1_4 + 1)) (some (.ret false)))) (some (.ret false)))
def g_ref03_Sheet_l0  : List GSpan → Int → Option (LOut (Bool) (Unit))
 | [], c0_3 => some (.go ())
 | e0 :: p0, c0_3 => Option.bind (g_ref03_in e0.Low 0 24) (fun r4 => cond (r4) (Option.bind (g_ref03_in e0.High e0.Low 24) (fun r5 => cond (r5) (g_ref03_Sheet_l0 p0 (c0_3 + 1)) (some (.ret false)))) (some (.ret false)))
def g_ref03_Sheet (x0_s : GCoatSheet) : Option (Bool) := Option.bind (g_ref03_in (List.length x0_s.Dry : Int) 1 12) (fun r1 => cond (r1) (Option.bind (g_ref03_in (List.length x0_s.Coats : Int) 1 5) (fun r2 => cond (r2) (Option.bind (g_ref03_rising x0_s x0_s.Work) (fun r3 => cond (r3) (cond (lenOk x0_s.Dry) (lbind (g_ref03_Sheet_l0 x0_s.Dry 0) (fun r11 => some r11) (fun c6 => cond (lenOk x0_s.Coats) (lbind (g_ref03_Sheet_l1 x0_s.Coats 0) (fun r10 => some r10) (fun c9 => some true) (fun _ _ => none)) none) (fun _ _ => none)) none) (some false))) (some false))) (some false))
theorem g_ref03_Sheet_ok (x0_s : GCoatSheet) (R : Bool) (h : g_ref03_Sheet x0_s = some R) : VPure Tryz.prog G0 19 [.agg (cGCoatSheet x0_s)] (.tree (.lit (.bool R))) := by
 refine VPure.runR mixed Tryz.call19 Tryz.func19 rfl (by simp [Tryz.ntmps19]; kernel_rfl) ?_
 obtain ⟨KF, h, kF, kN⟩ := fun_intro h
 simp only [g_ref03_Sheet] at h
 rcases o13 : (g_ref03_in (List.length x0_s.Dry : Int) 1 12) with _ | r12
 ·simp only [o13, hs] at h
  exact absurd h kN
 simp only [o13, hs] at h
 simp only [vz, tyf, nm, seval]
 refine ktree (args0 := [.lit (.int .i64 (List.length x0_s.Dry : Int)), .lit (.int .i64 1), .lit (.int .i64 12)]) (by first | (simp only [nrm, tynrm] <;> rfl) | rfl) (by simp only [tre, tytre, Bool.and_self]) (g_ref03_in_ok _ _ _ _ o13) ?_
 refine fin_cut (fun tm => tm 1 = .ptr 0 0 ∧ tm 8 = .lit (.bool r12) ∧ True) (by refine ⟨?_, ?_, trivial⟩ <;> first | (simp only [ua, nm, seval] <;> rfl) | rfl) ?_
 rintro tm ⟨e14, e15, _⟩
 cases d16 : (r12)
 ·simp only [d16, hs] at h
  try simp only [vz, tyf, e14, e15, d16, nm, seval]
  obtain rfl := kF _ h
  exact opd_bool Tryz.results19 rfl
 simp only [d16, hs] at h
 rcases o18 : (g_ref03_in (List.length x0_s.Coats : Int) 1 5) with _ | r17
 ·simp only [o18, hs] at h
  exact absurd h kN
 simp only [o18, hs] at h
 simp only [vz, tyf, e14, e15, d16, nm, seval]
 refine ktree (args0 := [.lit (.int .i64 (List.length x0_s.Coats : Int)), .lit (.int .i64 1), .lit (.int .i64 5)]) (by first | (simp only [nrm, tynrm] <;> rfl) | rfl) (by simp only [tre, tytre, Bool.and_self]) (g_ref03_in_ok _ _ _ _ o18) ?_
 refine fin_cut (fun tm => tm 1 = .ptr 0 0 ∧ tm 10 = .lit (.bool false) ∧ tm 14 = .lit (.bool r17) ∧ True) (by refine ⟨e14, ?_, ?_, trivial⟩ <;> first | (simp only [ua, e14, e15, d16, nm, seval] <;> rfl) | rfl) ?_
 rintro tm ⟨e19, e20, e21, _⟩
 cases d22 : (r17)
 ·simp only [d22, hs] at h
  try simp only [vz, tyf, d16, e19, e20, e21, d22, nm, seval]
  obtain rfl := kF _ h
  exact opd_bool Tryz.results19 rfl
 simp only [d22, hs] at h
 rcases o24 : (g_ref03_rising x0_s x0_s.Work) with _ | r23
 ·simp only [o24, hs] at h
  exact absurd h kN
 simp only [o24, hs] at h
 simp only [vz, tyf, d16, e19, e20, e21, d22, nm, seval]
 refine ktree (args0 := [.agg (cGCoatSheet x0_s), .sl (cellsL eI x0_s.Work) (List.length x0_s.Work) false]) (by first | (simp only [nrm, tynrm] <;> rfl) | rfl) (by simp only [tre, tytre, Bool.and_self]) (g_ref03_rising_ok _ _ _ o24) ?_
 refine fin_cut (fun tm => tm 1 = .ptr 0 0 ∧ tm 17 = .lit (.bool false) ∧ tm 21 = .lit (.bool r23) ∧ True) (by refine ⟨e19, ?_, ?_, trivial⟩ <;> first | (simp only [ua, d16, e19, e20, e21, d22, nm, seval] <;> rfl) | rfl) ?_
 rintro tm ⟨e25, e26, e27, _⟩
 cases d28 : (r23)
 ·simp only [d28, hs] at h
  try simp only [vz, tyf, d16, d22, e25, e26, e27, d28, nm, seval]
  obtain rfl := kF _ h
  exact opd_bool Tryz.results19 rfl
 simp only [d28, hs] at h
 cases g30 : (lenOk x0_s.Dry)
 ·simp only [g30, hs] at h
  exact absurd h kN
 simp only [g30, hs] at h
 simp only [vz, tyf, d16, d22, e25, e26, e27, d28, g30, nm, seval]
 obtain ⟨K29, h, kR29, kG29, kB29, kN29⟩ := lbind_intro h kN
 obtain ⟨f29, hf29, h⟩ := call2 h
 obtain ⟨I29, hI29⟩ : ∃ I : Nat → St → Prop, I = (fun m st => ∃ (p29 : List GSpan) (c29_3 : Int), m = List.length p29 ∧ 0 ≤ c29_3 ∧ List.drop (Int.toNat c29_3) x0_s.Dry = p29 ∧ st.df = [] ∧ 22 ≤ st.nx ∧ st.H 0 = some (.cells (some 26) (cGCoatSheet x0_s)) ∧ st.tm 1 = .ptr 0 0 ∧ st.tm 3 = .lit (.int .i64 c29_3) ∧ K29 (f29 p29 c29_3)) := ⟨_, rfl⟩
 refine loopK mixed (by kernel_rfl) I29 (List.length x0_s.Dry) (by rw [hI29]; refine ⟨x0_s.Dry, 0, rfl, Int.le_refl _, rfl, rfl, (show 22 ≤ 22 by omega), ?_, e25, ?_, h⟩ <;> first | (simp only [ua, d16, d22, e25, e26, e27, d28, nm, seval] <;> rfl) | rfl) ?_
 rintro m ⟨tm, H, nx29, df⟩ hinv
 rw [hI29] at hinv
 obtain ⟨p29, c29_3, rfl, hi29, hp29, hdf, hn29, H31, e32, e33, h⟩ := hinv
 simp only at hdf hn29 H31 e32 e33
 have n34 := base_ne0 (m := 22) (b := nx29) (by omega)
 subst hdf hf29
 cases p29 with
 | nil =>
  have d35 : (decide (c29_3 < (List.length x0_s.Dry : Int))) = false := not_lt_of_drop hi29 hp29
  simp only [g_ref03_Sheet_l0, hs, reduceCtorEq] at h
  replace h := kG29 _ h
  try dsimp only at h
  try simp only [hs] at h
  cases g37 : (lenOk x0_s.Coats)
  ·simp only [g37, hs] at h
   exact absurd h kN
  simp only [g37, hs] at h
  simp only [vz, tyf, d16, d22, d28, g30, n34, e32, e33, H31, d35, g37, nm, seval]
  obtain ⟨K36, h, kR36, kG36, kB36, kN36⟩ := lbind_intro h kN
  obtain ⟨f36, hf36, h⟩ := call2 h
  obtain ⟨I36, hI36⟩ : ∃ I : Nat → St → Prop, I = (fun m st => ∃ (p36 : List GCoatCoat) (c36_4 : Int), m = List.length p36 ∧ 0 ≤ c36_4 ∧ List.drop (Int.toNat c36_4) x0_s.Coats = p36 ∧ st.df = [] ∧ nx29 + 6 ≤ st.nx ∧ st.H 0 = some (.cells (some 26) (cGCoatSheet x0_s)) ∧ st.tm 1 = .ptr 0 0 ∧ st.tm 4 = .lit (.int .i64 c36_4) ∧ K36 (f36 p36 c36_4)) := ⟨_, rfl⟩
  refine loopK mixed (by kernel_rfl) I36 (List.length x0_s.Coats) (by rw [hI36]; refine ⟨x0_s.Coats, 0, rfl, Int.le_refl _, rfl, rfl, (show nx29 + 6 ≤ nx29 + 6 by omega), ?_, e32, ?_, h⟩ <;> first | (simp only [ua, d16, d22, d28, n34, e32, e33, H31, d35, nm, seval] <;> rfl) | rfl) ?_
  rintro m ⟨tm, H, nx36, df⟩ hinv
  rw [hI36] at hinv
  obtain ⟨p36, c36_4, rfl, hi36, hp36, hdf, hn36, H38, e39, e40, h⟩ := hinv
  simp only at hdf hn36 H38 e39 e40
  have n41 := base_ne0 (m := 22) (b := nx36) (by omega)
  have n42 := base_ne (a := nx29) (m := 6) (b := nx36) (by omega)
  subst hdf hf36
  cases p36 with
  | nil =>
   have d43 : (decide (c36_4 < (List.length x0_s.Coats : Int))) = false := not_lt_of_drop hi36 hp36
   simp only [g_ref03_Sheet_l1, hs, reduceCtorEq] at h
   replace h := kG36 _ h
   try dsimp only at h
   try simp only [hs] at h
   try simp only [vz, tyf, d16, d22, d28, g30, n34, d35, g37, n41, n42, e39, e40, H38, d43, nm, seval]
   obtain rfl := kF _ h
   exact opd_bool Tryz.results19 rfl
  | cons e36 p36 =>
   have d44 : (decide (c36_4 < (List.length x0_s.Coats : Int))) = true := lt_of_drop hi36 hp36
   have o46 := getI_of_drop hi36 hp36
   have w45 := wrap_next hi36 hp36 g37
   simp only [g_ref03_Sheet_l1, hs, reduceCtorEq] at h
   simp only [vz, tyf, d16, d22, d28, g30, n34, d35, g37, n41, n42, e39, e40, H38, d44, (ix24 o46), w45, nm, seval]
   refine cwp_drwQF (fun tm => tm 1 = .ptr 0 0 ∧ tm 4 = .lit (.int .i64 c36_4) ∧ True) (by refine ⟨e39, e40, trivial⟩ <;> first | (simp only [ua, d16, d22, d28, n34, d35, n41, n42, e39, e40, H38, d44, w45, nm, seval] <;> rfl) | rfl) ?_
   rintro tm ⟨e47, e48, _⟩
   have b49 := And.intro d16 (And.intro d22 (And.intro d28 (And.intro g30 (And.intro n34 (And.intro d35 (And.intro g37 (And.intro n41 (And.intro n42 (And.intro H38 (And.intro d44 w45))))))))))
   rcases o51 : (g_ref03_in e36.Need 1 288) with _ | r50
   ·simp only [o51, hs] at h
    exact absurd h kN36
   simp only [o51, hs] at h
   simp only [vz, tyf, b49, (ix24 o46), e47, e48, nm, seval]
   refine dktree (args0 := [.lit (.int .i64 e36.Need), .lit (.int .i64 1), .lit (.int .i64 288)]) (by first | (simp only [nrm, tynrm] <;> rfl) | rfl) (by simp only [tre, tytre, Bool.and_self]) (g_ref03_in_ok _ _ _ _ o51) ?_
   refine fin_cut (fun tm => tm 1 = .ptr 0 0 ∧ tm 4 = .lit (.int .i64 c36_4) ∧ tm 68 = .lit (.bool r50) ∧ True) (by refine ⟨e47, e48, ?_, trivial⟩ <;> first | (simp only [ua, b49, e47, e48, nm, seval] <;> rfl) | rfl) ?_
   rintro tm ⟨e52, e53, e54, _⟩
   cases d55 : (r50)
   ·simp only [d55, hs] at h
    try simp only [vz, tyf, b49, (ix24 o46), e52, e53, e54, d55, nm, seval]
    replace h := kR36 _ h
    try dsimp only at h
    obtain rfl := kF _ h
    exact opd_bool Tryz.results19 rfl
   simp only [d55, hs] at h
   rcases o57 : (g_ref03_in e36.Peel e36.Need 400) with _ | r56
   ·simp only [o57, hs] at h
    exact absurd h kN36
   simp only [o57, hs] at h
   simp only [vz, tyf, b49, (ix24 o46), e52, e53, e54, d55, nm, seval]
   refine dktree (args0 := [.lit (.int .i64 e36.Peel), .lit (.int .i64 e36.Need), .lit (.int .i64 400)]) (by first | (simp only [nrm, tynrm] <;> rfl) | rfl) (by simp only [tre, tytre, Bool.and_self]) (g_ref03_in_ok _ _ _ _ o57) ?_
   refine fin_cut (fun tm => tm 1 = .ptr 0 0 ∧ tm 4 = .lit (.int .i64 c36_4) ∧ tm 70 = .lit (.bool false) ∧ tm 83 = .lit (.bool r56) ∧ True) (by refine ⟨e52, e53, ?_, ?_, trivial⟩ <;> first | (simp only [ua, b49, e52, e53, e54, d55, nm, seval] <;> rfl) | rfl) ?_
   rintro tm ⟨e58, e59, e60, e61, _⟩
   cases d62 : (r56)
   ·simp only [d62, hs] at h
    try simp only [vz, tyf, b49, (ix24 o46), d55, e58, e59, e60, e61, d62, nm, seval]
    replace h := kR36 _ h
    try dsimp only at h
    obtain rfl := kF _ h
    exact opd_bool Tryz.results19 rfl
   simp only [d62, hs] at h
   simp only [vz, tyf, b49, (ix24 o46), d55, e58, e59, e60, e61, d62, nm, seval]
   exact ⟨List.length p36, Nat.lt_succ_self _, by rw [hI36]; refine ⟨p36, c36_4 + 1, rfl, Int.le_trans hi36 (Int.le_add_one (Int.le_refl _)), drop_next hi36 hp36, rfl, (show nx29 + 6 ≤ nx36 + 32 by omega), ?_, e58, ?_, h⟩ <;> first | (simp only [ua, b49, d55, e58, e59, e60, e61, d62, nm, seval] <;> rfl) | rfl⟩
 | cons e29 p29 =>
  have d63 : (decide (c29_3 < (List.length x0_s.Dry : Int))) = true := lt_of_drop hi29 hp29
  have o65 := getI_of_drop hi29 hp29
  have w64 := wrap_next hi29 hp29 g30
  simp only [g_ref03_Sheet_l0, hs, reduceCtorEq] at h
  simp only [vz, tyf, d16, d22, d28, g30, n34, e32, e33, H31, d63, (ix22 o65), w64, nm, seval]
  refine cwp_drwQF (fun tm => tm 1 = .ptr 0 0 ∧ tm 3 = .lit (.int .i64 c29_3) ∧ True) (by refine ⟨e32, e33, trivial⟩ <;> first | (simp only [ua, d16, d22, d28, n34, e32, e33, H31, d63, w64, nm, seval] <;> rfl) | rfl) ?_
  rintro tm ⟨e66, e67, _⟩
  have b68 := And.intro d16 (And.intro d22 (And.intro d28 (And.intro g30 (And.intro n34 (And.intro H31 (And.intro d63 w64))))))
  rcases o70 : (g_ref03_in e29.Low 0 24) with _ | r69
  ·simp only [o70, hs] at h
   exact absurd h kN29
  simp only [o70, hs] at h
  simp only [vz, tyf, b68, (ix22 o65), e66, e67, nm, seval]
  refine dktree (args0 := [.lit (.int .i64 e29.Low), .lit (.int .i64 0), .lit (.int .i64 24)]) (by first | (simp only [nrm, tynrm] <;> rfl) | rfl) (by simp only [tre, tytre, Bool.and_self]) (g_ref03_in_ok _ _ _ _ o70) ?_
  refine fin_cut (fun tm => tm 1 = .ptr 0 0 ∧ tm 3 = .lit (.int .i64 c29_3) ∧ tm 37 = .lit (.bool r69) ∧ True) (by refine ⟨e66, e67, ?_, trivial⟩ <;> first | (simp only [ua, b68, e66, e67, nm, seval] <;> rfl) | rfl) ?_
  rintro tm ⟨e71, e72, e73, _⟩
  cases d74 : (r69)
  ·simp only [d74, hs] at h
   try simp only [vz, tyf, b68, (ix22 o65), e71, e72, e73, d74, nm, seval]
   replace h := kR29 _ h
   try dsimp only at h
   obtain rfl := kF _ h
   exact opd_bool Tryz.results19 rfl
  simp only [d74, hs] at h
  rcases o76 : (g_ref03_in e29.High e29.Low 24) with _ | r75
  ·simp only [o76, hs] at h
   exact absurd h kN29
  simp only [o76, hs] at h
  simp only [vz, tyf, b68, (ix22 o65), e71, e72, e73, d74, nm, seval]
  refine dktree (args0 := [.lit (.int .i64 e29.High), .lit (.int .i64 e29.Low), .lit (.int .i64 24)]) (by first | (simp only [nrm, tynrm] <;> rfl) | rfl) (by simp only [tre, tytre, Bool.and_self]) (g_ref03_in_ok _ _ _ _ o76) ?_
  refine fin_cut (fun tm => tm 1 = .ptr 0 0 ∧ tm 3 = .lit (.int .i64 c29_3) ∧ tm 39 = .lit (.bool false) ∧ tm 52 = .lit (.bool r75) ∧ True) (by refine ⟨e71, e72, ?_, ?_, trivial⟩ <;> first | (simp only [ua, b68, e71, e72, e73, d74, nm, seval] <;> rfl) | rfl) ?_
  rintro tm ⟨e77, e78, e79, e80, _⟩
  cases d81 : (r75)
  ·simp only [d81, hs] at h
   try simp only [vz, tyf, b68, (ix22 o65), d74, e77, e78, e79, e80, d81, nm, seval]
   replace h := kR29 _ h
   try dsimp only at h
   obtain rfl := kF _ h
   exact opd_bool Tryz.results19 rfl
  simp only [d81, hs] at h
  simp only [vz, tyf, b68, (ix22 o65), d74, e77, e78, e79, e80, d81, nm, seval]
  exact ⟨List.length p29, Nat.lt_succ_self _, by rw [hI29]; refine ⟨p29, c29_3 + 1, rfl, Int.le_trans hi29 (Int.le_add_one (Int.le_refl _)), drop_next hi29 hp29, rfl, (show 22 ≤ nx29 + 32 by omega), ?_, e77, ?_, h⟩ <;> first | (simp only [ua, b68, d74, e77, e78, e79, e80, d81, nm, seval] <;> rfl) | rfl⟩
end Go.V
end
section
namespace Go.V
open Go Go.Proofs
end Go.V
end
section
namespace Go.V
open Go Go.Proofs
end Go.V
end
section
namespace Go.V
open Go Go.Proofs
end Go.V
end
section
namespace Go.V
open Go Go.Proofs
def g_law03_short (x0_s : GCoatSheet) : Option (Bool) := cond (decide ((List.length x0_s.Dry : Int) ≤ 14)) (cond (decide ((List.length x0_s.Work : Int) ≤ 16)) (some (decide ((List.length x0_s.Coats : Int) ≤ 7))) (some false)) (some false)
theorem g_law03_short_ok (x0_s : GCoatSheet) (R : Bool) (h : g_law03_short x0_s = some R) : VPure Tryz.prog G0 15 [.agg (cGCoatSheet x0_s)] (.tree (.lit (.bool R))) := by
 refine VPure.runR mixed Tryz.call15 Tryz.func15 rfl (by simp [Tryz.ntmps15]; kernel_rfl) ?_
 obtain ⟨KF, h, kF, kN⟩ := fun_intro h
 simp only [g_law03_short] at h
 cases d1 : (decide ((List.length x0_s.Dry : Int) ≤ 14))
 ·simp only [d1, hs] at h
  try simp only [vz, tyf, d1, nm, seval]
  obtain rfl := kF _ h
  exact opd_bool Tryz.results15 rfl
 simp only [d1, hs] at h
 cases d2 : (decide ((List.length x0_s.Work : Int) ≤ 16))
 ·simp only [d2, hs] at h
  try simp only [vz, tyf, d1, d2, nm, seval]
  obtain rfl := kF _ h
  exact opd_bool Tryz.results15 rfl
 simp only [d2, hs] at h
 try simp only [vz, tyf, d1, d2, nm, seval]
 obtain rfl := kF _ h
 exact opd_bool Tryz.results15 rfl
end Go.V
end
section
namespace Go.V
open Go Go.Proofs
end Go.V
end
