/- Part of a proof: a logic of values by content, lifted functions, what follows. -/
import Derived.Test.YtbpeickbdiihcaaGreatDoorRbe
import Derived.Test.YtbpeickbdiihcaaGreatDoorRbc
set_option linter.all false
set_option maxRecDepth 4000
set_option maxHeartbeats 4000000
section
set_option linter.unusedVariables false
set_option linter.unusedSimpArgs false
namespace Go.V
open Go
def neB {α : Type} (xs : List α) : Bool := !xs.isEmpty
theorem neB_pos {α : Type} {xs : List α} (h : neB xs = true) : 0 < xs.length := by
 cases xs with
 | nil => cases h
 | cons a l => exact Nat.succ_pos _
section
variable {P : Program} {H : Nat → Option VObj} {γ : Nat} {α : Type} {enc : α → List VV} {t t2 e e2 w b : Nat} {xs ys : List α} {el : Option TypeId} {β : Nat} {f : Bool} {k : VV → VEff → Prop}
theorem k_appS (he : ∀ x, (enc x).length = w) (hl : ∀ x, leafL (enc x) = true) (ha : appOk P t = some (e, w, b)) (hu2 : P.underlying t2 = some (.slice e2)) (hb : H β = some (.cells el (cellsL enc xs)))
  (hm : neB ys = true) (hr : roomOk b (xs ++ ys).length = true) (h : k (.ref γ 0 (xs ++ ys).length w (xs ++ ys).length) (.mv β (sameEl el e) (cellsL enc (xs ++ ys)))) :
  oeK (vappend P H γ t t2 (.ref β 0 xs.length w xs.length) (.sl (cellsL enc ys) ys.length f)) k := by
 have hm := neB_pos hm
 obtain ⟨hu, inf, z, hi, hz, rfl, rfl, hs0, hb0, hzs⟩ := appOk_some ha
 have hr' : (xs.length + ys.length) * inf.bytes ≤ 140737488355328 := by simpa [roomOk] using hr
 have h4 : (cellsL enc ys).all VV.leaf = true := by rw [leafL_all]; exact leafL_cells hl ys
 have h2 := cellsL_length he ys
 have h1 := cellsL_length he xs
 have h5 : (cellsL enc ys).take (ys.length * inf.size) = cellsL enc ys := List.take_of_length_le (by omega)
 have h6 : ¬ (xs.length + ys.length ≤ xs.length) := by omega
 have key : vappend P H γ t t2 (.ref β 0 xs.length inf.size xs.length) (.sl (cellsL enc ys) ys.length f) = some (.ref γ 0 (xs ++ ys).length inf.size (xs ++ ys).length, .mv β (sameEl el e) (cellsL enc (xs ++ ys))) := by
  simp only [vappend, nilS, vappend1, hu, hu2, hi, hz, srcV, sls, h5, h4, hs0, hb0, hzs, hb]
  simp [h2, h6, h1, hr', cellsL_append]
 rw [key]
 exact h
theorem k_appNS (he : ∀ x, (enc x).length = w) (hl : ∀ x, leafL (enc x) = true) (ha : appOk P t = some (e, w, b)) (hu2 : P.underlying t2 = some (.slice e2))
  (hm : neB ys = true) (hr : roomOk b ([] ++ ys).length = true) (h : k (.ref γ 0 ([] ++ ys).length w ([] ++ ys).length) (.new (.cells (some e) (cellsL enc ([] ++ ys))))) :
  oeK (vappend P H γ t t2 (.lit (.slice none 0 0)) (.sl (cellsL enc ys) ys.length f)) k := by
 have hm := neB_pos hm
 obtain ⟨hu, inf, z, hi, hz, rfl, rfl, hs0, hb0, hzs⟩ := appOk_some ha
 have hr' : ys.length * inf.bytes ≤ 140737488355328 := by simpa [roomOk] using hr
 have h4 : (cellsL enc ys).all VV.leaf = true := by rw [leafL_all]; exact leafL_cells hl ys
 have h2 := cellsL_length he ys
 have h5 : (cellsL enc ys).take (ys.length * inf.size) = cellsL enc ys := List.take_of_length_le (by omega)
 have h6 : ys ≠ [] := by intro h; rw [h] at hm; exact absurd hm (by simp)
 have key : vappend P H γ t t2 (.lit (.slice none 0 0)) (.sl (cellsL enc ys) ys.length f) = some (.ref γ 0 ([] ++ ys).length inf.size ([] ++ ys).length, .new (.cells (some e) (cellsL enc ([] ++ ys)))) := by
  simp only [vappend, nilS, vappend1, hu, hu2, hi, hz, srcV, sls, h5, h4, hs0, hb0, hzs]
  simp [h2, h6, hr']
 rw [key]
 exact h
theorem setA {x : α} {i : Int} (he : ∀ x, (enc x).length = w) (h : getI xs i = some x) : (i.toNat * w + w ≤ (cellsL enc xs).length) = True := by
 obtain ⟨h0, h1, _⟩ := getI_drop h
 rw [cellsL_length he, eq_true_iff_of_true]
 have : i.toNat + 1 ≤ xs.length := by omega
 have := Nat.mul_le_mul_right w this
 rw [Nat.add_mul, Nat.one_mul] at this
 exact this
 where
 eq_true_iff_of_true : ∀ {p : Prop}, (p = True) = p := fun {p} => propext ⟨fun h => h ▸ trivial, fun h => eq_true h⟩
theorem setB {x : α} {i : Int} (v : α) (he : ∀ x, (enc x).length = w) (h : getI xs i = some x) : overwrite (cellsL enc xs) (i.toNat * w) (enc v) = cellsL enc (xs.set i.toNat v) := by
 obtain ⟨h0, h1, h2⟩ := getI_drop h
 have hn : i.toNat < xs.length := by omega
 have e1 : xs = xs.take i.toNat ++ (x :: xs.drop (i.toNat + 1)) := by
  rw [← h2, List.take_append_drop]
 have e2 : xs.set i.toNat v = xs.take i.toNat ++ (v :: xs.drop (i.toNat + 1)) := by
  rw [List.set_eq_take_append_cons_drop, if_pos hn]
 have hl : (xs.take i.toNat).length = i.toNat := by rw [List.length_take]; omega
 have t1 : (cellsL enc xs).take (i.toNat * w) = cellsL enc (xs.take i.toNat) := by
  have hq : cellsL enc xs = cellsL enc (xs.take i.toNat) ++ cellsL enc (x :: xs.drop (i.toNat + 1)) := by rw [← cellsL_append, ← e1]
  rw [hq, List.take_left' (by rw [cellsL_length he, hl])]
 have t2 : (cellsL enc xs).drop (i.toNat * w + (enc v).length) = cellsL enc (xs.drop (i.toNat + 1)) := by
  have hq : xs = (xs.take i.toNat ++ [x]) ++ xs.drop (i.toNat + 1) := by rw [List.append_assoc]; exact e1
  have hd := cellsL_drop (enc := enc) he hq
  rw [List.length_append, hl] at hd
  rw [he v, show i.toNat * w + w = (i.toNat + [x].length) * w by rw [List.length_singleton, Nat.add_mul, Nat.one_mul]]
  exact hd
 unfold overwrite
 rw [t1, t2, e2, cellsL_append, List.append_assoc]
 rfl
end
theorem binV_slNil {P : Program} {H : Nat → Option VObj} {t e : TypeId} {x y : Operand} {cs : List VV} {n : Nat} {f : Bool} (hu : P.underlying t = some (.slice e)) (hc : cs ≠ []) : binV P H .eql t x y (.sl cs n f) (.lit (.slice none 0 0)) = some (.lit (.bool false)) := by
 simp [binV, VV.val?, vptrEq, vptrEq.eq1, hu, hc]
end Go.V
end
section
namespace Go.V
open Go Go.Proofs
def g_limits_IsFrom (x0_least : Int) (x1_n : Int) (x2_most : Int) : Option (Bool) := cond (decide (x0_least ≤ x1_n)) (some (decide (x1_n ≤ x2_most))) (some false)
theorem g_limits_IsFrom_ok (x0_least : Int) (x1_n : Int) (x2_most : Int) (R : Bool) (h : g_limits_IsFrom x0_least x1_n x2_most = some R) : VPure Tryz.prog G0 97 [.lit (.int .i64 x0_least), .lit (.int .i64 x1_n), .lit (.int .i64 x2_most)] (.tree (.lit (.bool R))) := by
 refine VPure.runR mixed Tryz.call97 Tryz.func97 rfl (by simp [Tryz.ntmps97]; kernel_rfl) ?_
 obtain ⟨KF, h, kF, kN⟩ := fun_intro h
 simp only [g_limits_IsFrom] at h
 cases d1 : (decide (x0_least ≤ x1_n))
 ·simp only [d1, hs, reduceCtorEq] at h
  simp only [vz, tyf, d1, nm, seval]
  obtain rfl := kF _ h
  exact opd_bool Tryz.results97 (by first | rfl | (simp only [upd_apply, seval] <;> rfl))
 simp only [d1, hs, reduceCtorEq] at h
 simp only [vz, tyf, d1, nm, seval]
 obtain rfl := kF _ h
 exact opd_bool Tryz.results97 (by first | rfl | (simp only [upd_apply, seval] <;> rfl))
end Go.V
end
section
namespace Go.V
open Go Go.Proofs
def g_limits_IsSpan (x0_least : Int) (x1_x : GSpan) (x2_most : Int) : Option (Bool) := cond (decide (x0_least ≤ x1_x.Low)) (cond (decide (x1_x.Low ≤ x1_x.High)) (some (decide (x1_x.High ≤ x2_most))) (some false)) (some false)
theorem g_limits_IsSpan_ok (x0_least : Int) (x1_x : GSpan) (x2_most : Int) (R : Bool) (h : g_limits_IsSpan x0_least x1_x x2_most = some R) : VPure Tryz.prog G0 98 [.lit (.int .i64 x0_least), .agg (cGSpan x1_x), .lit (.int .i64 x2_most)] (.tree (.lit (.bool R))) := by
 refine VPure.runR mixed Tryz.call98 Tryz.func98 rfl (by simp [Tryz.ntmps98]; kernel_rfl) ?_
 obtain ⟨KF, h, kF, kN⟩ := fun_intro h
 simp only [g_limits_IsSpan] at h
 cases d1 : (decide (x0_least ≤ x1_x.Low))
 ·simp only [d1, hs, reduceCtorEq] at h
  simp only [vz, tyf, d1, nm, seval]
  obtain rfl := kF _ h
  exact opd_bool Tryz.results98 (by first | rfl | (simp only [upd_apply, seval] <;> rfl))
 simp only [d1, hs, reduceCtorEq] at h
 cases d2 : (decide (x1_x.Low ≤ x1_x.High))
 ·simp only [d2, hs, reduceCtorEq] at h
  simp only [vz, tyf, d1, d2, nm, seval]
  obtain rfl := kF _ h
  exact opd_bool Tryz.results98 (by first | rfl | (simp only [upd_apply, seval] <;> rfl))
 simp only [d2, hs, reduceCtorEq] at h
 simp only [vz, tyf, d1, d2, nm, seval]
 obtain rfl := kF _ h
 exact opd_bool Tryz.results98 (by first | rfl | (simp only [upd_apply, seval] <;> rfl))
end Go.V
end
section
namespace Go.V
open Go Go.Proofs
def g_sight_isLetter (x0_letter : GSightLetter) : Option (Bool) := Option.bind (g_limits_IsFrom 1 x0_letter.Height 30) (fun r1 => cond (r1) (Option.bind (g_limits_IsFrom 1 x0_letter.Width 30) (fun r2 => cond (r2) (Option.bind (g_limits_IsFrom 1 x0_letter.Stroke 10) (fun r3 => cond (r3) (Option.bind (g_limits_IsFrom 0 x0_letter.Space 20) (fun r4 => some r4)) (some false))) (some false))) (some false))
theorem g_sight_isLetter_ok (x0_letter : GSightLetter) (R : Bool) (h : g_sight_isLetter x0_letter = some R) : VPure Tryz.prog G0 134 [.agg (cGSightLetter x0_letter)] (.tree (.lit (.bool R))) := by
 refine VPure.runR mixed Tryz.call134 Tryz.func134 rfl (by simp [Tryz.ntmps134]; kernel_rfl) ?_
 obtain ⟨KF, h, kF, kN⟩ := fun_intro h
 simp only [g_sight_isLetter] at h
 cases o6 : (g_limits_IsFrom 1 x0_letter.Height 30) with
 | none =>
  simp only [o6, hs, reduceCtorEq] at h
  exact absurd h kN
 | some r5 =>
  simp only [o6, hs, reduceCtorEq] at h
  simp only [vz, tyf, nm, seval]
  refine ktree (args0 := [.lit (.int .i64 1), .lit (.int .i64 x0_letter.Height), .lit (.int .i64 30)]) (by first | (simp only [nrm, tynrm] <;> rfl) | rfl) (by simp only [tre, tytre, Bool.and_self]) (g_limits_IsFrom_ok _ _ _ _ o6) ?_
  refine fin_cut (fun tm => tm 1 = .ptr 0 0 ∧ tm 5 = .lit (.bool r5) ∧ True) (by refine ⟨?_, ?_, trivial⟩ <;> first | (simp only [ua, nm, seval] <;> rfl) | rfl) ?_
  rintro tm ⟨e7, e8, _⟩
  cases d9 : (r5)
  ·simp only [d9, hs, reduceCtorEq] at h
   simp only [vz, tyf, e7, e8, d9, nm, seval]
   obtain rfl := kF _ h
   exact opd_bool Tryz.results134 (by first | rfl | (simp only [upd_apply, seval] <;> rfl))
  simp only [d9, hs, reduceCtorEq] at h
  cases o11 : (g_limits_IsFrom 1 x0_letter.Width 30) with
  | none =>
   simp only [o11, hs, reduceCtorEq] at h
   exact absurd h kN
  | some r10 =>
   simp only [o11, hs, reduceCtorEq] at h
   simp only [vz, tyf, e7, e8, d9, nm, seval]
   refine ktree (args0 := [.lit (.int .i64 1), .lit (.int .i64 x0_letter.Width), .lit (.int .i64 30)]) (by first | (simp only [nrm, tynrm] <;> rfl) | rfl) (by simp only [tre, tytre, Bool.and_self]) (g_limits_IsFrom_ok _ _ _ _ o11) ?_
   refine fin_cut (fun tm => tm 1 = .ptr 0 0 ∧ tm 6 = .lit (.bool true) ∧ tm 9 = .lit (.bool r10) ∧ True) (by refine ⟨e7, ?_, ?_, trivial⟩ <;> first | (simp only [ua, e7, e8, d9, nm, seval] <;> rfl) | rfl) ?_
   rintro tm ⟨e12, e13, e14, _⟩
   cases d15 : (r10)
   ·simp only [d15, hs, reduceCtorEq] at h
    simp only [vz, tyf, d9, e12, e13, e14, d15, nm, seval]
    obtain rfl := kF _ h
    exact opd_bool Tryz.results134 (by first | rfl | (simp only [upd_apply, seval] <;> rfl))
   simp only [d15, hs, reduceCtorEq] at h
   cases o17 : (g_limits_IsFrom 1 x0_letter.Stroke 10) with
   | none =>
    simp only [o17, hs, reduceCtorEq] at h
    exact absurd h kN
   | some r16 =>
    simp only [o17, hs, reduceCtorEq] at h
    simp only [vz, tyf, d9, e12, e13, e14, d15, nm, seval]
    refine ktree (args0 := [.lit (.int .i64 1), .lit (.int .i64 x0_letter.Stroke), .lit (.int .i64 10)]) (by first | (simp only [nrm, tynrm] <;> rfl) | rfl) (by simp only [tre, tytre, Bool.and_self]) (g_limits_IsFrom_ok _ _ _ _ o17) ?_
    refine fin_cut (fun tm => tm 1 = .ptr 0 0 ∧ tm 11 = .lit (.bool true) ∧ tm 14 = .lit (.bool r16) ∧ True) (by refine ⟨e12, ?_, ?_, trivial⟩ <;> first | (simp only [ua, d9, e12, e13, e14, d15, nm, seval] <;> rfl) | rfl) ?_
    rintro tm ⟨e18, e19, e20, _⟩
    cases d21 : (r16)
    ·simp only [d21, hs, reduceCtorEq] at h
     simp only [vz, tyf, d9, d15, e18, e19, e20, d21, nm, seval]
     obtain rfl := kF _ h
     exact opd_bool Tryz.results134 (by first | rfl | (simp only [upd_apply, seval] <;> rfl))
    simp only [d21, hs, reduceCtorEq] at h
    cases o23 : (g_limits_IsFrom 0 x0_letter.Space 20) with
    | none =>
     simp only [o23, hs, reduceCtorEq] at h
     exact absurd h kN
    | some r22 =>
     simp only [o23, hs, reduceCtorEq] at h
     simp only [vz, tyf, d9, d15, e18, e19, e20, d21, nm, seval]
     refine ktree (args0 := [.lit (.int .i64 0), .lit (.int .i64 x0_letter.Space), .lit (.int .i64 20)]) (by first | (simp only [nrm, tynrm] <;> rfl) | rfl) (by simp only [tre, tytre, Bool.and_self]) (g_limits_IsFrom_ok _ _ _ _ o23) ?_
     refine fin_cut (fun tm => tm 16 = .lit (.bool true) ∧ tm 19 = .lit (.bool r22) ∧ True) (by refine ⟨?_, ?_, trivial⟩ <;> first | (simp only [ua, d9, d15, e18, e19, e20, d21, nm, seval] <;> rfl) | rfl) ?_
     rintro tm ⟨e24, e25, _⟩
     simp only [vz, tyf, d9, d15, d21, e24, e25, nm, seval]
     obtain rfl := kF _ h
     exact opd_bool Tryz.results134 (by first | rfl | (simp only [upd_apply, seval] <;> rfl))
end Go.V
end
section
namespace Go.V
open Go Go.Proofs
def g_sight_areLetters_l0  : List GSightLetter → Int → Option (LOut (Bool) (Unit))
 | [], c0_11 => some (.go ())
 | e0 :: p0, c0_11 => Option.bind (g_sight_isLetter e0) (fun r2 => cond (r2) (g_sight_areLetters_l0 p0 (c0_11 + 1)) (some (.ret false)))
def g_sight_areLetters (x0_letters : List GSightLetter) : Option (Bool) := Option.bind (g_limits_IsFrom 1 (List.length x0_letters : Int) 5) (fun r1 => cond (r1) (cond (lenOk x0_letters) (lbind (g_sight_areLetters_l0 x0_letters 0) (fun r5 => some r5) (fun c3 => Option.bind (getI x0_letters (IntKind.i64.wrap ((List.length x0_letters : Int) - 1))) (fun x4 => some (x4.Space == 0))) (fun _ _ => none)) none) (some false))
theorem g_sight_areLetters_ok (x0_letters : List GSightLetter) (R : Bool) (h : g_sight_areLetters x0_letters = some R) : VPure Tryz.prog G0 123 [.sl (cellsL cGSightLetter x0_letters) (List.length x0_letters) false] (.tree (.lit (.bool R))) := by
 refine VPure.runR mixed Tryz.call123 Tryz.func123 rfl (by simp [Tryz.ntmps123]; kernel_rfl) ?_
 obtain ⟨KF, h, kF, kN⟩ := fun_intro h
 simp only [g_sight_areLetters] at h
 cases o7 : (g_limits_IsFrom 1 (List.length x0_letters : Int) 5) with
 | none =>
  simp only [o7, hs, reduceCtorEq] at h
  exact absurd h kN
 | some r6 =>
  simp only [o7, hs, reduceCtorEq] at h
  simp only [vz, tyf, nm, seval]
  refine ktree (args0 := [.lit (.int .i64 1), .lit (.int .i64 (List.length x0_letters : Int)), .lit (.int .i64 5)]) (by first | (simp only [nrm, tynrm] <;> rfl) | rfl) (by simp only [tre, tytre, Bool.and_self]) (g_limits_IsFrom_ok _ _ _ _ o7) ?_
  refine fin_cut (fun tm => tm 0 = .sl (cellsL cGSightLetter x0_letters) (List.length x0_letters) false ∧ tm 7 = .lit (.bool r6) ∧ True) (by refine ⟨?_, ?_, trivial⟩ <;> first | (simp only [ua, nm, seval] <;> rfl) | rfl) ?_
  rintro tm ⟨e8, e9, _⟩
  cases d10 : (r6)
  ·simp only [d10, hs, reduceCtorEq] at h
   simp only [vz, tyf, e8, e9, d10, nm, seval]
   obtain rfl := kF _ h
   exact opd_bool Tryz.results123 (by first | rfl | (simp only [upd_apply, seval] <;> rfl))
  simp only [d10, hs, reduceCtorEq] at h
  cases g12 : (lenOk x0_letters)
  ·simp only [g12, hs, reduceCtorEq] at h
   exact absurd h kN
  simp only [g12, hs, reduceCtorEq] at h
  simp only [vz, tyf, e8, e9, d10, g12, nm, seval]
  obtain ⟨K11, h, kR11, kG11, kB11, kN11⟩ := lbind_intro h kN
  obtain ⟨f11, hf11, h⟩ := call2 h
  obtain ⟨I11, hI11⟩ : ∃ I : Nat → St → Prop, I = (fun m st => ∃ (p11 : List GSightLetter) (c11_11 : Int), m = List.length p11 ∧ 0 ≤ c11_11 ∧ List.drop (Int.toNat c11_11) x0_letters = p11 ∧ st.df = [] ∧ 8 ≤ st.nx ∧ st.tm 0 = .sl (cellsL cGSightLetter x0_letters) (List.length x0_letters) false ∧ st.tm 9 = .sl (cellsL cGSightLetter x0_letters) (List.length x0_letters) false ∧ st.tm 10 = .lit (.int .i64 (List.length x0_letters : Int)) ∧ st.tm 11 = .lit (.int .i64 c11_11) ∧ K11 (f11 p11 c11_11)) := ⟨_, rfl⟩
  refine loopK mixed (by kernel_rfl) I11 (List.length x0_letters) (by rw [hI11]; refine ⟨x0_letters, 0, rfl, Int.le_refl _, rfl, rfl, (show 8 ≤ 8 by omega), e8, ?_, ?_, ?_, h⟩ <;> first | (simp only [ua, e8, e9, d10, nm, seval] <;> rfl) | rfl) ?_
  rintro m ⟨tm, H, nx11, df⟩ hinv
  rw [hI11] at hinv
  obtain ⟨p11, c11_11, rfl, hi11, hp11, hdf, hn11, e13, e14, e15, e16, h⟩ := hinv
  simp only at hdf hn11 e13 e14 e15 e16
  have n17 := base_ne0 (m := 8) (b := nx11) (by omega)
  subst hdf hf11
  cases p11 with
  | nil =>
   have d18 : (decide (c11_11 < (List.length x0_letters : Int))) = false := not_lt_of_drop hi11 hp11
   simp only [g_sight_areLetters_l0, hs, reduceCtorEq] at h
   replace h := kG11 _ h
   try dsimp only at h
   try simp only [hs] at h
   cases o20 : (getI x0_letters (IntKind.i64.wrap ((List.length x0_letters : Int) - 1))) with
   | none =>
    simp only [o20, hs, reduceCtorEq] at h
    exact absurd h kN
   | some x19 =>
    simp only [o20, hs, reduceCtorEq] at h
    simp only [vz, tyf, d10, g12, n17, e13, e14, e15, e16, d18, (ix40 o20), nm, seval]
    obtain rfl := kF _ h
    exact opd_bool Tryz.results123 (by first | rfl | (simp only [upd_apply, seval] <;> rfl))
  | cons e11 p11 =>
   have d21 : (decide (c11_11 < (List.length x0_letters : Int))) = true := lt_of_drop hi11 hp11
   have o23 := getI_of_drop hi11 hp11
   have w22 := wrap_next hi11 hp11 g12
   simp only [g_sight_areLetters_l0, hs, reduceCtorEq] at h
   cases o25 : (g_sight_isLetter e11) with
   | none =>
    simp only [o25, hs, reduceCtorEq] at h
    exact absurd h kN11
   | some r24 =>
    simp only [o25, hs, reduceCtorEq] at h
    simp only [vz, tyf, d10, g12, n17, e13, e14, e15, e16, d21, (ix40 o23), w22, nm, seval]
    refine ktree (args0 := [.agg (cGSightLetter e11)]) (by first | (simp only [nrm, tynrm] <;> rfl) | rfl) (by simp only [tre, tytre, Bool.and_self]) (g_sight_isLetter_ok _ _ o25) ?_
    refine fin_cut (fun tm => tm 0 = .sl (cellsL cGSightLetter x0_letters) (List.length x0_letters) false ∧ tm 9 = .sl (cellsL cGSightLetter x0_letters) (List.length x0_letters) false ∧ tm 10 = .lit (.int .i64 (List.length x0_letters : Int)) ∧ tm 11 = .lit (.int .i64 c11_11) ∧ tm 16 = .lit (.bool r24) ∧ True) (by refine ⟨e13, e14, e15, e16, ?_, trivial⟩ <;> first | (simp only [ua, d10, n17, e13, e14, e15, e16, d21, w22, nm, seval] <;> rfl) | rfl) ?_
    rintro tm ⟨e26, e27, e28, e29, e30, _⟩
    cases d31 : (r24)
    ·simp only [d31, hs, reduceCtorEq] at h
     simp only [vz, tyf, d10, g12, n17, d21, (ix40 o23), w22, e26, e27, e28, e29, e30, d31, nm, seval]
     replace h := kR11 _ h
     try dsimp only at h
     obtain rfl := kF _ h
     exact opd_bool Tryz.results123 (by first | rfl | (simp only [upd_apply, seval] <;> rfl))
    simp only [d31, hs, reduceCtorEq] at h
    simp only [vz, tyf, d10, g12, n17, d21, (ix40 o23), w22, e26, e27, e28, e29, e30, d31, nm, seval]
    exact ⟨List.length p11, Nat.lt_succ_self _, by rw [hI11]; refine ⟨p11, c11_11 + 1, rfl, Int.le_trans hi11 (Int.le_add_one (Int.le_refl _)), drop_next hi11 hp11, rfl, (show 8 ≤ nx11 + 10 by omega), e26, e27, e28, ?_, h⟩ <;> first | (simp only [ua, d10, n17, d21, w22, e26, e27, e28, e29, e30, d31, nm, seval] <;> rfl) | rfl⟩
end Go.V
end
section
namespace Go.V
open Go Go.Proofs
def g_sight_areBoards_l0 (x1_length : Int) : List GSightBoard → Int → Option (LOut (Bool) (Unit))
 | [], c0_13 => some (.go ())
 | e0 :: p0, c0_13 => Option.bind (g_limits_IsFrom 0 e0.At x1_length) (fun r2 => cond (r2) (Option.bind (g_sight_areLetters e0.Letters) (fun r3 => cond (r3) (g_sight_areBoards_l0 x1_length p0 (c0_13 + 1)) (some (.ret false)))) (some (.ret false)))
def g_sight_areBoards (x0_boards : List GSightBoard) (x1_length : Int) : Option (Bool) := Option.bind (g_limits_IsFrom 1 (List.length x0_boards : Int) 3) (fun r1 => cond (r1) (cond (lenOk x0_boards) (lbind (g_sight_areBoards_l0 x1_length x0_boards 0) (fun r5 => some r5) (fun c4 => some true) (fun _ _ => none)) none) (some false))
theorem g_sight_areBoards_ok (x0_boards : List GSightBoard) (x1_length : Int) (R : Bool) (h : g_sight_areBoards x0_boards x1_length = some R) : VPure Tryz.prog G0 99 [.sl (cellsL cGSightBoard x0_boards) (List.length x0_boards) false, .lit (.int .i64 x1_length)] (.tree (.lit (.bool R))) := by
 refine VPure.runR mixed Tryz.call99 Tryz.func99 rfl (by simp [Tryz.ntmps99]; kernel_rfl) ?_
 obtain ⟨KF, h, kF, kN⟩ := fun_intro h
 simp only [g_sight_areBoards] at h
 cases o7 : (g_limits_IsFrom 1 (List.length x0_boards : Int) 3) with
 | none =>
  simp only [o7, hs, reduceCtorEq] at h
  exact absurd h kN
 | some r6 =>
  simp only [o7, hs, reduceCtorEq] at h
  simp only [vz, tyf, nm, seval]
  refine ktree (args0 := [.lit (.int .i64 1), .lit (.int .i64 (List.length x0_boards : Int)), .lit (.int .i64 3)]) (by first | (simp only [nrm, tynrm] <;> rfl) | rfl) (by simp only [tre, tytre, Bool.and_self]) (g_limits_IsFrom_ok _ _ _ _ o7) ?_
  refine fin_cut (fun tm => tm 0 = .sl (cellsL cGSightBoard x0_boards) (List.length x0_boards) false ∧ tm 1 = .lit (.int .i64 x1_length) ∧ tm 9 = .lit (.bool r6) ∧ True) (by refine ⟨?_, ?_, ?_, trivial⟩ <;> first | (simp only [ua, nm, seval] <;> rfl) | rfl) ?_
  rintro tm ⟨e8, e9, e10, _⟩
  cases d11 : (r6)
  ·simp only [d11, hs, reduceCtorEq] at h
   simp only [vz, tyf, e8, e9, e10, d11, nm, seval]
   obtain rfl := kF _ h
   exact opd_bool Tryz.results99 (by first | rfl | (simp only [upd_apply, seval] <;> rfl))
  simp only [d11, hs, reduceCtorEq] at h
  cases g13 : (lenOk x0_boards)
  ·simp only [g13, hs, reduceCtorEq] at h
   exact absurd h kN
  simp only [g13, hs, reduceCtorEq] at h
  simp only [vz, tyf, e8, e9, e10, d11, g13, nm, seval]
  obtain ⟨K12, h, kR12, kG12, kB12, kN12⟩ := lbind_intro h kN
  obtain ⟨f12, hf12, h⟩ := call2 h
  obtain ⟨I12, hI12⟩ : ∃ I : Nat → St → Prop, I = (fun m st => ∃ (p12 : List GSightBoard) (c12_13 : Int), m = List.length p12 ∧ 0 ≤ c12_13 ∧ List.drop (Int.toNat c12_13) x0_boards = p12 ∧ st.df = [] ∧ 8 ≤ st.nx ∧ st.tm 1 = .lit (.int .i64 x1_length) ∧ st.tm 11 = .sl (cellsL cGSightBoard x0_boards) (List.length x0_boards) false ∧ st.tm 12 = .lit (.int .i64 (List.length x0_boards : Int)) ∧ st.tm 13 = .lit (.int .i64 c12_13) ∧ K12 (f12 p12 c12_13)) := ⟨_, rfl⟩
  refine loopK mixed (by kernel_rfl) I12 (List.length x0_boards) (by rw [hI12]; refine ⟨x0_boards, 0, rfl, Int.le_refl _, rfl, rfl, (show 8 ≤ 8 by omega), e9, ?_, ?_, ?_, h⟩ <;> first | (simp only [ua, e8, e9, e10, d11, nm, seval] <;> rfl) | rfl) ?_
  rintro m ⟨tm, H, nx12, df⟩ hinv
  rw [hI12] at hinv
  obtain ⟨p12, c12_13, rfl, hi12, hp12, hdf, hn12, e14, e15, e16, e17, h⟩ := hinv
  simp only at hdf hn12 e14 e15 e16 e17
  have n18 := base_ne0 (m := 8) (b := nx12) (by omega)
  subst hdf hf12
  cases p12 with
  | nil =>
   have d19 : (decide (c12_13 < (List.length x0_boards : Int))) = false := not_lt_of_drop hi12 hp12
   simp only [g_sight_areBoards_l0, hs, reduceCtorEq] at h
   replace h := kG12 _ h
   try dsimp only at h
   try simp only [hs] at h
   simp only [vz, tyf, d11, g13, n18, e14, e15, e16, e17, d19, nm, seval]
   obtain rfl := kF _ h
   exact opd_bool Tryz.results99 (by first | rfl | (simp only [upd_apply, seval] <;> rfl))
  | cons e12 p12 =>
   have d20 : (decide (c12_13 < (List.length x0_boards : Int))) = true := lt_of_drop hi12 hp12
   have o22 := getI_of_drop hi12 hp12
   have w21 := wrap_next hi12 hp12 g13
   simp only [g_sight_areBoards_l0, hs, reduceCtorEq] at h
   cases o24 : (g_limits_IsFrom 0 e12.At x1_length) with
   | none =>
    simp only [o24, hs, reduceCtorEq] at h
    exact absurd h kN12
   | some r23 =>
    simp only [o24, hs, reduceCtorEq] at h
    simp only [vz, tyf, d11, g13, n18, e14, e15, e16, e17, d20, (ix24 o22), w21, nm, seval]
    refine ktree (args0 := [.lit (.int .i64 0), .lit (.int .i64 e12.At), .lit (.int .i64 x1_length)]) (by first | (simp only [nrm, tynrm] <;> rfl) | rfl) (by simp only [tre, tytre, Bool.and_self]) (g_limits_IsFrom_ok _ _ _ _ o24) ?_
    refine fin_cut (fun tm => tm 1 = .lit (.int .i64 x1_length) ∧ tm 6 = .ptr (nx12 + 3) 0 ∧ tm 11 = .sl (cellsL cGSightBoard x0_boards) (List.length x0_boards) false ∧ tm 12 = .lit (.int .i64 (List.length x0_boards : Int)) ∧ tm 13 = .lit (.int .i64 c12_13) ∧ tm 20 = .lit (.bool r23) ∧ True) (by refine ⟨e14, ?_, e15, e16, e17, ?_, trivial⟩ <;> first | (simp only [ua, d11, n18, e14, e15, e16, e17, d20, w21, nm, seval] <;> rfl) | rfl) ?_
    rintro tm ⟨e25, e26, e27, e28, e29, e30, _⟩
    cases d31 : (r23)
    ·simp only [d31, hs, reduceCtorEq] at h
     simp only [vz, tyf, d11, g13, n18, d20, (ix24 o22), w21, e25, e26, e27, e28, e29, e30, d31, nm, seval]
     replace h := kR12 _ h
     try dsimp only at h
     obtain rfl := kF _ h
     exact opd_bool Tryz.results99 (by first | rfl | (simp only [upd_apply, seval] <;> rfl))
    simp only [d31, hs, reduceCtorEq] at h
    cases o33 : (g_sight_areLetters e12.Letters) with
    | none =>
     simp only [o33, hs, reduceCtorEq] at h
     exact absurd h kN12
    | some r32 =>
     simp only [o33, hs, reduceCtorEq] at h
     simp only [vz, tyf, d11, g13, n18, d20, (ix24 o22), w21, e25, e26, e27, e28, e29, e30, d31, nm, seval]
     refine ktree (args0 := [.sl (cellsL cGSightLetter e12.Letters) (List.length e12.Letters) false]) (by first | (simp only [nrm, tynrm] <;> rfl) | rfl) (by simp only [tre, tytre, Bool.and_self]) (g_sight_areLetters_ok _ _ o33) ?_
     refine fin_cut (fun tm => tm 1 = .lit (.int .i64 x1_length) ∧ tm 11 = .sl (cellsL cGSightBoard x0_boards) (List.length x0_boards) false ∧ tm 12 = .lit (.int .i64 (List.length x0_boards : Int)) ∧ tm 13 = .lit (.int .i64 c12_13) ∧ tm 22 = .lit (.bool false) ∧ tm 25 = .lit (.bool r32) ∧ True) (by refine ⟨e25, e27, e28, e29, ?_, ?_, trivial⟩ <;> first | (simp only [ua, d11, n18, d20, w21, e25, e26, e27, e28, e29, e30, d31, nm, seval] <;> rfl) | rfl) ?_
     rintro tm ⟨e34, e35, e36, e37, e38, e39, _⟩
     cases d40 : (r32)
     ·simp only [d40, hs, reduceCtorEq] at h
      simp only [vz, tyf, d11, g13, n18, d20, (ix24 o22), w21, d31, e34, e35, e36, e37, e38, e39, d40, nm, seval]
      replace h := kR12 _ h
      try dsimp only at h
      obtain rfl := kF _ h
      exact opd_bool Tryz.results99 (by first | rfl | (simp only [upd_apply, seval] <;> rfl))
     simp only [d40, hs, reduceCtorEq] at h
     simp only [vz, tyf, d11, g13, n18, d20, (ix24 o22), w21, d31, e34, e35, e36, e37, e38, e39, d40, nm, seval]
     exact ⟨List.length p12, Nat.lt_succ_self _, by rw [hI12]; refine ⟨p12, c12_13 + 1, rfl, Int.le_trans hi12 (Int.le_add_one (Int.le_refl _)), drop_next hi12 hp12, rfl, (show 8 ≤ nx12 + 18 by omega), e34, e35, e36, ?_, h⟩ <;> first | (simp only [ua, d11, n18, d20, w21, d31, e34, e35, e36, e37, e38, e39, d40, nm, seval] <;> rfl) | rfl⟩
end Go.V
end
section
namespace Go.V
open Go Go.Proofs
def g_sight_areBlocks_l0 (x1_length : Int) (x2_width : Int) : List GSightBlock → Int → Option (LOut (Bool) (Unit))
 | [], c0_11 => some (.go ())
 | e0 :: p0, c0_11 => Option.bind (g_limits_IsSpan 0 e0.Along x1_length) (fun r1 => cond (r1) (Option.bind (g_limits_IsSpan 1 e0.Across x2_width) (fun r2 => cond (r2) (g_sight_areBlocks_l0 x1_length x2_width p0 (c0_11 + 1)) (some (.ret false)))) (some (.ret false)))
def g_sight_areBlocks (x0_blocks : List GSightBlock) (x1_length : Int) (x2_width : Int) : Option (Bool) := cond (lenOk x0_blocks) (lbind (g_sight_areBlocks_l0 x1_length x2_width x0_blocks 0) (fun r4 => some r4) (fun c3 => some (decide ((List.length x0_blocks : Int) ≤ 4))) (fun _ _ => none)) none
theorem g_sight_areBlocks_ok (x0_blocks : List GSightBlock) (x1_length : Int) (x2_width : Int) (R : Bool) (h : g_sight_areBlocks x0_blocks x1_length x2_width = some R) : VPure Tryz.prog G0 100 [.sl (cellsL cGSightBlock x0_blocks) (List.length x0_blocks) false, .lit (.int .i64 x1_length), .lit (.int .i64 x2_width)] (.tree (.lit (.bool R))) := by
 refine VPure.runR mixed Tryz.call100 Tryz.func100 rfl (by simp [Tryz.ntmps100]; kernel_rfl) ?_
 obtain ⟨KF, h, kF, kN⟩ := fun_intro h
 simp only [g_sight_areBlocks] at h
 cases g6 : (lenOk x0_blocks)
 ·simp only [g6, hs, reduceCtorEq] at h
  exact absurd h kN
 simp only [g6, hs, reduceCtorEq] at h
 simp only [vz, tyf, g6, nm, seval]
 obtain ⟨K5, h, kR5, kG5, kB5, kN5⟩ := lbind_intro h kN
 obtain ⟨f5, hf5, h⟩ := call2 h
 obtain ⟨I5, hI5⟩ : ∃ I : Nat → St → Prop, I = (fun m st => ∃ (p5 : List GSightBlock) (c5_11 : Int), m = List.length p5 ∧ 0 ≤ c5_11 ∧ List.drop (Int.toNat c5_11) x0_blocks = p5 ∧ st.df = [] ∧ 4 ≤ st.nx ∧ st.tm 0 = .sl (cellsL cGSightBlock x0_blocks) (List.length x0_blocks) false ∧ st.tm 1 = .lit (.int .i64 x1_length) ∧ st.tm 2 = .lit (.int .i64 x2_width) ∧ st.tm 9 = .sl (cellsL cGSightBlock x0_blocks) (List.length x0_blocks) false ∧ st.tm 10 = .lit (.int .i64 (List.length x0_blocks : Int)) ∧ st.tm 11 = .lit (.int .i64 c5_11) ∧ K5 (f5 p5 c5_11)) := ⟨_, rfl⟩
 refine loopK mixed (by kernel_rfl) I5 (List.length x0_blocks) (by rw [hI5]; refine ⟨x0_blocks, 0, rfl, Int.le_refl _, rfl, rfl, (show 4 ≤ 4 by omega), ?_, ?_, ?_, ?_, ?_, ?_, h⟩ <;> first | (simp only [ua, nm, seval] <;> rfl) | rfl) ?_
 rintro m ⟨tm, H, nx5, df⟩ hinv
 rw [hI5] at hinv
 obtain ⟨p5, c5_11, rfl, hi5, hp5, hdf, hn5, e7, e8, e9, e10, e11, e12, h⟩ := hinv
 simp only at hdf hn5 e7 e8 e9 e10 e11 e12
 have n13 := base_ne0 (m := 4) (b := nx5) (by omega)
 subst hdf hf5
 cases p5 with
 | nil =>
  have d14 : (decide (c5_11 < (List.length x0_blocks : Int))) = false := not_lt_of_drop hi5 hp5
  simp only [g_sight_areBlocks_l0, hs, reduceCtorEq] at h
  replace h := kG5 _ h
  try dsimp only at h
  try simp only [hs] at h
  simp only [vz, tyf, g6, n13, e7, e8, e9, e10, e11, e12, d14, nm, seval]
  obtain rfl := kF _ h
  exact opd_bool Tryz.results100 (by first | rfl | (simp only [upd_apply, seval] <;> rfl))
 | cons e5 p5 =>
  have d15 : (decide (c5_11 < (List.length x0_blocks : Int))) = true := lt_of_drop hi5 hp5
  have o17 := getI_of_drop hi5 hp5
  have w16 := wrap_next hi5 hp5 g6
  simp only [g_sight_areBlocks_l0, hs, reduceCtorEq] at h
  cases o19 : (g_limits_IsSpan 0 e5.Along x1_length) with
  | none =>
   simp only [o19, hs, reduceCtorEq] at h
   exact absurd h kN5
  | some r18 =>
   simp only [o19, hs, reduceCtorEq] at h
   simp only [vz, tyf, g6, n13, e7, e8, e9, e10, e11, e12, d15, (ix25 o17), w16, nm, seval]
   refine ktree (args0 := [.lit (.int .i64 0), .agg (cGSpan e5.Along), .lit (.int .i64 x1_length)]) (by first | (simp only [nrm, tynrm] <;> rfl) | rfl) (by simp only [tre, tytre, Bool.and_self]) (g_limits_IsSpan_ok _ _ _ _ o19) ?_
   refine fin_cut (fun tm => tm 0 = .sl (cellsL cGSightBlock x0_blocks) (List.length x0_blocks) false ∧ tm 1 = .lit (.int .i64 x1_length) ∧ tm 2 = .lit (.int .i64 x2_width) ∧ tm 8 = .ptr (nx5 + 3) 0 ∧ tm 9 = .sl (cellsL cGSightBlock x0_blocks) (List.length x0_blocks) false ∧ tm 10 = .lit (.int .i64 (List.length x0_blocks : Int)) ∧ tm 11 = .lit (.int .i64 c5_11) ∧ tm 18 = .lit (.bool r18) ∧ True) (by refine ⟨e7, e8, e9, ?_, e10, e11, e12, ?_, trivial⟩ <;> first | (simp only [ua, n13, e7, e8, e9, e10, e11, e12, d15, w16, nm, seval] <;> rfl) | rfl) ?_
   rintro tm ⟨e20, e21, e22, e23, e24, e25, e26, e27, _⟩
   cases d28 : (r18)
   ·simp only [d28, hs, reduceCtorEq] at h
    simp only [vz, tyf, g6, n13, d15, (ix25 o17), w16, e20, e21, e22, e23, e24, e25, e26, e27, d28, nm, seval]
    replace h := kR5 _ h
    try dsimp only at h
    obtain rfl := kF _ h
    exact opd_bool Tryz.results100 (by first | rfl | (simp only [upd_apply, seval] <;> rfl))
   simp only [d28, hs, reduceCtorEq] at h
   cases o30 : (g_limits_IsSpan 1 e5.Across x2_width) with
   | none =>
    simp only [o30, hs, reduceCtorEq] at h
    exact absurd h kN5
   | some r29 =>
    simp only [o30, hs, reduceCtorEq] at h
    simp only [vz, tyf, g6, n13, d15, (ix25 o17), w16, e20, e21, e22, e23, e24, e25, e26, e27, d28, nm, seval]
    refine ktree (args0 := [.lit (.int .i64 1), .agg (cGSpan e5.Across), .lit (.int .i64 x2_width)]) (by first | (simp only [nrm, tynrm] <;> rfl) | rfl) (by simp only [tre, tytre, Bool.and_self]) (g_limits_IsSpan_ok _ _ _ _ o30) ?_
    refine fin_cut (fun tm => tm 0 = .sl (cellsL cGSightBlock x0_blocks) (List.length x0_blocks) false ∧ tm 1 = .lit (.int .i64 x1_length) ∧ tm 2 = .lit (.int .i64 x2_width) ∧ tm 9 = .sl (cellsL cGSightBlock x0_blocks) (List.length x0_blocks) false ∧ tm 10 = .lit (.int .i64 (List.length x0_blocks : Int)) ∧ tm 11 = .lit (.int .i64 c5_11) ∧ tm 20 = .lit (.bool false) ∧ tm 24 = .lit (.bool r29) ∧ True) (by refine ⟨e20, e21, e22, e24, e25, e26, ?_, ?_, trivial⟩ <;> first | (simp only [ua, n13, d15, w16, e20, e21, e22, e23, e24, e25, e26, e27, d28, nm, seval] <;> rfl) | rfl) ?_
    rintro tm ⟨e31, e32, e33, e34, e35, e36, e37, e38, _⟩
    cases d39 : (r29)
    ·simp only [d39, hs, reduceCtorEq] at h
     simp only [vz, tyf, g6, n13, d15, (ix25 o17), w16, d28, e31, e32, e33, e34, e35, e36, e37, e38, d39, nm, seval]
     replace h := kR5 _ h
     try dsimp only at h
     obtain rfl := kF _ h
     exact opd_bool Tryz.results100 (by first | rfl | (simp only [upd_apply, seval] <;> rfl))
    simp only [d39, hs, reduceCtorEq] at h
    simp only [vz, tyf, g6, n13, d15, (ix25 o17), w16, d28, e31, e32, e33, e34, e35, e36, e37, e38, d39, nm, seval]
    exact ⟨List.length p5, Nat.lt_succ_self _, by rw [hI5]; refine ⟨p5, c5_11 + 1, rfl, Int.le_trans hi5 (Int.le_add_one (Int.le_refl _)), drop_next hi5 hp5, rfl, (show 4 ≤ nx5 + 19 by omega), e31, e32, e33, e34, e35, ?_, h⟩ <;> first | (simp only [ua, n13, d15, w16, d28, e31, e32, e33, e34, e35, e36, e37, e38, d39, nm, seval] <;> rfl) | rfl⟩
end Go.V
end
section
namespace Go.V
open Go Go.Proofs
def g_sight_isStreet (x0_s : GSightStreet) : Option (Bool) := Option.bind (g_limits_IsFrom 1 x0_s.Length 40) (fun r1 => cond (r1) (Option.bind (g_limits_IsFrom 1 x0_s.Width 12) (fun r2 => cond (r2) (Option.bind (g_limits_IsSpan 1 x0_s.Eye 40) (fun r3 => cond (r3) (Option.bind (g_limits_IsSpan 1 x0_s.Light 100) (fun r4 => cond (r4) (Option.bind (g_sight_areBoards x0_s.Boards x0_s.Length) (fun r5 => cond (r5) (Option.bind (g_sight_areBlocks x0_s.Blocks x0_s.Length x0_s.Width) (fun r6 => some r6)) (some false))) (some false))) (some false))) (some false))) (some false))
theorem g_sight_isStreet_ok (x0_s : GSightStreet) (R : Bool) (h : g_sight_isStreet x0_s = some R) : VPure Tryz.prog G0 55 [.agg (cGSightStreet x0_s)] (.tree (.lit (.bool R))) := by
 refine VPure.runR mixed Tryz.call55 Tryz.func55 rfl (by simp [Tryz.ntmps55]; kernel_rfl) ?_
 obtain ⟨KF, h, kF, kN⟩ := fun_intro h
 simp only [g_sight_isStreet] at h
 cases o8 : (g_limits_IsFrom 1 x0_s.Length 40) with
 | none =>
  simp only [o8, hs, reduceCtorEq] at h
  exact absurd h kN
 | some r7 =>
  simp only [o8, hs, reduceCtorEq] at h
  simp only [vz, tyf, nm, seval]
  refine ktree (args0 := [.lit (.int .i64 1), .lit (.int .i64 x0_s.Length), .lit (.int .i64 40)]) (by first | (simp only [nrm, tynrm] <;> rfl) | rfl) (by simp only [tre, tytre, Bool.and_self]) (g_limits_IsFrom_ok _ _ _ _ o8) ?_
  refine fin_cut (fun tm => tm 1 = .ptr 0 0 ∧ tm 5 = .lit (.bool r7) ∧ True) (by refine ⟨?_, ?_, trivial⟩ <;> first | (simp only [ua, nm, seval] <;> rfl) | rfl) ?_
  rintro tm ⟨e9, e10, _⟩
  cases d11 : (r7)
  ·simp only [d11, hs, reduceCtorEq] at h
   simp only [vz, tyf, e9, e10, d11, nm, seval]
   obtain rfl := kF _ h
   exact opd_bool Tryz.results55 (by first | rfl | (simp only [upd_apply, seval] <;> rfl))
  simp only [d11, hs, reduceCtorEq] at h
  cases o13 : (g_limits_IsFrom 1 x0_s.Width 12) with
  | none =>
   simp only [o13, hs, reduceCtorEq] at h
   exact absurd h kN
  | some r12 =>
   simp only [o13, hs, reduceCtorEq] at h
   simp only [vz, tyf, e9, e10, d11, nm, seval]
   refine ktree (args0 := [.lit (.int .i64 1), .lit (.int .i64 x0_s.Width), .lit (.int .i64 12)]) (by first | (simp only [nrm, tynrm] <;> rfl) | rfl) (by simp only [tre, tytre, Bool.and_self]) (g_limits_IsFrom_ok _ _ _ _ o13) ?_
   refine fin_cut (fun tm => tm 1 = .ptr 0 0 ∧ tm 6 = .lit (.bool true) ∧ tm 9 = .lit (.bool r12) ∧ True) (by refine ⟨e9, ?_, ?_, trivial⟩ <;> first | (simp only [ua, e9, e10, d11, nm, seval] <;> rfl) | rfl) ?_
   rintro tm ⟨e14, e15, e16, _⟩
   cases d17 : (r12)
   ·simp only [d17, hs, reduceCtorEq] at h
    simp only [vz, tyf, d11, e14, e15, e16, d17, nm, seval]
    obtain rfl := kF _ h
    exact opd_bool Tryz.results55 (by first | rfl | (simp only [upd_apply, seval] <;> rfl))
   simp only [d17, hs, reduceCtorEq] at h
   cases o19 : (g_limits_IsSpan 1 x0_s.Eye 40) with
   | none =>
    simp only [o19, hs, reduceCtorEq] at h
    exact absurd h kN
   | some r18 =>
    simp only [o19, hs, reduceCtorEq] at h
    simp only [vz, tyf, d11, e14, e15, e16, d17, nm, seval]
    refine ktree (args0 := [.lit (.int .i64 1), .agg (cGSpan x0_s.Eye), .lit (.int .i64 40)]) (by first | (simp only [nrm, tynrm] <;> rfl) | rfl) (by simp only [tre, tytre, Bool.and_self]) (g_limits_IsSpan_ok _ _ _ _ o19) ?_
    refine fin_cut (fun tm => tm 1 = .ptr 0 0 ∧ tm 11 = .lit (.bool true) ∧ tm 14 = .lit (.bool r18) ∧ True) (by refine ⟨e14, ?_, ?_, trivial⟩ <;> first | (simp only [ua, d11, e14, e15, e16, d17, nm, seval] <;> rfl) | rfl) ?_
    rintro tm ⟨e20, e21, e22, _⟩
    cases d23 : (r18)
    ·simp only [d23, hs, reduceCtorEq] at h
     simp only [vz, tyf, d11, d17, e20, e21, e22, d23, nm, seval]
     obtain rfl := kF _ h
     exact opd_bool Tryz.results55 (by first | rfl | (simp only [upd_apply, seval] <;> rfl))
    simp only [d23, hs, reduceCtorEq] at h
    cases o25 : (g_limits_IsSpan 1 x0_s.Light 100) with
    | none =>
     simp only [o25, hs, reduceCtorEq] at h
     exact absurd h kN
    | some r24 =>
     simp only [o25, hs, reduceCtorEq] at h
     simp only [vz, tyf, d11, d17, e20, e21, e22, d23, nm, seval]
     refine ktree (args0 := [.lit (.int .i64 1), .agg (cGSpan x0_s.Light), .lit (.int .i64 100)]) (by first | (simp only [nrm, tynrm] <;> rfl) | rfl) (by simp only [tre, tytre, Bool.and_self]) (g_limits_IsSpan_ok _ _ _ _ o25) ?_
     refine fin_cut (fun tm => tm 1 = .ptr 0 0 ∧ tm 16 = .lit (.bool true) ∧ tm 19 = .lit (.bool r24) ∧ True) (by refine ⟨e20, ?_, ?_, trivial⟩ <;> first | (simp only [ua, d11, d17, e20, e21, e22, d23, nm, seval] <;> rfl) | rfl) ?_
     rintro tm ⟨e26, e27, e28, _⟩
     cases d29 : (r24)
     ·simp only [d29, hs, reduceCtorEq] at h
      simp only [vz, tyf, d11, d17, d23, e26, e27, e28, d29, nm, seval]
      obtain rfl := kF _ h
      exact opd_bool Tryz.results55 (by first | rfl | (simp only [upd_apply, seval] <;> rfl))
     simp only [d29, hs, reduceCtorEq] at h
     cases o31 : (g_sight_areBoards x0_s.Boards x0_s.Length) with
     | none =>
      simp only [o31, hs, reduceCtorEq] at h
      exact absurd h kN
     | some r30 =>
      simp only [o31, hs, reduceCtorEq] at h
      simp only [vz, tyf, d11, d17, d23, e26, e27, e28, d29, nm, seval]
      refine ktree (args0 := [.sl (cellsL cGSightBoard x0_s.Boards) (List.length x0_s.Boards) false, .lit (.int .i64 x0_s.Length)]) (by first | (simp only [nrm, tynrm] <;> rfl) | rfl) (by simp only [tre, tytre, Bool.and_self]) (g_sight_areBoards_ok _ _ _ o31) ?_
      refine fin_cut (fun tm => tm 1 = .ptr 0 0 ∧ tm 21 = .lit (.bool true) ∧ tm 26 = .lit (.bool r30) ∧ True) (by refine ⟨e26, ?_, ?_, trivial⟩ <;> first | (simp only [ua, d11, d17, d23, e26, e27, e28, d29, nm, seval] <;> rfl) | rfl) ?_
      rintro tm ⟨e32, e33, e34, _⟩
      cases d35 : (r30)
      ·simp only [d35, hs, reduceCtorEq] at h
       simp only [vz, tyf, d11, d17, d23, d29, e32, e33, e34, d35, nm, seval]
       obtain rfl := kF _ h
       exact opd_bool Tryz.results55 (by first | rfl | (simp only [upd_apply, seval] <;> rfl))
      simp only [d35, hs, reduceCtorEq] at h
      cases o37 : (g_sight_areBlocks x0_s.Blocks x0_s.Length x0_s.Width) with
      | none =>
       simp only [o37, hs, reduceCtorEq] at h
       exact absurd h kN
      | some r36 =>
       simp only [o37, hs, reduceCtorEq] at h
       simp only [vz, tyf, d11, d17, d23, d29, e32, e33, e34, d35, nm, seval]
       refine ktree (args0 := [.sl (cellsL cGSightBlock x0_s.Blocks) (List.length x0_s.Blocks) false, .lit (.int .i64 x0_s.Length), .lit (.int .i64 x0_s.Width)]) (by first | (simp only [nrm, tynrm] <;> rfl) | rfl) (by simp only [tre, tytre, Bool.and_self]) (g_sight_areBlocks_ok _ _ _ _ o37) ?_
       refine fin_cut (fun tm => tm 28 = .lit (.bool true) ∧ tm 35 = .lit (.bool r36) ∧ True) (by refine ⟨?_, ?_, trivial⟩ <;> first | (simp only [ua, d11, d17, d23, d29, e32, e33, e34, d35, nm, seval] <;> rfl) | rfl) ?_
       rintro tm ⟨e38, e39, _⟩
       simp only [vz, tyf, d11, d17, d23, d29, d35, e38, e39, nm, seval]
       obtain rfl := kF _ h
       exact opd_bool Tryz.results55 (by first | rfl | (simp only [upd_apply, seval] <;> rfl))
end Go.V
end
section
namespace Go.V
open Go Go.Proofs
def g_sight_isBoard (x0_s : GSightStreet) (x1_board : Int) : Option (Bool) := Option.bind (g_limits_IsFrom 0 x1_board (IntKind.i64.wrap ((List.length x0_s.Boards : Int) - 1))) (fun r1 => some r1)
theorem g_sight_isBoard_ok (x0_s : GSightStreet) (x1_board : Int) (R : Bool) (h : g_sight_isBoard x0_s x1_board = some R) : VPure Tryz.prog G0 76 [.agg (cGSightStreet x0_s), .lit (.int .i64 x1_board)] (.tree (.lit (.bool R))) := by
 refine VPure.runR mixed Tryz.call76 Tryz.func76 rfl (by simp [Tryz.ntmps76]; kernel_rfl) ?_
 obtain ⟨KF, h, kF, kN⟩ := fun_intro h
 simp only [g_sight_isBoard] at h
 cases o3 : (g_limits_IsFrom 0 x1_board (IntKind.i64.wrap ((List.length x0_s.Boards : Int) - 1))) with
 | none =>
  simp only [o3, hs, reduceCtorEq] at h
  exact absurd h kN
 | some r2 =>
  simp only [o3, hs, reduceCtorEq] at h
  simp only [vz, tyf, nm, seval]
  refine ktree (args0 := [.lit (.int .i64 0), .lit (.int .i64 x1_board), .lit (.int .i64 (IntKind.i64.wrap ((List.length x0_s.Boards : Int) - 1)))]) (by first | (simp only [nrm, tynrm] <;> rfl) | rfl) (by simp only [tre, tytre, Bool.and_self]) (g_limits_IsFrom_ok _ _ _ _ o3) ?_
  refine fin_cut (fun tm => tm 10 = .lit (.bool r2) ∧ True) (by refine ⟨?_, trivial⟩ <;> first | (simp only [ua, nm, seval] <;> rfl) | rfl) ?_
  rintro tm ⟨e4, _⟩
  simp only [vz, tyf, e4, nm, seval]
  obtain rfl := kF _ h
  exact opd_bool Tryz.results76 (by first | rfl | (simp only [upd_apply, seval] <;> rfl))
end Go.V
end
section
namespace Go.V
open Go Go.Proofs
def g_sight_isView (x0_s : GSightStreet) (x1_board : Int) (x2_from : GSightPlace) : Option (Bool) := Option.bind (g_sight_isStreet x0_s) (fun r1 => cond (r1) (Option.bind (g_sight_isBoard x0_s x1_board) (fun r2 => cond (r2) (Option.bind (g_limits_IsFrom 0 x2_from.Along x0_s.Length) (fun r3 => cond (r3) (Option.bind (g_limits_IsFrom 1 x2_from.Across x0_s.Width) (fun r4 => some r4)) (some false))) (some false))) (some false))
theorem g_sight_isView_ok (x0_s : GSightStreet) (x1_board : Int) (x2_from : GSightPlace) (R : Bool) (h : g_sight_isView x0_s x1_board x2_from = some R) : VPure Tryz.prog G0 56 [.agg (cGSightStreet x0_s), .lit (.int .i64 x1_board), .agg (cGSightPlace x2_from)] (.tree (.lit (.bool R))) := by
 refine VPure.runR mixed Tryz.call56 Tryz.func56 rfl (by simp [Tryz.ntmps56]; kernel_rfl) ?_
 obtain ⟨KF, h, kF, kN⟩ := fun_intro h
 simp only [g_sight_isView] at h
 cases o6 : (g_sight_isStreet x0_s) with
 | none =>
  simp only [o6, hs, reduceCtorEq] at h
  exact absurd h kN
 | some r5 =>
  simp only [o6, hs, reduceCtorEq] at h
  simp only [vz, tyf, nm, seval]
  refine ktree (args0 := [.agg (cGSightStreet x0_s)]) (by first | (simp only [nrm, tynrm] <;> rfl) | rfl) (by simp only [tre, tytre, Bool.and_self]) (g_sight_isStreet_ok _ _ o6) ?_
  refine fin_cut (fun tm => tm 1 = .lit (.int .i64 x1_board) ∧ tm 3 = .ptr 0 0 ∧ tm 5 = .ptr 1 0 ∧ tm 8 = .lit (.bool r5) ∧ True) (by refine ⟨?_, ?_, ?_, ?_, trivial⟩ <;> first | (simp only [ua, nm, seval] <;> rfl) | rfl) ?_
  rintro tm ⟨e7, e8, e9, e10, _⟩
  cases d11 : (r5)
  ·simp only [d11, hs, reduceCtorEq] at h
   simp only [vz, tyf, e7, e8, e9, e10, d11, nm, seval]
   obtain rfl := kF _ h
   exact opd_bool Tryz.results56 (by first | rfl | (simp only [upd_apply, seval] <;> rfl))
  simp only [d11, hs, reduceCtorEq] at h
  cases o13 : (g_sight_isBoard x0_s x1_board) with
  | none =>
   simp only [o13, hs, reduceCtorEq] at h
   exact absurd h kN
  | some r12 =>
   simp only [o13, hs, reduceCtorEq] at h
   simp only [vz, tyf, e7, e8, e9, e10, d11, nm, seval]
   refine ktree (args0 := [.agg (cGSightStreet x0_s), .lit (.int .i64 x1_board)]) (by first | (simp only [nrm, tynrm] <;> rfl) | rfl) (by simp only [tre, tytre, Bool.and_self]) (g_sight_isBoard_ok _ _ _ o13) ?_
   refine fin_cut (fun tm => tm 3 = .ptr 0 0 ∧ tm 5 = .ptr 1 0 ∧ tm 9 = .lit (.bool true) ∧ tm 12 = .lit (.bool r12) ∧ True) (by refine ⟨e8, e9, ?_, ?_, trivial⟩ <;> first | (simp only [ua, e7, e8, e9, e10, d11, nm, seval] <;> rfl) | rfl) ?_
   rintro tm ⟨e14, e15, e16, e17, _⟩
   cases d18 : (r12)
   ·simp only [d18, hs, reduceCtorEq] at h
    simp only [vz, tyf, d11, e14, e15, e16, e17, d18, nm, seval]
    obtain rfl := kF _ h
    exact opd_bool Tryz.results56 (by first | rfl | (simp only [upd_apply, seval] <;> rfl))
   simp only [d18, hs, reduceCtorEq] at h
   cases o20 : (g_limits_IsFrom 0 x2_from.Along x0_s.Length) with
   | none =>
    simp only [o20, hs, reduceCtorEq] at h
    exact absurd h kN
   | some r19 =>
    simp only [o20, hs, reduceCtorEq] at h
    simp only [vz, tyf, d11, e14, e15, e16, e17, d18, nm, seval]
    refine ktree (args0 := [.lit (.int .i64 0), .lit (.int .i64 x2_from.Along), .lit (.int .i64 x0_s.Length)]) (by first | (simp only [nrm, tynrm] <;> rfl) | rfl) (by simp only [tre, tytre, Bool.and_self]) (g_limits_IsFrom_ok _ _ _ _ o20) ?_
    refine fin_cut (fun tm => tm 3 = .ptr 0 0 ∧ tm 5 = .ptr 1 0 ∧ tm 14 = .lit (.bool true) ∧ tm 19 = .lit (.bool r19) ∧ True) (by refine ⟨e14, e15, ?_, ?_, trivial⟩ <;> first | (simp only [ua, d11, e14, e15, e16, e17, d18, nm, seval] <;> rfl) | rfl) ?_
    rintro tm ⟨e21, e22, e23, e24, _⟩
    cases d25 : (r19)
    ·simp only [d25, hs, reduceCtorEq] at h
     simp only [vz, tyf, d11, d18, e21, e22, e23, e24, d25, nm, seval]
     obtain rfl := kF _ h
     exact opd_bool Tryz.results56 (by first | rfl | (simp only [upd_apply, seval] <;> rfl))
    simp only [d25, hs, reduceCtorEq] at h
    cases o27 : (g_limits_IsFrom 1 x2_from.Across x0_s.Width) with
    | none =>
     simp only [o27, hs, reduceCtorEq] at h
     exact absurd h kN
    | some r26 =>
     simp only [o27, hs, reduceCtorEq] at h
     simp only [vz, tyf, d11, d18, e21, e22, e23, e24, d25, nm, seval]
     refine ktree (args0 := [.lit (.int .i64 1), .lit (.int .i64 x2_from.Across), .lit (.int .i64 x0_s.Width)]) (by first | (simp only [nrm, tynrm] <;> rfl) | rfl) (by simp only [tre, tytre, Bool.and_self]) (g_limits_IsFrom_ok _ _ _ _ o27) ?_
     refine fin_cut (fun tm => tm 21 = .lit (.bool true) ∧ tm 26 = .lit (.bool r26) ∧ True) (by refine ⟨?_, ?_, trivial⟩ <;> first | (simp only [ua, d11, d18, e21, e22, e23, e24, d25, nm, seval] <;> rfl) | rfl) ?_
     rintro tm ⟨e28, e29, _⟩
     simp only [vz, tyf, d11, d18, d25, e28, e29, nm, seval]
     obtain rfl := kF _ h
     exact opd_bool Tryz.results56 (by first | rfl | (simp only [upd_apply, seval] <;> rfl))
end Go.V
end
section
namespace Go.V
open Go Go.Proofs
end Go.V
end
section
namespace Go.V
open Go Go.Proofs
def g_ref02_in (x0_n : Int) (x1_low : Int) (x2_high : Int) : Option (Bool) := cond (decide (x0_n ≥ x1_low)) (some (decide (x0_n ≤ x2_high))) (some false)
theorem g_ref02_in_ok (x0_n : Int) (x1_low : Int) (x2_high : Int) (R : Bool) (h : g_ref02_in x0_n x1_low x2_high = some R) : VPure Tryz.prog G0 58 [.lit (.int .i64 x0_n), .lit (.int .i64 x1_low), .lit (.int .i64 x2_high)] (.tree (.lit (.bool R))) := by
 refine VPure.runR mixed Tryz.call58 Tryz.func58 rfl (by simp [Tryz.ntmps58]; kernel_rfl) ?_
 obtain ⟨KF, h, kF, kN⟩ := fun_intro h
 simp only [g_ref02_in] at h
 cases d1 : (decide (x0_n ≥ x1_low))
 ·simp only [d1, hs, reduceCtorEq] at h
  simp only [vz, tyf, d1, nm, seval]
  obtain rfl := kF _ h
  exact opd_bool Tryz.results58 (by first | rfl | (simp only [upd_apply, seval] <;> rfl))
 simp only [d1, hs, reduceCtorEq] at h
 simp only [vz, tyf, d1, nm, seval]
 obtain rfl := kF _ h
 exact opd_bool Tryz.results58 (by first | rfl | (simp only [upd_apply, seval] <;> rfl))
end Go.V
end
section
namespace Go.V
open Go Go.Proofs
def g_ref02_span (x0_s : GSpan) (x1_low : Int) (x2_high : Int) : Option (Bool) := Option.bind (g_ref02_in x0_s.Low x1_low x2_high) (fun r1 => cond (r1) (Option.bind (g_ref02_in x0_s.High x0_s.Low x2_high) (fun r2 => some r2)) (some false))
theorem g_ref02_span_ok (x0_s : GSpan) (x1_low : Int) (x2_high : Int) (R : Bool) (h : g_ref02_span x0_s x1_low x2_high = some R) : VPure Tryz.prog G0 59 [.agg (cGSpan x0_s), .lit (.int .i64 x1_low), .lit (.int .i64 x2_high)] (.tree (.lit (.bool R))) := by
 refine VPure.runR mixed Tryz.call59 Tryz.func59 rfl (by simp [Tryz.ntmps59]; kernel_rfl) ?_
 obtain ⟨KF, h, kF, kN⟩ := fun_intro h
 simp only [g_ref02_span] at h
 cases o4 : (g_ref02_in x0_s.Low x1_low x2_high) with
 | none =>
  simp only [o4, hs, reduceCtorEq] at h
  exact absurd h kN
 | some r3 =>
  simp only [o4, hs, reduceCtorEq] at h
  simp only [vz, tyf, nm, seval]
  refine ktree (args0 := [.lit (.int .i64 x0_s.Low), .lit (.int .i64 x1_low), .lit (.int .i64 x2_high)]) (by first | (simp only [nrm, tynrm] <;> rfl) | rfl) (by simp only [tre, tytre, Bool.and_self]) (g_ref02_in_ok _ _ _ _ o4) ?_
  refine fin_cut (fun tm => tm 2 = .lit (.int .i64 x2_high) ∧ tm 3 = .ptr 0 0 ∧ tm 11 = .lit (.bool r3) ∧ True) (by refine ⟨?_, ?_, ?_, trivial⟩ <;> first | (simp only [ua, nm, seval] <;> rfl) | rfl) ?_
  rintro tm ⟨e5, e6, e7, _⟩
  cases d8 : (r3)
  ·simp only [d8, hs, reduceCtorEq] at h
   simp only [vz, tyf, e5, e6, e7, d8, nm, seval]
   obtain rfl := kF _ h
   exact opd_bool Tryz.results59 (by first | rfl | (simp only [upd_apply, seval] <;> rfl))
  simp only [d8, hs, reduceCtorEq] at h
  cases o10 : (g_ref02_in x0_s.High x0_s.Low x2_high) with
  | none =>
   simp only [o10, hs, reduceCtorEq] at h
   exact absurd h kN
  | some r9 =>
   simp only [o10, hs, reduceCtorEq] at h
   simp only [vz, tyf, e5, e6, e7, d8, nm, seval]
   refine ktree (args0 := [.lit (.int .i64 x0_s.High), .lit (.int .i64 x0_s.Low), .lit (.int .i64 x2_high)]) (by first | (simp only [nrm, tynrm] <;> rfl) | rfl) (by simp only [tre, tytre, Bool.and_self]) (g_ref02_in_ok _ _ _ _ o10) ?_
   refine fin_cut (fun tm => tm 12 = .lit (.bool true) ∧ tm 18 = .lit (.bool r9) ∧ True) (by refine ⟨?_, ?_, trivial⟩ <;> first | (simp only [ua, e5, e6, e7, d8, nm, seval] <;> rfl) | rfl) ?_
   rintro tm ⟨e11, e12, _⟩
   simp only [vz, tyf, d8, e11, e12, nm, seval]
   obtain rfl := kF _ h
   exact opd_bool Tryz.results59 (by first | rfl | (simp only [upd_apply, seval] <;> rfl))
end Go.V
end
