/- Part of a proof: a logic of values by content, lifted functions, what follows. -/
import Derived.Test.YtgdgkkloccpbnaaGreatDoorUbk
import Derived.Test.YtgdgkkloccpbnaaGreatDoorUbc
import Derived.Test.YtgdgkkloccpbnaaGreatDoorUbf
import Derived.Test.YtgdgkkloccpbnaaGreatDoorUbe
import Derived.Test.YtgdgkkloccpbnaaGreatDoorUbh
import Derived.Test.YtgdgkkloccpbnaaGreatDoorUbi
import Derived.Test.YtgdgkkloccpbnaaGreatDoorUbg
set_option linter.all false
set_option maxRecDepth 4000
set_option maxHeartbeats 40000000
section
namespace Go.V
open Go
set_option linter.unusedVariables false
set_option linter.unusedSimpArgs false
def CHN (lo hi : Int → Int) (n : Int) (W : List Int) : List GCoatCoat → List Int → Prop
 | [], [] => True
 | [k], [a] => a ∈ W ∧ dryOk lo hi k true a n = true
 | k :: k2 :: cs, a :: b :: t => a ∈ W ∧ dryOk lo hi k false a b = true ∧ CHN lo hi n W (k2 :: cs) (b :: t)
 | _, _ => False
section
variable {lo hi : Int → Int} {n : Int} {W : List Int}
theorem CHN_head : ∀ {cs : List GCoatCoat} {a : Int} {t : List Int}, CHN lo hi n W cs (a :: t) → a ∈ W
 | [_], _, [], h => h.1
 | _ :: _ :: _, _, _ :: _, h => h.1
 | [], _, _, h => h.elim
 | [_], _, _ :: _, h => h.elim
 | _ :: _ :: _, _, [], h => h.elim
theorem CHN_GS : ∀ {cs : List GCoatCoat} {a : Int} {t : List Int}, CHN lo hi n W cs (a :: t) → GS lo hi n W cs a = true
 | [_], _, [], h => h.2
 | k :: k2 :: cs, a, b :: t, h => by
  rw [GS, List.any_eq_true]
  exact ⟨b, CHN_head h.2.2, by rw [CHN_GS h.2.2, h.2.1]; rfl⟩
 | [], _, _, h => h.elim
 | [_], _, _ :: _, h => h.elim
 | _ :: _ :: _, _, [], h => h.elim
theorem dryOk_true {k : GCoatCoat} {l : Bool} {a b : Int} : dryOk lo hi k l a b = true ↔ a < b ∧ decide (lo b - lo a < k.Need) = false ∧ (l = true ∨ decide (hi b - hi a > k.Peel) = false) := by
 unfold dryOk
 simp only [Bool.and_eq_true, decide_eq_true_eq, Bool.not_eq_true', Bool.or_eq_true]
theorem CHN_iff (hW : ∀ d ∈ W, d < n) : ∀ (cs : List GCoatCoat) (q : List Int) (i : Int), q.length = cs.length → (CHN lo hi n W cs q ↔ (∀ d ∈ q, d ∈ W) ∧ upB q = true ∧ failW lo hi n q cs i = none)
 | [], [], i, _ => by simp [CHN, upB, failW]
 | [], _ :: _, i, h => by simp at h
 | _ :: _, [], i, h => by simp at h
 | [k], [a], i, _ => by
  rw [show failW lo hi n [a] [k] i = cond (decide (lo n - lo a < k.Need)) (some (i, 1)) none from rfl, CHN, dryOk_true]
  simp only [List.mem_singleton, forall_eq]
  constructor
  ·rintro ⟨h1, h2, h3, _⟩
   exact ⟨h1, rfl, by rw [h3]; rfl⟩
  ·rintro ⟨h1, _, h3⟩
   refine ⟨h1, hW a h1, ?_, .inl trivial⟩
   cases hd : decide (lo n - lo a < k.Need) with
   | false => rfl
   | true => rw [hd] at h3; cases h3
 | [k], _ :: _ :: _, i, h => by simp at h
 | _ :: _ :: _, [_], i, h => by simp at h
 | k :: k2 :: cs, a :: b :: t, i, h => by
  have ih := CHN_iff hW (k2 :: cs) (b :: t) (i + 1) (by simpa using h)
  rw [CHN, ih, dryOk_true, upB_cons]
  simp only [List.mem_cons, forall_eq_or_imp, Bool.and_eq_true, decide_eq_true_eq, Bool.false_eq_true, false_or]
  rw [show failW lo hi n (a :: b :: t) (k :: k2 :: cs) i = cond (decide (lo b - lo a < k.Need)) (some (i, 1)) (cond (decide (hi b - hi a > k.Peel)) (some (i, 2)) (failW lo hi n (b :: t) (k2 :: cs) (i + 1))) from rfl]
  constructor
  ·rintro ⟨h1, ⟨h2, h3, h4⟩, h5, h6, h7⟩
   exact ⟨⟨h1, h5⟩, ⟨h2, h6⟩, by rw [h3, h4]; exact h7⟩
  ·rintro ⟨⟨h1, h5⟩, ⟨h2, h6⟩, h7⟩
   cases hd : decide (lo b - lo a < k.Need) with
   | true => rw [hd] at h7; cases h7
   | false =>
    cases hd2 : decide (hi b - hi a > k.Peel) with
    | true => rw [hd, hd2] at h7; cases h7
    | false =>
     rw [hd, hd2] at h7
     exact ⟨h1, ⟨h2, rfl, rfl⟩, h5, h6, h7⟩
end
section
variable {s : GCoatSheet} (h : ShOk s)
abbrev CHs (s : GCoatSheet) : List GCoatCoat → List Int → Prop := CHN (loS s) (hiS s) s.Dry.length s.Work
def prevB (s : GCoatSheet) (p : List Int) (j : Int) : Bool := match p.getLast?, s.Coats.drop (p.length - 1) with
 | some a, k :: _ => dryOk (loS s) (hiS s) k false a j
 | _, _ => true
include h
theorem steps_iff {M : List (Gcoatlaying × Bool)} (hM : ∀ c d, kGet M c d = true ↔ (0 ≤ c ∧ c < s.Coats.length ∧ d ∈ s.Work) ∧ GSs s (s.Coats.drop c.toNat) d = true) : ∀ (t p : List Int) (cs : List GCoatCoat), s.Coats.drop p.length = cs → t.length = cs.length →
  (stepsB (mayP s M) s.Dry.length p t = true ↔ (∀ j t', t = j :: t' → prevB s p j = true) ∧ CHs s cs t)
 | [], p, cs, hcs, hl => by
  have : cs = [] := List.length_eq_zero_iff.1 hl.symm
  subst this
  simp [stepsB, CHs, CHN]
 | j :: t, p, [], hcs, hl => by simp at hl
 | j :: t, p, k :: cs, hcs, hl => by
  have hlen := drop_len hcs
  have hd1 : s.Coats.drop (p ++ [j]).length = cs := by
   rw [show (p ++ [j]).length = p.length + 1 by simp, ← List.drop_drop, hcs]
   rfl
  have ih := steps_iff hM t (p ++ [j]) cs hd1 (by simpa using hl)
  have hpv : ∀ b, prevB s (p ++ [j]) b = dryOk (loS s) (hiS s) k false j b := by
   intro b
   unfold prevB
   rw [show (p ++ [j]).length - 1 = p.length by simp, hcs]
   simp
  have hmy : mayP s M p j = (kGet M p.length j && prevB s p j) := rfl
  have hk : kGet M p.length j = true ↔ j ∈ s.Work ∧ GSs s (k :: cs) j = true := by
   rw [hM, show ((p.length : Int)).toNat = p.length by omega, hcs]
   constructor
   ·exact fun hh => ⟨hh.1.2.2, hh.2⟩
   ·exact fun hh => ⟨⟨by omega, by omega, hh.1⟩, hh.2⟩
  simp only [stepsB, Bool.and_eq_true, decide_eq_true_eq, ih, hmy, hk]
  constructor
  ·rintro ⟨⟨h0, h1⟩, ⟨⟨hw, hg⟩, hp⟩, h2, h3⟩
   refine ⟨fun j' t' e => by cases e; exact hp, ?_⟩
   cases t with
   | nil =>
    cases cs with
    | nil => exact ⟨hw, hg⟩
    | cons _ _ => simp at hl
   | cons b t =>
    cases cs with
    | nil => simp at hl
    | cons k2 cs =>
     have := h2 b t rfl
     rw [hpv] at this
     exact ⟨hw, this, h3⟩
  ·rintro ⟨hp, hc⟩
   have hw : j ∈ s.Work := CHN_head hc
   have hb := h.w j hw
   refine ⟨⟨hb.1, by omega⟩, ⟨⟨hw, CHN_GS hc⟩, hp j t rfl⟩, ?_⟩
   cases t with
   | nil =>
    cases cs with
    | nil => exact ⟨fun _ _ e => (by cases e), trivial⟩
    | cons _ _ => simp at hl
   | cons b t =>
    cases cs with
    | nil => simp at hl
    | cons k2 cs => exact ⟨fun j' t' e => by cases e; rw [hpv]; exact hc.2.1, hc.2.2⟩
theorem plans_eq : ∃ L, it_coat_plans (sumsOf s) = some L ∧ (∀ q, q ∈ L ↔ planB s q = true ∧ sureB s.Dry s.Coats q = true) ∧ L.Pairwise lexL ∧ ∃ m, L = listsB m s.Dry.length s.Coats.length [] ∧ ∀ p j, m p j = true → j ∈ s.Work ∧ (∀ a, p.getLast? = some a → p.length ≤ s.Coats.length → a < j) := by
 have hc := h.c
 have hd := h.dk.l
 obtain ⟨M, e1, hM⟩ := goingOn_eq h
 have e2 : listsO (fun p j => g_coat_sums_plans_1 p j M (sumsOf s)) s.Dry.length s.Coats.length [] = some (listsB (mayP s M) s.Dry.length s.Coats.length []) :=
  listsO_eq (ln := s.Coats.length) (fun p j h1 h2 h3 h4 => plans1_eq h h1 h2 h3 h4) s.Coats.length [] (by simp) (by simp)
 refine ⟨listsB (mayP s M) s.Dry.length s.Coats.length [], ?_, fun q => ?_, pairwise_listsB _ _, mayP s M, rfl, ?_⟩
 ·unfold it_coat_plans
  rw [e1, Option.bind_some, show (sumsOf s).CoatSheet.Coats = s.Coats from rfl, show (sumsOf s).CoatSheet.Dry = s.Dry from rfl, e2]
  have : smallOk s.Coats.length s.Dry.length = true := by simp only [smallOk, Bool.and_eq_true, decide_eq_true_eq]; omega
  rw [this]; rfl
 ·rw [mem_listsB]
  constructor
  ·rintro ⟨t, ht0, ht, hs⟩
   rw [List.nil_append] at ht0
   subst ht0
   have h2 := ((steps_iff h hM q [] s.Coats rfl ht).1 hs).2
   obtain ⟨h3, h4, h5⟩ := (CHN_iff (fun d hd => by have := h.w d hd; omega) s.Coats q 0 ht).1 h2
   refine ⟨?_, by unfold sureB worstW; rw [h5]; rfl⟩
   unfold planB incB dayB
   simp only [Bool.and_eq_true, decide_eq_true_eq, List.all_eq_true, inB_iff, List.contains_iff_mem]
   exact ⟨⟨ht, h4, fun d hd => h.w d (h3 d hd)⟩, h3⟩
  ·rintro ⟨h1, h2⟩
   unfold planB incB dayB at h1
   simp only [Bool.and_eq_true, decide_eq_true_eq, List.all_eq_true, inB_iff, List.contains_iff_mem] at h1
   refine ⟨q, rfl, h1.1.1, ?_⟩
   rw [steps_iff h hM q [] s.Coats rfl h1.1.1]
   refine ⟨fun j t' e => rfl, ?_⟩
   refine (CHN_iff (fun d hd => by have := h.w d hd; omega) s.Coats q 0 h1.1.1).2 ?_
   refine ⟨h1.2, h1.1.2.1, ?_⟩
   unfold sureB worstW at h2
   cases hf : failW (SI (lowsL s.Dry)) (SI (highsL s.Dry)) (s.Dry.length : Int) q s.Coats 0 with
   | none => rfl
   | some r => rw [hf] at h2; cases h2
 ·intro p j hm
  unfold mayP at hm
  rw [Bool.and_eq_true, hM] at hm
  refine ⟨hm.1.1.2.2, fun a ha hl => ?_⟩
  have hm2 := hm.2
  rw [ha] at hm2
  have hpl : 1 ≤ p.length := by
   cases p with
   | nil => cases ha
   | cons _ _ => simp
  cases hcc : s.Coats.drop (p.length - 1) with
  | nil =>
   have := congrArg List.length hcc
   rw [List.length_drop, List.length_nil] at this
   omega
  | cons k cs =>
   rw [hcc] at hm2
   exact (dryOk_true.1 hm2).1
end
end Go.V
end
section
namespace Go.V
open Go Go.Proofs
def g_coat_Stuck_l0 (x0_s : GCoatSheet) : List GCoatCoat → Int → (List GCoatCoat) → Option (LOut (Int × Int) ((List GCoatCoat)))
 | [], c0_13, c0_o0 => some (.go c0_o0)
 | e0 :: p0, c0_13, c0_o0 => Option.bind (sliceO x0_s.Coats 0 (c0_13 + 1)) (fun s4 => Option.bind (g_coat_hasPlan (GCoatSheet.mk x0_s.Dry x0_s.Work s4)) (fun r5 => cond (r5) (g_coat_Stuck_l0 x0_s p0 (c0_13 + 1) s4) (some (.ret (c0_13, 0)))))
def g_coat_Stuck (x0_s : GCoatSheet) : Option (Int × Int) := Option.bind (g_coat_isSheet x0_s) (fun r1 => cond (r1) (cond (lenOk x0_s.Coats) (lbind (g_coat_Stuck_l0 x0_s x0_s.Coats 0 x0_s.Coats) (fun r7 => some r7) (fun c6 => some (0, 5)) (fun _ _ => none)) none) (some (0, 2)))
theorem g_coat_Stuck_ok (x0_s : GCoatSheet) (R : Int × Int) (h : g_coat_Stuck x0_s = some R) : VPure Tryz.prog G0 34 [.agg (cGCoatSheet x0_s)] (.tree (.tup [.lit (.int .i64 R.1), .lit (.int .i64 R.2)])) := by
 refine VPure.runR mixed Tryz.call34 Tryz.func34 rfl (by simp [Tryz.ntmps34]; kernel_rfl) ?_
 obtain ⟨KF, h, kF, kN⟩ := fun_intro h
 simp only [g_coat_Stuck] at h
 rcases o9 : (g_coat_isSheet x0_s) with _ | r8
 ·simp only [o9, hs] at h
  exact absurd h kN
 simp only [o9, hs] at h
 simp only [vz, tyf, nm, seval]
 refine ktree (args0 := [.agg (cGCoatSheet x0_s)]) (by first | (simp only [nrm, tynrm] <;> rfl) | rfl) (by simp only [tre, tytre, Bool.and_self]) (g_coat_isSheet_ok _ _ o9) ?_
 refine fin_cut (fun tm => tm 1 = .ptr 0 0 ∧ tm 7 = .lit (.bool r8) ∧ True) (by refine ⟨?_, ?_, trivial⟩ <;> first | (simp only [ua, nm, seval] <;> rfl) | rfl) ?_
 rintro tm ⟨e10, e11, _⟩
 cases d12 : (r8)
 ·simp only [d12, hs] at h
  try simp only [vz, tyf, e10, e11, d12, nm, seval]
  refine opd_ret (x := (.tup [.lit (.int .i64 0), .lit (.int .i64 2)])) (by first | (simp only [Tryz.results34, resV, resL, resV1, tgt_ptr, tgt_tp, uw, cr, tyf, d12, nm, seval] <;> rfl) | rfl) ?_
  obtain rfl := kF _ h
  refine rr_tree ?_ ?_
  ·simp only [tre, tytre, Bool.and_self]
  ·first | (simp only [outV, uw, showV_ref, cr, tyf, nrm, tynrm, e10, e11, d12, nm, seval] <;> rfl) | rfl
 simp only [d12, hs] at h
 cases g14 : (lenOk x0_s.Coats)
 ·simp only [g14, hs] at h
  exact absurd h kN
 simp only [g14, hs] at h
 simp only [vz, tyf, e10, e11, d12, g14, nm, seval]
 obtain ⟨K13, h, kR13, kG13, kB13, kN13⟩ := lbind_intro h kN
 obtain ⟨f13, hf13, h⟩ := call3 h
 obtain ⟨I13, hI13⟩ : ∃ I : Nat → St → Prop, I = (fun m st => ∃ (p13 : List GCoatCoat) (c13_13 : Int) (c13_o0 : List GCoatCoat), m = List.length p13 ∧ 0 ≤ c13_13 ∧ List.drop (Int.toNat c13_13) x0_s.Coats = p13 ∧ st.df = [] ∧ 12 ≤ st.nx ∧ st.H 0 = some (.cells (some 26) ([.sl (cellsL cGSpan x0_s.Dry) (List.length x0_s.Dry) false] ++ [.sl (cellsL eI x0_s.Work) (List.length x0_s.Work) false] ++ [.sl (cellsL cGCoatCoat c13_o0) (List.length c13_o0) false])) ∧ st.tm 1 = .ptr 0 0 ∧ st.tm 4 = .sl (cellsL cGCoatCoat x0_s.Coats) (List.length x0_s.Coats) false ∧ st.tm 12 = .lit (.int .i64 (List.length x0_s.Coats : Int)) ∧ st.tm 13 = .lit (.int .i64 c13_13) ∧ K13 (f13 p13 c13_13 c13_o0)) := ⟨_, rfl⟩
 refine loopK mixed (by kernel_rfl) I13 (List.length x0_s.Coats) (by rw [hI13]; refine ⟨x0_s.Coats, 0, x0_s.Coats, rfl, Int.le_refl _, rfl, rfl, (show 12 ≤ 12 by omega), ?_, e10, ?_, ?_, ?_, h⟩ <;> first | (simp only [ua, e10, e11, d12, nm, seval] <;> rfl) | rfl) ?_
 rintro m ⟨tm, H, nx13, df⟩ hinv
 rw [hI13] at hinv
 obtain ⟨p13, c13_13, c13_o0, rfl, hi13, hp13, hdf, hn13, H15, e16, e17, e18, e19, h⟩ := hinv
 simp only at hdf hn13 H15 e16 e17 e18 e19
 have n20 := base_ne0 (m := 12) (b := nx13) (by omega)
 subst hdf hf13
 cases p13 with
 | nil =>
  have d21 : (decide (c13_13 < (List.length x0_s.Coats : Int))) = false := not_lt_of_drop hi13 hp13
  simp only [g_coat_Stuck_l0, hs, reduceCtorEq] at h
  replace h := kG13 _ h
  try dsimp only at h
  try simp only [hs] at h
  try simp only [vz, tyf, d12, g14, n20, e16, e17, e18, e19, H15, d21, nm, seval]
  refine opd_ret (x := (.tup [.lit (.int .i64 0), .lit (.int .i64 5)])) (by first | (simp only [Tryz.results34, resV, resL, resV1, tgt_ptr, tgt_tp, uw, cr, tyf, d12, g14, n20, H15, d21, nm, seval] <;> rfl) | rfl) ?_
  obtain rfl := kF _ h
  refine rr_tree ?_ ?_
  ·simp only [tre, tytre, Bool.and_self]
  ·first | (simp only [outV, uw, showV_ref, cr, tyf, nrm, tynrm, d12, g14, n20, e16, e17, e18, e19, H15, d21, nm, seval] <;> rfl) | rfl
 | cons e13 p13 =>
  have d22 : (decide (c13_13 < (List.length x0_s.Coats : Int))) = true := lt_of_drop hi13 hp13
  have o24 := getI_of_drop hi13 hp13
  have w23 := wrap_next hi13 hp13 g14
  simp only [g_coat_Stuck_l0, hs, reduceCtorEq] at h
  rcases o26 : (sliceO x0_s.Coats 0 (c13_13 + 1)) with _ | s25
  ·simp only [o26, hs] at h
   exact absurd h kN13
  simp only [o26, hs] at h
  simp only [vz, tyf, d12, g14, n20, e16, e17, e18, e19, H15, d22, (ix24 o24), w23, nm, seval]
  refine k_slT (w := 2) (enc := cGCoatCoat) (xs := x0_s.Coats) Tryz.underlying24 (by kernel_rfl) (fun _ => rfl) (by first | (simp only [ev_tmp, ev_func, ev_int, upd_apply, d12, g14, n20, e16, e17, e18, e19, H15, d22, (ix24 o24), w23, nm, seval] <;> rfl) | rfl) (.inl ⟨rfl, rfl⟩) (.inr ⟨.i64, by simp only [Option.map_some]; exact congrArg some (by first | (simp only [ev_tmp, ev_func, ev_int, upd_apply, d12, g14, n20, e16, e17, e18, e19, H15, d22, (ix24 o24), w23, nm, seval] <;> rfl) | rfl)⟩) o26 ?_
  rcases o28 : (g_coat_hasPlan (GCoatSheet.mk x0_s.Dry x0_s.Work s25)) with _ | r27
  ·simp only [o28, hs] at h
   exact absurd h kN13
  simp only [o28, hs] at h
  simp only [vz, tyf, d12, g14, n20, e16, e17, e18, e19, H15, d22, (ix24 o24), w23, nm, seval]
  refine ktree (args0 := [.agg (cGCoatSheet (GCoatSheet.mk x0_s.Dry x0_s.Work s25))]) (by first | (simp only [nrm, tynrm] <;> rfl) | rfl) (by simp only [tre, tytre, Bool.and_self]) (g_coat_hasPlan_ok _ _ o28) ?_
  refine fin_cut (fun tm => tm 1 = .ptr 0 0 ∧ tm 4 = .sl (cellsL cGCoatCoat x0_s.Coats) (List.length x0_s.Coats) false ∧ tm 5 = .lit (.int .i64 c13_13) ∧ tm 12 = .lit (.int .i64 (List.length x0_s.Coats : Int)) ∧ tm 13 = .lit (.int .i64 c13_13) ∧ tm 22 = .lit (.bool r27) ∧ True) (by refine ⟨e16, e17, ?_, e18, e19, ?_, trivial⟩ <;> first | (simp only [ua, d12, n20, e16, e17, e18, e19, H15, d22, w23, nm, seval] <;> rfl) | rfl) ?_
  rintro tm ⟨e29, e30, e31, e32, e33, e34, _⟩
  cases d35 : (r27)
  ·simp only [d35, hs] at h
   have b36 := And.intro d12 (And.intro g14 (And.intro n20 (And.intro H15 (And.intro d22 (And.intro w23 d35)))))
   try simp only [vz, tyf, b36, (ix24 o24), e29, e30, e31, e32, e33, e34, nm, seval]
   refine opd_ret (x := (.tup [.lit (.int .i64 c13_13), .lit (.int .i64 0)])) (by first | (simp only [Tryz.results34, resV, resL, resV1, tgt_ptr, tgt_tp, uw, cr, tyf, b36, (ix24 o24), nm, seval] <;> rfl) | rfl) ?_
   replace h := kR13 _ h
   try dsimp only at h
   obtain rfl := kF _ h
   refine rr_tree ?_ ?_
   ·simp only [tre, tytre, Bool.and_self]
   ·first | (simp only [outV, uw, showV_ref, cr, tyf, nrm, tynrm, b36, (ix24 o24), e29, e30, e31, e32, e33, e34, nm, seval] <;> rfl) | rfl
  simp only [d35, hs] at h
  have b37 := And.intro d12 (And.intro g14 (And.intro n20 (And.intro H15 (And.intro d22 (And.intro w23 d35)))))
  simp only [vz, tyf, b37, (ix24 o24), e29, e30, e31, e32, e33, e34, nm, seval]
  exact ⟨List.length p13, Nat.lt_succ_self _, by rw [hI13]; refine ⟨p13, c13_13 + 1, s25, rfl, Int.le_trans hi13 (Int.le_add_one (Int.le_refl _)), drop_next hi13 hp13, rfl, (show 12 ≤ nx13 + 14 by omega), ?_, e29, e30, e32, ?_, h⟩ <;> first | (simp only [ua, b37, e29, e30, e31, e32, e33, e34, nm, seval] <;> rfl) | rfl⟩
end Go.V
end
section
namespace Go.V
open Go Go.Proofs
end Go.V
end
section
namespace Go.V
open Go Go.Proofs
def g_ref03_Upto (x0_s : GCoatSheet) (x1_coat : Int) : Option (GCoatSheet) := Option.bind (sliceO x0_s.Coats 0 (IntKind.i64.wrap (x1_coat + 1))) (fun s1 => cond (neB s1) (cond (roomOk 16 (List.length ([] ++ s1))) (some (GCoatSheet.mk x0_s.Dry x0_s.Work ([] ++ s1))) none) none)
theorem g_ref03_Upto_ok (x0_s : GCoatSheet) (x1_coat : Int) (R : GCoatSheet) (h : g_ref03_Upto x0_s x1_coat = some R) : VPure Tryz.prog G0 37 [.agg (cGCoatSheet x0_s), .lit (.int .i64 x1_coat)] (.tree (.agg (cGCoatSheet R))) := by
 refine VPure.runR mixed Tryz.call37 Tryz.func37 rfl (by simp [Tryz.ntmps37]; kernel_rfl) ?_
 obtain ⟨KF, h, kF, kN⟩ := fun_intro h
 simp only [g_ref03_Upto] at h
 rcases o3 : (sliceO x0_s.Coats 0 (IntKind.i64.wrap (x1_coat + 1))) with _ | s2
 ·simp only [o3, hs] at h
  exact absurd h kN
 simp only [o3, hs] at h
 simp only [vz, tyf, nm, seval]
 refine k_slT (w := 2) (enc := cGCoatCoat) (xs := x0_s.Coats) Tryz.underlying24 (by kernel_rfl) (fun _ => rfl) (by first | (simp only [ev_tmp, ev_func, ev_int, upd_apply, nm, seval] <;> rfl) | rfl) (.inl ⟨rfl, rfl⟩) (.inr ⟨.i64, by simp only [Option.map_some]; exact congrArg some (by first | (simp only [ev_tmp, ev_func, ev_int, upd_apply, nm, seval] <;> rfl) | rfl)⟩) o3 ?_
 cases g4 : (neB s2)
 ·simp only [g4, hs] at h
  exact absurd h kN
 simp only [g4, hs] at h
 cases g5 : (roomOk 16 (List.length ([] ++ s2)))
 ·simp only [g5, hs] at h
  exact absurd h kN
 simp only [g5, hs] at h
 simp only [vz, tyf, g4, g5, nm, seval]
 refine k_appNS (w := 2) (enc := cGCoatCoat) (ys := s2) (fun _ => rfl) lf24 ao24 Tryz.underlying24 g4 g5 ?_
 try simp only [vz, tyf, g4, g5, nm, seval]
 refine opd_ret (x := (.agg ([.sl (cellsL cGSpan x0_s.Dry) (List.length x0_s.Dry) false] ++ [.sl (cellsL eI x0_s.Work) (List.length x0_s.Work) false] ++ [.ref 7 0 (List.length ([] ++ s2)) 2 (List.length ([] ++ s2))]))) (by first | (simp only [Tryz.results37, resV, resL, resV1, tgt_ptr, tgt_tp, uw, cr, tyf, g4, g5, nm, seval] <;> rfl) | rfl) ?_
 obtain rfl := kF _ h
 refine rr_tree ?_ ?_
 ·simp only [tre, tytre, Bool.and_self]
 ·first | (simp only [outV, uw, showV_ref, cr, tyf, nrm, tynrm, g4, g5, nm, seval] <;> rfl) | rfl
end Go.V
end
section
namespace Go.V
open Go
set_option linter.unusedVariables false
set_option linter.unusedSimpArgs false
def NEP (s : GCoatSheet) : Prop := ∃ q, planB s q = true ∧ sureB s.Dry s.Coats q = true
def upTo (s : GCoatSheet) (m : Nat) : GCoatSheet := ⟨s.Dry, s.Work, s.Coats.take m⟩
theorem ShOk.upTo {s : GCoatSheet} (h : ShOk s) {m : Nat} (hm : 1 ≤ m) : ShOk (upTo s m) := by
 refine ⟨h.dk, ?_, h.w, h.wl, h.u⟩
 have := h.c
 show 1 ≤ (s.Coats.take m).length ∧ (s.Coats.take m).length ≤ 5
 rw [List.length_take]
 omega
theorem hasPlan_eq {s : GCoatSheet} (h : ShOk s) : ∃ b, g_coat_hasPlan s = some b ∧ (b = true ↔ NEP s) := by
 obtain ⟨L, e, hL, _⟩ := plans_eq h
 refine ⟨!L.isEmpty, ?_, ?_⟩
 ·unfold g_coat_hasPlan
  rw [summed_of h.dk, Option.bind_some, e]
  rfl
 ·cases L with
  | nil =>
   constructor
   ·intro hh; cases hh
   ·rintro ⟨q, hq⟩
    exact absurd ((hL q).2 hq) (by simp)
  | cons q L => exact ⟨fun _ => ⟨q, (hL q).1 (by simp)⟩, fun _ => rfl⟩
structure PlansL (s : GCoatSheet) (L : List (List Int)) : Prop where
 it : it_coat_plans (sumsOf s) = some L
 mem : ∀ q, q ∈ L ↔ planB s q = true ∧ sureB s.Dry s.Coats q = true
 pw : L.Pairwise lexL
 ch : ∃ m, L = listsB m s.Dry.length s.Coats.length [] ∧ ∀ p j, m p j = true → j ∈ s.Work ∧ (∀ a, p.getLast? = some a → p.length ≤ s.Coats.length → a < j)
theorem first_eq {s : GCoatSheet} (hs : OkS s) (h1 : sheetB s = true) : ∃ L, PlansL s L ∧ g_coat_First s = some (headE L) := by
 have h := ShOk.of h1
 obtain ⟨L, e, hL, hp, hm⟩ := plans_eq h
 refine ⟨L, ⟨e, hL, hp, hm⟩, ?_⟩
 unfold g_coat_First
 rw [isSheet_eq hs, h1, Option.bind_some, cond_true, summed_of h.dk, Option.bind_some, e]
 rfl
theorem stuck_l0 {s : GCoatSheet} (h : ShOk s) : ∀ (p : List GCoatCoat) (c : Nat) (o : List GCoatCoat), c + p.length = s.Coats.length →
  (∃ n : Nat, g_coat_Stuck_l0 s p c o = some (.ret ((n : Int), 0)) ∧ n < s.Coats.length ∧ ¬ NEP (upTo s (n + 1)) ∧ ∀ m, c ≤ m → m < n → NEP (upTo s (m + 1))) ∨ (∃ o', g_coat_Stuck_l0 s p c o = some (.go o') ∧ ∀ m, c ≤ m → m < s.Coats.length → NEP (upTo s (m + 1)))
 | [], c, o, hl => .inr ⟨o, rfl, fun m h1 h2 => by simp at hl; omega⟩
 | k :: p, c, o, hl => by
  simp only [List.length_cons] at hl
  have hc := h.c
  obtain ⟨b, hb, hbn⟩ := hasPlan_eq (h.upTo (m := c + 1) (by omega))
  have hsl : sliceO s.Coats 0 ((c : Int) + 1) = some (s.Coats.take (c + 1)) := by
   unfold sliceO
   rw [if_pos (by omega)]
   simp
  have e : g_coat_Stuck_l0 s (k :: p) c o = cond b (g_coat_Stuck_l0 s p ((c + 1 : Nat) : Int) (s.Coats.take (c + 1))) (some (.ret ((c : Int), 0))) := by
   rw [g_coat_Stuck_l0, hsl, Option.bind_some]
   show Option.bind (g_coat_hasPlan (upTo s (c + 1))) _ = _
   rw [hb]
   rfl
  cases b with
  | false =>
   refine .inl ⟨c, e, by omega, fun hn => ?_, fun m h1 h2 => by omega⟩
   exact absurd (hbn.2 hn) (by simp)
  | true =>
   rcases stuck_l0 h p (c + 1) (s.Coats.take (c + 1)) (by omega) with ⟨n, e2, h2, h3, h4⟩ | ⟨o', e2, h4⟩
   ·refine .inl ⟨n, e.trans e2, h2, h3, fun m h5 h6 => ?_⟩
    by_cases hm : m = c
    ·subst hm; exact hbn.1 rfl
    ·exact h4 m (by omega) h6
   ·refine .inr ⟨o', e.trans e2, fun m h5 h6 => ?_⟩
    by_cases hm : m = c
    ·subst hm; exact hbn.1 rfl
    ·exact h4 m (by omega) h6
theorem stuck_eq {s : GCoatSheet} (hs : OkS s) (h1 : sheetB s = true) : (∃ n : Nat, g_coat_Stuck s = some ((n : Int), 0) ∧ n < s.Coats.length ∧ ¬ NEP (upTo s (n + 1)) ∧ ∀ m, m < n → NEP (upTo s (m + 1))) ∨ (g_coat_Stuck s = some (0, 5) ∧ ∀ m, m < s.Coats.length → NEP (upTo s (m + 1))) := by
 have h := ShOk.of h1
 unfold g_coat_Stuck
 rw [isSheet_eq hs, h1, Option.bind_some, cond_true, hs.c, cond_true]
 rcases stuck_l0 h s.Coats 0 s.Coats (by simp) with ⟨n, e2, h2, h3, h4⟩ | ⟨o', e2, h4⟩
 ·refine .inl ⟨n, ?_, h2, h3, fun m hm => h4 m (Nat.zero_le _) hm⟩
  rw [show ((0 : Nat) : Int) = 0 from rfl] at e2
  rw [e2]; rfl
 ·refine .inr ⟨?_, fun m hm => h4 m (Nat.zero_le _) hm⟩
  rw [show ((0 : Nat) : Int) = 0 from rfl] at e2
  rw [e2]; rfl
end Go.V
end
section
namespace Go.V
open Go Go.Proofs
end Go.V
end
section
namespace Go.V
open Go Go.Proofs
end Go.V
end
section
namespace Go.V
open Go Go.Proofs
end Go.V
end
section
namespace Go.V
open Go
def ltL : List Int → List Int → Bool
 | a :: x, b :: y => cond (a != b) (decide (a < b)) (ltL x y)
 | _, _ => false
structure FP (cs : List GCoatCoat) (p : List Int) (pre : List Int) (rest : List GSpan) (r : List Int) : Prop where
 i : inW rest r = true
 f : sureB ((pre ++ r).map ptS) cs p = false
 m : ∀ w, inW rest w = true → sureB ((pre ++ w).map ptS) cs p = false → ltL w r = false
section
variable {cs : List GCoatCoat} {p : List Int} {wk : List Int} {n : Nat} (hn : n ≤ 12) (hc : 1 ≤ cs.length ∧ cs.length ≤ 5) (hl : p.length = cs.length) (hu : upB p = true) (hr : ∀ x ∈ p, 0 ≤ x ∧ x ≤ (n : Int) - 1)
include hn hc hl hu hr
end
end Go.V
end
section
namespace Go.V
open Go Go.Proofs
end Go.V
end
section
namespace Go.V
open Go Go.Proofs
def g_ref01_Same_l0 (x1_b : List Int) : List Int → Int → Option (LOut (Bool) (Unit))
 | [], c0_5 => some (.go ())
 | e0 :: p0, c0_5 => Option.bind (getI x1_b c0_5) (fun x1 => cond (e0 != x1) (some (.ret false)) (g_ref01_Same_l0 x1_b p0 (c0_5 + 1)))
def g_ref01_Same (x0_a : List Int) (x1_b : List Int) : Option (Bool) := cond ((List.length x0_a : Int) != (List.length x1_b : Int)) (some false) (cond (lenOk x0_a) (lbind (g_ref01_Same_l0 x1_b x0_a 0) (fun r3 => some r3) (fun c2 => some true) (fun _ _ => none)) none)
theorem g_ref01_Same_ok (x0_a : List Int) (x1_b : List Int) (R : Bool) (h : g_ref01_Same x0_a x1_b = some R) : VPure Tryz.prog G0 21 [.sl (cellsL eI x0_a) (List.length x0_a) false, .sl (cellsL eI x1_b) (List.length x1_b) false] (.tree (.lit (.bool R))) := by
 refine VPure.runR mixed Tryz.call21 Tryz.func21 rfl (by simp [Tryz.ntmps21]; kernel_rfl) ?_
 obtain ⟨KF, h, kF, kN⟩ := fun_intro h
 simp only [g_ref01_Same] at h
 cases d4 : ((List.length x0_a : Int) != (List.length x1_b : Int))
 ·simp only [d4, hs] at h
  cases g6 : (lenOk x0_a)
  ·simp only [g6, hs] at h
   exact absurd h kN
  simp only [g6, hs] at h
  simp only [vz, tyf, d4, g6, nm, seval]
  obtain ⟨K5, h, kR5, kG5, kB5, kN5⟩ := lbind_intro h kN
  obtain ⟨f5, hf5, h⟩ := call2 h
  obtain ⟨I5, hI5⟩ : ∃ I : Nat → St → Prop, I = (fun m st => ∃ (p5 : List Int) (c5_5 : Int), m = List.length p5 ∧ 0 ≤ c5_5 ∧ List.drop (Int.toNat c5_5) x0_a = p5 ∧ st.df = [] ∧ 7 ≤ st.nx ∧ st.tm 0 = .sl (cellsL eI x0_a) (List.length x0_a) false ∧ st.tm 1 = .sl (cellsL eI x1_b) (List.length x1_b) false ∧ st.tm 5 = .lit (.int .i64 c5_5) ∧ K5 (f5 p5 c5_5)) := ⟨_, rfl⟩
  refine loopK mixed (by kernel_rfl) I5 (List.length x0_a) (by rw [hI5]; refine ⟨x0_a, 0, rfl, Int.le_refl _, rfl, rfl, (show 7 ≤ 7 by omega), ?_, ?_, ?_, h⟩ <;> first | (simp only [ua, d4, nm, seval] <;> rfl) | rfl) ?_
  rintro m ⟨tm, H, nx5, df⟩ hinv
  rw [hI5] at hinv
  obtain ⟨p5, c5_5, rfl, hi5, hp5, hdf, hn5, e7, e8, e9, h⟩ := hinv
  simp only at hdf hn5 e7 e8 e9
  have n10 := base_ne0 (m := 7) (b := nx5) (by omega)
  subst hdf hf5
  cases p5 with
  | nil =>
   have d11 : (decide (c5_5 < (List.length x0_a : Int))) = false := not_lt_of_drop hi5 hp5
   simp only [g_ref01_Same_l0, hs, reduceCtorEq] at h
   replace h := kG5 _ h
   try dsimp only at h
   try simp only [hs] at h
   try simp only [vz, tyf, d4, g6, n10, e7, e8, e9, d11, nm, seval]
   obtain rfl := kF _ h
   exact opd_bool Tryz.results21 rfl
  | cons e5 p5 =>
   have d12 : (decide (c5_5 < (List.length x0_a : Int))) = true := lt_of_drop hi5 hp5
   have o14 := getI_of_drop hi5 hp5
   have w13 := wrap_next hi5 hp5 g6
   simp only [g_ref01_Same_l0, hs, reduceCtorEq] at h
   simp only [vz, tyf, d4, g6, n10, e7, e8, e9, d12, (ix23 o14), w13, nm, seval]
   refine cwp_drwQF (fun tm => tm 0 = .sl (cellsL eI x0_a) (List.length x0_a) false ∧ tm 1 = .sl (cellsL eI x1_b) (List.length x1_b) false ∧ tm 5 = .lit (.int .i64 c5_5) ∧ True) (by refine ⟨e7, e8, e9, trivial⟩ <;> first | (simp only [ua, d4, n10, e7, e8, e9, d12, w13, nm, seval] <;> rfl) | rfl) ?_
   rintro tm ⟨e15, e16, e17, _⟩
   rcases o19 : (getI x1_b c5_5) with _ | x18
   ·simp only [o19, hs] at h
    exact absurd h kN5
   simp only [o19, hs] at h
   cases d20 : (e5 != x18)
   ·simp only [d20, hs] at h
    simp only [vz, tyf, d4, g6, n10, d12, (ix23 o14), w13, e15, e16, e17, (ix23 o19), d20, nm, seval]
    exact ⟨List.length p5, Nat.lt_succ_self _, by rw [hI5]; refine ⟨p5, c5_5 + 1, rfl, Int.le_trans hi5 (Int.le_add_one (Int.le_refl _)), drop_next hi5 hp5, rfl, (show 7 ≤ nx5 + 16 by omega), e15, e16, ?_, h⟩ <;> first | (simp only [ua, d4, n10, d12, w13, e15, e16, e17, d20, nm, seval] <;> rfl) | rfl⟩
   simp only [d20, hs] at h
   try simp only [vz, tyf, d4, g6, n10, d12, (ix23 o14), w13, e15, e16, e17, (ix23 o19), d20, nm, seval]
   replace h := kR5 _ h
   try dsimp only at h
   obtain rfl := kF _ h
   exact opd_bool Tryz.results21 rfl
 simp only [d4, hs] at h
 try simp only [vz, tyf, d4, nm, seval]
 obtain rfl := kF _ h
 exact opd_bool Tryz.results21 rfl
end Go.V
end
section
namespace Go.V
open Go
set_option linter.unusedVariables false
set_option linter.unusedSimpArgs false
theorem same_l0_eq (b : List Int) : ∀ (p r : List Int) (i : Int), 0 ≤ i → b.drop i.toNat = r → p.length = r.length → g_ref01_Same_l0 b p i = goB (p == r)
 | [], [], _, _, _, _ => rfl
 | [], _ :: _, _, _, _, hl => by simp at hl
 | _ :: _, [], _, _, _, hl => by simp at hl
 | e :: p, q :: r, i, h0, h, hl => by
  have := same_l0_eq b p r (i + 1) (by omega) (drop_next h0 h) (by simpa using hl)
  simp only [g_ref01_Same_l0, getI_of_drop h0 h, Option.bind_some, this, List.cons_beq_cons, goB_and, bne, cnot]
theorem same_eq (a b : List Int) (h : lenOk a = true) : g_ref01_Same a b = some (a == b) := by
 unfold g_ref01_Same
 by_cases hl : a.length = b.length
 ·have : ((a.length : Int) != (b.length : Int)) = false := by simp [hl]
  simp only [this, cond_false, h, cond_true, same_l0_eq b a b 0 (by omega) rfl hl, goB_lbind]
  cases a == b <;> rfl
 ·have : ((a.length : Int) != (b.length : Int)) = true := by simp; omega
  have h2 : (a == b) = false := by
   simp only [beq_eq_false_iff_ne, ne_eq]
   intro hh; exact hl (by rw [hh])
  simp only [this, cond_true, h2]
theorem short_eq' (s : GCoatSheet) : ∃ b, g_law03_short s = some b := by
 unfold g_law03_short
 cases decide ((s.Dry.length : Int) ≤ 14) with
 | false => exact ⟨_, rfl⟩
 | true =>
 cases decide ((s.Work.length : Int) ≤ 16) with
 | false => exact ⟨_, rfl⟩
 | true => exact ⟨_, rfl⟩
def binN : Nat → Nat → Nat
 | _, 0 => 1
 | 0, _ + 1 => 0
 | n + 1, d + 1 => binN n d + binN n (d + 1)
def fromN (p : List Int) : Nat := match p.getLast? with
 | some a => (a + 1).toNat
 | none => 0
theorem length_listsB {m : List Int → Int → Bool} {lim N : Nat} (hm : ∀ p j, m p j = true → ∀ a, p.getLast? = some a → p.length ≤ N → a < j) : ∀ (d : Nat) (p : List Int), p.length + d ≤ N + 1 → (listsB m lim d p).length ≤ binN (lim - fromN p) d
 | 0, p, _ => by rw [listsB]; cases lim - fromN p <;> exact Nat.le_refl _
 | d + 1, p, hp => by
  rw [listsB]
  have key : ∀ (k c : Nat), c + k = lim → ((List.range' c k).flatMap fun i : Nat => if m p (i : Int) then listsB m lim d (p ++ [(i : Int)]) else []).length ≤ binN (lim - max c (fromN p)) (d + 1) := by
   intro k
   induction k with
   | zero => intro c _; exact Nat.zero_le _
   | succ k ih =>
    intro c hc
    rw [List.range'_succ, List.flatMap_cons, List.length_append]
    have ih' := ih (c + 1) (by omega)
    by_cases hcf : c < fromN p
    ·have hw : m p (c : Int) = false := by
      cases hmm : m p (c : Int) with
      | false => rfl
      | true =>
       unfold fromN at hcf
       cases hl : p.getLast? with
       | none => rw [hl] at hcf; simp at hcf
       | some a =>
        rw [hl] at hcf
        have := hm p c hmm a hl (by omega)
        simp only at hcf
        omega
     rw [hw, show max c (fromN p) = max (c + 1) (fromN p) by omega]
     simpa using ih'
    ·have e1 : lim - max c (fromN p) = k + 1 := by omega
     have e2 : lim - max (c + 1) (fromN p) = k := by omega
     rw [e2] at ih'
     rw [e1]
     show _ ≤ binN k d + binN k (d + 1)
     have hw : (if m p (c : Int) then listsB m lim d (p ++ [(c : Int)]) else []).length ≤ binN k d := by
      split
      ·have := length_listsB (lim := lim) hm d (p ++ [(c : Int)]) (by simp; omega)
       have e3 : fromN (p ++ [(c : Int)]) = c + 1 := by
        unfold fromN
        simp
       rw [e3, show lim - (c + 1) = k by omega] at this
       exact this
      ·exact Nat.zero_le _
     omega
  have := key lim 0 (by omega)
  rw [show max 0 (fromN p) = fromN p by omega] at this
  exact this
theorem binN_le : ∀ n, n < 13 → ∀ d, d < 6 → binN n d ≤ 792 := by decide
theorem plansL_len {s : GCoatSheet} (h : ShOk s) {L : List (List Int)} (hP : PlansL s L) : L.length ≤ 792 := by
 obtain ⟨m, rfl, hm⟩ := hP.ch
 have hc := h.c
 have hd := h.dk.l
 have := length_listsB (m := m) (lim := s.Dry.length) (N := s.Coats.length) (fun p j hj a ha hl => (hm p j hj).2 a ha hl) s.Coats.length [] (by simp)
 have e : fromN [] = 0 := rfl
 rw [e, Nat.sub_zero] at this
 exact Nat.le_trans this (binN_le _ (by omega) _ (by omega))
theorem count_eq {s : GCoatSheet} (hs : OkS s) (h1 : sheetB s = true) {L : List (List Int)} (hP : PlansL s L) : g_coat_Count s = some ((L.length : Int), 0) := by
 have h := ShOk.of h1
 have := plansL_len h hP
 unfold g_coat_Count
 rw [isSheet_eq hs, h1, Option.bind_some, cond_true, summed_of h.dk, Option.bind_some, hP.it, Option.bind_some, lenOk_of (by omega)]
 rfl
end Go.V
end
section
namespace Go.V
open Go Go.Proofs
set_option linter.unusedSimpArgs false
set_option linter.unusedVariables false
set_option maxRecDepth 4000
set_option maxHeartbeats 4000000
end Go.V
end
section
namespace Go.V
open Go Go.Proofs
end Go.V
end
section
namespace Go.V
open Go Go.Proofs
end Go.V
end
section
namespace Go.V
open Go Go.Proofs
set_option linter.unusedSimpArgs false
set_option linter.unusedVariables false
set_option maxRecDepth 4000
set_option maxHeartbeats 4000000
end Go.V
end
section
namespace Go.V
open Go Go.Proofs
set_option linter.unusedSimpArgs false
set_option linter.unusedVariables false
set_option maxRecDepth 4000
set_option maxHeartbeats 4000000
end Go.V
end
section
namespace Go.V
open Go Go.Proofs
end Go.V
end
section
namespace Go.V
open Go Go.Proofs
end Go.V
end
section
namespace Go.V
open Go Go.Proofs
end Go.V
end
section
namespace Go.V
open Go Go.Proofs
end Go.V
end
section
namespace Go.V
open Go Go.Proofs
end Go.V
end
section
namespace Go.V
open Go Go.Proofs
end Go.V
end
section
namespace Go.V
open Go
set_option linter.unusedVariables false
set_option linter.unusedSimpArgs false
end Go.V
end
section
set_option linter.unusedVariables false
set_option linter.unusedSimpArgs false
namespace Go.V
open Go
theorem neB_false {α : Type} {xs : List α} (h : neB xs = false) : xs = [] := by
 cases xs with
 | nil => rfl
 | cons a l => cases h
section
variable {P : Program} {G : Glob} {H : Nat → Option VObj} {γ : Nat} {α : Type} {enc : α → List VV} {t t2 e e2 w b : Nat} {xs ys : List α} {el : Option TypeId} {β : Nat} {f : Bool} {k : VV → VEff → Prop}
theorem k_appSE (he : ∀ x, (enc x).length = w) (hl : ∀ x, leafL (enc x) = true) (ha : appOk P t = some (e, w, b)) (hu2 : P.underlying t2 = some (.slice e2)) (hb : H β = some (.cells el (cellsL enc xs)))
  (hm : neB ys = false) (h : k (.ref β 0 xs.length w xs.length) (.upd β (.cells el (cellsL enc xs)))) :
  oeK (vappend P H γ t t2 (.ref β 0 xs.length w xs.length) (.sl (cellsL enc ys) ys.length f)) k := by
 have hm := neB_false hm
 subst hm
 obtain ⟨hu, inf, z, hi, hz, rfl, rfl, hs0, hb0, hzs⟩ := appOk_some ha
 have h1 := cellsL_length he xs
 have key : vappend P H γ t t2 (.ref β 0 xs.length inf.size xs.length) (.sl (cellsL enc ([] : List α)) ([] : List α).length f) = some (.ref β 0 xs.length inf.size xs.length, .upd β (.cells el (cellsL enc xs))) := by
  simp only [vappend, nilS, vappend1, hu, hu2, hi, hz, srcV, sls, hs0, hb0, hzs, hb, cellsL_nil, List.length_nil]
  simp [h1, overwrite]
 rw [key]
 exact h
theorem k_appNE (ha : appOk P t = some (e, w, b)) (hu2 : P.underlying t2 = some (.slice e2)) (hm : neB ys = false) (h : k (.sl [] 0 true) .none) :
  oeK (vappend P H γ t t2 (.lit (.slice none 0 0)) (.sl (cellsL enc ys) ys.length f)) k := by
 have hm := neB_false hm
 subst hm
 obtain ⟨hu, inf, z, hi, hz, rfl, rfl, hs0, hb0, hzs⟩ := appOk_some ha
 have key : vappend P H γ t t2 (.lit (.slice none 0 0)) (.sl (cellsL enc ([] : List α)) ([] : List α).length f) = some (.sl [] 0 true, .none) := by
  simp only [vappend, nilS, vappend1, hu, hu2, hi, hz, srcV, sls, hs0, hb0, hzs, cellsL_nil, List.length_nil]
  simp
 rw [key]
 exact h
theorem fin_updS {d : Tmp} {γ : Nat} {tm : Nat → VV} {nx : Nat} {df : List VDef} {K : St → Prop} {x : VV} {β : Nat} {o : VObj} : fin (some d) γ tm H nx df K x (.upd β o) = K ⟨upd tm d x, updH H β o, nx, df⟩ := rfl
theorem vap_full {s : VV} : vappend P H γ t t2 (.sl [] 0 true) s = vappend P H γ t t2 (.lit (.slice none 0 0)) s := rfl
theorem kfreeze {f : FuncId} {args args' args0 : List VV} {x : VV} {d : Option Tmp} {γ g : Nat} {tm : Nat → VV} {nx : Nat} {df : List VDef} {K : St → Prop} {Qp : VV → St → Prop} {cs : List VV} (hγ : H g = some (.cells el cs)) (ha : FrozenL H (without H g) args args')
  (hn : normL args' = args0) (ht : treeL args' = true) (hp : VPure P G f args0 (.tree x)) (h : fin d γ tm (without H g) nx df K x .none) : callK P G f args ⟨tm, H, nx, df⟩ d γ K Qp := by
 subst hn
 refine .inr (.inr ?_)
 unfold openK
 refine VOpen.mono (VOpen.freeze1 hγ ha (VOpen.of_pure hp.norm ht)) ?_ (fun _ _ _ h => h.elim)
 rintro v H2 nx2 ⟨rfl, rfl, rfl⟩
 rw [← fin_eq (K := K), stepTo_none] at h
 cases d <;> exact h
end
end Go.V
namespace Go.V
open Go
end Go.V
namespace Go.V
open Go
theorem nilS_some {y : VV} (h : nilS y = .sl [] 0 true) : y = .lit (.slice none 0 0) ∨ y = .sl [] 0 true := by
 unfold nilS at h
 split at h
 ·exact .inl rfl
 ·exact .inr h
theorem vap_y {y : VV} (hy : nilS y = .sl [] 0 true) (P : Program) (H : Nat → Option VObj) (γ : Nat) (t t2 : TypeId) (x : VV) : vappend P H γ t t2 y x = vappend P H γ t t2 (.lit (.slice none 0 0)) x := by
 show vappend1 P H γ t t2 (nilS y) x = vappend1 P H γ t t2 (.sl [] 0 true) x
 rw [hy]
theorem outV_y {y : VV} (hy : nilS y = .sl [] 0 true) (H : Nat → Option VObj) : outV H y = .sl [] 0 false := by
 rcases nilS_some hy with rfl | rfl <;> simp [outV, showV, normV, normL]
end Go.V
end
