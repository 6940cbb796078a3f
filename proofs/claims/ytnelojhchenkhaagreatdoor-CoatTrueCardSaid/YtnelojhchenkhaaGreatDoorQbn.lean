/- Part of a proof: a logic of values by content, lifted functions, what follows. -/
import Derived.Test.YtnelojhchenkhaaGreatDoorQbc
import Derived.Test.YtnelojhchenkhaaGreatDoorQbe
import Derived.Test.YtnelojhchenkhaaGreatDoorQbl
import Derived.Test.YtnelojhchenkhaaGreatDoorQbm
set_option linter.all false
set_option maxRecDepth 4000
set_option maxHeartbeats 4000000
section
namespace Go.V
open Go Go.Proofs
def g_ref01_Before_l0 (x1_b : List Int) : List Int → Int → Option (LOut (Bool) (Unit))
 | [], c0_5 => some (.go ())
 | e0 :: p0, c0_5 => cond (decide (c0_5 < (List.length x1_b : Int))) (Option.bind (getI x1_b c0_5) (fun x1 => cond (e0 != x1) (some (.ret (decide (e0 < x1)))) (g_ref01_Before_l0 x1_b p0 (c0_5 + 1)))) (some (.go ()))
def g_ref01_Before (x0_a : List Int) (x1_b : List Int) : Option (Bool) := cond (lenOk x0_a) (lbind (g_ref01_Before_l0 x1_b x0_a 0) (fun r3 => some r3) (fun c2 => some (decide ((List.length x0_a : Int) < (List.length x1_b : Int)))) (fun _ _ => none)) none
theorem g_ref01_Before_ok (x0_a : List Int) (x1_b : List Int) (R : Bool) (h : g_ref01_Before x0_a x1_b = some R) : VPure Tryz.prog G0 35 [.sl (cellsL eI x0_a) (List.length x0_a) false, .sl (cellsL eI x1_b) (List.length x1_b) false] (.tree (.lit (.bool R))) := by
 refine VPure.runR mixed Tryz.call35 Tryz.func35 rfl (by simp [Tryz.ntmps35]; kernel_rfl) ?_
 obtain ⟨KF, h, kF, kN⟩ := fun_intro h
 simp only [g_ref01_Before] at h
 cases g5 : (lenOk x0_a)
 ·simp only [g5, hs, reduceCtorEq] at h
  exact absurd h kN
 simp only [g5, hs, reduceCtorEq] at h
 simp only [vz, tyf, g5, nm, seval]
 obtain ⟨K4, h, kR4, kG4, kB4, kN4⟩ := lbind_intro h kN
 obtain ⟨f4, hf4, h⟩ := call2 h
 obtain ⟨I4, hI4⟩ : ∃ I : Nat → St → Prop, I = (fun m st => ∃ (p4 : List Int) (c4_5 : Int), m = List.length p4 ∧ 0 ≤ c4_5 ∧ List.drop (Int.toNat c4_5) x0_a = p4 ∧ st.df = [] ∧ 2 ≤ st.nx ∧ st.tm 0 = .sl (cellsL eI x0_a) (List.length x0_a) false ∧ st.tm 1 = .sl (cellsL eI x1_b) (List.length x1_b) false ∧ st.tm 5 = .lit (.int .i64 c4_5) ∧ K4 (f4 p4 c4_5)) := ⟨_, rfl⟩
 refine loopK mixed (by kernel_rfl) I4 (List.length x0_a) (by rw [hI4]; refine ⟨x0_a, 0, rfl, Int.le_refl _, rfl, rfl, (show 2 ≤ 2 by omega), ?_, ?_, ?_, h⟩ <;> first | (simp only [ua, nm, seval] <;> rfl) | rfl) ?_
 rintro m ⟨tm, H, nx4, df⟩ hinv
 rw [hI4] at hinv
 obtain ⟨p4, c4_5, rfl, hi4, hp4, hdf, hn4, e6, e7, e8, h⟩ := hinv
 simp only at hdf hn4 e6 e7 e8
 have n9 := base_ne0 (m := 2) (b := nx4) (by omega)
 subst hdf hf4
 cases p4 with
 | nil =>
  have d10 : (decide (c4_5 < (List.length x0_a : Int))) = false := not_lt_of_drop hi4 hp4
  simp only [g_ref01_Before_l0, hs, reduceCtorEq] at h
  replace h := kG4 _ h
  try dsimp only at h
  try simp only [hs] at h
  try simp only [vz, tyf, g5, n9, e6, e7, e8, d10, nm, seval]
  obtain rfl := kF _ h
  exact opd_bool Tryz.results35 (by first | rfl | (simp only [upd_apply, seval] <;> rfl))
 | cons e4 p4 =>
  have d11 : (decide (c4_5 < (List.length x0_a : Int))) = true := lt_of_drop hi4 hp4
  have o13 := getI_of_drop hi4 hp4
  have w12 := wrap_next hi4 hp4 g5
  simp only [g_ref01_Before_l0, hs, reduceCtorEq] at h
  cases d14 : (decide (c4_5 < (List.length x1_b : Int)))
  ·simp only [d14, hs, reduceCtorEq] at h
   replace h := kG4 _ h
   try dsimp only at h
   try simp only [hs] at h
   try simp only [vz, tyf, g5, n9, e6, e7, e8, d11, (ix23 o13), w12, d14, nm, seval]
   obtain rfl := kF _ h
   exact opd_bool Tryz.results35 (by first | rfl | (simp only [upd_apply, seval] <;> rfl))
  simp only [d14, hs, reduceCtorEq] at h
  simp only [vz, tyf, g5, n9, e6, e7, e8, d11, (ix23 o13), w12, d14, nm, seval]
  refine cwp_drwQF (fun tm => tm 0 = .sl (cellsL eI x0_a) (List.length x0_a) false ∧ tm 1 = .sl (cellsL eI x1_b) (List.length x1_b) false ∧ tm 5 = .lit (.int .i64 c4_5) ∧ True) (by refine ⟨e6, e7, e8, trivial⟩ <;> first | (simp only [ua, n9, e6, e7, e8, d11, w12, d14, nm, seval] <;> rfl) | rfl) ?_
  rintro tm ⟨e15, e16, e17, _⟩
  rcases o19 : (getI x1_b c4_5) with _ | x18
  ·simp only [o19, hs, reduceCtorEq] at h
   exact absurd h kN4
  simp only [o19, hs, reduceCtorEq] at h
  cases d20 : (e4 != x18)
  ·simp only [d20, hs, reduceCtorEq] at h
   simp only [vz, tyf, g5, n9, d11, (ix23 o13), w12, d14, e15, e16, e17, (ix23 o19), d20, nm, seval]
   exact ⟨List.length p4, Nat.lt_succ_self _, by rw [hI4]; refine ⟨p4, c4_5 + 1, rfl, Int.le_trans hi4 (Int.le_add_one (Int.le_refl _)), drop_next hi4 hp4, rfl, (show 2 ≤ nx4 + 22 by omega), e15, e16, ?_, h⟩ <;> first | (simp only [ua, n9, d11, w12, d14, e15, e16, e17, d20, nm, seval] <;> rfl) | rfl⟩
  simp only [d20, hs, reduceCtorEq] at h
  simp only [vz, tyf, g5, n9, d11, (ix23 o13), w12, d14, e15, e16, e17, (ix23 o19), d20, nm, seval]
  refine cwp_drwQF (fun tm => tm 0 = .sl (cellsL eI x0_a) (List.length x0_a) false ∧ tm 1 = .sl (cellsL eI x1_b) (List.length x1_b) false ∧ tm 5 = .lit (.int .i64 c4_5) ∧ True) (by refine ⟨e15, e16, e17, trivial⟩ <;> first | (simp only [ua, n9, d11, w12, d14, e15, e16, e17, d20, nm, seval] <;> rfl) | rfl) ?_
  rintro tm ⟨e21, e22, e23, _⟩
  try simp only [vz, tyf, g5, n9, d11, (ix23 o13), w12, d14, (ix23 o19), d20, e21, e22, e23, nm, seval]
  replace h := kR4 _ h
  try dsimp only at h
  obtain rfl := kF _ h
  exact opd_bool Tryz.results35 (by first | rfl | (simp only [upd_apply, seval] <;> rfl))
end Go.V
end
section
namespace Go.V
open Go
def leL : List Int → List Int → Prop
 | [], [] => True
 | a :: x, b :: y => a ≤ b ∧ leL x y
 | _, _ => False
theorem leL_take : ∀ {x y : List Int} (a b : Nat), leL x y → a ≤ b → (x.take b).sum - (x.take a).sum ≤ (y.take b).sum - (y.take a).sum
 | [], [], a, b, _, _ => by simp
 | u :: x, v :: y, 0, 0, _, _ => by simp
 | u :: x, v :: y, 0, b + 1, h, _ => by
  have := leL_take 0 b h.2 (Nat.zero_le _)
  have h1 := h.1
  simp only [List.take_zero, List.sum_nil, List.take_succ_cons, List.sum_cons] at this ⊢
  omega
 | u :: x, v :: y, a + 1, 0, _, hab => by omega
 | u :: x, v :: y, a + 1, b + 1, h, hab => by
  have := leL_take a b h.2 (by omega)
  simp only [List.take_succ_cons, List.sum_cons] at this ⊢
  omega
 | [], _ :: _, _, _, h, _ => h.elim
 | _ :: _, [], _, _, h, _ => h.elim
theorem leL_SI {x y : List Int} (h : leL x y) {a b : Int} (hab : a ≤ b) : SI x b - SI x a ≤ SI y b - SI y a := leL_take _ _ h (by omega)
theorem failW_mono {lo lo' hi hi' : Int → Int} {n : Int} (h1 : ∀ a b, a ≤ b → lo b - lo a ≤ lo' b - lo' a) (h2 : ∀ a b, a ≤ b → hi' b - hi' a ≤ hi b - hi a) : ∀ (p : List Int) (cs : List GCoatCoat) (i : Int), upB p = true → (∀ x ∈ p, x ≤ n) → (failW lo hi n p cs i).isNone = true → (failW lo' hi' n p cs i).isNone = true
 | [], _, _, _, _, _ => by simp [failW]
 | _ :: _, [], _, _, _, _ => by simp [failW]
 | a :: p, c :: cs, i, hu, hn, h => by
  have ha := hn a (by simp)
  have hb : a ≤ p.headD n := up_head hu ha
  have e1 := h1 a _ hb
  have e2 := h2 a _ hb
  simp only [failW] at h ⊢
  cases d1 : decide (lo (p.headD n) - lo a < c.Need) with
  | true => rw [d1] at h; simp at h
  | false =>
  rw [d1] at h
  have d1' := of_decide_eq_false d1
  rw [decide_eq_false (by omega)]
  cases d2 : (!p.isEmpty && decide (hi (p.headD n) - hi a > c.Peel)) with
  | true => rw [d2] at h; simp at h
  | false =>
  rw [d2] at h
  have d3 : (!p.isEmpty && decide (hi' (p.headD n) - hi' a > c.Peel)) = false := by
   cases hp : p.isEmpty with
   | true => rfl
   | false =>
    rw [hp] at d2
    have d2' := of_decide_eq_false (show decide (hi (p.headD n) - hi a > c.Peel) = false from d2)
    exact decide_eq_false (by omega)
  rw [d3]
  simp only [cond_false] at h ⊢
  exact failW_mono h1 h2 p cs (i + 1) (up_tail hu) (fun x hx => hn x (by simp [hx])) h
theorem failW_or {lo hi lo' hi' : Int → Int} {n : Int} : ∀ (p : List Int) (cs : List GCoatCoat) (i : Int), (failW lo hi n p cs i).isNone = false → (failW lo hi' n p cs i).isNone = false ∨ (failW lo' hi n p cs i).isNone = false
 | [], _, _, h => by simp [failW] at h
 | _ :: _, [], _, h => by simp [failW] at h
 | a :: p, c :: cs, i, h => by
  simp only [failW] at h ⊢
  cases d1 : decide (lo (p.headD n) - lo a < c.Need) with
  | true => left; rfl
  | false =>
  rw [d1] at h
  cases d2 : (!p.isEmpty && decide (hi (p.headD n) - hi a > c.Peel)) with
  | true =>
   right
   cases decide (lo' (p.headD n) - lo' a < c.Need) <;> rfl
  | false =>
  rw [d2] at h
  rcases failW_or (lo' := lo') (hi' := hi') p cs (i + 1) h with h | h
  ·left
   cases (!p.isEmpty && decide (hi' (p.headD n) - hi' a > c.Peel)) with
   | true => rfl
   | false => exact h
  ·right
   cases decide (lo' (p.headD n) - lo' a < c.Need) with
   | true => rfl
   | false => exact h
theorem inW_lows : ∀ {d : List GSpan} {w : List Int}, inW d w = true → leL (lowsL d) w ∧ leL w (highsL d)
 | [], [], _ => ⟨trivial, trivial⟩
 | x :: d, y :: w, h => by
  simp only [inW, Bool.and_eq_true, inB_iff] at h
  have := inW_lows h.2
  exact ⟨⟨h.1.1, this.1⟩, ⟨h.1.2, this.2⟩⟩
 | [], _ :: _, h => by cases h
 | _ :: _, [], h => by cases h
theorem sure_holds {d : List GSpan} {cs : List GCoatCoat} {p w : List Int} (h : VP d cs p) (hi : inW d w = true) (hs : sureB d cs p = true) : holdsW d cs p w = true := by
 obtain ⟨h1, h2⟩ := inW_lows hi
 exact failW_mono (fun a b hab => leL_SI h1 hab) (fun a b hab => leL_SI h2 hab) p cs 0 h.u (fun x hx => by have := h.r x hx; omega) hs
theorem never_holds {d : List GSpan} {cs : List GCoatCoat} {p w : List Int} (h : VP d cs p) (hi : inW d w = true) (hs : holdsW d cs p w = true) : (bestW d cs p).isNone = true := by
 obtain ⟨h1, h2⟩ := inW_lows hi
 exact failW_mono (fun a b hab => leL_SI h2 hab) (fun a b hab => leL_SI h1 hab) p cs 0 h.u (fun x hx => by have := h.r x hx; omega) hs
def inD : List GSpan → List GSpan → Prop
 | [], [] => True
 | x :: xs, y :: ys => x.Low ≤ y.Low ∧ y.High ≤ x.High ∧ inD xs ys
 | _, _ => False
theorem inD_lows : ∀ {d e : List GSpan}, inD d e → leL (lowsL d) (lowsL e) ∧ leL (highsL e) (highsL d)
 | [], [], _ => ⟨trivial, trivial⟩
 | x :: d, y :: e, h => ⟨⟨h.1, (inD_lows h.2.2).1⟩, ⟨h.2.1, (inD_lows h.2.2).2⟩⟩
 | [], _ :: _, h => h.elim
 | _ :: _, [], h => h.elim
theorem sure_in {d e : List GSpan} {cs : List GCoatCoat} {p : List Int} (hl : d.length = e.length) (h : VP d cs p) (hi : inD d e) (hs : sureB d cs p = true) : sureB e cs p = true := by
 obtain ⟨h1, h2⟩ := inD_lows hi
 unfold sureB worstW at hs ⊢
 rw [← hl]
 exact failW_mono (fun a b hab => leL_SI h1 hab) (fun a b hab => leL_SI h2 hab) p cs 0 h.u (fun x hx => by have := h.r x hx; omega) hs
theorem lows_mid (pre post : List GSpan) (e : GSpan) : lowsL (pre ++ e :: post) = lowsL pre ++ e.Low :: lowsL post := by simp [lowsL]
theorem highs_mid (pre post : List GSpan) (e : GSpan) : highsL (pre ++ e :: post) = highsL pre ++ e.High :: highsL post := by simp [highsL]
theorem not_sure {pre post : List GSpan} {e : GSpan} {cs : List GCoatCoat} {p : List Int} (h : sureB (pre ++ e :: post) cs p = false) : sureB (pre ++ ptS e.Low :: post) cs p = false ∨ sureB (pre ++ ptS e.High :: post) cs p = false := by
 unfold sureB worstW at h ⊢
 rcases failW_or (lo' := SI (lowsL (pre ++ ptS e.High :: post))) (hi' := SI (highsL (pre ++ ptS e.Low :: post))) p cs 0 h with h | h
 ·left
  simp only [lows_mid, highs_mid, List.length_append, List.length_cons, ptS] at h ⊢
  exact h
 ·right
  simp only [lows_mid, highs_mid, List.length_append, List.length_cons, ptS] at h ⊢
  exact h
def ltL : List Int → List Int → Bool
 | a :: x, b :: y => cond (a != b) (decide (a < b)) (ltL x y)
 | _, _ => false
theorem before_l0 {b : List Int} : ∀ (p q : List Int) (c : Int), 0 ≤ c → b.drop c.toNat = q → p.length = q.length → ∃ r, g_ref01_Before_l0 b p c = some r ∧ ((r = .go () ∧ ltL p q = false) ∨ r = .ret (ltL p q))
 | [], [], _, _, _, _ => ⟨_, rfl, .inl ⟨rfl, rfl⟩⟩
 | _ :: _, [], _, _, _, h => by simp at h
 | [], _ :: _, _, _, _, h => by simp at h
 | e :: p, v :: q, c, h0, h, hl => by
  have hg := getI_of_drop h0 h
  have hlt := (getI_lt hg).2
  simp only [g_ref01_Before_l0, hg, Option.bind_some, decide_eq_true hlt, cond_true, ltL]
  cases hne : (e != v) with
  | true => exact ⟨_, rfl, .inr rfl⟩
  | false =>
   simp only [cond_false]
   exact before_l0 p q (c + 1) (by omega) (drop_next h0 h) (by simpa using hl)
theorem before_eq {a b : List Int} (ha : lenOk a = true) (h : a.length = b.length) : g_ref01_Before a b = some (ltL a b) := by
 unfold g_ref01_Before
 obtain ⟨r, hr, h2⟩ := before_l0 a b 0 (Int.le_refl _) rfl h
 rw [ha, hr]
 rcases h2 with ⟨rfl, h3⟩ | rfl
 ·simp [lbind, h, h3]
 ·simp [lbind]
structure FP (cs : List GCoatCoat) (p : List Int) (pre : List Int) (rest : List GSpan) (r : List Int) : Prop where
 i : inW rest r = true
 f : sureB ((pre ++ r).map ptS) cs p = false
 m : ∀ w, inW rest w = true → sureB ((pre ++ w).map ptS) cs p = false → ltL w r = false
theorem inD_app : ∀ (pre : List Int) {d e : List GSpan}, inD d e → inD (pre.map ptS ++ d) (pre.map ptS ++ e)
 | [], _, _, h => h
 | a :: pre, _, _, h => ⟨Int.le_refl _, Int.le_refl _, inD_app pre h⟩
theorem inD_pt : ∀ {d : List GSpan} {w : List Int}, inW d w = true → inD d (w.map ptS)
 | [], [], _ => trivial
 | x :: d, y :: w, h => by
  simp only [inW, Bool.and_eq_true, inB_iff] at h
  exact ⟨h.1.1, h.1.2, inD_pt h.2⟩
 | [], _ :: _, h => by cases h
 | _ :: _, [], h => by cases h
def SOk (d : List GSpan) : Prop := ∀ x ∈ d, spanB x = true
section
variable {cs : List GCoatCoat} {p : List Int} {wk : List Int} {n : Nat} (hn : n ≤ 12) (hc : 1 ≤ cs.length ∧ cs.length ≤ 5) (hl : p.length = cs.length) (hu : upB p = true) (hr : ∀ x ∈ p, 0 ≤ x ∧ x ≤ (n : Int) - 1)
include hn hc hl hu hr
theorem vp_of {pre : List Int} {rest : List GSpan} (hp : ∀ v ∈ pre, 0 ≤ v ∧ v ≤ 24) (hs : SOk rest) (hlen : pre.length + rest.length = n) (h1 : 1 ≤ n) : VP (pre.map ptS ++ rest) cs p := by
 refine ⟨⟨fun x hx => ?_, by simp; omega⟩, hc, hl, hu, fun x hx => by have := hr x hx; simp; omega⟩
 rcases List.mem_append.1 hx with h | h
 ·obtain ⟨v, hv, rfl⟩ := List.mem_map.1 h
  have := hp v hv
  exact span_iff.2 ⟨this.1, Int.le_refl _, this.2⟩
 ·exact hs x h
theorem proof_l1 {pre : List Int} {rest : List GSpan} {e : GSpan} (hp : ∀ v ∈ pre, 0 ≤ v ∧ v ≤ 24) (he : spanB e = true) (hs : SOk rest) (hlen : pre.length + (rest.length + 1) = n) : ∀ (k : Nat) (c : Int) (a : List Int), 0 ≤ c → c + k = e.High - e.Low + 1 → a.length ≤ 500 →
  (∃ v, e.Low + c ≤ v ∧ v ≤ e.High ∧ sureB (pre.map ptS ++ ptS v :: rest) cs p = false) → ∃ v, e.Low + c ≤ v ∧ v ≤ e.High ∧ sureB (pre.map ptS ++ ptS v :: rest) cs p = false ∧ (∀ u, e.Low + c ≤ u → u < v → sureB (pre.map ptS ++ ptS u :: rest) cs p = true) ∧
   g_coat_firstProof_l1 p pre.length e k c a (pre.map ptS ++ e :: rest) wk cs = some (.brk 1 (a ++ [v], pre.map ptS ++ ptS v :: rest, wk, cs))
 | 0, c, a, _, h1, _, ⟨v, hv1, hv2, _⟩ => by omega
 | k + 1, c, a, h0, h1, ha, ⟨v, hv1, hv2, hv3⟩ => by
  have hx := span_iff.1 he
  have hvp : VP (pre.map ptS ++ ptS (e.Low + c) :: rest) cs p := vp_of hn hc hl hu hr hp (fun y hy => by
   rcases List.mem_cons.1 hy with rfl | hy
   ·exact span_iff.2 ⟨by show 0 ≤ e.Low + c; omega, Int.le_refl _, by show e.Low + c ≤ 24; omega⟩
   ·exact hs y hy) (by simp; omega) (by omega)
  simp only [g_coat_firstProof_l1]
  rw [wrap_eq (by omega) (by omega), foreseen_eq (s := ⟨pre.map ptS ++ e :: rest, wk, cs⟩) (by simp; omega) (pre := pre.map ptS) (post := rest) (e := e) rfl (by simp)]
  simp only [Option.bind_some]
  rw [surely_eq (s := ⟨pre.map ptS ++ ptS (e.Low + c) :: rest, wk, cs⟩) hvp]
  simp only [Option.bind_some]
  cases hsu : sureB (pre.map ptS ++ ptS (e.Low + c) :: rest) cs p with
  | false =>
   refine ⟨e.Low + c, Int.le_refl _, by omega, hsu, fun u hu1 hu2 => by omega, ?_⟩
   rw [room_small (by simp; omega)]
   rfl
  | true =>
   have hne : v ≠ e.Low + c := by
    intro hh
    rw [hh, hsu] at hv3
    cases hv3
   obtain ⟨v', b1, b2, b3, b4, b5⟩ := proof_l1 hp he hs hlen k (c + 1) a (by omega) (by omega) ha ⟨v, by omega, hv2, hv3⟩
   refine ⟨v', by omega, b2, b3, fun u hu1 hu2 => ?_, b5⟩
   rcases Int.lt_or_eq_of_le hu1 with hlt | heq
   ·exact b4 u (by omega) hu2
   ·rw [← heq]; exact hsu
theorem proof_l0 : ∀ (rest : List GSpan) (pre a : List Int), (∀ v ∈ pre, 0 ≤ v ∧ v ≤ 24) → SOk rest → pre.length + rest.length = n → a.length + rest.length ≤ 500 → sureB (pre.map ptS ++ rest) cs p = false →
  ∃ r, FP cs p pre rest r ∧ ∃ z, g_coat_firstProof_l0 p rest pre.length a (pre.map ptS ++ rest) wk cs = some (.go (a ++ r, z))
 | [], pre, a, _, _, _, _, h => ⟨[], ⟨rfl, by simpa using h, fun w hw _ => by cases w <;> simp [ltL]⟩, _, by simp [g_coat_firstProof_l0]; rfl⟩
 | e :: rest, pre, a, hp, hs, hlen, ha, h => by
  have he := hs e (by simp)
  have hx := span_iff.1 he
  have hs' : SOk rest := fun y hy => hs y (by simp [hy])
  simp only [List.length_cons] at hlen ha
  have hex : ∃ v, e.Low + 0 ≤ v ∧ v ≤ e.High ∧ sureB (pre.map ptS ++ ptS v :: rest) cs p = false := by
   rcases not_sure h with h | h
   ·exact ⟨e.Low, by omega, by omega, h⟩
   ·exact ⟨e.High, by omega, by omega, h⟩
  obtain ⟨v, b1, b2, b3, b4, b5⟩ := proof_l1 (wk := wk) hn hc hl hu hr hp he hs' hlen (e.High - e.Low + 1).toNat 0 a (Int.le_refl _) (by omega) (by omega) hex
  have hv : 0 ≤ v ∧ v ≤ 24 := by omega
  have hpre : ∀ u ∈ pre ++ [v], 0 ≤ u ∧ u ≤ 24 := by
   intro u hu
   rcases List.mem_append.1 hu with hu | hu
   ·exact hp u hu
   ·rw [List.mem_singleton.1 hu]; exact hv
  have b3' : sureB ((pre ++ [v]).map ptS ++ rest) cs p = false := by simpa using b3
  obtain ⟨r, hr1, z, hz⟩ := proof_l0 rest (pre ++ [v]) (a ++ [v]) hpre hs' (by simp; omega) (by simp; omega) b3'
  refine ⟨v :: r, ⟨?_, ?_, ?_⟩, z, ?_⟩
  ·simp only [inW, Bool.and_eq_true, inB_iff]
   exact ⟨by omega, hr1.i⟩
  ·have := hr1.f
   simpa using this
  ·intro w hw hf
   cases w with
   | nil => rfl
   | cons u w =>
    simp only [inW, Bool.and_eq_true, inB_iff] at hw
    have hvp : VP (pre.map ptS ++ ptS u :: rest) cs p := vp_of hn hc hl hu hr hp (fun y hy => by
     rcases List.mem_cons.1 hy with rfl | hy
     ·exact span_iff.2 ⟨by show 0 ≤ u; omega, Int.le_refl _, by show u ≤ 24; omega⟩
     ·exact hs' y hy) (by simp; omega) (by omega)
    have hge : v ≤ u := by
     rcases Int.lt_or_le u v with hlt | hge
     ·exfalso
      have h1 := b4 u (by omega) hlt
      have h2 := sure_in (e := (pre ++ u :: w).map ptS) (by simp [inW_len hw.2]) hvp (by
       have : inD (ptS u :: rest) ((u :: w).map ptS) := ⟨Int.le_refl _, Int.le_refl _, inD_pt hw.2⟩
       simpa using inD_app pre this) h1
      rw [hf] at h2
      cases h2
     ·exact hge
    simp only [ltL]
    cases hne : (u != v) with
    | true =>
     have : u ≠ v := by simpa using hne
     exact decide_eq_false (by omega)
    | false =>
     have : u = v := by simpa using hne
     subst this
     exact hr1.m w hw.2 (by simpa using hf)
  ·simp only [g_coat_firstProof_l0]
   rw [wrap_eq (n := e.High - e.Low) (by omega) (by omega), wrap_eq (n := e.High - e.Low + 1) (by omega) (by omega), show boundOk (e.High - e.Low + 1) = true by simp [boundOk]; omega]
   simp only [cond_true]
   rw [show e.High - e.Low + 1 - 0 = e.High - e.Low + 1 by omega, b5]
   simp only [lbind]
   rw [show ((pre ++ [v]).length : Int) = (pre.length : Int) + 1 by simp] at hz
   simp only [List.map_append, List.map_cons, List.map_nil, List.append_assoc, List.cons_append, List.nil_append] at hz
   exact hz
end
theorem proof_eq {s : GCoatSheet} {p : List Int} (hs : OkS s) (hp : lenOk p = true) (h1 : sheetB s = true) (h2 : planB s p = true) : (sureB s.Dry s.Coats p = true ∧ g_coat_Proof s p = some ([], 5)) ∨
  (sureB s.Dry s.Coats p = false ∧ ∃ r, g_coat_Proof s p = some (r, 0) ∧ inW s.Dry r = true ∧ holdsW s.Dry s.Coats p r = false ∧ ∀ w, inW s.Dry w = true → holdsW s.Dry s.Coats p w = false → ltL w r = false) := by
 have h := VP.of h1 h2
 unfold g_coat_Proof
 rw [isSheet_eq hs, isPlan_eq hs hp, h1, h2]
 simp only [Option.bind_some, cond_true, surely_eq h]
 cases hsu : sureB s.Dry s.Coats p with
 | true => exact .inl ⟨rfl, rfl⟩
 | false =>
  refine .inr ⟨rfl, ?_⟩
  obtain ⟨r, hfp, z, hz⟩ := proof_l0 (wk := s.Work) (n := s.Dry.length) h.dk.l.2 h.c h.l h.u h.r s.Dry [] [] (fun v hv => by cases hv) h.dk.s (by simp) (by have := h.dk.l; simp; omega) (by simpa using hsu)
  have hlen : r.length = s.Dry.length := inW_len hfp.i
  have key : ∀ w : List Int, w.length = s.Dry.length → sureB (([] ++ w).map ptS) s.Coats p = holdsW s.Dry s.Coats p w := by
   intro w hw
   unfold sureB worstW holdsW
   rw [List.nil_append, lows_pt, highs_pt, List.length_map, hw]
  refine ⟨r, ?_, hfp.i, by rw [← key r hlen]; exact hfp.f, fun w hw hf => hfp.m w hw (by rw [key w (inW_len hw)]; exact hf)⟩
  unfold g_coat_firstProof
  rw [hs.d]
  simp only [List.map_nil, List.nil_append, List.length_nil] at hz
  rw [show ((0 : Nat) : Int) = 0 from rfl] at hz
  rw [hz]
  rfl
end Go.V
end
section
namespace Go.V
open Go
theorem right_eq {s : GCoatSheet} {p : List Int} (hs : OkS s) (hp : lenOk p = true) : ∃ b, g_law03_right s p = some b ∧ (b = true → sheetB s = true ∧ planB s p = true) := by
 unfold g_law03_right
 obtain ⟨b, hb⟩ := short_eq s
 rw [hb, rSheet_eq hs, rPlan_eq hs hp]
 simp only [Option.bind_some]
 cases b with
 | false => exact ⟨false, rfl, fun h => by cases h⟩
 | true =>
 cases decide ((p.length : Int) ≤ 7) with
 | false => exact ⟨false, rfl, fun h => by cases h⟩
 | true =>
 cases sheetB s with
 | false => exact ⟨false, rfl, fun h => by cases h⟩
 | true => exact ⟨planB s p, rfl, fun h => ⟨rfl, h⟩⟩
theorem rCoat_eq {s : GCoatSheet} (hs : OkS s) (n : Int) : g_ref03_Coat s n = some (inB 0 ((s.Coats.length : Int) - 1) n) := by
 have := lenOk_lt hs.c
 unfold g_ref03_Coat
 rw [rin_eq, wrap_eq (by omega) (by omega)]
 rfl
theorem failW_none {lo hi : Int → Int} {n : Int} : ∀ {p : List Int} {cs : List GCoatCoat} {i : Int}, failW lo hi n p cs i = none → ∀ (k : Nat) {a : Int} {q : List Int} {c : GCoatCoat} {ds : List GCoatCoat}, p.drop k = a :: q → cs.drop k = c :: ds →
  decide (lo (q.headD n) - lo a < c.Need) = false ∧ (!q.isEmpty && decide (hi (q.headD n) - hi a > c.Peel)) = false
 | [], _, _, _, k, _, _, _, _, h, _ => by simp at h
 | _ :: _, [], _, _, k, _, _, _, _, _, h => by simp at h
 | a :: p, c :: cs, i, h, k, b, q, e, ds, h1, h2 => by
  simp only [failW] at h
  cases d1 : decide (lo (p.headD n) - lo a < c.Need) with
  | true => rw [d1] at h; cases h
  | false =>
  rw [d1] at h
  cases d2 : (!p.isEmpty && decide (hi (p.headD n) - hi a > c.Peel)) with
  | true => rw [d2] at h; cases h
  | false =>
  rw [d2] at h
  cases k with
  | zero =>
   simp only [List.drop_zero, List.cons.injEq] at h1 h2
   obtain ⟨rfl, rfl⟩ := h1
   obtain ⟨rfl, rfl⟩ := h2
   exact ⟨d1, d2⟩
  | succ k => exact failW_none (i := i + 1) h k h1 h2
theorem failW_some {lo hi : Int → Int} {n : Int} : ∀ {p : List Int} {cs : List GCoatCoat} {i j y : Int}, p.length = cs.length → failW lo hi n p cs i = some (j, y) → ∃ k : Nat, j = i + k ∧ k < cs.length ∧ (y = 1 ∨ y = 2) ∧
  (∀ {a : Int} {q : List Int} {c : GCoatCoat} {ds : List GCoatCoat}, p.drop k = a :: q → cs.drop k = c :: ds → decide (lo (q.headD n) - lo a < c.Need) = (y == 1) ∧ (y = 2 → (!q.isEmpty && decide (hi (q.headD n) - hi a > c.Peel)) = true)) ∧
  (∀ (m : Nat) {a : Int} {q : List Int} {c : GCoatCoat} {ds : List GCoatCoat}, m < k → p.drop m = a :: q → cs.drop m = c :: ds → decide (lo (q.headD n) - lo a < c.Need) = false ∧ (!q.isEmpty && decide (hi (q.headD n) - hi a > c.Peel)) = false)
 | [], _, _, _, _, _, h => by simp [failW] at h
 | _ :: _, [], _, _, _, hl, _ => by simp at hl
 | a :: p, c :: cs, i, j, y, hl, h => by
  simp only [failW] at h
  cases d1 : decide (lo (p.headD n) - lo a < c.Need) with
  | true =>
   rw [d1] at h
   simp only [cond_true, Option.some.injEq, Prod.mk.injEq] at h
   obtain ⟨rfl, rfl⟩ := h
   refine ⟨0, by simp, by simp, .inl rfl, fun {b q e ds} h1 h2 => ?_, fun m hm => by omega⟩
   simp only [List.drop_zero, List.cons.injEq] at h1 h2
   obtain ⟨rfl, rfl⟩ := h1
   obtain ⟨rfl, rfl⟩ := h2
   exact ⟨d1, fun h => by cases h⟩
  | false =>
  rw [d1] at h
  cases d2 : (!p.isEmpty && decide (hi (p.headD n) - hi a > c.Peel)) with
  | true =>
   rw [d2] at h
   simp only [cond_true, cond_false, Option.some.injEq, Prod.mk.injEq] at h
   obtain ⟨rfl, rfl⟩ := h
   refine ⟨0, by simp, by simp, .inr rfl, fun {b q e ds} h1 h2 => ?_, fun m hm => by omega⟩
   simp only [List.drop_zero, List.cons.injEq] at h1 h2
   obtain ⟨rfl, rfl⟩ := h1
   obtain ⟨rfl, rfl⟩ := h2
   exact ⟨d1, fun _ => d2⟩
  | false =>
  rw [d2] at h
  simp only [cond_false] at h
  obtain ⟨k, h1, h2, h3, h4, h5⟩ := failW_some (p := p) (cs := cs) (i := i + 1) (by simpa using hl) h
  refine ⟨k + 1, by omega, by simp; omega, h3, fun {b q e ds} h6 h7 => h4 h6 h7, fun m {b q e ds} hm h6 h7 => ?_⟩
  cases m with
  | zero =>
   simp only [List.drop_zero, List.cons.injEq] at h6 h7
   obtain ⟨rfl, rfl⟩ := h6
   obtain ⟨rfl, rfl⟩ := h7
   exact ⟨d1, d2⟩
  | succ m => exact h5 m (by omega) h6 h7
theorem drop_some {α : Type} {l : List α} {k : Nat} (h : k < l.length) : ∃ a q, l.drop k = a :: q := ⟨_, _, List.drop_eq_getElem_cons h⟩
end Go.V
end
