/- Part of a proof: a logic of values by content, lifted functions, what follows. -/
import Derived.Test.YtnelojhchenkhaaGreatDoorRbl
import Derived.Test.YtnelojhchenkhaaGreatDoorRbm
import Derived.Test.YtnelojhchenkhaaGreatDoorRay
import Derived.Test.YtnelojhchenkhaaGreatDoorRbf
import Derived.Test.YtnelojhchenkhaaGreatDoorProg
import Derived.Test.YtnelojhchenkhaaGreatDoorRbi
import Derived.Test.YtnelojhchenkhaaGreatDoorRbh
import Derived.Test.YtnelojhchenkhaaGreatDoorRbk
set_option linter.all false
set_option maxRecDepth 4000
set_option maxHeartbeats 4000000
section
namespace Go.V
open Go
def leL : List Int → List Int → Prop
 | [], [] => True
 | a :: x, b :: y => a ≤ b ∧ leL x y
 | _, _ => False
theorem leL_take : ∀ {x y : List Int} (a b : Nat), leL x y → a ≤ b → (x.take b).sum - (x.take a).sum ≤ (y.take b).sum - (y.take a).sum
 | [], [], a, b, _, _ => by simp
 | u :: x, v :: y, 0, 0, _, _ => by simp
 | u :: x, v :: y, 0, b + 1, h, _ => by
  have := leL_take 0 b h.2 (Nat.zero_le _)
  have h1 := h.1
  simp only [List.take_zero, List.sum_nil, List.take_succ_cons, List.sum_cons] at this ⊢
  omega
 | u :: x, v :: y, a + 1, 0, _, hab => by omega
 | u :: x, v :: y, a + 1, b + 1, h, hab => by
  have := leL_take a b h.2 (by omega)
  simp only [List.take_succ_cons, List.sum_cons] at this ⊢
  omega
 | [], _ :: _, _, _, h, _ => h.elim
 | _ :: _, [], _, _, h, _ => h.elim
theorem leL_SI {x y : List Int} (h : leL x y) {a b : Int} (hab : a ≤ b) : SI x b - SI x a ≤ SI y b - SI y a := leL_take _ _ h (by omega)
theorem failW_mono {lo lo' hi hi' : Int → Int} {n : Int} (h1 : ∀ a b, a ≤ b → lo b - lo a ≤ lo' b - lo' a) (h2 : ∀ a b, a ≤ b → hi' b - hi' a ≤ hi b - hi a) : ∀ (p : List Int) (cs : List GCoatCoat) (i : Int), upB p = true → (∀ x ∈ p, x ≤ n) → (failW lo hi n p cs i).isNone = true → (failW lo' hi' n p cs i).isNone = true
 | [], _, _, _, _, _ => by simp [failW]
 | _ :: _, [], _, _, _, _ => by simp [failW]
 | a :: p, c :: cs, i, hu, hn, h => by
  have ha := hn a (by simp)
  have hb : a ≤ p.headD n := up_head hu ha
  have e1 := h1 a _ hb
  have e2 := h2 a _ hb
  simp only [failW] at h ⊢
  cases d1 : decide (lo (p.headD n) - lo a < c.Need) with
  | true => rw [d1] at h; simp at h
  | false =>
  rw [d1] at h
  have d1' := of_decide_eq_false d1
  rw [decide_eq_false (by omega)]
  cases d2 : (!p.isEmpty && decide (hi (p.headD n) - hi a > c.Peel)) with
  | true => rw [d2] at h; simp at h
  | false =>
  rw [d2] at h
  have d3 : (!p.isEmpty && decide (hi' (p.headD n) - hi' a > c.Peel)) = false := by
   cases hp : p.isEmpty with
   | true => rfl
   | false =>
    rw [hp] at d2
    have d2' := of_decide_eq_false (show decide (hi (p.headD n) - hi a > c.Peel) = false from d2)
    exact decide_eq_false (by omega)
  rw [d3]
  simp only [cond_false] at h ⊢
  exact failW_mono h1 h2 p cs (i + 1) (up_tail hu) (fun x hx => hn x (by simp [hx])) h
theorem failW_or {lo hi lo' hi' : Int → Int} {n : Int} : ∀ (p : List Int) (cs : List GCoatCoat) (i : Int), (failW lo hi n p cs i).isNone = false → (failW lo hi' n p cs i).isNone = false ∨ (failW lo' hi n p cs i).isNone = false
 | [], _, _, h => by simp [failW] at h
 | _ :: _, [], _, h => by simp [failW] at h
 | a :: p, c :: cs, i, h => by
  simp only [failW] at h ⊢
  cases d1 : decide (lo (p.headD n) - lo a < c.Need) with
  | true => left; rfl
  | false =>
  rw [d1] at h
  cases d2 : (!p.isEmpty && decide (hi (p.headD n) - hi a > c.Peel)) with
  | true =>
   right
   cases decide (lo' (p.headD n) - lo' a < c.Need) <;> rfl
  | false =>
  rw [d2] at h
  rcases failW_or (lo' := lo') (hi' := hi') p cs (i + 1) h with h | h
  ·left
   cases (!p.isEmpty && decide (hi' (p.headD n) - hi' a > c.Peel)) with
   | true => rfl
   | false => exact h
  ·right
   cases decide (lo' (p.headD n) - lo' a < c.Need) with
   | true => rfl
   | false => exact h
theorem inW_lows : ∀ {d : List GSpan} {w : List Int}, inW d w = true → leL (lowsL d) w ∧ leL w (highsL d)
 | [], [], _ => ⟨trivial, trivial⟩
 | x :: d, y :: w, h => by
  simp only [inW, Bool.and_eq_true, inB_iff] at h
  have := inW_lows h.2
  exact ⟨⟨h.1.1, this.1⟩, ⟨h.1.2, this.2⟩⟩
 | [], _ :: _, h => by cases h
 | _ :: _, [], h => by cases h
theorem sure_holds {d : List GSpan} {cs : List GCoatCoat} {p w : List Int} (h : VP d cs p) (hi : inW d w = true) (hs : sureB d cs p = true) : holdsW d cs p w = true := by
 obtain ⟨h1, h2⟩ := inW_lows hi
 exact failW_mono (fun a b hab => leL_SI h1 hab) (fun a b hab => leL_SI h2 hab) p cs 0 h.u (fun x hx => by have := h.r x hx; omega) hs
def inD : List GSpan → List GSpan → Prop
 | [], [] => True
 | x :: xs, y :: ys => x.Low ≤ y.Low ∧ y.High ≤ x.High ∧ inD xs ys
 | _, _ => False
theorem inD_lows : ∀ {d e : List GSpan}, inD d e → leL (lowsL d) (lowsL e) ∧ leL (highsL e) (highsL d)
 | [], [], _ => ⟨trivial, trivial⟩
 | x :: d, y :: e, h => ⟨⟨h.1, (inD_lows h.2.2).1⟩, ⟨h.2.1, (inD_lows h.2.2).2⟩⟩
 | [], _ :: _, h => h.elim
 | _ :: _, [], h => h.elim
theorem sure_in {d e : List GSpan} {cs : List GCoatCoat} {p : List Int} (hl : d.length = e.length) (h : VP d cs p) (hi : inD d e) (hs : sureB d cs p = true) : sureB e cs p = true := by
 obtain ⟨h1, h2⟩ := inD_lows hi
 unfold sureB worstW at hs ⊢
 rw [← hl]
 exact failW_mono (fun a b hab => leL_SI h1 hab) (fun a b hab => leL_SI h2 hab) p cs 0 h.u (fun x hx => by have := h.r x hx; omega) hs
theorem lows_mid (pre post : List GSpan) (e : GSpan) : lowsL (pre ++ e :: post) = lowsL pre ++ e.Low :: lowsL post := by simp [lowsL]
theorem highs_mid (pre post : List GSpan) (e : GSpan) : highsL (pre ++ e :: post) = highsL pre ++ e.High :: highsL post := by simp [highsL]
theorem not_sure {pre post : List GSpan} {e : GSpan} {cs : List GCoatCoat} {p : List Int} (h : sureB (pre ++ e :: post) cs p = false) : sureB (pre ++ ptS e.Low :: post) cs p = false ∨ sureB (pre ++ ptS e.High :: post) cs p = false := by
 unfold sureB worstW at h ⊢
 rcases failW_or (lo' := SI (lowsL (pre ++ ptS e.High :: post))) (hi' := SI (highsL (pre ++ ptS e.Low :: post))) p cs 0 h with h | h
 ·left
  simp only [lows_mid, highs_mid, List.length_append, List.length_cons, ptS] at h ⊢
  exact h
 ·right
  simp only [lows_mid, highs_mid, List.length_append, List.length_cons, ptS] at h ⊢
  exact h
def ltL : List Int → List Int → Bool
 | a :: x, b :: y => cond (a != b) (decide (a < b)) (ltL x y)
 | _, _ => false
theorem before_l0 {b : List Int} : ∀ (p q : List Int) (c : Int), 0 ≤ c → b.drop c.toNat = q → p.length = q.length → ∃ r, g_ref01_Before_l0 b p c = some r ∧ ((r = .go () ∧ ltL p q = false) ∨ r = .ret (ltL p q))
 | [], [], _, _, _, _ => ⟨_, rfl, .inl ⟨rfl, rfl⟩⟩
 | _ :: _, [], _, _, _, h => by simp at h
 | [], _ :: _, _, _, _, h => by simp at h
 | e :: p, v :: q, c, h0, h, hl => by
  have hg := getI_of_drop h0 h
  have hlt := (getI_lt hg).2
  simp only [g_ref01_Before_l0, hg, Option.bind_some, decide_eq_true hlt, cond_true, ltL]
  cases hne : (e != v) with
  | true => exact ⟨_, rfl, .inr rfl⟩
  | false =>
   simp only [cond_false]
   exact before_l0 p q (c + 1) (by omega) (drop_next h0 h) (by simpa using hl)
theorem before_eq {a b : List Int} (ha : lenOk a = true) (h : a.length = b.length) : g_ref01_Before a b = some (ltL a b) := by
 unfold g_ref01_Before
 obtain ⟨r, hr, h2⟩ := before_l0 a b 0 (Int.le_refl _) rfl h
 rw [ha, hr]
 rcases h2 with ⟨rfl, h3⟩ | rfl
 ·simp [lbind, h, h3]
 ·simp [lbind]
structure FP (cs : List GCoatCoat) (p : List Int) (pre : List Int) (rest : List GSpan) (r : List Int) : Prop where
 i : inW rest r = true
 f : sureB ((pre ++ r).map ptS) cs p = false
 m : ∀ w, inW rest w = true → sureB ((pre ++ w).map ptS) cs p = false → ltL w r = false
theorem inD_app : ∀ (pre : List Int) {d e : List GSpan}, inD d e → inD (pre.map ptS ++ d) (pre.map ptS ++ e)
 | [], _, _, h => h
 | a :: pre, _, _, h => ⟨Int.le_refl _, Int.le_refl _, inD_app pre h⟩
theorem inD_pt : ∀ {d : List GSpan} {w : List Int}, inW d w = true → inD d (w.map ptS)
 | [], [], _ => trivial
 | x :: d, y :: w, h => by
  simp only [inW, Bool.and_eq_true, inB_iff] at h
  exact ⟨h.1.1, h.1.2, inD_pt h.2⟩
 | [], _ :: _, h => by cases h
 | _ :: _, [], h => by cases h
def SOk (d : List GSpan) : Prop := ∀ x ∈ d, spanB x = true
section
variable {cs : List GCoatCoat} {p : List Int} {wk : List Int} {n : Nat} (hn : n ≤ 12) (hc : 1 ≤ cs.length ∧ cs.length ≤ 5) (hl : p.length = cs.length) (hu : upB p = true) (hr : ∀ x ∈ p, 0 ≤ x ∧ x ≤ (n : Int) - 1)
include hn hc hl hu hr
theorem vp_of {pre : List Int} {rest : List GSpan} (hp : ∀ v ∈ pre, 0 ≤ v ∧ v ≤ 24) (hs : SOk rest) (hlen : pre.length + rest.length = n) (h1 : 1 ≤ n) : VP (pre.map ptS ++ rest) cs p := by
 refine ⟨⟨fun x hx => ?_, by simp; omega⟩, hc, hl, hu, fun x hx => by have := hr x hx; simp; omega⟩
 rcases List.mem_append.1 hx with h | h
 ·obtain ⟨v, hv, rfl⟩ := List.mem_map.1 h
  have := hp v hv
  exact span_iff.2 ⟨this.1, Int.le_refl _, this.2⟩
 ·exact hs x h
theorem proof_l1 {pre : List Int} {rest : List GSpan} {e : GSpan} (hp : ∀ v ∈ pre, 0 ≤ v ∧ v ≤ 24) (he : spanB e = true) (hs : SOk rest) (hlen : pre.length + (rest.length + 1) = n) : ∀ (k : Nat) (c : Int) (a : List Int), 0 ≤ c → c + k = e.High - e.Low + 1 → a.length ≤ 500 →
  (∃ v, e.Low + c ≤ v ∧ v ≤ e.High ∧ sureB (pre.map ptS ++ ptS v :: rest) cs p = false) → ∃ v, e.Low + c ≤ v ∧ v ≤ e.High ∧ sureB (pre.map ptS ++ ptS v :: rest) cs p = false ∧ (∀ u, e.Low + c ≤ u → u < v → sureB (pre.map ptS ++ ptS u :: rest) cs p = true) ∧
   g_coat_firstProof_l1 p pre.length e k c a (pre.map ptS ++ e :: rest) wk cs = some (.brk 1 (a ++ [v], pre.map ptS ++ ptS v :: rest, wk, cs))
 | 0, c, a, _, h1, _, ⟨v, hv1, hv2, _⟩ => by omega
 | k + 1, c, a, h0, h1, ha, ⟨v, hv1, hv2, hv3⟩ => by
  have hx := span_iff.1 he
  have hvp : VP (pre.map ptS ++ ptS (e.Low + c) :: rest) cs p := vp_of hn hc hl hu hr hp (fun y hy => by
   rcases List.mem_cons.1 hy with rfl | hy
   ·exact span_iff.2 ⟨by show 0 ≤ e.Low + c; omega, Int.le_refl _, by show e.Low + c ≤ 24; omega⟩
   ·exact hs y hy) (by simp; omega) (by omega)
  simp only [g_coat_firstProof_l1]
  rw [wrap_eq (by omega) (by omega), foreseen_eq (s := ⟨pre.map ptS ++ e :: rest, wk, cs⟩) (by simp; omega) (pre := pre.map ptS) (post := rest) (e := e) rfl (by simp)]
  simp only [Option.bind_some]
  rw [surely_eq (s := ⟨pre.map ptS ++ ptS (e.Low + c) :: rest, wk, cs⟩) hvp]
  simp only [Option.bind_some]
  cases hsu : sureB (pre.map ptS ++ ptS (e.Low + c) :: rest) cs p with
  | false =>
   refine ⟨e.Low + c, Int.le_refl _, by omega, hsu, fun u hu1 hu2 => by omega, ?_⟩
   rw [room_small (by simp; omega)]
   rfl
  | true =>
   have hne : v ≠ e.Low + c := by
    intro hh
    rw [hh, hsu] at hv3
    cases hv3
   obtain ⟨v', b1, b2, b3, b4, b5⟩ := proof_l1 hp he hs hlen k (c + 1) a (by omega) (by omega) ha ⟨v, by omega, hv2, hv3⟩
   refine ⟨v', by omega, b2, b3, fun u hu1 hu2 => ?_, b5⟩
   rcases Int.lt_or_eq_of_le hu1 with hlt | heq
   ·exact b4 u (by omega) hu2
   ·rw [← heq]; exact hsu
theorem proof_l0 : ∀ (rest : List GSpan) (pre a : List Int), (∀ v ∈ pre, 0 ≤ v ∧ v ≤ 24) → SOk rest → pre.length + rest.length = n → a.length + rest.length ≤ 500 → sureB (pre.map ptS ++ rest) cs p = false →
  ∃ r, FP cs p pre rest r ∧ ∃ z, g_coat_firstProof_l0 p rest pre.length a (pre.map ptS ++ rest) wk cs = some (.go (a ++ r, z))
 | [], pre, a, _, _, _, _, h => ⟨[], ⟨rfl, by simpa using h, fun w hw _ => by cases w <;> simp [ltL]⟩, _, by simp [g_coat_firstProof_l0]; rfl⟩
 | e :: rest, pre, a, hp, hs, hlen, ha, h => by
  have he := hs e (by simp)
  have hx := span_iff.1 he
  have hs' : SOk rest := fun y hy => hs y (by simp [hy])
  simp only [List.length_cons] at hlen ha
  have hex : ∃ v, e.Low + 0 ≤ v ∧ v ≤ e.High ∧ sureB (pre.map ptS ++ ptS v :: rest) cs p = false := by
   rcases not_sure h with h | h
   ·exact ⟨e.Low, by omega, by omega, h⟩
   ·exact ⟨e.High, by omega, by omega, h⟩
  obtain ⟨v, b1, b2, b3, b4, b5⟩ := proof_l1 (wk := wk) hn hc hl hu hr hp he hs' hlen (e.High - e.Low + 1).toNat 0 a (Int.le_refl _) (by omega) (by omega) hex
  have hv : 0 ≤ v ∧ v ≤ 24 := by omega
  have hpre : ∀ u ∈ pre ++ [v], 0 ≤ u ∧ u ≤ 24 := by
   intro u hu
   rcases List.mem_append.1 hu with hu | hu
   ·exact hp u hu
   ·rw [List.mem_singleton.1 hu]; exact hv
  have b3' : sureB ((pre ++ [v]).map ptS ++ rest) cs p = false := by simpa using b3
  obtain ⟨r, hr1, z, hz⟩ := proof_l0 rest (pre ++ [v]) (a ++ [v]) hpre hs' (by simp; omega) (by simp; omega) b3'
  refine ⟨v :: r, ⟨?_, ?_, ?_⟩, z, ?_⟩
  ·simp only [inW, Bool.and_eq_true, inB_iff]
   exact ⟨by omega, hr1.i⟩
  ·have := hr1.f
   simpa using this
  ·intro w hw hf
   cases w with
   | nil => rfl
   | cons u w =>
    simp only [inW, Bool.and_eq_true, inB_iff] at hw
    have hvp : VP (pre.map ptS ++ ptS u :: rest) cs p := vp_of hn hc hl hu hr hp (fun y hy => by
     rcases List.mem_cons.1 hy with rfl | hy
     ·exact span_iff.2 ⟨by show 0 ≤ u; omega, Int.le_refl _, by show u ≤ 24; omega⟩
     ·exact hs' y hy) (by simp; omega) (by omega)
    have hge : v ≤ u := by
     rcases Int.lt_or_le u v with hlt | hge
     ·exfalso
      have h1 := b4 u (by omega) hlt
      have h2 := sure_in (e := (pre ++ u :: w).map ptS) (by simp [inW_len hw.2]) hvp (by
       have : inD (ptS u :: rest) ((u :: w).map ptS) := ⟨Int.le_refl _, Int.le_refl _, inD_pt hw.2⟩
       simpa using inD_app pre this) h1
      rw [hf] at h2
      cases h2
     ·exact hge
    simp only [ltL]
    cases hne : (u != v) with
    | true =>
     have : u ≠ v := by simpa using hne
     exact decide_eq_false (by omega)
    | false =>
     have : u = v := by simpa using hne
     subst this
     exact hr1.m w hw.2 (by simpa using hf)
  ·simp only [g_coat_firstProof_l0]
   rw [wrap_eq (n := e.High - e.Low) (by omega) (by omega), wrap_eq (n := e.High - e.Low + 1) (by omega) (by omega), show boundOk (e.High - e.Low + 1) = true by simp [boundOk]; omega]
   simp only [cond_true]
   rw [show e.High - e.Low + 1 - 0 = e.High - e.Low + 1 by omega, b5]
   simp only [lbind]
   rw [show ((pre ++ [v]).length : Int) = (pre.length : Int) + 1 by simp] at hz
   simp only [List.map_append, List.map_cons, List.map_nil, List.append_assoc, List.cons_append, List.nil_append] at hz
   exact hz
end
theorem proof_eq {s : GCoatSheet} {p : List Int} (hs : OkS s) (hp : lenOk p = true) (h1 : sheetB s = true) (h2 : planB s p = true) : (sureB s.Dry s.Coats p = true ∧ g_coat_Proof s p = some ([], 5)) ∨
  (sureB s.Dry s.Coats p = false ∧ ∃ r, g_coat_Proof s p = some (r, 0) ∧ inW s.Dry r = true ∧ holdsW s.Dry s.Coats p r = false ∧ ∀ w, inW s.Dry w = true → holdsW s.Dry s.Coats p w = false → ltL w r = false) := by
 have h := VP.of h1 h2
 unfold g_coat_Proof
 rw [isSheet_eq hs, isPlan_eq hs hp, h1, h2]
 simp only [Option.bind_some, cond_true, surely_eq h]
 cases hsu : sureB s.Dry s.Coats p with
 | true => exact .inl ⟨rfl, rfl⟩
 | false =>
  refine .inr ⟨rfl, ?_⟩
  obtain ⟨r, hfp, z, hz⟩ := proof_l0 (wk := s.Work) (n := s.Dry.length) h.dk.l.2 h.c h.l h.u h.r s.Dry [] [] (fun v hv => by cases hv) h.dk.s (by simp) (by have := h.dk.l; simp; omega) (by simpa using hsu)
  have hlen : r.length = s.Dry.length := inW_len hfp.i
  have key : ∀ w : List Int, w.length = s.Dry.length → sureB (([] ++ w).map ptS) s.Coats p = holdsW s.Dry s.Coats p w := by
   intro w hw
   unfold sureB worstW holdsW
   rw [List.nil_append, lows_pt, highs_pt, List.length_map, hw]
  refine ⟨r, ?_, hfp.i, by rw [← key r hlen]; exact hfp.f, fun w hw hf => hfp.m w hw (by rw [key w (inW_len hw)]; exact hf)⟩
  unfold g_coat_firstProof
  rw [hs.d]
  simp only [List.map_nil, List.nil_append, List.length_nil] at hz
  rw [show ((0 : Nat) : Int) = 0 from rfl] at hz
  rw [hz]
  rfl
end Go.V
end
section
namespace Go.V
open Go Go.Proofs
theorem hmix : Tryz.prog.follows .mixedOrders = true := by kernel_rfl
def kA : VV := (Go.V.VV.agg [(Go.V.VV.sl [(Go.V.VV.lit (Go.Value.int Go.IntKind.i64 (Int.ofNat 6))), (Go.V.VV.lit (Go.Value.int Go.IntKind.i64 (Int.ofNat 8))), (Go.V.VV.lit (Go.Value.int Go.IntKind.i64 (Int.ofNat 4))), (Go.V.VV.lit (Go.Value.int Go.IntKind.i64 (Int.ofNat 6))), (Go.V.VV.lit (Go.Value.int Go.IntKind.i64 (Int.ofNat 8))), (Go.V.VV.lit (Go.Value.int Go.IntKind.i64 (Int.ofNat 10))), (Go.V.VV.lit (Go.Value.int Go.IntKind.i64 (Int.ofNat 2))), (Go.V.VV.lit (Go.Value.int Go.IntKind.i64 (Int.ofNat 4))), (Go.V.VV.lit (Go.Value.int Go.IntKind.i64 (Int.ofNat 6))), (Go.V.VV.lit (Go.Value.int Go.IntKind.i64 (Int.ofNat 6))), (Go.V.VV.lit (Go.Value.int Go.IntKind.i64 (Int.ofNat 5))), (Go.V.VV.lit (Go.Value.int Go.IntKind.i64 (Int.ofNat 9))), (Go.V.VV.lit (Go.Value.int Go.IntKind.i64 (Int.ofNat 8))), (Go.V.VV.lit (Go.Value.int Go.IntKind.i64 (Int.ofNat 12))), (Go.V.VV.lit (Go.Value.int Go.IntKind.i64 (Int.ofNat 4))), (Go.V.VV.lit (Go.Value.int Go.IntKind.i64 (Int.ofNat 4)))] 8 Bool.false), (Go.V.VV.sl [(Go.V.VV.lit (Go.Value.int Go.IntKind.i64 (Int.ofNat 0))), (Go.V.VV.lit (Go.Value.int Go.IntKind.i64 (Int.ofNat 2))), (Go.V.VV.lit (Go.Value.int Go.IntKind.i64 (Int.ofNat 3))), (Go.V.VV.lit (Go.Value.int Go.IntKind.i64 (Int.ofNat 5))), (Go.V.VV.lit (Go.Value.int Go.IntKind.i64 (Int.ofNat 6)))] 5 Bool.false), (Go.V.VV.sl [(Go.V.VV.lit (Go.Value.int Go.IntKind.i64 (Int.ofNat 9))), (Go.V.VV.lit (Go.Value.int Go.IntKind.i64 (Int.ofNat 20))), (Go.V.VV.lit (Go.Value.int Go.IntKind.i64 (Int.ofNat 10))), (Go.V.VV.lit (Go.Value.int Go.IntKind.i64 (Int.ofNat 20))), (Go.V.VV.lit (Go.Value.int Go.IntKind.i64 (Int.ofNat 8))), (Go.V.VV.lit (Go.Value.int Go.IntKind.i64 (Int.ofNat 30)))] 3 Bool.false)])
def kB : VV := (Go.V.VV.agg [(Go.V.VV.sl [(Go.V.VV.lit (Go.Value.int Go.IntKind.i64 (Int.ofNat 6))), (Go.V.VV.lit (Go.Value.int Go.IntKind.i64 (Int.ofNat 8))), (Go.V.VV.lit (Go.Value.int Go.IntKind.i64 (Int.ofNat 4))), (Go.V.VV.lit (Go.Value.int Go.IntKind.i64 (Int.ofNat 6))), (Go.V.VV.lit (Go.Value.int Go.IntKind.i64 (Int.ofNat 8))), (Go.V.VV.lit (Go.Value.int Go.IntKind.i64 (Int.ofNat 10))), (Go.V.VV.lit (Go.Value.int Go.IntKind.i64 (Int.ofNat 2))), (Go.V.VV.lit (Go.Value.int Go.IntKind.i64 (Int.ofNat 4))), (Go.V.VV.lit (Go.Value.int Go.IntKind.i64 (Int.ofNat 6))), (Go.V.VV.lit (Go.Value.int Go.IntKind.i64 (Int.ofNat 6))), (Go.V.VV.lit (Go.Value.int Go.IntKind.i64 (Int.ofNat 5))), (Go.V.VV.lit (Go.Value.int Go.IntKind.i64 (Int.ofNat 9))), (Go.V.VV.lit (Go.Value.int Go.IntKind.i64 (Int.ofNat 8))), (Go.V.VV.lit (Go.Value.int Go.IntKind.i64 (Int.ofNat 12))), (Go.V.VV.lit (Go.Value.int Go.IntKind.i64 (Int.ofNat 4))), (Go.V.VV.lit (Go.Value.int Go.IntKind.i64 (Int.ofNat 4)))] 8 Bool.false), (Go.V.VV.sl [(Go.V.VV.lit (Go.Value.int Go.IntKind.i64 (Int.ofNat 0))), (Go.V.VV.lit (Go.Value.int Go.IntKind.i64 (Int.ofNat 2))), (Go.V.VV.lit (Go.Value.int Go.IntKind.i64 (Int.ofNat 3))), (Go.V.VV.lit (Go.Value.int Go.IntKind.i64 (Int.ofNat 5))), (Go.V.VV.lit (Go.Value.int Go.IntKind.i64 (Int.ofNat 6)))] 5 Bool.false), (Go.V.VV.sl [(Go.V.VV.lit (Go.Value.int Go.IntKind.i64 (Int.ofNat 9))), (Go.V.VV.lit (Go.Value.int Go.IntKind.i64 (Int.ofNat 20))), (Go.V.VV.lit (Go.Value.int Go.IntKind.i64 (Int.ofNat 10))), (Go.V.VV.lit (Go.Value.int Go.IntKind.i64 (Int.ofNat 18))), (Go.V.VV.lit (Go.Value.int Go.IntKind.i64 (Int.ofNat 8))), (Go.V.VV.lit (Go.Value.int Go.IntKind.i64 (Int.ofNat 30)))] 3 Bool.false)])
def kE : VV := (Go.V.VV.agg [(Go.V.VV.sl [(Go.V.VV.lit (Go.Value.int Go.IntKind.i64 (Int.ofNat 6))), (Go.V.VV.lit (Go.Value.int Go.IntKind.i64 (Int.ofNat 8))), (Go.V.VV.lit (Go.Value.int Go.IntKind.i64 (Int.ofNat 4))), (Go.V.VV.lit (Go.Value.int Go.IntKind.i64 (Int.ofNat 6))), (Go.V.VV.lit (Go.Value.int Go.IntKind.i64 (Int.ofNat 8))), (Go.V.VV.lit (Go.Value.int Go.IntKind.i64 (Int.ofNat 10))), (Go.V.VV.lit (Go.Value.int Go.IntKind.i64 (Int.ofNat 2))), (Go.V.VV.lit (Go.Value.int Go.IntKind.i64 (Int.ofNat 4))), (Go.V.VV.lit (Go.Value.int Go.IntKind.i64 (Int.ofNat 6))), (Go.V.VV.lit (Go.Value.int Go.IntKind.i64 (Int.ofNat 6))), (Go.V.VV.lit (Go.Value.int Go.IntKind.i64 (Int.ofNat 5))), (Go.V.VV.lit (Go.Value.int Go.IntKind.i64 (Int.ofNat 9))), (Go.V.VV.lit (Go.Value.int Go.IntKind.i64 (Int.ofNat 8))), (Go.V.VV.lit (Go.Value.int Go.IntKind.i64 (Int.ofNat 12))), (Go.V.VV.lit (Go.Value.int Go.IntKind.i64 (Int.ofNat 4))), (Go.V.VV.lit (Go.Value.int Go.IntKind.i64 (Int.ofNat 4)))] 8 Bool.false), (Go.V.VV.sl [(Go.V.VV.lit (Go.Value.int Go.IntKind.i64 (Int.ofNat 0))), (Go.V.VV.lit (Go.Value.int Go.IntKind.i64 (Int.ofNat 1))), (Go.V.VV.lit (Go.Value.int Go.IntKind.i64 (Int.ofNat 2))), (Go.V.VV.lit (Go.Value.int Go.IntKind.i64 (Int.ofNat 3))), (Go.V.VV.lit (Go.Value.int Go.IntKind.i64 (Int.ofNat 4))), (Go.V.VV.lit (Go.Value.int Go.IntKind.i64 (Int.ofNat 5))), (Go.V.VV.lit (Go.Value.int Go.IntKind.i64 (Int.ofNat 6))), (Go.V.VV.lit (Go.Value.int Go.IntKind.i64 (Int.ofNat 7)))] 8 Bool.false), (Go.V.VV.sl [(Go.V.VV.lit (Go.Value.int Go.IntKind.i64 (Int.ofNat 9))), (Go.V.VV.lit (Go.Value.int Go.IntKind.i64 (Int.ofNat 20))), (Go.V.VV.lit (Go.Value.int Go.IntKind.i64 (Int.ofNat 10))), (Go.V.VV.lit (Go.Value.int Go.IntKind.i64 (Int.ofNat 20))), (Go.V.VV.lit (Go.Value.int Go.IntKind.i64 (Int.ofNat 8))), (Go.V.VV.lit (Go.Value.int Go.IntKind.i64 (Int.ofNat 30)))] 3 Bool.false)])
def kHolds : VV := (Go.V.VV.tup [(Go.V.VV.lit (Go.Value.bool Bool.false)), (Go.V.VV.lit (Go.Value.int Go.IntKind.i64 (Int.ofNat 0)))])
def kWord : VV := (Go.V.VV.tup [(Go.V.VV.lit (Go.Value.int Go.IntKind.i64 (Int.ofNat 1))), (Go.V.VV.lit (Go.Value.int Go.IntKind.i64 (Int.ofNat 0)))])
def kFails : VV := (Go.V.VV.tup [(Go.V.VV.lit (Go.Value.int Go.IntKind.i64 (Int.ofNat 0))), (Go.V.VV.lit (Go.Value.int Go.IntKind.i64 (Int.ofNat 2))), (Go.V.VV.lit (Go.Value.int Go.IntKind.i64 (Int.ofNat 0)))])
def kProof : VV := (Go.V.VV.tup [(Go.V.VV.sl [(Go.V.VV.lit (Go.Value.int Go.IntKind.i64 (Int.ofNat 6))), (Go.V.VV.lit (Go.Value.int Go.IntKind.i64 (Int.ofNat 5))), (Go.V.VV.lit (Go.Value.int Go.IntKind.i64 (Int.ofNat 10))), (Go.V.VV.lit (Go.Value.int Go.IntKind.i64 (Int.ofNat 2))), (Go.V.VV.lit (Go.Value.int Go.IntKind.i64 (Int.ofNat 6))), (Go.V.VV.lit (Go.Value.int Go.IntKind.i64 (Int.ofNat 5))), (Go.V.VV.lit (Go.Value.int Go.IntKind.i64 (Int.ofNat 8))), (Go.V.VV.lit (Go.Value.int Go.IntKind.i64 (Int.ofNat 4)))] 8 Bool.false), (Go.V.VV.lit (Go.Value.int Go.IntKind.i64 (Int.ofNat 0)))])
def kFirst : VV := (Go.V.VV.tup [(Go.V.VV.sl [(Go.V.VV.lit (Go.Value.int Go.IntKind.i64 (Int.ofNat 0))), (Go.V.VV.lit (Go.Value.int Go.IntKind.i64 (Int.ofNat 2))), (Go.V.VV.lit (Go.Value.int Go.IntKind.i64 (Int.ofNat 5)))] 3 Bool.false), (Go.V.VV.lit (Go.Value.int Go.IntKind.i64 (Int.ofNat 0)))])
def kCount : VV := (Go.V.VV.tup [(Go.V.VV.lit (Go.Value.int Go.IntKind.i64 (Int.ofNat 5))), (Go.V.VV.lit (Go.Value.int Go.IntKind.i64 (Int.ofNat 0)))])
def kDays : VV := (Go.V.VV.tup [(Go.V.VV.sl [(Go.V.VV.lit (Go.Value.int Go.IntKind.i64 (Int.ofNat 2))), (Go.V.VV.lit (Go.Value.int Go.IntKind.i64 (Int.ofNat 3))), (Go.V.VV.lit (Go.Value.int Go.IntKind.i64 (Int.ofNat 4)))] 3 Bool.false), (Go.V.VV.lit (Go.Value.int Go.IntKind.i64 (Int.ofNat 0)))])
def kLate : VV := (Go.V.VV.tup [(Go.V.VV.lit (Go.Value.int Go.IntKind.i64 (Int.ofNat 2))), (Go.V.VV.lit (Go.Value.int Go.IntKind.i64 (Int.ofNat 0)))])
def kQuick : VV := (Go.V.VV.tup [(Go.V.VV.lit (Go.Value.int Go.IntKind.i64 (Int.ofNat 4))), (Go.V.VV.lit (Go.Value.int Go.IntKind.i64 (Int.ofNat 0)))])
def kStuck : VV := (Go.V.VV.tup [(Go.V.VV.lit (Go.Value.int Go.IntKind.i64 (Int.ofNat 2))), (Go.V.VV.lit (Go.Value.int Go.IntKind.i64 (Int.ofNat 0)))])
def kSlack : VV := (Go.V.VV.tup [(Go.V.VV.lit (Go.Value.int Go.IntKind.i64 (Int.ofNat 2))), (Go.V.VV.lit (Go.Value.int Go.IntKind.i64 (Int.ofNat 0)))])
def kMend : VV := (Go.V.VV.tup [(Go.V.VV.sl [(Go.V.VV.lit (Go.Value.int Go.IntKind.i64 (Int.ofNat 0))), (Go.V.VV.lit (Go.Value.int Go.IntKind.i64 (Int.ofNat 2))), (Go.V.VV.lit (Go.Value.int Go.IntKind.i64 (Int.ofNat 4)))] 3 Bool.false), (Go.V.VV.lit (Go.Value.int Go.IntKind.i64 (Int.ofNat 2))), (Go.V.VV.lit (Go.Value.int Go.IntKind.i64 (Int.ofNat 0)))])
def kRead : VV := (Go.V.VV.tup [(Go.V.VV.agg [(Go.V.VV.sl [(Go.V.VV.lit (Go.Value.int Go.IntKind.i64 (Int.ofNat 1))), (Go.V.VV.lit (Go.Value.int Go.IntKind.i64 (Int.ofNat 2)))] 1 Bool.false), (Go.V.VV.sl [(Go.V.VV.lit (Go.Value.int Go.IntKind.i64 (Int.ofNat 0)))] 1 Bool.false), (Go.V.VV.sl [(Go.V.VV.lit (Go.Value.int Go.IntKind.i64 (Int.ofNat 1))), (Go.V.VV.lit (Go.Value.int Go.IntKind.i64 (Int.ofNat 3)))] 1 Bool.false)]), (Go.V.VV.lit (Go.Value.int Go.IntKind.i64 (Int.ofNat 0)))])
end Go.V
end
section
namespace Go.V
open Go Go.Proofs
theorem pA : VPure Tryz.prog G0 53 [] (.tree kA) := VPure.closedB hmix 1000 (by kernel_rfl)
theorem pB : VPure Tryz.prog G0 55 [] (.tree kB) := VPure.closedB hmix 1000 (by kernel_rfl)
theorem pE : VPure Tryz.prog G0 54 [] (.tree kE) := VPure.closedB hmix 1000 (by kernel_rfl)
theorem pHolds : VPure Tryz.prog G0 22 [kA, .sl [.lit (.int .i64 (0)), .lit (.int .i64 (3)), .lit (.int .i64 (6))] 3 false, .sl [.lit (.int .i64 (6)), .lit (.int .i64 (5)), .lit (.int .i64 (10)), .lit (.int .i64 (2)), .lit (.int .i64 (6)), .lit (.int .i64 (5)), .lit (.int .i64 (8)), .lit (.int .i64 (4))] 8 false] (.tree kHolds) := VPure.closedB hmix 1000 (by kernel_rfl)
theorem pWord : VPure Tryz.prog G0 18 [kA, .sl [.lit (.int .i64 (3)), .lit (.int .i64 (5)), .lit (.int .i64 (6))] 3 false] (.tree kWord) := VPure.closedB hmix 1000 (by kernel_rfl)
theorem pFails : VPure Tryz.prog G0 27 [kA, .sl [.lit (.int .i64 (0)), .lit (.int .i64 (3)), .lit (.int .i64 (6))] 3 false] (.tree kFails) := VPure.closedB hmix 1000 (by kernel_rfl)
end Go.V
end
section
namespace Go.V
open Go Go.Proofs
theorem pProof : VPure Tryz.prog G0 26 [kA, .sl [.lit (.int .i64 (0)), .lit (.int .i64 (3)), .lit (.int .i64 (6))] 3 false] (.tree kProof) := VPure.closedB hmix 1000 (by kernel_rfl)
end Go.V
end
section
namespace Go.V
open Go Go.Proofs
theorem pFirst : VPure Tryz.prog G0 36 [kA] (.tree kFirst) := VPure.closedB hmix 1000 (by kernel_rfl)
end Go.V
end
section
namespace Go.V
open Go Go.Proofs
theorem pCount : VPure Tryz.prog G0 37 [kE] (.tree kCount) := VPure.closedB hmix 1000 (by kernel_rfl)
end Go.V
end
section
namespace Go.V
open Go Go.Proofs
theorem pDays : VPure Tryz.prog G0 40 [kE, .lit (.int .i64 (1))] (.tree kDays) := VPure.closedB hmix 1000 (by kernel_rfl)
end Go.V
end
section
namespace Go.V
open Go Go.Proofs
theorem pLate : VPure Tryz.prog G0 41 [kE] (.tree kLate) := VPure.closedB hmix 1000 (by kernel_rfl)
end Go.V
end
section
namespace Go.V
open Go Go.Proofs
theorem pQuick : VPure Tryz.prog G0 42 [kE] (.tree kQuick) := VPure.closedB hmix 1000 (by kernel_rfl)
end Go.V
end
section
namespace Go.V
open Go Go.Proofs
theorem pStuck : VPure Tryz.prog G0 46 [kB] (.tree kStuck) := VPure.closedB hmix 1000 (by kernel_rfl)
end Go.V
end
section
namespace Go.V
open Go Go.Proofs
theorem pSlack : VPure Tryz.prog G0 56 [kB] (.tree kSlack) := VPure.closedB hmix 1000 (by kernel_rfl)
end Go.V
end
section
namespace Go.V
open Go Go.Proofs
theorem pMend : VPure Tryz.prog G0 57 [kE, .sl [.lit (.int .i64 (0)), .lit (.int .i64 (3)), .lit (.int .i64 (6))] 3 false, .lit (.int .i64 (1))] (.tree kMend) := VPure.closedB hmix 1000 (by kernel_rfl)
end Go.V
end
section
namespace Go.V
open Go Go.Proofs
theorem pRead : VPure Tryz.prog G0 49 [.lit (.string ⟨⟨[100, 97, 121, 32, 49, 32, 50, 32, 121, 101, 115, 10, 99, 111, 97, 116, 32, 49, 32, 51, 10, 101, 110, 100, 32, 49, 48, 52, 10]⟩⟩)] (.tree kRead) := VPure.closedB hmix 1000 (by kernel_rfl)
end Go.V
end
section
namespace Go.V
open Go Go.Proofs
def kTab : KTab := [
  (53, [], kA),
  (55, [], kB),
  (54, [], kE),
  (22, [kA, .sl [.lit (.int .i64 (0)), .lit (.int .i64 (3)), .lit (.int .i64 (6))] 3 false, .sl [.lit (.int .i64 (6)), .lit (.int .i64 (5)), .lit (.int .i64 (10)), .lit (.int .i64 (2)), .lit (.int .i64 (6)), .lit (.int .i64 (5)), .lit (.int .i64 (8)), .lit (.int .i64 (4))] 8 false], kHolds),
  (18, [kA, .sl [.lit (.int .i64 (3)), .lit (.int .i64 (5)), .lit (.int .i64 (6))] 3 false], kWord),
  (27, [kA, .sl [.lit (.int .i64 (0)), .lit (.int .i64 (3)), .lit (.int .i64 (6))] 3 false], kFails),
  (26, [kA, .sl [.lit (.int .i64 (0)), .lit (.int .i64 (3)), .lit (.int .i64 (6))] 3 false], kProof),
  (36, [kA], kFirst),
  (37, [kE], kCount),
  (40, [kE, .lit (.int .i64 (1))], kDays),
  (41, [kE], kLate),
  (42, [kE], kQuick),
  (46, [kB], kStuck),
  (56, [kB], kSlack),
  (57, [kE, .sl [.lit (.int .i64 (0)), .lit (.int .i64 (3)), .lit (.int .i64 (6))] 3 false, .lit (.int .i64 (1))], kMend),
  (49, [.lit (.string ⟨⟨[100, 97, 121, 32, 49, 32, 50, 32, 121, 101, 115, 10, 99, 111, 97, 116, 32, 49, 32, 51, 10, 101, 110, 100, 32, 49, 48, 52, 10]⟩⟩)], kRead)]
theorem kTabOk : KTabOk Tryz.prog G0 kTab := ⟨⟨by kernel_rfl, pA⟩, ⟨⟨by kernel_rfl, pB⟩, ⟨⟨by kernel_rfl, pE⟩, ⟨⟨by kernel_rfl, pHolds⟩, ⟨⟨by kernel_rfl, pWord⟩, ⟨⟨by kernel_rfl, pFails⟩, ⟨⟨by kernel_rfl, pProof⟩, ⟨⟨by kernel_rfl, pFirst⟩, ⟨⟨by kernel_rfl, pCount⟩, ⟨⟨by kernel_rfl, pDays⟩, ⟨⟨by kernel_rfl, pLate⟩, ⟨⟨by kernel_rfl, pQuick⟩, ⟨⟨by kernel_rfl, pStuck⟩, ⟨⟨by kernel_rfl, pSlack⟩, ⟨⟨by kernel_rfl, pMend⟩, ⟨⟨by kernel_rfl, pRead⟩, trivial⟩⟩⟩⟩⟩⟩⟩⟩⟩⟩⟩⟩⟩⟩⟩⟩
theorem pKnown : VPure Tryz.prog G0 16 [] (.tree (.lit (.bool true))) := VPure.closedT hmix kTabOk 1000 (by kernel_rfl)
#print axioms pKnown
end Go.V
end
section
namespace Go.V
open Go Go.Proofs
theorem g_law03_known_ok : VPure Tryz.prog G0 16 [] (.tree (.lit (.bool true))) := pKnown
end Go.V
end
section
namespace Go.V
open Go Go.Proofs
end Go.V
end
section
namespace Go.V
open Go
theorem short_eq (s : GCoatSheet) : ∃ b, g_law03_short s = some b := ⟨_, by unfold g_law03_short; rw [csome, csome]⟩
end Go.V
end
section
namespace Go.V
open Go
theorem right_eq {s : GCoatSheet} {p : List Int} (hs : OkS s) (hp : lenOk p = true) : ∃ b, g_law03_right s p = some b ∧ (b = true → sheetB s = true ∧ planB s p = true) := by
 unfold g_law03_right
 obtain ⟨b, hb⟩ := short_eq s
 rw [hb, rSheet_eq hs, rPlan_eq hs hp]
 simp only [Option.bind_some]
 cases b with
 | false => exact ⟨false, rfl, fun h => by cases h⟩
 | true =>
 cases decide ((p.length : Int) ≤ 7) with
 | false => exact ⟨false, rfl, fun h => by cases h⟩
 | true =>
 cases sheetB s with
 | false => exact ⟨false, rfl, fun h => by cases h⟩
 | true => exact ⟨planB s p, rfl, fun h => ⟨rfl, h⟩⟩
theorem rCoat_eq {s : GCoatSheet} (hs : OkS s) (n : Int) : g_ref03_Coat s n = some (inB 0 ((s.Coats.length : Int) - 1) n) := by
 have := lenOk_lt hs.c
 unfold g_ref03_Coat
 rw [rin_eq, wrap_eq (by omega) (by omega)]
 rfl
theorem failW_none {lo hi : Int → Int} {n : Int} : ∀ {p : List Int} {cs : List GCoatCoat} {i : Int}, failW lo hi n p cs i = none → ∀ (k : Nat) {a : Int} {q : List Int} {c : GCoatCoat} {ds : List GCoatCoat}, p.drop k = a :: q → cs.drop k = c :: ds →
  decide (lo (q.headD n) - lo a < c.Need) = false ∧ (!q.isEmpty && decide (hi (q.headD n) - hi a > c.Peel)) = false
 | [], _, _, _, k, _, _, _, _, h, _ => by simp at h
 | _ :: _, [], _, _, k, _, _, _, _, _, h => by simp at h
 | a :: p, c :: cs, i, h, k, b, q, e, ds, h1, h2 => by
  simp only [failW] at h
  cases d1 : decide (lo (p.headD n) - lo a < c.Need) with
  | true => rw [d1] at h; cases h
  | false =>
  rw [d1] at h
  cases d2 : (!p.isEmpty && decide (hi (p.headD n) - hi a > c.Peel)) with
  | true => rw [d2] at h; cases h
  | false =>
  rw [d2] at h
  cases k with
  | zero =>
   simp only [List.drop_zero, List.cons.injEq] at h1 h2
   obtain ⟨rfl, rfl⟩ := h1
   obtain ⟨rfl, rfl⟩ := h2
   exact ⟨d1, d2⟩
  | succ k => exact failW_none (i := i + 1) h k h1 h2
theorem failW_some {lo hi : Int → Int} {n : Int} : ∀ {p : List Int} {cs : List GCoatCoat} {i j y : Int}, p.length = cs.length → failW lo hi n p cs i = some (j, y) → ∃ k : Nat, j = i + k ∧ k < cs.length ∧ (y = 1 ∨ y = 2) ∧
  (∀ {a : Int} {q : List Int} {c : GCoatCoat} {ds : List GCoatCoat}, p.drop k = a :: q → cs.drop k = c :: ds → decide (lo (q.headD n) - lo a < c.Need) = (y == 1) ∧ (y = 2 → (!q.isEmpty && decide (hi (q.headD n) - hi a > c.Peel)) = true)) ∧
  (∀ (m : Nat) {a : Int} {q : List Int} {c : GCoatCoat} {ds : List GCoatCoat}, m < k → p.drop m = a :: q → cs.drop m = c :: ds → decide (lo (q.headD n) - lo a < c.Need) = false ∧ (!q.isEmpty && decide (hi (q.headD n) - hi a > c.Peel)) = false)
 | [], _, _, _, _, _, h => by simp [failW] at h
 | _ :: _, [], _, _, _, hl, _ => by simp at hl
 | a :: p, c :: cs, i, j, y, hl, h => by
  simp only [failW] at h
  cases d1 : decide (lo (p.headD n) - lo a < c.Need) with
  | true =>
   rw [d1] at h
   simp only [cond_true, Option.some.injEq, Prod.mk.injEq] at h
   obtain ⟨rfl, rfl⟩ := h
   refine ⟨0, by simp, by simp, .inl rfl, fun {b q e ds} h1 h2 => ?_, fun m hm => by omega⟩
   simp only [List.drop_zero, List.cons.injEq] at h1 h2
   obtain ⟨rfl, rfl⟩ := h1
   obtain ⟨rfl, rfl⟩ := h2
   exact ⟨d1, fun h => by cases h⟩
  | false =>
  rw [d1] at h
  cases d2 : (!p.isEmpty && decide (hi (p.headD n) - hi a > c.Peel)) with
  | true =>
   rw [d2] at h
   simp only [cond_true, cond_false, Option.some.injEq, Prod.mk.injEq] at h
   obtain ⟨rfl, rfl⟩ := h
   refine ⟨0, by simp, by simp, .inr rfl, fun {b q e ds} h1 h2 => ?_, fun m hm => by omega⟩
   simp only [List.drop_zero, List.cons.injEq] at h1 h2
   obtain ⟨rfl, rfl⟩ := h1
   obtain ⟨rfl, rfl⟩ := h2
   exact ⟨d1, fun _ => d2⟩
  | false =>
  rw [d2] at h
  simp only [cond_false] at h
  obtain ⟨k, h1, h2, h3, h4, h5⟩ := failW_some (p := p) (cs := cs) (i := i + 1) (by simpa using hl) h
  refine ⟨k + 1, by omega, by simp; omega, h3, fun {b q e ds} h6 h7 => h4 h6 h7, fun m {b q e ds} hm h6 h7 => ?_⟩
  cases m with
  | zero =>
   simp only [List.drop_zero, List.cons.injEq] at h6 h7
   obtain ⟨rfl, rfl⟩ := h6
   obtain ⟨rfl, rfl⟩ := h7
   exact ⟨d1, d2⟩
  | succ m => exact h5 m (by omega) h6 h7
theorem drop_some {α : Type} {l : List α} {k : Nat} (h : k < l.length) : ∃ a q, l.drop k = a :: q := ⟨_, _, List.drop_eq_getElem_cons h⟩
end Go.V
end
