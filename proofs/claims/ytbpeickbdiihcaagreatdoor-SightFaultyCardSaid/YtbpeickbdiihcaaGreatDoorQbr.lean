/- Part of a proof: a logic of values by content, lifted functions, what follows. -/
import Derived.Test.YtbpeickbdiihcaaGreatDoorQbp
import Derived.Test.YtbpeickbdiihcaaGreatDoorQbq
set_option linter.all false
set_option maxRecDepth 4000
set_option maxHeartbeats 4000000
section
namespace Go.V
open Go
theorem right_eq (s : GSightStreet) (n : Int) (p : GSightPlace) (h : FineS s) (bs : Bool) (hb : g_law02_short s = some bs) : g_law02_right s n p = some (bs && (streetB s && (numB s n && placeB s p))) := by
 simp only [g_law02_right, hb, Option.bind_some, refStreet_eq s h, refBoard_eq, refPlace_eq, csome, numB]
theorem getI_map {α β : Type} {f : α → β} {xs : List α} {i : Int} {x : α} (h : getI xs i = some x) : getI (xs.map f) i = some (f x) := by
 unfold getI at h ⊢
 split at h
 ·rename_i hi
  rw [if_pos hi, List.getElem?_map, h]; rfl
 ·cases h
theorem getI_nat {α : Type} {xs : List α} {k : Nat} {x : α} (h : xs[k]? = some x) : getI xs ((0 : Int) + (k : Int)) = some x := by
 unfold getI
 rw [if_pos (by omega)]
 rw [show ((0 : Int) + (k : Int)).toNat = k by omega]; exact h
def aloneL (l : GSightLetter) : GSightLetter := ⟨l.Height, l.Width, l.Stroke, 0⟩
def aloneS (s : GSightStreet) (b : GSightBoard) (l : GSightLetter) : GSightStreet := ⟨s.Length, s.Width, s.Eye, s.Light, [⟨b.At, [aloneL l]⟩], s.Blocks⟩
def oneF (w a : Int) (p : GSightPlace) (ks : List GSightBlock) (l : GSightLetter) : Option GSightFault :=
 match fnd (behB a p) ks 0 with
 | some i => some ⟨1, i⟩
 | none => cond (tallB w a p l) (cond (broadB w a p l) (cond (thickB w a p l) none (some ⟨4, 0⟩)) (some ⟨3, 0⟩)) (some ⟨2, 0⟩)
theorem oneF_eq (w a : Int) (p : GSightPlace) (ks : List GSightBlock) (l : GSightLetter) : whyF w a p ks [aloneL l] = oneF w a p ks l := by
 unfold whyF oneF
 cases fnd (behB a p) ks 0 with
 | some i => rfl
 | none =>
  simp only [fnd]
  have e1 : tallB w a p (aloneL l) = tallB w a p l := rfl
  have e2 : broadB w a p (aloneL l) = broadB w a p l := rfl
  have e3 : thickB w a p (aloneL l) = thickB w a p l := rfl
  rw [e1, e2, e3]
  cases tallB w a p l <;> cases broadB w a p l <;> cases thickB w a p l <;> rfl
theorem alone_good {s : GSightStreet} {b : GSightBoard} {p : GSightPlace} {n : Int} {l : GSightLetter} (h1 : streetB s = true) (hb : b ∈ s.Boards) (h3 : placeB s p = true) (hl : letterB l = true) : streetB (aloneS s b l) = true ∧ numB (aloneS s b l) 0 = true ∧ placeB (aloneS s b l) p = true := by
 refine ⟨?_, rfl, h3⟩
 simp only [streetB, Bool.and_eq_true, boardsB, List.all_eq_true] at h1 ⊢
 have hbb := h1.2.2.2.2.1.2 b hb
 simp only [boardB, Bool.and_eq_true] at hbb
 have hla : letterB (aloneL l) = true := by
  simp only [letterB, Bool.and_eq_true, inB_iff, aloneL] at hl ⊢
  omega
 refine ⟨h1.1, h1.2.1, h1.2.2.1, h1.2.2.2.1, ⟨rfl, ?_⟩, h1.2.2.2.2.2⟩
 intro x hx
 simp only [aloneS, List.mem_singleton] at hx
 subst hx
 simp only [boardB, Bool.and_eq_true, lettersB, List.all_eq_true]
 refine ⟨hbb.1, rfl, ?_, rfl⟩
 intro y hy
 rw [List.mem_singleton] at hy
 subst hy; exact hla
theorem why_cases {w a : Int} {p : GSightPlace} {ks : List GSightBlock} {ls : List GSightLetter} {f : GSightFault} (h : whyF w a p ks ls = some f) :
  (∃ i, fnd (behB a p) ks 0 = some i ∧ f = ⟨1, i⟩) ∨ (fnd (behB a p) ks 0 = none ∧ (
   (∃ (k : Nat) (e : GSightLetter), ls[k]? = some e ∧ tallB w a p e = false ∧ (∀ m e', m < k → ls[m]? = some e' → tallB w a p e' = true) ∧ f = ⟨2, 0 + (k : Int)⟩) ∨
   ((∀ l ∈ ls, tallB w a p l = true) ∧ ∃ (k : Nat) (e : GSightLetter), ls[k]? = some e ∧ broadB w a p e = false ∧ (∀ m e', m < k → ls[m]? = some e' → broadB w a p e' = true) ∧ f = ⟨3, 0 + (k : Int)⟩) ∨
   ((∀ l ∈ ls, tallB w a p l = true) ∧ (∀ l ∈ ls, broadB w a p l = true) ∧ ∃ (k : Nat) (e : GSightLetter), ls[k]? = some e ∧ thickB w a p e = false ∧ (∀ m e', m < k → ls[m]? = some e' → thickB w a p e' = true) ∧ f = ⟨4, 0 + (k : Int)⟩) ∨
   ((∀ l ∈ ls, legB w a p l = true) ∧ ∃ (k : Nat) (e : GSightLetter), (ls.take (ls.length - 1))[k]? = some e ∧ apartB w a p e = false ∧ f = ⟨5, 0 + (k : Int)⟩))) := by
 have fs : ∀ (g : GSightLetter → Bool) (q : List GSightLetter) (j : Int), fnd (fun l => !g l) q 0 = some j → ∃ (k : Nat) (e : GSightLetter), q[k]? = some e ∧ g e = false ∧ (∀ m e', m < k → q[m]? = some e' → g e' = true) ∧ j = 0 + (k : Int) := by
  intro g q j hj
  obtain ⟨k, e1, e, e2, e3, e4⟩ := fnd_some q 0 j hj
  exact ⟨k, e, e2, by simpa using e3, fun m e' h1 h2 => by simpa using e4 m e' h1 h2, e1⟩
 have fn : ∀ (g : GSightLetter → Bool) (q : List GSightLetter), fnd (fun l => !g l) q 0 = none → ∀ l ∈ q, g l = true := by
  intro g q hq l hl
  simpa using (fnd_none q 0).1 hq l hl
 unfold whyF at h
 cases h0 : fnd (behB a p) ks 0 with
 | some i => rw [h0] at h; simp only [Option.some.injEq] at h; exact .inl ⟨i, rfl, h.symm⟩
 | none =>
  rw [h0] at h
  refine .inr ⟨rfl, ?_⟩
  cases h1 : fnd (fun l => !tallB w a p l) ls 0 with
  | some j =>
   rw [h1] at h; simp only [Option.some.injEq] at h
   obtain ⟨k, e, e1, e2, e3, e4⟩ := fs _ _ _ h1
   exact .inl ⟨k, e, e1, e2, e3, by rw [← h, e4]⟩
  | none =>
   rw [h1] at h
   have g1 := fn _ _ h1
   cases h2 : fnd (fun l => !broadB w a p l) ls 0 with
   | some j =>
    rw [h2] at h; simp only [Option.some.injEq] at h
    obtain ⟨k, e, e1, e2, e3, e4⟩ := fs _ _ _ h2
    exact .inr (.inl ⟨g1, k, e, e1, e2, e3, by rw [← h, e4]⟩)
   | none =>
    rw [h2] at h
    have g2 := fn _ _ h2
    cases h3 : fnd (fun l => !thickB w a p l) ls 0 with
    | some j =>
     rw [h3] at h; simp only [Option.some.injEq] at h
     obtain ⟨k, e, e1, e2, e3, e4⟩ := fs _ _ _ h3
     exact .inr (.inr (.inl ⟨g1, g2, k, e, e1, e2, e3, by rw [← h, e4]⟩))
    | none =>
     rw [h3] at h
     have g3 := fn _ _ h3
     cases h4 : fnd (fun l => !apartB w a p l) (ls.take (ls.length - 1)) 0 with
     | some j =>
      rw [h4] at h; simp only [Option.some.injEq] at h
      obtain ⟨k, e, e1, e2, e3, e4⟩ := fs _ _ _ h4
      exact .inr (.inr (.inr ⟨fun l hl => leg_iff.2 ⟨g1 l hl, g2 l hl, g3 l hl⟩, k, e, e1, e2, by rw [← h, e4]⟩))
     | none => rw [h4] at h; cases h
def whyA (o : Option GSightFault) : GSightFault × Int := match o with | some f => (f, 0) | none => (⟨0, 0⟩, 5)
theorem piece (K k t len : Int) (L : List Int) (v : Int) (y : GSightFault × Int) (h0 : 0 ≤ k) (h1 : k < len) (hg : getI L k = some v) (hv : (v == 3) = false)
  (hy : y.2 = 0 → ¬ (y.1.Kind < K) ∧ (y.1.Kind = K → ¬ t < k)) (he : t = k → y.2 = 0 ∧ y.1.Kind = K ∧ y.1.Number = 0) :
  cond (decide (k < 0)) (some false) (cond (decide (k ≥ len)) (some false) (Option.bind (getI L k) (fun x18 => cond (x18 == 3) (some false) (cond (y.2 == 0) (cond (decide (y.1.Kind < K)) (some false) (cond (y.1.Kind == K) (cond (decide (t < k)) (some false) (cond (t != k) (some true) (cond (y.1.Number == 0) (some true) (some false)))) (cond (t != k) (some true) (some false)))) (cond (t != k) (some true) (some false)))))) = some true := by
 have d0 : decide (k < 0) = false := decide_eq_false (by omega)
 have d1 : decide (k ≥ len) = false := decide_eq_false (by omega)
 simp only [d0, d1, hg, hv, cond_false, Option.bind_some]
 by_cases ht : t = k
 ·obtain ⟨a1, a2, a3⟩ := he ht
  have d2 : decide (y.1.Kind < K) = false := decide_eq_false (hy a1).1
  have d3 : decide (t < k) = false := decide_eq_false (by omega)
  have d4 : (t != k) = false := by simp [ht]
  have d5 : (y.2 == 0) = true := by simp [a1]
  have d6 : (y.1.Kind == K) = true := by simp [a2]
  have d7 : (y.1.Number == 0) = true := by simp [a3]
  simp only [d2, d3, d4, d5, d6, d7, cond_true, cond_false]
 ·have d4 : (t != k) = true := by simp [ht]
  simp only [d4, cond_true]
  by_cases a1 : y.2 = 0
  ·have d2 : decide (y.1.Kind < K) = false := decide_eq_false (hy a1).1
   have d5 : (y.2 == 0) = true := by simp [a1]
   simp only [d2, d5, cond_true, cond_false]
   by_cases a2 : y.1.Kind = K
   ·have d3 : decide (t < k) = false := decide_eq_false ((hy a1).2 a2)
    have d6 : (y.1.Kind == K) = true := by simp [a2]
    simp only [d3, d6, cond_true, cond_false]
   ·have d6 : (y.1.Kind == K) = false := by simp [a2]
    simp only [d6, cond_false]
  ·have d5 : (y.2 == 0) = false := by simp [a1]
   simp only [d5, cond_false]
theorem SightFaulty_true (s : GSightStreet) (n : Int) (p : GSightPlace) (t : Int) (h : FineS s) : g_law02_SightFaulty s n p t = some true := by
 obtain ⟨bs, hb⟩ := short_some s h
 simp only [g_law02_SightFaulty, right_eq s n p h bs hb, Option.bind_some, g_law02_known]
 cases hr : (bs && (streetB s && (numB s n && placeB s p))) with
 | false => rfl
 | true =>
  simp only [Bool.and_eq_true] at hr
  obtain ⟨_, h1, h2, h3⟩ := hr
  simp only [cond_true]
  by_cases c1 : t < 0
  ·simp only [c1, decide_true, cond_true]
  obtain ⟨b, b1, b2, b3⟩ := good_of h1 h2 h3
  simp only [c1, decide_false, cond_false, b1, Option.bind_some]
  by_cases c2 : t ≥ (b.Letters.length : Int)
  ·simp only [c2, decide_true, cond_true]
  obtain ⟨l, l1, l2⟩ := getI_some (xs := b.Letters) (i := t) (by omega) (by omega)
  obtain ⟨hp, hl, hk, w1, w2⟩ := goods b3
  have n1 := b3.n1; have n5 := b3.n5; have nb := b3.nb
  have x0 : g_sight_Seen s n p = some (seenI s b p, 0) := by
   rcases Seen_eq s n p h with ⟨b', b1', _, _, _, _, _, ee⟩ | ⟨g1, _⟩
   ·rw [b1] at b1'; cases b1'; exact ee
   ·rw [h1, h2, h3] at g1; cases g1
  have x4 : g_sight_Why s n p = some (whyA (whyF (s.Eye.Low * s.Light.Low) b.At p s.Blocks b.Letters)) := by
   rcases Why_eq s n p h with ⟨b', b1', _, _, _, _, _, ee⟩ | ⟨g1, _⟩
   ·rw [b1] at b1'; cases b1'; rw [ee]; cases whyF (s.Eye.Low * s.Light.Low) b.At p s.Blocks b.Letters <;> rfl
   ·rw [h1, h2, h3] at g1; cases g1
  obtain ⟨x1, x2, x3⟩ : g_sight_Letters s n p = some (legsL s b p, 0) ∧ g_sight_Melts s n p = some (meltsL s b p, 0) ∧ g_sight_Hidden s n p = some (hidL s b p, 0) := by
   rcases LMH_eq s n p h with ⟨b', b1', _, _, _, _, _, e1, e2, e3⟩ | ⟨g1, _⟩
   ·rw [b1] at b1'; cases b1'; exact ⟨e1, e2, e3⟩
   ·rw [h1, h2, h3] at g1; cases g1
  obtain ⟨y1, y2, y3⟩ := alone_good (n := n) h1 b2 h3 (b3.lets l l2)
  have hfa : FineS (aloneS s b l) := ⟨rfl, fun b' hb' => by simp only [aloneS, List.mem_singleton] at hb'; subst hb'; rfl, h.2.2⟩
  have x5 : g_sight_Why (aloneS s b l) 0 p = some (whyA (oneF (s.Eye.Low * s.Light.Low) b.At p s.Blocks l)) := by
   rcases Why_eq (aloneS s b l) 0 p hfa with ⟨b', b1', _, _, _, _, _, ee⟩ | ⟨g1, _⟩
   ·have e : b' = ⟨b.At, [aloneL l]⟩ := by
     have b1'' : some (GSightBoard.mk b.At [aloneL l]) = some b' := b1'
     cases b1''; rfl
    subst e
    rw [ee]
    have q : whyF ((aloneS s b l).Eye.Low * (aloneS s b l).Light.Low) (GSightBoard.mk b.At [aloneL l]).At p (aloneS s b l).Blocks (GSightBoard.mk b.At [aloneL l]).Letters = oneF (s.Eye.Low * s.Light.Low) b.At p s.Blocks l := oneF_eq _ _ _ _ _
    rw [q]
    cases oneF (s.Eye.Low * s.Light.Low) b.At p s.Blocks l <;> rfl
   ·rw [y1, y2, y3] at g1; cases g1
  have x5' : g_sight_Why (GSightStreet.mk s.Length s.Width s.Eye s.Light [GSightBoard.mk b.At [GSightLetter.mk l.Height l.Width l.Stroke 0]] s.Blocks) 0 p = some (whyA (oneF (s.Eye.Low * s.Light.Low) b.At p s.Blocks l)) := x5
  have hhl := hids_len (f := behB b.At p) s.Blocks 0
  have e1 : ((legsL s b p).length : Int) = (b.Letters.length : Int) := by unfold legsL; rw [List.length_map]
  have e2 : ((meltsL s b p).length : Int) = (b.Letters.length : Int) - 1 := by unfold meltsL; rw [List.length_map, List.length_take]; omega
  have e3 : IntKind.i64.wrap ((b.Letters.length : Int) - 1) = (b.Letters.length : Int) - 1 := wrap_eq (by omega) (by omega)
  have s3 : (seenI s b p == 3) = sureB s b p := by unfold seenI; cases sureB s b p <;> cases mayB s b p <;> rfl
  simp only [c2, decide_false, cond_false, x0, x1, x2, x3, x4, x5', l1, Option.bind_some, bne_self_eq_false, e1, e2, e3, s3]
  have hfh := hids_fnd (f := behB b.At p) s.Blocks 0
  cases hW : whyF (s.Eye.Low * s.Light.Low) b.At p s.Blocks b.Letters with
  | none =>
   have hn := why_none.1 hW
   have hs : sureB s b p = true := by
    unfold sureB
    rw [hn.2, Bool.true_and, List.all_eq_true]
    intro k hk; simp [hn.1 k hk]
   have hleg := (leg_iff.1 (((clear_iff _).1 hn.2).1 l l2))
   have ho : oneF (s.Eye.Low * s.Light.Low) b.At p s.Blocks l = none := by
    unfold oneF
    rw [(fnd_none s.Blocks 0).2 hn.1]
    simp only [hleg.1, hleg.2.1, hleg.2.2, cond_true]
   rw [ho, hs]
   rfl
  | some f =>
   have hs : sureB s b p = false := by
    rw [Bool.eq_false_iff]
    intro hs
    unfold sureB at hs
    rw [Bool.and_eq_true, List.all_eq_true] at hs
    have := why_none.2 ⟨fun k hk => by simpa using hs.2 k hk, hs.1⟩
    rw [hW] at this; cases this
   rw [hs]
   have z1 : ((0 : Int) != 0) = false := rfl
   have z2 : (((0 : Int) == 5) != false) = false := rfl
   have z3 : ((5 : Int) != 0) = true := rfl
   have z4 : ((5 : Int) != 5) = false := rfl
   have two : ∀ (c : Prop) (A : Option Bool), A = some true → cond ((whyA (oneF (s.Eye.Low * s.Light.Low) b.At p s.Blocks l)).2 != 0) (cond ((whyA (oneF (s.Eye.Low * s.Light.Low) b.At p s.Blocks l)).2 != 5) (some false) A) A = some true := by
    intro _ A hA
    cases oneF (s.Eye.Low * s.Light.Low) b.At p s.Blocks l with
    | none => simp only [whyA, z3, z4, cond_true, cond_false, hA]
    | some g => simp only [whyA, z1, cond_false, hA]
   rcases why_cases hW with ⟨i, q1, rfl⟩ | ⟨q1, hc⟩
   ·have ho : oneF (s.Eye.Low * s.Light.Low) b.At p s.Blocks l = some ⟨1, i⟩ := by unfold oneF; rw [q1]
    have hg : getI (hidL s b p) 0 = some i := by unfold getI hidL; rw [if_pos (by omega)]; rw [← q1]; exact hfh
    have hpos : decide (((hidL s b p).length : Int) > 0) = true := decide_eq_true (by have := (getI_lt hg).2; omega)
    rw [ho]
    simp only [whyA, z1, z2, cond_false, hpos, hg, Option.bind_some, beq_self_eq_true, Bool.and_self, bne_self_eq_false, cond_true]
   ·have hx : hidL s b p = [] := by
     unfold hidL
     rw [q1] at hfh
     cases hx : hids (behB b.At p) s.Blocks 0 with
     | nil => rfl
     | cons a l => rw [hx] at hfh; cases hfh
    have hpos : decide (((hidL s b p).length : Int) > 0) = false := by rw [hx]; rfl
    have oF : oneF (s.Eye.Low * s.Light.Low) b.At p s.Blocks l = cond (tallB (s.Eye.Low * s.Light.Low) b.At p l) (cond (broadB (s.Eye.Low * s.Light.Low) b.At p l) (cond (thickB (s.Eye.Low * s.Light.Low) b.At p l) none (some ⟨4, 0⟩)) (some ⟨3, 0⟩)) (some ⟨2, 0⟩) := by
     unfold oneF; rw [q1]
    have tl : ∀ k : Nat, t = 0 + (k : Int) → b.Letters[k]? = some l := by
     intro k hk
     unfold getI at l1
     rw [if_pos (by omega)] at l1
     rwa [show t.toNat = k by omega] at l1
    have tle : b.Letters[t.toNat]? = some l := tl t.toNat (by omega)
    have lv : ∀ (k : Nat) (e : GSightLetter), b.Letters[k]? = some e → legB (s.Eye.Low * s.Light.Low) b.At p e = false → getI (legsL s b p) (0 + (k : Int)) = some (legW s b p e) ∧ (legW s b p e == 3) = false := by
     intro k e he hf
     refine ⟨getI_map (getI_nat he), ?_⟩
     unfold legW howI
     rw [hf]
     cases legB (s.Eye.High * s.Light.High) b.At p e <;> rfl
    have klt : ∀ (k : Nat) (e : GSightLetter), b.Letters[k]? = some e → (0 : Int) + (k : Int) < (b.Letters.length : Int) := by
     intro k e he
     have := (List.getElem?_eq_some_iff.1 he).1
     omega
    rcases hc with ⟨k, e, f1, f2, f3, rfl⟩ | ⟨g1, k, e, f1, f2, f3, rfl⟩ | ⟨g1, g2, k, e, f1, f2, f3, rfl⟩ | ⟨g1, k, e, f1, f2, rfl⟩
    ·obtain ⟨v1, v2⟩ := lv k e f1 (by unfold legB; rw [f2]; rfl)
     refine Eq.trans (b := cond ((whyA (oneF (s.Eye.Low * s.Light.Low) b.At p s.Blocks l)).2 != 0) (cond ((whyA (oneF (s.Eye.Low * s.Light.Low) b.At p s.Blocks l)).2 != 5) (some false) _) _) ?_ (two True _ (piece 2 (0 + (k : Int)) t b.Letters.length (legsL s b p) _ (whyA (oneF (s.Eye.Low * s.Light.Low) b.At p s.Blocks l)) (by omega) (klt k e f1) v1 v2 ?_ ?_))
     ·simp only [hpos]; rfl
     ·rw [oF]
      cases ht : tallB (s.Eye.Low * s.Light.Low) b.At p l with
      | true => cases broadB (s.Eye.Low * s.Light.Low) b.At p l <;> cases thickB (s.Eye.Low * s.Light.Low) b.At p l <;> simp [whyA]
      | false =>
       simp only [cond_false, whyA]
       refine fun _ => ⟨by omega, fun _ hlt => ?_⟩
       have := f3 t.toNat l (by omega) tle
       rw [ht] at this; cases this
     ·intro htk
      have he : e = l := by have := tl k htk; rw [f1] at this; cases this; rfl
      subst he
      rw [oF, f2]
      exact ⟨rfl, rfl, rfl⟩
    ·obtain ⟨v1, v2⟩ := lv k e f1 (by unfold legB; rw [f2]; cases tallB (s.Eye.Low * s.Light.Low) b.At p e <;> rfl)
     refine Eq.trans (b := cond ((whyA (oneF (s.Eye.Low * s.Light.Low) b.At p s.Blocks l)).2 != 0) (cond ((whyA (oneF (s.Eye.Low * s.Light.Low) b.At p s.Blocks l)).2 != 5) (some false) _) _) ?_ (two True _ (piece 3 (0 + (k : Int)) t b.Letters.length (legsL s b p) _ (whyA (oneF (s.Eye.Low * s.Light.Low) b.At p s.Blocks l)) (by omega) (klt k e f1) v1 v2 ?_ ?_))
     ·simp only [hpos]; rfl
     ·rw [oF, g1 l l2]
      cases ht : broadB (s.Eye.Low * s.Light.Low) b.At p l with
      | true => cases thickB (s.Eye.Low * s.Light.Low) b.At p l <;> simp [whyA]
      | false =>
       simp only [cond_false, cond_true, whyA]
       refine fun _ => ⟨by omega, fun _ hlt => ?_⟩
       have := f3 t.toNat l (by omega) tle
       rw [ht] at this; cases this
     ·intro htk
      have he : e = l := by have := tl k htk; rw [f1] at this; cases this; rfl
      subst he
      rw [oF, g1 e l2, f2]
      exact ⟨rfl, rfl, rfl⟩
    ·obtain ⟨v1, v2⟩ := lv k e f1 (by unfold legB; rw [f2]; cases tallB (s.Eye.Low * s.Light.Low) b.At p e <;> cases broadB (s.Eye.Low * s.Light.Low) b.At p e <;> rfl)
     refine Eq.trans (b := cond ((whyA (oneF (s.Eye.Low * s.Light.Low) b.At p s.Blocks l)).2 != 0) (cond ((whyA (oneF (s.Eye.Low * s.Light.Low) b.At p s.Blocks l)).2 != 5) (some false) _) _) ?_ (two True _ (piece 4 (0 + (k : Int)) t b.Letters.length (legsL s b p) _ (whyA (oneF (s.Eye.Low * s.Light.Low) b.At p s.Blocks l)) (by omega) (klt k e f1) v1 v2 ?_ ?_))
     ·simp only [hpos]; rfl
     ·rw [oF, g1 l l2, g2 l l2]
      cases ht : thickB (s.Eye.Low * s.Light.Low) b.At p l with
      | true => simp [whyA]
      | false =>
       simp only [cond_false, cond_true, whyA]
       refine fun _ => ⟨by omega, fun _ hlt => ?_⟩
       have := f3 t.toNat l (by omega) tle
       rw [ht] at this; cases this
     ·intro htk
      have he : e = l := by have := tl k htk; rw [f1] at this; cases this; rfl
      subst he
      rw [oF, g1 e l2, g2 e l2, f2]
      exact ⟨rfl, rfl, rfl⟩
    ·have hlg := leg_iff.1 (g1 l l2)
     have ho : oneF (s.Eye.Low * s.Light.Low) b.At p s.Blocks l = none := by rw [oF, hlg.1, hlg.2.1, hlg.2.2]; rfl
     have hlt := (List.getElem?_eq_some_iff.1 f1).1
     rw [List.length_take] at hlt
     have hm : getI (meltsL s b p) (0 + (k : Int)) = some (meltW s b p e) := getI_map (getI_nat f1)
     have hm1 : (meltW s b p e != 1) = true := by
      unfold meltW howI
      rw [f2]
      cases apartB (s.Eye.High * s.Light.High) b.At p e <;> rfl
     have d1 : decide ((0 : Int) + (k : Int) ≥ 0) = true := decide_eq_true (by omega)
     have d2 : decide ((0 : Int) + (k : Int) < (b.Letters.length : Int) - 1) = true := decide_eq_true (by omega)
     rw [ho]
     have k1 : ((5 : Int) == 1) = false := rfl
     have k2 : ((5 : Int) == 2) = false := rfl
     have k3 : ((5 : Int) == 3) = false := rfl
     have k4 : ((5 : Int) == 4) = false := rfl
     simp only [whyA, z1, z2, z3, z4, cond_true, cond_false, hpos, k1, k2, k3, k4, bne_self_eq_false, beq_self_eq_true, hm, Option.bind_some, hm1]
     have q1 : (0 : Int) + (k : Int) ≥ 0 := by omega
     have q2 : (0 : Int) + (k : Int) < (b.Letters.length : Int) - 1 := by omega
     simp only [q1, q2, decide_true, cond_true]
end Go.V
end
