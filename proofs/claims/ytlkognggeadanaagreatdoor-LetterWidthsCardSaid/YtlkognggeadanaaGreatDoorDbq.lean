/- Part of a proof. -/
import Derived.Test.YtlkognggeadanaaGreatDoorDbp
set_option linter.all false
set_option maxRecDepth 4000
set_option maxHeartbeats 40000000
section
namespace Go.V
open Go Go.Proofs
theorem Um {a e : GLe} (out : List Int) : ∀ (ws : List GLw) (n : Nat) (i : Int), i + n ≤ a.Word → (ltrsL out ws i).filter (btw a e) = (ltrsL out (ws.drop n) (i + n)).filter (btw a e)
 | ws, 0, i, _ => by simp
 | [], n + 1, i, _ => by simp [ltrsL]
 | w :: ws, n + 1, i, h => by
  have ih := Um (a := a) (e := e) out ws n (i + 1) (by omega)
  rw [List.drop_succ_cons, show i + ((n + 1 : Nat) : Int) = i + 1 + n by omega, ← ih, ltrsL]
  cases out.contains i with
  | true => rfl
  | false =>
   rw [cond_false, List.filter_append]
   have : (letW i (w.Signs.length : Int) w.Signs 0).filter (btw a e) = [] := by
    rw [List.filter_eq_nil_iff]
    intro f hf
    have := (tP hf).1
    unfold btw
    simp only [Bool.and_eq_true, decide_eq_true_eq, not_and]
    intro hb
    unfold befE at hb
    omega
   rw [this, List.nil_append]
theorem z1 (out : List Int) {f : FL} : ∀ (ws : List GLw) (i : Int), f ∈ ltrsL out ws i → ∃ n : Nat, ∃ w, ws[n]? = some w ∧ f.1.Word = i + n ∧ f.2.2 = decide (f.1.Letters < (w.Signs.length : Int)) ∧ 1 ≤ f.1.Letters ∧ f.1.Letters ≤ w.Signs.length
 | [], _, h => by cases h
 | w :: ws, i, h => by
  unfold ltrsL at h
  cases hc : out.contains i with
  | true =>
   rw [hc, cond_true] at h
   obtain ⟨n, v, h1, h2, h3⟩ := z1 out ws (i + 1) h
   exact ⟨n + 1, v, h1, by omega, h3⟩
  | false =>
   rw [hc, cond_false] at h
   rcases List.mem_append.1 h with h | h
   ·obtain ⟨h1, h2, h3, h4, h5⟩ := tP h
    exact ⟨0, w, rfl, by omega, h5, by omega, by omega⟩
   ·obtain ⟨n, v, h1, h2, h3⟩ := z1 out ws (i + 1) h
    exact ⟨n + 1, v, h1, by omega, h3⟩
theorem Ml {a b : GLe} (h : befE a b) : ¬ befE b a := fun k => t4 (BK h k)
theorem Mm {e : GLe} : ∀ (fl : List FL), (fl.map (·.1)).Pairwise befE → e ∈ fl.map (·.1) → upTo e fl = (fl.filter (fun f => !decide (befE e f.1)), fl.filter (fun f => decide (befE e f.1)))
 | [], _, h => by cases h
 | f :: fl, hp, he => by
  simp only [List.map_cons, List.pairwise_cons] at hp
  unfold upTo
  by_cases hf : e = f.1
  ·have hall : ∀ g ∈ fl, befE e g.1 := fun g hg => by rw [hf]; exact hp.1 _ (List.mem_map_of_mem hg)
   have hne : ¬ befE e f.1 := by rw [hf]; exact t4
   rw [if_pos hf, List.filter_cons_of_pos (by simp [hne]), List.filter_cons_of_neg (by simp [hne]), List.filter_eq_nil_iff.2 (fun g hg => by simp [hall g hg]), List.filter_eq_self.2 (fun g hg => by simp [hall g hg])]
  ·have he' : e ∈ fl.map (·.1) := by
    simp only [List.map_cons, List.mem_cons] at he
    exact he.resolve_left hf
   have hb := hp.1 e he'
   have hne := Ml hb
   rw [if_neg hf, Mm fl hp.2 he', List.filter_cons_of_pos (by simp [hne]), List.filter_cons_of_neg (by simp [hne])]
theorem Un {e : GLe} : ∀ (fl : List FL), e ∈ fl.map (·.1) → ∃ f l, (upTo e fl).1 = l ++ [f] ∧ f.1 = e ∧ f ∈ fl
 | [], h => by cases h
 | f :: fl, h => by
  unfold upTo
  by_cases hf : e = f.1
  ·rw [if_pos hf]; exact ⟨f, [], rfl, hf.symm, qZb ..⟩
  ·have he' : e ∈ fl.map (·.1) := by
    simp only [List.map_cons, List.mem_cons] at h
    exact h.resolve_left hf
   obtain ⟨g, l, h1, h2, h3⟩ := Un fl he'
   rw [if_neg hf]
   exact ⟨g, f :: l, by simp [h1], h2, qZa _ h3⟩
theorem Uo (f : FL) : ∀ l : List FL, lineOf (l ++ [f]) = (l ++ [f]).map toRL ++ hyR f
 | [] => by simp [lineOf]
 | g :: l => by
  have ih := Uo f l
  obtain ⟨x, t, hx⟩ : ∃ x t, l ++ [f] = x :: t := by cases l <;> exact ⟨_, _, rfl⟩
  rw [List.cons_append, hx]
  rw [hx] at ih
  rw [lineOf, ih]
  simp
theorem Mn {s : GLs} (h : Sh s) {out : List Int} (ho : lenOk out = true) {a e : GLe} (ha : 0 ≤ a.Word) (zk : 0 ≤ a.Letters) (hae : befE a e) (he : e ∈ (ltrsL out s.Words 0).map (·.1)) : CS s out a e = some (lineOf (upTo e ((ltrsL out s.Words 0).filter fun f => decide (befE a f.1))).1) := by
 obtain ⟨f0, Dv, rfl⟩ := List.mem_map.1 he
 obtain ⟨n, we, w1, w2, w3, w4, w5⟩ := z1 out s.Words 0 Dv
 rw [Int.zero_add] at w2
 have hwe : getI s.Words f0.1.Word = some we := by rw [w2]; exact F6 w1
 have hnw := h.nw
 have hn := w8 hwe
 have hal : a.Word ≤ f0.1.Word := by unfold befE at hae; omega
 have mC := C1 h ho ha zk hae hwe (by omega) w5 (s.Words.drop a.Word.toNat) 1000000 a.Word [] (qZe _) (by omega) rfl (by omega) (by simp; omega)
 have hfr := Um (a := a) (e := f0.1) out s.Words a.Word.toNat 0 (by omega)
 rw [show (0 : Int) + (a.Word.toNat : Int) = a.Word by omega] at hfr
 have hpw := BJ out s.Words 0
 have hsub : (((ltrsL out s.Words 0).filter fun f => decide (befE a f.1)).map (·.1)).Pairwise befE := List.Pairwise.sublist (List.Sublist.map _ List.filter_sublist) hpw
 have hem : f0.1 ∈ ((ltrsL out s.Words 0).filter fun f => decide (befE a f.1)).map (·.1) := List.mem_map.2 ⟨f0, List.mem_filter.2 ⟨Dv, by simp [hae]⟩, rfl⟩
 obtain ⟨g, l, g1, g2, g3⟩ := Un _ hem
 have hseg : (upTo f0.1 ((ltrsL out s.Words 0).filter fun f => decide (befE a f.1))).1 = (ltrsL out s.Words 0).filter (btw a f0.1) := by
  rw [Mm _ hsub hem, List.filter_filter]
  refine List.filter_congr fun f _ => ?_
  unfold btw
  rw [Bool.and_comm]
 have hgm := (List.mem_filter.1 g3).1
 obtain ⟨n', we', v1, v2, v3, v4, v5⟩ := z1 out s.Words 0 hgm
 rw [Int.zero_add, g2, w2] at v2
 have : n = n' := by omega
 subst this
 rw [w1] at v1
 cases v1
 unfold CS
 rw [mC, mY, List.nil_append, ← hfr, ← hseg, hwe, Option.bind_some, g1, Uo]
 have hlen : (l ++ [g]).length ≤ 24 := by
  rw [← g1, hseg]
  have := List.length_filter_le (btw a f0.1) (ltrsL out s.Words 0)
  have := FJ out s.Words 0 fun w hw => (h.wlen w hw).2
  omega
 simp only [hyR, v3, g2]
 by_cases hlt : f0.1.Letters < (we.Signs.length : Int)
 ·rw [decide_eq_true hlt, cond_true, cond_true, roomOk16 (by simp at hlen ⊢; omega), cond_true]
 ·rw [decide_eq_false hlt, cond_false, cond_false, List.append_nil]
theorem Dw {s : GLs} (h : Sh s) (x : GLx) (ho : lenOk x.Out = true) : ∀ (es : List GLe) (a : GLe) (i : Int) (acc : List (List RL)), 0 ≤ a.Word → 0 ≤ a.Letters → (a :: es).Pairwise befE → (∀ e ∈ es, e ∈ (ltrsL x.Out s.Words 0).map (·.1)) → acc.length + es.length ≤ 900 →
  ∃ o, tB s x es i acc a.Word a.Letters = some (.go (acc ++ (segs es ((ltrsL x.Out s.Words 0).filter fun f => decide (befE a f.1))).map lineOf, o))
 | [], a, i, acc, _, _, _, _, _ => ⟨(a.Word, a.Letters), by simp [tB, segs]⟩
 | e :: es, a, i, acc, ha, zk, hp, hm, hl => by
  simp only [List.length_cons] at hl
  have hae := (List.pairwise_cons.1 hp).1 e (qZb ..)
  have he := hm e (qZb ..)
  have hr := Mn h ho ha zk hae he
  obtain ⟨f0, Dv, e0⟩ := List.mem_map.1 he
  obtain ⟨n, we, w1, w2, w3, w4, w5⟩ := z1 x.Out s.Words 0 Dv
  rw [e0] at w2 w4
  obtain ⟨o, ih⟩ := Dw h x ho es e (i + 1) (acc ++ [lineOf (upTo e ((ltrsL x.Out s.Words 0).filter fun f => decide (befE a f.1))).1]) (by omega) (by omega) (List.pairwise_cons.1 hp).2 (fun e' h' => hm e' (qZa _ h')) (by simp; omega)
  refine ⟨o, ?_⟩
  have hsub : (((ltrsL x.Out s.Words 0).filter fun f => decide (befE a f.1)).map (·.1)).Pairwise befE := List.Pairwise.sublist (List.Sublist.map _ List.filter_sublist) (BJ x.Out s.Words 0)
  have hem : e ∈ ((ltrsL x.Out s.Words 0).filter fun f => decide (befE a f.1)).map (·.1) := List.mem_map.2 ⟨f0, List.mem_filter.2 ⟨Dv, by simp [e0, hae]⟩, e0⟩
  have h2 : (upTo e ((ltrsL x.Out s.Words 0).filter fun f => decide (befE a f.1))).2 = (ltrsL x.Out s.Words 0).filter fun f => decide (befE e f.1) := by
   rw [Mm _ hsub hem]
   simp only [List.filter_filter]
   refine List.filter_congr fun f _ => ?_
   by_cases hb : befE e f.1
   ·simp [hb, BK hae hb]
   ·simp [hb]
  simp only [tB]
  rw [show GLe.mk a.Word a.Letters = a from rfl, hr, Option.bind_some, show av 24 _ = true by simp [av]; omega, cond_true, ih, segs, h2]
  simp
theorem Mo {s : GLs} {x : GLx} (g : Good s x) : Cs s x = some ((segs x.Ends (ltrsL x.Out s.Words 0)).map lineOf) := by
 have hal := xp g.sh g.ends
 have hm : ∀ e ∈ x.Ends, e ∈ (ltrsL x.Out s.Words 0).map (·.1) := fun e he => Jr _ _ _ (fun w hw => ⟨(g.sh.wlen w hw).1, (g.sh.wcut w hw).2.1⟩) e (g.ends.2.1 e he)
 have hz : ∀ f ∈ ltrsL x.Out s.Words 0, befE (GLe.mk 0 0) f.1 := fun f hf => by
  obtain ⟨n, we, w1, w2, w3, w4, w5⟩ := z1 x.Out s.Words 0 hf
  unfold befE
  simp only
  omega
 have hn := Lx g
 obtain ⟨o, h1⟩ := Dw g.sh x g.lo x.Ends (GLe.mk 0 0) 0 [] (qZe _) (qZe _) (List.pairwise_cons.2 ⟨fun e he => by
  obtain ⟨f, hf, rfl⟩ := List.mem_map.1 (hm e he)
  exact hz f hf, g.ends.1⟩) hm (by simp; omega)
 rw [List.filter_eq_self.2 (fun f hf => by simp [hz f hf])] at h1
 simp only [Cs, g.le, cond_true]
 rw [show tB s x x.Ends 0 [] 0 0 = _ from h1, mY, List.nil_append]
theorem Dx : ∀ (es : List GLe) (fl : List FL), ∀ g ∈ segs es fl, g.length ≤ fl.length ∧ ∀ f ∈ g, f ∈ fl
 | [], fl, g, h => by cases h
 | e :: es, fl, g, h => by
  have up : ∀ fl : List FL, ((upTo e fl).1.length ≤ fl.length ∧ (upTo e fl).2.length ≤ fl.length) ∧ (∀ f ∈ (upTo e fl).1, f ∈ fl) ∧ ∀ f ∈ (upTo e fl).2, f ∈ fl := by
   intro fl
   induction fl with
   | nil => exact ⟨⟨qZf _, qZf _⟩, fun f hf => hf, fun f hf => hf⟩
   | cons g fl ih =>
    unfold upTo
    split
    ·exact ⟨⟨by simp, by simp⟩, fun f hf => by simp at hf; simp [hf], fun f hf => qZa _ hf⟩
    ·refine ⟨⟨by simp; omega, by simp; omega⟩, fun f hf => ?_, fun f hf => qZa _ (ih.2.2 f hf)⟩
     rcases List.mem_cons.1 hf with rfl | hf
     ·exact qZb ..
     ·exact qZa _ (ih.2.1 f hf)
  rcases List.mem_cons.1 h with rfl | h
  ·exact ⟨(up fl).1.1, (up fl).2.1⟩
  ·obtain ⟨h1, h2⟩ := Dx es _ g h
   exact ⟨qZg h1 (up fl).1.2, fun f hf => (up fl).2.2 f (h2 f hf)⟩
theorem Mp : ∀ (es : List GLe) (fl : List FL), (segs es fl).length = es.length
 | [], _ => rfl
 | e :: es, fl => by simp [segs, Mp es]
theorem Up : ∀ (l : List FL), (lineOf l).length ≤ l.length + 1 ∧ ∀ a ∈ lineOf l, a.Sign = -1 ∨ ∃ f ∈ l, a.Sign = f.2.1
 | [] => ⟨by simp [lineOf], fun a h => by cases h⟩
 | [f] => by
  unfold lineOf hyR
  cases f.2.2 with
  | true =>
   refine ⟨by simp, fun a h => ?_⟩
   simp only [cond_true, List.mem_cons, List.not_mem_nil, or_false] at h
   rcases h with rfl | rfl
   ·exact .inr ⟨f, qZb .., rfl⟩
   ·exact .inl rfl
  | false =>
   refine ⟨by simp, fun a h => ?_⟩
   simp only [cond_false, List.mem_cons, List.not_mem_nil, or_false] at h
   subst h
   exact .inr ⟨f, qZb .., rfl⟩
 | f :: g :: l => by
  obtain ⟨h1, h2⟩ := Up (g :: l)
  refine ⟨by simp only [lineOf, List.length_cons] at h1 ⊢; omega, fun a h => ?_⟩
  simp only [lineOf, List.mem_cons] at h
  rcases h with rfl | h
  ·exact .inr ⟨f, qZb .., rfl⟩
  ·rcases h2 a h with h | ⟨x, hx, e⟩
   ·exact .inl h
   ·exact .inr ⟨x, qZa _ hx, e⟩
theorem XS {s : GLs} {x : GLx} (g : Good s x) {k : Int} (h0 : 0 ≤ k) (h1 : k ≤ 10) : Cr s x k = some (rowsL s k (marksOf s x) x.Ends.length 0) := by
 have hal := xp g.sh g.ends
 have hn := Lx g
 have hl := FJ x.Out s.Words 0 fun w hw => (g.sh.wlen w hw).2
 have hnw := g.sh.nw
 have hsg : ∀ f ∈ ltrsL x.Out s.Words 0, 0 ≤ f.2.1 ∧ f.2.1 < s.Widths.length := fun f hf => by
  obtain ⟨_, w, hw, hc⟩ := yU hf
  exact g.sh.wsign w hw _ hc
 simp only [Cr, Mo g, Option.bind_some]
 rw [oV (by simp [Mp]; omega), cond_true, Ti g.sheet g.fine.2.1 h0 h1 _ 0 [] (fun l hl' => ?_) (by simp [Mp]; omega), mY, List.nil_append]
 ·rw [marksOf, Tl g.sheet k _ _ 0 hal fun f hf => (hsg f hf).1, List.map_map]
  rfl
 ·obtain ⟨sg, jM, rfl⟩ := List.mem_map.1 hl'
  obtain ⟨m1, m2⟩ := Dx _ _ sg jM
  obtain ⟨n1, n2⟩ := Up sg
  refine ⟨by omega, fun a ha => ?_⟩
  rcases n2 a ha with e | ⟨f, hf, e⟩
  ·have := g.sh.nwid; omega
  ·have := hsg f (m2 f hf); omega
theorem Dy (b : List Int) : ∀ (p : List Int) (i : Nat), b.drop i = p → xf b p (i : Int) = some (.go ())
 | [], _, _ => rfl
 | x :: p, i, h => by
  have hg := eg (i := (i : Int)) (by omega) (by rw [show Int.toNat (i : Int) = i by omega]; exact h)
  have hn := bK (i := (i : Int)) (by omega) (by rw [show Int.toNat (i : Int) = i by omega]; exact h)
  have ih := Dy b p (i + 1) (by rw [show i + 1 = ((i : Int) + 1).toNat by omega]; exact hn)
  rw [show ((i + 1 : Nat) : Int) = (i : Int) + 1 by omega] at ih
  simp only [xf, hg, Option.bind_some, bne_self_eq_false, cond_false, ih]
theorem Mq (a : List Int) (h : lenOk a = true) : C2 a a = some true := by
 have := Dy a a 0 rfl
 simp only [C2, bne_self_eq_false, cond_false, h, cond_true]
 rw [show xf a a 0 = _ from this, mY]
def Dz (ad : GLs) : Option (Int) := Option.bind (zp ad) (fun r1 => cond (r1) (some 0) (some 2))
theorem XT (ad : GLs) (R : Int) (h : Dz ad = some R) : ag Tryz.prog G0 20 [.agg (cGLs ad)] (.tree (.lit (.int .i64 R))) := by
 refine ag.runR mixed Tryz.call20 Tryz.func20 rfl (by simp [Tryz.ntmps20]; kernel_rfl) ?_
 obtain ⟨KF, h, kF, kN⟩ := eC h
 simp only [Dz] at h
 obtain ⟨r2, o3, h⟩ := optI h kN
 try simp only [hs] at h
 simp only [vz, tyf, nm, seval]
 refine ktA (TK _ _ o3) ?_
 refine b5 (fun tm => tm 4 = .lit (.bool r2) ∧ True) (by refine ⟨?_, trivial⟩ <;> first | (simp only [ua, nm, seval] <;> rfl) | rfl) ?_
 rintro tm ⟨e4, _⟩
 cases d5 : (r2)
 ·simp only [d5, hs] at h
  try simp only [vz, tyf, e4, d5, nm, seval]
  refine eh (x := (.lit (.int .i64 2))) (by first | (simp only [Tryz.results20, resV, resL, aR, ei, ej, uw, cr, tyf, d5, nm, seval] <;> rfl) | rfl) ?_
  obtain rfl := kF _ h
  refine eD ?_ ?_
  ·simp only [tre, aG, Bool.and_self]
  ·first | (simp only [outV, uw, ep, cr, tyf, nrm, aE, e4, d5, nm, seval] <;> rfl) | rfl
 simp only [d5, hs] at h
 try simp only [vz, tyf, e4, d5, nm, seval]
 refine eh (x := (.lit (.int .i64 0))) (by first | (simp only [Tryz.results20, resV, resL, aR, ei, ej, uw, cr, tyf, d5, nm, seval] <;> rfl) | rfl) ?_
 obtain rfl := kF _ h
 refine eD ?_ ?_
 ·simp only [tre, aG, Bool.and_self]
 ·first | (simp only [outV, uw, ep, cr, tyf, nrm, aE, e4, d5, nm, seval] <;> rfl) | rfl
def FX (ad : GLs) (aj : GLx) (aZ : Int) : Option (Bool) := Option.bind (CJ ad) (fun r1 => cond (r1) (Option.bind (D0 aj) (fun r2 => cond (r2) (Option.bind (Dz ad) (fun r3 => Option.bind (v9 ad aj aZ) (fun r4 => Option.bind (D1 ad) (fun r5 => cond (r5) (cond (r3 != 0) (some false) (Option.bind (D2 ad aj) (fun r6 => cond (r6) (Option.bind (CH aZ) (fun r7 => cond (r7) (cond (r4.2 == 0) (Option.bind (Cr ad aj aZ) (fun r8 => Option.bind (C2 r4.1 r8) (fun r9 => cond (r9) (some true) (some false)))) (some false)) (cond (r4.2 == 2) (cond ((List.length r4.1 : Int) == 0) (some true) (some false)) (some false)))) (cond (r4.2 == 2) (cond ((List.length r4.1 : Int) == 0) (some true) (some false)) (some false))))) (cond (r3 == 2) (cond (r4.2 == 2) (cond ((List.length r4.1 : Int) == 0) (some true) (some false)) (some false)) (some false)))))) (some true))) (some true))
theorem Wp (ad : GLs) (aj : GLx) (aZ : Int) (R : Bool) (h : FX ad aj aZ = some R) : ag Tryz.prog G0 3 [.agg (cGLs ad), .agg (cGLx aj), .lit (.int .i64 aZ)] (.tree (.lit (.bool R))) := by
 refine ag.runR mixed Tryz.call3 Tryz.func3 rfl (by simp [Tryz.ntmps3]; kernel_rfl) ?_
 obtain ⟨KF, h, kF, kN⟩ := eC h
 simp only [FX] at h
 obtain ⟨z2, XU, h⟩ := optI h kN
 try simp only [hs] at h
 simp only [vz, tyf, nm, seval]
 refine ktA (XV _ _ XU) ?_
 refine b5 (fun tm => tm 2 = .lit (.int .i64 aZ) ∧ tm 3 = .ptr 0 0 ∧ tm 4 = .ptr 1 0 ∧ tm 11 = .lit (.bool z2) ∧ True) (by refine ⟨?_, ?_, ?_, ?_, trivial⟩ <;> first | (simp only [ua, nm, seval] <;> rfl) | rfl) ?_
 rintro tm ⟨bu, bj, bn, bE, _⟩
 cases eA : (z2)
 ·simp only [eA, hs] at h
  simp only [vz, tyf, bu, bj, bn, bE, eA, nm, seval]
  refine ktree0 zu ?_
  try simp only [vz, tyf, bu, bj, bn, bE, eA, nm, seval]
  obtain rfl := kF _ h
  exact bz Tryz.results3 rfl
 simp only [eA, hs] at h
 obtain ⟨xO, D3, h⟩ := optI h kN
 try simp only [hs] at h
 simp only [vz, tyf, bu, bj, bn, bE, eA, nm, seval]
 refine ktA (XW _ _ D3) ?_
 refine b5 (fun tm => tm 2 = .lit (.int .i64 aZ) ∧ tm 3 = .ptr 0 0 ∧ tm 4 = .ptr 1 0 ∧ tm 13 = .lit (.bool false) ∧ tm 15 = .lit (.bool xO) ∧ True) (by refine ⟨bu, bj, bn, ?_, ?_, trivial⟩ <;> first | (simp only [ua, bu, bj, bn, bE, eA, nm, seval] <;> rfl) | rfl) ?_
 rintro tm ⟨dg, ez, cn, bJ, cm, _⟩
 cases fO : (xO)
 ·simp only [fO, hs] at h
  simp only [vz, tyf, eA, dg, ez, cn, bJ, cm, fO, nm, seval]
  refine ktree0 zu ?_
  try simp only [vz, tyf, eA, dg, ez, cn, bJ, cm, fO, nm, seval]
  obtain rfl := kF _ h
  exact bz Tryz.results3 rfl
 simp only [fO, hs] at h
 obtain ⟨vj, j4, h⟩ := optI h kN
 try simp only [hs] at h
 simp only [vz, tyf, eA, dg, ez, cn, bJ, cm, fO, nm, seval]
 refine ktA (XT _ _ j4) ?_
 refine b5 (fun tm => tm 2 = .lit (.int .i64 aZ) ∧ tm 3 = .ptr 0 0 ∧ tm 4 = .ptr 1 0 ∧ tm 20 = .lit (.int .i64 vj) ∧ True) (by refine ⟨dg, ez, cn, ?_, trivial⟩ <;> first | (simp only [ua, eA, dg, ez, cn, bJ, cm, fO, nm, seval] <;> rfl) | rfl) ?_
 rintro tm ⟨dm, dJ, eW, bI, _⟩
 obtain ⟨im, rj, h⟩ := optI h kN
 try simp only [hs] at h
 simp only [vz, tyf, eA, fO, dm, dJ, eW, bI, nm, seval]
 refine ktA (XC _ _ _ _ rj) ?_
 refine b5 (fun tm => tm 2 = .lit (.int .i64 aZ) ∧ tm 3 = .ptr 0 0 ∧ tm 4 = .ptr 1 0 ∧ tm 7 = .lit (.int .i64 vj) ∧ tm 25 = .tup [.sl (aa eI im.1) (List.length im.1) false, .lit (.int .i64 im.2)] ∧ True) (by refine ⟨dm, dJ, eW, ?_, ?_, trivial⟩ <;> first | (simp only [ua, eA, fO, dm, dJ, eW, bI, nm, seval] <;> rfl) | rfl) ?_
 rintro tm ⟨fA, eQ, eX, bM, bW, _⟩
 obtain ⟨D4, Mr, h⟩ := optI h kN
 try simp only [hs] at h
 simp only [vz, tyf, eA, fO, fA, eQ, eX, bM, bW, nm, seval]
 refine ktA (XX _ _ Mr) ?_
 refine b5 (fun tm => tm 2 = .lit (.int .i64 aZ) ∧ tm 3 = .ptr 0 0 ∧ tm 4 = .ptr 1 0 ∧ tm 7 = .lit (.int .i64 vj) ∧ tm 8 = .sl (aa eI im.1) (List.length im.1) false ∧ tm 9 = .lit (.int .i64 im.2) ∧ tm 29 = .lit (.bool D4) ∧ True) (by refine ⟨fA, eQ, eX, bM, ?_, ?_, ?_, trivial⟩ <;> first | (simp only [ua, eA, fO, fA, eQ, eX, bM, bW, nm, seval] <;> rfl) | rfl) ?_
 rintro tm ⟨bF, bN, b9, cq, ca, fB, fC, _⟩
 cases ib : (D4)
 ·simp only [ib, hs] at h
  cases mP : (vj == 2)
  ·simp only [mP, hs] at h
   try simp only [vz, tyf, eA, fO, bF, bN, b9, cq, ca, fB, fC, ib, mP, nm, seval]
   obtain rfl := kF _ h
   exact bz Tryz.results3 rfl
  simp only [mP, hs] at h
  cases l5 : (im.2 == 2)
  ·simp only [l5, hs] at h
   try simp only [vz, tyf, eA, fO, bF, bN, b9, cq, ca, fB, fC, ib, mP, l5, nm, seval]
   obtain rfl := kF _ h
   exact bz Tryz.results3 rfl
  simp only [l5, hs] at h
  cases ml : ((List.length im.1 : Int) == 0)
  ·simp only [ml, hs] at h
   try simp only [vz, tyf, eA, fO, bF, bN, b9, cq, ca, fB, fC, ib, mP, l5, ml, nm, seval]
   obtain rfl := kF _ h
   exact bz Tryz.results3 rfl
  simp only [ml, hs] at h
  simp only [vz, tyf, eA, fO, bF, bN, b9, cq, ca, fB, fC, ib, mP, l5, ml, nm, seval]
  refine ktree0 zu ?_
  try simp only [vz, tyf, eA, fO, bF, bN, b9, cq, ca, fB, fC, ib, mP, l5, ml, nm, seval]
  obtain rfl := kF _ h
  exact bz Tryz.results3 rfl
 simp only [ib, hs] at h
 cases gN : (vj != 0)
 ·simp only [gN, hs] at h
  obtain ⟨eT, tY, h⟩ := optI h kN
  try simp only [hs] at h
  simp only [vz, tyf, eA, fO, bF, bN, b9, cq, ca, fB, fC, ib, gN, nm, seval]
  refine ktA (XY _ _ _ tY) ?_
  refine b5 (fun tm => tm 2 = .lit (.int .i64 aZ) ∧ tm 3 = .ptr 0 0 ∧ tm 4 = .ptr 1 0 ∧ tm 8 = .sl (aa eI im.1) (List.length im.1) false ∧ tm 9 = .lit (.int .i64 im.2) ∧ tm 49 = .lit (.bool eT) ∧ True) (by refine ⟨bF, bN, b9, ca, fB, ?_, trivial⟩ <;> first | (simp only [ua, eA, fO, bF, bN, b9, cq, ca, fB, fC, ib, gN, nm, seval] <;> rfl) | rfl) ?_
  rintro tm ⟨cE, cF, cC, cG, hJ, hT, _⟩
  cases lL : (eT)
  ·simp only [lL, hs] at h
   cases lF : (im.2 == 2)
   ·simp only [lF, hs] at h
    try simp only [vz, tyf, eA, fO, ib, gN, cE, cF, cC, cG, hJ, hT, lL, lF, nm, seval]
    obtain rfl := kF _ h
    exact bz Tryz.results3 rfl
   simp only [lF, hs] at h
   cases vJ : ((List.length im.1 : Int) == 0)
   ·simp only [vJ, hs] at h
    have XZ := And.intro eA (And.intro fO (And.intro ib (And.intro gN (And.intro lL (And.intro lF vJ)))))
    try simp only [vz, tyf, XZ, cE, cF, cC, cG, hJ, hT, nm, seval]
    obtain rfl := kF _ h
    exact bz Tryz.results3 rfl
   simp only [vJ, hs] at h
   have Uq := And.intro eA (And.intro fO (And.intro ib (And.intro gN (And.intro lL (And.intro lF vJ)))))
   simp only [vz, tyf, Uq, cE, cF, cC, cG, hJ, hT, nm, seval]
   refine ktree0 zu ?_
   try simp only [vz, tyf, Uq, cE, cF, cC, cG, hJ, hT, nm, seval]
   obtain rfl := kF _ h
   exact bz Tryz.results3 rfl
  simp only [lL, hs] at h
  obtain ⟨Ur, Ya, h⟩ := optI h kN
  try simp only [hs] at h
  simp only [vz, tyf, eA, fO, ib, gN, cE, cF, cC, cG, hJ, hT, lL, nm, seval]
  refine ktA (XG _ _ Ya) ?_
  refine b5 (fun tm => tm 2 = .lit (.int .i64 aZ) ∧ tm 3 = .ptr 0 0 ∧ tm 4 = .ptr 1 0 ∧ tm 8 = .sl (aa eI im.1) (List.length im.1) false ∧ tm 9 = .lit (.int .i64 im.2) ∧ tm 51 = .lit (.bool false) ∧ tm 53 = .lit (.bool Ur) ∧ True) (by refine ⟨cE, cF, cC, cG, hJ, ?_, ?_, trivial⟩ <;> first | (simp only [ua, eA, fO, ib, gN, cE, cF, cC, cG, hJ, hT, lL, nm, seval] <;> rfl) | rfl) ?_
  rintro tm ⟨je, mG, mH, eZ, jB, jn, ld, _⟩
  cases z3 : (Ur)
  ·simp only [z3, hs] at h
   cases hL : (im.2 == 2)
   ·simp only [hL, hs] at h
    have Yb := And.intro eA (And.intro fO (And.intro ib (And.intro gN (And.intro lL (And.intro z3 hL)))))
    try simp only [vz, tyf, Yb, je, mG, mH, eZ, jB, jn, ld, nm, seval]
    obtain rfl := kF _ h
    exact bz Tryz.results3 rfl
   simp only [hL, hs] at h
   have Ms := And.intro eA (And.intro fO (And.intro ib (And.intro gN (And.intro lL (And.intro z3 hL)))))
   cases uy : ((List.length im.1 : Int) == 0)
   ·simp only [uy, hs] at h
    try simp only [vz, tyf, Ms, je, mG, mH, eZ, jB, jn, ld, uy, nm, seval]
    obtain rfl := kF _ h
    exact bz Tryz.results3 rfl
   simp only [uy, hs] at h
   simp only [vz, tyf, Ms, je, mG, mH, eZ, jB, jn, ld, uy, nm, seval]
   refine ktree0 zu ?_
   try simp only [vz, tyf, Ms, je, mG, mH, eZ, jB, jn, ld, uy, nm, seval]
   obtain rfl := kF _ h
   exact bz Tryz.results3 rfl
  simp only [z3, hs] at h
  cases lI : (im.2 == 0)
  ·simp only [lI, hs] at h
   have Yc := And.intro eA (And.intro fO (And.intro ib (And.intro gN (And.intro lL (And.intro z3 lI)))))
   try simp only [vz, tyf, Yc, je, mG, mH, eZ, jB, jn, ld, nm, seval]
   obtain rfl := kF _ h
   exact bz Tryz.results3 rfl
  simp only [lI, hs] at h
  have xP := And.intro eA (And.intro fO (And.intro ib (And.intro gN (And.intro lL (And.intro z3 lI)))))
  obtain ⟨Us, Yd, h⟩ := optI h kN
  try simp only [hs] at h
  simp only [vz, tyf, xP, je, mG, mH, eZ, jB, jn, ld, nm, seval]
  refine ktA (Wt _ _ _ _ Yd) ?_
  refine b5 (fun tm => tm 68 = .lit (.bool true) ∧ tm 69 = .sl (aa eI im.1) (List.length im.1) false ∧ tm 73 = .sl (aa eI Us) (List.length Us) false ∧ True) (by refine ⟨?_, ?_, ?_, trivial⟩ <;> first | (simp only [ua, xP, je, mG, mH, eZ, jB, jn, ld, nm, seval] <;> rfl) | rfl) ?_
  rintro tm ⟨dw, cI, cw, _⟩
  obtain ⟨Ut, Ye, h⟩ := optI h kN
  try simp only [hs] at h
  simp only [vz, tyf, xP, dw, cI, cw, nm, seval]
  refine ktA (W8 _ _ _ Ye) ?_
  refine b5 (fun tm => tm 68 = .lit (.bool true) ∧ tm 74 = .lit (.bool Ut) ∧ True) (by refine ⟨?_, ?_, trivial⟩ <;> first | (simp only [ua, xP, dw, cI, cw, nm, seval] <;> rfl) | rfl) ?_
  rintro tm ⟨qh, uz, _⟩
  cases D5 : (Ut)
  ·simp only [D5, hs] at h
   try simp only [vz, tyf, xP, qh, uz, D5, nm, seval]
   obtain rfl := kF _ h
   exact bz Tryz.results3 rfl
  simp only [D5, hs] at h
  simp only [vz, tyf, xP, qh, uz, D5, nm, seval]
  refine ktree0 zu ?_
  try simp only [vz, tyf, xP, qh, uz, D5, nm, seval]
  obtain rfl := kF _ h
  exact bz Tryz.results3 rfl
 simp only [gN, hs] at h
 try simp only [vz, tyf, eA, fO, bF, bN, b9, cq, ca, fB, fC, ib, gN, nm, seval]
 obtain rfl := kF _ h
 exact bz Tryz.results3 rfl
theorem Mt (s : GLs) (h : FineS s) : Dz s = some (if sheetB s then 0 else 2) := by
 simp only [Dz, CL s h, Option.bind_some]
 cases sheetB s <;> rfl
theorem Wq (s : GLs) (x : GLx) (k : Int) (h : FineS s) (hx : lenOk x.Out = true ∧ lenOk x.Ends = true) : FX s x k = some true := by
 obtain ⟨b, hb⟩ := Lv s h.2.2.1
 have e2 : D0 x = some (decide ((x.Out.length : Int) ≤ 6) && decide ((x.Ends.length : Int) ≤ 10)) := by
  unfold D0
  cases decide ((x.Out.length : Int) ≤ 6) <;> rfl
 unfold FX
 rw [hb, e2]
 simp only [Option.bind_some]
 cases b with
 | false => rfl
 | true =>
  rw [cond_true]
  cases (decide ((x.Out.length : Int) ≤ 6) && decide ((x.Ends.length : Int) ≤ 10)) with
  | false => rfl
  | true =>
   simp only [cond_true, Mt s h, Option.bind_some, Mu s h]
   cases hs : sheetB s with
   | false =>
    simp only [v9, CL s h, hs, Option.bind_some, cond_false]
    rfl
   | true =>
    have hsh := sh_of hs
    have is := TR hsh x hx.1 hx.2
    have rs := Mv hsh x hx.1 hx.2
    cases hset : (outB s x.Out && areE x.Ends (possL x.Out s.Words 0)) with
    | false =>
     rw [show (outB s x.Out && areE x.Ends (poss s x.Out)) = false from hset] at is
     rw [hset] at rs
     simp only [v9, CL s h, hs, Option.bind_some, cond_true, is, rs, cond_false]
     rfl
    | true =>
     rw [hset] at rs
     simp only [Bool.and_eq_true] at hset
     have g : Good s x := ⟨h, hs, hset.1, (CK _ _ (xq hsh x.Out)).1 hset.2, hx.1, hx.2⟩
     cases hk : inB 0 10 k with
     | false =>
      simp only [v9, CL s h, hs, Option.bind_some, cond_true, g.is, rs, TO, TP, hk, cond_false]
      rfl
     | true =>
      have tu := hk
      simp only [inB, Bool.and_eq_true, decide_eq_true_eq] at tu
      have hn := Lx g
      simp only [Lw g tu.1 tu.2, XS g tu.1 tu.2, rs, TP, hk, Option.bind_some, cond_true]
      rw [Mq _ (oV (by rw [TM]; omega))]
      rfl
end Go.V
end
