/- Part of a proof. -/
import Derived.Test.YtlkognggeadanaaGreatDoorGbl
set_option linter.all false
set_option maxRecDepth 4000
set_option maxHeartbeats 40000000
section
namespace Go.V
open Go Go.Proofs IntKind
section
variable {K V : Type} {q : K → K → Bool} {z : V}
def hasR (q : K → K → Bool) (k : K) : List (K × V) → Bool
 | [] => false
 | e :: l => q k e.1 || hasR q k l
theorem Hq (k : K) : ∀ l : List (K × V), mapHas q l k = hasR q k l
 | [] => rfl
 | e :: l => by
  have ih := Hq k l
  unfold mapHas at ih ⊢
  rw [List.map_cons]
  unfold kIdx hasR
  cases hq : q k e.1 with
  | true => rfl
  | false =>
   simp only [cond_false, Bool.false_or]
   rw [CD, Option.isSome_map, ih]
theorem zz (hq : ∀ a b, q a b = true ↔ a = b) (k k' : K) (v : V) : ∀ l : List (K × V), hasR q k' (setR q k v l) = (q k' k || hasR q k' l)
 | [] => by simp [setR, hasR]
 | e :: l => by
  have ih := zz hq k k' v l
  unfold setR
  cases he : q k e.1 with
  | true =>
   have e1 := (hq _ _).1 he
   simp only [if_true, hasR, ← e1]
   cases q k' k <;> simp
  | false =>
   simp only [Bool.false_eq_true, if_false, hasR, ih]
   cases q k' e.1 <;> cases q k' k <;> simp
end
theorem CE (a b : Glp) : dV a b = true ↔ a = b := ⟨sC a b, fun h => by rw [h]; exact uy b⟩
def lastP (l r : Int) : List GLp → Option GSpan → Option GSpan
 | [], a => a
 | p :: ps, a => lastP l r ps (if l = p.Left ∧ r = p.Right then some p.Space else a)
def MapOk (m : List (Glp × GSpan)) (A : Int → Int → Option GSpan) : Prop := ∀ l r, mapHas dV m (Glp.mk l r) = (A l r).isSome ∧ ∀ v, A l r = some v → mapGet dV (GSpan.mk 0 0) m (Glp.mk l r) = v
theorem z1 : ∀ (ps : List GLp) (i : Int) (m : List (Glp × GSpan)) (A : Int → Int → Option GSpan), MapOk m A → ∃ m', wF ps i m = some (.go m') ∧ MapOk m' (fun l r => lastP l r ps (A l r))
 | [], i, m, A, h => ⟨m, rfl, h⟩
 | p :: ps, i, m, A, h => by
  simp only [wF]
  obtain ⟨m', h1, h2⟩ := z1 ps (i + 1) (mapSet dV m (Glp.mk p.Left p.Right) p.Space) (fun l r => if l = p.Left ∧ r = p.Right then some p.Space else A l r) (fun l r => by
   rw [Hq, CF, zz CE, ← Hq, (h l r).1, ← CF, Hr CE]
   by_cases hk : l = p.Left ∧ r = p.Right
   ·have : dV (Glp.mk l r) (Glp.mk p.Left p.Right) = true := (CE _ _).2 (by rw [hk.1, hk.2])
    rw [this]
    simp only [if_pos hk]
    simp
   ·have : dV (Glp.mk l r) (Glp.mk p.Left p.Right) = false := by
     cases hh : dV (Glp.mk l r) (Glp.mk p.Left p.Right) with
     | false => rfl
     | true =>
      have := (CE _ _).1 hh
      simp only [Glp.mk.injEq] at this
      exact absurd this hk
    rw [this]
    simp only [if_neg hk]
    simpa using (h l r).2)
  exact ⟨m', h1, h2⟩
abbrev FL := GLe × Int × Bool
def letW (i : Int) (al : Int) : List Int → Int → List FL
 | [], _ => []
 | c :: cs, k => (GLe.mk i (k + 1), c, decide (k + 1 < al)) :: letW i al cs (k + 1)
def ltrsL (out : List Int) : List GLw → Int → List FL
 | [], _ => []
 | w :: ws, i => cond (out.contains i) (ltrsL out ws (i + 1)) (letW i (w.Signs.length : Int) w.Signs 0 ++ ltrsL out ws (i + 1))
def AL : List GLe → List FL → Prop
 | [], [] => True
 | [], _ :: _ => False
 | _ :: _, [] => False
 | e :: es, f :: fl => if e = f.1 then AL es fl else AL (e :: es) fl
def mkS : List GLe → List FL → Int → List Glm × List GLe × Int
 | es, [], r => ([], es, r)
 | [], _ :: _, r => ([], [], r)
 | e :: es, f :: fl, r => if e = f.1 then (Glm.mk f.1.Word f.2.1 r f.2.2 :: (mkS es fl (r + 1)).1, (mkS es fl (r + 1)).2) else (Glm.mk f.1.Word f.2.1 r false :: (mkS (e :: es) fl r).1, (mkS (e :: es) fl r).2)
theorem roomOk32 {n : Nat} (h : n ≤ 1000) : aC 32 n = true := by simp [aC]; omega
theorem uz (x : GLx) (hl : x.Ends.length < 1000000) (i : Int) (w : GLw) : ∀ (cs : List Int) (k r : Int) (acc : List Glm) (es : List GLe) (fl : List FL), 0 ≤ k → k + cs.length ≤ 1000 → 0 ≤ r → r + es.length = x.Ends.length → x.Ends.drop r.toNat = es → AL es (letW i (w.Signs.length : Int) cs k ++ fl) → acc.length + cs.length ≤ 1000 →
  mO x i w cs k r acc = some (.go ((mkS es (letW i (w.Signs.length : Int) cs k) r).2.2, acc ++ (mkS es (letW i (w.Signs.length : Int) cs k) r).1)) ∧ AL (mkS es (letW i (w.Signs.length : Int) cs k) r).2.1 fl ∧ 0 ≤ (mkS es (letW i (w.Signs.length : Int) cs k) r).2.2 ∧ (mkS es (letW i (w.Signs.length : Int) cs k) r).2.2 + (mkS es (letW i (w.Signs.length : Int) cs k) r).2.1.length = x.Ends.length ∧ x.Ends.drop (mkS es (letW i (w.Signs.length : Int) cs k) r).2.2.toNat = (mkS es (letW i (w.Signs.length : Int) cs k) r).2.1 ∧ (mkS es (letW i (w.Signs.length : Int) cs k) r).1.length = cs.length
 | [], k, r, acc, es, fl, _, _, h0, h1, h2, h3, _ => by
  cases es <;> exact ⟨by simp [mO, letW, mkS], h3, h0, h1, h2, rfl⟩
 | c :: cs, k, r, acc, es, fl, oE, hk, h0, h1, h2, h3, h4 => by
  simp only [List.length_cons] at h4 hk
  cases es with
  | nil => exact h3.elim
  | cons e es =>
   have hg : getI x.Ends r = some e := dZ h0 h2
   simp only [List.length_cons] at h1
   simp only [mO, hg, Option.bind_some]
   rw [wx e (GLe.mk i (k + 1)), ka (by omega) (by omega)]
   simp only [letW, List.cons_append] at h3 ⊢
   unfold AL at h3
   unfold mkS
   by_cases he : e = GLe.mk i (k + 1)
   ·simp only [he, if_true] at h3 ⊢
    simp only [decide_true, cond_true]
    rw [roomOk32 (by simp; omega), cond_true]
    obtain ⟨q1, q2, q3, q4, q5, q6⟩ := uz x hl i w cs (k + 1) (r + 1) (acc ++ [Glm.mk i c r (decide (k + 1 < (w.Signs.length : Int)))]) es fl (by omega) (by omega) (by omega) (by omega) (bW h0 h2) h3 (by simp; omega)
    refine ⟨?_, q2, q3, q4, q5, by simp [q6]⟩
    rw [q1]
    simp
   ·simp only [if_neg he] at h3 ⊢
    rw [decide_eq_false he, cond_false, roomOk32 (by simp; omega), cond_true]
    obtain ⟨q1, q2, q3, q4, q5, q6⟩ := uz x hl i w cs (k + 1) r (acc ++ [Glm.mk i c r false]) (e :: es) fl (by omega) (by omega) h0 (by simp only [List.length_cons]; omega) h2 h3 (by simp; omega)
    refine ⟨?_, q2, q3, q4, q5, by simp [q6]⟩
    rw [q1]
    simp
theorem z2 {e : GLe} {f : FL} {es : List GLe} {fl : List FL} {r : Int} (h : e = f.1) : mkS (e :: es) (f :: fl) r = (Glm.mk f.1.Word f.2.1 r f.2.2 :: (mkS es fl (r + 1)).1, (mkS es fl (r + 1)).2) := by
 rw [mkS, if_pos h]
theorem z3 {e : GLe} {f : FL} {es : List GLe} {fl : List FL} {r : Int} (h : ¬ e = f.1) : mkS (e :: es) (f :: fl) r = (Glm.mk f.1.Word f.2.1 r false :: (mkS (e :: es) fl r).1, (mkS (e :: es) fl r).2) := by
 rw [mkS, if_neg h]
theorem u4 : ∀ (a b : List FL) (es : List GLe) (r : Int), AL es (a ++ b) → (mkS es (a ++ b) r).1 = (mkS es a r).1 ++ (mkS (mkS es a r).2.1 b (mkS es a r).2.2).1 ∧ (mkS es (a ++ b) r).2 = (mkS (mkS es a r).2.1 b (mkS es a r).2.2).2
 | [], b, es, r, _ => by cases es <;> simp [mkS]
 | f :: a, b, [], r, h => h.elim
 | f :: a, b, e :: es, r, h => by
  rw [List.cons_append] at h ⊢
  unfold AL at h
  by_cases he : e = f.1
  ·rw [if_pos he] at h
   obtain ⟨h1, h2⟩ := u4 a b es (r + 1) h
   rw [z2 he, z2 he]
   simp only [h1, h2, List.cons_append, and_self]
  ·rw [if_neg he] at h
   obtain ⟨h1, h2⟩ := u4 a b (e :: es) r h
   rw [z3 he, z3 he]
   simp only [h1, h2, List.cons_append, and_self]
theorem z4 (i al : Int) : ∀ (cs : List Int) (k : Int), (letW i al cs k).length = cs.length
 | [], _ => rfl
 | c :: cs, k => by simp [letW, z4 i al cs]
theorem u5 (x : GLx) (ho : lenOk x.Out = true) (hl : x.Ends.length < 1000000) : ∀ (ws : List GLw) (i r : Int) (acc : List Glm) (es : List GLe), (∀ w ∈ ws, w.Signs.length ≤ 6) → 0 ≤ r → r + es.length = x.Ends.length → x.Ends.drop r.toNat = es → AL es (ltrsL x.Out ws i) → acc.length + 6 * ws.length ≤ 1000 →
  qC x ws i r acc = some (.go ((mkS es (ltrsL x.Out ws i) r).2.2, acc ++ (mkS es (ltrsL x.Out ws i) r).1))
 | [], i, r, acc, es, _, _, _, _, h3, _ => by
  cases es with
  | nil => simp [qC, ltrsL, mkS]
  | cons e es => exact h3.elim
 | w :: ws, i, r, acc, es, hw, h0, h1, h2, h3, h4 => by
  simp only [List.length_cons] at h4
  have Cb := hw w (qZb ..)
  have QK : ∀ v ∈ ws, v.Signs.length ≤ 6 := fun v hv => hw v (qZa _ hv)
  simp only [qC, QD _ _ ho, Option.bind_some]
  unfold ltrsL at h3 ⊢
  cases hc : x.Out.contains i with
  | true =>
   rw [hc] at h3
   simp only [cond_true] at h3 ⊢
   exact u5 x ho hl ws (i + 1) r acc es QK h0 h1 h2 h3 (by omega)
  | false =>
   rw [hc] at h3
   simp only [cond_false] at h3 ⊢
   obtain ⟨q1, q2, q3, q4, q5, q6⟩ := uz x hl i w w.Signs 0 r acc es (ltrsL x.Out ws (i + 1)) (by omega) (by omega) h0 h1 h2 h3 (by omega)
   obtain ⟨a1, a2⟩ := u4 _ _ es r h3
   rw [ny (by omega), cond_true, q1, oH, u5 x ho hl ws (i + 1) _ _ _ QK q3 q4 q5 q2 (by simp only [List.length_append, q6]; omega), a1, a2]
   simp
theorem CG {i al : Int} {f : FL} : ∀ {cs : List Int} {k : Int}, f ∈ letW i al cs k → f.1.Word = i ∧ k + 1 ≤ f.1.Letters ∧ f.1.Letters ≤ k + cs.length ∧ f.2.1 ∈ cs ∧ f.2.2 = decide (f.1.Letters < al)
 | [], _, h => by cases h
 | c :: cs, k, h => by
  rcases List.mem_cons.1 h with rfl | h
  ·exact ⟨rfl, qZf _, by simp; omega, qZb .., rfl⟩
  ·obtain ⟨h1, h2, h3, h4, h5⟩ := CG h
   exact ⟨h1, by omega, by simp only [List.length_cons]; omega, qZa _ h4, h5⟩
theorem Hs {i al : Int} : ∀ (cs : List Int) (k : Int) (n : Int), k + 1 ≤ n → n ≤ k + cs.length → GLe.mk i n ∈ (letW i al cs k).map (·.1)
 | [], k, n, h1, h2 => by simp at h2; omega
 | c :: cs, k, n, h1, h2 => by
  simp only [List.length_cons] at h2
  simp only [letW, List.map_cons]
  by_cases h : n = k + 1
  ·rw [h]; exact qZb ..
  ·exact qZa _ (Hs cs (k + 1) n (by omega) (by omega))
theorem z5 {i al : Int} : ∀ (cs : List Int) (k : Int), ((letW i al cs k).map (·.1)).Pairwise befE
 | [], _ => List.Pairwise.nil
 | c :: cs, k => by
  simp only [letW, List.map_cons, List.pairwise_cons]
  refine ⟨fun x hx => ?_, z5 cs (k + 1)⟩
  obtain ⟨f, hf, rfl⟩ := List.mem_map.1 hx
  obtain ⟨h1, h2, _⟩ := CG hf
  exact .inr ⟨h1.symm, by show k + 1 < _; omega⟩
theorem CH {out : List Int} {f : FL} : ∀ {ws : List GLw} {i : Int}, f ∈ ltrsL out ws i → i ≤ f.1.Word ∧ ∃ w ∈ ws, f.2.1 ∈ w.Signs
 | [], _, h => by cases h
 | w :: ws, i, h => by
  unfold ltrsL at h
  cases hc : out.contains i with
  | true =>
   rw [hc, cond_true] at h
   obtain ⟨h1, v, h2, h3⟩ := CH h
   exact ⟨by omega, v, qZa _ h2, h3⟩
  | false =>
   rw [hc, cond_false] at h
   rcases List.mem_append.1 h with h | h
   ·obtain ⟨h1, _, _, h4, _⟩ := CG h
    exact ⟨by omega, w, qZb .., h4⟩
   ·obtain ⟨h1, v, h2, h3⟩ := CH h
    exact ⟨by omega, v, qZa _ h2, h3⟩
theorem u6 (out : List Int) : ∀ (ws : List GLw) (i : Int), ((ltrsL out ws i).map (·.1)).Pairwise befE
 | [], _ => List.Pairwise.nil
 | w :: ws, i => by
  unfold ltrsL
  cases out.contains i with
  | true => exact u6 out ws (i + 1)
  | false =>
   rw [cond_false, List.map_append, List.pairwise_append]
   refine ⟨z5 _ _, u6 out ws (i + 1), fun a ha b hb => ?_⟩
   obtain ⟨f, hf, rfl⟩ := List.mem_map.1 ha
   obtain ⟨g, hg, rfl⟩ := List.mem_map.1 hb
   have h1 := (CG hf).1
   have h2 := (CH hg).1
   left; omega
theorem z6 (out : List Int) : ∀ (ws : List GLw) (i : Int), (∀ w ∈ ws, 1 ≤ w.Signs.length ∧ ∀ c ∈ w.Cuts, 1 ≤ c ∧ c < (w.Signs.length : Int)) → ∀ e ∈ possL out ws i, e ∈ (ltrsL out ws i).map (·.1)
 | [], _, _, e, he => by simp [possL] at he
 | w :: ws, i, h, e, he => by
  have hw := h w (qZb ..)
  have ih := z6 out ws (i + 1) (fun v hv => h v (qZa _ hv)) e
  unfold possL at he
  unfold ltrsL
  cases hc : out.contains i with
  | true => rw [hc, cond_true] at he; exact ih he
  | false =>
   rw [hc, cond_false] at he
   rw [cond_false, List.map_append, List.mem_append]
   rcases List.mem_append.1 he with he | he
   ·left
    obtain ⟨h1, h2⟩ := wE.1 he
    obtain ⟨a, b⟩ := e
    subst h1
    rcases h2 with h2 | h2
    ·have := hw.2 _ h2
     exact Hs _ _ _ (by simp only at this ⊢; omega) (by simp only at this ⊢; omega)
    ·simp only at h2
     subst h2
     exact Hs _ _ _ (by omega) (by omega)
   ·exact .inr (ih he)
theorem QL (i al : Int) : ∀ (cs : List Int) (k : Int), cs ≠ [] → ((letW i al cs k).map (·.1)).getLast? = some (GLe.mk i (k + cs.length))
 | [], _, h => absurd rfl h
 | [c], k, _ => by simp [letW]
 | c :: d :: cs, k, _ => by
  have ih := QL i al (d :: cs) (k + 1) (by simp)
  rw [letW, List.map_cons, List.getLast?_cons, ih]
  simp only [List.length_cons, Option.getD_some, Option.some.injEq, GLe.mk.injEq, true_and]
  omega
theorem QM (out : List Int) : ∀ (ws : List GLw) (i : Int), (∀ w ∈ ws, 1 ≤ w.Signs.length) → ((ltrsL out ws i).map (·.1)).getLast? = (possL out ws i).getLast?
 | [], _, _ => rfl
 | w :: ws, i, h => by
  have hw := h w (qZb ..)
  have ih := QM out ws (i + 1) fun v hv => h v (qZa _ hv)
  unfold ltrsL possL
  cases out.contains i with
  | true => exact ih
  | false =>
   have hne : w.Signs ≠ [] := by intro h; rw [h] at hw; simp at hw
   simp only [cond_false, List.map_append, List.getLast?_append, ih, QL _ _ _ _ hne]
   congr 1
   simp [posW]
theorem AL_of : ∀ (es : List GLe) (fl : List FL), es.Pairwise befE → (fl.map (·.1)).Pairwise befE → (∀ e ∈ es, e ∈ fl.map (·.1)) → es.getLast? = (fl.map (·.1)).getLast? → AL es fl
 | [], [], _, _, _, _ => trivial
 | [], f :: fl, _, _, _, h => by simp [List.getLast?_cons] at h
 | e :: es, [], _, _, h, _ => by have := h e (qZb ..); cases this
 | e :: es, f :: fl, h1, h2, h3, h4 => by
  rw [List.map_cons, List.pairwise_cons] at h2
  unfold AL
  by_cases he : e = f.1
  ·rw [if_pos he]
   rw [List.pairwise_cons] at h1
   refine AL_of es fl h1.2 h2.2 (fun x hx => ?_) ?_
   ·rcases List.mem_cons.1 (h3 x (qZa _ hx)) with h | h
    ·have := h1.1 x hx
     have h' : x = f.1 := h
     rw [h', ← he] at this
     exact absurd this od
    ·exact h
   ·rw [List.map_cons, List.getLast?_cons, List.getLast?_cons, Option.some.injEq] at h4
    cases hp : es.getLast? with
    | none =>
     rw [hp] at h4
     cases hr : (fl.map (·.1)).getLast? with
     | none => rfl
     | some y =>
      rw [hr] at h4
      simp only [Option.getD_none, Option.getD_some] at h4
      have := h2.1 _ (List.mem_of_getLast? hr)
      rw [← h4, he] at this
      exact absurd this od
    | some z =>
     rw [hp] at h4
     cases hr : (fl.map (·.1)).getLast? with
     | none =>
      rw [hr] at h4
      simp only [Option.getD_none, Option.getD_some] at h4
      have := h1.1 _ (List.mem_of_getLast? hp)
      rw [h4, he] at this
      exact absurd this od
     | some y =>
      rw [hr] at h4
      simp only [Option.getD_some] at h4
      rw [h4]
  ·rw [if_neg he]
   have hbe : befE f.1 e := by
    rcases List.mem_cons.1 (h3 e (qZb ..)) with h | h
    ·exact absurd h he
    ·exact h2.1 e h
   refine AL_of (e :: es) fl h1 h2.2 (fun x hx => ?_) ?_
   ·rcases List.mem_cons.1 (h3 x hx) with h | h
    ·exfalso
     rcases List.mem_cons.1 hx with hx | hx
     ·exact he (by rw [← hx, h])
     ·have := (List.pairwise_cons.1 h1).1 x hx
      rw [h] at this
      exact od (BY hbe this)
    ·exact h
   ·rw [h4, List.map_cons, List.getLast?_cons]
    cases hr : (fl.map (·.1)).getLast? with
    | none =>
     exfalso
     have := List.getLast?_eq_none_iff.1 hr
     rcases List.mem_cons.1 (h3 e (qZb ..)) with h | h
     ·exact he h
     ·rw [this] at h; cases h
    | some y => rfl
end Go.V
end
section
namespace Go.V
open Go Go.Proofs IntKind
section
variable {P : Program} {G : Glob} {γ : Nat} {tm : Nat → VV} {H : Nat → Option VObj} {α : Type} {enc : α → List VV} {z : α} {t e b : Nat} {n : Int} {v : Value} {x y : Operand} {d : Option Tmp} {ty : TypeId} {pos : String} {af : Array Edge} {g : Option (Nat × Bool)} {k : VV → VEff → Prop}
end
end Go.V
end
section
namespace Go.V
open Go Go.Proofs IntKind
def sD (aq : Gld) (bF : GSpan) : Option (Int) := some (i64.wrap (bF.Low + (i64.wrap (Int.tdiv (i64.wrap ((i64.wrap (bF.High - bF.Low)) * aq.stretch)) 10))))
theorem CI (aq : Gld) (bF : GSpan) (R : Int) (h : sD aq bF = some R) : ad Tryz.prog G0 170 [.agg (cGld aq), .agg (cGSpan bF)] (.tree (.lit (.int .i64 R))) := by
 refine ad.runR mixed Tryz.call170 Tryz.func170 rfl (by simp [Tryz.ntmps170]; kernel_rfl) ?_
 obtain ⟨KF, h, kF, kN⟩ := dC h
 simp only [sD] at h
 try simp only [vz, mq, mqm, qr, tyf, mqt, nm, seval]
 refine cX (x := (.lit (.int .i64 (i64.wrap (bF.Low + (i64.wrap (Int.tdiv (i64.wrap ((i64.wrap (bF.High - bF.Low)) * aq.stretch)) 10))))))) (by first | (simp only [Tryz.results170, resV, resL, aG, d6, dA, uw, cr, tyf, mqt, nm, seval] <;> rfl) | rfl) ?_
 obtain rfl := kF _ h
 refine dB ?_ ?_
 ·simp only [tre, ar, mqr, Bool.and_self]
 ·first | (simp only [outV, uw, eF, kc, jE, cr, tyf, mqt, nrm, an, nm, seval] <;> rfl) | rfl
def z7 (aq : Gld) (aB : Int) : Option (Int) := Option.bind (getI aq.marks aB) (fun x1 => cond (x1.hyphen) (Option.bind (sD aq aq.ls.Other) (fun r2 => some r2)) (cond ((i64.wrap (aB + 1)) == (List.length aq.marks : Int)) (some 0) (Option.bind (getI aq.marks (i64.wrap (aB + 1))) (fun x3 => cond (x3.row != x1.row) (some 0) (cond (x3.word != x1.word) (Option.bind (sD aq aq.ls.Gap) (fun r4 => some r4)) (cond (mapHas dV aq.spaces (Glp.mk x1.sign x3.sign)) (Option.bind (sD aq (mapGet dV (GSpan.mk 0 0) aq.spaces (Glp.mk x1.sign x3.sign))) (fun r5 => some r5)) (Option.bind (sD aq aq.ls.Other) (fun r6 => some r6))))))))
theorem QN (aq : Gld) (aB : Int) (R : Int) (h : z7 aq aB = some R) : ad Tryz.prog G0 153 [.agg (cGld aq), .lit (.int .i64 aB)] (.tree (.lit (.int .i64 R))) := by
 refine ad.runR mixed Tryz.call153 Tryz.func153 rfl (by simp [Tryz.ntmps153]; kernel_rfl) ?_
 obtain ⟨KF, h, kF, kN⟩ := dC h
 simp only [z7] at h
 obtain ⟨x7, o8, h⟩ := optI h kN
 try simp only [hs] at h
 cases d9 : (x7.hyphen)
 ·simp only [d9, hs] at h
  cases cm : ((i64.wrap (aB + 1)) == (List.length aq.marks : Int))
  ·simp only [cm, hs] at h
   obtain ⟨CJ, iz, h⟩ := optI h kN
   try simp only [hs] at h
   cases br : (CJ.row != x7.row)
   ·simp only [br, hs] at h
    cases bQ : (CJ.word != x7.word)
    ·simp only [bQ, hs] at h
     cases eh : (mapHas dV aq.spaces (Glp.mk x7.sign CJ.sign))
     ·simp only [eh, hs] at h
      obtain ⟨s9, zk, h⟩ := optI h kN
      try simp only [hs] at h
      simp only [vz, mq, mqm, tyf, mqt, (bl o8), d9, cm, (bl iz), br, bQ, eh, nm, seval]
      refine ktree (args0 := [.agg (cGld aq), .agg (cGSpan aq.ls.Other)]) (by first | (simp only [nrm, an, @yw, tyf, mqt, d9, cm, br, bQ, eh] <;> rfl) | rfl) (by simp only [tre, ar, mqr, Bool.and_self]) (CI _ _ _ zk) ?_
      refine bw (fun tm => tm 67 = .lit (.int .i64 s9) ∧ True) (by refine ⟨?_, trivial⟩ <;> first | (simp only [ua, ct, d9, cm, br, bQ, eh, nm, seval] <;> rfl) | rfl | (simp only [ua, ct, tyf, mqt, d9, cm, br, bQ, eh, nm, seval] <;> rfl)) ?_
      rintro tm ⟨cj, _⟩
      try simp only [vz, mq, mqm, tyf, mqt, (bl o8), d9, cm, (bl iz), br, bQ, eh, cj, nm, seval]
      refine cX (x := (.lit (.int .i64 s9))) (by first | (simp only [Tryz.results153, resV, resL, aG, d6, dA, uw, cr, tyf, mqt, (bl o8), d9, cm, (bl iz), br, bQ, eh, nm, seval] <;> rfl) | rfl) ?_
      obtain rfl := kF _ h
      refine dB ?_ ?_
      ·simp only [tre, ar, mqr, Bool.and_self]
      ·first | (simp only [outV, uw, eF, kc, jE, cr, tyf, mqt, nrm, an, (bl o8), d9, cm, (bl iz), br, bQ, eh, cj, nm, seval] <;> rfl) | rfl
     simp only [eh, hs] at h
     obtain ⟨mg, k8, h⟩ := optI h kN
     try simp only [hs] at h
     simp only [vz, mq, mqm, tyf, mqt, (bl o8), d9, cm, (bl iz), br, bQ, eh, nm, seval]
     refine ktree (args0 := [.agg (cGld aq), .agg (cGSpan (mapGet dV (GSpan.mk 0 0) aq.spaces (Glp.mk x7.sign CJ.sign)))]) (by first | (simp only [nrm, an, @yw, tyf, mqt, d9, cm, br, bQ, eh] <;> rfl) | rfl) (by simp only [tre, ar, mqr, Bool.and_self]) (CI _ _ _ k8) ?_
     refine bw (fun tm => tm 62 = .lit (.int .i64 mg) ∧ True) (by refine ⟨?_, trivial⟩ <;> first | (simp only [ua, ct, d9, cm, br, bQ, eh, nm, seval] <;> rfl) | rfl | (simp only [ua, ct, tyf, mqt, d9, cm, br, bQ, eh, nm, seval] <;> rfl)) ?_
     rintro tm ⟨dQ, _⟩
     try simp only [vz, mq, mqm, tyf, mqt, (bl o8), d9, cm, (bl iz), br, bQ, eh, dQ, nm, seval]
     refine cX (x := (.lit (.int .i64 mg))) (by first | (simp only [Tryz.results153, resV, resL, aG, d6, dA, uw, cr, tyf, mqt, (bl o8), d9, cm, (bl iz), br, bQ, eh, nm, seval] <;> rfl) | rfl) ?_
     obtain rfl := kF _ h
     refine dB ?_ ?_
     ·simp only [tre, ar, mqr, Bool.and_self]
     ·first | (simp only [outV, uw, eF, kc, jE, cr, tyf, mqt, nrm, an, (bl o8), d9, cm, (bl iz), br, bQ, eh, dQ, nm, seval] <;> rfl) | rfl
    simp only [bQ, hs] at h
    obtain ⟨zb, oY, h⟩ := optI h kN
    try simp only [hs] at h
    simp only [vz, mq, mqm, tyf, mqt, (bl o8), d9, cm, (bl iz), br, bQ, nm, seval]
    refine ktree (args0 := [.agg (cGld aq), .agg (cGSpan aq.ls.Gap)]) (by first | (simp only [nrm, an, @yw, tyf, mqt, d9, cm, br, bQ] <;> rfl) | rfl) (by simp only [tre, ar, mqr, Bool.and_self]) (CI _ _ _ oY) ?_
    refine bw (fun tm => tm 47 = .lit (.int .i64 zb) ∧ True) (by refine ⟨?_, trivial⟩ <;> first | (simp only [ua, ct, d9, cm, br, bQ, nm, seval] <;> rfl) | rfl | (simp only [ua, ct, tyf, mqt, d9, cm, br, bQ, nm, seval] <;> rfl)) ?_
    rintro tm ⟨dH, _⟩
    try simp only [vz, mq, mqm, tyf, mqt, (bl o8), d9, cm, (bl iz), br, bQ, dH, nm, seval]
    refine cX (x := (.lit (.int .i64 zb))) (by first | (simp only [Tryz.results153, resV, resL, aG, d6, dA, uw, cr, tyf, mqt, (bl o8), d9, cm, (bl iz), br, bQ, nm, seval] <;> rfl) | rfl) ?_
    obtain rfl := kF _ h
    refine dB ?_ ?_
    ·simp only [tre, ar, mqr, Bool.and_self]
    ·first | (simp only [outV, uw, eF, kc, jE, cr, tyf, mqt, nrm, an, (bl o8), d9, cm, (bl iz), br, bQ, dH, nm, seval] <;> rfl) | rfl
   simp only [br, hs] at h
   try simp only [vz, mq, mqm, tyf, mqt, (bl o8), d9, cm, (bl iz), br, nm, seval]
   refine cX (x := (.lit (.int .i64 0))) (by first | (simp only [Tryz.results153, resV, resL, aG, d6, dA, uw, cr, tyf, mqt, (bl o8), d9, cm, (bl iz), br, nm, seval] <;> rfl) | rfl) ?_
   obtain rfl := kF _ h
   refine dB ?_ ?_
   ·simp only [tre, ar, mqr, Bool.and_self]
   ·first | (simp only [outV, uw, eF, kc, jE, cr, tyf, mqt, nrm, an, (bl o8), d9, cm, (bl iz), br, nm, seval] <;> rfl) | rfl
  simp only [cm, hs] at h
  try simp only [vz, mq, mqm, tyf, mqt, (bl o8), d9, cm, nm, seval]
  refine cX (x := (.lit (.int .i64 0))) (by first | (simp only [Tryz.results153, resV, resL, aG, d6, dA, uw, cr, tyf, mqt, (bl o8), d9, cm, nm, seval] <;> rfl) | rfl) ?_
  obtain rfl := kF _ h
  refine dB ?_ ?_
  ·simp only [tre, ar, mqr, Bool.and_self]
  ·first | (simp only [outV, uw, eF, kc, jE, cr, tyf, mqt, nrm, an, (bl o8), d9, cm, nm, seval] <;> rfl) | rfl
 simp only [d9, hs] at h
 obtain ⟨CK, ke, h⟩ := optI h kN
 try simp only [hs] at h
 simp only [vz, mq, mqm, tyf, mqt, (bl o8), d9, nm, seval]
 refine ktree (args0 := [.agg (cGld aq), .agg (cGSpan aq.ls.Other)]) (by first | (simp only [nrm, an, @yw, tyf, mqt, d9] <;> rfl) | rfl) (by simp only [tre, ar, mqr, Bool.and_self]) (CI _ _ _ ke) ?_
 refine bw (fun tm => tm 20 = .lit (.int .i64 CK) ∧ True) (by refine ⟨?_, trivial⟩ <;> first | (simp only [ua, ct, d9, nm, seval] <;> rfl) | rfl | (simp only [ua, ct, tyf, mqt, d9, nm, seval] <;> rfl)) ?_
 rintro tm ⟨ec, _⟩
 try simp only [vz, mq, mqm, tyf, mqt, (bl o8), d9, ec, nm, seval]
 refine cX (x := (.lit (.int .i64 CK))) (by first | (simp only [Tryz.results153, resV, resL, aG, d6, dA, uw, cr, tyf, mqt, (bl o8), d9, nm, seval] <;> rfl) | rfl) ?_
 obtain rfl := kF _ h
 refine dB ?_ ?_
 ·simp only [tre, ar, mqr, Bool.and_self]
 ·first | (simp only [outV, uw, eF, kc, jE, cr, tyf, mqt, nrm, an, (bl o8), d9, ec, nm, seval] <;> rfl) | rfl
def u7  : List Int → Int → Int → Option (LOut (Int) (Int))
 | [], gP, fp => some (.go fp)
 | e0 :: p0, gP, fp => u7 p0 (gP + 1) (i64.wrap (fp + e0))
def z8 (bj : List Int) : Option (Int) := cond (lenOk bj) (lbind (u7 bj 0 0) (fun r2 => some r2) (fun c1 => some c1) (fun _ _ => none)) none
theorem QO (bj : List Int) (R : Int) (h : z8 bj = some R) : ad Tryz.prog G0 169 [.sl (aa eI bj) (List.length bj) false] (.tree (.lit (.int .i64 R))) := by
 refine ad.runR mixed Tryz.call169 Tryz.func169 rfl (by simp [Tryz.ntmps169]; kernel_rfl) ?_
 obtain ⟨KF, h, kF, kN⟩ := dC h
 simp only [z8] at h
 cases g4 : (lenOk bj)
 ·simp only [g4, hs] at h
  exact absurd h kN
 simp only [g4, hs] at h
 simp only [vz, tyf, g4, nm, seval]
 obtain ⟨K3, h, oP, oh, xJ, xK⟩ := fW h kN
 obtain ⟨f3, oQ, h⟩ := call3 h
 obtain ⟨I3, iJ⟩ : ∃ I : Nat → St → Prop, I = (fun m st => ∃ (p3 : List Int) (bN : Int) (gh : Int), m = List.length p3 ∧ 0 ≤ bN ∧ List.drop (Int.toNat bN) bj = p3 ∧ st.df = [] ∧ 5 ≤ st.nx ∧ st.tm 6 = .sl (aa eI bj) (List.length bj) false ∧ st.tm 7 = .lit (.int .i64 (List.length bj : Int)) ∧ st.tm 3 = .lit (.int .i64 gh) ∧ st.tm 8 = .lit (.int .i64 bN) ∧ K3 (f3 p3 bN gh)) := ⟨_, rfl⟩
 refine loopK mixed (by kernel_rfl) I3 (List.length bj) (by rw [iJ]; refine ⟨bj, 0, 0, rfl, qZf _, rfl, rfl, (show 5 ≤ 5 by omega), ?_, ?_, ?_, ?_, h⟩ <;> first | (simp only [ua, nm, seval] <;> rfl) | rfl) ?_
 rintro m ⟨tm, H, kI, df⟩ hinv
 rw [iJ] at hinv
 obtain ⟨p3, bN, gh, rfl, eG, fj, hdf, oR, e5, e6, e7, e8, h⟩ := hinv
 simp only at hdf oR e5 e6 e7 e8
 have n9 := fX (m := 5) (b := kI) (by omega)
 subst hdf oQ
 cases p3 with
 | nil =>
  have cm : (decide (bN < (List.length bj : Int))) = false := fc eG fj
  simp only [u7, hs, reduceCtorEq] at h
  replace h := oh _ h
  try dsimp only at h
  try simp only [hs] at h
  try simp only [vz, tyf, g4, n9, e5, e6, e7, e8, cm, nm, seval]
  refine cX (x := (.lit (.int .i64 gh))) (by first | (simp only [Tryz.results169, resV, resL, aG, d6, dA, uw, cr, tyf, g4, n9, cm, nm, seval] <;> rfl) | rfl) ?_
  obtain rfl := kF _ h
  refine dB ?_ ?_
  ·simp only [tre, ar, Bool.and_self]
  ·first | (simp only [outV, uw, eF, cr, tyf, nrm, an, g4, n9, e5, e6, e7, e8, cm, nm, seval] <;> rfl) | rfl
 | cons e3 p3 =>
  have eR : (decide (bN < (List.length bj : Int))) = true := fb eG fj
  have nk := dZ eG fj
  have m6 := fe eG fj g4
  simp only [u7, hs, reduceCtorEq] at h
  simp only [vz, tyf, g4, n9, e5, e6, e7, e8, eR, (aA nk), m6, nm, seval]
  exact ⟨List.length p3, qZc _, by rw [iJ]; refine ⟨p3, bN + 1, i64.wrap (gh + e3), rfl, Int.le_trans eG (Int.le_add_one (qZf _)), bW eG fj, rfl, (show 5 ≤ kI + 10 by omega), e5, e6, ?_, ?_, (by first | exact h | (simp only [eR]; exact h))⟩ <;> first | (simp only [ua, n9, e5, e6, e7, e8, eR, m6, nm, seval] <;> rfl) | rfl⟩
def pq (aq : Gld) (bA : Int) : List Glm → Int → (List Int) → Option (LOut (Int) ((List Int)))
 | [], im, bE => some (.go bE)
 | e0 :: p0, im, bE => cond (e0.row != bA) (pq aq bA p0 (im + 1) bE) (Option.bind (getI aq.ls.Widths e0.sign) (fun x1 => Option.bind (z7 aq im) (fun r2 => cond (aC 8 (List.length (bE ++ [x1, r2]))) (cond (e0.hyphen) (cond (aC 8 (List.length ((bE ++ [x1, r2]) ++ [aq.ls.Hyphen]))) (pq aq bA p0 (im + 1) ((bE ++ [x1, r2]) ++ [aq.ls.Hyphen])) none) (pq aq bA p0 (im + 1) (bE ++ [x1, r2]))) none)))
def z9 (aq : Gld) (bA : Int) : Option (Int) := cond (lenOk aq.marks) (lbind (pq aq bA aq.marks 0 ([] : List Int)) (fun r5 => some r5) (fun c3 => Option.bind (z8 c3) (fun r4 => some r4)) (fun _ _ => none)) none
theorem UP (aq : Gld) (bA : Int) (R : Int) (h : z9 aq bA = some R) : ad Tryz.prog G0 152 [.agg (cGld aq), .lit (.int .i64 bA)] (.tree (.lit (.int .i64 R))) := by
 refine ad.runR mixed Tryz.call152 Tryz.func152 rfl (by simp [Tryz.ntmps152]; kernel_rfl) ?_
 obtain ⟨KF, h, kF, kN⟩ := dC h
 simp only [z9] at h
 cases g7 : (lenOk aq.marks)
 ·simp only [g7, hs] at h
  exact absurd h kN
 simp only [g7, hs] at h
 simp only [vz, mq, mqm, tyf, mqt, g7, nm, seval]
 obtain ⟨K6, h, uc, ra, GR, iu⟩ := fW h kN
 obtain ⟨f6, ud, h⟩ := call3 h
 obtain ⟨I6, ik⟩ : ∃ I : Nat → St → Prop, I = (fun m st => ∃ (p6 : List Glm) (bX : Int) (bp : List Int) (jV : VV), m = List.length p6 ∧ 0 ≤ bX ∧ List.drop (Int.toNat bX) aq.marks = p6 ∧ st.df = [] ∧ 7 ≤ st.nx ∧ st.H 0 = some (.cells (some 93) (cGld aq)) ∧ st.tm 1 = .lit (.int .i64 bA) ∧ st.tm 2 = .ptr 0 0 ∧ st.tm 9 = .sl (aa cGlm aq.marks) (List.length aq.marks) false ∧ st.tm 10 = .lit (.int .i64 (List.length aq.marks : Int)) ∧ st.tm 5 = jV ∧ st.tm 11 = .lit (.int .i64 bX) ∧ ((∃ (β : Nat) (el : Option TypeId), jV = .ref β 0 (List.length bp) 1 (List.length bp) ∧ β < st.nx ∧ β ≠ 0 ∧ st.H β = some (.cells el (aa eI bp))) ∨ (jV = .lit (.slice none 0 0) ∧ bp = [])) ∧ K6 (f6 p6 bX bp)) := ⟨_, rfl⟩
 refine loopK mixed (by kernel_rfl) I6 (List.length aq.marks) (by rw [ik]; refine ⟨aq.marks, 0, ([] : List Int), .lit (.slice none 0 0), rfl, qZf _, rfl, rfl, (show 7 ≤ 7 by omega), ?_, ?_, ?_, ?_, ?_, ?_, ?_, Or.inr ⟨rfl, rfl⟩, h⟩ <;> first | (simp only [ua, ct, nm, seval] <;> rfl) | rfl) ?_
 rintro m ⟨tm, H, ez, df⟩ hinv
 rw [ik] at hinv
 obtain ⟨p6, bX, bp, jV, rfl, cK, eA, hdf, oe, H8, e9, aZ, bc, bT, bC, cG, kU, h⟩ := hinv
 simp only at hdf oe H8 e9 aZ bc bT bC cG kU
 have iF := fX (m := 7) (b := ez) (by omega)
 subst hdf ud
 rcases kU with ⟨iZ, il, rfl, ue, Ht, nB⟩ | ⟨rfl, rfl⟩
 ·have mH := uf ue
  have u9 := ne_f Ht
  cases p6 with
  | nil =>
   have f8 : (decide (bX < (List.length aq.marks : Int))) = false := fc cK eA
   simp only [pq, hs, reduceCtorEq] at h
   replace h := ra _ h
   try dsimp only at h
   try simp only [hs] at h
   obtain ⟨ss, iQ, h⟩ := optI h kN
   try simp only [hs] at h
   simp only [vz, mq, mqm, tyf, mqt, g7, iF, e9, aZ, bc, bT, bC, cG, H8, mH, nB, u9, f8, nm, seval]
   refine kseen (args0 := [.sl (aa eI bp) (List.length bp) false]) (by simp only [List.map_cons, List.map_nil, eF, bt, bY, cr, tyf, mqt, nrm, an, g7, iF, e9, aZ, bc, bT, bC, cG, H8, mH, nB, u9, f8, nm, seval] <;> rfl) (by simp only [List.map_cons, List.map_nil, eF, bt, bY, cr, tyf, mqt, nrm, an, g7, iF, e9, aZ, bc, bT, bC, cG, H8, mH, nB, u9, f8, nm, seval]; simp only [tre, ar, mqr, Bool.and_self]) (QO _ _ iQ) (by first | rfl | simp only [VV.flat, flatL, Bool.and_self]) ?_
   refine bw (fun tm => tm 43 = .lit (.int .i64 ss) ∧ True) (by refine ⟨?_, trivial⟩ <;> first | (simp only [ua, ct, iF, e9, aZ, bc, bT, bC, cG, H8, mH, nB, u9, f8, nm, seval] <;> rfl) | rfl) ?_
   rintro tm ⟨cg, _⟩
   have zA := And.intro g7 (And.intro iF (And.intro H8 (And.intro mH (And.intro nB (And.intro u9 f8)))))
   try simp only [vz, mq, mqm, tyf, mqt, zA, cg, nm, seval]
   refine cX (x := (.lit (.int .i64 ss))) (by first | (simp only [Tryz.results152, resV, resL, aG, d6, dA, uw, cr, tyf, mqt, zA, nm, seval] <;> rfl) | rfl) ?_
   obtain rfl := kF _ h
   refine dB ?_ ?_
   ·simp only [tre, ar, mqr, Bool.and_self]
   ·first | (simp only [outV, uw, eF, kc, jE, cr, tyf, mqt, nrm, an, zA, cg, nm, seval] <;> rfl) | rfl
  | cons e6 p6 =>
   have lG : (decide (bX < (List.length aq.marks : Int))) = true := fb cK eA
   have ke := dZ cK eA
   have QP := fe cK eA g7
   simp only [pq, hs, reduceCtorEq] at h
   cases rn : (e6.row != bA)
   ·simp only [rn, hs] at h
    have gX := And.intro g7 (And.intro iF (And.intro H8 (And.intro mH (And.intro nB (And.intro u9 (And.intro lG (And.intro QP rn)))))))
    simp only [vz, mq, mqm, tyf, mqt, gX, e9, aZ, bc, bT, bC, cG, (bl ke), nm, seval]
    refine tg (fun tm => tm 1 = .lit (.int .i64 bA) ∧ tm 2 = .ptr 0 0 ∧ tm 5 = .ref iZ 0 (List.length bp) 1 (List.length bp) ∧ tm 6 = .lit (.int .i64 bX) ∧ tm 7 = .ptr (ez + 4) 0 ∧ tm 9 = .sl (aa cGlm aq.marks) (List.length aq.marks) false ∧ tm 10 = .lit (.int .i64 (List.length aq.marks : Int)) ∧ tm 11 = .lit (.int .i64 bX) ∧ True) (by refine ⟨e9, aZ, bC, ?_, ?_, bc, bT, cG, trivial⟩ <;> first | (simp only [ua, ct, gX, e9, aZ, bc, bT, bC, cG, nm, seval] <;> rfl) | rfl) ?_
    rintro tm ⟨fY, bU, mA, lZ, ga, gQ, lT, dX, _⟩
    obtain ⟨pr, qD, h⟩ := optI h iu
    try simp only [hs] at h
    obtain ⟨pv, UQ, h⟩ := optI h iu
    try simp only [hs] at h
    simp only [vz, mq, mqm, tyf, mqt, gX, (bl ke), fY, bU, mA, lZ, ga, gQ, lT, dX, (aA qD), nm, seval]
    refine dktree (args0 := [.agg (cGld aq), .lit (.int .i64 bX)]) (by first | (simp only [nrm, an, mqr] <;> rfl) | rfl) (by simp only [tre, ar, mqr, Bool.and_self]) (QN _ _ _ UQ) ?_
    refine bw (fun tm => tm 1 = .lit (.int .i64 bA) ∧ tm 2 = .ptr 0 0 ∧ tm 7 = .ptr (ez + 4) 0 ∧ tm 9 = .sl (aa cGlm aq.marks) (List.length aq.marks) false ∧ tm 10 = .lit (.int .i64 (List.length aq.marks : Int)) ∧ tm 11 = .lit (.int .i64 bX) ∧ tm 20 = .ref iZ 0 (List.length bp) 1 (List.length bp) ∧ tm 27 = .lit (.int .i64 pr) ∧ tm 30 = .lit (.int .i64 pv) ∧ True) (by refine ⟨fY, bU, ga, gQ, lT, dX, ?_, ?_, ?_, trivial⟩ <;> first | (simp only [ua, ct, gX, fY, bU, mA, lZ, ga, gQ, lT, dX, nm, seval] <;> rfl) | rfl) ?_
    rintro tm ⟨bS, bD, bV, cq, jR, jw, jx, ie, fZ, _⟩
    cases oB : (aC 8 (List.length (bp ++ [pr, pv])))
    ·simp only [oB, hs] at h
     exact absurd h iu
    simp only [oB, hs] at h
    simp only [vz, mq, mqm, tyf, mqt, gX, (bl ke), (aA qD), bS, bD, bV, cq, jR, jw, jx, ie, fZ, oB, nm, seval]
    refine k_app (w := 1) (enc := eI) (xs := bp) (ys := ([pr, pv])) (el := il) (fQ := (some 3)) (fun _ => rfl) pw px Tryz.underlying22 (by first | rfl | assumption | (simp only [bt, bY, jo, gX, nm, seval] <;> rfl) | (simp only [bt, bY, fU, fB, fG, fH, tyf, mqt, gX, (bl ke), (aA qD), bS, bD, bV, cq, jR, jw, jx, ie, fZ, oB, nm, seval]; done)) (by first | rfl | assumption | (simp only [bt, bY, jo, gX, nm, seval] <;> rfl) | (simp only [bt, bY, fU, fB, fG, fH, tyf, mqt, gX, (bl ke), (aA qD), bS, bD, bV, cq, jR, jw, jx, ie, fZ, oB, nm, seval]; done)) (Nat.zero_lt_succ _) oB ?_
    simp only [vz, mq, mqm, tyf, mqt, gX, (bl ke), (aA qD), bS, bD, bV, cq, jR, jw, jx, ie, fZ, oB, nm, seval]
    refine mY ⟨?_, ?_⟩
    ·simp only [mZ, nd, hZ, nf, and_true, true_and]
     repeat' (first | exact trivial | refine And.intro ?_ ?_ | rw [hZ] | rw [ng] | exact Or.inl (by decide +kernel) | exact Or.inl (by dsimp only; decide +kernel) | (refine Or.inr ⟨?_, ?_⟩ <;> simp; done) | (refine Or.inr ⟨?_, ?_⟩ <;> simp <;> omega) | (refine Or.inr ⟨?_, ?_⟩ <;> simp [VEff.wr] <;> omega))
    cases jm : (e6.hyphen)
    ·simp only [jm, hs] at h
     simp only [vz, mq, mqm, tyf, mqt, gX, (bl ke), (aA qD), bS, bD, bV, cq, jR, jw, jx, ie, fZ, oB, jm, nm, seval]
     exact ⟨List.length p6, qZc _, by rw [ik]; refine ⟨p6, bX + 1, (bp ++ [pr, pv]), .ref (ez + 23) 0 (List.length (bp ++ [pr, pv])) 1 (List.length (bp ++ [pr, pv])), rfl, Int.le_trans cK (Int.le_add_one (qZf _)), bW cK eA, rfl, (show 7 ≤ ez + 29 by omega), ?_, bS, bD, cq, jR, ?_, ?_, Or.inl ⟨ez + 23, (sameEl il 3), rfl, (by first | omega | (simp only [nm, seval]; done) | (simp only [nm, seval]; omega)), (by first | omega | (intro hh; simp only [gX, reduceCtorEq] at hh)), ?_⟩, (by first | exact h | (simp only [gX, jm]; exact h))⟩ <;> first | (simp only [ua, ct, gX, bS, bD, bV, cq, jR, jw, jx, ie, fZ, jm, nm, seval] <;> rfl) | rfl | (simp only [ua, ct, tyf, mqt, gX, bS, bD, bV, cq, jR, jw, jx, ie, fZ, jm, nm, seval] <;> rfl)⟩
    simp only [jm, hs] at h
    cases uA : (aC 8 (List.length ((bp ++ [pr, pv]) ++ [aq.ls.Hyphen])))
    ·simp only [uA, hs] at h
     exact absurd h iu
    simp only [uA, hs] at h
    simp only [vz, mq, mqm, tyf, mqt, gX, (bl ke), (aA qD), bS, bD, bV, cq, jR, jw, jx, ie, fZ, oB, jm, uA, nm, seval]
    refine k_app (w := 1) (enc := eI) (xs := (bp ++ [pr, pv])) (ys := ([aq.ls.Hyphen])) (el := (sameEl il 3)) (fQ := (some 3)) (fun _ => rfl) pw px Tryz.underlying22 (by first | rfl | assumption | (simp only [bt, bY, jo, gX, nm, seval] <;> rfl) | (simp only [bt, bY, fU, fB, fG, fH, tyf, mqt, gX, (bl ke), (aA qD), bS, bD, bV, cq, jR, jw, jx, ie, fZ, oB, jm, uA, nm, seval]; done)) (by first | rfl | assumption | (simp only [bt, bY, jo, gX, nm, seval] <;> rfl) | (simp only [bt, bY, fU, fB, fG, fH, tyf, mqt, gX, (bl ke), (aA qD), bS, bD, bV, cq, jR, jw, jx, ie, fZ, oB, jm, uA, nm, seval]; done)) (Nat.zero_lt_succ _) uA ?_
    simp only [vz, mq, mqm, tyf, mqt, gX, (bl ke), (aA qD), bS, bD, bV, cq, jR, jw, jx, ie, fZ, oB, jm, uA, nm, seval]
    exact ⟨List.length p6, qZc _, by rw [ik]; refine ⟨p6, bX + 1, ((bp ++ [pr, pv]) ++ [aq.ls.Hyphen]), .ref (ez + 32) 0 (List.length ((bp ++ [pr, pv]) ++ [aq.ls.Hyphen])) 1 (List.length ((bp ++ [pr, pv]) ++ [aq.ls.Hyphen])), rfl, Int.le_trans cK (Int.le_add_one (qZf _)), bW cK eA, rfl, (show 7 ≤ ez + 36 by omega), ?_, bS, bD, cq, jR, ?_, ?_, Or.inl ⟨ez + 32, (sameEl (sameEl il 3) 3), rfl, (by first | omega | (simp only [nm, seval]; done) | (simp only [nm, seval]; omega)), (by first | omega | (intro hh; simp only [gX, reduceCtorEq] at hh)), ?_⟩, (by first | exact h | (simp only [gX, jm]; exact h))⟩ <;> first | (simp only [ua, ct, gX, bS, bD, bV, cq, jR, jw, jx, ie, fZ, jm, nm, seval] <;> rfl) | rfl | (simp only [ua, ct, tyf, mqt, gX, bS, bD, bV, cq, jR, jw, jx, ie, fZ, jm, nm, seval] <;> rfl)⟩
   simp only [rn, hs] at h
   have CL := And.intro g7 (And.intro iF (And.intro H8 (And.intro mH (And.intro nB (And.intro u9 (And.intro lG (And.intro QP rn)))))))
   simp only [vz, mq, mqm, tyf, mqt, CL, e9, aZ, bc, bT, bC, cG, (bl ke), nm, seval]
   exact ⟨List.length p6, qZc _, by rw [ik]; refine ⟨p6, bX + 1, bp, .ref iZ 0 (List.length bp) 1 (List.length bp), rfl, Int.le_trans cK (Int.le_add_one (qZf _)), bW cK eA, rfl, (show 7 ≤ ez + 13 by omega), ?_, e9, aZ, bc, bT, ?_, ?_, Or.inl ⟨iZ, il, rfl, (by first | omega | (simp only [nm, seval]; done) | (simp only [nm, seval]; omega)), (by first | omega | (intro hh; simp only [CL, reduceCtorEq] at hh)), ?_⟩, (by first | exact h | (simp only [CL]; exact h))⟩ <;> first | (simp only [ua, ct, CL, e9, aZ, bc, bT, bC, cG, nm, seval] <;> rfl) | rfl⟩
 ·cases p6 with
  | nil =>
   have ij : (decide (bX < (List.length aq.marks : Int))) = false := fc cK eA
   simp only [pq, hs, reduceCtorEq] at h
   replace h := ra _ h
   try dsimp only at h
   try simp only [hs] at h
   obtain ⟨za, iY, h⟩ := optI h kN
   try simp only [hs] at h
   simp only [vz, mq, mqm, tyf, mqt, g7, iF, e9, aZ, bc, bT, bC, cG, H8, ij, nm, seval]
   refine ktree (args0 := [.sl (aa eI ([] : List Int)) (List.length ([] : List Int)) false]) (by first | (simp only [nrm, an, mqr] <;> rfl) | rfl) (by simp only [tre, ar, mqr, Bool.and_self]) (QO _ _ iY) ?_
   refine bw (fun tm => tm 43 = .lit (.int .i64 za) ∧ True) (by refine ⟨?_, trivial⟩ <;> first | (simp only [ua, ct, iF, e9, aZ, bc, bT, bC, cG, H8, ij, nm, seval] <;> rfl) | rfl) ?_
   rintro tm ⟨jz, _⟩
   try simp only [vz, mq, mqm, tyf, mqt, g7, iF, H8, ij, jz, nm, seval]
   refine cX (x := (.lit (.int .i64 za))) (by first | (simp only [Tryz.results152, resV, resL, aG, d6, dA, uw, cr, tyf, mqt, g7, iF, H8, ij, nm, seval] <;> rfl) | rfl) ?_
   obtain rfl := kF _ h
   refine dB ?_ ?_
   ·simp only [tre, ar, mqr, Bool.and_self]
   ·first | (simp only [outV, uw, eF, kc, jE, cr, tyf, mqt, nrm, an, g7, iF, H8, ij, jz, nm, seval] <;> rfl) | rfl
  | cons e6 p6 =>
   have iS : (decide (bX < (List.length aq.marks : Int))) = true := fb cK eA
   have mh := dZ cK eA
   have lB := fe cK eA g7
   simp only [pq, hs, reduceCtorEq] at h
   cases jU : (e6.row != bA)
   ·simp only [jU, hs] at h
    simp only [vz, mq, mqm, tyf, mqt, g7, iF, e9, aZ, bc, bT, bC, cG, H8, iS, (bl mh), lB, jU, nm, seval]
    refine tg (fun tm => tm 1 = .lit (.int .i64 bA) ∧ tm 2 = .ptr 0 0 ∧ tm 5 = .lit (.slice none 0 0) ∧ tm 6 = .lit (.int .i64 bX) ∧ tm 7 = .ptr (ez + 4) 0 ∧ tm 9 = .sl (aa cGlm aq.marks) (List.length aq.marks) false ∧ tm 10 = .lit (.int .i64 (List.length aq.marks : Int)) ∧ tm 11 = .lit (.int .i64 bX) ∧ True) (by refine ⟨e9, aZ, bC, ?_, ?_, bc, bT, cG, trivial⟩ <;> first | (simp only [ua, ct, iF, e9, aZ, bc, bT, bC, cG, H8, iS, lB, jU, nm, seval] <;> rfl) | rfl) ?_
    rintro tm ⟨fC, fS, gI, kG, kW, lH, qA, qB, _⟩
    obtain ⟨nC, mP, h⟩ := optI h iu
    try simp only [hs] at h
    obtain ⟨py, UR, h⟩ := optI h iu
    try simp only [hs] at h
    simp only [vz, mq, mqm, tyf, mqt, g7, iF, H8, iS, (bl mh), lB, jU, fC, fS, gI, kG, kW, lH, qA, qB, (aA mP), nm, seval]
    refine dktree (args0 := [.agg (cGld aq), .lit (.int .i64 bX)]) (by first | (simp only [nrm, an, mqr] <;> rfl) | rfl) (by simp only [tre, ar, mqr, Bool.and_self]) (QN _ _ _ UR) ?_
    refine bw (fun tm => tm 1 = .lit (.int .i64 bA) ∧ tm 2 = .ptr 0 0 ∧ tm 7 = .ptr (ez + 4) 0 ∧ tm 9 = .sl (aa cGlm aq.marks) (List.length aq.marks) false ∧ tm 10 = .lit (.int .i64 (List.length aq.marks : Int)) ∧ tm 11 = .lit (.int .i64 bX) ∧ tm 20 = .lit (.slice none 0 0) ∧ tm 27 = .lit (.int .i64 nC) ∧ tm 30 = .lit (.int .i64 py) ∧ True) (by refine ⟨fC, fS, kW, lH, qA, qB, ?_, ?_, ?_, trivial⟩ <;> first | (simp only [ua, ct, iF, H8, iS, lB, jU, fC, fS, gI, kG, kW, lH, qA, qB, nm, seval] <;> rfl) | rfl) ?_
    rintro tm ⟨iL, iM, fm, dD, dO, bZ, cl, ck, ca, _⟩
    cases sF : (aC 8 (List.length (([] : List Int) ++ [nC, py])))
    ·simp only [sF, hs] at h
     exact absurd h iu
    simp only [sF, hs] at h
    simp only [vz, mq, mqm, tyf, mqt, g7, iF, H8, iS, (bl mh), lB, jU, (aA mP), iL, iM, fm, dD, dO, bZ, cl, ck, ca, sF, nm, seval]
    refine og (w := 1) (enc := eI) (ys := ([nC, py])) (fQ := (some 3)) (fun _ => rfl) pw px Tryz.underlying22 (by first | rfl | assumption | (simp only [bt, bY, jo, iF, H8, nm, seval] <;> rfl) | (simp only [bt, bY, fU, fB, fG, fH, tyf, mqt, g7, iF, H8, iS, (bl mh), lB, jU, (aA mP), iL, iM, fm, dD, dO, bZ, cl, ck, ca, sF, nm, seval]; done)) (Nat.zero_lt_succ _) sF ?_
    simp only [vz, mq, mqm, tyf, mqt, g7, iF, H8, iS, (bl mh), lB, jU, (aA mP), iL, iM, fm, dD, dO, bZ, cl, ck, ca, sF, nm, seval]
    refine mY ⟨?_, ?_⟩
    ·simp only [mZ, nd, hZ, nf, and_true, true_and]
     repeat' (first | exact trivial | refine And.intro ?_ ?_ | rw [hZ] | rw [ng] | exact Or.inl (by decide +kernel) | exact Or.inl (by dsimp only; decide +kernel) | (refine Or.inr ⟨?_, ?_⟩ <;> simp; done) | (refine Or.inr ⟨?_, ?_⟩ <;> simp <;> omega) | (refine Or.inr ⟨?_, ?_⟩ <;> simp [VEff.wr] <;> omega))
    cases CM : (e6.hyphen)
    ·simp only [CM, hs] at h
     have zB := And.intro g7 (And.intro iF (And.intro H8 (And.intro iS (And.intro lB (And.intro jU (And.intro sF CM))))))
     simp only [vz, mq, mqm, tyf, mqt, zB, (bl mh), (aA mP), iL, iM, fm, dD, dO, bZ, cl, ck, ca, nm, seval]
     exact ⟨List.length p6, qZc _, by rw [ik]; refine ⟨p6, bX + 1, (([] : List Int) ++ [nC, py]), .ref (ez + 23) 0 (List.length (([] : List Int) ++ [nC, py])) 1 (List.length (([] : List Int) ++ [nC, py])), rfl, Int.le_trans cK (Int.le_add_one (qZf _)), bW cK eA, rfl, (show 7 ≤ ez + 29 by omega), ?_, iL, iM, dD, dO, ?_, ?_, Or.inl ⟨ez + 23, (some 3), rfl, (by first | omega | (simp only [nm, seval]; done) | (simp only [nm, seval]; omega)), (by first | omega | (intro hh; simp only [zB, reduceCtorEq] at hh)), ?_⟩, (by first | exact h | (simp only [zB]; exact h))⟩ <;> first | (simp only [ua, ct, zB, iL, iM, fm, dD, dO, bZ, cl, ck, ca, nm, seval] <;> rfl) | rfl | (simp only [ua, ct, tyf, mqt, zB, iL, iM, fm, dD, dO, bZ, cl, ck, ca, nm, seval] <;> rfl)⟩
    simp only [CM, hs] at h
    have qE := And.intro g7 (And.intro iF (And.intro H8 (And.intro iS (And.intro lB (And.intro jU (And.intro sF CM))))))
    cases uB : (aC 8 (List.length ((([] : List Int) ++ [nC, py]) ++ [aq.ls.Hyphen])))
    ·simp only [uB, hs] at h
     exact absurd h iu
    simp only [uB, hs] at h
    simp only [vz, mq, mqm, tyf, mqt, qE, (bl mh), (aA mP), iL, iM, fm, dD, dO, bZ, cl, ck, ca, uB, nm, seval]
    refine k_app (w := 1) (enc := eI) (xs := (([] : List Int) ++ [nC, py])) (ys := ([aq.ls.Hyphen])) (el := (some 3)) (fQ := (some 3)) (fun _ => rfl) pw px Tryz.underlying22 (by first | rfl | assumption | (simp only [bt, bY, jo, qE, nm, seval] <;> rfl) | (simp only [bt, bY, fU, fB, fG, fH, tyf, mqt, qE, (bl mh), (aA mP), iL, iM, fm, dD, dO, bZ, cl, ck, ca, uB, nm, seval]; done)) (by first | rfl | assumption | (simp only [bt, bY, jo, qE, nm, seval] <;> rfl) | (simp only [bt, bY, fU, fB, fG, fH, tyf, mqt, qE, (bl mh), (aA mP), iL, iM, fm, dD, dO, bZ, cl, ck, ca, uB, nm, seval]; done)) (Nat.zero_lt_succ _) uB ?_
    simp only [vz, mq, mqm, tyf, mqt, qE, (bl mh), (aA mP), iL, iM, fm, dD, dO, bZ, cl, ck, ca, uB, nm, seval]
    exact ⟨List.length p6, qZc _, by rw [ik]; refine ⟨p6, bX + 1, ((([] : List Int) ++ [nC, py]) ++ [aq.ls.Hyphen]), .ref (ez + 32) 0 (List.length ((([] : List Int) ++ [nC, py]) ++ [aq.ls.Hyphen])) 1 (List.length ((([] : List Int) ++ [nC, py]) ++ [aq.ls.Hyphen])), rfl, Int.le_trans cK (Int.le_add_one (qZf _)), bW cK eA, rfl, (show 7 ≤ ez + 36 by omega), ?_, iL, iM, dD, dO, ?_, ?_, Or.inl ⟨ez + 32, (sameEl (some 3) 3), rfl, (by first | omega | (simp only [nm, seval]; done) | (simp only [nm, seval]; omega)), (by first | omega | (intro hh; simp only [qE, reduceCtorEq] at hh)), ?_⟩, (by first | exact h | (simp only [qE]; exact h))⟩ <;> first | (simp only [ua, ct, qE, iL, iM, fm, dD, dO, bZ, cl, ck, ca, nm, seval] <;> rfl) | rfl | (simp only [ua, ct, tyf, mqt, qE, iL, iM, fm, dD, dO, bZ, cl, ck, ca, nm, seval] <;> rfl)⟩
   simp only [jU, hs] at h
   simp only [vz, mq, mqm, tyf, mqt, g7, iF, e9, aZ, bc, bT, bC, cG, H8, iS, (bl mh), lB, jU, nm, seval]
   exact ⟨List.length p6, qZc _, by rw [ik]; refine ⟨p6, bX + 1, ([] : List Int), .lit (.slice none 0 0), rfl, Int.le_trans cK (Int.le_add_one (qZf _)), bW cK eA, rfl, (show 7 ≤ ez + 13 by omega), ?_, e9, aZ, bc, bT, ?_, ?_, Or.inr ⟨rfl, rfl⟩, (by first | exact h | (simp only [iS, jU]; exact h))⟩ <;> first | (simp only [ua, ct, iF, e9, aZ, bc, bT, bC, cG, H8, iS, lB, jU, nm, seval] <;> rfl) | rfl⟩

def CN (aq : Gld) (bA : Int) : Option ((Unit) ⊕ (Unit)) := Option.bind (z9 aq bA) (fun r1 => cond (decide (r1 > aq.ls.Wide)) (some (.inr ())) (some (.inl ())))
theorem QQ (aq : Gld) (bA : Int) (R : (Unit) ⊕ (Unit)) (h : CN aq bA = some R) : ad Tryz.prog G0 122 [.agg (cGld aq), .lit (.int .i64 bA)] (presB R (fun r => .tree (.tup [])) (fun e => .panic (.ifc 149 (.agg [])))) := by
 refine ad.runR mixed Tryz.call122 Tryz.func122 rfl (by simp [Tryz.ntmps122]; kernel_rfl) ?_
 obtain ⟨KF, h, kF, kN⟩ := dC h
 simp only [CN] at h
 simp only [vz, mq, mqm, tyf, mqt, nm, seval]
 refine m3 (fun tm => tm 1 = .lit (.int .i64 bA) ∧ tm 2 = .ptr 0 0 ∧ True) (by refine ⟨?_, ?_, trivial⟩ <;> first | (simp only [ua, ct, nm, seval] <;> rfl) | rfl) ?_
 rintro tm ⟨e2, e3, _⟩
 obtain ⟨r4, o5, h⟩ := optI h kN
 try simp only [hs] at h
 simp only [vz, mq, mqm, tyf, mqt, e2, e3, nm, seval]
 refine dktree (args0 := [.agg (cGld aq), .lit (.int .i64 bA)]) (by first | (simp only [nrm, an, mqr] <;> rfl) | rfl) (by simp only [tre, ar, mqr, Bool.and_self]) (UP _ _ _ o5) ?_
 refine bw (fun tm => tm 2 = .ptr 0 0 ∧ tm 6 = .lit (.int .i64 r4) ∧ True) (by refine ⟨e3, ?_, trivial⟩ <;> first | (simp only [ua, ct, e2, e3, nm, seval] <;> rfl) | rfl) ?_
 rintro tm ⟨e6, e7, _⟩
 cases d8 : (decide (r4 > aq.ls.Wide))
 ·simp only [d8, hs] at h
  try simp only [vz, mq, mqm, tyf, mqt, e6, e7, d8, nm, seval]
  refine DO (x := (.tup [])) (by first | (simp only [Tryz.results122, resV, resL, aG, d6, dA, uw, cr, tyf, mqt, d8, nm, seval] <;> rfl) | rfl) ?_
  obtain rfl := kF _ h
  refine dB ?_ ?_
  ·simp only [tre, ar, mqr, Bool.and_self]
  ·first | (simp only [outV, uw, eF, kc, jE, cr, tyf, mqt, nrm, an, e6, e7, d8, nm, seval] <;> rfl) | rfl
 simp only [d8, hs] at h
 simp only [vz, mq, mqm, tyf, mqt, e6, e7, d8, nm, seval]
 refine Hu ?_
 obtain rfl := kF _ h
 refine Hv ?_ ?_
 ·simp only [tre, ar, Hw, Bool.and_self]
 ·first | (simp only [outV, uw, eF, kc, jE, Hx, Hy, cr, tyf, mqt, nrm, an, e6, e7, d8, nm, seval] <;> rfl) | rfl
def wG (aq : Gld) : List GLe → Int → Option (LOut (Bool) (Unit))
 | [], uC => some (.go ())
 | e0 :: p0, uC => Option.bind (CN aq uC) (fun r1 => sumB r1 (fun u2 => wG aq p0 (uC + 1)) (fun w3 => some (.ret false)))
def sG (aq : Gld) : Option (Bool) := cond (lenOk aq.lx.Ends) (lbind (wG aq aq.lx.Ends 0) (fun r5 => some r5) (fun c4 => some (decide ((List.length aq.lx.Ends : Int) ≤ aq.ls.Rows))) (fun _ _ => none)) none
theorem QR (aq : Gld) (R : Bool) (h : sG aq = some R) : ad Tryz.prog G0 83 [.agg (cGld aq)] (.tree (.lit (.bool R))) := by
 refine ad.runR mixed Tryz.call83 Tryz.func83 rfl (by simp [Tryz.ntmps83]; kernel_rfl) ?_
 obtain ⟨KF, h, kF, kN⟩ := dC h
 simp only [sG] at h
 cases g7 : (lenOk aq.lx.Ends)
 ·simp only [g7, hs] at h
  exact absurd h kN
 simp only [g7, hs] at h
 simp only [vz, mq, mqm, tyf, mqt, g7, nm, seval]
 obtain ⟨K6, h, uc, ra, GR, iu⟩ := fW h kN
 obtain ⟨f6, ud, h⟩ := call2 h
 obtain ⟨I6, ik⟩ : ∃ I : Nat → St → Prop, I = (fun m st => ∃ (p6 : List GLe) (jc : Int), m = List.length p6 ∧ 0 ≤ jc ∧ List.drop (Int.toNat jc) aq.lx.Ends = p6 ∧ st.df = [.fn (.func 121) [.ptr 1 0] []] ∧ 9 ≤ st.nx ∧ st.H 0 = some (.cells (some 93) (cGld aq)) ∧ st.H 1 = some (.cells (some 4) ([.lit (.bool false)])) ∧ st.tm 1 = .ptr 0 0 ∧ st.tm 2 = .ptr 1 0 ∧ st.tm 8 = .lit (.int .i64 (List.length aq.lx.Ends : Int)) ∧ st.tm 9 = .lit (.int .i64 jc) ∧ K6 (f6 p6 jc)) := ⟨_, rfl⟩
 refine loopK mixed (by kernel_rfl) I6 (List.length aq.lx.Ends) (by rw [ik]; refine ⟨aq.lx.Ends, 0, rfl, qZf _, rfl, rfl, (show 9 ≤ 9 by omega), ?_, ?_, ?_, ?_, ?_, ?_, h⟩ <;> first | (simp only [ua, ct, nm, seval] <;> rfl) | rfl) ?_
 rintro m ⟨tm, H, ez, df⟩ hinv
 rw [ik] at hinv
 obtain ⟨p6, jc, rfl, cK, eA, hdf, oe, H8, H9, aZ, bc, bT, bC, h⟩ := hinv
 simp only at hdf oe H8 H9 aZ bc bT bC
 have cL := fX (m := 9) (b := ez) (by omega)
 subst hdf ud
 cases p6 with
 | nil =>
  have eh : (decide (jc < (List.length aq.lx.Ends : Int))) = false := fc cK eA
  simp only [wG, hs, reduceCtorEq] at h
  replace h := ra _ h
  try dsimp only at h
  try simp only [hs] at h
  try simp only [vz, mq, mqm, tyf, mqt, g7, cL, aZ, bc, bT, bC, H8, H9, eh, nm, seval]
  refine Hz ?_
  refine VDeferred.run mixed Tryz.call121 Tryz.func121 rfl (by kernel_rfl) ?_
  try simp only [vz, mq, mqm, tyf, mqt, g7, cL, H8, H9, eh, nm, seval]
  refine QS Tryz.results121 ?_
  refine HA (x := (.lit (.bool (decide ((List.length aq.lx.Ends : Int) ≤ aq.ls.Rows))))) (by first | (simp only [Tryz.results83, resV, resL, aG, d6, dA, uw, cr, tyf, mqt, g7, cL, H8, H9, eh, aZ, bc, bT, bC, nm, seval] <;> rfl) | rfl) ?_
  obtain rfl := kF _ h
  refine dB ?_ ?_
  ·simp only [tre, ar, mqr, Bool.and_self]
  ·first | (simp only [outV, uw, eF, kc, jE, cr, tyf, mqt, nrm, an, g7, cL, H8, H9, eh, aZ, bc, bT, bC, nm, seval] <;> rfl) | rfl
 | cons e6 p6 =>
  have gO : (decide (jc < (List.length aq.lx.Ends : Int))) = true := fb cK eA
  have pb := dZ cK eA
  have rp := fe cK eA g7
  simp only [wG, hs, reduceCtorEq] at h
  obtain ⟨mg, k8, h⟩ := optI h iu
  try simp only [hs] at h
  cases mg with
  | inl XI =>
   simp only [hs] at h
   simp only [vz, mq, mqm, tyf, mqt, g7, cL, aZ, bc, bT, bC, H8, H9, gO, (aJ pb), rp, nm, seval]
   refine ktree (args0 := [.agg (cGld aq), .lit (.int .i64 jc)]) (by first | (simp only [nrm, an, mqr] <;> rfl) | rfl) (by simp only [tre, ar, mqr, Bool.and_self]) (QQ _ _ _ k8) ?_
   refine bw (fun tm => tm 1 = .ptr 0 0 ∧ tm 2 = .ptr 1 0 ∧ tm 8 = .lit (.int .i64 (List.length aq.lx.Ends : Int)) ∧ tm 9 = .lit (.int .i64 jc) ∧ True) (by refine ⟨aZ, bc, bT, bC, trivial⟩ <;> first | (simp only [ua, ct, cL, aZ, bc, bT, bC, H8, H9, gO, rp, nm, seval] <;> rfl) | rfl) ?_
   rintro tm ⟨cZ, dH, dN, dI, _⟩
   simp only [vz, mq, mqm, tyf, mqt, g7, cL, H8, H9, gO, (aJ pb), rp, cZ, dH, dN, dI, nm, seval]
   exact ⟨List.length p6, qZc _, by rw [ik]; refine ⟨p6, jc + 1, rfl, Int.le_trans cK (Int.le_add_one (qZf _)), bW cK eA, rfl, (show 9 ≤ ez + 8 by omega), ?_, ?_, cZ, dH, dN, ?_, (by first | exact h | (simp only [gO]; exact h))⟩ <;> first | (simp only [ua, ct, cL, H8, H9, gO, rp, cZ, dH, dN, dI, nm, seval] <;> rfl) | rfl⟩
  | inr so =>
   simp only [hs] at h
   simp only [vz, mq, mqm, tyf, mqt, g7, cL, aZ, bc, bT, bC, H8, H9, gO, (aJ pb), rp, nm, seval]
   refine kpan (args0 := [.agg (cGld aq), .lit (.int .i64 jc)]) (by first | (simp only [nrm, an, mqr] <;> rfl) | rfl) (by simp only [tre, ar, mqr, Bool.and_self]) (QQ _ _ _ k8) ?_
   try simp only [vz, mq, mqm, tyf, mqt, g7, cL, aZ, bc, bT, bC, H8, H9, gO, (aJ pb), rp, nm, seval]
   refine HB ?_
   refine VDeferred.run mixed Tryz.call121 Tryz.func121 rfl (by kernel_rfl) ?_
   try simp only [vz, mq, mqm, tyf, mqt, g7, cL, H8, H9, gO, (aJ pb), rp, nm, seval]
   refine QS Tryz.results121 ?_
   refine HC (x := (.lit (.bool false))) (by first | (simp only [Tryz.results83, resV, resL, aG, d6, dA, uw, cr, tyf, mqt, g7, cL, H8, H9, gO, (aJ pb), rp, aZ, bc, bT, bC, nm, seval] <;> rfl) | rfl) ?_
   replace h := uc _ h
   try dsimp only at h
   obtain rfl := kF _ h
   refine dB ?_ ?_
   ·simp only [tre, ar, mqr, Bool.and_self]
   ·first | (simp only [outV, uw, eF, kc, jE, cr, tyf, mqt, nrm, an, g7, cL, H8, H9, gO, (aJ pb), rp, aZ, bc, bT, bC, nm, seval] <;> rfl) | rfl
abbrev setS (l : Gld) (i : Int) : Gld := Gld.mk l.ls l.lx i l.spaces l.marks
def wLoop (l : Gld) : Nat → Nat → Option Gld → Option (Option Gld)
 | 0, _, acc => some acc
 | k + 1, i, acc => Option.bind (sG (setS l (i : Int))) fun b => cond b (wLoop l k (i + 1) (some (setS l (i : Int)))) (some acc)
def BZ (l : Gld) : Option (Option Gld) := wLoop l 11 0 none
def zlC : List VV := [.lit (.slice none 0 0), .lit (.slice none 0 0), .lit (.int .i64 0), .lit (.int .i64 0), .lit (.int .i64 0), .lit (.int .i64 0), .lit (.int .i64 0), .lit (.slice none 0 0), .lit (.int .i64 0), .lit (.int .i64 0), .lit (.slice none 0 0), .lit (.slice none 0 0), .lit (.int .i64 0), .lit (.map none), .lit (.slice none 0 0)]
def zlN : List VV := [.sl [] 0 false, .sl [] 0 false, .lit (.int .i64 0), .lit (.int .i64 0), .lit (.int .i64 0), .lit (.int .i64 0), .lit (.int .i64 0), .sl [] 0 false, .lit (.int .i64 0), .lit (.int .i64 0), .sl [] 0 false, .sl [] 0 false, .lit (.int .i64 0), .lit (.map none), .sl [] 0 false]
def accC : Option Gld → List VV
 | none => zlC
 | some l => cGld l
def wV : Option Gld → VV
 | none => .tup [.agg zlN, .lit (.bool false)]
 | some l => .tup [.agg (cGld l), .lit (.bool true)]
theorem Ch : normV (.lit (.map none)) = .lit (.map none) := rfl
theorem SQ (l : Gld) (R : Option Gld) (h : BZ l = some R) : ad Tryz.prog G0 84 [.agg (cGld l)] (.tree (wV R)) := by
 refine ad.runR mixed Tryz.call84 Tryz.func84 rfl (by simp [Tryz.ntmps84]; kernel_rfl) ?_
 simp only [vz, @iG, mq, mqm, tyf, mqt, nm, seval]
 obtain ⟨J, hJ⟩ : ∃ J : Nat → St → Prop, J = (fun m st => ∃ (i : Nat) (s : Int) (acc : Option Gld), i + m = 11 ∧ st.df = [] ∧ 8 ≤ st.nx ∧ st.H 0 = some (.cells (some 93) (cGld (setS l s))) ∧ st.H 1 = some (.cells (some 93) zlC) ∧ st.H 4 = some (.cells (some 93) (accC acc)) ∧
   st.tm 1 = .ptr 0 0 ∧ st.tm 2 = .ptr 1 0 ∧ st.tm 4 = .ptr 4 0 ∧ st.tm 5 = .lit (.bool acc.isSome) ∧ st.tm 8 = .lit (.int .i64 (i : Int)) ∧ wLoop l m i acc = some R) := ⟨_, rfl⟩
 refine loopK mixed (by kernel_rfl) J 11 (by
  rw [hJ]
  refine ⟨0, l.stretch, none, rfl, rfl, (show 8 ≤ 8 by omega), ?_, ?_, ?_, ?_, ?_, ?_, ?_, ?_, h⟩ <;> first | rfl | (simp only [ua, seval, tyf] <;> rfl)) ?_
 rintro m ⟨tm, H, nx, df⟩ hinv
 rw [hJ] at hinv
 obtain ⟨i, s, acc, hi, hdf, hnx, H0, H1, H4, e1, e2, e4, e5, e8, h⟩ := hinv
 simp only at hdf hnx H0 H1 H4 e1 e2 e4 e5 e8
 subst hdf
 have fin : ∀ (tm : Nat → VV) (H : Nat → Option VObj) (nx : Nat) (acc : Option Gld), 8 ≤ nx → tm 2 = .ptr 1 0 → tm 4 = .ptr 4 0 → tm 5 = .lit (.bool acc.isSome) → H 1 = some (.cells (some 93) zlC) → H 4 = some (.cells (some 93) (accC acc)) → acc = R → True := fun _ _ _ _ _ _ _ _ _ _ _ => trivial
 cases m with
 | zero =>
  have rq : decide ((i : Int) < 11) = false := by simp; omega
  simp only [wLoop, Option.some.injEq] at h
  subst h
  cases acc with
  | none =>
   simp only [accC, zlC] at H4
   simp only [Option.isSome_none] at e5
   simp only [vz, @iG, mq, mqm, tyf, mqt, e1, e2, e4, e5, e8, rq, H0, H1, H4, zlC, nm, seval]
   refine cX (x := .tup [.agg zlC, .lit (.bool false)]) (by simp only [Tryz.results84, resV, resL, aG, d6, dA, uw, cr, tyf, mqt, e1, e2, e4, e5, H0, H1, H4, zlC, nm, seval] <;> rfl) ?_
   refine dB (by simp only [wV, zlN, tre, ar, mqr, Bool.and_self]) ?_
   simp only [outV, zlC, zlN, wV, nrm, an, mqr, Ch, seval, List.map_cons, List.map_nil]
  | some y =>
   simp only [accC] at H4
   simp only [Option.isSome_some] at e5
   simp only [vz, @iG, mq, mqm, tyf, mqt, e1, e2, e4, e5, e8, rq, H0, H1, H4, zlC, nm, seval]
   refine cX (x := .tup [.agg (cGld y), .lit (.bool true)]) (by simp only [Tryz.results84, resV, resL, aG, d6, dA, uw, cr, tyf, mqt, e1, e2, e4, e5, H0, H1, H4, zlC, nm, seval] <;> rfl) ?_
   refine dB (by simp only [wV, tre, ar, mqr, Bool.and_self]) ?_
   simp only [outV, wV, nrm, an, mqr, seval, List.map_cons, List.map_nil]
 | succ m =>
  have rq : decide ((i : Int) < 11) = true := by simp; omega
  have hw : i64.wrap ((i : Int) + 1) = ((i + 1 : Nat) : Int) := by rw [IntWalk.i64_in _ (by omega)]; simp
  rw [wLoop] at h
  rcases ob : sG (setS l (i : Int)) with _ | b
  ·rw [ob] at h; cases h
  rw [ob, Option.bind_some] at h
  simp only [vz, @iG, mq, mqm, tyf, mqt, e1, e2, e4, e5, e8, rq, H0, H1, H4, nm, seval]
  refine ktree (args0 := [.agg (cGld (setS l (i : Int)))]) (by first | (simp only [nrm, an, mqr] <;> rfl) | rfl) (by simp only [tre, ar, mqr, Bool.and_self]) (QR _ _ ob) ?_
  cases b with
  | false =>
   simp only [cond_false, Option.some.injEq] at h
   subst h
   cases acc with
   | none =>
    simp only [accC, zlC] at H4
    simp only [Option.isSome_none] at e5
    simp only [vz, @iG, mq, mqm, tyf, mqt, e1, e2, e4, e5, e8, rq, H0, H1, H4, zlC, nm, seval]
    refine cX (x := .tup [.agg zlC, .lit (.bool false)]) (by simp only [Tryz.results84, resV, resL, aG, d6, dA, uw, cr, tyf, mqt, e1, e2, e4, e5, H0, H1, H4, zlC, nm, seval] <;> rfl) ?_
    refine dB (by simp only [wV, zlN, tre, ar, mqr, Bool.and_self]) ?_
    simp only [outV, zlC, zlN, wV, nrm, an, mqr, Ch, seval, List.map_cons, List.map_nil]
   | some y =>
    simp only [accC] at H4
    simp only [Option.isSome_some] at e5
    simp only [vz, @iG, mq, mqm, tyf, mqt, e1, e2, e4, e5, e8, rq, H0, H1, H4, zlC, nm, seval]
    refine cX (x := .tup [.agg (cGld y), .lit (.bool true)]) (by simp only [Tryz.results84, resV, resL, aG, d6, dA, uw, cr, tyf, mqt, e1, e2, e4, e5, H0, H1, H4, zlC, nm, seval] <;> rfl) ?_
    refine dB (by simp only [wV, tre, ar, mqr, Bool.and_self]) ?_
    simp only [outV, wV, nrm, an, mqr, seval, List.map_cons, List.map_nil]
  | true =>
   simp only [cond_true] at h
   have hl : (15 ≤ (accC acc).length) = True := by cases acc <;> simp [accC, zlC, zC]
   have hd : (accC acc).drop 15 = [] := by cases acc <;> rfl
   simp only [vz, @iG, mq, mqm, tyf, mqt, e1, e2, e4, e5, e8, rq, H0, H1, H4, hw, hl, hd, nm, seval]
   rw [hJ]
   exact ⟨m, qZc _, i + 1, (i : Int), some (setS l (i : Int)), by omega, rfl, qZh hnx (qZe _ _), by simp only [ua, seval, tyf], by simp only [ua, seval, H1], by simp only [ua, seval, tyf, accC], by simp only [ua, seval, e1], by simp only [ua, seval, e2], by simp only [ua, seval, e4], by simp only [ua, seval] <;> rfl, by simp only [ua, seval], h⟩
end Go.V
end
