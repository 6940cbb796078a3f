/- Part of a proof. -/
import Derived.Test.YtlkognggeadanaaGreatDoorIbk
set_option linter.all false
set_option maxRecDepth 4000
set_option maxHeartbeats 40000000
section
namespace Go.V
open Go Go.Proofs IntKind
section
variable {K V : Type} {q : K → K → Bool} {z : V}
def hasR (q : K → K → Bool) (k : K) : List (K × V) → Bool
 | [] => false
 | e :: l => q k e.1 || hasR q k l
theorem Iq (k : K) : ∀ l : List (K × V), mapHas q l k = hasR q k l
 | [] => rfl
 | e :: l => by
  have ih := Iq k l
  unfold mapHas at ih ⊢
  rw [List.map_cons]
  unfold kIdx hasR
  cases hq : q k e.1 with
  | true => rfl
  | false =>
   simp only [cond_false, Bool.false_or]
   rw [BC, Option.isSome_map, ih]
theorem xX (hq : ∀ a b, q a b = true ↔ a = b) (k k' : K) (v : V) : ∀ l : List (K × V), hasR q k' (setR q k v l) = (q k' k || hasR q k' l)
 | [] => by simp [setR, hasR]
 | e :: l => by
  have ih := xX hq k k' v l
  unfold setR
  cases he : q k e.1 with
  | true =>
   have e1 := (hq _ _).1 he
   simp only [if_true, hasR, ← e1]
   cases q k' k <;> simp
  | false =>
   simp only [Bool.false_eq_true, if_false, hasR, ih]
   cases q k' e.1 <;> cases q k' k <;> simp
end
theorem BD (a b : Glp) : dg a b = true ↔ a = b := ⟨rL a b, fun h => by rw [h]; exact tq b⟩
def lastP (l r : Int) : List GLp → Option GSpan → Option GSpan
 | [], a => a
 | p :: ps, a => lastP l r ps (if l = p.Left ∧ r = p.Right then some p.Space else a)
def MapOk (m : List (Glp × GSpan)) (A : Int → Int → Option GSpan) : Prop := ∀ l r, mapHas dg m (Glp.mk l r) = (A l r).isSome ∧ ∀ v, A l r = some v → mapGet dg (GSpan.mk 0 0) m (Glp.mk l r) = v
theorem xY : ∀ (ps : List GLp) (i : Int) (m : List (Glp × GSpan)) (A : Int → Int → Option GSpan), MapOk m A → ∃ m', vF ps i m = some (.go m') ∧ MapOk m' (fun l r => lastP l r ps (A l r))
 | [], i, m, A, h => ⟨m, rfl, h⟩
 | p :: ps, i, m, A, h => by
  simp only [vF]
  obtain ⟨m', h1, h2⟩ := xY ps (i + 1) (mapSet dg m (Glp.mk p.Left p.Right) p.Space) (fun l r => if l = p.Left ∧ r = p.Right then some p.Space else A l r) (fun l r => by
   rw [Iq, BE, xX BD, ← Iq, (h l r).1, ← BE, Ir BD]
   by_cases hk : l = p.Left ∧ r = p.Right
   ·have : dg (Glp.mk l r) (Glp.mk p.Left p.Right) = true := (BD _ _).2 (by rw [hk.1, hk.2])
    rw [this]
    simp only [if_pos hk]
    simp
   ·have : dg (Glp.mk l r) (Glp.mk p.Left p.Right) = false := by
     cases hh : dg (Glp.mk l r) (Glp.mk p.Left p.Right) with
     | false => rfl
     | true =>
      have := (BD _ _).1 hh
      simp only [Glp.mk.injEq] at this
      exact absurd this hk
    rw [this]
    simp only [if_neg hk]
    simpa using (h l r).2)
  exact ⟨m', h1, h2⟩
abbrev FL := GLe × Int × Bool
def letW (i : Int) (al : Int) : List Int → Int → List FL
 | [], _ => []
 | c :: cs, k => (GLe.mk i (k + 1), c, decide (k + 1 < al)) :: letW i al cs (k + 1)
def ltrsL (out : List Int) : List GLw → Int → List FL
 | [], _ => []
 | w :: ws, i => cond (out.contains i) (ltrsL out ws (i + 1)) (letW i (w.Signs.length : Int) w.Signs 0 ++ ltrsL out ws (i + 1))
def AL : List GLe → List FL → Prop
 | [], [] => True
 | [], _ :: _ => False
 | _ :: _, [] => False
 | e :: es, f :: fl => if e = f.1 then AL es fl else AL (e :: es) fl
def mkS : List GLe → List FL → Int → List Glm × List GLe × Int
 | es, [], r => ([], es, r)
 | [], _ :: _, r => ([], [], r)
 | e :: es, f :: fl, r => if e = f.1 then (Glm.mk f.1.Word f.2.1 r f.2.2 :: (mkS es fl (r + 1)).1, (mkS es fl (r + 1)).2) else (Glm.mk f.1.Word f.2.1 r false :: (mkS (e :: es) fl r).1, (mkS (e :: es) fl r).2)
theorem roomOk32 {n : Nat} (h : n ≤ 1000) : aB 32 n = true := by simp [aB]; omega
theorem tt (x : GLx) (hl : x.Ends.length < 1000000) (i : Int) (w : GLw) : ∀ (cs : List Int) (k r : Int) (acc : List Glm) (es : List GLe) (fl : List FL), 0 ≤ k → k + cs.length ≤ 1000 → 0 ≤ r → r + es.length = x.Ends.length → x.Ends.drop r.toNat = es → AL es (letW i (w.Signs.length : Int) cs k ++ fl) → acc.length + cs.length ≤ 1000 →
  lX x i w cs k r acc = some (.go ((mkS es (letW i (w.Signs.length : Int) cs k) r).2.2, acc ++ (mkS es (letW i (w.Signs.length : Int) cs k) r).1)) ∧ AL (mkS es (letW i (w.Signs.length : Int) cs k) r).2.1 fl ∧ 0 ≤ (mkS es (letW i (w.Signs.length : Int) cs k) r).2.2 ∧ (mkS es (letW i (w.Signs.length : Int) cs k) r).2.2 + (mkS es (letW i (w.Signs.length : Int) cs k) r).2.1.length = x.Ends.length ∧ x.Ends.drop (mkS es (letW i (w.Signs.length : Int) cs k) r).2.2.toNat = (mkS es (letW i (w.Signs.length : Int) cs k) r).2.1 ∧ (mkS es (letW i (w.Signs.length : Int) cs k) r).1.length = cs.length
 | [], k, r, acc, es, fl, _, _, h0, h1, h2, h3, _ => by
  cases es <;> exact ⟨by simp [lX, letW, mkS], h3, h0, h1, h2, rfl⟩
 | c :: cs, k, r, acc, es, fl, jz, hk, h0, h1, h2, h3, h4 => by
  simp only [List.length_cons] at h4 hk
  cases es with
  | nil => exact h3.elim
  | cons e es =>
   have hg : getI x.Ends r = some e := dU h0 h2
   simp only [List.length_cons] at h1
   simp only [lX, hg, Option.bind_some]
   rw [BF e (GLe.mk i (k + 1)), lY (by omega) (by omega)]
   simp only [letW, List.cons_append] at h3 ⊢
   unfold AL at h3
   unfold mkS
   by_cases he : e = GLe.mk i (k + 1)
   ·simp only [he, if_true] at h3 ⊢
    simp only [decide_true, cond_true]
    rw [roomOk32 (by simp; omega), cond_true]
    obtain ⟨q1, q2, q3, q4, q5, q6⟩ := tt x hl i w cs (k + 1) (r + 1) (acc ++ [Glm.mk i c r (decide (k + 1 < (w.Signs.length : Int)))]) es fl (by omega) (by omega) (by omega) (by omega) (bY h0 h2) h3 (by simp; omega)
    refine ⟨?_, q2, q3, q4, q5, by simp [q6]⟩
    rw [q1]
    simp
   ·simp only [if_neg he] at h3 ⊢
    rw [decide_eq_false he, cond_false, roomOk32 (by simp; omega), cond_true]
    obtain ⟨q1, q2, q3, q4, q5, q6⟩ := tt x hl i w cs (k + 1) r (acc ++ [Glm.mk i c r false]) (e :: es) fl (by omega) (by omega) h0 (by simp only [List.length_cons]; omega) h2 h3 (by simp; omega)
    refine ⟨?_, q2, q3, q4, q5, by simp [q6]⟩
    rw [q1]
    simp
theorem rM {e : GLe} {f : FL} {es : List GLe} {fl : List FL} {r : Int} (h : e = f.1) : mkS (e :: es) (f :: fl) r = (Glm.mk f.1.Word f.2.1 r f.2.2 :: (mkS es fl (r + 1)).1, (mkS es fl (r + 1)).2) := by
 rw [mkS, if_pos h]
theorem rN {e : GLe} {f : FL} {es : List GLe} {fl : List FL} {r : Int} (h : ¬ e = f.1) : mkS (e :: es) (f :: fl) r = (Glm.mk f.1.Word f.2.1 r false :: (mkS (e :: es) fl r).1, (mkS (e :: es) fl r).2) := by
 rw [mkS, if_neg h]
theorem tu : ∀ (a b : List FL) (es : List GLe) (r : Int), AL es (a ++ b) → (mkS es (a ++ b) r).1 = (mkS es a r).1 ++ (mkS (mkS es a r).2.1 b (mkS es a r).2.2).1 ∧ (mkS es (a ++ b) r).2 = (mkS (mkS es a r).2.1 b (mkS es a r).2.2).2
 | [], b, es, r, _ => by cases es <;> simp [mkS]
 | f :: a, b, [], r, h => h.elim
 | f :: a, b, e :: es, r, h => by
  rw [List.cons_append] at h ⊢
  unfold AL at h
  by_cases he : e = f.1
  ·rw [if_pos he] at h
   obtain ⟨h1, h2⟩ := tu a b es (r + 1) h
   rw [rM he, rM he]
   simp only [h1, h2, List.cons_append, and_self]
  ·rw [if_neg he] at h
   obtain ⟨h1, h2⟩ := tu a b (e :: es) r h
   rw [rN he, rN he]
   simp only [h1, h2, List.cons_append, and_self]
theorem xZ (i al : Int) : ∀ (cs : List Int) (k : Int), (letW i al cs k).length = cs.length
 | [], _ => rfl
 | c :: cs, k => by simp [letW, xZ i al cs]
theorem tv (x : GLx) (ho : lenOk x.Out = true) (hl : x.Ends.length < 1000000) : ∀ (ws : List GLw) (i r : Int) (acc : List Glm) (es : List GLe), (∀ w ∈ ws, w.Signs.length ≤ 6) → 0 ≤ r → r + es.length = x.Ends.length → x.Ends.drop r.toNat = es → AL es (ltrsL x.Out ws i) → acc.length + 6 * ws.length ≤ 1000 →
  pN x ws i r acc = some (.go ((mkS es (ltrsL x.Out ws i) r).2.2, acc ++ (mkS es (ltrsL x.Out ws i) r).1))
 | [], i, r, acc, es, _, _, _, _, h3, _ => by
  cases es with
  | nil => simp [pN, ltrsL, mkS]
  | cons e es => exact h3.elim
 | w :: ws, i, r, acc, es, hw, h0, h1, h2, h3, h4 => by
  simp only [List.length_cons] at h4
  have BG := hw w (qZb ..)
  have Qh : ∀ v ∈ ws, v.Signs.length ≤ 6 := fun v hv => hw v (qZa _ hv)
  simp only [pN, Qi _ _ ho, Option.bind_some]
  unfold ltrsL at h3 ⊢
  cases hc : x.Out.contains i with
  | true =>
   rw [hc] at h3
   simp only [cond_true] at h3 ⊢
   exact tv x ho hl ws (i + 1) r acc es Qh h0 h1 h2 h3 (by omega)
  | false =>
   rw [hc] at h3
   simp only [cond_false] at h3 ⊢
   obtain ⟨q1, q2, q3, q4, q5, q6⟩ := tt x hl i w w.Signs 0 r acc es (ltrsL x.Out ws (i + 1)) (by omega) (by omega) h0 h1 h2 h3 (by omega)
   obtain ⟨a1, a2⟩ := tu _ _ es r h3
   rw [nF (by omega), cond_true, q1, og, tv x ho hl ws (i + 1) _ _ _ Qh q3 q4 q5 q2 (by simp only [List.length_append, q6]; omega), a1, a2]
   simp
theorem vG {i al : Int} {f : FL} : ∀ {cs : List Int} {k : Int}, f ∈ letW i al cs k → f.1.Word = i ∧ k + 1 ≤ f.1.Letters ∧ f.1.Letters ≤ k + cs.length ∧ f.2.1 ∈ cs ∧ f.2.2 = decide (f.1.Letters < al)
 | [], _, h => by cases h
 | c :: cs, k, h => by
  rcases List.mem_cons.1 h with rfl | h
  ·exact ⟨rfl, qZf _, by simp; omega, qZb .., rfl⟩
  ·obtain ⟨h1, h2, h3, h4, h5⟩ := vG h
   exact ⟨h1, by omega, by simp only [List.length_cons]; omega, qZa _ h4, h5⟩
theorem Is {i al : Int} : ∀ (cs : List Int) (k : Int) (n : Int), k + 1 ≤ n → n ≤ k + cs.length → GLe.mk i n ∈ (letW i al cs k).map (·.1)
 | [], k, n, h1, h2 => by simp at h2; omega
 | c :: cs, k, n, h1, h2 => by
  simp only [List.length_cons] at h2
  simp only [letW, List.map_cons]
  by_cases h : n = k + 1
  ·rw [h]; exact qZb ..
  ·exact qZa _ (Is cs (k + 1) n (by omega) (by omega))
theorem ya {i al : Int} : ∀ (cs : List Int) (k : Int), ((letW i al cs k).map (·.1)).Pairwise befE
 | [], _ => List.Pairwise.nil
 | c :: cs, k => by
  simp only [letW, List.map_cons, List.pairwise_cons]
  refine ⟨fun x hx => ?_, ya cs (k + 1)⟩
  obtain ⟨f, hf, rfl⟩ := List.mem_map.1 hx
  obtain ⟨h1, h2, _⟩ := vG hf
  exact .inr ⟨h1.symm, by show k + 1 < _; omega⟩
theorem vH {out : List Int} {f : FL} : ∀ {ws : List GLw} {i : Int}, f ∈ ltrsL out ws i → i ≤ f.1.Word ∧ ∃ w ∈ ws, f.2.1 ∈ w.Signs
 | [], _, h => by cases h
 | w :: ws, i, h => by
  unfold ltrsL at h
  cases hc : out.contains i with
  | true =>
   rw [hc, cond_true] at h
   obtain ⟨h1, v, h2, h3⟩ := vH h
   exact ⟨by omega, v, qZa _ h2, h3⟩
  | false =>
   rw [hc, cond_false] at h
   rcases List.mem_append.1 h with h | h
   ·obtain ⟨h1, _, _, h4, _⟩ := vG h
    exact ⟨by omega, w, qZb .., h4⟩
   ·obtain ⟨h1, v, h2, h3⟩ := vH h
    exact ⟨by omega, v, qZa _ h2, h3⟩
theorem BH (out : List Int) : ∀ (ws : List GLw) (i : Int), ((ltrsL out ws i).map (·.1)).Pairwise befE
 | [], _ => List.Pairwise.nil
 | w :: ws, i => by
  unfold ltrsL
  cases out.contains i with
  | true => exact BH out ws (i + 1)
  | false =>
   rw [cond_false, List.map_append, List.pairwise_append]
   refine ⟨ya _ _, BH out ws (i + 1), fun a ha b hb => ?_⟩
   obtain ⟨f, hf, rfl⟩ := List.mem_map.1 ha
   obtain ⟨g, hg, rfl⟩ := List.mem_map.1 hb
   have h1 := (vG hf).1
   have h2 := (vH hg).1
   left; omega
theorem yb (out : List Int) : ∀ (ws : List GLw) (i : Int), (∀ w ∈ ws, 1 ≤ w.Signs.length ∧ ∀ c ∈ w.Cuts, 1 ≤ c ∧ c < (w.Signs.length : Int)) → ∀ e ∈ possL out ws i, e ∈ (ltrsL out ws i).map (·.1)
 | [], _, _, e, he => by simp [possL] at he
 | w :: ws, i, h, e, he => by
  have hw := h w (qZb ..)
  have ih := yb out ws (i + 1) (fun v hv => h v (qZa _ hv)) e
  unfold possL at he
  unfold ltrsL
  cases hc : out.contains i with
  | true => rw [hc, cond_true] at he; exact ih he
  | false =>
   rw [hc, cond_false] at he
   rw [cond_false, List.map_append, List.mem_append]
   rcases List.mem_append.1 he with he | he
   ·left
    obtain ⟨h1, h2⟩ := yc.1 he
    obtain ⟨a, b⟩ := e
    subst h1
    rcases h2 with h2 | h2
    ·have := hw.2 _ h2
     exact Is _ _ _ (by simp only at this ⊢; omega) (by simp only at this ⊢; omega)
    ·simp only at h2
     subst h2
     exact Is _ _ _ (by omega) (by omega)
   ·exact .inr (ih he)
theorem Qj (i al : Int) : ∀ (cs : List Int) (k : Int), cs ≠ [] → ((letW i al cs k).map (·.1)).getLast? = some (GLe.mk i (k + cs.length))
 | [], _, h => absurd rfl h
 | [c], k, _ => by simp [letW]
 | c :: d :: cs, k, _ => by
  have ih := Qj i al (d :: cs) (k + 1) (by simp)
  rw [letW, List.map_cons, List.getLast?_cons, ih]
  simp only [List.length_cons, Option.getD_some, Option.some.injEq, GLe.mk.injEq, true_and]
  omega
theorem Qk (out : List Int) : ∀ (ws : List GLw) (i : Int), (∀ w ∈ ws, 1 ≤ w.Signs.length) → ((ltrsL out ws i).map (·.1)).getLast? = (possL out ws i).getLast?
 | [], _, _ => rfl
 | w :: ws, i, h => by
  have hw := h w (qZb ..)
  have ih := Qk out ws (i + 1) fun v hv => h v (qZa _ hv)
  unfold ltrsL possL
  cases out.contains i with
  | true => exact ih
  | false =>
   have hne : w.Signs ≠ [] := by intro h; rw [h] at hw; simp at hw
   simp only [cond_false, List.map_append, List.getLast?_append, ih, Qj _ _ _ _ hne]
   congr 1
   simp [posW]
theorem AL_of : ∀ (es : List GLe) (fl : List FL), es.Pairwise befE → (fl.map (·.1)).Pairwise befE → (∀ e ∈ es, e ∈ fl.map (·.1)) → es.getLast? = (fl.map (·.1)).getLast? → AL es fl
 | [], [], _, _, _, _ => trivial
 | [], f :: fl, _, _, _, h => by simp [List.getLast?_cons] at h
 | e :: es, [], _, _, h, _ => by have := h e (qZb ..); cases this
 | e :: es, f :: fl, h1, h2, h3, h4 => by
  rw [List.map_cons, List.pairwise_cons] at h2
  unfold AL
  by_cases he : e = f.1
  ·rw [if_pos he]
   rw [List.pairwise_cons] at h1
   refine AL_of es fl h1.2 h2.2 (fun x hx => ?_) ?_
   ·rcases List.mem_cons.1 (h3 x (qZa _ hx)) with h | h
    ·have := h1.1 x hx
     have h' : x = f.1 := h
     rw [h', ← he] at this
     exact absurd this nG
    ·exact h
   ·rw [List.map_cons, List.getLast?_cons, List.getLast?_cons, Option.some.injEq] at h4
    cases hp : es.getLast? with
    | none =>
     rw [hp] at h4
     cases hr : (fl.map (·.1)).getLast? with
     | none => rfl
     | some y =>
      rw [hr] at h4
      simp only [Option.getD_none, Option.getD_some] at h4
      have := h2.1 _ (List.mem_of_getLast? hr)
      rw [← h4, he] at this
      exact absurd this nG
    | some z =>
     rw [hp] at h4
     cases hr : (fl.map (·.1)).getLast? with
     | none =>
      rw [hr] at h4
      simp only [Option.getD_none, Option.getD_some] at h4
      have := h1.1 _ (List.mem_of_getLast? hp)
      rw [h4, he] at this
      exact absurd this nG
     | some y =>
      rw [hr] at h4
      simp only [Option.getD_some] at h4
      rw [h4]
  ·rw [if_neg he]
   have hbe : befE f.1 e := by
    rcases List.mem_cons.1 (h3 e (qZb ..)) with h | h
    ·exact absurd h he
    ·exact h2.1 e h
   refine AL_of (e :: es) fl h1 h2.2 (fun x hx => ?_) ?_
   ·rcases List.mem_cons.1 (h3 x hx) with h | h
    ·exfalso
     rcases List.mem_cons.1 hx with hx | hx
     ·exact he (by rw [← hx, h])
     ·have := (List.pairwise_cons.1 h1).1 x hx
      rw [h] at this
      exact nG (tw hbe this)
    ·exact h
   ·rw [h4, List.map_cons, List.getLast?_cons]
    cases hr : (fl.map (·.1)).getLast? with
    | none =>
     exfalso
     have := List.getLast?_eq_none_iff.1 hr
     rcases List.mem_cons.1 (h3 e (qZb ..)) with h | h
     ·exact he h
     ·rw [this] at h; cases h
    | some y => rfl
end Go.V
end
section
namespace Go.V
open Go Go.Proofs IntKind
def mkOk (b : Nat) (n : Int) : Bool := decide (0 ≤ n) && aB b n.toNat
theorem yd {b : Nat} {n : Int} : mkOk b n = true ↔ 0 ≤ n ∧ n.toNat * b ≤ 140737488355328 := by
 unfold mkOk aB
 rw [Bool.and_eq_true, decide_eq_true_eq, decide_eq_true_eq]
theorem It {v : Value} (n : Nat) : vzeros #[v] n = List.replicate n (ofVal1 v) := by
 unfold vzeros
 rw [List.eq_replicate_iff]
 refine ⟨by simp, fun x hx => ?_⟩
 obtain ⟨i, _, rfl⟩ := List.mem_map.1 hx
 have : i % (#[v] : Array Value).size = 0 := by simp [Nat.mod_one]
 rw [this]
 rfl
theorem Ql {α : Type} {enc : α → List VV} {z : α} {x : VV} (h : enc z = [x]) : ∀ n : Nat, aa enc (List.replicate n z) = List.replicate n x
 | 0 => rfl
 | n + 1 => by rw [List.replicate_succ, List.replicate_succ, eY, h, Ql h n]; rfl
section
variable {P : Program} {G : Glob} {γ : Nat} {tm : Nat → VV} {H : Nat → Option VObj} {α : Type} {enc : α → List VV} {z : α} {t e b : Nat} {n : Int} {v : Value} {x y : Operand} {d : Option Tmp} {ty : TypeId} {pos : String} {af : Array Edge} {g : Option (Nat × Bool)} {k : VV → VEff → Prop}
theorem k_mkS (ha : appOk P t = some (e, 1, b)) (hz : vzero P e = some #[v]) (hzv : enc z = [ofVal1 v]) (hx : ev G tm x = .lit (.int .i64 n)) (hy : ev G tm y = .lit (.int .i64 n)) (hg : mkOk b n = true)
  (h : k (.ref γ 0 (List.replicate n.toNat z).length 1 (List.replicate n.toNat z).length) (.new (.cells (some e) (aa enc (List.replicate n.toNat z))))) : oeK (vop P ⟨d, .makeSlice t x y, ty, pos, af, g⟩ (ev G tm) H γ) k := by
 obtain ⟨hu, inf, zz, hi, hzz, hs, hb, uR, sF, hzs⟩ := Bo ha
 obtain ⟨h0, h1⟩ := yd.1 hg
 have hzc : zz.cells = #[v] := by
  unfold vzero at hz
  rw [hi] at hz
  simp only [Option.bind_some, hzz, Option.map_some, Option.some.injEq] at hz
  exact hz
 have hk : vmakeSlice P t (.lit (.int .i64 n)) (.lit (.int .i64 n)) = some (List.replicate n.toNat (ofVal1 v), n.toNat, 1) := by
  have h2 : (inf.bytes : Int) * n ≤ 140737488355328 := by
   rw [hb]
   have h3 : ((n.toNat * b : Nat) : Int) ≤ ((140737488355328 : Nat) : Int) := Int.ofNat_le.2 h1
   rw [Int.natCast_mul, Int.toNat_of_nonneg h0, Int.mul_comm] at h3
   exact h3
  have hb0' : 0 < inf.bytes := by rw [hb]; exact sF
  unfold vmakeSlice
  rw [hu]
  simp only [hi, hzz]
  rw [hs, hzc, if_pos ⟨h0, qZf _, Nat.zero_lt_one, hb0', h2, rfl⟩, Nat.mul_one, It]
 have he : elemT P t = some e := by simp [elemT, hu]
 rw [Ql hzv, List.length_replicate] at h
 simp only [vop, hx, hy, hk, Option.map_some, he]
 exact h
end
end Go.V
end
section
namespace Go.V
open Go Go.Proofs IntKind
def rO (ak : Gld) (bZ : GSpan) : Option (Int) := some (i64.wrap (bZ.Low + (i64.wrap (Int.tdiv (i64.wrap ((i64.wrap (bZ.High - bZ.Low)) * ak.stretch)) 10))))
theorem BI (ak : Gld) (bZ : GSpan) (R : Int) (h : rO ak bZ = some R) : ad Tryz.prog G0 170 [.agg (cGld ak), .agg (cGSpan bZ)] (.tree (.lit (.int .i64 R))) := by
 refine ad.runR mixed Tryz.call170 Tryz.func170 rfl (by simp [Tryz.ntmps170]; kernel_rfl) ?_
 obtain ⟨KF, h, kF, kN⟩ := ec h
 simp only [rO] at h
 try simp only [vz, mq, mqm, qr, tyf, mqt, nm, seval]
 refine cG (x := (.lit (.int .i64 (i64.wrap (bZ.Low + (i64.wrap (Int.tdiv (i64.wrap ((i64.wrap (bZ.High - bZ.Low)) * ak.stretch)) 10))))))) (by first | (simp only [Tryz.results170, resV, resL, aD, cX, cW, uw, cr, tyf, mqt, nm, seval] <;> rfl) | rfl) ?_
 obtain rfl := kF _ h
 refine cY ?_ ?_
 ·simp only [tre, ar, mqr, Bool.and_self]
 ·first | (simp only [outV, uw, eu, jR, jK, cr, tyf, mqt, nrm, au, nm, seval] <;> rfl) | rfl
def ye (ak : Gld) (aV : Int) : Option (Int) := Option.bind (getI ak.marks aV) (fun x1 => cond (x1.hyphen) (Option.bind (rO ak ak.ls.Other) (fun r2 => some r2)) (cond ((i64.wrap (aV + 1)) == (List.length ak.marks : Int)) (some 0) (Option.bind (getI ak.marks (i64.wrap (aV + 1))) (fun x3 => cond (x3.row != x1.row) (some 0) (cond (x3.word != x1.word) (Option.bind (rO ak ak.ls.Gap) (fun r4 => some r4)) (cond (mapHas dg ak.spaces (Glp.mk x1.sign x3.sign)) (Option.bind (rO ak (mapGet dg (GSpan.mk 0 0) ak.spaces (Glp.mk x1.sign x3.sign))) (fun r5 => some r5)) (Option.bind (rO ak ak.ls.Other) (fun r6 => some r6))))))))
theorem Qm (ak : Gld) (aV : Int) (R : Int) (h : ye ak aV = some R) : ad Tryz.prog G0 153 [.agg (cGld ak), .lit (.int .i64 aV)] (.tree (.lit (.int .i64 R))) := by
 refine ad.runR mixed Tryz.call153 Tryz.func153 rfl (by simp [Tryz.ntmps153]; kernel_rfl) ?_
 obtain ⟨KF, h, kF, kN⟩ := ec h
 simp only [ye] at h
 obtain ⟨x7, o8, h⟩ := optI h kN
 try simp only [hs] at h
 cases d9 : (x7.hyphen)
 ·simp only [d9, hs] at h
  cases dc : ((i64.wrap (aV + 1)) == (List.length ak.marks : Int))
  ·simp only [dc, hs] at h
   obtain ⟨BJ, iQ, h⟩ := optI h kN
   try simp only [hs] at h
   cases bW : (BJ.row != x7.row)
   ·simp only [bW, hs] at h
    cases bE : (BJ.word != x7.word)
    ·simp only [bE, hs] at h
     cases db : (mapHas dg ak.spaces (Glp.mk x7.sign BJ.sign))
     ·simp only [db, hs] at h
      obtain ⟨yf, yg, h⟩ := optI h kN
      try simp only [hs] at h
      simp only [vz, mq, mqm, tyf, mqt, (bc o8), d9, dc, (bc iQ), bW, bE, db, nm, seval]
      refine ktree (args0 := [.agg (cGld ak), .agg (cGSpan ak.ls.Other)]) (by first | (simp only [nrm, au, @Bu, tyf, mqt, d9, dc, bW, bE, db] <;> rfl) | rfl) (by simp only [tre, ar, mqr, Bool.and_self]) (BI _ _ _ yg) ?_
      refine bC (fun tm => tm 67 = .lit (.int .i64 yf) ∧ True) (by refine ⟨?_, trivial⟩ <;> first | (simp only [ua, bT, d9, dc, bW, bE, db, nm, seval] <;> rfl) | rfl | (simp only [ua, bT, tyf, mqt, d9, dc, bW, bE, db, nm, seval] <;> rfl)) ?_
      rintro tm ⟨fb, _⟩
      try simp only [vz, mq, mqm, tyf, mqt, (bc o8), d9, dc, (bc iQ), bW, bE, db, fb, nm, seval]
      refine cG (x := (.lit (.int .i64 yf))) (by first | (simp only [Tryz.results153, resV, resL, aD, cX, cW, uw, cr, tyf, mqt, (bc o8), d9, dc, (bc iQ), bW, bE, db, nm, seval] <;> rfl) | rfl) ?_
      obtain rfl := kF _ h
      refine cY ?_ ?_
      ·simp only [tre, ar, mqr, Bool.and_self]
      ·first | (simp only [outV, uw, eu, jR, jK, cr, tyf, mqt, nrm, au, (bc o8), d9, dc, (bc iQ), bW, bE, db, fb, nm, seval] <;> rfl) | rfl
     simp only [db, hs] at h
     obtain ⟨tx, jL, h⟩ := optI h kN
     try simp only [hs] at h
     simp only [vz, mq, mqm, tyf, mqt, (bc o8), d9, dc, (bc iQ), bW, bE, db, nm, seval]
     refine ktree (args0 := [.agg (cGld ak), .agg (cGSpan (mapGet dg (GSpan.mk 0 0) ak.spaces (Glp.mk x7.sign BJ.sign)))]) (by first | (simp only [nrm, au, @Bu, tyf, mqt, d9, dc, bW, bE, db] <;> rfl) | rfl) (by simp only [tre, ar, mqr, Bool.and_self]) (BI _ _ _ jL) ?_
     refine bC (fun tm => tm 62 = .lit (.int .i64 tx) ∧ True) (by refine ⟨?_, trivial⟩ <;> first | (simp only [ua, bT, d9, dc, bW, bE, db, nm, seval] <;> rfl) | rfl | (simp only [ua, bT, tyf, mqt, d9, dc, bW, bE, db, nm, seval] <;> rfl)) ?_
     rintro tm ⟨ed, _⟩
     try simp only [vz, mq, mqm, tyf, mqt, (bc o8), d9, dc, (bc iQ), bW, bE, db, ed, nm, seval]
     refine cG (x := (.lit (.int .i64 tx))) (by first | (simp only [Tryz.results153, resV, resL, aD, cX, cW, uw, cr, tyf, mqt, (bc o8), d9, dc, (bc iQ), bW, bE, db, nm, seval] <;> rfl) | rfl) ?_
     obtain rfl := kF _ h
     refine cY ?_ ?_
     ·simp only [tre, ar, mqr, Bool.and_self]
     ·first | (simp only [outV, uw, eu, jR, jK, cr, tyf, mqt, nrm, au, (bc o8), d9, dc, (bc iQ), bW, bE, db, ed, nm, seval] <;> rfl) | rfl
    simp only [bE, hs] at h
    obtain ⟨yh, kM, h⟩ := optI h kN
    try simp only [hs] at h
    simp only [vz, mq, mqm, tyf, mqt, (bc o8), d9, dc, (bc iQ), bW, bE, nm, seval]
    refine ktree (args0 := [.agg (cGld ak), .agg (cGSpan ak.ls.Gap)]) (by first | (simp only [nrm, au, @Bu, tyf, mqt, d9, dc, bW, bE] <;> rfl) | rfl) (by simp only [tre, ar, mqr, Bool.and_self]) (BI _ _ _ kM) ?_
    refine bC (fun tm => tm 47 = .lit (.int .i64 yh) ∧ True) (by refine ⟨?_, trivial⟩ <;> first | (simp only [ua, bT, d9, dc, bW, bE, nm, seval] <;> rfl) | rfl | (simp only [ua, bT, tyf, mqt, d9, dc, bW, bE, nm, seval] <;> rfl)) ?_
    rintro tm ⟨dV, _⟩
    try simp only [vz, mq, mqm, tyf, mqt, (bc o8), d9, dc, (bc iQ), bW, bE, dV, nm, seval]
    refine cG (x := (.lit (.int .i64 yh))) (by first | (simp only [Tryz.results153, resV, resL, aD, cX, cW, uw, cr, tyf, mqt, (bc o8), d9, dc, (bc iQ), bW, bE, nm, seval] <;> rfl) | rfl) ?_
    obtain rfl := kF _ h
    refine cY ?_ ?_
    ·simp only [tre, ar, mqr, Bool.and_self]
    ·first | (simp only [outV, uw, eu, jR, jK, cr, tyf, mqt, nrm, au, (bc o8), d9, dc, (bc iQ), bW, bE, dV, nm, seval] <;> rfl) | rfl
   simp only [bW, hs] at h
   try simp only [vz, mq, mqm, tyf, mqt, (bc o8), d9, dc, (bc iQ), bW, nm, seval]
   refine cG (x := (.lit (.int .i64 0))) (by first | (simp only [Tryz.results153, resV, resL, aD, cX, cW, uw, cr, tyf, mqt, (bc o8), d9, dc, (bc iQ), bW, nm, seval] <;> rfl) | rfl) ?_
   obtain rfl := kF _ h
   refine cY ?_ ?_
   ·simp only [tre, ar, mqr, Bool.and_self]
   ·first | (simp only [outV, uw, eu, jR, jK, cr, tyf, mqt, nrm, au, (bc o8), d9, dc, (bc iQ), bW, nm, seval] <;> rfl) | rfl
  simp only [dc, hs] at h
  try simp only [vz, mq, mqm, tyf, mqt, (bc o8), d9, dc, nm, seval]
  refine cG (x := (.lit (.int .i64 0))) (by first | (simp only [Tryz.results153, resV, resL, aD, cX, cW, uw, cr, tyf, mqt, (bc o8), d9, dc, nm, seval] <;> rfl) | rfl) ?_
  obtain rfl := kF _ h
  refine cY ?_ ?_
  ·simp only [tre, ar, mqr, Bool.and_self]
  ·first | (simp only [outV, uw, eu, jR, jK, cr, tyf, mqt, nrm, au, (bc o8), d9, dc, nm, seval] <;> rfl) | rfl
 simp only [d9, hs] at h
 obtain ⟨Qn, lZ, h⟩ := optI h kN
 try simp only [hs] at h
 simp only [vz, mq, mqm, tyf, mqt, (bc o8), d9, nm, seval]
 refine ktree (args0 := [.agg (cGld ak), .agg (cGSpan ak.ls.Other)]) (by first | (simp only [nrm, au, @Bu, tyf, mqt, d9] <;> rfl) | rfl) (by simp only [tre, ar, mqr, Bool.and_self]) (BI _ _ _ lZ) ?_
 refine bC (fun tm => tm 20 = .lit (.int .i64 Qn) ∧ True) (by refine ⟨?_, trivial⟩ <;> first | (simp only [ua, bT, d9, nm, seval] <;> rfl) | rfl | (simp only [ua, bT, tyf, mqt, d9, nm, seval] <;> rfl)) ?_
 rintro tm ⟨eZ, _⟩
 try simp only [vz, mq, mqm, tyf, mqt, (bc o8), d9, eZ, nm, seval]
 refine cG (x := (.lit (.int .i64 Qn))) (by first | (simp only [Tryz.results153, resV, resL, aD, cX, cW, uw, cr, tyf, mqt, (bc o8), d9, nm, seval] <;> rfl) | rfl) ?_
 obtain rfl := kF _ h
 refine cY ?_ ?_
 ·simp only [tre, ar, mqr, Bool.and_self]
 ·first | (simp only [outV, uw, eu, jR, jK, cr, tyf, mqt, nrm, au, (bc o8), d9, eZ, nm, seval] <;> rfl) | rfl
def tz  : List Int → Int → Int → Option (LOut (Int) (Int))
 | [], gi, dr => some (.go dr)
 | e0 :: p0, gi, dr => tz p0 (gi + 1) (i64.wrap (dr + e0))
def yi (ba : List Int) : Option (Int) := cond (lenOk ba) (lbind (tz ba 0 0) (fun r2 => some r2) (fun c1 => some c1) (fun _ _ => none)) none
theorem Qo (ba : List Int) (R : Int) (h : yi ba = some R) : ad Tryz.prog G0 169 [.sl (aa eI ba) (List.length ba) false] (.tree (.lit (.int .i64 R))) := by
 refine ad.runR mixed Tryz.call169 Tryz.func169 rfl (by simp [Tryz.ntmps169]; kernel_rfl) ?_
 obtain ⟨KF, h, kF, kN⟩ := ec h
 simp only [yi] at h
 cases g4 : (lenOk ba)
 ·simp only [g4, hs] at h
  exact absurd h kN
 simp only [g4, hs] at h
 simp only [vz, tyf, g4, nm, seval]
 obtain ⟨K3, h, sO, rv, GO, GP⟩ := gS h kN
 obtain ⟨f3, sP, h⟩ := call3 h
 obtain ⟨I3, ld⟩ : ∃ I : Nat → St → Prop, I = (fun m st => ∃ (p3 : List Int) (cy : Int) (fH : Int), m = List.length p3 ∧ 0 ≤ cy ∧ List.drop (Int.toNat cy) ba = p3 ∧ st.df = [] ∧ 5 ≤ st.nx ∧ st.tm 6 = .sl (aa eI ba) (List.length ba) false ∧ st.tm 7 = .lit (.int .i64 (List.length ba : Int)) ∧ st.tm 3 = .lit (.int .i64 fH) ∧ st.tm 8 = .lit (.int .i64 cy) ∧ K3 (f3 p3 cy fH)) := ⟨_, rfl⟩
 refine loopK mixed (by kernel_rfl) I3 (List.length ba) (by rw [ld]; refine ⟨ba, 0, 0, rfl, qZf _, rfl, rfl, (show 5 ≤ 5 by omega), ?_, ?_, ?_, ?_, h⟩ <;> first | (simp only [ua, nm, seval] <;> rfl) | rfl) ?_
 rintro m ⟨tm, H, nV, df⟩ hinv
 rw [ld] at hinv
 obtain ⟨p3, cy, fH, rfl, gj, ic, hdf, sQ, e5, e6, e7, e8, h⟩ := hinv
 simp only at hdf sQ e5 e6 e7 e8
 have n9 := gT (m := 5) (b := nV) (by omega)
 subst hdf sP
 cases p3 with
 | nil =>
  have dc : (decide (cy < (List.length ba : Int))) = false := fA gj ic
  simp only [tz, hs, reduceCtorEq] at h
  replace h := rv _ h
  try dsimp only at h
  try simp only [hs] at h
  try simp only [vz, tyf, g4, n9, e5, e6, e7, e8, dc, nm, seval]
  refine cG (x := (.lit (.int .i64 fH))) (by first | (simp only [Tryz.results169, resV, resL, aD, cX, cW, uw, cr, tyf, g4, n9, dc, nm, seval] <;> rfl) | rfl) ?_
  obtain rfl := kF _ h
  refine cY ?_ ?_
  ·simp only [tre, ar, Bool.and_self]
  ·first | (simp only [outV, uw, eu, cr, tyf, nrm, au, g4, n9, e5, e6, e7, e8, dc, nm, seval] <;> rfl) | rfl
 | cons e3 p3 =>
  have iE : (decide (cy < (List.length ba : Int))) = true := fB gj ic
  have m4 := dU gj ic
  have lQ := fC gj ic g4
  simp only [tz, hs, reduceCtorEq] at h
  simp only [vz, tyf, g4, n9, e5, e6, e7, e8, iE, (aC m4), lQ, nm, seval]
  exact ⟨List.length p3, qZc _, by rw [ld]; refine ⟨p3, cy + 1, i64.wrap (fH + e3), rfl, Int.le_trans gj (Int.le_add_one (qZf _)), bY gj ic, rfl, (show 5 ≤ nV + 10 by omega), e5, e6, ?_, ?_, (by first | exact h | (simp only [iE]; exact h))⟩ <;> first | (simp only [ua, n9, e5, e6, e7, e8, iE, lQ, nm, seval] <;> rfl) | rfl⟩
def om (ak : Gld) (br : Int) : List Glm → Int → (List Int) → Option (LOut (Int) ((List Int)))
 | [], gO, fG => some (.go fG)
 | e0 :: p0, gO, fG => cond (e0.row != br) (om ak br p0 (gO + 1) fG) (Option.bind (getI ak.ls.Widths e0.sign) (fun x1 => Option.bind (ye ak gO) (fun r2 => cond (aB 8 (List.length (fG ++ [x1, r2]))) (cond (e0.hyphen) (cond (aB 8 (List.length ((fG ++ [x1, r2]) ++ [ak.ls.Hyphen]))) (om ak br p0 (gO + 1) ((fG ++ [x1, r2]) ++ [ak.ls.Hyphen])) none) (om ak br p0 (gO + 1) (fG ++ [x1, r2]))) none)))
def vI (ak : Gld) (br : Int) : Option (Int) := cond (lenOk ak.marks) (lbind (om ak br ak.marks 0 ([] : List Int)) (fun r5 => some r5) (fun c3 => Option.bind (yi c3) (fun r4 => some r4)) (fun _ _ => none)) none
theorem Qq (ak : Gld) (br : Int) (R : Int) (h : vI ak br = some R) : ad Tryz.prog G0 152 [.agg (cGld ak), .lit (.int .i64 br)] (.tree (.lit (.int .i64 R))) := by
 refine ad.runR mixed Tryz.call152 Tryz.func152 rfl (by simp [Tryz.ntmps152]; kernel_rfl) ?_
 obtain ⟨KF, h, kF, kN⟩ := ec h
 simp only [vI] at h
 cases g7 : (lenOk ak.marks)
 ·simp only [g7, hs] at h
  exact absurd h kN
 simp only [g7, hs] at h
 simp only [vz, mq, mqm, tyf, mqt, g7, nm, seval]
 obtain ⟨K6, h, Iu, t4, Qr, iU⟩ := gS h kN
 obtain ⟨f6, yj, h⟩ := call3 h
 obtain ⟨I6, iV⟩ : ∃ I : Nat → St → Prop, I = (fun m st => ∃ (p6 : List Glm) (bH : Int) (bw : List Int) (j0 : VV), m = List.length p6 ∧ 0 ≤ bH ∧ List.drop (Int.toNat bH) ak.marks = p6 ∧ st.df = [] ∧ 7 ≤ st.nx ∧ st.H 0 = some (.cells (some 93) (cGld ak)) ∧ st.tm 1 = .lit (.int .i64 br) ∧ st.tm 2 = .ptr 0 0 ∧ st.tm 9 = .sl (aa cGlm ak.marks) (List.length ak.marks) false ∧ st.tm 10 = .lit (.int .i64 (List.length ak.marks : Int)) ∧ st.tm 5 = j0 ∧ st.tm 11 = .lit (.int .i64 bH) ∧ ((∃ (β : Nat) (el : Option TypeId), j0 = .ref β 0 (List.length bw) 1 (List.length bw) ∧ β < st.nx ∧ β ≠ 0 ∧ st.H β = some (.cells el (aa eI bw))) ∨ (j0 = .lit (.slice none 0 0) ∧ bw = [])) ∧ K6 (f6 p6 bH bw)) := ⟨_, rfl⟩
 refine loopK mixed (by kernel_rfl) I6 (List.length ak.marks) (by rw [iV]; refine ⟨ak.marks, 0, ([] : List Int), .lit (.slice none 0 0), rfl, qZf _, rfl, rfl, (show 7 ≤ 7 by omega), ?_, ?_, ?_, ?_, ?_, ?_, ?_, Or.inr ⟨rfl, rfl⟩, h⟩ <;> first | (simp only [ua, bT, nm, seval] <;> rfl) | rfl) ?_
 rintro m ⟨tm, H, eh, df⟩ hinv
 rw [iV] at hinv
 obtain ⟨p6, bH, bw, j0, rfl, cZ, eJ, hdf, pO, H8, e9, bg, bj, bD, bt, bS, ka, h⟩ := hinv
 simp only at hdf pO H8 e9 bg bj bD bt bS ka
 have hU := gT (m := 7) (b := eh) (by omega)
 subst hdf yj
 rcases ka with ⟨ir, gP, rfl, t5, Iv, mG⟩ | ⟨rfl, rfl⟩
 ·have ma := t6 t5
  have t7 := ne_f Iv
  cases p6 with
  | nil =>
   have eU : (decide (bH < (List.length ak.marks : Int))) = false := fA cZ eJ
   simp only [om, hs, reduceCtorEq] at h
   replace h := t4 _ h
   try dsimp only at h
   try simp only [hs] at h
   obtain ⟨xC, iS, h⟩ := optI h kN
   try simp only [hs] at h
   simp only [vz, mq, mqm, tyf, mqt, g7, hU, e9, bg, bj, bD, bt, bS, H8, ma, mG, t7, eU, nm, seval]
   refine kseen (args0 := [.sl (aa eI bw) (List.length bw) false]) (by simp only [List.map_cons, List.map_nil, eu, bl, bI, cr, tyf, mqt, nrm, au, g7, hU, e9, bg, bj, bD, bt, bS, H8, ma, mG, t7, eU, nm, seval] <;> rfl) (by simp only [List.map_cons, List.map_nil, eu, bl, bI, cr, tyf, mqt, nrm, au, g7, hU, e9, bg, bj, bD, bt, bS, H8, ma, mG, t7, eU, nm, seval]; simp only [tre, ar, mqr, Bool.and_self]) (Qo _ _ iS) (by first | rfl | simp only [VV.flat, flatL, Bool.and_self]) ?_
   refine bC (fun tm => tm 43 = .lit (.int .i64 xC) ∧ True) (by refine ⟨?_, trivial⟩ <;> first | (simp only [ua, bT, hU, e9, bg, bj, bD, bt, bS, H8, ma, mG, t7, eU, nm, seval] <;> rfl) | rfl) ?_
   rintro tm ⟨dK, _⟩
   have yk := And.intro g7 (And.intro hU (And.intro H8 (And.intro ma (And.intro mG (And.intro t7 eU)))))
   try simp only [vz, mq, mqm, tyf, mqt, yk, dK, nm, seval]
   refine cG (x := (.lit (.int .i64 xC))) (by first | (simp only [Tryz.results152, resV, resL, aD, cX, cW, uw, cr, tyf, mqt, yk, nm, seval] <;> rfl) | rfl) ?_
   obtain rfl := kF _ h
   refine cY ?_ ?_
   ·simp only [tre, ar, mqr, Bool.and_self]
   ·first | (simp only [outV, uw, eu, jR, jK, cr, tyf, mqt, nrm, au, yk, dK, nm, seval] <;> rfl) | rfl
  | cons e6 p6 =>
   have qt : (decide (bH < (List.length ak.marks : Int))) = true := fB cZ eJ
   have lZ := dU cZ eJ
   have Qs := fC cZ eJ g7
   simp only [om, hs, reduceCtorEq] at h
   cases BK : (e6.row != br)
   ·simp only [BK, hs] at h
    have gU := And.intro g7 (And.intro hU (And.intro H8 (And.intro ma (And.intro mG (And.intro t7 (And.intro qt (And.intro Qs BK)))))))
    simp only [vz, mq, mqm, tyf, mqt, gU, e9, bg, bj, bD, bt, bS, (bc lZ), nm, seval]
    refine px (fun tm => tm 1 = .lit (.int .i64 br) ∧ tm 2 = .ptr 0 0 ∧ tm 5 = .ref ir 0 (List.length bw) 1 (List.length bw) ∧ tm 6 = .lit (.int .i64 bH) ∧ tm 7 = .ptr (eh + 4) 0 ∧ tm 9 = .sl (aa cGlm ak.marks) (List.length ak.marks) false ∧ tm 10 = .lit (.int .i64 (List.length ak.marks : Int)) ∧ tm 11 = .lit (.int .i64 bH) ∧ True) (by refine ⟨e9, bg, bt, ?_, ?_, bj, bD, bS, trivial⟩ <;> first | (simp only [ua, bT, gU, e9, bg, bj, bD, bt, bS, nm, seval] <;> rfl) | rfl) ?_
    rintro tm ⟨dM, bu, jW, jj, fx, iF, jS, cL, _⟩
    obtain ⟨oo, nH, h⟩ := optI h iU
    try simp only [hs] at h
    obtain ⟨oq, Ue, h⟩ := optI h iU
    try simp only [hs] at h
    simp only [vz, mq, mqm, tyf, mqt, gU, (bc lZ), dM, bu, jW, jj, fx, iF, jS, cL, (aC nH), nm, seval]
    refine dktree (args0 := [.agg (cGld ak), .lit (.int .i64 bH)]) (by first | (simp only [nrm, au, mqr] <;> rfl) | rfl) (by simp only [tre, ar, mqr, Bool.and_self]) (Qm _ _ _ Ue) ?_
    refine bC (fun tm => tm 1 = .lit (.int .i64 br) ∧ tm 2 = .ptr 0 0 ∧ tm 7 = .ptr (eh + 4) 0 ∧ tm 9 = .sl (aa cGlm ak.marks) (List.length ak.marks) false ∧ tm 10 = .lit (.int .i64 (List.length ak.marks : Int)) ∧ tm 11 = .lit (.int .i64 bH) ∧ tm 20 = .ref ir 0 (List.length bw) 1 (List.length bw) ∧ tm 27 = .lit (.int .i64 oo) ∧ tm 30 = .lit (.int .i64 oq) ∧ True) (by refine ⟨dM, bu, fx, iF, jS, cL, ?_, ?_, ?_, trivial⟩ <;> first | (simp only [ua, bT, gU, dM, bu, jW, jj, fx, iF, jS, cL, nm, seval] <;> rfl) | rfl) ?_
    rintro tm ⟨bG, bx, ca, cT, gm, fK, gN, fF, eF, _⟩
    cases nI : (aB 8 (List.length (bw ++ [oo, oq])))
    ·simp only [nI, hs] at h
     exact absurd h iU
    simp only [nI, hs] at h
    simp only [vz, mq, mqm, tyf, mqt, gU, (bc lZ), (aC nH), bG, bx, ca, cT, gm, fK, gN, fF, eF, nI, nm, seval]
    refine k_app (w := 1) (enc := eI) (xs := bw) (ys := ([oo, oq])) (el := gP) (fz := (some 3)) (fun _ => rfl) ot mH Tryz.underlying22 (by first | rfl | assumption | (simp only [bl, bI, iR, gU, nm, seval] <;> rfl) | (simp only [bl, bI, eY, eQ, eW, eX, tyf, mqt, gU, (bc lZ), (aC nH), bG, bx, ca, cT, gm, fK, gN, fF, eF, nI, nm, seval]; done)) (by first | rfl | assumption | (simp only [bl, bI, iR, gU, nm, seval] <;> rfl) | (simp only [bl, bI, eY, eQ, eW, eX, tyf, mqt, gU, (bc lZ), (aC nH), bG, bx, ca, cT, gm, fK, gN, fF, eF, nI, nm, seval]; done)) (Nat.zero_lt_succ _) nI ?_
    simp only [vz, mq, mqm, tyf, mqt, gU, (bc lZ), (aC nH), bG, bx, ca, cT, gm, fK, gN, fF, eF, nI, nm, seval]
    refine k9 ⟨?_, ?_⟩
    ·simp only [kE, kG, fu, kH, and_true, true_and]
     repeat' (first | exact trivial | refine And.intro ?_ ?_ | rw [fu] | rw [kI] | exact Or.inl (by decide +kernel) | exact Or.inl (by dsimp only; decide +kernel) | (refine Or.inr ⟨?_, ?_⟩ <;> simp; done) | (refine Or.inr ⟨?_, ?_⟩ <;> simp <;> omega) | (refine Or.inr ⟨?_, ?_⟩ <;> simp [VEff.wr] <;> omega))
    cases j1 : (e6.hyphen)
    ·simp only [j1, hs] at h
     simp only [vz, mq, mqm, tyf, mqt, gU, (bc lZ), (aC nH), bG, bx, ca, cT, gm, fK, gN, fF, eF, nI, j1, nm, seval]
     exact ⟨List.length p6, qZc _, by rw [iV]; refine ⟨p6, bH + 1, (bw ++ [oo, oq]), .ref (eh + 23) 0 (List.length (bw ++ [oo, oq])) 1 (List.length (bw ++ [oo, oq])), rfl, Int.le_trans cZ (Int.le_add_one (qZf _)), bY cZ eJ, rfl, (show 7 ≤ eh + 29 by omega), ?_, bG, bx, cT, gm, ?_, ?_, Or.inl ⟨eh + 23, (sameEl gP 3), rfl, (by first | omega | (simp only [nm, seval]; done) | (simp only [nm, seval]; omega)), (by first | omega | (intro hh; simp only [gU, reduceCtorEq] at hh)), ?_⟩, (by first | exact h | (simp only [gU, j1]; exact h))⟩ <;> first | (simp only [ua, bT, gU, bG, bx, ca, cT, gm, fK, gN, fF, eF, j1, nm, seval] <;> rfl) | rfl | (simp only [ua, bT, tyf, mqt, gU, bG, bx, ca, cT, gm, fK, gN, fF, eF, j1, nm, seval] <;> rfl)⟩
    simp only [j1, hs] at h
    cases t8 : (aB 8 (List.length ((bw ++ [oo, oq]) ++ [ak.ls.Hyphen])))
    ·simp only [t8, hs] at h
     exact absurd h iU
    simp only [t8, hs] at h
    simp only [vz, mq, mqm, tyf, mqt, gU, (bc lZ), (aC nH), bG, bx, ca, cT, gm, fK, gN, fF, eF, nI, j1, t8, nm, seval]
    refine k_app (w := 1) (enc := eI) (xs := (bw ++ [oo, oq])) (ys := ([ak.ls.Hyphen])) (el := (sameEl gP 3)) (fz := (some 3)) (fun _ => rfl) ot mH Tryz.underlying22 (by first | rfl | assumption | (simp only [bl, bI, iR, gU, nm, seval] <;> rfl) | (simp only [bl, bI, eY, eQ, eW, eX, tyf, mqt, gU, (bc lZ), (aC nH), bG, bx, ca, cT, gm, fK, gN, fF, eF, nI, j1, t8, nm, seval]; done)) (by first | rfl | assumption | (simp only [bl, bI, iR, gU, nm, seval] <;> rfl) | (simp only [bl, bI, eY, eQ, eW, eX, tyf, mqt, gU, (bc lZ), (aC nH), bG, bx, ca, cT, gm, fK, gN, fF, eF, nI, j1, t8, nm, seval]; done)) (Nat.zero_lt_succ _) t8 ?_
    simp only [vz, mq, mqm, tyf, mqt, gU, (bc lZ), (aC nH), bG, bx, ca, cT, gm, fK, gN, fF, eF, nI, j1, t8, nm, seval]
    exact ⟨List.length p6, qZc _, by rw [iV]; refine ⟨p6, bH + 1, ((bw ++ [oo, oq]) ++ [ak.ls.Hyphen]), .ref (eh + 32) 0 (List.length ((bw ++ [oo, oq]) ++ [ak.ls.Hyphen])) 1 (List.length ((bw ++ [oo, oq]) ++ [ak.ls.Hyphen])), rfl, Int.le_trans cZ (Int.le_add_one (qZf _)), bY cZ eJ, rfl, (show 7 ≤ eh + 36 by omega), ?_, bG, bx, cT, gm, ?_, ?_, Or.inl ⟨eh + 32, (sameEl (sameEl gP 3) 3), rfl, (by first | omega | (simp only [nm, seval]; done) | (simp only [nm, seval]; omega)), (by first | omega | (intro hh; simp only [gU, reduceCtorEq] at hh)), ?_⟩, (by first | exact h | (simp only [gU, j1]; exact h))⟩ <;> first | (simp only [ua, bT, gU, bG, bx, ca, cT, gm, fK, gN, fF, eF, j1, nm, seval] <;> rfl) | rfl | (simp only [ua, bT, tyf, mqt, gU, bG, bx, ca, cT, gm, fK, gN, fF, eF, j1, nm, seval] <;> rfl)⟩
   simp only [BK, hs] at h
   have vJ := And.intro g7 (And.intro hU (And.intro H8 (And.intro ma (And.intro mG (And.intro t7 (And.intro qt (And.intro Qs BK)))))))
   simp only [vz, mq, mqm, tyf, mqt, vJ, e9, bg, bj, bD, bt, bS, (bc lZ), nm, seval]
   exact ⟨List.length p6, qZc _, by rw [iV]; refine ⟨p6, bH + 1, bw, .ref ir 0 (List.length bw) 1 (List.length bw), rfl, Int.le_trans cZ (Int.le_add_one (qZf _)), bY cZ eJ, rfl, (show 7 ≤ eh + 13 by omega), ?_, e9, bg, bj, bD, ?_, ?_, Or.inl ⟨ir, gP, rfl, (by first | omega | (simp only [nm, seval]; done) | (simp only [nm, seval]; omega)), (by first | omega | (intro hh; simp only [vJ, reduceCtorEq] at hh)), ?_⟩, (by first | exact h | (simp only [vJ]; exact h))⟩ <;> first | (simp only [ua, bT, vJ, e9, bg, bj, bD, bt, bS, nm, seval] <;> rfl) | rfl⟩
 ·cases p6 with
  | nil =>
   have qu : (decide (bH < (List.length ak.marks : Int))) = false := fA cZ eJ
   simp only [om, hs, reduceCtorEq] at h
   replace h := t4 _ h
   try dsimp only at h
   try simp only [hs] at h
   obtain ⟨Qt, iW, h⟩ := optI h kN
   try simp only [hs] at h
   simp only [vz, mq, mqm, tyf, mqt, g7, hU, e9, bg, bj, bD, bt, bS, H8, qu, nm, seval]
   refine ktree (args0 := [.sl (aa eI ([] : List Int)) (List.length ([] : List Int)) false]) (by first | (simp only [nrm, au, mqr] <;> rfl) | rfl) (by simp only [tre, ar, mqr, Bool.and_self]) (Qo _ _ iW) ?_
   refine bC (fun tm => tm 43 = .lit (.int .i64 Qt) ∧ True) (by refine ⟨?_, trivial⟩ <;> first | (simp only [ua, bT, hU, e9, bg, bj, bD, bt, bS, H8, qu, nm, seval] <;> rfl) | rfl) ?_
   rintro tm ⟨pK, _⟩
   try simp only [vz, mq, mqm, tyf, mqt, g7, hU, H8, qu, pK, nm, seval]
   refine cG (x := (.lit (.int .i64 Qt))) (by first | (simp only [Tryz.results152, resV, resL, aD, cX, cW, uw, cr, tyf, mqt, g7, hU, H8, qu, nm, seval] <;> rfl) | rfl) ?_
   obtain rfl := kF _ h
   refine cY ?_ ?_
   ·simp only [tre, ar, mqr, Bool.and_self]
   ·first | (simp only [outV, uw, eu, jR, jK, cr, tyf, mqt, nrm, au, g7, hU, H8, qu, pK, nm, seval] <;> rfl) | rfl
  | cons e6 p6 =>
   have im : (decide (bH < (List.length ak.marks : Int))) = true := fB cZ eJ
   have ln := dU cZ eJ
   have kQ := fC cZ eJ g7
   simp only [om, hs, reduceCtorEq] at h
   cases mb : (e6.row != br)
   ·simp only [mb, hs] at h
    simp only [vz, mq, mqm, tyf, mqt, g7, hU, e9, bg, bj, bD, bt, bS, H8, im, (bc ln), kQ, mb, nm, seval]
    refine px (fun tm => tm 1 = .lit (.int .i64 br) ∧ tm 2 = .ptr 0 0 ∧ tm 5 = .lit (.slice none 0 0) ∧ tm 6 = .lit (.int .i64 bH) ∧ tm 7 = .ptr (eh + 4) 0 ∧ tm 9 = .sl (aa cGlm ak.marks) (List.length ak.marks) false ∧ tm 10 = .lit (.int .i64 (List.length ak.marks : Int)) ∧ tm 11 = .lit (.int .i64 bH) ∧ True) (by refine ⟨e9, bg, bt, ?_, ?_, bj, bD, bS, trivial⟩ <;> first | (simp only [ua, bT, hU, e9, bg, bj, bD, bt, bS, H8, im, kQ, mb, nm, seval] <;> rfl) | rfl) ?_
    rintro tm ⟨fa, fv, jM, qv, qw, rP, pP, pQ, _⟩
    obtain ⟨ov, qx, h⟩ := optI h iU
    try simp only [hs] at h
    obtain ⟨ow, Uf, h⟩ := optI h iU
    try simp only [hs] at h
    simp only [vz, mq, mqm, tyf, mqt, g7, hU, H8, im, (bc ln), kQ, mb, fa, fv, jM, qv, qw, rP, pP, pQ, (aC qx), nm, seval]
    refine dktree (args0 := [.agg (cGld ak), .lit (.int .i64 bH)]) (by first | (simp only [nrm, au, mqr] <;> rfl) | rfl) (by simp only [tre, ar, mqr, Bool.and_self]) (Qm _ _ _ Uf) ?_
    refine bC (fun tm => tm 1 = .lit (.int .i64 br) ∧ tm 2 = .ptr 0 0 ∧ tm 7 = .ptr (eh + 4) 0 ∧ tm 9 = .sl (aa cGlm ak.marks) (List.length ak.marks) false ∧ tm 10 = .lit (.int .i64 (List.length ak.marks : Int)) ∧ tm 11 = .lit (.int .i64 bH) ∧ tm 20 = .lit (.slice none 0 0) ∧ tm 27 = .lit (.int .i64 ov) ∧ tm 30 = .lit (.int .i64 ow) ∧ True) (by refine ⟨fa, fv, qw, rP, pP, pQ, ?_, ?_, ?_, trivial⟩ <;> first | (simp only [ua, bT, hU, H8, im, kQ, mb, fa, fv, jM, qv, qw, rP, pP, pQ, nm, seval] <;> rfl) | rfl) ?_
    rintro tm ⟨fZ, iI, eT, dp, dx, bO, bP, bN, bM, _⟩
    cases rQ : (aB 8 (List.length (([] : List Int) ++ [ov, ow])))
    ·simp only [rQ, hs] at h
     exact absurd h iU
    simp only [rQ, hs] at h
    simp only [vz, mq, mqm, tyf, mqt, g7, hU, H8, im, (bc ln), kQ, mb, (aC qx), fZ, iI, eT, dp, dx, bO, bP, bN, bM, rQ, nm, seval]
    refine nE (w := 1) (enc := eI) (ys := ([ov, ow])) (fz := (some 3)) (fun _ => rfl) ot mH Tryz.underlying22 (by first | rfl | assumption | (simp only [bl, bI, iR, hU, H8, nm, seval] <;> rfl) | (simp only [bl, bI, eY, eQ, eW, eX, tyf, mqt, g7, hU, H8, im, (bc ln), kQ, mb, (aC qx), fZ, iI, eT, dp, dx, bO, bP, bN, bM, rQ, nm, seval]; done)) (Nat.zero_lt_succ _) rQ ?_
    simp only [vz, mq, mqm, tyf, mqt, g7, hU, H8, im, (bc ln), kQ, mb, (aC qx), fZ, iI, eT, dp, dx, bO, bP, bN, bM, rQ, nm, seval]
    refine k9 ⟨?_, ?_⟩
    ·simp only [kE, kG, fu, kH, and_true, true_and]
     repeat' (first | exact trivial | refine And.intro ?_ ?_ | rw [fu] | rw [kI] | exact Or.inl (by decide +kernel) | exact Or.inl (by dsimp only; decide +kernel) | (refine Or.inr ⟨?_, ?_⟩ <;> simp; done) | (refine Or.inr ⟨?_, ?_⟩ <;> simp <;> omega) | (refine Or.inr ⟨?_, ?_⟩ <;> simp [VEff.wr] <;> omega))
    cases BL : (e6.hyphen)
    ·simp only [BL, hs] at h
     have ym := And.intro g7 (And.intro hU (And.intro H8 (And.intro im (And.intro kQ (And.intro mb (And.intro rQ BL))))))
     simp only [vz, mq, mqm, tyf, mqt, ym, (bc ln), (aC qx), fZ, iI, eT, dp, dx, bO, bP, bN, bM, nm, seval]
     exact ⟨List.length p6, qZc _, by rw [iV]; refine ⟨p6, bH + 1, (([] : List Int) ++ [ov, ow]), .ref (eh + 23) 0 (List.length (([] : List Int) ++ [ov, ow])) 1 (List.length (([] : List Int) ++ [ov, ow])), rfl, Int.le_trans cZ (Int.le_add_one (qZf _)), bY cZ eJ, rfl, (show 7 ≤ eh + 29 by omega), ?_, fZ, iI, dp, dx, ?_, ?_, Or.inl ⟨eh + 23, (some 3), rfl, (by first | omega | (simp only [nm, seval]; done) | (simp only [nm, seval]; omega)), (by first | omega | (intro hh; simp only [ym, reduceCtorEq] at hh)), ?_⟩, (by first | exact h | (simp only [ym]; exact h))⟩ <;> first | (simp only [ua, bT, ym, fZ, iI, eT, dp, dx, bO, bP, bN, bM, nm, seval] <;> rfl) | rfl | (simp only [ua, bT, tyf, mqt, ym, fZ, iI, eT, dp, dx, bO, bP, bN, bM, nm, seval] <;> rfl)⟩
    simp only [BL, hs] at h
    have pR := And.intro g7 (And.intro hU (And.intro H8 (And.intro im (And.intro kQ (And.intro mb (And.intro rQ BL))))))
    cases t9 : (aB 8 (List.length ((([] : List Int) ++ [ov, ow]) ++ [ak.ls.Hyphen])))
    ·simp only [t9, hs] at h
     exact absurd h iU
    simp only [t9, hs] at h
    simp only [vz, mq, mqm, tyf, mqt, pR, (bc ln), (aC qx), fZ, iI, eT, dp, dx, bO, bP, bN, bM, t9, nm, seval]
    refine k_app (w := 1) (enc := eI) (xs := (([] : List Int) ++ [ov, ow])) (ys := ([ak.ls.Hyphen])) (el := (some 3)) (fz := (some 3)) (fun _ => rfl) ot mH Tryz.underlying22 (by first | rfl | assumption | (simp only [bl, bI, iR, pR, nm, seval] <;> rfl) | (simp only [bl, bI, eY, eQ, eW, eX, tyf, mqt, pR, (bc ln), (aC qx), fZ, iI, eT, dp, dx, bO, bP, bN, bM, t9, nm, seval]; done)) (by first | rfl | assumption | (simp only [bl, bI, iR, pR, nm, seval] <;> rfl) | (simp only [bl, bI, eY, eQ, eW, eX, tyf, mqt, pR, (bc ln), (aC qx), fZ, iI, eT, dp, dx, bO, bP, bN, bM, t9, nm, seval]; done)) (Nat.zero_lt_succ _) t9 ?_
    simp only [vz, mq, mqm, tyf, mqt, pR, (bc ln), (aC qx), fZ, iI, eT, dp, dx, bO, bP, bN, bM, t9, nm, seval]
    exact ⟨List.length p6, qZc _, by rw [iV]; refine ⟨p6, bH + 1, ((([] : List Int) ++ [ov, ow]) ++ [ak.ls.Hyphen]), .ref (eh + 32) 0 (List.length ((([] : List Int) ++ [ov, ow]) ++ [ak.ls.Hyphen])) 1 (List.length ((([] : List Int) ++ [ov, ow]) ++ [ak.ls.Hyphen])), rfl, Int.le_trans cZ (Int.le_add_one (qZf _)), bY cZ eJ, rfl, (show 7 ≤ eh + 36 by omega), ?_, fZ, iI, dp, dx, ?_, ?_, Or.inl ⟨eh + 32, (sameEl (some 3) 3), rfl, (by first | omega | (simp only [nm, seval]; done) | (simp only [nm, seval]; omega)), (by first | omega | (intro hh; simp only [pR, reduceCtorEq] at hh)), ?_⟩, (by first | exact h | (simp only [pR]; exact h))⟩ <;> first | (simp only [ua, bT, pR, fZ, iI, eT, dp, dx, bO, bP, bN, bM, nm, seval] <;> rfl) | rfl | (simp only [ua, bT, tyf, mqt, pR, fZ, iI, eT, dp, dx, bO, bP, bN, bM, nm, seval] <;> rfl)⟩
   simp only [mb, hs] at h
   simp only [vz, mq, mqm, tyf, mqt, g7, hU, e9, bg, bj, bD, bt, bS, H8, im, (bc ln), kQ, mb, nm, seval]
   exact ⟨List.length p6, qZc _, by rw [iV]; refine ⟨p6, bH + 1, ([] : List Int), .lit (.slice none 0 0), rfl, Int.le_trans cZ (Int.le_add_one (qZf _)), bY cZ eJ, rfl, (show 7 ≤ eh + 13 by omega), ?_, e9, bg, bj, bD, ?_, ?_, Or.inr ⟨rfl, rfl⟩, (by first | exact h | (simp only [im, mb]; exact h))⟩ <;> first | (simp only [ua, bT, hU, e9, bg, bj, bD, bt, bS, H8, im, kQ, mb, nm, seval] <;> rfl) | rfl⟩
def tA (ak : Gld) : List GLe → Int → (List Int) → Option (LOut (List Int) ((List Int)))
 | [], gM, gQ => some (.go gQ)
 | e0 :: p0, gM, gQ => Option.bind (vI ak gM) (fun r3 => Option.bind (getI gQ gM) (fun x4 => tA ak p0 (gM + 1) (List.set gQ (Int.toNat gM) r3)))
def yn (ak : Gld) : Option (List Int) := cond (mkOk 8 (List.length ak.lx.Ends : Int)) (cond (lenOk ak.lx.Ends) (lbind (tA ak ak.lx.Ends 0 (List.replicate (Int.toNat (List.length ak.lx.Ends : Int)) 0)) (fun r6 => some r6) (fun c5 => some c5) (fun _ _ => none)) none) none
theorem Ug (ak : Gld) (R : List Int) (h : yn ak = some R) : ad Tryz.prog G0 72 [.agg (cGld ak)] (.tree (.sl (aa eI R) (List.length R) false)) := by
 refine ad.runR mixed Tryz.call72 Tryz.func72 rfl (by simp [Tryz.ntmps72]; kernel_rfl) ?_
 obtain ⟨KF, h, kF, kN⟩ := ec h
 simp only [yn] at h
 try simp only [vz, mq, mqm, tyf, mqt, nm, seval]
 refine kopen ?_
 rw [BM]
 refine aq.run mixed Tryz.call118 Tryz.func118 rfl (by simp [Tryz.ntmps118]; kernel_rfl) ?_
 cases g7 : (mkOk 8 (List.length ak.lx.Ends : Int))
 ·simp only [g7, hs] at h
  exact absurd h kN
 simp only [g7, hs] at h
 try simp only [vz, mq, mqm, tyf, mqt, g7, nm, seval]
 refine k_mkS (enc := eI) (z := (0 : Int)) mH (by kernel_rfl) rfl (by first | (simp only [m3, uY, sJ, sK, g7, nm, seval] <;> rfl) | rfl) (by first | (simp only [m3, uY, sJ, sK, g7, nm, seval] <;> rfl) | rfl) g7 ?_
 cases g9 : (lenOk ak.lx.Ends)
 ·simp only [g9, hs] at h
  exact absurd h kN
 simp only [g9, hs] at h
 simp only [vz, mq, mqm, tyf, mqt, g7, g9, nm, seval]
 obtain ⟨K8, h, Xs, Uh, Xt, Qu⟩ := gS h kN
 obtain ⟨f8, Ui, h⟩ := call3 h
 obtain ⟨I8, Iw⟩ : ∃ I : Nat → St → Prop, I = (fun m st => ∃ (p8 : List GLe) (dh : Int) (cH : List Int), m = List.length p8 ∧ 0 ≤ dh ∧ List.drop (Int.toNat dh) ak.lx.Ends = p8 ∧ st.df = [] ∧ 19 ≤ st.nx ∧ st.H 9 = some (.cells (some 93) (cGld ak)) ∧ st.H 12 = some (.cells (some 180) ([VV.fn (Fn.func 152) [] []] ++ [VV.fn (Fn.func 153) [] []])) ∧ st.H 15 = some (.cells ((some 3)) (aa eI cH)) ∧ st.tm 1 = .lit (.int .i64 0) ∧ st.tm 3 = .ptr 9 0 ∧ st.tm 7 = .ptr 12 0 ∧ st.tm 8 = .ref 15 0 (List.length cH) 1 (List.length cH) ∧ st.tm 13 = .lit (.int .i64 (List.length ak.lx.Ends : Int)) ∧ st.tm 14 = .lit (.int .i64 dh) ∧ K8 (f8 p8 dh cH)) := ⟨_, rfl⟩
 refine loopK mixed (by kernel_rfl) I8 (List.length ak.lx.Ends) (by rw [Iw]; refine ⟨ak.lx.Ends, 0, (List.replicate (Int.toNat (List.length ak.lx.Ends : Int)) 0), rfl, qZf _, rfl, rfl, (show 19 ≤ 19 by omega), ?_, ?_, ?_, ?_, ?_, ?_, ?_, ?_, ?_, h⟩ <;> first | (simp only [ua, bT, nm, seval] <;> rfl) | rfl) ?_
 rintro m ⟨tm, H, Qv, df⟩ hinv
 rw [Iw] at hinv
 obtain ⟨p8, dh, cH, rfl, vK, yo, hdf, Uj, qy, jx, jy, bt, bS, fD, hP, gk, fb, h⟩ := hinv
 simp only at hdf Uj qy jx jy bt bS fD hP gk fb
 have jV := gT (m := 19) (b := Qv) (by omega)
 subst hdf Ui
 cases p8 with
 | nil =>
  have nB : (decide (dh < (List.length ak.lx.Ends : Int))) = false := fA vK yo
  simp only [tA, hs, reduceCtorEq] at h
  replace h := Uh _ h
  try dsimp only at h
  try simp only [hs] at h
  try simp only [vz, mq, mqm, tyf, mqt, g7, g9, jV, bt, bS, fD, hP, gk, fb, qy, jx, jy, nB, nm, seval]
  refine cG (x := (.ref 15 0 (List.length cH) 1 (List.length cH))) (by first | (simp only [Tryz.results118, resV, resL, aD, cX, cW, uw, cr, tyf, mqt, g7, g9, jV, qy, jx, jy, nB, nm, seval] <;> rfl) | rfl) ?_
  try simp only [vz, mq, mqm, tyf, mqt, g7, g9, jV, qy, jx, jy, nB, nm, seval]
  refine cG (x := (.ref 15 0 (List.length cH) 1 (List.length cH))) (by first | (simp only [Tryz.results72, resV, resL, aD, cX, cW, uw, cr, tyf, mqt, g7, g9, jV, qy, jx, jy, nB, nm, seval] <;> rfl) | rfl) ?_
  obtain rfl := kF _ h
  refine cY ?_ ?_
  ·simp only [tre, ar, mqr, Bool.and_self]
  ·first | (simp only [outV, uw, eu, jR, jK, cr, tyf, mqt, nrm, au, g7, g9, jV, qy, jx, jy, nB, nm, seval] <;> rfl) | rfl
 | cons e8 p8 =>
  have ji : (decide (dh < (List.length ak.lx.Ends : Int))) = true := fB vK yo
  have kM := dU vK yo
  have nC := fC vK yo g9
  simp only [tA, hs, reduceCtorEq] at h
  simp only [vz, mq, mqm, tyf, mqt, g7, g9, jV, bt, bS, fD, hP, gk, fb, qy, jx, jy, ji, (bk kM), nC, nm, seval]
  refine px (fun tm => tm 1 = .lit (.int .i64 0) ∧ tm 3 = .ptr 9 0 ∧ tm 7 = .ptr 12 0 ∧ tm 8 = .ref 15 0 (List.length cH) 1 (List.length cH) ∧ tm 9 = .lit (.int .i64 dh) ∧ tm 13 = .lit (.int .i64 (List.length ak.lx.Ends : Int)) ∧ tm 14 = .lit (.int .i64 dh) ∧ True) (by refine ⟨bt, bS, fD, hP, ?_, gk, fb, trivial⟩ <;> first | (simp only [ua, bT, jV, bt, bS, fD, hP, gk, fb, qy, jx, jy, ji, nC, nm, seval] <;> rfl) | rfl) ?_
  rintro tm ⟨dV, dW, dT, eZ, fE, dM, bu, _⟩
  have dq := And.intro g7 (And.intro g9 (And.intro jV (And.intro qy (And.intro jx (And.intro jy (And.intro ji nC))))))
  obtain ⟨py, xu, h⟩ := optI h Qu
  try simp only [hs] at h
  simp only [vz, mq, mqm, tyf, mqt, dq, (bk kM), dV, dW, dT, eZ, fE, dM, bu, nm, seval]
  refine dktree (args0 := [.agg (cGld ak), .lit (.int .i64 dh)]) (by first | (simp only [nrm, au, mqr] <;> rfl) | rfl) (by simp only [tre, ar, mqr, Bool.and_self]) (Qq _ _ _ xu) ?_
  refine bC (fun tm => tm 1 = .lit (.int .i64 0) ∧ tm 3 = .ptr 9 0 ∧ tm 7 = .ptr 12 0 ∧ tm 8 = .ref 15 0 (List.length cH) 1 (List.length cH) ∧ tm 13 = .lit (.int .i64 (List.length ak.lx.Ends : Int)) ∧ tm 14 = .lit (.int .i64 dh) ∧ tm 17 = .ref 15 0 (List.length cH) 1 (List.length cH) ∧ tm 18 = .lit (.int .i64 dh) ∧ tm 24 = .lit (.int .i64 py) ∧ True) (by refine ⟨dV, dW, dT, eZ, dM, bu, ?_, ?_, ?_, trivial⟩ <;> first | (simp only [ua, bT, dq, dV, dW, dT, eZ, fE, dM, bu, nm, seval] <;> rfl) | rfl) ?_
  rintro tm ⟨iF, jS, cL, cz, bL, bJ, bF, bG, bx, _⟩
  obtain ⟨PH, qm, h⟩ := optI h Qu
  try simp only [hs] at h
  have Ix := setA (w := 1) (enc := eI) (fun _ => rfl) qm
  have BN := setB (w := 1) (enc := eI) py (fun _ => rfl) qm
  simp only [vz, mq, mqm, tyf, mqt, nm, seval] at BN
  have pJ := setC (w := 1) (enc := eI) cH (Int.toNat dh) py (fun _ => rfl)
  simp only [vz, mq, mqm, tyf, mqt, dq, (bk kM), iF, jS, cL, cz, bL, bJ, bF, bG, bx, (rR qm), Ix, BN, pJ, nm, seval]
  refine k9 ⟨?_, ?_⟩
  ·simp only [kE, kG, fu, kH, and_true, true_and]
   repeat' (first | exact trivial | refine And.intro ?_ ?_ | rw [fu] | rw [kI] | exact Or.inl (by decide +kernel) | exact Or.inl (by dsimp only; decide +kernel) | (refine Or.inr ⟨?_, ?_⟩ <;> simp; done) | (refine Or.inr ⟨?_, ?_⟩ <;> simp <;> omega) | (refine Or.inr ⟨?_, ?_⟩ <;> simp [VEff.wr] <;> omega))
  simp only [vz, mq, mqm, tyf, mqt, dq, (bk kM), iF, jS, cL, cz, bL, bJ, bF, bG, bx, (rR qm), Ix, BN, pJ, nm, seval]
  exact ⟨List.length p8, qZc _, by rw [Iw]; refine ⟨p8, dh + 1, (List.set cH (Int.toNat dh) py), rfl, Int.le_trans vK (Int.le_add_one (qZf _)), bY vK yo, rfl, (show 19 ≤ Qv + 15 by omega), ?_, ?_, ?_, iF, jS, cL, ?_, bL, ?_, (by first | exact h | (simp only [dq]; exact h))⟩ <;> first | (simp only [ua, bT, dq, iF, jS, cL, cz, bL, bJ, bF, bG, bx, Ix, BN, pJ, nm, seval] <;> rfl) | rfl⟩
def BO (ak : Gld) (br : Int) : Option ((Unit) ⊕ (Unit)) := Option.bind (vI ak br) (fun r1 => cond (decide (r1 > ak.ls.Wide)) (some (.inr ())) (some (.inl ())))
theorem Qw (ak : Gld) (br : Int) (R : (Unit) ⊕ (Unit)) (h : BO ak br = some R) : ad Tryz.prog G0 122 [.agg (cGld ak), .lit (.int .i64 br)] (presB R (fun r => .tree (.tup [])) (fun e => .panic (.ifc 149 (.agg [])))) := by
 refine ad.runR mixed Tryz.call122 Tryz.func122 rfl (by simp [Tryz.ntmps122]; kernel_rfl) ?_
 obtain ⟨KF, h, kF, kN⟩ := ec h
 simp only [BO] at h
 simp only [vz, mq, mqm, tyf, mqt, nm, seval]
 refine qf (fun tm => tm 1 = .lit (.int .i64 br) ∧ tm 2 = .ptr 0 0 ∧ True) (by refine ⟨?_, ?_, trivial⟩ <;> first | (simp only [ua, bT, nm, seval] <;> rfl) | rfl) ?_
 rintro tm ⟨e2, e3, _⟩
 obtain ⟨r4, o5, h⟩ := optI h kN
 try simp only [hs] at h
 simp only [vz, mq, mqm, tyf, mqt, e2, e3, nm, seval]
 refine dktree (args0 := [.agg (cGld ak), .lit (.int .i64 br)]) (by first | (simp only [nrm, au, mqr] <;> rfl) | rfl) (by simp only [tre, ar, mqr, Bool.and_self]) (Qq _ _ _ o5) ?_
 refine bC (fun tm => tm 2 = .ptr 0 0 ∧ tm 6 = .lit (.int .i64 r4) ∧ True) (by refine ⟨e3, ?_, trivial⟩ <;> first | (simp only [ua, bT, e2, e3, nm, seval] <;> rfl) | rfl) ?_
 rintro tm ⟨e6, e7, _⟩
 cases d8 : (decide (r4 > ak.ls.Wide))
 ·simp only [d8, hs] at h
  try simp only [vz, mq, mqm, tyf, mqt, e6, e7, d8, nm, seval]
  refine Iy (x := (.tup [])) (by first | (simp only [Tryz.results122, resV, resL, aD, cX, cW, uw, cr, tyf, mqt, d8, nm, seval] <;> rfl) | rfl) ?_
  obtain rfl := kF _ h
  refine cY ?_ ?_
  ·simp only [tre, ar, mqr, Bool.and_self]
  ·first | (simp only [outV, uw, eu, jR, jK, cr, tyf, mqt, nrm, au, e6, e7, d8, nm, seval] <;> rfl) | rfl
 simp only [d8, hs] at h
 simp only [vz, mq, mqm, tyf, mqt, e6, e7, d8, nm, seval]
 refine Iz ?_
 obtain rfl := kF _ h
 refine I0 ?_ ?_
 ·simp only [tre, ar, I1, Bool.and_self]
 ·first | (simp only [outV, uw, eu, jR, jK, I2, IA, cr, tyf, mqt, nrm, au, e6, e7, d8, nm, seval] <;> rfl) | rfl
def vL (ak : Gld) : List GLe → Int → Option (LOut (Bool) (Unit))
 | [], tB => some (.go ())
 | e0 :: p0, tB => Option.bind (BO ak tB) (fun r1 => sumB r1 (fun u2 => vL ak p0 (tB + 1)) (fun w3 => some (.ret false)))
def tC (ak : Gld) : Option (Bool) := cond (lenOk ak.lx.Ends) (lbind (vL ak ak.lx.Ends 0) (fun r5 => some r5) (fun c4 => some (decide ((List.length ak.lx.Ends : Int) ≤ ak.ls.Rows))) (fun _ _ => none)) none
theorem Uk (ak : Gld) (R : Bool) (h : tC ak = some R) : ad Tryz.prog G0 83 [.agg (cGld ak)] (.tree (.lit (.bool R))) := by
 refine ad.runR mixed Tryz.call83 Tryz.func83 rfl (by simp [Tryz.ntmps83]; kernel_rfl) ?_
 obtain ⟨KF, h, kF, kN⟩ := ec h
 simp only [tC] at h
 cases g7 : (lenOk ak.lx.Ends)
 ·simp only [g7, hs] at h
  exact absurd h kN
 simp only [g7, hs] at h
 simp only [vz, mq, mqm, tyf, mqt, g7, nm, seval]
 obtain ⟨K6, h, Iu, t4, Qr, iU⟩ := gS h kN
 obtain ⟨f6, yj, h⟩ := call2 h
 obtain ⟨I6, iV⟩ : ∃ I : Nat → St → Prop, I = (fun m st => ∃ (p6 : List GLe) (iu : Int), m = List.length p6 ∧ 0 ≤ iu ∧ List.drop (Int.toNat iu) ak.lx.Ends = p6 ∧ st.df = [.fn (.func 121) [.ptr 1 0] []] ∧ 9 ≤ st.nx ∧ st.H 0 = some (.cells (some 93) (cGld ak)) ∧ st.H 1 = some (.cells (some 4) ([.lit (.bool false)])) ∧ st.tm 1 = .ptr 0 0 ∧ st.tm 2 = .ptr 1 0 ∧ st.tm 8 = .lit (.int .i64 (List.length ak.lx.Ends : Int)) ∧ st.tm 9 = .lit (.int .i64 iu) ∧ K6 (f6 p6 iu)) := ⟨_, rfl⟩
 refine loopK mixed (by kernel_rfl) I6 (List.length ak.lx.Ends) (by rw [iV]; refine ⟨ak.lx.Ends, 0, rfl, qZf _, rfl, rfl, (show 9 ≤ 9 by omega), ?_, ?_, ?_, ?_, ?_, ?_, h⟩ <;> first | (simp only [ua, bT, nm, seval] <;> rfl) | rfl) ?_
 rintro m ⟨tm, H, eh, df⟩ hinv
 rw [iV] at hinv
 obtain ⟨p6, iu, rfl, cZ, eJ, hdf, pO, H8, H9, bg, bj, bD, bt, h⟩ := hinv
 simp only at hdf pO H8 H9 bg bj bD bt
 have ct := gT (m := 9) (b := eh) (by omega)
 subst hdf yj
 cases p6 with
 | nil =>
  have db : (decide (iu < (List.length ak.lx.Ends : Int))) = false := fA cZ eJ
  simp only [vL, hs, reduceCtorEq] at h
  replace h := t4 _ h
  try dsimp only at h
  try simp only [hs] at h
  try simp only [vz, mq, mqm, tyf, mqt, g7, ct, bg, bj, bD, bt, H8, H9, db, nm, seval]
  refine IB ?_
  refine VDeferred.run mixed Tryz.call121 Tryz.func121 rfl (by kernel_rfl) ?_
  try simp only [vz, mq, mqm, tyf, mqt, g7, ct, H8, H9, db, nm, seval]
  refine Qx Tryz.results121 ?_
  refine IC (x := (.lit (.bool (decide ((List.length ak.lx.Ends : Int) ≤ ak.ls.Rows))))) (by first | (simp only [Tryz.results83, resV, resL, aD, cX, cW, uw, cr, tyf, mqt, g7, ct, H8, H9, db, bg, bj, bD, bt, nm, seval] <;> rfl) | rfl) ?_
  obtain rfl := kF _ h
  refine cY ?_ ?_
  ·simp only [tre, ar, mqr, Bool.and_self]
  ·first | (simp only [outV, uw, eu, jR, jK, cr, tyf, mqt, nrm, au, g7, ct, H8, H9, db, bg, bj, bD, bt, nm, seval] <;> rfl) | rfl
 | cons e6 p6 =>
  have gh : (decide (iu < (List.length ak.lx.Ends : Int))) = true := fB cZ eJ
  have qo := dU cZ eJ
  have qz := fC cZ eJ g7
  simp only [vL, hs, reduceCtorEq] at h
  obtain ⟨tx, jL, h⟩ := optI h iU
  try simp only [hs] at h
  cases tx with
  | inl Xu =>
   simp only [hs] at h
   simp only [vz, mq, mqm, tyf, mqt, g7, ct, bg, bj, bD, bt, H8, H9, gh, (bk qo), qz, nm, seval]
   refine ktree (args0 := [.agg (cGld ak), .lit (.int .i64 iu)]) (by first | (simp only [nrm, au, mqr] <;> rfl) | rfl) (by simp only [tre, ar, mqr, Bool.and_self]) (Qw _ _ _ jL) ?_
   refine bC (fun tm => tm 1 = .ptr 0 0 ∧ tm 2 = .ptr 1 0 ∧ tm 8 = .lit (.int .i64 (List.length ak.lx.Ends : Int)) ∧ tm 9 = .lit (.int .i64 iu) ∧ True) (by refine ⟨bg, bj, bD, bt, trivial⟩ <;> first | (simp only [ua, bT, ct, bg, bj, bD, bt, H8, H9, gh, qz, nm, seval] <;> rfl) | rfl) ?_
   rintro tm ⟨eR, dV, dW, dT, _⟩
   simp only [vz, mq, mqm, tyf, mqt, g7, ct, H8, H9, gh, (bk qo), qz, eR, dV, dW, dT, nm, seval]
   exact ⟨List.length p6, qZc _, by rw [iV]; refine ⟨p6, iu + 1, rfl, Int.le_trans cZ (Int.le_add_one (qZf _)), bY cZ eJ, rfl, (show 9 ≤ eh + 8 by omega), ?_, ?_, eR, dV, dW, ?_, (by first | exact h | (simp only [gh]; exact h))⟩ <;> first | (simp only [ua, bT, ct, H8, H9, gh, qz, eR, dV, dW, dT, nm, seval] <;> rfl) | rfl⟩
  | inr nC =>
   simp only [hs] at h
   simp only [vz, mq, mqm, tyf, mqt, g7, ct, bg, bj, bD, bt, H8, H9, gh, (bk qo), qz, nm, seval]
   refine kpan (args0 := [.agg (cGld ak), .lit (.int .i64 iu)]) (by first | (simp only [nrm, au, mqr] <;> rfl) | rfl) (by simp only [tre, ar, mqr, Bool.and_self]) (Qw _ _ _ jL) ?_
   try simp only [vz, mq, mqm, tyf, mqt, g7, ct, bg, bj, bD, bt, H8, H9, gh, (bk qo), qz, nm, seval]
   refine ID ?_
   refine VDeferred.run mixed Tryz.call121 Tryz.func121 rfl (by kernel_rfl) ?_
   try simp only [vz, mq, mqm, tyf, mqt, g7, ct, H8, H9, gh, (bk qo), qz, nm, seval]
   refine Qx Tryz.results121 ?_
   refine IE (x := (.lit (.bool false))) (by first | (simp only [Tryz.results83, resV, resL, aD, cX, cW, uw, cr, tyf, mqt, g7, ct, H8, H9, gh, (bk qo), qz, bg, bj, bD, bt, nm, seval] <;> rfl) | rfl) ?_
   replace h := Iu _ h
   try dsimp only at h
   obtain rfl := kF _ h
   refine cY ?_ ?_
   ·simp only [tre, ar, mqr, Bool.and_self]
   ·first | (simp only [outV, uw, eu, jR, jK, cr, tyf, mqt, nrm, au, g7, ct, H8, H9, gh, (bk qo), qz, bg, bj, bD, bt, nm, seval] <;> rfl) | rfl
abbrev setS (l : Gld) (i : Int) : Gld := Gld.mk l.ls l.lx i l.spaces l.marks
def wLoop (l : Gld) : Nat → Nat → Option Gld → Option (Option Gld)
 | 0, _, acc => some acc
 | k + 1, i, acc => Option.bind (tC (setS l (i : Int))) fun b => cond b (wLoop l k (i + 1) (some (setS l (i : Int)))) (some acc)
def BP (l : Gld) : Option (Option Gld) := wLoop l 11 0 none
def zlC : List VV := [.lit (.slice none 0 0), .lit (.slice none 0 0), .lit (.int .i64 0), .lit (.int .i64 0), .lit (.int .i64 0), .lit (.int .i64 0), .lit (.int .i64 0), .lit (.slice none 0 0), .lit (.int .i64 0), .lit (.int .i64 0), .lit (.slice none 0 0), .lit (.slice none 0 0), .lit (.int .i64 0), .lit (.map none), .lit (.slice none 0 0)]
def zlN : List VV := [.sl [] 0 false, .sl [] 0 false, .lit (.int .i64 0), .lit (.int .i64 0), .lit (.int .i64 0), .lit (.int .i64 0), .lit (.int .i64 0), .sl [] 0 false, .lit (.int .i64 0), .lit (.int .i64 0), .sl [] 0 false, .sl [] 0 false, .lit (.int .i64 0), .lit (.map none), .sl [] 0 false]
def accC : Option Gld → List VV
 | none => zlC
 | some l => cGld l
def wV : Option Gld → VV
 | none => .tup [.agg zlN, .lit (.bool false)]
 | some l => .tup [.agg (cGld l), .lit (.bool true)]
theorem vM : normV (.lit (.map none)) = .lit (.map none) := rfl
theorem Ul (l : Gld) (R : Option Gld) (h : BP l = some R) : ad Tryz.prog G0 84 [.agg (cGld l)] (.tree (wV R)) := by
 refine ad.runR mixed Tryz.call84 Tryz.func84 rfl (by simp [Tryz.ntmps84]; kernel_rfl) ?_
 simp only [vz, @eP, mq, mqm, tyf, mqt, nm, seval]
 obtain ⟨J, hJ⟩ : ∃ J : Nat → St → Prop, J = (fun m st => ∃ (i : Nat) (s : Int) (acc : Option Gld), i + m = 11 ∧ st.df = [] ∧ 8 ≤ st.nx ∧ st.H 0 = some (.cells (some 93) (cGld (setS l s))) ∧ st.H 1 = some (.cells (some 93) zlC) ∧ st.H 4 = some (.cells (some 93) (accC acc)) ∧
   st.tm 1 = .ptr 0 0 ∧ st.tm 2 = .ptr 1 0 ∧ st.tm 4 = .ptr 4 0 ∧ st.tm 5 = .lit (.bool acc.isSome) ∧ st.tm 8 = .lit (.int .i64 (i : Int)) ∧ wLoop l m i acc = some R) := ⟨_, rfl⟩
 refine loopK mixed (by kernel_rfl) J 11 (by
  rw [hJ]
  refine ⟨0, l.stretch, none, rfl, rfl, (show 8 ≤ 8 by omega), ?_, ?_, ?_, ?_, ?_, ?_, ?_, ?_, h⟩ <;> first | rfl | (simp only [ua, seval, tyf] <;> rfl)) ?_
 rintro m ⟨tm, H, nx, df⟩ hinv
 rw [hJ] at hinv
 obtain ⟨i, s, acc, hi, hdf, hnx, H0, H1, H4, e1, e2, e4, e5, e8, h⟩ := hinv
 simp only at hdf hnx H0 H1 H4 e1 e2 e4 e5 e8
 subst hdf
 have fin : ∀ (tm : Nat → VV) (H : Nat → Option VObj) (nx : Nat) (acc : Option Gld), 8 ≤ nx → tm 2 = .ptr 1 0 → tm 4 = .ptr 4 0 → tm 5 = .lit (.bool acc.isSome) → H 1 = some (.cells (some 93) zlC) → H 4 = some (.cells (some 93) (accC acc)) → acc = R → True := fun _ _ _ _ _ _ _ _ _ _ _ => trivial
 cases m with
 | zero =>
  have oy : decide ((i : Int) < 11) = false := by simp; omega
  simp only [wLoop, Option.some.injEq] at h
  subst h
  cases acc with
  | none =>
   simp only [accC, zlC] at H4
   simp only [Option.isSome_none] at e5
   simp only [vz, @eP, mq, mqm, tyf, mqt, e1, e2, e4, e5, e8, oy, H0, H1, H4, zlC, nm, seval]
   refine cG (x := .tup [.agg zlC, .lit (.bool false)]) (by simp only [Tryz.results84, resV, resL, aD, cX, cW, uw, cr, tyf, mqt, e1, e2, e4, e5, H0, H1, H4, zlC, nm, seval] <;> rfl) ?_
   refine cY (by simp only [wV, zlN, tre, ar, mqr, Bool.and_self]) ?_
   simp only [outV, zlC, zlN, wV, nrm, au, mqr, vM, seval, List.map_cons, List.map_nil]
  | some y =>
   simp only [accC] at H4
   simp only [Option.isSome_some] at e5
   simp only [vz, @eP, mq, mqm, tyf, mqt, e1, e2, e4, e5, e8, oy, H0, H1, H4, zlC, nm, seval]
   refine cG (x := .tup [.agg (cGld y), .lit (.bool true)]) (by simp only [Tryz.results84, resV, resL, aD, cX, cW, uw, cr, tyf, mqt, e1, e2, e4, e5, H0, H1, H4, zlC, nm, seval] <;> rfl) ?_
   refine cY (by simp only [wV, tre, ar, mqr, Bool.and_self]) ?_
   simp only [outV, wV, nrm, au, mqr, seval, List.map_cons, List.map_nil]
 | succ m =>
  have oy : decide ((i : Int) < 11) = true := by simp; omega
  have hw : i64.wrap ((i : Int) + 1) = ((i + 1 : Nat) : Int) := by rw [IntWalk.i64_in _ (by omega)]; simp
  rw [wLoop] at h
  rcases ob : tC (setS l (i : Int)) with _ | b
  ·rw [ob] at h; cases h
  rw [ob, Option.bind_some] at h
  simp only [vz, @eP, mq, mqm, tyf, mqt, e1, e2, e4, e5, e8, oy, H0, H1, H4, nm, seval]
  refine ktree (args0 := [.agg (cGld (setS l (i : Int)))]) (by first | (simp only [nrm, au, mqr] <;> rfl) | rfl) (by simp only [tre, ar, mqr, Bool.and_self]) (Uk _ _ ob) ?_
  cases b with
  | false =>
   simp only [cond_false, Option.some.injEq] at h
   subst h
   cases acc with
   | none =>
    simp only [accC, zlC] at H4
    simp only [Option.isSome_none] at e5
    simp only [vz, @eP, mq, mqm, tyf, mqt, e1, e2, e4, e5, e8, oy, H0, H1, H4, zlC, nm, seval]
    refine cG (x := .tup [.agg zlC, .lit (.bool false)]) (by simp only [Tryz.results84, resV, resL, aD, cX, cW, uw, cr, tyf, mqt, e1, e2, e4, e5, H0, H1, H4, zlC, nm, seval] <;> rfl) ?_
    refine cY (by simp only [wV, zlN, tre, ar, mqr, Bool.and_self]) ?_
    simp only [outV, zlC, zlN, wV, nrm, au, mqr, vM, seval, List.map_cons, List.map_nil]
   | some y =>
    simp only [accC] at H4
    simp only [Option.isSome_some] at e5
    simp only [vz, @eP, mq, mqm, tyf, mqt, e1, e2, e4, e5, e8, oy, H0, H1, H4, zlC, nm, seval]
    refine cG (x := .tup [.agg (cGld y), .lit (.bool true)]) (by simp only [Tryz.results84, resV, resL, aD, cX, cW, uw, cr, tyf, mqt, e1, e2, e4, e5, H0, H1, H4, zlC, nm, seval] <;> rfl) ?_
    refine cY (by simp only [wV, tre, ar, mqr, Bool.and_self]) ?_
    simp only [outV, wV, nrm, au, mqr, seval, List.map_cons, List.map_nil]
  | true =>
   simp only [cond_true] at h
   have hl : (15 ≤ (accC acc).length) = True := by cases acc <;> simp [accC, zlC, yp]
   have hd : (accC acc).drop 15 = [] := by cases acc <;> rfl
   simp only [vz, @eP, mq, mqm, tyf, mqt, e1, e2, e4, e5, e8, oy, H0, H1, H4, hw, hl, hd, nm, seval]
   rw [hJ]
   exact ⟨m, qZc _, i + 1, (i : Int), some (setS l (i : Int)), by omega, rfl, qZh hnx (qZe _ _), by simp only [ua, seval, tyf], by simp only [ua, seval, H1], by simp only [ua, seval, tyf, accC], by simp only [ua, seval, e1], by simp only [ua, seval, e2], by simp only [ua, seval, e4], by simp only [ua, seval] <;> rfl, by simp only [ua, seval], h⟩
end Go.V
end
