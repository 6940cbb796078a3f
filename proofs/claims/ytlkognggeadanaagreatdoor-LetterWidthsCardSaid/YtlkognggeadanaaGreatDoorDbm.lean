/- Part of a proof. -/
import Derived.Test.YtlkognggeadanaaGreatDoorDbl
set_option linter.all false
set_option maxRecDepth 4000
set_option maxHeartbeats 40000000
section
namespace Go.V
open Go Go.Proofs IntKind
section
variable {K V : Type} {q : K → K → Bool} {z : V}
def hasR (q : K → K → Bool) (k : K) : List (K × V) → Bool
 | [] => false
 | e :: l => q k e.1 || hasR q k l
theorem Jo (k : K) : ∀ l : List (K × V), mapHas q l k = hasR q k l
 | [] => rfl
 | e :: l => by
  have ih := Jo k l
  unfold mapHas at ih ⊢
  rw [List.map_cons]
  unfold kIdx hasR
  cases hq : q k e.1 with
  | true => rfl
  | false =>
   simp only [cond_false, Bool.false_or]
   rw [Fq, Option.isSome_map, ih]
theorem BE (hq : ∀ a b, q a b = true ↔ a = b) (k k' : K) (v : V) : ∀ l : List (K × V), hasR q k' (setR q k v l) = (q k' k || hasR q k' l)
 | [] => by simp [setR, hasR]
 | e :: l => by
  have ih := BE hq k k' v l
  unfold setR
  cases he : q k e.1 with
  | true =>
   have e1 := (hq _ _).1 he
   simp only [if_true, hasR, ← e1]
   cases q k' k <;> simp
  | false =>
   simp only [Bool.false_eq_true, if_false, hasR, ih]
   cases q k' e.1 <;> cases q k' k <;> simp
end
theorem Fs (a b : Glp) : eV a b = true ↔ a = b := ⟨vg a b, fun h => by rw [h]; exact wB b⟩
def lastP (l r : Int) : List GLp → Option GSpan → Option GSpan
 | [], a => a
 | p :: ps, a => lastP l r ps (if l = p.Left ∧ r = p.Right then some p.Space else a)
def MapOk (m : List (Glp × GSpan)) (A : Int → Int → Option GSpan) : Prop := ∀ l r, mapHas eV m (Glp.mk l r) = (A l r).isSome ∧ ∀ v, A l r = some v → mapGet eV (GSpan.mk 0 0) m (Glp.mk l r) = v
theorem BF : ∀ (ps : List GLp) (i : Int) (m : List (Glp × GSpan)) (A : Int → Int → Option GSpan), MapOk m A → ∃ m', yT ps i m = some (.go m') ∧ MapOk m' (fun l r => lastP l r ps (A l r))
 | [], i, m, A, h => ⟨m, rfl, h⟩
 | p :: ps, i, m, A, h => by
  simp only [yT]
  obtain ⟨m', h1, h2⟩ := BF ps (i + 1) (mapSet eV m (Glp.mk p.Left p.Right) p.Space) (fun l r => if l = p.Left ∧ r = p.Right then some p.Space else A l r) (fun l r => by
   rw [Jo, Ft, BE Fs, ← Jo, (h l r).1, ← Ft, Jp Fs]
   by_cases hk : l = p.Left ∧ r = p.Right
   ·have : eV (Glp.mk l r) (Glp.mk p.Left p.Right) = true := (Fs _ _).2 (by rw [hk.1, hk.2])
    rw [this]
    simp only [if_pos hk]
    simp
   ·have : eV (Glp.mk l r) (Glp.mk p.Left p.Right) = false := by
     cases hh : eV (Glp.mk l r) (Glp.mk p.Left p.Right) with
     | false => rfl
     | true =>
      have := (Fs _ _).1 hh
      simp only [Glp.mk.injEq] at this
      exact absurd this hk
    rw [this]
    simp only [if_neg hk]
    simpa using (h l r).2)
  exact ⟨m', h1, h2⟩
abbrev FL := GLe × Int × Bool
def letW (i : Int) (al : Int) : List Int → Int → List FL
 | [], _ => []
 | c :: cs, k => (GLe.mk i (k + 1), c, decide (k + 1 < al)) :: letW i al cs (k + 1)
def ltrsL (out : List Int) : List GLw → Int → List FL
 | [], _ => []
 | w :: ws, i => cond (out.contains i) (ltrsL out ws (i + 1)) (letW i (w.Signs.length : Int) w.Signs 0 ++ ltrsL out ws (i + 1))
def AL : List GLe → List FL → Prop
 | [], [] => True
 | [], _ :: _ => False
 | _ :: _, [] => False
 | e :: es, f :: fl => if e = f.1 then AL es fl else AL (e :: es) fl
def mkS : List GLe → List FL → Int → List Glm × List GLe × Int
 | es, [], r => ([], es, r)
 | [], _ :: _, r => ([], [], r)
 | e :: es, f :: fl, r => if e = f.1 then (Glm.mk f.1.Word f.2.1 r f.2.2 :: (mkS es fl (r + 1)).1, (mkS es fl (r + 1)).2) else (Glm.mk f.1.Word f.2.1 r false :: (mkS (e :: es) fl r).1, (mkS (e :: es) fl r).2)
theorem roomOk32 {n : Nat} (h : n ≤ 1000) : av 32 n = true := by simp [av]; omega
theorem wC (x : GLx) (hl : x.Ends.length < 1000000) (i : Int) (w : GLw) : ∀ (cs : List Int) (k r : Int) (acc : List Glm) (es : List GLe) (fl : List FL), 0 ≤ k → k + cs.length ≤ 1000 → 0 ≤ r → r + es.length = x.Ends.length → x.Ends.drop r.toNat = es → AL es (letW i (w.Signs.length : Int) cs k ++ fl) → acc.length + cs.length ≤ 1000 →
  oX x i w cs k r acc = some (.go ((mkS es (letW i (w.Signs.length : Int) cs k) r).2.2, acc ++ (mkS es (letW i (w.Signs.length : Int) cs k) r).1)) ∧ AL (mkS es (letW i (w.Signs.length : Int) cs k) r).2.1 fl ∧ 0 ≤ (mkS es (letW i (w.Signs.length : Int) cs k) r).2.2 ∧ (mkS es (letW i (w.Signs.length : Int) cs k) r).2.2 + (mkS es (letW i (w.Signs.length : Int) cs k) r).2.1.length = x.Ends.length ∧ x.Ends.drop (mkS es (letW i (w.Signs.length : Int) cs k) r).2.2.toNat = (mkS es (letW i (w.Signs.length : Int) cs k) r).2.1 ∧ (mkS es (letW i (w.Signs.length : Int) cs k) r).1.length = cs.length
 | [], k, r, acc, es, fl, _, _, h0, h1, h2, h3, _ => by
  cases es <;> exact ⟨by simp [oX, letW, mkS], h3, h0, h1, h2, rfl⟩
 | c :: cs, k, r, acc, es, fl, GP, hk, h0, h1, h2, h3, h4 => by
  simp only [List.length_cons] at h4 hk
  cases es with
  | nil => exact h3.elim
  | cons e es =>
   have hg : getI x.Ends r = some e := eg h0 h2
   simp only [List.length_cons] at h1
   simp only [oX, hg, Option.bind_some]
   rw [BG e (GLe.mk i (k + 1)), jd (by omega) (by omega)]
   simp only [letW, List.cons_append] at h3 ⊢
   unfold AL at h3
   unfold mkS
   by_cases he : e = GLe.mk i (k + 1)
   ·simp only [he, if_true] at h3 ⊢
    simp only [decide_true, cond_true]
    rw [roomOk32 (by simp; omega), cond_true]
    obtain ⟨q1, q2, q3, q4, q5, q6⟩ := wC x hl i w cs (k + 1) (r + 1) (acc ++ [Glm.mk i c r (decide (k + 1 < (w.Signs.length : Int)))]) es fl (by omega) (by omega) (by omega) (by omega) (bK h0 h2) h3 (by simp; omega)
    refine ⟨?_, q2, q3, q4, q5, by simp [q6]⟩
    rw [q1]
    simp
   ·simp only [if_neg he] at h3 ⊢
    rw [decide_eq_false he, cond_false, roomOk32 (by simp; omega), cond_true]
    obtain ⟨q1, q2, q3, q4, q5, q6⟩ := wC x hl i w cs (k + 1) r (acc ++ [Glm.mk i c r false]) (e :: es) fl (by omega) (by omega) h0 (by simp only [List.length_cons]; omega) h2 h3 (by simp; omega)
    refine ⟨?_, q2, q3, q4, q5, by simp [q6]⟩
    rw [q1]
    simp
theorem wD {e : GLe} {f : FL} {es : List GLe} {fl : List FL} {r : Int} (h : e = f.1) : mkS (e :: es) (f :: fl) r = (Glm.mk f.1.Word f.2.1 r f.2.2 :: (mkS es fl (r + 1)).1, (mkS es fl (r + 1)).2) := by
 rw [mkS, if_pos h]
theorem wE {e : GLe} {f : FL} {es : List GLe} {fl : List FL} {r : Int} (h : ¬ e = f.1) : mkS (e :: es) (f :: fl) r = (Glm.mk f.1.Word f.2.1 r false :: (mkS (e :: es) fl r).1, (mkS (e :: es) fl r).2) := by
 rw [mkS, if_neg h]
theorem wF : ∀ (a b : List FL) (es : List GLe) (r : Int), AL es (a ++ b) → (mkS es (a ++ b) r).1 = (mkS es a r).1 ++ (mkS (mkS es a r).2.1 b (mkS es a r).2.2).1 ∧ (mkS es (a ++ b) r).2 = (mkS (mkS es a r).2.1 b (mkS es a r).2.2).2
 | [], b, es, r, _ => by cases es <;> simp [mkS]
 | f :: a, b, [], r, h => h.elim
 | f :: a, b, e :: es, r, h => by
  rw [List.cons_append] at h ⊢
  unfold AL at h
  by_cases he : e = f.1
  ·rw [if_pos he] at h
   obtain ⟨h1, h2⟩ := wF a b es (r + 1) h
   rw [wD he, wD he]
   simp only [h1, h2, List.cons_append, and_self]
  ·rw [if_neg he] at h
   obtain ⟨h1, h2⟩ := wF a b (e :: es) r h
   rw [wE he, wE he]
   simp only [h1, h2, List.cons_append, and_self]
theorem BH (i al : Int) : ∀ (cs : List Int) (k : Int), (letW i al cs k).length = cs.length
 | [], _ => rfl
 | c :: cs, k => by simp [letW, BH i al cs]
theorem wG (x : GLx) (ho : lenOk x.Out = true) (hl : x.Ends.length < 1000000) : ∀ (ws : List GLw) (i r : Int) (acc : List Glm) (es : List GLe), (∀ w ∈ ws, w.Signs.length ≤ 6) → 0 ≤ r → r + es.length = x.Ends.length → x.Ends.drop r.toNat = es → AL es (ltrsL x.Out ws i) → acc.length + 6 * ws.length ≤ 1000 →
  t0 x ws i r acc = some (.go ((mkS es (ltrsL x.Out ws i) r).2.2, acc ++ (mkS es (ltrsL x.Out ws i) r).1))
 | [], i, r, acc, es, _, _, _, _, h3, _ => by
  cases es with
  | nil => simp [t0, ltrsL, mkS]
  | cons e es => exact h3.elim
 | w :: ws, i, r, acc, es, hw, h0, h1, h2, h3, h4 => by
  simp only [List.length_cons] at h4
  have hw1 := hw w (qZb ..)
  have SG : ∀ v ∈ ws, v.Signs.length ≤ 6 := fun v hv => hw v (qZa _ hv)
  simp only [t0, SH _ _ ho, Option.bind_some]
  unfold ltrsL at h3 ⊢
  cases hc : x.Out.contains i with
  | true =>
   rw [hc] at h3
   simp only [cond_true] at h3 ⊢
   exact wG x ho hl ws (i + 1) r acc es SG h0 h1 h2 h3 (by omega)
  | false =>
   rw [hc] at h3
   simp only [cond_false] at h3 ⊢
   obtain ⟨q1, q2, q3, q4, q5, q6⟩ := wC x hl i w w.Signs 0 r acc es (ltrsL x.Out ws (i + 1)) (by omega) (by omega) h0 h1 h2 h3 (by omega)
   obtain ⟨a1, a2⟩ := wF _ _ es r h3
   rw [oV (by omega), cond_true, q1, mY, wG x ho hl ws (i + 1) _ _ _ SG q3 q4 q5 q2 (by simp only [List.length_append, q6]; omega), a1, a2]
   simp
theorem tP {i al : Int} {f : FL} : ∀ {cs : List Int} {k : Int}, f ∈ letW i al cs k → f.1.Word = i ∧ k + 1 ≤ f.1.Letters ∧ f.1.Letters ≤ k + cs.length ∧ f.2.1 ∈ cs ∧ f.2.2 = decide (f.1.Letters < al)
 | [], _, h => by cases h
 | c :: cs, k, h => by
  rcases List.mem_cons.1 h with rfl | h
  ·exact ⟨rfl, qZe _, by simp; omega, qZb .., rfl⟩
  ·obtain ⟨h1, h2, h3, h4, h5⟩ := tP h
   exact ⟨h1, by omega, by simp only [List.length_cons]; omega, qZa _ h4, h5⟩
theorem Jq {i al : Int} : ∀ (cs : List Int) (k : Int) (n : Int), k + 1 ≤ n → n ≤ k + cs.length → GLe.mk i n ∈ (letW i al cs k).map (·.1)
 | [], k, n, h1, h2 => by simp at h2; omega
 | c :: cs, k, n, h1, h2 => by
  simp only [List.length_cons] at h2
  simp only [letW, List.map_cons]
  by_cases h : n = k + 1
  ·rw [h]; exact qZb ..
  ·exact qZa _ (Jq cs (k + 1) n (by omega) (by omega))
theorem BI {i al : Int} : ∀ (cs : List Int) (k : Int), ((letW i al cs k).map (·.1)).Pairwise befE
 | [], _ => List.Pairwise.nil
 | c :: cs, k => by
  simp only [letW, List.map_cons, List.pairwise_cons]
  refine ⟨fun x hx => ?_, BI cs (k + 1)⟩
  obtain ⟨f, hf, rfl⟩ := List.mem_map.1 hx
  obtain ⟨h1, h2, _⟩ := tP hf
  exact .inr ⟨h1.symm, by show k + 1 < _; omega⟩
theorem yU {out : List Int} {f : FL} : ∀ {ws : List GLw} {i : Int}, f ∈ ltrsL out ws i → i ≤ f.1.Word ∧ ∃ w ∈ ws, f.2.1 ∈ w.Signs
 | [], _, h => by cases h
 | w :: ws, i, h => by
  unfold ltrsL at h
  cases hc : out.contains i with
  | true =>
   rw [hc, cond_true] at h
   obtain ⟨h1, v, h2, h3⟩ := yU h
   exact ⟨by omega, v, qZa _ h2, h3⟩
  | false =>
   rw [hc, cond_false] at h
   rcases List.mem_append.1 h with h | h
   ·obtain ⟨h1, _, _, h4, _⟩ := tP h
    exact ⟨by omega, w, qZb .., h4⟩
   ·obtain ⟨h1, v, h2, h3⟩ := yU h
    exact ⟨by omega, v, qZa _ h2, h3⟩
theorem BJ (out : List Int) : ∀ (ws : List GLw) (i : Int), ((ltrsL out ws i).map (·.1)).Pairwise befE
 | [], _ => List.Pairwise.nil
 | w :: ws, i => by
  unfold ltrsL
  cases out.contains i with
  | true => exact BJ out ws (i + 1)
  | false =>
   rw [cond_false, List.map_append, List.pairwise_append]
   refine ⟨BI _ _, BJ out ws (i + 1), fun a ha b hb => ?_⟩
   obtain ⟨f, hf, rfl⟩ := List.mem_map.1 ha
   obtain ⟨g, hg, rfl⟩ := List.mem_map.1 hb
   have h1 := (tP hf).1
   have h2 := (yU hg).1
   left; omega
theorem Jr (out : List Int) : ∀ (ws : List GLw) (i : Int), (∀ w ∈ ws, 1 ≤ w.Signs.length ∧ ∀ c ∈ w.Cuts, 1 ≤ c ∧ c < (w.Signs.length : Int)) → ∀ e ∈ possL out ws i, e ∈ (ltrsL out ws i).map (·.1)
 | [], _, _, e, he => by simp [possL] at he
 | w :: ws, i, h, e, he => by
  have hw := h w (qZb ..)
  have ih := Jr out ws (i + 1) (fun v hv => h v (qZa _ hv)) e
  unfold possL at he
  unfold ltrsL
  cases hc : out.contains i with
  | true => rw [hc, cond_true] at he; exact ih he
  | false =>
   rw [hc, cond_false] at he
   rw [cond_false, List.map_append, List.mem_append]
   rcases List.mem_append.1 he with he | he
   ·left
    obtain ⟨h1, h2⟩ := yV.1 he
    obtain ⟨a, b⟩ := e
    subst h1
    rcases h2 with h2 | h2
    ·have := hw.2 _ h2
     exact Jq _ _ _ (by simp only at this ⊢; omega) (by simp only at this ⊢; omega)
    ·simp only at h2
     subst h2
     exact Jq _ _ _ (by omega) (by omega)
   ·exact .inr (ih he)
theorem SI (i al : Int) : ∀ (cs : List Int) (k : Int), cs ≠ [] → ((letW i al cs k).map (·.1)).getLast? = some (GLe.mk i (k + cs.length))
 | [], _, h => absurd rfl h
 | [c], k, _ => by simp [letW]
 | c :: d :: cs, k, _ => by
  have ih := SI i al (d :: cs) (k + 1) (by simp)
  rw [letW, List.map_cons, List.getLast?_cons, ih]
  simp only [List.length_cons, Option.getD_some, Option.some.injEq, GLe.mk.injEq, true_and]
  omega
theorem SJ (out : List Int) : ∀ (ws : List GLw) (i : Int), (∀ w ∈ ws, 1 ≤ w.Signs.length) → ((ltrsL out ws i).map (·.1)).getLast? = (possL out ws i).getLast?
 | [], _, _ => rfl
 | w :: ws, i, h => by
  have hw := h w (qZb ..)
  have ih := SJ out ws (i + 1) fun v hv => h v (qZa _ hv)
  unfold ltrsL possL
  cases out.contains i with
  | true => exact ih
  | false =>
   have hne : w.Signs ≠ [] := by intro h; rw [h] at hw; simp at hw
   simp only [cond_false, List.map_append, List.getLast?_append, ih, SI _ _ _ _ hne]
   congr 1
   simp [posW]
theorem AL_of : ∀ (es : List GLe) (fl : List FL), es.Pairwise befE → (fl.map (·.1)).Pairwise befE → (∀ e ∈ es, e ∈ fl.map (·.1)) → es.getLast? = (fl.map (·.1)).getLast? → AL es fl
 | [], [], _, _, _, _ => trivial
 | [], f :: fl, _, _, _, h => by simp [List.getLast?_cons] at h
 | e :: es, [], _, _, h, _ => by have := h e (qZb ..); cases this
 | e :: es, f :: fl, h1, h2, h3, h4 => by
  rw [List.map_cons, List.pairwise_cons] at h2
  unfold AL
  by_cases he : e = f.1
  ·rw [if_pos he]
   rw [List.pairwise_cons] at h1
   refine AL_of es fl h1.2 h2.2 (fun x hx => ?_) ?_
   ·rcases List.mem_cons.1 (h3 x (qZa _ hx)) with h | h
    ·have := h1.1 x hx
     have h' : x = f.1 := h
     rw [h', ← he] at this
     exact absurd this t4
    ·exact h
   ·rw [List.map_cons, List.getLast?_cons, List.getLast?_cons, Option.some.injEq] at h4
    cases hp : es.getLast? with
    | none =>
     rw [hp] at h4
     cases hr : (fl.map (·.1)).getLast? with
     | none => rfl
     | some y =>
      rw [hr] at h4
      simp only [Option.getD_none, Option.getD_some] at h4
      have := h2.1 _ (List.mem_of_getLast? hr)
      rw [← h4, he] at this
      exact absurd this t4
    | some z =>
     rw [hp] at h4
     cases hr : (fl.map (·.1)).getLast? with
     | none =>
      rw [hr] at h4
      simp only [Option.getD_none, Option.getD_some] at h4
      have := h1.1 _ (List.mem_of_getLast? hp)
      rw [h4, he] at this
      exact absurd this t4
     | some y =>
      rw [hr] at h4
      simp only [Option.getD_some] at h4
      rw [h4]
  ·rw [if_neg he]
   have hbe : befE f.1 e := by
    rcases List.mem_cons.1 (h3 e (qZb ..)) with h | h
    ·exact absurd h he
    ·exact h2.1 e h
   refine AL_of (e :: es) fl h1 h2.2 (fun x hx => ?_) ?_
   ·rcases List.mem_cons.1 (h3 x hx) with h | h
    ·exfalso
     rcases List.mem_cons.1 hx with hx | hx
     ·exact he (by rw [← hx, h])
     ·have := (List.pairwise_cons.1 h1).1 x hx
      rw [h] at this
      exact t4 (BK hbe this)
    ·exact h
   ·rw [h4, List.map_cons, List.getLast?_cons]
    cases hr : (fl.map (·.1)).getLast? with
    | none =>
     exfalso
     have := List.getLast?_eq_none_iff.1 hr
     rcases List.mem_cons.1 (h3 e (qZb ..)) with h | h
     ·exact he h
     ·rw [this] at h; cases h
    | some y => rfl
end Go.V
end
section
namespace Go.V
open Go Go.Proofs IntKind
def mkOk (b : Nat) (n : Int) : Bool := decide (0 ≤ n) && av b n.toNat
theorem BL {b : Nat} {n : Int} : mkOk b n = true ↔ 0 ≤ n ∧ n.toNat * b ≤ 140737488355328 := by
 unfold mkOk av
 rw [Bool.and_eq_true, decide_eq_true_eq, decide_eq_true_eq]
theorem Js {v : Value} (n : Nat) : vzeros #[v] n = List.replicate n (ofVal1 v) := by
 unfold vzeros
 rw [List.eq_replicate_iff]
 refine ⟨by simp, fun x hx => ?_⟩
 obtain ⟨i, _, rfl⟩ := List.mem_map.1 hx
 have : i % (#[v] : Array Value).size = 0 := by simp [Nat.mod_one]
 rw [this]
 rfl
theorem SK {α : Type} {enc : α → List VV} {z : α} {x : VV} (h : enc z = [x]) : ∀ n : Nat, aa enc (List.replicate n z) = List.replicate n x
 | 0 => rfl
 | n + 1 => by rw [List.replicate_succ, List.replicate_succ, dj, h, SK h n]; rfl
section
variable {P : Program} {G : Glob} {γ : Nat} {tm : Nat → VV} {H : Nat → Option VObj} {α : Type} {enc : α → List VV} {z : α} {t e b : Nat} {n : Int} {v : Value} {x y : Operand} {d : Option Tmp} {ty : TypeId} {pos : String} {af : Array Edge} {g : Option (Nat × Bool)} {k : VV → VEff → Prop}
theorem k_mkS (ha : appOk P t = some (e, 1, b)) (hz : vzero P e = some #[v]) (hzv : enc z = [ofVal1 v]) (hx : ev G tm x = .lit (.int .i64 n)) (hy : ev G tm y = .lit (.int .i64 n)) (hg : mkOk b n = true)
  (h : k (.ref γ 0 (List.replicate n.toNat z).length 1 (List.replicate n.toNat z).length) (.new (.cells (some e) (aa enc (List.replicate n.toNat z))))) : oeK (vop P ⟨d, .makeSlice t x y, ty, pos, af, g⟩ (ev G tm) H γ) k := by
 obtain ⟨hu, inf, zz, hi, hzz, hs, hb, Fu, BM, hzs⟩ := Jt ha
 obtain ⟨h0, h1⟩ := BL.1 hg
 have hzc : zz.cells = #[v] := by
  unfold vzero at hz
  rw [hi] at hz
  simp only [Option.bind_some, hzz, Option.map_some, Option.some.injEq] at hz
  exact hz
 have hk : vmakeSlice P t (.lit (.int .i64 n)) (.lit (.int .i64 n)) = some (List.replicate n.toNat (ofVal1 v), n.toNat, 1) := by
  have h2 : (inf.bytes : Int) * n ≤ 140737488355328 := by
   rw [hb]
   have h3 : ((n.toNat * b : Nat) : Int) ≤ ((140737488355328 : Nat) : Int) := Int.ofNat_le.2 h1
   rw [Int.natCast_mul, Int.toNat_of_nonneg h0, Int.mul_comm] at h3
   exact h3
  have hb0' : 0 < inf.bytes := by rw [hb]; exact BM
  unfold vmakeSlice
  rw [hu]
  simp only [hi, hzz]
  rw [hs, hzc, if_pos ⟨h0, qZe _, Nat.zero_lt_one, hb0', h2, rfl⟩, Nat.mul_one, Js]
 have he : elemT P t = some e := by simp [elemT, hu]
 rw [SK hzv, List.length_replicate] at h
 simp only [vop, hx, hy, hk, Option.map_some, he]
 exact h
end
end Go.V
end
section
namespace Go.V
open Go Go.Proofs IntKind
def vh (aA : Gld) (bm : GSpan) : Option (Int) := some (i64.wrap (bm.Low + (i64.wrap (Int.tdiv (i64.wrap ((i64.wrap (bm.High - bm.Low)) * aA.stretch)) 10))))
theorem Fv (aA : Gld) (bm : GSpan) (R : Int) (h : vh aA bm = some R) : ag Tryz.prog G0 170 [.agg (cGld aA), .agg (cGSpan bm)] (.tree (.lit (.int .i64 R))) := by
 refine ag.runR mixed Tryz.call170 Tryz.func170 rfl (by simp [Tryz.ntmps170]; kernel_rfl) ?_
 obtain ⟨KF, h, kF, kN⟩ := eC h
 simp only [vh] at h
 try simp only [vz, mq, mqm, qr, tyf, mqt, nm, seval]
 refine eh (x := (.lit (.int .i64 (i64.wrap (bm.Low + (i64.wrap (Int.tdiv (i64.wrap ((i64.wrap (bm.High - bm.Low)) * aA.stretch)) 10))))))) (by first | (simp only [Tryz.results170, resV, resL, aR, ei, ej, uw, cr, tyf, mqt, nm, seval] <;> rfl) | rfl) ?_
 obtain rfl := kF _ h
 refine eD ?_ ?_
 ·simp only [tre, aG, mqr, Bool.and_self]
 ·first | (simp only [outV, uw, ep, nF, mZ, cr, tyf, mqt, nrm, aE, nm, seval] <;> rfl) | rfl
def BN (aA : Gld) (aj : Int) : Option (Int) := Option.bind (getI aA.marks aj) (fun x1 => cond (x1.hyphen) (Option.bind (vh aA aA.ls.Other) (fun r2 => some r2)) (cond ((i64.wrap (aj + 1)) == (List.length aA.marks : Int)) (some 0) (Option.bind (getI aA.marks (i64.wrap (aj + 1))) (fun x3 => cond (x3.row != x1.row) (some 0) (cond (x3.word != x1.word) (Option.bind (vh aA aA.ls.Gap) (fun r4 => some r4)) (cond (mapHas eV aA.spaces (Glp.mk x1.sign x3.sign)) (Option.bind (vh aA (mapGet eV (GSpan.mk 0 0) aA.spaces (Glp.mk x1.sign x3.sign))) (fun r5 => some r5)) (Option.bind (vh aA aA.ls.Other) (fun r6 => some r6))))))))
theorem SL (aA : Gld) (aj : Int) (R : Int) (h : BN aA aj = some R) : ag Tryz.prog G0 153 [.agg (cGld aA), .lit (.int .i64 aj)] (.tree (.lit (.int .i64 R))) := by
 refine ag.runR mixed Tryz.call153 Tryz.func153 rfl (by simp [Tryz.ntmps153]; kernel_rfl) ?_
 obtain ⟨KF, h, kF, kN⟩ := eC h
 simp only [BN] at h
 obtain ⟨x7, o8, h⟩ := optI h kN
 try simp only [hs] at h
 cases d9 : (x7.hyphen)
 ·simp only [d9, hs] at h
  cases eu : ((i64.wrap (aj + 1)) == (List.length aA.marks : Int))
  ·simp only [eu, hs] at h
   obtain ⟨Fx, lC, h⟩ := optI h kN
   try simp only [hs] at h
   cases bD : (Fx.row != x7.row)
   ·simp only [bD, hs] at h
    cases bV : (Fx.word != x7.word)
    ·simp only [bV, hs] at h
     cases gf : (mapHas eV aA.spaces (Glp.mk x7.sign Fx.sign))
     ·simp only [gf, hs] at h
      obtain ⟨vi, BO, h⟩ := optI h kN
      try simp only [hs] at h
      simp only [vz, mq, mqm, tyf, mqt, (bp o8), d9, eu, (bp lC), bD, bV, gf, nm, seval]
      refine ktree (args0 := [.agg (cGld aA), .agg (cGSpan aA.ls.Other)]) (by first | (simp only [nrm, aE, @Fy, tyf, mqt, d9, eu, bD, bV, gf] <;> rfl) | rfl) (by simp only [tre, aG, mqr, Bool.and_self]) (Fv _ _ _ BO) ?_
      refine b5 (fun tm => tm 67 = .lit (.int .i64 vi) ∧ True) (by refine ⟨?_, trivial⟩ <;> first | (simp only [ua, dk, d9, eu, bD, bV, gf, nm, seval] <;> rfl) | rfl | (simp only [ua, dk, tyf, mqt, d9, eu, bD, bV, gf, nm, seval] <;> rfl)) ?_
      rintro tm ⟨bL, _⟩
      try simp only [vz, mq, mqm, tyf, mqt, (bp o8), d9, eu, (bp lC), bD, bV, gf, bL, nm, seval]
      refine eh (x := (.lit (.int .i64 vi))) (by first | (simp only [Tryz.results153, resV, resL, aR, ei, ej, uw, cr, tyf, mqt, (bp o8), d9, eu, (bp lC), bD, bV, gf, nm, seval] <;> rfl) | rfl) ?_
      obtain rfl := kF _ h
      refine eD ?_ ?_
      ·simp only [tre, aG, mqr, Bool.and_self]
      ·first | (simp only [outV, uw, ep, nF, mZ, cr, tyf, mqt, nrm, aE, (bp o8), d9, eu, (bp lC), bD, bV, gf, bL, nm, seval] <;> rfl) | rfl
     simp only [gf, hs] at h
     obtain ⟨SM, pW, h⟩ := optI h kN
     try simp only [hs] at h
     simp only [vz, mq, mqm, tyf, mqt, (bp o8), d9, eu, (bp lC), bD, bV, gf, nm, seval]
     refine ktree (args0 := [.agg (cGld aA), .agg (cGSpan (mapGet eV (GSpan.mk 0 0) aA.spaces (Glp.mk x7.sign Fx.sign)))]) (by first | (simp only [nrm, aE, @Fy, tyf, mqt, d9, eu, bD, bV, gf] <;> rfl) | rfl) (by simp only [tre, aG, mqr, Bool.and_self]) (Fv _ _ _ pW) ?_
     refine b5 (fun tm => tm 62 = .lit (.int .i64 SM) ∧ True) (by refine ⟨?_, trivial⟩ <;> first | (simp only [ua, dk, d9, eu, bD, bV, gf, nm, seval] <;> rfl) | rfl | (simp only [ua, dk, tyf, mqt, d9, eu, bD, bV, gf, nm, seval] <;> rfl)) ?_
     rintro tm ⟨cn, _⟩
     try simp only [vz, mq, mqm, tyf, mqt, (bp o8), d9, eu, (bp lC), bD, bV, gf, cn, nm, seval]
     refine eh (x := (.lit (.int .i64 SM))) (by first | (simp only [Tryz.results153, resV, resL, aR, ei, ej, uw, cr, tyf, mqt, (bp o8), d9, eu, (bp lC), bD, bV, gf, nm, seval] <;> rfl) | rfl) ?_
     obtain rfl := kF _ h
     refine eD ?_ ?_
     ·simp only [tre, aG, mqr, Bool.and_self]
     ·first | (simp only [outV, uw, ep, nF, mZ, cr, tyf, mqt, nrm, aE, (bp o8), d9, eu, (bp lC), bD, bV, gf, cn, nm, seval] <;> rfl) | rfl
    simp only [bV, hs] at h
    obtain ⟨BP, nG, h⟩ := optI h kN
    try simp only [hs] at h
    simp only [vz, mq, mqm, tyf, mqt, (bp o8), d9, eu, (bp lC), bD, bV, nm, seval]
    refine ktree (args0 := [.agg (cGld aA), .agg (cGSpan aA.ls.Gap)]) (by first | (simp only [nrm, aE, @Fy, tyf, mqt, d9, eu, bD, bV] <;> rfl) | rfl) (by simp only [tre, aG, mqr, Bool.and_self]) (Fv _ _ _ nG) ?_
    refine b5 (fun tm => tm 47 = .lit (.int .i64 BP) ∧ True) (by refine ⟨?_, trivial⟩ <;> first | (simp only [ua, dk, d9, eu, bD, bV, nm, seval] <;> rfl) | rfl | (simp only [ua, dk, tyf, mqt, d9, eu, bD, bV, nm, seval] <;> rfl)) ?_
    rintro tm ⟨cu, _⟩
    try simp only [vz, mq, mqm, tyf, mqt, (bp o8), d9, eu, (bp lC), bD, bV, cu, nm, seval]
    refine eh (x := (.lit (.int .i64 BP))) (by first | (simp only [Tryz.results153, resV, resL, aR, ei, ej, uw, cr, tyf, mqt, (bp o8), d9, eu, (bp lC), bD, bV, nm, seval] <;> rfl) | rfl) ?_
    obtain rfl := kF _ h
    refine eD ?_ ?_
    ·simp only [tre, aG, mqr, Bool.and_self]
    ·first | (simp only [outV, uw, ep, nF, mZ, cr, tyf, mqt, nrm, aE, (bp o8), d9, eu, (bp lC), bD, bV, cu, nm, seval] <;> rfl) | rfl
   simp only [bD, hs] at h
   try simp only [vz, mq, mqm, tyf, mqt, (bp o8), d9, eu, (bp lC), bD, nm, seval]
   refine eh (x := (.lit (.int .i64 0))) (by first | (simp only [Tryz.results153, resV, resL, aR, ei, ej, uw, cr, tyf, mqt, (bp o8), d9, eu, (bp lC), bD, nm, seval] <;> rfl) | rfl) ?_
   obtain rfl := kF _ h
   refine eD ?_ ?_
   ·simp only [tre, aG, mqr, Bool.and_self]
   ·first | (simp only [outV, uw, ep, nF, mZ, cr, tyf, mqt, nrm, aE, (bp o8), d9, eu, (bp lC), bD, nm, seval] <;> rfl) | rfl
  simp only [eu, hs] at h
  try simp only [vz, mq, mqm, tyf, mqt, (bp o8), d9, eu, nm, seval]
  refine eh (x := (.lit (.int .i64 0))) (by first | (simp only [Tryz.results153, resV, resL, aR, ei, ej, uw, cr, tyf, mqt, (bp o8), d9, eu, nm, seval] <;> rfl) | rfl) ?_
  obtain rfl := kF _ h
  refine eD ?_ ?_
  ·simp only [tre, aG, mqr, Bool.and_self]
  ·first | (simp only [outV, uw, ep, nF, mZ, cr, tyf, mqt, nrm, aE, (bp o8), d9, eu, nm, seval] <;> rfl) | rfl
 simp only [d9, hs] at h
 obtain ⟨vj, j4, h⟩ := optI h kN
 try simp only [hs] at h
 simp only [vz, mq, mqm, tyf, mqt, (bp o8), d9, nm, seval]
 refine ktree (args0 := [.agg (cGld aA), .agg (cGSpan aA.ls.Other)]) (by first | (simp only [nrm, aE, @Fy, tyf, mqt, d9] <;> rfl) | rfl) (by simp only [tre, aG, mqr, Bool.and_self]) (Fv _ _ _ j4) ?_
 refine b5 (fun tm => tm 20 = .lit (.int .i64 vj) ∧ True) (by refine ⟨?_, trivial⟩ <;> first | (simp only [ua, dk, d9, nm, seval] <;> rfl) | rfl | (simp only [ua, dk, tyf, mqt, d9, nm, seval] <;> rfl)) ?_
 rintro tm ⟨dm, _⟩
 try simp only [vz, mq, mqm, tyf, mqt, (bp o8), d9, dm, nm, seval]
 refine eh (x := (.lit (.int .i64 vj))) (by first | (simp only [Tryz.results153, resV, resL, aR, ei, ej, uw, cr, tyf, mqt, (bp o8), d9, nm, seval] <;> rfl) | rfl) ?_
 obtain rfl := kF _ h
 refine eD ?_ ?_
 ·simp only [tre, aG, mqr, Bool.and_self]
 ·first | (simp only [outV, uw, ep, nF, mZ, cr, tyf, mqt, nrm, aE, (bp o8), d9, dm, nm, seval] <;> rfl) | rfl
def wH  : List Int → Int → Int → Option (LOut (Int) (Int))
 | [], dz, gJ => some (.go gJ)
 | e0 :: p0, dz, gJ => wH p0 (dz + 1) (i64.wrap (gJ + e0))
def BQ (bk : List Int) : Option (Int) := cond (lenOk bk) (lbind (wH bk 0 0) (fun r2 => some r2) (fun c1 => some c1) (fun _ _ => none)) none
theorem SN (bk : List Int) (R : Int) (h : BQ bk = some R) : ag Tryz.prog G0 169 [.sl (aa eI bk) (List.length bk) false] (.tree (.lit (.int .i64 R))) := by
 refine ag.runR mixed Tryz.call169 Tryz.func169 rfl (by simp [Tryz.ntmps169]; kernel_rfl) ?_
 obtain ⟨KF, h, kF, kN⟩ := eC h
 simp only [BQ] at h
 cases g4 : (lenOk bk)
 ·simp only [g4, hs] at h
  exact absurd h kN
 simp only [g4, hs] at h
 simp only [vz, tyf, g4, nm, seval]
 obtain ⟨K3, h, rY, qW, BR, BS⟩ := gp h kN
 obtain ⟨f3, rZ, h⟩ := call3 h
 obtain ⟨I3, kf⟩ : ∃ I : Nat → St → Prop, I = (fun m st => ∃ (p3 : List Int) (bS : Int) (ir : Int), m = List.length p3 ∧ 0 ≤ bS ∧ List.drop (Int.toNat bS) bk = p3 ∧ st.df = [] ∧ 5 ≤ st.nx ∧ st.tm 6 = .sl (aa eI bk) (List.length bk) false ∧ st.tm 7 = .lit (.int .i64 (List.length bk : Int)) ∧ st.tm 3 = .lit (.int .i64 ir) ∧ st.tm 8 = .lit (.int .i64 bS) ∧ K3 (f3 p3 bS ir)) := ⟨_, rfl⟩
 refine loopK mixed (by kernel_rfl) I3 (List.length bk) (by rw [kf]; refine ⟨bk, 0, 0, rfl, qZe _, rfl, rfl, (show 5 ≤ 5 by omega), ?_, ?_, ?_, ?_, h⟩ <;> first | (simp only [ua, nm, seval] <;> rfl) | rfl) ?_
 rintro m ⟨tm, H, na, df⟩ hinv
 rw [kf] at hinv
 obtain ⟨p3, bS, ir, rfl, fN, gL, hdf, sa, e5, e6, e7, e8, h⟩ := hinv
 simp only at hdf sa e5 e6 e7 e8
 have n9 := gq (m := 5) (b := na) (by omega)
 subst hdf rZ
 cases p3 with
 | nil =>
  have eu : (decide (bS < (List.length bk : Int))) = false := fy fN gL
  simp only [wH, hs, reduceCtorEq] at h
  replace h := qW _ h
  try dsimp only at h
  try simp only [hs] at h
  try simp only [vz, tyf, g4, n9, e5, e6, e7, e8, eu, nm, seval]
  refine eh (x := (.lit (.int .i64 ir))) (by first | (simp only [Tryz.results169, resV, resL, aR, ei, ej, uw, cr, tyf, g4, n9, eu, nm, seval] <;> rfl) | rfl) ?_
  obtain rfl := kF _ h
  refine eD ?_ ?_
  ·simp only [tre, aG, Bool.and_self]
  ·first | (simp only [outV, uw, ep, cr, tyf, nrm, aE, g4, n9, e5, e6, e7, e8, eu, nm, seval] <;> rfl) | rfl
 | cons e3 p3 =>
  have gu : (decide (bS < (List.length bk : Int))) = true := fz fN gL
  have pZ := eg fN gL
  have oY := f2 fN gL g4
  simp only [wH, hs, reduceCtorEq] at h
  simp only [vz, tyf, g4, n9, e5, e6, e7, e8, gu, (au pZ), oY, nm, seval]
  exact ⟨List.length p3, qZc _, by rw [kf]; refine ⟨p3, bS + 1, i64.wrap (ir + e3), rfl, Int.le_trans fN (Int.le_add_one (qZe _)), bK fN gL, rfl, (show 5 ≤ na + 10 by omega), e5, e6, ?_, ?_, (by first | exact h | (simp only [gu]; exact h))⟩ <;> first | (simp only [ua, n9, e5, e6, e7, e8, gu, oY, nm, seval] <;> rfl) | rfl⟩
def sb (aA : Gld) (cv : Int) : List Glm → Int → (List Int) → Option (LOut (Int) ((List Int)))
 | [], j5, bB => some (.go bB)
 | e0 :: p0, j5, bB => cond (e0.row != cv) (sb aA cv p0 (j5 + 1) bB) (Option.bind (getI aA.ls.Widths e0.sign) (fun x1 => Option.bind (BN aA j5) (fun r2 => cond (av 8 (List.length (bB ++ [x1, r2]))) (cond (e0.hyphen) (cond (av 8 (List.length ((bB ++ [x1, r2]) ++ [aA.ls.Hyphen]))) (sb aA cv p0 (j5 + 1) ((bB ++ [x1, r2]) ++ [aA.ls.Hyphen])) none) (sb aA cv p0 (j5 + 1) (bB ++ [x1, r2]))) none)))
def BT (aA : Gld) (cv : Int) : Option (Int) := cond (lenOk aA.marks) (lbind (sb aA cv aA.marks 0 ([] : List Int)) (fun r5 => some r5) (fun c3 => Option.bind (BQ c3) (fun r4 => some r4)) (fun _ _ => none)) none
theorem Wf (aA : Gld) (cv : Int) (R : Int) (h : BT aA cv = some R) : ag Tryz.prog G0 152 [.agg (cGld aA), .lit (.int .i64 cv)] (.tree (.lit (.int .i64 R))) := by
 refine ag.runR mixed Tryz.call152 Tryz.func152 rfl (by simp [Tryz.ntmps152]; kernel_rfl) ?_
 obtain ⟨KF, h, kF, kN⟩ := eC h
 simp only [BT] at h
 cases g7 : (lenOk aA.marks)
 ·simp only [g7, hs] at h
  exact absurd h kN
 simp only [g7, hs] at h
 simp only [vz, mq, mqm, tyf, mqt, g7, nm, seval]
 obtain ⟨K6, h, BU, wI, SO, kh⟩ := gp h kN
 obtain ⟨f6, BV, h⟩ := call3 h
 obtain ⟨I6, kR⟩ : ∃ I : Nat → St → Prop, I = (fun m st => ∃ (p6 : List Glm) (cb : Int) (b4 : List Int) (lV : VV), m = List.length p6 ∧ 0 ≤ cb ∧ List.drop (Int.toNat cb) aA.marks = p6 ∧ st.df = [] ∧ 7 ≤ st.nx ∧ st.H 0 = some (.cells (some 93) (cGld aA)) ∧ st.tm 1 = .lit (.int .i64 cv) ∧ st.tm 2 = .ptr 0 0 ∧ st.tm 9 = .sl (aa cGlm aA.marks) (List.length aA.marks) false ∧ st.tm 10 = .lit (.int .i64 (List.length aA.marks : Int)) ∧ st.tm 5 = lV ∧ st.tm 11 = .lit (.int .i64 cb) ∧ ((∃ (β : Nat) (el : Option TypeId), lV = .ref β 0 (List.length b4) 1 (List.length b4) ∧ β < st.nx ∧ β ≠ 0 ∧ st.H β = some (.cells el (aa eI b4))) ∨ (lV = .lit (.slice none 0 0) ∧ b4 = [])) ∧ K6 (f6 p6 cb b4)) := ⟨_, rfl⟩
 refine loopK mixed (by kernel_rfl) I6 (List.length aA.marks) (by rw [kR]; refine ⟨aA.marks, 0, ([] : List Int), .lit (.slice none 0 0), rfl, qZe _, rfl, rfl, (show 7 ≤ 7 by omega), ?_, ?_, ?_, ?_, ?_, ?_, ?_, Or.inr ⟨rfl, rfl⟩, h⟩ <;> first | (simp only [ua, dk, nm, seval] <;> rfl) | rfl) ?_
 rintro m ⟨tm, H, fV, df⟩ hinv
 rw [kR] at hinv
 obtain ⟨p6, cb, b4, lV, rfl, eK, gF, hdf, BW, H8, e9, aW, bc, bu, bj, bn, nb, h⟩ := hinv
 simp only at hdf BW H8 e9 aW bc bu bj bn nb
 have fu := gq (m := 7) (b := fV) (by omega)
 subst hdf BV
 rcases nb with ⟨ki, j6, rfl, sc, sd, lD⟩ | ⟨rfl, rfl⟩
 ·have la := qa sc
  have jH := ne_f sd
  cases p6 with
  | nil =>
   have hD : (decide (cb < (List.length aA.marks : Int))) = false := fy eK gF
   simp only [sb, hs, reduceCtorEq] at h
   replace h := wI _ h
   try dsimp only at h
   try simp only [hs] at h
   obtain ⟨vk, kj, h⟩ := optI h kN
   try simp only [hs] at h
   simp only [vz, mq, mqm, tyf, mqt, g7, fu, e9, aW, bc, bu, bj, bn, H8, la, lD, jH, hD, nm, seval]
   refine kseen (args0 := [.sl (aa eI b4) (List.length b4) false]) (by simp only [List.map_cons, List.map_nil, ep, bw, bx, cr, tyf, mqt, nrm, aE, g7, fu, e9, aW, bc, bu, bj, bn, H8, la, lD, jH, hD, nm, seval] <;> rfl) (by simp only [List.map_cons, List.map_nil, ep, bw, bx, cr, tyf, mqt, nrm, aE, g7, fu, e9, aW, bc, bu, bj, bn, H8, la, lD, jH, hD, nm, seval]; simp only [tre, aG, mqr, Bool.and_self]) (SN _ _ kj) (by first | rfl | simp only [VV.flat, flatL, Bool.and_self]) ?_
   refine b5 (fun tm => tm 43 = .lit (.int .i64 vk) ∧ True) (by refine ⟨?_, trivial⟩ <;> first | (simp only [ua, dk, fu, e9, aW, bc, bu, bj, bn, H8, la, lD, jH, hD, nm, seval] <;> rfl) | rfl) ?_
   rintro tm ⟨bJ, _⟩
   have BX := And.intro g7 (And.intro fu (And.intro H8 (And.intro la (And.intro lD (And.intro jH hD)))))
   try simp only [vz, mq, mqm, tyf, mqt, BX, bJ, nm, seval]
   refine eh (x := (.lit (.int .i64 vk))) (by first | (simp only [Tryz.results152, resV, resL, aR, ei, ej, uw, cr, tyf, mqt, BX, nm, seval] <;> rfl) | rfl) ?_
   obtain rfl := kF _ h
   refine eD ?_ ?_
   ·simp only [tre, aG, mqr, Bool.and_self]
   ·first | (simp only [outV, uw, ep, nF, mZ, cr, tyf, mqt, nrm, aE, BX, bJ, nm, seval] <;> rfl) | rfl
  | cons e6 p6 =>
   have fO : (decide (cb < (List.length aA.marks : Int))) = true := fz eK gF
   have j4 := eg eK gF
   have yW := f2 eK gF g7
   simp only [sb, hs, reduceCtorEq] at h
   cases mD : (e6.row != cv)
   ·simp only [mD, hs] at h
    have jl := And.intro g7 (And.intro fu (And.intro H8 (And.intro la (And.intro lD (And.intro jH (And.intro fO (And.intro yW mD)))))))
    simp only [vz, mq, mqm, tyf, mqt, jl, e9, aW, bc, bu, bj, bn, (bp j4), nm, seval]
    refine vl (fun tm => tm 1 = .lit (.int .i64 cv) ∧ tm 2 = .ptr 0 0 ∧ tm 5 = .ref ki 0 (List.length b4) 1 (List.length b4) ∧ tm 6 = .lit (.int .i64 cb) ∧ tm 7 = .ptr (fV + 4) 0 ∧ tm 9 = .sl (aa cGlm aA.marks) (List.length aA.marks) false ∧ tm 10 = .lit (.int .i64 (List.length aA.marks : Int)) ∧ tm 11 = .lit (.int .i64 cb) ∧ True) (by refine ⟨e9, aW, bj, ?_, ?_, bc, bu, bn, trivial⟩ <;> first | (simp only [ua, dk, jl, e9, aW, bc, bu, bj, bn, nm, seval] <;> rfl) | rfl) ?_
    rintro tm ⟨eW, bI, mF, oZ, fA, eQ, eX, bM, _⟩
    obtain ⟨qb, lE, h⟩ := optI h kh
    try simp only [hs] at h
    obtain ⟨se, Wg, h⟩ := optI h kh
    try simp only [hs] at h
    simp only [vz, mq, mqm, tyf, mqt, jl, (bp j4), eW, bI, mF, oZ, fA, eQ, eX, bM, (au lE), nm, seval]
    refine dktree (args0 := [.agg (cGld aA), .lit (.int .i64 cb)]) (by first | (simp only [nrm, aE, mqr] <;> rfl) | rfl) (by simp only [tre, aG, mqr, Bool.and_self]) (SL _ _ _ Wg) ?_
    refine b5 (fun tm => tm 1 = .lit (.int .i64 cv) ∧ tm 2 = .ptr 0 0 ∧ tm 7 = .ptr (fV + 4) 0 ∧ tm 9 = .sl (aa cGlm aA.marks) (List.length aA.marks) false ∧ tm 10 = .lit (.int .i64 (List.length aA.marks : Int)) ∧ tm 11 = .lit (.int .i64 cb) ∧ tm 20 = .ref ki 0 (List.length b4) 1 (List.length b4) ∧ tm 27 = .lit (.int .i64 qb) ∧ tm 30 = .lit (.int .i64 se) ∧ True) (by refine ⟨eW, bI, fA, eQ, eX, bM, ?_, ?_, ?_, trivial⟩ <;> first | (simp only [ua, dk, jl, eW, bI, mF, oZ, fA, eQ, eX, bM, nm, seval] <;> rfl) | rfl) ?_
    rintro tm ⟨bN, b9, cq, ca, fB, fC, gM, fD, fv, _⟩
    cases qX : (av 8 (List.length (b4 ++ [qb, se])))
    ·simp only [qX, hs] at h
     exact absurd h kh
    simp only [qX, hs] at h
    simp only [vz, mq, mqm, tyf, mqt, jl, (bp j4), (au lE), bN, b9, cq, ca, fB, fC, gM, fD, fv, qX, nm, seval]
    refine k_app (w := 1) (enc := eI) (xs := b4) (ys := ([qb, se])) (el := j6) (gg := (some 3)) (fun _ => rfl) jG ji Tryz.underlying22 (by first | rfl | assumption | (simp only [bw, bx, fw, jl, nm, seval] <;> rfl) | (simp only [bw, bx, dj, d6, dp, dq, tyf, mqt, jl, (bp j4), (au lE), bN, b9, cq, ca, fB, fC, gM, fD, fv, qX, nm, seval]; done)) (by first | rfl | assumption | (simp only [bw, bx, fw, jl, nm, seval] <;> rfl) | (simp only [bw, bx, dj, d6, dp, dq, tyf, mqt, jl, (bp j4), (au lE), bN, b9, cq, ca, fB, fC, gM, fD, fv, qX, nm, seval]; done)) (Nat.zero_lt_succ _) qX ?_
    simp only [vz, mq, mqm, tyf, mqt, jl, (bp j4), (au lE), bN, b9, cq, ca, fB, fC, gM, fD, fv, qX, nm, seval]
    refine vm ⟨?_, ?_⟩
    ·simp only [vn, vo, nH, vp, and_true, true_and]
     repeat' (first | exact trivial | refine And.intro ?_ ?_ | rw [nH] | rw [vq] | exact Or.inl (by decide +kernel) | exact Or.inl (by dsimp only; decide +kernel) | (refine Or.inr ⟨?_, ?_⟩ <;> simp; done) | (refine Or.inr ⟨?_, ?_⟩ <;> simp <;> omega) | (refine Or.inr ⟨?_, ?_⟩ <;> simp [VEff.wr] <;> omega))
    cases gN : (e6.hyphen)
    ·simp only [gN, hs] at h
     simp only [vz, mq, mqm, tyf, mqt, jl, (bp j4), (au lE), bN, b9, cq, ca, fB, fC, gM, fD, fv, qX, gN, nm, seval]
     exact ⟨List.length p6, qZc _, by rw [kR]; refine ⟨p6, cb + 1, (b4 ++ [qb, se]), .ref (fV + 23) 0 (List.length (b4 ++ [qb, se])) 1 (List.length (b4 ++ [qb, se])), rfl, Int.le_trans eK (Int.le_add_one (qZe _)), bK eK gF, rfl, (show 7 ≤ fV + 29 by omega), ?_, bN, b9, ca, fB, ?_, ?_, Or.inl ⟨fV + 23, (sameEl j6 3), rfl, (by first | omega | (simp only [nm, seval]; done) | (simp only [nm, seval]; omega)), (by first | omega | (intro hh; simp only [jl, reduceCtorEq] at hh)), ?_⟩, (by first | exact h | (simp only [jl, gN]; exact h))⟩ <;> first | (simp only [ua, dk, jl, bN, b9, cq, ca, fB, fC, gM, fD, fv, gN, nm, seval] <;> rfl) | rfl | (simp only [ua, dk, tyf, mqt, jl, bN, b9, cq, ca, fB, fC, gM, fD, fv, gN, nm, seval] <;> rfl)⟩
    simp only [gN, hs] at h
    cases wJ : (av 8 (List.length ((b4 ++ [qb, se]) ++ [aA.ls.Hyphen])))
    ·simp only [wJ, hs] at h
     exact absurd h kh
    simp only [wJ, hs] at h
    simp only [vz, mq, mqm, tyf, mqt, jl, (bp j4), (au lE), bN, b9, cq, ca, fB, fC, gM, fD, fv, qX, gN, wJ, nm, seval]
    refine k_app (w := 1) (enc := eI) (xs := (b4 ++ [qb, se])) (ys := ([aA.ls.Hyphen])) (el := (sameEl j6 3)) (gg := (some 3)) (fun _ => rfl) jG ji Tryz.underlying22 (by first | rfl | assumption | (simp only [bw, bx, fw, jl, nm, seval] <;> rfl) | (simp only [bw, bx, dj, d6, dp, dq, tyf, mqt, jl, (bp j4), (au lE), bN, b9, cq, ca, fB, fC, gM, fD, fv, qX, gN, wJ, nm, seval]; done)) (by first | rfl | assumption | (simp only [bw, bx, fw, jl, nm, seval] <;> rfl) | (simp only [bw, bx, dj, d6, dp, dq, tyf, mqt, jl, (bp j4), (au lE), bN, b9, cq, ca, fB, fC, gM, fD, fv, qX, gN, wJ, nm, seval]; done)) (Nat.zero_lt_succ _) wJ ?_
    simp only [vz, mq, mqm, tyf, mqt, jl, (bp j4), (au lE), bN, b9, cq, ca, fB, fC, gM, fD, fv, qX, gN, wJ, nm, seval]
    exact ⟨List.length p6, qZc _, by rw [kR]; refine ⟨p6, cb + 1, ((b4 ++ [qb, se]) ++ [aA.ls.Hyphen]), .ref (fV + 32) 0 (List.length ((b4 ++ [qb, se]) ++ [aA.ls.Hyphen])) 1 (List.length ((b4 ++ [qb, se]) ++ [aA.ls.Hyphen])), rfl, Int.le_trans eK (Int.le_add_one (qZe _)), bK eK gF, rfl, (show 7 ≤ fV + 36 by omega), ?_, bN, b9, ca, fB, ?_, ?_, Or.inl ⟨fV + 32, (sameEl (sameEl j6 3) 3), rfl, (by first | omega | (simp only [nm, seval]; done) | (simp only [nm, seval]; omega)), (by first | omega | (intro hh; simp only [jl, reduceCtorEq] at hh)), ?_⟩, (by first | exact h | (simp only [jl, gN]; exact h))⟩ <;> first | (simp only [ua, dk, jl, bN, b9, cq, ca, fB, fC, gM, fD, fv, gN, nm, seval] <;> rfl) | rfl | (simp only [ua, dk, tyf, mqt, jl, bN, b9, cq, ca, fB, fC, gM, fD, fv, gN, nm, seval] <;> rfl)⟩
   simp only [mD, hs] at h
   have Fz := And.intro g7 (And.intro fu (And.intro H8 (And.intro la (And.intro lD (And.intro jH (And.intro fO (And.intro yW mD)))))))
   simp only [vz, mq, mqm, tyf, mqt, Fz, e9, aW, bc, bu, bj, bn, (bp j4), nm, seval]
   exact ⟨List.length p6, qZc _, by rw [kR]; refine ⟨p6, cb + 1, b4, .ref ki 0 (List.length b4) 1 (List.length b4), rfl, Int.le_trans eK (Int.le_add_one (qZe _)), bK eK gF, rfl, (show 7 ≤ fV + 13 by omega), ?_, e9, aW, bc, bu, ?_, ?_, Or.inl ⟨ki, j6, rfl, (by first | omega | (simp only [nm, seval]; done) | (simp only [nm, seval]; omega)), (by first | omega | (intro hh; simp only [Fz, reduceCtorEq] at hh)), ?_⟩, (by first | exact h | (simp only [Fz]; exact h))⟩ <;> first | (simp only [ua, dk, Fz, e9, aW, bc, bu, bj, bn, nm, seval] <;> rfl) | rfl⟩
 ·cases p6 with
  | nil =>
   have tQ : (decide (cb < (List.length aA.marks : Int))) = false := fy eK gF
   simp only [sb, hs, reduceCtorEq] at h
   replace h := wI _ h
   try dsimp only at h
   try simp only [hs] at h
   obtain ⟨SP, lb, h⟩ := optI h kN
   try simp only [hs] at h
   simp only [vz, mq, mqm, tyf, mqt, g7, fu, e9, aW, bc, bu, bj, bn, H8, tQ, nm, seval]
   refine ktree (args0 := [.sl (aa eI ([] : List Int)) (List.length ([] : List Int)) false]) (by first | (simp only [nrm, aE, mqr] <;> rfl) | rfl) (by simp only [tre, aG, mqr, Bool.and_self]) (SN _ _ lb) ?_
   refine b5 (fun tm => tm 43 = .lit (.int .i64 SP) ∧ True) (by refine ⟨?_, trivial⟩ <;> first | (simp only [ua, dk, fu, e9, aW, bc, bu, bj, bn, H8, tQ, nm, seval] <;> rfl) | rfl) ?_
   rintro tm ⟨cG, _⟩
   try simp only [vz, mq, mqm, tyf, mqt, g7, fu, H8, tQ, cG, nm, seval]
   refine eh (x := (.lit (.int .i64 SP))) (by first | (simp only [Tryz.results152, resV, resL, aR, ei, ej, uw, cr, tyf, mqt, g7, fu, H8, tQ, nm, seval] <;> rfl) | rfl) ?_
   obtain rfl := kF _ h
   refine eD ?_ ?_
   ·simp only [tre, aG, mqr, Bool.and_self]
   ·first | (simp only [outV, uw, ep, nF, mZ, cr, tyf, mqt, nrm, aE, g7, fu, H8, tQ, cG, nm, seval] <;> rfl) | rfl
  | cons e6 p6 =>
   have kl : (decide (cb < (List.length aA.marks : Int))) = true := fz eK gF
   have om := eg eK gF
   have nI := f2 eK gF g7
   simp only [sb, hs, reduceCtorEq] at h
   cases lF : (e6.row != cv)
   ·simp only [lF, hs] at h
    simp only [vz, mq, mqm, tyf, mqt, g7, fu, e9, aW, bc, bu, bj, bn, H8, kl, (bp om), nI, lF, nm, seval]
    refine vl (fun tm => tm 1 = .lit (.int .i64 cv) ∧ tm 2 = .ptr 0 0 ∧ tm 5 = .lit (.slice none 0 0) ∧ tm 6 = .lit (.int .i64 cb) ∧ tm 7 = .ptr (fV + 4) 0 ∧ tm 9 = .sl (aa cGlm aA.marks) (List.length aA.marks) false ∧ tm 10 = .lit (.int .i64 (List.length aA.marks : Int)) ∧ tm 11 = .lit (.int .i64 cb) ∧ True) (by refine ⟨e9, aW, bj, ?_, ?_, bc, bu, bn, trivial⟩ <;> first | (simp only [ua, dk, fu, e9, aW, bc, bu, bj, bn, H8, kl, nI, lF, nm, seval] <;> rfl) | rfl) ?_
    rintro tm ⟨gv, gG, ij, kS, lG, je, mG, mH, _⟩
    obtain ⟨qc, pa, h⟩ := optI h kh
    try simp only [hs] at h
    obtain ⟨sf, Wh, h⟩ := optI h kh
    try simp only [hs] at h
    simp only [vz, mq, mqm, tyf, mqt, g7, fu, H8, kl, (bp om), nI, lF, gv, gG, ij, kS, lG, je, mG, mH, (au pa), nm, seval]
    refine dktree (args0 := [.agg (cGld aA), .lit (.int .i64 cb)]) (by first | (simp only [nrm, aE, mqr] <;> rfl) | rfl) (by simp only [tre, aG, mqr, Bool.and_self]) (SL _ _ _ Wh) ?_
    refine b5 (fun tm => tm 1 = .lit (.int .i64 cv) ∧ tm 2 = .ptr 0 0 ∧ tm 7 = .ptr (fV + 4) 0 ∧ tm 9 = .sl (aa cGlm aA.marks) (List.length aA.marks) false ∧ tm 10 = .lit (.int .i64 (List.length aA.marks : Int)) ∧ tm 11 = .lit (.int .i64 cb) ∧ tm 20 = .lit (.slice none 0 0) ∧ tm 27 = .lit (.int .i64 qc) ∧ tm 30 = .lit (.int .i64 sf) ∧ True) (by refine ⟨gv, gG, lG, je, mG, mH, ?_, ?_, ?_, trivial⟩ <;> first | (simp only [ua, dk, fu, H8, kl, nI, lF, gv, gG, ij, kS, lG, je, mG, mH, nm, seval] <;> rfl) | rfl) ?_
    rintro tm ⟨j7, j8, gh, eM, eR, ck, cz, cA, ct, _⟩
    cases nJ : (av 8 (List.length (([] : List Int) ++ [qc, sf])))
    ·simp only [nJ, hs] at h
     exact absurd h kh
    simp only [nJ, hs] at h
    simp only [vz, mq, mqm, tyf, mqt, g7, fu, H8, kl, (bp om), nI, lF, (au pa), j7, j8, gh, eM, eR, ck, cz, cA, ct, nJ, nm, seval]
    refine nc (w := 1) (enc := eI) (ys := ([qc, sf])) (gg := (some 3)) (fun _ => rfl) jG ji Tryz.underlying22 (by first | rfl | assumption | (simp only [bw, bx, fw, fu, H8, nm, seval] <;> rfl) | (simp only [bw, bx, dj, d6, dp, dq, tyf, mqt, g7, fu, H8, kl, (bp om), nI, lF, (au pa), j7, j8, gh, eM, eR, ck, cz, cA, ct, nJ, nm, seval]; done)) (Nat.zero_lt_succ _) nJ ?_
    simp only [vz, mq, mqm, tyf, mqt, g7, fu, H8, kl, (bp om), nI, lF, (au pa), j7, j8, gh, eM, eR, ck, cz, cA, ct, nJ, nm, seval]
    refine vm ⟨?_, ?_⟩
    ·simp only [vn, vo, nH, vp, and_true, true_and]
     repeat' (first | exact trivial | refine And.intro ?_ ?_ | rw [nH] | rw [vq] | exact Or.inl (by decide +kernel) | exact Or.inl (by dsimp only; decide +kernel) | (refine Or.inr ⟨?_, ?_⟩ <;> simp; done) | (refine Or.inr ⟨?_, ?_⟩ <;> simp <;> omega) | (refine Or.inr ⟨?_, ?_⟩ <;> simp [VEff.wr] <;> omega))
    cases F0 : (e6.hyphen)
    ·simp only [F0, hs] at h
     have BY := And.intro g7 (And.intro fu (And.intro H8 (And.intro kl (And.intro nI (And.intro lF (And.intro nJ F0))))))
     simp only [vz, mq, mqm, tyf, mqt, BY, (bp om), (au pa), j7, j8, gh, eM, eR, ck, cz, cA, ct, nm, seval]
     exact ⟨List.length p6, qZc _, by rw [kR]; refine ⟨p6, cb + 1, (([] : List Int) ++ [qc, sf]), .ref (fV + 23) 0 (List.length (([] : List Int) ++ [qc, sf])) 1 (List.length (([] : List Int) ++ [qc, sf])), rfl, Int.le_trans eK (Int.le_add_one (qZe _)), bK eK gF, rfl, (show 7 ≤ fV + 29 by omega), ?_, j7, j8, eM, eR, ?_, ?_, Or.inl ⟨fV + 23, (some 3), rfl, (by first | omega | (simp only [nm, seval]; done) | (simp only [nm, seval]; omega)), (by first | omega | (intro hh; simp only [BY, reduceCtorEq] at hh)), ?_⟩, (by first | exact h | (simp only [BY]; exact h))⟩ <;> first | (simp only [ua, dk, BY, j7, j8, gh, eM, eR, ck, cz, cA, ct, nm, seval] <;> rfl) | rfl | (simp only [ua, dk, tyf, mqt, BY, j7, j8, gh, eM, eR, ck, cz, cA, ct, nm, seval] <;> rfl)⟩
    simp only [F0, hs] at h
    have t5 := And.intro g7 (And.intro fu (And.intro H8 (And.intro kl (And.intro nI (And.intro lF (And.intro nJ F0))))))
    cases wK : (av 8 (List.length ((([] : List Int) ++ [qc, sf]) ++ [aA.ls.Hyphen])))
    ·simp only [wK, hs] at h
     exact absurd h kh
    simp only [wK, hs] at h
    simp only [vz, mq, mqm, tyf, mqt, t5, (bp om), (au pa), j7, j8, gh, eM, eR, ck, cz, cA, ct, wK, nm, seval]
    refine k_app (w := 1) (enc := eI) (xs := (([] : List Int) ++ [qc, sf])) (ys := ([aA.ls.Hyphen])) (el := (some 3)) (gg := (some 3)) (fun _ => rfl) jG ji Tryz.underlying22 (by first | rfl | assumption | (simp only [bw, bx, fw, t5, nm, seval] <;> rfl) | (simp only [bw, bx, dj, d6, dp, dq, tyf, mqt, t5, (bp om), (au pa), j7, j8, gh, eM, eR, ck, cz, cA, ct, wK, nm, seval]; done)) (by first | rfl | assumption | (simp only [bw, bx, fw, t5, nm, seval] <;> rfl) | (simp only [bw, bx, dj, d6, dp, dq, tyf, mqt, t5, (bp om), (au pa), j7, j8, gh, eM, eR, ck, cz, cA, ct, wK, nm, seval]; done)) (Nat.zero_lt_succ _) wK ?_
    simp only [vz, mq, mqm, tyf, mqt, t5, (bp om), (au pa), j7, j8, gh, eM, eR, ck, cz, cA, ct, wK, nm, seval]
    exact ⟨List.length p6, qZc _, by rw [kR]; refine ⟨p6, cb + 1, ((([] : List Int) ++ [qc, sf]) ++ [aA.ls.Hyphen]), .ref (fV + 32) 0 (List.length ((([] : List Int) ++ [qc, sf]) ++ [aA.ls.Hyphen])) 1 (List.length ((([] : List Int) ++ [qc, sf]) ++ [aA.ls.Hyphen])), rfl, Int.le_trans eK (Int.le_add_one (qZe _)), bK eK gF, rfl, (show 7 ≤ fV + 36 by omega), ?_, j7, j8, eM, eR, ?_, ?_, Or.inl ⟨fV + 32, (sameEl (some 3) 3), rfl, (by first | omega | (simp only [nm, seval]; done) | (simp only [nm, seval]; omega)), (by first | omega | (intro hh; simp only [t5, reduceCtorEq] at hh)), ?_⟩, (by first | exact h | (simp only [t5]; exact h))⟩ <;> first | (simp only [ua, dk, t5, j7, j8, gh, eM, eR, ck, cz, cA, ct, nm, seval] <;> rfl) | rfl | (simp only [ua, dk, tyf, mqt, t5, j7, j8, gh, eM, eR, ck, cz, cA, ct, nm, seval] <;> rfl)⟩
   simp only [lF, hs] at h
   simp only [vz, mq, mqm, tyf, mqt, g7, fu, e9, aW, bc, bu, bj, bn, H8, kl, (bp om), nI, lF, nm, seval]
   exact ⟨List.length p6, qZc _, by rw [kR]; refine ⟨p6, cb + 1, ([] : List Int), .lit (.slice none 0 0), rfl, Int.le_trans eK (Int.le_add_one (qZe _)), bK eK gF, rfl, (show 7 ≤ fV + 13 by omega), ?_, e9, aW, bc, bu, ?_, ?_, Or.inr ⟨rfl, rfl⟩, (by first | exact h | (simp only [kl, lF]; exact h))⟩ <;> first | (simp only [ua, dk, fu, e9, aW, bc, bu, bj, bn, H8, kl, nI, lF, nm, seval] <;> rfl) | rfl⟩
def wL (aA : Gld) : List GLe → Int → (List Int) → Option (LOut (List Int) ((List Int)))
 | [], j9, gi => some (.go gi)
 | e0 :: p0, j9, gi => Option.bind (BT aA j9) (fun r3 => Option.bind (getI gi j9) (fun x4 => wL aA p0 (j9 + 1) (List.set gi (Int.toNat j9) r3)))
def BZ (aA : Gld) : Option (List Int) := cond (mkOk 8 (List.length aA.lx.Ends : Int)) (cond (lenOk aA.lx.Ends) (lbind (wL aA aA.lx.Ends 0 (List.replicate (Int.toNat (List.length aA.lx.Ends : Int)) 0)) (fun r6 => some r6) (fun c5 => some c5) (fun _ _ => none)) none) none
theorem Wi (aA : Gld) (R : List Int) (h : BZ aA = some R) : ag Tryz.prog G0 72 [.agg (cGld aA)] (.tree (.sl (aa eI R) (List.length R) false)) := by
 refine ag.runR mixed Tryz.call72 Tryz.func72 rfl (by simp [Tryz.ntmps72]; kernel_rfl) ?_
 obtain ⟨KF, h, kF, kN⟩ := eC h
 simp only [BZ] at h
 try simp only [vz, mq, mqm, tyf, mqt, nm, seval]
 refine kopen ?_
 rw [Ju]
 refine aK.run mixed Tryz.call118 Tryz.func118 rfl (by simp [Tryz.ntmps118]; kernel_rfl) ?_
 cases g7 : (mkOk 8 (List.length aA.lx.Ends : Int))
 ·simp only [g7, hs] at h
  exact absurd h kN
 simp only [g7, hs] at h
 try simp only [vz, mq, mqm, tyf, mqt, g7, nm, seval]
 refine k_mkS (enc := eI) (z := (0 : Int)) ji (by kernel_rfl) rfl (by first | (simp only [qd, Ca, si, yX, g7, nm, seval] <;> rfl) | rfl) (by first | (simp only [qd, Ca, si, yX, g7, nm, seval] <;> rfl) | rfl) g7 ?_
 cases g9 : (lenOk aA.lx.Ends)
 ·simp only [g9, hs] at h
  exact absurd h kN
 simp only [g9, hs] at h
 simp only [vz, mq, mqm, tyf, mqt, g7, g9, nm, seval]
 obtain ⟨K8, h, kR8, Wj, kB8, SQ⟩ := gp h kN
 obtain ⟨f8, Wk, h⟩ := call3 h
 obtain ⟨I8, Jv⟩ : ∃ I : Nat → St → Prop, I = (fun m st => ∃ (p8 : List GLe) (eY : Int) (dW : List Int), m = List.length p8 ∧ 0 ≤ eY ∧ List.drop (Int.toNat eY) aA.lx.Ends = p8 ∧ st.df = [] ∧ 19 ≤ st.nx ∧ st.H 9 = some (.cells (some 93) (cGld aA)) ∧ st.H 12 = some (.cells (some 180) ([VV.fn (Fn.func 152) [] []] ++ [VV.fn (Fn.func 153) [] []])) ∧ st.H 15 = some (.cells ((some 3)) (aa eI dW)) ∧ st.tm 1 = .lit (.int .i64 0) ∧ st.tm 3 = .ptr 9 0 ∧ st.tm 7 = .ptr 12 0 ∧ st.tm 8 = .ref 15 0 (List.length dW) 1 (List.length dW) ∧ st.tm 13 = .lit (.int .i64 (List.length aA.lx.Ends : Int)) ∧ st.tm 14 = .lit (.int .i64 eY) ∧ K8 (f8 p8 eY dW)) := ⟨_, rfl⟩
 refine loopK mixed (by kernel_rfl) I8 (List.length aA.lx.Ends) (by rw [Jv]; refine ⟨aA.lx.Ends, 0, (List.replicate (Int.toNat (List.length aA.lx.Ends : Int)) 0), rfl, qZe _, rfl, rfl, (show 19 ≤ 19 by omega), ?_, ?_, ?_, ?_, ?_, ?_, ?_, ?_, ?_, h⟩ <;> first | (simp only [ua, dk, nm, seval] <;> rfl) | rfl) ?_
 rintro m ⟨tm, H, SS, df⟩ hinv
 rw [Jv] at hinv
 obtain ⟨p8, eY, dW, rfl, yY, Cb, hdf, Wl, tR, lW, lX, bj, bn, bE, de, cH, bL, h⟩ := hinv
 simp only at hdf Wl tR lW lX bj bn bE de cH bL
 have gw := gq (m := 19) (b := SS) (by omega)
 subst hdf Wk
 cases p8 with
 | nil =>
  have cB : (decide (eY < (List.length aA.lx.Ends : Int))) = false := fy yY Cb
  simp only [wL, hs, reduceCtorEq] at h
  replace h := Wj _ h
  try dsimp only at h
  try simp only [hs] at h
  try simp only [vz, mq, mqm, tyf, mqt, g7, g9, gw, bj, bn, bE, de, cH, bL, tR, lW, lX, cB, nm, seval]
  refine eh (x := (.ref 15 0 (List.length dW) 1 (List.length dW))) (by first | (simp only [Tryz.results118, resV, resL, aR, ei, ej, uw, cr, tyf, mqt, g7, g9, gw, tR, lW, lX, cB, nm, seval] <;> rfl) | rfl) ?_
  try simp only [vz, mq, mqm, tyf, mqt, g7, g9, gw, tR, lW, lX, cB, nm, seval]
  refine eh (x := (.ref 15 0 (List.length dW) 1 (List.length dW))) (by first | (simp only [Tryz.results72, resV, resL, aR, ei, ej, uw, cr, tyf, mqt, g7, g9, gw, tR, lW, lX, cB, nm, seval] <;> rfl) | rfl) ?_
  obtain rfl := kF _ h
  refine eD ?_ ?_
  ·simp only [tre, aG, mqr, Bool.and_self]
  ·first | (simp only [outV, uw, ep, nF, mZ, cr, tyf, mqt, nrm, aE, g7, g9, gw, tR, lW, lX, cB, nm, seval] <;> rfl) | rfl
 | cons e8 p8 =>
  have gj : (decide (eY < (List.length aA.lx.Ends : Int))) = true := fz yY Cb
  have nG := eg yY Cb
  have sj := f2 yY Cb g9
  simp only [wL, hs, reduceCtorEq] at h
  simp only [vz, mq, mqm, tyf, mqt, g7, g9, gw, bj, bn, bE, de, cH, bL, tR, lW, lX, gj, (aV nG), sj, nm, seval]
  refine vl (fun tm => tm 1 = .lit (.int .i64 0) ∧ tm 3 = .ptr 9 0 ∧ tm 7 = .ptr 12 0 ∧ tm 8 = .ref 15 0 (List.length dW) 1 (List.length dW) ∧ tm 9 = .lit (.int .i64 eY) ∧ tm 13 = .lit (.int .i64 (List.length aA.lx.Ends : Int)) ∧ tm 14 = .lit (.int .i64 eY) ∧ True) (by refine ⟨bj, bn, bE, de, ?_, cH, bL, trivial⟩ <;> first | (simp only [ua, dk, gw, bj, bn, bE, de, cH, bL, tR, lW, lX, gj, sj, nm, seval] <;> rfl) | rfl) ?_
  rintro tm ⟨cu, cN, dI, dm, dJ, eW, bI, _⟩
  have dv := And.intro g7 (And.intro g9 (And.intro gw (And.intro tR (And.intro lW (And.intro lX (And.intro gj sj))))))
  obtain ⟨oo, wM, h⟩ := optI h SQ
  try simp only [hs] at h
  simp only [vz, mq, mqm, tyf, mqt, dv, (aV nG), cu, cN, dI, dm, dJ, eW, bI, nm, seval]
  refine dktree (args0 := [.agg (cGld aA), .lit (.int .i64 eY)]) (by first | (simp only [nrm, aE, mqr] <;> rfl) | rfl) (by simp only [tre, aG, mqr, Bool.and_self]) (Wf _ _ _ wM) ?_
  refine b5 (fun tm => tm 1 = .lit (.int .i64 0) ∧ tm 3 = .ptr 9 0 ∧ tm 7 = .ptr 12 0 ∧ tm 8 = .ref 15 0 (List.length dW) 1 (List.length dW) ∧ tm 13 = .lit (.int .i64 (List.length aA.lx.Ends : Int)) ∧ tm 14 = .lit (.int .i64 eY) ∧ tm 17 = .ref 15 0 (List.length dW) 1 (List.length dW) ∧ tm 18 = .lit (.int .i64 eY) ∧ tm 24 = .lit (.int .i64 oo) ∧ True) (by refine ⟨cu, cN, dI, dm, eW, bI, ?_, ?_, ?_, trivial⟩ <;> first | (simp only [ua, dk, dv, cu, cN, dI, dm, dJ, eW, bI, nm, seval] <;> rfl) | rfl) ?_
  rintro tm ⟨eQ, eX, bM, bW, bH, bX, bF, bN, b9, _⟩
  obtain ⟨SU, wN, h⟩ := optI h SQ
  try simp only [hs] at h
  have wO := setA (w := 1) (enc := eI) (fun _ => rfl) wN
  have qe := setB (w := 1) (enc := eI) oo (fun _ => rfl) wN
  simp only [vz, mq, mqm, tyf, mqt, nm, seval] at qe
  have t6 := setC (w := 1) (enc := eI) dW (Int.toNat eY) oo (fun _ => rfl)
  simp only [vz, mq, mqm, tyf, mqt, dv, (aV nG), eQ, eX, bM, bW, bH, bX, bF, bN, b9, (vb wN), wO, qe, t6, nm, seval]
  refine vm ⟨?_, ?_⟩
  ·simp only [vn, vo, nH, vp, and_true, true_and]
   repeat' (first | exact trivial | refine And.intro ?_ ?_ | rw [nH] | rw [vq] | exact Or.inl (by decide +kernel) | exact Or.inl (by dsimp only; decide +kernel) | (refine Or.inr ⟨?_, ?_⟩ <;> simp; done) | (refine Or.inr ⟨?_, ?_⟩ <;> simp <;> omega) | (refine Or.inr ⟨?_, ?_⟩ <;> simp [VEff.wr] <;> omega))
  simp only [vz, mq, mqm, tyf, mqt, dv, (aV nG), eQ, eX, bM, bW, bH, bX, bF, bN, b9, (vb wN), wO, qe, t6, nm, seval]
  exact ⟨List.length p8, qZc _, by rw [Jv]; refine ⟨p8, eY + 1, (List.set dW (Int.toNat eY) oo), rfl, Int.le_trans yY (Int.le_add_one (qZe _)), bK yY Cb, rfl, (show 19 ≤ SS + 15 by omega), ?_, ?_, ?_, eQ, eX, bM, ?_, bH, ?_, (by first | exact h | (simp only [dv]; exact h))⟩ <;> first | (simp only [ua, dk, dv, eQ, eX, bM, bW, bH, bX, bF, bN, b9, wO, qe, t6, nm, seval] <;> rfl) | rfl⟩



def wi (k : Int) (x : GSpan) : Int := x.Low + Int.tdiv ((x.High - x.Low) * k) 10
theorem wi_b {k : Int} {x : GSpan} (h : 0 ≤ x.Low ∧ x.Low ≤ x.High ∧ x.High ≤ 20) (h0 : 0 ≤ k) (h1 : k ≤ 10) : x.Low ≤ wi k x ∧ wi k x ≤ x.High ∧ 0 ≤ (x.High - x.Low) * k ∧ (x.High - x.Low) * k ≤ 200 := by
 have hm := mulR (a := x.High - x.Low) (A := 20) (b := k) (B := 10) (by omega) (by omega) h0 h1
 have h2 : (x.High - x.Low) * k ≤ (x.High - x.Low) * 10 := Int.mul_le_mul_of_nonneg_left h1 (by omega)
 have hd := Int.tdiv_eq_ediv_of_nonneg (b := 10) hm.1
 unfold wi
 rw [hd]
 omega
theorem Jw (l : Gld) (x : GSpan) (h : 0 ≤ x.Low ∧ x.Low ≤ x.High ∧ x.High ≤ 20) (h0 : 0 ≤ l.stretch) (h1 : l.stretch ≤ 10) : vh l x = some (wi l.stretch x) := by
 have hb := wi_b h h0 h1
 unfold vh wi
 unfold wi at hb
 rw [jd (n := x.High - x.Low) (by omega) (by omega), jd (n := (x.High - x.Low) * l.stretch) (by omega) (by omega), jd (n := Int.tdiv _ 10) (by omega) (by omega), jd (by omega) (by omega)]
def spP (s : GLs) (a b : Int) : GSpan := (lastP a b s.Pairs none).getD s.Other
theorem SV {a b : Int} : ∀ (ps : List GLp) (o : Option GSpan) (v : GSpan), lastP a b ps o = some v → o = some v ∨ ∃ p ∈ ps, p.Left = a ∧ p.Right = b ∧ p.Space = v
 | [], o, v, h => .inl h
 | p :: ps, o, v, h => by
  rcases SV ps _ v h with h | ⟨q, h1, h2⟩
  ·split at h
   ·rename_i hc
    simp only [Option.some.injEq] at h
    exact .inr ⟨p, qZb .., hc.1.symm, hc.2.symm, h⟩
   ·exact .inl h
  ·exact .inr ⟨q, qZa _ h1, h2⟩
theorem spP_b {s : GLs} (h : Sh s) (a b : Int) : 0 ≤ (spP s a b).Low ∧ (spP s a b).Low ≤ (spP s a b).High ∧ (spP s a b).High ≤ 20 := by
 unfold spP
 cases hl : lastP a b s.Pairs none with
 | none => have := h.other; simp only [Option.getD_none]; omega
 | some v =>
  rcases SV _ _ _ hl with hh | ⟨p, h1, _, _, rfl⟩
  ·cases hh
  ·have := h.pair p h1
   simp only [Option.getD_some]; omega
def spF (s : GLs) (k : Int) (m : Glm) : Option Glm → Int
 | none => cond m.hyphen (wi k s.Other) 0
 | some n => cond m.hyphen (wi k s.Other) (if n.row = m.row then (if n.word = m.word then wi k (spP s m.sign n.sign) else wi k s.Gap) else 0)
theorem spF_b {s : GLs} (h : Sh s) {k : Int} (h0 : 0 ≤ k) (h1 : k ≤ 10) (m : Glm) (n : Option Glm) : 0 ≤ spF s k m n ∧ spF s k m n ≤ 20 := by
 have ho := h.other
 have hg := h.gap
 have a := wi_b (x := s.Other) (by omega) h0 h1
 have b := wi_b (x := s.Gap) (by omega) h0 h1
 unfold spF
 cases n with
 | none => cases m.hyphen <;> simp only [cond_true, cond_false] <;> omega
 | some n =>
  have hc := spP_b h m.sign n.sign
  have c := wi_b hc h0 h1
  simp only
  cases m.hyphen with
  | true => simp only [cond_true]; omega
  | false =>
   simp only [cond_false]
   split
   ·split <;> omega
   ·omega
def wd (s : GLs) (n : Int) : Int := (getI s.Widths n).getD 0
theorem wP {s : GLs} (h : Sh s) {n : Int} (h0 : 0 ≤ n) (h1 : n < s.Widths.length) : getI s.Widths n = some (wd s n) ∧ 1 ≤ wd s n ∧ wd s n ≤ 20 := by
 obtain ⟨x, hx, hm⟩ := SE h0 h1
 have := h.wid x hm
 unfold wd
 rw [hx]
 exact ⟨rfl, this.1, this.2⟩
def addL (s : GLs) (k r : Int) : List Glm → List Int
 | [] => []
 | m :: ms => (if m.row = r then [wd s m.sign, spF s k m ms.head?] ++ cond m.hyphen [s.Hyphen] [] else []) ++ addL s k r ms
def Marks (s : GLs) (ms : List Glm) : Prop := ∀ m ∈ ms, 0 ≤ m.sign ∧ m.sign < s.Widths.length
theorem Cc {s : GLs} (h : Sh s) {k r : Int} (h0 : 0 ≤ k) (h1 : k ≤ 10) : ∀ (ms : List Glm), Marks s ms → (∀ x ∈ addL s k r ms, 0 ≤ x ∧ x ≤ 20) ∧ (addL s k r ms).length ≤ 3 * ms.length
 | [], _ => by simp [addL]
 | m :: ms, hm => by
  obtain ⟨i1, i2⟩ := Cc h h0 h1 (r := r) ms fun x hx => hm x (qZa _ hx)
  have hs := hm m (qZb ..)
  have hw := wP h hs.1 hs.2
  have hp := spF_b h h0 h1 m ms.head?
  have hh := h.hyp
  unfold addL
  split
  ·cases m.hyphen with
   | true =>
    simp only [cond_true, List.cons_append, List.nil_append, List.mem_cons, List.length_cons]
    refine ⟨?_, by omega⟩
    rintro x (rfl | rfl | rfl | hx)
    ·omega
    ·omega
    ·omega
    ·exact i1 x hx
   | false =>
    simp only [cond_false, List.append_nil, List.cons_append, List.nil_append, List.mem_cons, List.length_cons]
    refine ⟨?_, by omega⟩
    rintro x (rfl | rfl | hx)
    ·omega
    ·omega
    ·exact i1 x hx
  ·simp only [List.nil_append, List.length_cons]
   exact ⟨i1, by omega⟩
def rowF (s : GLs) (k r : Int) (ms : List Glm) : Int := (addL s k r ms).sum
theorem Cd : ∀ (xs : List Int) (i a : Int), (∀ x ∈ xs, 0 ≤ x ∧ x ≤ 20) → 0 ≤ a → a + 20 * xs.length ≤ 1000000 → wH xs i a = some (.go (a + xs.sum))
 | [], _, a, _, _, _ => by simp [wH]
 | x :: xs, i, a, h, h0, h1 => by
  have := h x (qZb ..)
  simp only [List.length_cons] at h1
  simp only [wH]
  rw [jd (by omega) (by omega), Cd xs (i + 1) _ (fun y hy => h y (qZa _ hy)) (by omega) (by omega), List.sum_cons, Int.add_assoc]
theorem Jx (xs : List Int) (h : ∀ x ∈ xs, 0 ≤ x ∧ x ≤ 20) (hl : xs.length ≤ 1000) : BQ xs = some xs.sum := by
 simp only [BQ]
 rw [oV (by omega), cond_true, Cd xs 0 0 h (qZe _) (by omega), mY, Int.zero_add]
structure LOk (l : Gld) : Prop where
 sh : Sh l.ls
 mp : MapOk l.spaces (fun a b => lastP a b l.ls.Pairs none)
 sg : Marks l.ls l.marks
 nm : l.marks.length ≤ 24
 ne : l.lx.Ends.length ≤ 24
 rw : ∀ j : Int, 0 ≤ j → j < l.lx.Ends.length → ∃ m ∈ l.marks, m.row = j
 k0 : 0 ≤ l.stretch
 k1 : l.stretch ≤ 10
theorem Jy {l : Gld} (h : LOk l) {i : Int} {m : Glm} {ms : List Glm} (h0 : 0 ≤ i) (hd : l.marks.drop i.toNat = m :: ms) : BN l i = some (spF l.ls l.stretch m ms.head?) := by
 have hg : getI l.marks i = some m := eg h0 hd
 have hlt := w8 hg
 have hn := h.nm
 have ho := h.sh.other
 have hgp := h.sh.gap
 have hlen : ms.length + 1 + i.toNat = l.marks.length := by
  have := congrArg List.length hd
  simp only [List.length_drop, List.length_cons] at this
  omega
 simp only [BN, hg, Option.bind_some, Jw l l.ls.Other (by omega) h.k0 h.k1, Jw l l.ls.Gap (by omega) h.k0 h.k1]
 unfold spF
 rw [jd (by omega) (by omega)]
 cases hh : m.hyphen with
 | true => cases ms <;> rfl
 | false =>
  simp only [cond_false]
  cases ms with
  | nil =>
   have : (i + 1 == (l.marks.length : Int)) = true := by simp only [List.length_nil] at hlen; simp; omega
   rw [this]; rfl
  | cons n ms =>
   have : (i + 1 == (l.marks.length : Int)) = false := by simp only [List.length_cons] at hlen; simp; omega
   have Wm : getI l.marks (i + 1) = some n := eg (by omega) (bK h0 hd)
   rw [this, cond_false, Wm, Option.bind_some]
   simp only [List.head?_cons]
   by_cases hr : n.row = m.row
   ·have : (n.row != m.row) = false := by simp [hr]
    rw [this, cond_false, if_pos hr]
    by_cases hw : n.word = m.word
    ·have : (n.word != m.word) = false := by simp [hw]
     rw [this, cond_false, if_pos hw]
     obtain ⟨m1, m2⟩ := h.mp m.sign n.sign
     replace m1 : mapHas eV l.spaces (Glp.mk m.sign n.sign) = (lastP m.sign n.sign l.ls.Pairs none).isSome := m1
     rw [m1]
     have hb := spP_b h.sh m.sign n.sign
     unfold spP at hb ⊢
     cases hl : lastP m.sign n.sign l.ls.Pairs none with
     | none => rfl
     | some v =>
      rw [hl] at hb
      simp only [Option.getD_some] at hb ⊢
      rw [Option.isSome_some, cond_true, m2 v hl, Jw l v hb h.k0 h.k1, Option.bind_some]
    ·have : (n.word != m.word) = true := by simp [hw]
     rw [this, cond_true, if_neg hw]
   ·have : (n.row != m.row) = true := by simp [hr]
    rw [this, cond_true, if_neg hr]
theorem roomOk8 {n : Nat} (h : n ≤ 1000) : av 8 n = true := by simp [av]; omega
theorem tS {l : Gld} (h : LOk l) (r : Int) : ∀ (ms : List Glm) (i : Int) (acc : List Int), 0 ≤ i → l.marks.drop i.toNat = ms → acc.length + 3 * ms.length ≤ 500 → sb l r ms i acc = some (.go (acc ++ addL l.ls l.stretch r ms))
 | [], i, acc, _, _, _ => by simp [sb, addL]
 | m :: ms, i, acc, h0, hd, hn => by
  have hs := h.sg m (by have := BB (eg h0 hd); exact this)
  have hw := wP h.sh hs.1 hs.2
  simp only [List.length_cons] at hn
  simp only [sb, addL]
  by_cases hr : m.row = r
  ·have : (m.row != r) = false := by simp [hr]
   rw [this, cond_false, hw.1, Option.bind_some, Jy h h0 hd, Option.bind_some, roomOk8 (by simp; omega), cond_true, if_pos hr]
   cases m.hyphen with
   | true =>
    simp only [cond_true]
    rw [roomOk8 (by simp; omega), cond_true, tS h r ms (i + 1) _ (by omega) (bK h0 hd) (by simp; omega)]
    simp
   | false =>
    simp only [cond_false]
    rw [tS h r ms (i + 1) _ (by omega) (bK h0 hd) (by simp; omega)]
    simp
  ·have : (m.row != r) = true := by simp [hr]
   rw [this, cond_true, if_neg hr, tS h r ms (i + 1) acc (by omega) (bK h0 hd) (by omega)]
   simp
theorem Jz {l : Gld} (h : LOk l) (r : Int) : BT l r = some (rowF l.ls l.stretch r l.marks) := by
 have hn := h.nm
 obtain ⟨a1, a2⟩ := Cc h.sh h.k0 h.k1 (r := r) l.marks h.sg
 simp only [BT]
 rw [oV (by omega), cond_true, tS h r l.marks 0 [] (by omega) rfl (by simp; omega), mY, List.nil_append, Jx _ a1 (by omega)]
 rfl


theorem FrozenL.get {H H' : Nat → Option VObj} : ∀ {xs ys : List VV} (i : Nat), FrozenL H H' xs ys → Frozen H H' ((xs[i]?).getD (.lit undef)) ((ys[i]?).getD (.lit undef))
 | [], [], _, _ => .inl rfl
 | x :: xs, y :: ys, 0, h => h.1
 | x :: xs, y :: ys, i + 1, h => by simpa using FrozenL.get i h.2
 | [], _ :: _, _, h => h.elim
 | _ :: _, [], _, h => h.elim
theorem FrozenL.set {H H' : Nat → Option VObj} {x y : VV} (hx : Frozen H H' x y) : ∀ {xs ys : List VV} (i : Nat), FrozenL H H' xs ys → FrozenL H H' (xs.set i x) (ys.set i y)
 | [], [], _, _ => trivial
 | _ :: _, _ :: _, 0, h => ⟨hx, h.2⟩
 | _ :: _, _ :: _, i + 1, h => ⟨h.1, FrozenL.set hx i h.2⟩
 | [], _ :: _, _, h => h.elim
 | _ :: _, [], _, h => h.elim
theorem Frozen.pair {H H' : Nat → Option VObj} {x y x' y' : VV} (m : Nat) (hx : ∀ n, m ≤ n → sealV (gone H H') n x = some x') (hy : ∀ n, m ≤ n → sealV (gone H H') n y = some y') (ht : (VV.agg [x, y]).tree = false) : Frozen H H' (.agg [x, y]) (.agg [x', y']) := by
 refine .inr (.inr ⟨m + 4, ?_⟩)
 show sealV (gone H H') ((m + 3) + 1) _ = _
 unfold sealV
 rw [ht]
 simp only [Bool.false_eq_true, if_false]
 have e3 : sealL (gone H H') (m + 1) [] = some [] := by simp [sealL]
 have e2 : sealL (gone H H') (m + 2) [y] = some [y'] := by
  show sealL (gone H H') ((m + 1) + 1) _ = _
  unfold sealL
  rw [hy (m + 1) (by omega), e3]
 have e1 : sealL (gone H H') (m + 3) [x, y] = some [x', y'] := by
  show sealL (gone H H') ((m + 2) + 1) _ = _
  unfold sealL
  rw [hx (m + 2) (by omega), e2]
 rw [e1]
 rfl



def Ce (fE : Int) : Option (Bool) := Option.bind (oW 0 fE 10) (fun r1 => some r1)
theorem Wn (fE : Int) (R : Bool) (h : Ce fE = some R) : ag Tryz.prog G0 70 [.lit (.int .i64 fE)] (.tree (.lit (.bool R))) := by
 refine ag.runR mixed Tryz.call70 Tryz.func70 rfl (by simp [Tryz.ntmps70]; kernel_rfl) ?_
 obtain ⟨KF, h, kF, kN⟩ := eC h
 simp only [Ce] at h
 obtain ⟨r2, o3, h⟩ := optI h kN
 try simp only [hs] at h
 simp only [vz, tyf, nm, seval]
 refine ktA (tz _ _ _ _ o3) ?_
 refine b5 (fun tm => tm 4 = .lit (.bool r2) ∧ True) (by refine ⟨?_, trivial⟩ <;> first | (simp only [ua, nm, seval] <;> rfl) | rfl) ?_
 rintro tm ⟨e4, _⟩
 try simp only [vz, tyf, e4, nm, seval]
 obtain rfl := kF _ h
 exact bz Tryz.results70 rfl

end Go.V
end
