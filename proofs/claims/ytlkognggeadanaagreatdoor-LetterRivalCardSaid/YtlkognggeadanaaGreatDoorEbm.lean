/- Part of a proof. -/
import Derived.Test.YtlkognggeadanaaGreatDoorEbl
set_option linter.all false
set_option maxRecDepth 4000
set_option maxHeartbeats 40000000
section
namespace Go.V
open Go Go.Proofs IntKind
section
variable {K V : Type} {q : K → K → Bool} {z : V}
def hasR (q : K → K → Bool) (k : K) : List (K × V) → Bool
 | [] => false
 | e :: l => q k e.1 || hasR q k l
theorem O8 (k : K) : ∀ l : List (K × V), mapHas q l k = hasR q k l
 | [] => rfl
 | e :: l => by
  have ih := O8 k l
  unfold mapHas at ih ⊢
  rw [List.map_cons]
  unfold kIdx hasR
  cases hq : q k e.1 with
  | true => rfl
  | false =>
   simp only [cond_false, Bool.false_or]
   rw [Dv, Option.isSome_map, ih]
theorem BL (hq : ∀ a b, q a b = true ↔ a = b) (k k' : K) (v : V) : ∀ l : List (K × V), hasR q k' (setR q k v l) = (q k' k || hasR q k' l)
 | [] => by simp [setR, hasR]
 | e :: l => by
  have ih := BL hq k k' v l
  unfold setR
  cases he : q k e.1 with
  | true =>
   have e1 := (hq _ _).1 he
   simp only [if_true, hasR, ← e1]
   cases q k' k <;> simp
  | false =>
   simp only [Bool.false_eq_true, if_false, hasR, ih]
   cases q k' e.1 <;> cases q k' k <;> simp
end
theorem Dz (a b : Glp) : dO a b = true ↔ a = b := ⟨t9 a b, fun h => by rw [h]; exact vm b⟩
def lastP (l r : Int) : List GLp → Option GSpan → Option GSpan
 | [], a => a
 | p :: ps, a => lastP l r ps (if l = p.Left ∧ r = p.Right then some p.Space else a)
def MapOk (m : List (Glp × GSpan)) (A : Int → Int → Option GSpan) : Prop := ∀ l r, mapHas dO m (Glp.mk l r) = (A l r).isSome ∧ ∀ v, A l r = some v → mapGet dO (GSpan.mk 0 0) m (Glp.mk l r) = v
theorem zW : ∀ (ps : List GLp) (i : Int) (m : List (Glp × GSpan)) (A : Int → Int → Option GSpan), MapOk m A → ∃ m', xw ps i m = some (.go m') ∧ MapOk m' (fun l r => lastP l r ps (A l r))
 | [], i, m, A, h => ⟨m, rfl, h⟩
 | p :: ps, i, m, A, h => by
  simp only [xw]
  obtain ⟨m', h1, h2⟩ := zW ps (i + 1) (mapSet dO m (Glp.mk p.Left p.Right) p.Space) (fun l r => if l = p.Left ∧ r = p.Right then some p.Space else A l r) (fun l r => by
   rw [O8, Dw, BL Dz, ← O8, (h l r).1, ← Dw, Oj Dz]
   by_cases hk : l = p.Left ∧ r = p.Right
   ·have : dO (Glp.mk l r) (Glp.mk p.Left p.Right) = true := (Dz _ _).2 (by rw [hk.1, hk.2])
    rw [this]
    simp only [if_pos hk]
    simp
   ·have : dO (Glp.mk l r) (Glp.mk p.Left p.Right) = false := by
     cases hh : dO (Glp.mk l r) (Glp.mk p.Left p.Right) with
     | false => rfl
     | true =>
      have := (Dz _ _).1 hh
      simp only [Glp.mk.injEq] at this
      exact absurd this hk
    rw [this]
    simp only [if_neg hk]
    simpa using (h l r).2)
  exact ⟨m', h1, h2⟩
abbrev FL := GLe × Int × Bool
def letW (i : Int) (al : Int) : List Int → Int → List FL
 | [], _ => []
 | c :: cs, k => (GLe.mk i (k + 1), c, decide (k + 1 < al)) :: letW i al cs (k + 1)
def ltrsL (out : List Int) : List GLw → Int → List FL
 | [], _ => []
 | w :: ws, i => cond (out.contains i) (ltrsL out ws (i + 1)) (letW i (w.Signs.length : Int) w.Signs 0 ++ ltrsL out ws (i + 1))
def AL : List GLe → List FL → Prop
 | [], [] => True
 | [], _ :: _ => False
 | _ :: _, [] => False
 | e :: es, f :: fl => if e = f.1 then AL es fl else AL (e :: es) fl
def mkS : List GLe → List FL → Int → List Glm × List GLe × Int
 | es, [], r => ([], es, r)
 | [], _ :: _, r => ([], [], r)
 | e :: es, f :: fl, r => if e = f.1 then (Glm.mk f.1.Word f.2.1 r f.2.2 :: (mkS es fl (r + 1)).1, (mkS es fl (r + 1)).2) else (Glm.mk f.1.Word f.2.1 r false :: (mkS (e :: es) fl r).1, (mkS (e :: es) fl r).2)
theorem roomOk32 {n : Nat} (h : n ≤ 1000) : aB 32 n = true := by simp [aB]; omega
theorem vy (x : GLx) (hl : x.Ends.length < 1000000) (i : Int) (w : GLw) : ∀ (cs : List Int) (k r : Int) (acc : List Glm) (es : List GLe) (fl : List FL), 0 ≤ k → k + cs.length ≤ 1000 → 0 ≤ r → r + es.length = x.Ends.length → x.Ends.drop r.toNat = es → AL es (letW i (w.Signs.length : Int) cs k ++ fl) → acc.length + cs.length ≤ 1000 →
  nd x i w cs k r acc = some (.go ((mkS es (letW i (w.Signs.length : Int) cs k) r).2.2, acc ++ (mkS es (letW i (w.Signs.length : Int) cs k) r).1)) ∧ AL (mkS es (letW i (w.Signs.length : Int) cs k) r).2.1 fl ∧ 0 ≤ (mkS es (letW i (w.Signs.length : Int) cs k) r).2.2 ∧ (mkS es (letW i (w.Signs.length : Int) cs k) r).2.2 + (mkS es (letW i (w.Signs.length : Int) cs k) r).2.1.length = x.Ends.length ∧ x.Ends.drop (mkS es (letW i (w.Signs.length : Int) cs k) r).2.2.toNat = (mkS es (letW i (w.Signs.length : Int) cs k) r).2.1 ∧ (mkS es (letW i (w.Signs.length : Int) cs k) r).1.length = cs.length
 | [], k, r, acc, es, fl, _, _, h0, h1, h2, h3, _ => by
  cases es <;> exact ⟨by simp [nd, letW, mkS], h3, h0, h1, h2, rfl⟩
 | c :: cs, k, r, acc, es, fl, qw, hk, h0, h1, h2, h3, h4 => by
  simp only [List.length_cons] at h4 hk
  cases es with
  | nil => exact h3.elim
  | cons e es =>
   have hg : getI x.Ends r = some e := eg h0 h2
   simp only [List.length_cons] at h1
   simp only [nd, hg, Option.bind_some]
   rw [wq e (GLe.mk i (k + 1)), kf (by omega) (by omega)]
   simp only [letW, List.cons_append] at h3 ⊢
   unfold AL at h3
   unfold mkS
   by_cases he : e = GLe.mk i (k + 1)
   ·simp only [he, if_true] at h3 ⊢
    simp only [decide_true, cond_true]
    rw [roomOk32 (by simp; omega), cond_true]
    obtain ⟨q1, q2, q3, q4, q5, q6⟩ := vy x hl i w cs (k + 1) (r + 1) (acc ++ [Glm.mk i c r (decide (k + 1 < (w.Signs.length : Int)))]) es fl (by omega) (by omega) (by omega) (by omega) (bS h0 h2) h3 (by simp; omega)
    refine ⟨?_, q2, q3, q4, q5, by simp [q6]⟩
    rw [q1]
    simp
   ·simp only [if_neg he] at h3 ⊢
    rw [decide_eq_false he, cond_false, roomOk32 (by simp; omega), cond_true]
    obtain ⟨q1, q2, q3, q4, q5, q6⟩ := vy x hl i w cs (k + 1) r (acc ++ [Glm.mk i c r false]) (e :: es) fl (by omega) (by omega) h0 (by simp only [List.length_cons]; omega) h2 h3 (by simp; omega)
    refine ⟨?_, q2, q3, q4, q5, by simp [q6]⟩
    rw [q1]
    simp
theorem zT {e : GLe} {f : FL} {es : List GLe} {fl : List FL} {r : Int} (h : e = f.1) : mkS (e :: es) (f :: fl) r = (Glm.mk f.1.Word f.2.1 r f.2.2 :: (mkS es fl (r + 1)).1, (mkS es fl (r + 1)).2) := by
 rw [mkS, if_pos h]
theorem zU {e : GLe} {f : FL} {es : List GLe} {fl : List FL} {r : Int} (h : ¬ e = f.1) : mkS (e :: es) (f :: fl) r = (Glm.mk f.1.Word f.2.1 r false :: (mkS (e :: es) fl r).1, (mkS (e :: es) fl r).2) := by
 rw [mkS, if_neg h]
theorem v3 : ∀ (a b : List FL) (es : List GLe) (r : Int), AL es (a ++ b) → (mkS es (a ++ b) r).1 = (mkS es a r).1 ++ (mkS (mkS es a r).2.1 b (mkS es a r).2.2).1 ∧ (mkS es (a ++ b) r).2 = (mkS (mkS es a r).2.1 b (mkS es a r).2.2).2
 | [], b, es, r, _ => by cases es <;> simp [mkS]
 | f :: a, b, [], r, h => h.elim
 | f :: a, b, e :: es, r, h => by
  rw [List.cons_append] at h ⊢
  unfold AL at h
  by_cases he : e = f.1
  ·rw [if_pos he] at h
   obtain ⟨h1, h2⟩ := v3 a b es (r + 1) h
   rw [zT he, zT he]
   simp only [h1, h2, List.cons_append, and_self]
  ·rw [if_neg he] at h
   obtain ⟨h1, h2⟩ := v3 a b (e :: es) r h
   rw [zU he, zU he]
   simp only [h1, h2, List.cons_append, and_self]
theorem zS (i al : Int) : ∀ (cs : List Int) (k : Int), (letW i al cs k).length = cs.length
 | [], _ => rfl
 | c :: cs, k => by simp [letW, zS i al cs]
theorem uD (x : GLx) (ho : lenOk x.Out = true) (hl : x.Ends.length < 1000000) : ∀ (ws : List GLw) (i r : Int) (acc : List Glm) (es : List GLe), (∀ w ∈ ws, w.Signs.length ≤ 6) → 0 ≤ r → r + es.length = x.Ends.length → x.Ends.drop r.toNat = es → AL es (ltrsL x.Out ws i) → acc.length + 6 * ws.length ≤ 1000 →
  qS x ws i r acc = some (.go ((mkS es (ltrsL x.Out ws i) r).2.2, acc ++ (mkS es (ltrsL x.Out ws i) r).1))
 | [], i, r, acc, es, _, _, _, _, h3, _ => by
  cases es with
  | nil => simp [qS, ltrsL, mkS]
  | cons e es => exact h3.elim
 | w :: ws, i, r, acc, es, hw, h0, h1, h2, h3, h4 => by
  simp only [List.length_cons] at h4
  have D0 := hw w (List.mem_cons_self ..)
  have SC : ∀ v ∈ ws, v.Signs.length ≤ 6 := fun v hv => hw v (List.mem_cons_of_mem _ hv)
  simp only [qS, SD _ _ ho, Option.bind_some]
  unfold ltrsL at h3 ⊢
  cases hc : x.Out.contains i with
  | true =>
   rw [hc] at h3
   simp only [cond_true] at h3 ⊢
   exact uD x ho hl ws (i + 1) r acc es SC h0 h1 h2 h3 (by omega)
  | false =>
   rw [hc] at h3
   simp only [cond_false] at h3 ⊢
   obtain ⟨q1, q2, q3, q4, q5, q6⟩ := vy x hl i w w.Signs 0 r acc es (ltrsL x.Out ws (i + 1)) (by omega) (by omega) h0 h1 h2 h3 (by omega)
   obtain ⟨a1, a2⟩ := v3 _ _ es r h3
   rw [oJ (by omega), cond_true, q1, pn, uD x ho hl ws (i + 1) _ _ _ SC q3 q4 q5 q2 (by simp only [List.length_append, q6]; omega), a1, a2]
   simp
theorem D1 {i al : Int} {f : FL} : ∀ {cs : List Int} {k : Int}, f ∈ letW i al cs k → f.1.Word = i ∧ k + 1 ≤ f.1.Letters ∧ f.1.Letters ≤ k + cs.length ∧ f.2.1 ∈ cs ∧ f.2.2 = decide (f.1.Letters < al)
 | [], _, h => by cases h
 | c :: cs, k, h => by
  rcases List.mem_cons.1 h with rfl | h
  ·exact ⟨rfl, Int.le_refl _, by simp; omega, List.mem_cons_self .., rfl⟩
  ·obtain ⟨h1, h2, h3, h4, h5⟩ := D1 h
   exact ⟨h1, by omega, by simp only [List.length_cons]; omega, List.mem_cons_of_mem _ h4, h5⟩
theorem O9 {i al : Int} : ∀ (cs : List Int) (k : Int) (n : Int), k + 1 ≤ n → n ≤ k + cs.length → GLe.mk i n ∈ (letW i al cs k).map (·.1)
 | [], k, n, h1, h2 => by simp at h2; omega
 | c :: cs, k, n, h1, h2 => by
  simp only [List.length_cons] at h2
  simp only [letW, List.map_cons]
  by_cases h : n = k + 1
  ·rw [h]; exact List.mem_cons_self ..
  ·exact List.mem_cons_of_mem _ (O9 cs (k + 1) n (by omega) (by omega))
theorem BM {i al : Int} : ∀ (cs : List Int) (k : Int), ((letW i al cs k).map (·.1)).Pairwise befE
 | [], _ => List.Pairwise.nil
 | c :: cs, k => by
  simp only [letW, List.map_cons, List.pairwise_cons]
  refine ⟨fun x hx => ?_, BM cs (k + 1)⟩
  obtain ⟨f, hf, rfl⟩ := List.mem_map.1 hx
  obtain ⟨h1, h2, _⟩ := D1 hf
  exact .inr ⟨h1.symm, by show k + 1 < _; omega⟩
theorem CY {out : List Int} {f : FL} : ∀ {ws : List GLw} {i : Int}, f ∈ ltrsL out ws i → i ≤ f.1.Word ∧ ∃ w ∈ ws, f.2.1 ∈ w.Signs
 | [], _, h => by cases h
 | w :: ws, i, h => by
  unfold ltrsL at h
  cases hc : out.contains i with
  | true =>
   rw [hc, cond_true] at h
   obtain ⟨h1, v, h2, h3⟩ := CY h
   exact ⟨by omega, v, List.mem_cons_of_mem _ h2, h3⟩
  | false =>
   rw [hc, cond_false] at h
   rcases List.mem_append.1 h with h | h
   ·obtain ⟨h1, _, _, h4, _⟩ := D1 h
    exact ⟨by omega, w, List.mem_cons_self .., h4⟩
   ·obtain ⟨h1, v, h2, h3⟩ := CY h
    exact ⟨by omega, v, List.mem_cons_of_mem _ h2, h3⟩
theorem uC (out : List Int) : ∀ (ws : List GLw) (i : Int), ((ltrsL out ws i).map (·.1)).Pairwise befE
 | [], _ => List.Pairwise.nil
 | w :: ws, i => by
  unfold ltrsL
  cases out.contains i with
  | true => exact uC out ws (i + 1)
  | false =>
   rw [cond_false, List.map_append, List.pairwise_append]
   refine ⟨BM _ _, uC out ws (i + 1), fun a ha b hb => ?_⟩
   obtain ⟨f, hf, rfl⟩ := List.mem_map.1 ha
   obtain ⟨g, hg, rfl⟩ := List.mem_map.1 hb
   have h1 := (D1 hf).1
   have h2 := (CY hg).1
   left; omega
theorem zV (out : List Int) : ∀ (ws : List GLw) (i : Int), (∀ w ∈ ws, 1 ≤ w.Signs.length ∧ ∀ c ∈ w.Cuts, 1 ≤ c ∧ c < (w.Signs.length : Int)) → ∀ e ∈ possL out ws i, e ∈ (ltrsL out ws i).map (·.1)
 | [], _, _, e, he => by simp [possL] at he
 | w :: ws, i, h, e, he => by
  have hw := h w (List.mem_cons_self ..)
  have ih := zV out ws (i + 1) (fun v hv => h v (List.mem_cons_of_mem _ hv)) e
  unfold possL at he
  unfold ltrsL
  cases hc : out.contains i with
  | true => rw [hc, cond_true] at he; exact ih he
  | false =>
   rw [hc, cond_false] at he
   rw [cond_false, List.map_append, List.mem_append]
   rcases List.mem_append.1 he with he | he
   ·left
    obtain ⟨h1, h2⟩ := xq.1 he
    obtain ⟨a, b⟩ := e
    subst h1
    rcases h2 with h2 | h2
    ·have := hw.2 _ h2
     exact O9 _ _ _ (by simp only at this ⊢; omega) (by simp only at this ⊢; omega)
    ·simp only at h2
     subst h2
     exact O9 _ _ _ (by omega) (by omega)
   ·exact .inr (ih he)
theorem SE (i al : Int) : ∀ (cs : List Int) (k : Int), cs ≠ [] → ((letW i al cs k).map (·.1)).getLast? = some (GLe.mk i (k + cs.length))
 | [], _, h => absurd rfl h
 | [c], k, _ => by simp [letW]
 | c :: d :: cs, k, _ => by
  have ih := SE i al (d :: cs) (k + 1) (by simp)
  rw [letW, List.map_cons, List.getLast?_cons, ih]
  simp only [List.length_cons, Option.getD_some, Option.some.injEq, GLe.mk.injEq, true_and]
  omega
theorem Rt (out : List Int) : ∀ (ws : List GLw) (i : Int), (∀ w ∈ ws, 1 ≤ w.Signs.length) → ((ltrsL out ws i).map (·.1)).getLast? = (possL out ws i).getLast?
 | [], _, _ => rfl
 | w :: ws, i, h => by
  have hw := h w (List.mem_cons_self ..)
  have ih := Rt out ws (i + 1) fun v hv => h v (List.mem_cons_of_mem _ hv)
  unfold ltrsL possL
  cases out.contains i with
  | true => exact ih
  | false =>
   have hne : w.Signs ≠ [] := by intro h; rw [h] at hw; simp at hw
   simp only [cond_false, List.map_append, List.getLast?_append, ih, SE _ _ _ _ hne]
   congr 1
   simp [posW]
theorem AL_of : ∀ (es : List GLe) (fl : List FL), es.Pairwise befE → (fl.map (·.1)).Pairwise befE → (∀ e ∈ es, e ∈ fl.map (·.1)) → es.getLast? = (fl.map (·.1)).getLast? → AL es fl
 | [], [], _, _, _, _ => trivial
 | [], f :: fl, _, _, _, h => by simp [List.getLast?_cons] at h
 | e :: es, [], _, _, h, _ => by have := h e (List.mem_cons_self ..); cases this
 | e :: es, f :: fl, h1, h2, h3, h4 => by
  rw [List.map_cons, List.pairwise_cons] at h2
  unfold AL
  by_cases he : e = f.1
  ·rw [if_pos he]
   rw [List.pairwise_cons] at h1
   refine AL_of es fl h1.2 h2.2 (fun x hx => ?_) ?_
   ·rcases List.mem_cons.1 (h3 x (List.mem_cons_of_mem _ hx)) with h | h
    ·have := h1.1 x hx
     have h' : x = f.1 := h
     rw [h', ← he] at this
     exact absurd this lY
    ·exact h
   ·rw [List.map_cons, List.getLast?_cons, List.getLast?_cons, Option.some.injEq] at h4
    cases hp : es.getLast? with
    | none =>
     rw [hp] at h4
     cases hr : (fl.map (·.1)).getLast? with
     | none => rfl
     | some y =>
      rw [hr] at h4
      simp only [Option.getD_none, Option.getD_some] at h4
      have := h2.1 _ (List.mem_of_getLast? hr)
      rw [← h4, he] at this
      exact absurd this lY
    | some z =>
     rw [hp] at h4
     cases hr : (fl.map (·.1)).getLast? with
     | none =>
      rw [hr] at h4
      simp only [Option.getD_none, Option.getD_some] at h4
      have := h1.1 _ (List.mem_of_getLast? hp)
      rw [h4, he] at this
      exact absurd this lY
     | some y =>
      rw [hr] at h4
      simp only [Option.getD_some] at h4
      rw [h4]
  ·rw [if_neg he]
   have hbe : befE f.1 e := by
    rcases List.mem_cons.1 (h3 e (List.mem_cons_self ..)) with h | h
    ·exact absurd h he
    ·exact h2.1 e h
   refine AL_of (e :: es) fl h1 h2.2 (fun x hx => ?_) ?_
   ·rcases List.mem_cons.1 (h3 x hx) with h | h
    ·exfalso
     rcases List.mem_cons.1 hx with hx | hx
     ·exact he (by rw [← hx, h])
     ·have := (List.pairwise_cons.1 h1).1 x hx
      rw [h] at this
      exact lY (Be hbe this)
    ·exact h
   ·rw [h4, List.map_cons, List.getLast?_cons]
    cases hr : (fl.map (·.1)).getLast? with
    | none =>
     exfalso
     have := List.getLast?_eq_none_iff.1 hr
     rcases List.mem_cons.1 (h3 e (List.mem_cons_self ..)) with h | h
     ·exact he h
     ·rw [this] at h; cases h
    | some y => rfl
end Go.V
end
section
namespace Go.V
open Go Go.Proofs IntKind
section
variable {P : Program} {G : Glob} {γ : Nat} {tm : Nat → VV} {H : Nat → Option VObj} {α : Type} {enc : α → List VV} {z : α} {t e b : Nat} {n : Int} {v : Value} {x y : Operand} {d : Option Tmp} {ty : TypeId} {pos : String} {af : Array Edge} {g : Option (Nat × Bool)} {k : VV → VEff → Prop}
end
end Go.V
end
section
namespace Go.V
open Go Go.Proofs IntKind
def th (an : Gld) (bU : GSpan) : Option (Int) := some (i64.wrap (bU.Low + (i64.wrap (Int.tdiv (i64.wrap ((i64.wrap (bU.High - bU.Low)) * an.stretch)) 10))))
theorem D2 (an : Gld) (bU : GSpan) (R : Int) (h : th an bU = some R) : ad Tryz.prog G0 170 [.agg (cGld an), .agg (cGSpan bU)] (.tree (.lit (.int .i64 R))) := by
 refine ad.runR mixed Tryz.call170 Tryz.func170 rfl (by simp [Tryz.ntmps170]; kernel_rfl) ?_
 obtain ⟨KF, h, kF, kN⟩ := dZ h
 simp only [th] at h
 try simp only [vz, mq, mqm, qr, tyf, mqt, nm, seval]
 refine d4 (x := (.lit (.int .i64 (i64.wrap (bU.Low + (i64.wrap (Int.tdiv (i64.wrap ((i64.wrap (bU.High - bU.Low)) * an.stretch)) 10))))))) (by first | (simp only [Tryz.results170, resV, resL, aJ, dU, dT, uw, cr, tyf, mqt, nm, seval] <;> rfl) | rfl) ?_
 obtain rfl := kF _ h
 refine dW ?_ ?_
 ·simp only [tre, aw, mqr, Bool.and_self]
 ·first | (simp only [outV, uw, fu, mA, lU, cr, tyf, mqt, nrm, ar, nm, seval] <;> rfl) | rfl
def zJ (an : Gld) (aA : Int) : Option (Int) := Option.bind (getI an.marks aA) (fun x1 => cond (x1.hyphen) (Option.bind (th an an.ls.Other) (fun r2 => some r2)) (cond ((i64.wrap (aA + 1)) == (List.length an.marks : Int)) (some 0) (Option.bind (getI an.marks (i64.wrap (aA + 1))) (fun x3 => cond (x3.row != x1.row) (some 0) (cond (x3.word != x1.word) (Option.bind (th an an.ls.Gap) (fun r4 => some r4)) (cond (mapHas dO an.spaces (Glp.mk x1.sign x3.sign)) (Option.bind (th an (mapGet dO (GSpan.mk 0 0) an.spaces (Glp.mk x1.sign x3.sign))) (fun r5 => some r5)) (Option.bind (th an an.ls.Other) (fun r6 => some r6))))))))
theorem SF (an : Gld) (aA : Int) (R : Int) (h : zJ an aA = some R) : ad Tryz.prog G0 153 [.agg (cGld an), .lit (.int .i64 aA)] (.tree (.lit (.int .i64 R))) := by
 refine ad.runR mixed Tryz.call153 Tryz.func153 rfl (by simp [Tryz.ntmps153]; kernel_rfl) ?_
 obtain ⟨KF, h, kF, kN⟩ := dZ h
 simp only [zJ] at h
 obtain ⟨x7, o8, h⟩ := optI h kN
 try simp only [hs] at h
 cases d9 : (x7.hyphen)
 ·simp only [d9, hs] at h
  cases ck : ((i64.wrap (aA + 1)) == (List.length an.marks : Int))
  ·simp only [ck, hs] at h
   obtain ⟨D3, iI, h⟩ := optI h kN
   try simp only [hs] at h
   cases bx : (D3.row != x7.row)
   ·simp only [bx, hs] at h
    cases bO : (D3.word != x7.word)
    ·simp only [bO, hs] at h
     cases cI : (mapHas dO an.spaces (Glp.mk x7.sign D3.sign))
     ·simp only [cI, hs] at h
      obtain ⟨tf, z8, h⟩ := optI h kN
      try simp only [hs] at h
      simp only [vz, mq, mqm, tyf, mqt, (bk o8), d9, ck, (bk iI), bx, bO, cI, nm, seval]
      refine ktree (args0 := [.agg (cGld an), .agg (cGSpan an.ls.Other)]) (by first | (simp only [nrm, ar, @Di, tyf, mqt, d9, ck, bx, bO, cI] <;> rfl) | rfl) (by simp only [tre, aw, mqr, Bool.and_self]) (D2 _ _ _ z8) ?_
      refine bt (fun tm => tm 67 = .lit (.int .i64 tf) ∧ True) (by refine ⟨?_, trivial⟩ <;> first | (simp only [ua, cL, d9, ck, bx, bO, cI, nm, seval] <;> rfl) | rfl | (simp only [ua, cL, tyf, mqt, d9, ck, bx, bO, cI, nm, seval] <;> rfl)) ?_
      rintro tm ⟨cl, _⟩
      try simp only [vz, mq, mqm, tyf, mqt, (bk o8), d9, ck, (bk iI), bx, bO, cI, cl, nm, seval]
      refine d4 (x := (.lit (.int .i64 tf))) (by first | (simp only [Tryz.results153, resV, resL, aJ, dU, dT, uw, cr, tyf, mqt, (bk o8), d9, ck, (bk iI), bx, bO, cI, nm, seval] <;> rfl) | rfl) ?_
      obtain rfl := kF _ h
      refine dW ?_ ?_
      ·simp only [tre, aw, mqr, Bool.and_self]
      ·first | (simp only [outV, uw, fu, mA, lU, cr, tyf, mqt, nrm, ar, (bk o8), d9, ck, (bk iI), bx, bO, cI, cl, nm, seval] <;> rfl) | rfl
     simp only [cI, hs] at h
     obtain ⟨iy, iQ, h⟩ := optI h kN
     try simp only [hs] at h
     simp only [vz, mq, mqm, tyf, mqt, (bk o8), d9, ck, (bk iI), bx, bO, cI, nm, seval]
     refine ktree (args0 := [.agg (cGld an), .agg (cGSpan (mapGet dO (GSpan.mk 0 0) an.spaces (Glp.mk x7.sign D3.sign)))]) (by first | (simp only [nrm, ar, @Di, tyf, mqt, d9, ck, bx, bO, cI] <;> rfl) | rfl) (by simp only [tre, aw, mqr, Bool.and_self]) (D2 _ _ _ iQ) ?_
     refine bt (fun tm => tm 62 = .lit (.int .i64 iy) ∧ True) (by refine ⟨?_, trivial⟩ <;> first | (simp only [ua, cL, d9, ck, bx, bO, cI, nm, seval] <;> rfl) | rfl | (simp only [ua, cL, tyf, mqt, d9, ck, bx, bO, cI, nm, seval] <;> rfl)) ?_
     rintro tm ⟨dL, _⟩
     try simp only [vz, mq, mqm, tyf, mqt, (bk o8), d9, ck, (bk iI), bx, bO, cI, dL, nm, seval]
     refine d4 (x := (.lit (.int .i64 iy))) (by first | (simp only [Tryz.results153, resV, resL, aJ, dU, dT, uw, cr, tyf, mqt, (bk o8), d9, ck, (bk iI), bx, bO, cI, nm, seval] <;> rfl) | rfl) ?_
     obtain rfl := kF _ h
     refine dW ?_ ?_
     ·simp only [tre, aw, mqr, Bool.and_self]
     ·first | (simp only [outV, uw, fu, mA, lU, cr, tyf, mqt, nrm, ar, (bk o8), d9, ck, (bk iI), bx, bO, cI, dL, nm, seval] <;> rfl) | rfl
    simp only [bO, hs] at h
    obtain ⟨BN, qc, h⟩ := optI h kN
    try simp only [hs] at h
    simp only [vz, mq, mqm, tyf, mqt, (bk o8), d9, ck, (bk iI), bx, bO, nm, seval]
    refine ktree (args0 := [.agg (cGld an), .agg (cGSpan an.ls.Gap)]) (by first | (simp only [nrm, ar, @Di, tyf, mqt, d9, ck, bx, bO] <;> rfl) | rfl) (by simp only [tre, aw, mqr, Bool.and_self]) (D2 _ _ _ qc) ?_
    refine bt (fun tm => tm 47 = .lit (.int .i64 BN) ∧ True) (by refine ⟨?_, trivial⟩ <;> first | (simp only [ua, cL, d9, ck, bx, bO, nm, seval] <;> rfl) | rfl | (simp only [ua, cL, tyf, mqt, d9, ck, bx, bO, nm, seval] <;> rfl)) ?_
    rintro tm ⟨ej, _⟩
    try simp only [vz, mq, mqm, tyf, mqt, (bk o8), d9, ck, (bk iI), bx, bO, ej, nm, seval]
    refine d4 (x := (.lit (.int .i64 BN))) (by first | (simp only [Tryz.results153, resV, resL, aJ, dU, dT, uw, cr, tyf, mqt, (bk o8), d9, ck, (bk iI), bx, bO, nm, seval] <;> rfl) | rfl) ?_
    obtain rfl := kF _ h
    refine dW ?_ ?_
    ·simp only [tre, aw, mqr, Bool.and_self]
    ·first | (simp only [outV, uw, fu, mA, lU, cr, tyf, mqt, nrm, ar, (bk o8), d9, ck, (bk iI), bx, bO, ej, nm, seval] <;> rfl) | rfl
   simp only [bx, hs] at h
   try simp only [vz, mq, mqm, tyf, mqt, (bk o8), d9, ck, (bk iI), bx, nm, seval]
   refine d4 (x := (.lit (.int .i64 0))) (by first | (simp only [Tryz.results153, resV, resL, aJ, dU, dT, uw, cr, tyf, mqt, (bk o8), d9, ck, (bk iI), bx, nm, seval] <;> rfl) | rfl) ?_
   obtain rfl := kF _ h
   refine dW ?_ ?_
   ·simp only [tre, aw, mqr, Bool.and_self]
   ·first | (simp only [outV, uw, fu, mA, lU, cr, tyf, mqt, nrm, ar, (bk o8), d9, ck, (bk iI), bx, nm, seval] <;> rfl) | rfl
  simp only [ck, hs] at h
  try simp only [vz, mq, mqm, tyf, mqt, (bk o8), d9, ck, nm, seval]
  refine d4 (x := (.lit (.int .i64 0))) (by first | (simp only [Tryz.results153, resV, resL, aJ, dU, dT, uw, cr, tyf, mqt, (bk o8), d9, ck, nm, seval] <;> rfl) | rfl) ?_
  obtain rfl := kF _ h
  refine dW ?_ ?_
  ·simp only [tre, aw, mqr, Bool.and_self]
  ·first | (simp only [outV, uw, fu, mA, lU, cr, tyf, mqt, nrm, ar, (bk o8), d9, ck, nm, seval] <;> rfl) | rfl
 simp only [d9, hs] at h
 obtain ⟨wh, j7, h⟩ := optI h kN
 try simp only [hs] at h
 simp only [vz, mq, mqm, tyf, mqt, (bk o8), d9, nm, seval]
 refine ktree (args0 := [.agg (cGld an), .agg (cGSpan an.ls.Other)]) (by first | (simp only [nrm, ar, @Di, tyf, mqt, d9] <;> rfl) | rfl) (by simp only [tre, aw, mqr, Bool.and_self]) (D2 _ _ _ j7) ?_
 refine bt (fun tm => tm 20 = .lit (.int .i64 wh) ∧ True) (by refine ⟨?_, trivial⟩ <;> first | (simp only [ua, cL, d9, nm, seval] <;> rfl) | rfl | (simp only [ua, cL, tyf, mqt, d9, nm, seval] <;> rfl)) ?_
 rintro tm ⟨ec, _⟩
 try simp only [vz, mq, mqm, tyf, mqt, (bk o8), d9, ec, nm, seval]
 refine d4 (x := (.lit (.int .i64 wh))) (by first | (simp only [Tryz.results153, resV, resL, aJ, dU, dT, uw, cr, tyf, mqt, (bk o8), d9, nm, seval] <;> rfl) | rfl) ?_
 obtain rfl := kF _ h
 refine dW ?_ ?_
 ·simp only [tre, aw, mqr, Bool.and_self]
 ·first | (simp only [outV, uw, fu, mA, lU, cr, tyf, mqt, nrm, ar, (bk o8), d9, ec, nm, seval] <;> rfl) | rfl
def ux  : List Int → Int → Int → Option (LOut (Int) (Int))
 | [], gZ, fz => some (.go fz)
 | e0 :: p0, gZ, fz => ux p0 (gZ + 1) (i64.wrap (fz + e0))
def zI (bg : List Int) : Option (Int) := cond (lenOk bg) (lbind (ux bg 0 0) (fun r2 => some r2) (fun c1 => some c1) (fun _ _ => none)) none
theorem SG (bg : List Int) (R : Int) (h : zI bg = some R) : ad Tryz.prog G0 169 [.sl (aa eI bg) (List.length bg) false] (.tree (.lit (.int .i64 R))) := by
 refine ad.runR mixed Tryz.call169 Tryz.func169 rfl (by simp [Tryz.ntmps169]; kernel_rfl) ?_
 obtain ⟨KF, h, kF, kN⟩ := dZ h
 simp only [zI] at h
 cases g4 : (lenOk bg)
 ·simp only [g4, hs] at h
  exact absurd h kN
 simp only [g4, hs] at h
 simp only [vz, tyf, g4, nm, seval]
 obtain ⟨K3, h, pV, oN, Aa, Ab⟩ := gu h kN
 obtain ⟨f3, pW, h⟩ := call3 h
 obtain ⟨I3, ja⟩ : ∃ I : Nat → St → Prop, I = (fun m st => ∃ (p3 : List Int) (bM : Int) (gq : Int), m = List.length p3 ∧ 0 ≤ bM ∧ List.drop (Int.toNat bM) bg = p3 ∧ st.df = [] ∧ 5 ≤ st.nx ∧ st.tm 6 = .sl (aa eI bg) (List.length bg) false ∧ st.tm 7 = .lit (.int .i64 (List.length bg : Int)) ∧ st.tm 3 = .lit (.int .i64 gq) ∧ st.tm 8 = .lit (.int .i64 bM) ∧ K3 (f3 p3 bM gq)) := ⟨_, rfl⟩
 refine loopK mixed (by kernel_rfl) I3 (List.length bg) (by rw [ja]; refine ⟨bg, 0, 0, rfl, Int.le_refl _, rfl, rfl, (show 5 ≤ 5 by omega), ?_, ?_, ?_, ?_, h⟩ <;> first | (simp only [ua, nm, seval] <;> rfl) | rfl) ?_
 rintro m ⟨tm, H, lk, df⟩ hinv
 rw [ja] at hinv
 obtain ⟨p3, bM, gq, rfl, eM, fx, hdf, pZ, e5, e6, e7, e8, h⟩ := hinv
 simp only at hdf pZ e5 e6 e7 e8
 have n9 := gv (m := 5) (b := lk) (by omega)
 subst hdf pW
 cases p3 with
 | nil =>
  have ck : (decide (bM < (List.length bg : Int))) = false := fj eM fx
  simp only [ux, hs, reduceCtorEq] at h
  replace h := oN _ h
  try dsimp only at h
  try simp only [hs] at h
  try simp only [vz, tyf, g4, n9, e5, e6, e7, e8, ck, nm, seval]
  refine d4 (x := (.lit (.int .i64 gq))) (by first | (simp only [Tryz.results169, resV, resL, aJ, dU, dT, uw, cr, tyf, g4, n9, ck, nm, seval] <;> rfl) | rfl) ?_
  obtain rfl := kF _ h
  refine dW ?_ ?_
  ·simp only [tre, aw, Bool.and_self]
  ·first | (simp only [outV, uw, fu, cr, tyf, nrm, ar, g4, n9, e5, e6, e7, e8, ck, nm, seval] <;> rfl) | rfl
 | cons e3 p3 =>
  have fg : (decide (bM < (List.length bg : Int))) = true := fk eM fx
  have ml := eg eM fx
  have mT := fm eM fx g4
  simp only [ux, hs, reduceCtorEq] at h
  simp only [vz, tyf, g4, n9, e5, e6, e7, e8, fg, (aD ml), mT, nm, seval]
  exact ⟨List.length p3, Nat.lt_succ_self _, by rw [ja]; refine ⟨p3, bM + 1, i64.wrap (gq + e3), rfl, Int.le_trans eM (Int.le_add_one (Int.le_refl _)), bS eM fx, rfl, (show 5 ≤ lk + 10 by omega), e5, e6, ?_, ?_, (by first | exact h | (simp only [fg]; exact h))⟩ <;> first | (simp only [ua, n9, e5, e6, e7, e8, fg, mT, nm, seval] <;> rfl) | rfl⟩
def pS (an : Gld) (bu : Int) : List Glm → Int → (List Int) → Option (LOut (Int) ((List Int)))
 | [], im, bB => some (.go bB)
 | e0 :: p0, im, bB => cond (e0.row != bu) (pS an bu p0 (im + 1) bB) (Option.bind (getI an.ls.Widths e0.sign) (fun x1 => Option.bind (zJ an im) (fun r2 => cond (aB 8 (List.length (bB ++ [x1, r2]))) (cond (e0.hyphen) (cond (aB 8 (List.length ((bB ++ [x1, r2]) ++ [an.ls.Hyphen]))) (pS an bu p0 (im + 1) ((bB ++ [x1, r2]) ++ [an.ls.Hyphen])) none) (pS an bu p0 (im + 1) (bB ++ [x1, r2]))) none)))
def zK (an : Gld) (bu : Int) : Option (Int) := cond (lenOk an.marks) (lbind (pS an bu an.marks 0 ([] : List Int)) (fun r5 => some r5) (fun c3 => Option.bind (zI c3) (fun r4 => some r4)) (fun _ _ => none)) none
theorem Xv (an : Gld) (bu : Int) (R : Int) (h : zK an bu = some R) : ad Tryz.prog G0 152 [.agg (cGld an), .lit (.int .i64 bu)] (.tree (.lit (.int .i64 R))) := by
 refine ad.runR mixed Tryz.call152 Tryz.func152 rfl (by simp [Tryz.ntmps152]; kernel_rfl) ?_
 obtain ⟨KF, h, kF, kN⟩ := dZ h
 simp only [zK] at h
 cases g7 : (lenOk an.marks)
 ·simp only [g7, hs] at h
  exact absurd h kN
 simp only [g7, hs] at h
 simp only [vz, mq, mqm, tyf, mqt, g7, nm, seval]
 obtain ⟨K6, h, v5, s5, OA, iC⟩ := gu h kN
 obtain ⟨f6, v7, h⟩ := call3 h
 obtain ⟨I6, iw⟩ : ∃ I : Nat → St → Prop, I = (fun m st => ∃ (p6 : List Glm) (bV : Int) (bm : List Int) (kE : VV), m = List.length p6 ∧ 0 ≤ bV ∧ List.drop (Int.toNat bV) an.marks = p6 ∧ st.df = [] ∧ 7 ≤ st.nx ∧ st.H 0 = some (.cells (some 93) (cGld an)) ∧ st.tm 1 = .lit (.int .i64 bu) ∧ st.tm 2 = .ptr 0 0 ∧ st.tm 9 = .sl (aa cGlm an.marks) (List.length an.marks) false ∧ st.tm 10 = .lit (.int .i64 (List.length an.marks : Int)) ∧ st.tm 5 = kE ∧ st.tm 11 = .lit (.int .i64 bV) ∧ ((∃ (β : Nat) (el : Option TypeId), kE = .ref β 0 (List.length bm) 1 (List.length bm) ∧ β < st.nx ∧ β ≠ 0 ∧ st.H β = some (.cells el (aa eI bm))) ∨ (kE = .lit (.slice none 0 0) ∧ bm = [])) ∧ K6 (f6 p6 bV bm)) := ⟨_, rfl⟩
 refine loopK mixed (by kernel_rfl) I6 (List.length an.marks) (by rw [iw]; refine ⟨an.marks, 0, ([] : List Int), .lit (.slice none 0 0), rfl, Int.le_refl _, rfl, rfl, (show 7 ≤ 7 by omega), ?_, ?_, ?_, ?_, ?_, ?_, ?_, Or.inr ⟨rfl, rfl⟩, h⟩ <;> first | (simp only [ua, cL, nm, seval] <;> rfl) | rfl) ?_
 rintro m ⟨tm, H, eD, df⟩ hinv
 rw [iw] at hinv
 obtain ⟨p6, bV, bm, kE, rfl, cN, eE, hdf, oS, H8, e9, bh, bj, bR, bz, ca, lH, h⟩ := hinv
 simp only at hdf oS H8 e9 bh bj bR bz ca lH
 have iL := gv (m := 7) (b := eD) (by omega)
 subst hdf v7
 rcases lH with ⟨ju, ix, rfl, v8, OB, nV⟩ | ⟨rfl, rfl⟩
 ·have nk := ub v8
  have v9 := ne_f OB
  cases p6 with
  | nil =>
   have fH : (decide (bV < (List.length an.marks : Int))) = false := fj cN eE
   simp only [pS, hs, reduceCtorEq] at h
   replace h := s5 _ h
   try dsimp only at h
   try simp only [hs] at h
   obtain ⟨tz, jd, h⟩ := optI h kN
   try simp only [hs] at h
   simp only [vz, mq, mqm, tyf, mqt, g7, iL, e9, bh, bj, bR, bz, ca, H8, nk, nV, v9, fH, nm, seval]
   refine kseen (args0 := [.sl (aa eI bm) (List.length bm) false]) (by simp only [List.map_cons, List.map_nil, fu, br, bW, cr, tyf, mqt, nrm, ar, g7, iL, e9, bh, bj, bR, bz, ca, H8, nk, nV, v9, fH, nm, seval] <;> rfl) (by simp only [List.map_cons, List.map_nil, fu, br, bW, cr, tyf, mqt, nrm, ar, g7, iL, e9, bh, bj, bR, bz, ca, H8, nk, nV, v9, fH, nm, seval]; simp only [tre, aw, mqr, Bool.and_self]) (SG _ _ jd) (by first | rfl | simp only [VV.flat, flatL, Bool.and_self]) ?_
   refine bt (fun tm => tm 43 = .lit (.int .i64 tz) ∧ True) (by refine ⟨?_, trivial⟩ <;> first | (simp only [ua, cL, iL, e9, bh, bj, bR, bz, ca, H8, nk, nV, v9, fH, nm, seval] <;> rfl) | rfl) ?_
   rintro tm ⟨bX, _⟩
   have BO := And.intro g7 (And.intro iL (And.intro H8 (And.intro nk (And.intro nV (And.intro v9 fH)))))
   try simp only [vz, mq, mqm, tyf, mqt, BO, bX, nm, seval]
   refine d4 (x := (.lit (.int .i64 tz))) (by first | (simp only [Tryz.results152, resV, resL, aJ, dU, dT, uw, cr, tyf, mqt, BO, nm, seval] <;> rfl) | rfl) ?_
   obtain rfl := kF _ h
   refine dW ?_ ?_
   ·simp only [tre, aw, mqr, Bool.and_self]
   ·first | (simp only [outV, uw, fu, mA, lU, cr, tyf, mqt, nrm, ar, BO, bX, nm, seval] <;> rfl) | rfl
  | cons e6 p6 =>
   have lP : (decide (bV < (List.length an.marks : Int))) = true := fk cN eE
   have j7 := eg cN eE
   have SH := fm cN eE g7
   simp only [pS, hs, reduceCtorEq] at h
   cases s6 : (e6.row != bu)
   ·simp only [s6, hs] at h
    have ib := And.intro g7 (And.intro iL (And.intro H8 (And.intro nk (And.intro nV (And.intro v9 (And.intro lP (And.intro SH s6)))))))
    simp only [vz, mq, mqm, tyf, mqt, ib, e9, bh, bj, bR, bz, ca, (bk j7), nm, seval]
    refine uE (fun tm => tm 1 = .lit (.int .i64 bu) ∧ tm 2 = .ptr 0 0 ∧ tm 5 = .ref ju 0 (List.length bm) 1 (List.length bm) ∧ tm 6 = .lit (.int .i64 bV) ∧ tm 7 = .ptr (eD + 4) 0 ∧ tm 9 = .sl (aa cGlm an.marks) (List.length an.marks) false ∧ tm 10 = .lit (.int .i64 (List.length an.marks : Int)) ∧ tm 11 = .lit (.int .i64 bV) ∧ True) (by refine ⟨e9, bh, bz, ?_, ?_, bj, bR, ca, trivial⟩ <;> first | (simp only [ua, cL, ib, e9, bh, bj, bR, bz, ca, nm, seval] <;> rfl) | rfl) ?_
    rintro tm ⟨gf, bQ, uM, qd, ed, eX, fK, cq, _⟩
    obtain ⟨qx, qT, h⟩ := optI h iC
    try simp only [hs] at h
    obtain ⟨qy, Xw, h⟩ := optI h iC
    try simp only [hs] at h
    simp only [vz, mq, mqm, tyf, mqt, ib, (bk j7), gf, bQ, uM, qd, ed, eX, fK, cq, (aD qT), nm, seval]
    refine dktree (args0 := [.agg (cGld an), .lit (.int .i64 bV)]) (by first | (simp only [nrm, ar, mqr] <;> rfl) | rfl) (by simp only [tre, aw, mqr, Bool.and_self]) (SF _ _ _ Xw) ?_
    refine bt (fun tm => tm 1 = .lit (.int .i64 bu) ∧ tm 2 = .ptr 0 0 ∧ tm 7 = .ptr (eD + 4) 0 ∧ tm 9 = .sl (aa cGlm an.marks) (List.length an.marks) false ∧ tm 10 = .lit (.int .i64 (List.length an.marks : Int)) ∧ tm 11 = .lit (.int .i64 bV) ∧ tm 20 = .ref ju 0 (List.length bm) 1 (List.length bm) ∧ tm 27 = .lit (.int .i64 qx) ∧ tm 30 = .lit (.int .i64 qy) ∧ True) (by refine ⟨gf, bQ, ed, eX, fK, cq, ?_, ?_, ?_, trivial⟩ <;> first | (simp only [ua, cL, ib, gf, bQ, uM, qd, ed, eX, fK, cq, nm, seval] <;> rfl) | rfl) ?_
    rintro tm ⟨cm, bP, cw, dE, ki, ig, ij, gg, fp, _⟩
    cases oT : (aB 8 (List.length (bm ++ [qx, qy])))
    ·simp only [oT, hs] at h
     exact absurd h iC
    simp only [oT, hs] at h
    simp only [vz, mq, mqm, tyf, mqt, ib, (bk j7), (aD qT), cm, bP, cw, dE, ki, ig, ij, gg, fp, oT, nm, seval]
    refine k_app (w := 1) (enc := eI) (xs := bm) (ys := ([qx, qy])) (el := ix) (fZ := (some 3)) (fun _ => rfl) pz py Tryz.underlying22 (by first | rfl | assumption | (simp only [br, bW, jE, ib, nm, seval] <;> rfl) | (simp only [br, bW, fX, fJ, fT, fU, tyf, mqt, ib, (bk j7), (aD qT), cm, bP, cw, dE, ki, ig, ij, gg, fp, oT, nm, seval]; done)) (by first | rfl | assumption | (simp only [br, bW, jE, ib, nm, seval] <;> rfl) | (simp only [br, bW, fX, fJ, fT, fU, tyf, mqt, ib, (bk j7), (aD qT), cm, bP, cw, dE, ki, ig, ij, gg, fp, oT, nm, seval]; done)) (Nat.zero_lt_succ _) oT ?_
    simp only [vz, mq, mqm, tyf, mqt, ib, (bk j7), (aD qT), cm, bP, cw, dE, ki, ig, ij, gg, fp, oT, nm, seval]
    refine nv ⟨?_, ?_⟩
    ·simp only [n6, n5, ic, ny, and_true, true_and]
     repeat' (first | exact trivial | refine And.intro ?_ ?_ | rw [ic] | rw [nz] | exact Or.inl (by decide +kernel) | exact Or.inl (by dsimp only; decide +kernel) | (refine Or.inr ⟨?_, ?_⟩ <;> simp; done) | (refine Or.inr ⟨?_, ?_⟩ <;> simp <;> omega) | (refine Or.inr ⟨?_, ?_⟩ <;> simp [VEff.wr] <;> omega))
    cases oA : (e6.hyphen)
    ·simp only [oA, hs] at h
     simp only [vz, mq, mqm, tyf, mqt, ib, (bk j7), (aD qT), cm, bP, cw, dE, ki, ig, ij, gg, fp, oT, oA, nm, seval]
     exact ⟨List.length p6, Nat.lt_succ_self _, by rw [iw]; refine ⟨p6, bV + 1, (bm ++ [qx, qy]), .ref (eD + 23) 0 (List.length (bm ++ [qx, qy])) 1 (List.length (bm ++ [qx, qy])), rfl, Int.le_trans cN (Int.le_add_one (Int.le_refl _)), bS cN eE, rfl, (show 7 ≤ eD + 29 by omega), ?_, cm, bP, dE, ki, ?_, ?_, Or.inl ⟨eD + 23, (sameEl ix 3), rfl, (by first | omega | (simp only [nm, seval]; done) | (simp only [nm, seval]; omega)), (by first | omega | (intro hh; simp only [ib, reduceCtorEq] at hh)), ?_⟩, (by first | exact h | (simp only [ib, oA]; exact h))⟩ <;> first | (simp only [ua, cL, ib, cm, bP, cw, dE, ki, ig, ij, gg, fp, oA, nm, seval] <;> rfl) | rfl | (simp only [ua, cL, tyf, mqt, ib, cm, bP, cw, dE, ki, ig, ij, gg, fp, oA, nm, seval] <;> rfl)⟩
    simp only [oA, hs] at h
    cases vA : (aB 8 (List.length ((bm ++ [qx, qy]) ++ [an.ls.Hyphen])))
    ·simp only [vA, hs] at h
     exact absurd h iC
    simp only [vA, hs] at h
    simp only [vz, mq, mqm, tyf, mqt, ib, (bk j7), (aD qT), cm, bP, cw, dE, ki, ig, ij, gg, fp, oT, oA, vA, nm, seval]
    refine k_app (w := 1) (enc := eI) (xs := (bm ++ [qx, qy])) (ys := ([an.ls.Hyphen])) (el := (sameEl ix 3)) (fZ := (some 3)) (fun _ => rfl) pz py Tryz.underlying22 (by first | rfl | assumption | (simp only [br, bW, jE, ib, nm, seval] <;> rfl) | (simp only [br, bW, fX, fJ, fT, fU, tyf, mqt, ib, (bk j7), (aD qT), cm, bP, cw, dE, ki, ig, ij, gg, fp, oT, oA, vA, nm, seval]; done)) (by first | rfl | assumption | (simp only [br, bW, jE, ib, nm, seval] <;> rfl) | (simp only [br, bW, fX, fJ, fT, fU, tyf, mqt, ib, (bk j7), (aD qT), cm, bP, cw, dE, ki, ig, ij, gg, fp, oT, oA, vA, nm, seval]; done)) (Nat.zero_lt_succ _) vA ?_
    simp only [vz, mq, mqm, tyf, mqt, ib, (bk j7), (aD qT), cm, bP, cw, dE, ki, ig, ij, gg, fp, oT, oA, vA, nm, seval]
    exact ⟨List.length p6, Nat.lt_succ_self _, by rw [iw]; refine ⟨p6, bV + 1, ((bm ++ [qx, qy]) ++ [an.ls.Hyphen]), .ref (eD + 32) 0 (List.length ((bm ++ [qx, qy]) ++ [an.ls.Hyphen])) 1 (List.length ((bm ++ [qx, qy]) ++ [an.ls.Hyphen])), rfl, Int.le_trans cN (Int.le_add_one (Int.le_refl _)), bS cN eE, rfl, (show 7 ≤ eD + 36 by omega), ?_, cm, bP, dE, ki, ?_, ?_, Or.inl ⟨eD + 32, (sameEl (sameEl ix 3) 3), rfl, (by first | omega | (simp only [nm, seval]; done) | (simp only [nm, seval]; omega)), (by first | omega | (intro hh; simp only [ib, reduceCtorEq] at hh)), ?_⟩, (by first | exact h | (simp only [ib, oA]; exact h))⟩ <;> first | (simp only [ua, cL, ib, cm, bP, cw, dE, ki, ig, ij, gg, fp, oA, nm, seval] <;> rfl) | rfl | (simp only [ua, cL, tyf, mqt, ib, cm, bP, cw, dE, ki, ig, ij, gg, fp, oA, nm, seval] <;> rfl)⟩
   simp only [s6, hs] at h
   have D4 := And.intro g7 (And.intro iL (And.intro H8 (And.intro nk (And.intro nV (And.intro v9 (And.intro lP (And.intro SH s6)))))))
   simp only [vz, mq, mqm, tyf, mqt, D4, e9, bh, bj, bR, bz, ca, (bk j7), nm, seval]
   exact ⟨List.length p6, Nat.lt_succ_self _, by rw [iw]; refine ⟨p6, bV + 1, bm, .ref ju 0 (List.length bm) 1 (List.length bm), rfl, Int.le_trans cN (Int.le_add_one (Int.le_refl _)), bS cN eE, rfl, (show 7 ≤ eD + 13 by omega), ?_, e9, bh, bj, bR, ?_, ?_, Or.inl ⟨ju, ix, rfl, (by first | omega | (simp only [nm, seval]; done) | (simp only [nm, seval]; omega)), (by first | omega | (intro hh; simp only [D4, reduceCtorEq] at hh)), ?_⟩, (by first | exact h | (simp only [D4]; exact h))⟩ <;> first | (simp only [ua, cL, D4, e9, bh, bj, bR, bz, ca, nm, seval] <;> rfl) | rfl⟩
 ·cases p6 with
  | nil =>
   have kT : (decide (bV < (List.length an.marks : Int))) = false := fj cN eE
   simp only [pS, hs, reduceCtorEq] at h
   replace h := s5 _ h
   try dsimp only at h
   try simp only [hs] at h
   obtain ⟨yn, iR, h⟩ := optI h kN
   try simp only [hs] at h
   simp only [vz, mq, mqm, tyf, mqt, g7, iL, e9, bh, bj, bR, bz, ca, H8, kT, nm, seval]
   refine ktree (args0 := [.sl (aa eI ([] : List Int)) (List.length ([] : List Int)) false]) (by first | (simp only [nrm, ar, mqr] <;> rfl) | rfl) (by simp only [tre, aw, mqr, Bool.and_self]) (SG _ _ iR) ?_
   refine bt (fun tm => tm 43 = .lit (.int .i64 yn) ∧ True) (by refine ⟨?_, trivial⟩ <;> first | (simp only [ua, cL, iL, e9, bh, bj, bR, bz, ca, H8, kT, nm, seval] <;> rfl) | rfl) ?_
   rintro tm ⟨j8, _⟩
   try simp only [vz, mq, mqm, tyf, mqt, g7, iL, H8, kT, j8, nm, seval]
   refine d4 (x := (.lit (.int .i64 yn))) (by first | (simp only [Tryz.results152, resV, resL, aJ, dU, dT, uw, cr, tyf, mqt, g7, iL, H8, kT, nm, seval] <;> rfl) | rfl) ?_
   obtain rfl := kF _ h
   refine dW ?_ ?_
   ·simp only [tre, aw, mqr, Bool.and_self]
   ·first | (simp only [outV, uw, fu, mA, lU, cr, tyf, mqt, nrm, ar, g7, iL, H8, kT, j8, nm, seval] <;> rfl) | rfl
  | cons e6 p6 =>
   have jg : (decide (bV < (List.length an.marks : Int))) = true := fk cN eE
   have mH := eg cN eE
   have lZ := fm cN eE g7
   simp only [pS, hs, reduceCtorEq] at h
   cases nn : (e6.row != bu)
   ·simp only [nn, hs] at h
    simp only [vz, mq, mqm, tyf, mqt, g7, iL, e9, bh, bj, bR, bz, ca, H8, jg, (bk mH), lZ, nn, nm, seval]
    refine uE (fun tm => tm 1 = .lit (.int .i64 bu) ∧ tm 2 = .ptr 0 0 ∧ tm 5 = .lit (.slice none 0 0) ∧ tm 6 = .lit (.int .i64 bV) ∧ tm 7 = .ptr (eD + 4) 0 ∧ tm 9 = .sl (aa cGlm an.marks) (List.length an.marks) false ∧ tm 10 = .lit (.int .i64 (List.length an.marks : Int)) ∧ tm 11 = .lit (.int .i64 bV) ∧ True) (by refine ⟨e9, bh, bz, ?_, ?_, bj, bR, ca, trivial⟩ <;> first | (simp only [ua, cL, iL, e9, bh, bj, bR, bz, ca, H8, jg, lZ, nn, nm, seval] <;> rfl) | rfl) ?_
    rintro tm ⟨eV, eY, fE, iG, lC, lW, qU, qV, _⟩
    obtain ⟨oB, np, h⟩ := optI h iC
    try simp only [hs] at h
    obtain ⟨qz, Xx, h⟩ := optI h iC
    try simp only [hs] at h
    simp only [vz, mq, mqm, tyf, mqt, g7, iL, H8, jg, (bk mH), lZ, nn, eV, eY, fE, iG, lC, lW, qU, qV, (aD np), nm, seval]
    refine dktree (args0 := [.agg (cGld an), .lit (.int .i64 bV)]) (by first | (simp only [nrm, ar, mqr] <;> rfl) | rfl) (by simp only [tre, aw, mqr, Bool.and_self]) (SF _ _ _ Xx) ?_
    refine bt (fun tm => tm 1 = .lit (.int .i64 bu) ∧ tm 2 = .ptr 0 0 ∧ tm 7 = .ptr (eD + 4) 0 ∧ tm 9 = .sl (aa cGlm an.marks) (List.length an.marks) false ∧ tm 10 = .lit (.int .i64 (List.length an.marks : Int)) ∧ tm 11 = .lit (.int .i64 bV) ∧ tm 20 = .lit (.slice none 0 0) ∧ tm 27 = .lit (.int .i64 oB) ∧ tm 30 = .lit (.int .i64 qz) ∧ True) (by refine ⟨eV, eY, lC, lW, qU, qV, ?_, ?_, ?_, trivial⟩ <;> first | (simp only [ua, cL, iL, H8, jg, lZ, nn, eV, eY, fE, iG, lC, lW, qU, qV, nm, seval] <;> rfl) | rfl) ?_
    rintro tm ⟨fF, fG, dX, cv, cz, bF, cj, cg, bZ, _⟩
    cases tD : (aB 8 (List.length (([] : List Int) ++ [oB, qz])))
    ·simp only [tD, hs] at h
     exact absurd h iC
    simp only [tD, hs] at h
    simp only [vz, mq, mqm, tyf, mqt, g7, iL, H8, jg, (bk mH), lZ, nn, (aD np), fF, fG, dX, cv, cz, bF, cj, cg, bZ, tD, nm, seval]
    refine oM (w := 1) (enc := eI) (ys := ([oB, qz])) (fZ := (some 3)) (fun _ => rfl) pz py Tryz.underlying22 (by first | rfl | assumption | (simp only [br, bW, jE, iL, H8, nm, seval] <;> rfl) | (simp only [br, bW, fX, fJ, fT, fU, tyf, mqt, g7, iL, H8, jg, (bk mH), lZ, nn, (aD np), fF, fG, dX, cv, cz, bF, cj, cg, bZ, tD, nm, seval]; done)) (Nat.zero_lt_succ _) tD ?_
    simp only [vz, mq, mqm, tyf, mqt, g7, iL, H8, jg, (bk mH), lZ, nn, (aD np), fF, fG, dX, cv, cz, bF, cj, cg, bZ, tD, nm, seval]
    refine nv ⟨?_, ?_⟩
    ·simp only [n6, n5, ic, ny, and_true, true_and]
     repeat' (first | exact trivial | refine And.intro ?_ ?_ | rw [ic] | rw [nz] | exact Or.inl (by decide +kernel) | exact Or.inl (by dsimp only; decide +kernel) | (refine Or.inr ⟨?_, ?_⟩ <;> simp; done) | (refine Or.inr ⟨?_, ?_⟩ <;> simp <;> omega) | (refine Or.inr ⟨?_, ?_⟩ <;> simp [VEff.wr] <;> omega))
    cases D5 : (e6.hyphen)
    ·simp only [D5, hs] at h
     have nD := And.intro g7 (And.intro iL (And.intro H8 (And.intro jg (And.intro lZ (And.intro nn (And.intro tD D5))))))
     simp only [vz, mq, mqm, tyf, mqt, nD, (bk mH), (aD np), fF, fG, dX, cv, cz, bF, cj, cg, bZ, nm, seval]
     exact ⟨List.length p6, Nat.lt_succ_self _, by rw [iw]; refine ⟨p6, bV + 1, (([] : List Int) ++ [oB, qz]), .ref (eD + 23) 0 (List.length (([] : List Int) ++ [oB, qz])) 1 (List.length (([] : List Int) ++ [oB, qz])), rfl, Int.le_trans cN (Int.le_add_one (Int.le_refl _)), bS cN eE, rfl, (show 7 ≤ eD + 29 by omega), ?_, fF, fG, cv, cz, ?_, ?_, Or.inl ⟨eD + 23, (some 3), rfl, (by first | omega | (simp only [nm, seval]; done) | (simp only [nm, seval]; omega)), (by first | omega | (intro hh; simp only [nD, reduceCtorEq] at hh)), ?_⟩, (by first | exact h | (simp only [nD]; exact h))⟩ <;> first | (simp only [ua, cL, nD, fF, fG, dX, cv, cz, bF, cj, cg, bZ, nm, seval] <;> rfl) | rfl | (simp only [ua, cL, tyf, mqt, nD, fF, fG, dX, cv, cz, bF, cj, cg, bZ, nm, seval] <;> rfl)⟩
    simp only [D5, hs] at h
    have qW := And.intro g7 (And.intro iL (And.intro H8 (And.intro jg (And.intro lZ (And.intro nn (And.intro tD D5))))))
    cases vB : (aB 8 (List.length ((([] : List Int) ++ [oB, qz]) ++ [an.ls.Hyphen])))
    ·simp only [vB, hs] at h
     exact absurd h iC
    simp only [vB, hs] at h
    simp only [vz, mq, mqm, tyf, mqt, qW, (bk mH), (aD np), fF, fG, dX, cv, cz, bF, cj, cg, bZ, vB, nm, seval]
    refine k_app (w := 1) (enc := eI) (xs := (([] : List Int) ++ [oB, qz])) (ys := ([an.ls.Hyphen])) (el := (some 3)) (fZ := (some 3)) (fun _ => rfl) pz py Tryz.underlying22 (by first | rfl | assumption | (simp only [br, bW, jE, qW, nm, seval] <;> rfl) | (simp only [br, bW, fX, fJ, fT, fU, tyf, mqt, qW, (bk mH), (aD np), fF, fG, dX, cv, cz, bF, cj, cg, bZ, vB, nm, seval]; done)) (by first | rfl | assumption | (simp only [br, bW, jE, qW, nm, seval] <;> rfl) | (simp only [br, bW, fX, fJ, fT, fU, tyf, mqt, qW, (bk mH), (aD np), fF, fG, dX, cv, cz, bF, cj, cg, bZ, vB, nm, seval]; done)) (Nat.zero_lt_succ _) vB ?_
    simp only [vz, mq, mqm, tyf, mqt, qW, (bk mH), (aD np), fF, fG, dX, cv, cz, bF, cj, cg, bZ, vB, nm, seval]
    exact ⟨List.length p6, Nat.lt_succ_self _, by rw [iw]; refine ⟨p6, bV + 1, ((([] : List Int) ++ [oB, qz]) ++ [an.ls.Hyphen]), .ref (eD + 32) 0 (List.length ((([] : List Int) ++ [oB, qz]) ++ [an.ls.Hyphen])) 1 (List.length ((([] : List Int) ++ [oB, qz]) ++ [an.ls.Hyphen])), rfl, Int.le_trans cN (Int.le_add_one (Int.le_refl _)), bS cN eE, rfl, (show 7 ≤ eD + 36 by omega), ?_, fF, fG, cv, cz, ?_, ?_, Or.inl ⟨eD + 32, (sameEl (some 3) 3), rfl, (by first | omega | (simp only [nm, seval]; done) | (simp only [nm, seval]; omega)), (by first | omega | (intro hh; simp only [qW, reduceCtorEq] at hh)), ?_⟩, (by first | exact h | (simp only [qW]; exact h))⟩ <;> first | (simp only [ua, cL, qW, fF, fG, dX, cv, cz, bF, cj, cg, bZ, nm, seval] <;> rfl) | rfl | (simp only [ua, cL, tyf, mqt, qW, fF, fG, dX, cv, cz, bF, cj, cg, bZ, nm, seval] <;> rfl)⟩
   simp only [nn, hs] at h
   simp only [vz, mq, mqm, tyf, mqt, g7, iL, e9, bh, bj, bR, bz, ca, H8, jg, (bk mH), lZ, nn, nm, seval]
   exact ⟨List.length p6, Nat.lt_succ_self _, by rw [iw]; refine ⟨p6, bV + 1, ([] : List Int), .lit (.slice none 0 0), rfl, Int.le_trans cN (Int.le_add_one (Int.le_refl _)), bS cN eE, rfl, (show 7 ≤ eD + 13 by omega), ?_, e9, bh, bj, bR, ?_, ?_, Or.inr ⟨rfl, rfl⟩, (by first | exact h | (simp only [jg, nn]; exact h))⟩ <;> first | (simp only [ua, cL, iL, e9, bh, bj, bR, bz, ca, H8, jg, lZ, nn, nm, seval] <;> rfl) | rfl⟩

def CU (an : Gld) (bu : Int) : Option ((Unit) ⊕ (Unit)) := Option.bind (zK an bu) (fun r1 => cond (decide (r1 > an.ls.Wide)) (some (.inr ())) (some (.inl ())))
theorem SI (an : Gld) (bu : Int) (R : (Unit) ⊕ (Unit)) (h : CU an bu = some R) : ad Tryz.prog G0 122 [.agg (cGld an), .lit (.int .i64 bu)] (presB R (fun r => .tree (.tup [])) (fun e => .panic (.ifc 149 (.agg [])))) := by
 refine ad.runR mixed Tryz.call122 Tryz.func122 rfl (by simp [Tryz.ntmps122]; kernel_rfl) ?_
 obtain ⟨KF, h, kF, kN⟩ := dZ h
 simp only [CU] at h
 simp only [vz, mq, mqm, tyf, mqt, nm, seval]
 refine mO (fun tm => tm 1 = .lit (.int .i64 bu) ∧ tm 2 = .ptr 0 0 ∧ True) (by refine ⟨?_, ?_, trivial⟩ <;> first | (simp only [ua, cL, nm, seval] <;> rfl) | rfl) ?_
 rintro tm ⟨e2, e3, _⟩
 obtain ⟨r4, o5, h⟩ := optI h kN
 try simp only [hs] at h
 simp only [vz, mq, mqm, tyf, mqt, e2, e3, nm, seval]
 refine dktree (args0 := [.agg (cGld an), .lit (.int .i64 bu)]) (by first | (simp only [nrm, ar, mqr] <;> rfl) | rfl) (by simp only [tre, aw, mqr, Bool.and_self]) (Xv _ _ _ o5) ?_
 refine bt (fun tm => tm 2 = .ptr 0 0 ∧ tm 6 = .lit (.int .i64 r4) ∧ True) (by refine ⟨e3, ?_, trivial⟩ <;> first | (simp only [ua, cL, e2, e3, nm, seval] <;> rfl) | rfl) ?_
 rintro tm ⟨e6, e7, _⟩
 cases d8 : (decide (r4 > an.ls.Wide))
 ·simp only [d8, hs] at h
  try simp only [vz, mq, mqm, tyf, mqt, e6, e7, d8, nm, seval]
  refine Gk (x := (.tup [])) (by first | (simp only [Tryz.results122, resV, resL, aJ, dU, dT, uw, cr, tyf, mqt, d8, nm, seval] <;> rfl) | rfl) ?_
  obtain rfl := kF _ h
  refine dW ?_ ?_
  ·simp only [tre, aw, mqr, Bool.and_self]
  ·first | (simp only [outV, uw, fu, mA, lU, cr, tyf, mqt, nrm, ar, e6, e7, d8, nm, seval] <;> rfl) | rfl
 simp only [d8, hs] at h
 simp only [vz, mq, mqm, tyf, mqt, e6, e7, d8, nm, seval]
 refine Gl ?_
 obtain rfl := kF _ h
 refine Gs ?_ ?_
 ·simp only [tre, aw, GB, Bool.and_self]
 ·first | (simp only [outV, uw, fu, mA, lU, G9, GA, cr, tyf, mqt, nrm, ar, e6, e7, d8, nm, seval] <;> rfl) | rfl
def wB (an : Gld) : List GLe → Int → Option (LOut (Bool) (Unit))
 | [], vC => some (.go ())
 | e0 :: p0, vC => Option.bind (CU an vC) (fun r1 => sumB r1 (fun u2 => wB an p0 (vC + 1)) (fun w3 => some (.ret false)))
def uy (an : Gld) : Option (Bool) := cond (lenOk an.lx.Ends) (lbind (wB an an.lx.Ends 0) (fun r5 => some r5) (fun c4 => some (decide ((List.length an.lx.Ends : Int) ≤ an.ls.Rows))) (fun _ _ => none)) none
theorem Xy (an : Gld) (R : Bool) (h : uy an = some R) : ad Tryz.prog G0 83 [.agg (cGld an)] (.tree (.lit (.bool R))) := by
 refine ad.runR mixed Tryz.call83 Tryz.func83 rfl (by simp [Tryz.ntmps83]; kernel_rfl) ?_
 obtain ⟨KF, h, kF, kN⟩ := dZ h
 simp only [uy] at h
 cases g7 : (lenOk an.lx.Ends)
 ·simp only [g7, hs] at h
  exact absurd h kN
 simp only [g7, hs] at h
 simp only [vz, mq, mqm, tyf, mqt, g7, nm, seval]
 obtain ⟨K6, h, v5, s5, OA, iC⟩ := gu h kN
 obtain ⟨f6, v7, h⟩ := call2 h
 obtain ⟨I6, iw⟩ : ∃ I : Nat → St → Prop, I = (fun m st => ∃ (p6 : List GLe) (jv : Int), m = List.length p6 ∧ 0 ≤ jv ∧ List.drop (Int.toNat jv) an.lx.Ends = p6 ∧ st.df = [.fn (.func 121) [.ptr 1 0] []] ∧ 9 ≤ st.nx ∧ st.H 0 = some (.cells (some 93) (cGld an)) ∧ st.H 1 = some (.cells (some 4) ([.lit (.bool false)])) ∧ st.tm 1 = .ptr 0 0 ∧ st.tm 2 = .ptr 1 0 ∧ st.tm 8 = .lit (.int .i64 (List.length an.lx.Ends : Int)) ∧ st.tm 9 = .lit (.int .i64 jv) ∧ K6 (f6 p6 jv)) := ⟨_, rfl⟩
 refine loopK mixed (by kernel_rfl) I6 (List.length an.lx.Ends) (by rw [iw]; refine ⟨an.lx.Ends, 0, rfl, Int.le_refl _, rfl, rfl, (show 9 ≤ 9 by omega), ?_, ?_, ?_, ?_, ?_, ?_, h⟩ <;> first | (simp only [ua, cL, nm, seval] <;> rfl) | rfl) ?_
 rintro m ⟨tm, H, eD, df⟩ hinv
 rw [iw] at hinv
 obtain ⟨p6, jv, rfl, cN, eE, hdf, oS, H8, H9, bh, bj, bR, bz, h⟩ := hinv
 simp only at hdf oS H8 H9 bh bj bR bz
 have cO := gv (m := 9) (b := eD) (by omega)
 subst hdf v7
 cases p6 with
 | nil =>
  have cI : (decide (jv < (List.length an.lx.Ends : Int))) = false := fj cN eE
  simp only [wB, hs, reduceCtorEq] at h
  replace h := s5 _ h
  try dsimp only at h
  try simp only [hs] at h
  try simp only [vz, mq, mqm, tyf, mqt, g7, cO, bh, bj, bR, bz, H8, H9, cI, nm, seval]
  refine Gm ?_
  refine VDeferred.run mixed Tryz.call121 Tryz.func121 rfl (by kernel_rfl) ?_
  try simp only [vz, mq, mqm, tyf, mqt, g7, cO, H8, H9, cI, nm, seval]
  refine QC Tryz.results121 ?_
  refine Gp (x := (.lit (.bool (decide ((List.length an.lx.Ends : Int) ≤ an.ls.Rows))))) (by first | (simp only [Tryz.results83, resV, resL, aJ, dU, dT, uw, cr, tyf, mqt, g7, cO, H8, H9, cI, bh, bj, bR, bz, nm, seval] <;> rfl) | rfl) ?_
  obtain rfl := kF _ h
  refine dW ?_ ?_
  ·simp only [tre, aw, mqr, Bool.and_self]
  ·first | (simp only [outV, uw, fu, mA, lU, cr, tyf, mqt, nrm, ar, g7, cO, H8, H9, cI, bh, bj, bR, bz, nm, seval] <;> rfl) | rfl
 | cons e6 p6 =>
  have gY : (decide (jv < (List.length an.lx.Ends : Int))) = true := fk cN eE
  have qf := eg cN eE
  have s7 := fm cN eE g7
  simp only [wB, hs, reduceCtorEq] at h
  obtain ⟨iy, iQ, h⟩ := optI h iC
  try simp only [hs] at h
  cases iy with
  | inl Yp =>
   simp only [hs] at h
   simp only [vz, mq, mqm, tyf, mqt, g7, cO, bh, bj, bR, bz, H8, H9, gY, (aG qf), s7, nm, seval]
   refine ktree (args0 := [.agg (cGld an), .lit (.int .i64 jv)]) (by first | (simp only [nrm, ar, mqr] <;> rfl) | rfl) (by simp only [tre, aw, mqr, Bool.and_self]) (SI _ _ _ iQ) ?_
   refine bt (fun tm => tm 1 = .ptr 0 0 ∧ tm 2 = .ptr 1 0 ∧ tm 8 = .lit (.int .i64 (List.length an.lx.Ends : Int)) ∧ tm 9 = .lit (.int .i64 jv) ∧ True) (by refine ⟨bh, bj, bR, bz, trivial⟩ <;> first | (simp only [ua, cL, cO, bh, bj, bR, bz, H8, H9, gY, s7, nm, seval] <;> rfl) | rfl) ?_
   rintro tm ⟨dz, ej, eW, dI, _⟩
   simp only [vz, mq, mqm, tyf, mqt, g7, cO, H8, H9, gY, (aG qf), s7, dz, ej, eW, dI, nm, seval]
   exact ⟨List.length p6, Nat.lt_succ_self _, by rw [iw]; refine ⟨p6, jv + 1, rfl, Int.le_trans cN (Int.le_add_one (Int.le_refl _)), bS cN eE, rfl, (show 9 ≤ eD + 8 by omega), ?_, ?_, dz, ej, eW, ?_, (by first | exact h | (simp only [gY]; exact h))⟩ <;> first | (simp only [ua, cL, cO, H8, H9, gY, s7, dz, ej, eW, dI, nm, seval] <;> rfl) | rfl⟩
  | inr tw =>
   simp only [hs] at h
   simp only [vz, mq, mqm, tyf, mqt, g7, cO, bh, bj, bR, bz, H8, H9, gY, (aG qf), s7, nm, seval]
   refine kpan (args0 := [.agg (cGld an), .lit (.int .i64 jv)]) (by first | (simp only [nrm, ar, mqr] <;> rfl) | rfl) (by simp only [tre, aw, mqr, Bool.and_self]) (SI _ _ _ iQ) ?_
   try simp only [vz, mq, mqm, tyf, mqt, g7, cO, bh, bj, bR, bz, H8, H9, gY, (aG qf), s7, nm, seval]
   refine Gn ?_
   refine VDeferred.run mixed Tryz.call121 Tryz.func121 rfl (by kernel_rfl) ?_
   try simp only [vz, mq, mqm, tyf, mqt, g7, cO, H8, H9, gY, (aG qf), s7, nm, seval]
   refine QC Tryz.results121 ?_
   refine Gq (x := (.lit (.bool false))) (by first | (simp only [Tryz.results83, resV, resL, aJ, dU, dT, uw, cr, tyf, mqt, g7, cO, H8, H9, gY, (aG qf), s7, bh, bj, bR, bz, nm, seval] <;> rfl) | rfl) ?_
   replace h := v5 _ h
   try dsimp only at h
   obtain rfl := kF _ h
   refine dW ?_ ?_
   ·simp only [tre, aw, mqr, Bool.and_self]
   ·first | (simp only [outV, uw, fu, mA, lU, cr, tyf, mqt, nrm, ar, g7, cO, H8, H9, gY, (aG qf), s7, bh, bj, bR, bz, nm, seval] <;> rfl) | rfl
abbrev setS (l : Gld) (i : Int) : Gld := Gld.mk l.ls l.lx i l.spaces l.marks
def wLoop (l : Gld) : Nat → Nat → Option Gld → Option (Option Gld)
 | 0, _, acc => some acc
 | k + 1, i, acc => Option.bind (uy (setS l (i : Int))) fun b => cond b (wLoop l k (i + 1) (some (setS l (i : Int)))) (some acc)
def wI (l : Gld) : Option (Option Gld) := wLoop l 11 0 none
def zlC : List VV := [.lit (.slice none 0 0), .lit (.slice none 0 0), .lit (.int .i64 0), .lit (.int .i64 0), .lit (.int .i64 0), .lit (.int .i64 0), .lit (.int .i64 0), .lit (.slice none 0 0), .lit (.int .i64 0), .lit (.int .i64 0), .lit (.slice none 0 0), .lit (.slice none 0 0), .lit (.int .i64 0), .lit (.map none), .lit (.slice none 0 0)]
def zlN : List VV := [.sl [] 0 false, .sl [] 0 false, .lit (.int .i64 0), .lit (.int .i64 0), .lit (.int .i64 0), .lit (.int .i64 0), .lit (.int .i64 0), .sl [] 0 false, .lit (.int .i64 0), .lit (.int .i64 0), .sl [] 0 false, .sl [] 0 false, .lit (.int .i64 0), .lit (.map none), .sl [] 0 false]
def accC : Option Gld → List VV
 | none => zlC
 | some l => cGld l
def wV : Option Gld → VV
 | none => .tup [.agg zlN, .lit (.bool false)]
 | some l => .tup [.agg (cGld l), .lit (.bool true)]
theorem D6 : normV (.lit (.map none)) = .lit (.map none) := rfl
theorem Rs (l : Gld) (R : Option Gld) (h : wI l = some R) : ad Tryz.prog G0 84 [.agg (cGld l)] (.tree (wV R)) := by
 refine ad.runR mixed Tryz.call84 Tryz.func84 rfl (by simp [Tryz.ntmps84]; kernel_rfl) ?_
 simp only [vz, @iq, mq, mqm, tyf, mqt, nm, seval]
 obtain ⟨J, hJ⟩ : ∃ J : Nat → St → Prop, J = (fun m st => ∃ (i : Nat) (s : Int) (acc : Option Gld), i + m = 11 ∧ st.df = [] ∧ 8 ≤ st.nx ∧ st.H 0 = some (.cells (some 93) (cGld (setS l s))) ∧ st.H 1 = some (.cells (some 93) zlC) ∧ st.H 4 = some (.cells (some 93) (accC acc)) ∧
   st.tm 1 = .ptr 0 0 ∧ st.tm 2 = .ptr 1 0 ∧ st.tm 4 = .ptr 4 0 ∧ st.tm 5 = .lit (.bool acc.isSome) ∧ st.tm 8 = .lit (.int .i64 (i : Int)) ∧ wLoop l m i acc = some R) := ⟨_, rfl⟩
 refine loopK mixed (by kernel_rfl) J 11 (by
  rw [hJ]
  refine ⟨0, l.stretch, none, rfl, rfl, (show 8 ≤ 8 by omega), ?_, ?_, ?_, ?_, ?_, ?_, ?_, ?_, h⟩ <;> first | rfl | (simp only [ua, seval, tyf] <;> rfl)) ?_
 rintro m ⟨tm, H, nx, df⟩ hinv
 rw [hJ] at hinv
 obtain ⟨i, s, acc, hi, hdf, hnx, H0, H1, H4, e1, e2, e4, e5, e8, h⟩ := hinv
 simp only at hdf hnx H0 H1 H4 e1 e2 e4 e5 e8
 subst hdf
 have fin : ∀ (tm : Nat → VV) (H : Nat → Option VObj) (nx : Nat) (acc : Option Gld), 8 ≤ nx → tm 2 = .ptr 1 0 → tm 4 = .ptr 4 0 → tm 5 = .lit (.bool acc.isSome) → H 1 = some (.cells (some 93) zlC) → H 4 = some (.cells (some 93) (accC acc)) → acc = R → True := fun _ _ _ _ _ _ _ _ _ _ _ => trivial
 cases m with
 | zero =>
  have rQ : decide ((i : Int) < 11) = false := by simp; omega
  simp only [wLoop, Option.some.injEq] at h
  subst h
  cases acc with
  | none =>
   simp only [accC, zlC] at H4
   simp only [Option.isSome_none] at e5
   simp only [vz, @iq, mq, mqm, tyf, mqt, e1, e2, e4, e5, e8, rQ, H0, H1, H4, zlC, nm, seval]
   refine d4 (x := .tup [.agg zlC, .lit (.bool false)]) (by simp only [Tryz.results84, resV, resL, aJ, dU, dT, uw, cr, tyf, mqt, e1, e2, e4, e5, H0, H1, H4, zlC, nm, seval] <;> rfl) ?_
   refine dW (by simp only [wV, zlN, tre, aw, mqr, Bool.and_self]) ?_
   simp only [outV, zlC, zlN, wV, nrm, ar, mqr, D6, seval, List.map_cons, List.map_nil]
  | some y =>
   simp only [accC] at H4
   simp only [Option.isSome_some] at e5
   simp only [vz, @iq, mq, mqm, tyf, mqt, e1, e2, e4, e5, e8, rQ, H0, H1, H4, zlC, nm, seval]
   refine d4 (x := .tup [.agg (cGld y), .lit (.bool true)]) (by simp only [Tryz.results84, resV, resL, aJ, dU, dT, uw, cr, tyf, mqt, e1, e2, e4, e5, H0, H1, H4, zlC, nm, seval] <;> rfl) ?_
   refine dW (by simp only [wV, tre, aw, mqr, Bool.and_self]) ?_
   simp only [outV, wV, nrm, ar, mqr, seval, List.map_cons, List.map_nil]
 | succ m =>
  have rQ : decide ((i : Int) < 11) = true := by simp; omega
  have hw : i64.wrap ((i : Int) + 1) = ((i + 1 : Nat) : Int) := by rw [IntWalk.i64_in _ (by omega)]; simp
  rw [wLoop] at h
  rcases ob : uy (setS l (i : Int)) with _ | b
  ·rw [ob] at h; cases h
  rw [ob, Option.bind_some] at h
  simp only [vz, @iq, mq, mqm, tyf, mqt, e1, e2, e4, e5, e8, rQ, H0, H1, H4, nm, seval]
  refine ktree (args0 := [.agg (cGld (setS l (i : Int)))]) (by first | (simp only [nrm, ar, mqr] <;> rfl) | rfl) (by simp only [tre, aw, mqr, Bool.and_self]) (Xy _ _ ob) ?_
  cases b with
  | false =>
   simp only [cond_false, Option.some.injEq] at h
   subst h
   cases acc with
   | none =>
    simp only [accC, zlC] at H4
    simp only [Option.isSome_none] at e5
    simp only [vz, @iq, mq, mqm, tyf, mqt, e1, e2, e4, e5, e8, rQ, H0, H1, H4, zlC, nm, seval]
    refine d4 (x := .tup [.agg zlC, .lit (.bool false)]) (by simp only [Tryz.results84, resV, resL, aJ, dU, dT, uw, cr, tyf, mqt, e1, e2, e4, e5, H0, H1, H4, zlC, nm, seval] <;> rfl) ?_
    refine dW (by simp only [wV, zlN, tre, aw, mqr, Bool.and_self]) ?_
    simp only [outV, zlC, zlN, wV, nrm, ar, mqr, D6, seval, List.map_cons, List.map_nil]
   | some y =>
    simp only [accC] at H4
    simp only [Option.isSome_some] at e5
    simp only [vz, @iq, mq, mqm, tyf, mqt, e1, e2, e4, e5, e8, rQ, H0, H1, H4, zlC, nm, seval]
    refine d4 (x := .tup [.agg (cGld y), .lit (.bool true)]) (by simp only [Tryz.results84, resV, resL, aJ, dU, dT, uw, cr, tyf, mqt, e1, e2, e4, e5, H0, H1, H4, zlC, nm, seval] <;> rfl) ?_
    refine dW (by simp only [wV, tre, aw, mqr, Bool.and_self]) ?_
    simp only [outV, wV, nrm, ar, mqr, seval, List.map_cons, List.map_nil]
  | true =>
   simp only [cond_true] at h
   have hl : (15 ≤ (accC acc).length) = True := by cases acc <;> simp [accC, zlC, yP]
   have hd : (accC acc).drop 15 = [] := by cases acc <;> rfl
   simp only [vz, @iq, mq, mqm, tyf, mqt, e1, e2, e4, e5, e8, rQ, H0, H1, H4, hw, hl, hd, nm, seval]
   rw [hJ]
   exact ⟨m, Nat.lt_succ_self _, i + 1, (i : Int), some (setS l (i : Int)), by omega, rfl, Nat.le_trans hnx (Nat.le_add_right _ _), by simp only [ua, seval, tyf], by simp only [ua, seval, H1], by simp only [ua, seval, tyf, accC], by simp only [ua, seval, e1], by simp only [ua, seval, e2], by simp only [ua, seval, e4], by simp only [ua, seval] <;> rfl, by simp only [ua, seval], h⟩
end Go.V
end
