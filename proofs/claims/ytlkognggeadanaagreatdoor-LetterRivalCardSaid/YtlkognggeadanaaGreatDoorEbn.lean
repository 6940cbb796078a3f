/- Part of a proof. -/
import Derived.Test.YtlkognggeadanaaGreatDoorEbm
set_option linter.all false
set_option maxRecDepth 4000
set_option maxHeartbeats 40000000
section
namespace Go.V
open Go Go.Proofs IntKind
set_option linter.defProp false
abbrev qZa := @List.mem_cons_of_mem
abbrev qZb := @List.mem_cons_self
abbrev qZc := @Nat.lt_of_lt_of_le
abbrev qZd := @Nat.le_add_right
abbrev qZe := @Nat.le_refl
abbrev qZf := @Nat.le_trans
def wi (k : Int) (x : GSpan) : Int := x.Low + Int.tdiv ((x.High - x.Low) * k) 10
theorem wi_b {k : Int} {x : GSpan} (h : 0 ≤ x.Low ∧ x.Low ≤ x.High ∧ x.High ≤ 20) (h0 : 0 ≤ k) (h1 : k ≤ 10) : x.Low ≤ wi k x ∧ wi k x ≤ x.High ∧ 0 ≤ (x.High - x.Low) * k ∧ (x.High - x.Low) * k ≤ 200 := by
 have hm := mulR (a := x.High - x.Low) (A := 20) (b := k) (B := 10) (by omega) (by omega) h0 h1
 have h2 : (x.High - x.Low) * k ≤ (x.High - x.Low) * 10 := Int.mul_le_mul_of_nonneg_left h1 (by omega)
 have hd := Int.tdiv_eq_ediv_of_nonneg (b := 10) hm.1
 unfold wi
 rw [hd]
 omega
theorem uv {k k' : Int} {x : GSpan} (h : 0 ≤ x.Low ∧ x.Low ≤ x.High ∧ x.High ≤ 20) (h0 : 0 ≤ k) (hk : k ≤ k') (h1 : k' ≤ 10) : wi k x ≤ wi k' x := by
 have h2 : (x.High - x.Low) * k ≤ (x.High - x.Low) * k' := Int.mul_le_mul_of_nonneg_left hk (by omega)
 have a := (wi_b h h0 (by omega)).2.2.1
 unfold wi
 rw [Int.tdiv_eq_ediv_of_nonneg a, Int.tdiv_eq_ediv_of_nonneg (by omega)]
 omega
theorem Jr (l : Gld) (x : GSpan) (h : 0 ≤ x.Low ∧ x.Low ≤ x.High ∧ x.High ≤ 20) (h0 : 0 ≤ l.stretch) (h1 : l.stretch ≤ 10) : th l x = some (wi l.stretch x) := by
 have hb := wi_b h h0 h1
 unfold th wi
 unfold wi at hb
 rw [kf (n := x.High - x.Low) (by omega) (by omega), kf (n := (x.High - x.Low) * l.stretch) (by omega) (by omega), kf (n := Int.tdiv _ 10) (by omega) (by omega), kf (by omega) (by omega)]
def spP (s : GLs) (a b : Int) : GSpan := (lastP a b s.Pairs none).getD s.Other
theorem Rf {a b : Int} : ∀ (ps : List GLp) (o : Option GSpan) (v : GSpan), lastP a b ps o = some v → o = some v ∨ ∃ p ∈ ps, p.Left = a ∧ p.Right = b ∧ p.Space = v
 | [], o, v, h => .inl h
 | p :: ps, o, v, h => by
  rcases Rf ps _ v h with h | ⟨q, h1, h2⟩
  ·split at h
   ·rename_i hc
    simp only [Option.some.injEq] at h
    exact .inr ⟨p, qZb .., hc.1.symm, hc.2.symm, h⟩
   ·exact .inl h
  ·exact .inr ⟨q, qZa _ h1, h2⟩
theorem spP_b {s : GLs} (h : Sh s) (a b : Int) : 0 ≤ (spP s a b).Low ∧ (spP s a b).Low ≤ (spP s a b).High ∧ (spP s a b).High ≤ 20 := by
 unfold spP
 cases hl : lastP a b s.Pairs none with
 | none => have := h.other; simp only [Option.getD_none]; omega
 | some v =>
  rcases Rf _ _ _ hl with hh | ⟨p, h1, _, _, rfl⟩
  ·cases hh
  ·have := h.pair p h1
   simp only [Option.getD_some]; omega
def spF (s : GLs) (k : Int) (m : Glm) : Option Glm → Int
 | none => cond m.hyphen (wi k s.Other) 0
 | some n => cond m.hyphen (wi k s.Other) (if n.row = m.row then (if n.word = m.word then wi k (spP s m.sign n.sign) else wi k s.Gap) else 0)
theorem spF_b {s : GLs} (h : Sh s) {k : Int} (h0 : 0 ≤ k) (h1 : k ≤ 10) (m : Glm) (n : Option Glm) : 0 ≤ spF s k m n ∧ spF s k m n ≤ 20 := by
 have ho := h.other
 have hg := h.gap
 have a := wi_b (x := s.Other) (by omega) h0 h1
 have b := wi_b (x := s.Gap) (by omega) h0 h1
 unfold spF
 cases n with
 | none => cases m.hyphen <;> simp only [cond_true, cond_false] <;> omega
 | some n =>
  have hc := spP_b h m.sign n.sign
  have c := wi_b hc h0 h1
  simp only
  cases m.hyphen with
  | true => simp only [cond_true]; omega
  | false =>
   simp only [cond_false]
   split
   ·split <;> omega
   ·omega
theorem Js {s : GLs} (h : Sh s) {k k' : Int} (h0 : 0 ≤ k) (hk : k ≤ k') (h1 : k' ≤ 10) (m : Glm) (n : Option Glm) : spF s k m n ≤ spF s k' m n := by
 have ho := h.other
 have hg := h.gap
 have a := uv (x := s.Other) (by omega) h0 hk h1
 have b := uv (x := s.Gap) (by omega) h0 hk h1
 unfold spF
 cases n with
 | none => cases m.hyphen <;> simp only [cond_true, cond_false] <;> omega
 | some n =>
  have c := uv (spP_b h m.sign n.sign) h0 hk h1
  simp only
  cases m.hyphen with
  | true => simp only [cond_true]; omega
  | false =>
   simp only [cond_false]
   split
   ·split <;> omega
   ·omega
def wd (s : GLs) (n : Int) : Int := (getI s.Widths n).getD 0
theorem zF {s : GLs} (h : Sh s) {n : Int} (h0 : 0 ≤ n) (h1 : n < s.Widths.length) : getI s.Widths n = some (wd s n) ∧ 1 ≤ wd s n ∧ wd s n ≤ 20 := by
 obtain ⟨x, hx, hm⟩ := Rc h0 h1
 have := h.wid x hm
 unfold wd
 rw [hx]
 exact ⟨rfl, this.1, this.2⟩
def addL (s : GLs) (k r : Int) : List Glm → List Int
 | [] => []
 | m :: ms => (if m.row = r then [wd s m.sign, spF s k m ms.head?] ++ cond m.hyphen [s.Hyphen] [] else []) ++ addL s k r ms
def Marks (s : GLs) (ms : List Glm) : Prop := ∀ m ∈ ms, 0 ≤ m.sign ∧ m.sign < s.Widths.length
theorem zG {s : GLs} (h : Sh s) {k r : Int} (h0 : 0 ≤ k) (h1 : k ≤ 10) : ∀ (ms : List Glm), Marks s ms → (∀ x ∈ addL s k r ms, 0 ≤ x ∧ x ≤ 20) ∧ (addL s k r ms).length ≤ 3 * ms.length
 | [], _ => by simp [addL]
 | m :: ms, hm => by
  obtain ⟨i1, i2⟩ := zG h h0 h1 (r := r) ms fun x hx => hm x (qZa _ hx)
  have hs := hm m (qZb ..)
  have hw := zF h hs.1 hs.2
  have hp := spF_b h h0 h1 m ms.head?
  have hh := h.hyp
  unfold addL
  split
  ·cases m.hyphen with
   | true =>
    simp only [cond_true, List.cons_append, List.nil_append, List.mem_cons, List.length_cons]
    refine ⟨?_, by omega⟩
    rintro x (rfl | rfl | rfl | hx)
    ·omega
    ·omega
    ·omega
    ·exact i1 x hx
   | false =>
    simp only [cond_false, List.append_nil, List.cons_append, List.nil_append, List.mem_cons, List.length_cons]
    refine ⟨?_, by omega⟩
    rintro x (rfl | rfl | hx)
    ·omega
    ·omega
    ·exact i1 x hx
  ·simp only [List.nil_append, List.length_cons]
   exact ⟨i1, by omega⟩
def rowF (s : GLs) (k r : Int) (ms : List Glm) : Int := (addL s k r ms).sum
theorem zH : ∀ (xs : List Int) (i a : Int), (∀ x ∈ xs, 0 ≤ x ∧ x ≤ 20) → 0 ≤ a → a + 20 * xs.length ≤ 1000000 → ux xs i a = some (.go (a + xs.sum))
 | [], _, a, _, _, _ => by simp [ux]
 | x :: xs, i, a, h, h0, h1 => by
  have := h x (qZb ..)
  simp only [List.length_cons] at h1
  simp only [ux]
  rw [kf (by omega) (by omega), zH xs (i + 1) _ (fun y hy => h y (qZa _ hy)) (by omega) (by omega), List.sum_cons, Int.add_assoc]
theorem Jt (xs : List Int) (h : ∀ x ∈ xs, 0 ≤ x ∧ x ≤ 20) (hl : xs.length ≤ 1000) : zI xs = some xs.sum := by
 simp only [zI]
 rw [oJ (by omega), cond_true, zH xs 0 0 h (Int.le_refl _) (by omega), pn, Int.zero_add]
structure LOk (l : Gld) : Prop where
 sh : Sh l.ls
 mp : MapOk l.spaces (fun a b => lastP a b l.ls.Pairs none)
 sg : Marks l.ls l.marks
 nm : l.marks.length ≤ 24
 ne : l.lx.Ends.length ≤ 24
 rw : ∀ j : Int, 0 ≤ j → j < l.lx.Ends.length → ∃ m ∈ l.marks, m.row = j
 k0 : 0 ≤ l.stretch
 k1 : l.stretch ≤ 10
theorem Ju {l : Gld} (h : LOk l) {i : Int} {m : Glm} {ms : List Glm} (h0 : 0 ≤ i) (hd : l.marks.drop i.toNat = m :: ms) : zJ l i = some (spF l.ls l.stretch m ms.head?) := by
 have hg : getI l.marks i = some m := eg h0 hd
 have hlt := yq hg
 have hn := h.nm
 have ho := h.sh.other
 have hgp := h.sh.gap
 have hlen : ms.length + 1 + i.toNat = l.marks.length := by
  have := congrArg List.length hd
  simp only [List.length_drop, List.length_cons] at this
  omega
 simp only [zJ, hg, Option.bind_some, Jr l l.ls.Other (by omega) h.k0 h.k1, Jr l l.ls.Gap (by omega) h.k0 h.k1]
 unfold spF
 rw [kf (by omega) (by omega)]
 cases hh : m.hyphen with
 | true => cases ms <;> rfl
 | false =>
  simp only [cond_false]
  cases ms with
  | nil =>
   have : (i + 1 == (l.marks.length : Int)) = true := by simp only [List.length_nil] at hlen; simp; omega
   rw [this]; rfl
  | cons n ms =>
   have : (i + 1 == (l.marks.length : Int)) = false := by simp only [List.length_cons] at hlen; simp; omega
   have Vc : getI l.marks (i + 1) = some n := eg (by omega) (bS h0 hd)
   rw [this, cond_false, Vc, Option.bind_some]
   simp only [List.head?_cons]
   by_cases hr : n.row = m.row
   ·have : (n.row != m.row) = false := by simp [hr]
    rw [this, cond_false, if_pos hr]
    by_cases hw : n.word = m.word
    ·have : (n.word != m.word) = false := by simp [hw]
     rw [this, cond_false, if_pos hw]
     obtain ⟨m1, m2⟩ := h.mp m.sign n.sign
     replace m1 : mapHas dO l.spaces (Glp.mk m.sign n.sign) = (lastP m.sign n.sign l.ls.Pairs none).isSome := m1
     rw [m1]
     have hb := spP_b h.sh m.sign n.sign
     unfold spP at hb ⊢
     cases hl : lastP m.sign n.sign l.ls.Pairs none with
     | none => rfl
     | some v =>
      rw [hl] at hb
      simp only [Option.getD_some] at hb ⊢
      rw [Option.isSome_some, cond_true, m2 v hl, Jr l v hb h.k0 h.k1, Option.bind_some]
    ·have : (n.word != m.word) = true := by simp [hw]
     rw [this, cond_true, if_neg hw]
   ·have : (n.row != m.row) = true := by simp [hr]
    rw [this, cond_true, if_neg hr]
theorem roomOk8 {n : Nat} (h : n ≤ 1000) : aB 8 n = true := by simp [aB]; omega
theorem rO {l : Gld} (h : LOk l) (r : Int) : ∀ (ms : List Glm) (i : Int) (acc : List Int), 0 ≤ i → l.marks.drop i.toNat = ms → acc.length + 3 * ms.length ≤ 500 → pS l r ms i acc = some (.go (acc ++ addL l.ls l.stretch r ms))
 | [], i, acc, _, _, _ => by simp [pS, addL]
 | m :: ms, i, acc, h0, hd, hn => by
  have hs := h.sg m (by have := Jc (eg h0 hd); exact this)
  have hw := zF h.sh hs.1 hs.2
  simp only [List.length_cons] at hn
  simp only [pS, addL]
  by_cases hr : m.row = r
  ·have : (m.row != r) = false := by simp [hr]
   rw [this, cond_false, hw.1, Option.bind_some, Ju h h0 hd, Option.bind_some, roomOk8 (by simp; omega), cond_true, if_pos hr]
   cases m.hyphen with
   | true =>
    simp only [cond_true]
    rw [roomOk8 (by simp; omega), cond_true, rO h r ms (i + 1) _ (by omega) (bS h0 hd) (by simp; omega)]
    simp
   | false =>
    simp only [cond_false]
    rw [rO h r ms (i + 1) _ (by omega) (bS h0 hd) (by simp; omega)]
    simp
  ·have : (m.row != r) = true := by simp [hr]
   rw [this, cond_true, if_neg hr, rO h r ms (i + 1) acc (by omega) (bS h0 hd) (by omega)]
   simp
theorem Jv {l : Gld} (h : LOk l) (r : Int) : zK l r = some (rowF l.ls l.stretch r l.marks) := by
 have hn := h.nm
 obtain ⟨a1, a2⟩ := zG h.sh h.k0 h.k1 (r := r) l.marks h.sg
 simp only [zK]
 rw [oJ (by omega), cond_true, rO h r l.marks 0 [] (by omega) rfl (by simp; omega), pn, List.nil_append, Jt _ a1 (by omega)]
 rfl
theorem Rg {s : GLs} (h : Sh s) {k k' : Int} (h0 : 0 ≤ k) (hk : k ≤ k') (h1 : k' ≤ 10) (r : Int) : ∀ (ms : List Glm), rowF s k r ms ≤ rowF s k' r ms
 | [] => Int.le_refl _
 | m :: ms => by
  have ih := Rg h h0 hk h1 r ms
  have hp := Js h h0 hk h1 m ms.head?
  unfold rowF at ih ⊢
  unfold addL
  split
  ·cases m.hyphen <;> simp only [cond_true, cond_false, List.append_nil, List.cons_append, List.nil_append, List.sum_cons] <;> omega
  ·simpa using ih
def rowsOk (s : GLs) (k : Int) (ms : List Glm) : Nat → Int → Bool
 | 0, _ => true
 | n + 1, r => decide (rowF s k r ms ≤ s.Wide) && rowsOk s k ms n (r + 1)
theorem Rh {s : GLs} {k : Int} {ms : List Glm} : ∀ (n : Nat) (r : Int), rowsOk s k ms n r = true ↔ ∀ j : Int, r ≤ j → j < r + n → rowF s k j ms ≤ s.Wide
 | 0, r => by simp only [rowsOk, true_iff]; intro j h1 h2; omega
 | n + 1, r => by
  simp only [rowsOk, Bool.and_eq_true, decide_eq_true_eq, Rh n (r + 1)]
  constructor
  ·rintro ⟨h1, h2⟩ j h3 h4
   by_cases hj : j = r
   ·rw [hj]; exact h1
   ·exact h2 j (by omega) (by omega)
  ·exact fun h => ⟨h r (by omega) (by omega), fun j h1 h2 => h j (by omega) (by omega)⟩
def fitB (l : Gld) (k : Int) : Bool := rowsOk l.ls k l.marks l.lx.Ends.length 0 && decide ((l.lx.Ends.length : Int) ≤ l.ls.Rows)
theorem zL {l : Gld} (h : LOk l) : ∀ (es : List GLe) (r : Int), wB l es r = goB (rowsOk l.ls l.stretch l.marks es.length r)
 | [], _ => rfl
 | e :: es, r => by
  simp only [wB, CU, Jv h, Option.bind_some, List.length_cons, rowsOk, lN]
  by_cases hw : rowF l.ls l.stretch r l.marks ≤ l.ls.Wide
  ·rw [decide_eq_false (show ¬ (rowF l.ls l.stretch r l.marks > l.ls.Wide) by omega), decide_eq_true hw]
   simp only [cond_false, cond_true, Option.bind_some]
   exact zL h es (r + 1)
  ·rw [decide_eq_true (show (rowF l.ls l.stretch r l.marks > l.ls.Wide) by omega), decide_eq_false hw]
   rfl
theorem Jw {l : Gld} (h : LOk l) : uy l = some (fitB l l.stretch) := by
 have := h.ne
 simp only [uy]
 rw [oJ (by omega), cond_true, zL h, te]
 unfold fitB
 cases rowsOk l.ls l.stretch l.marks l.lx.Ends.length 0 <;> rfl
def CV (xs : List Int) : Option (List Int) := cond (neB xs) (cond (aB 8 xs.length) (some xs) none) none
theorem Ri (xs R : List Int) (h : CV xs = some R) : ad Tryz.prog G0 129 [.sl (aa eI xs) xs.length false] (.own (aa eI R) R.length 1) := by
 unfold CV at h
 cases hn : neB xs with
 | false => rw [hn] at h; cases h
 | true =>
 cases hr : aB 8 xs.length with
 | false => rw [hn, hr] at h; cases h
 | true =>
 rw [hn, hr] at h
 simp only [cond_true, Option.some.injEq] at h
 subst h
 have hc : aa eI xs ≠ [] := by
  cases xs with
  | nil => cases hn
  | cons a l => intro hh; cases hh
 have hnil : ∀ (H : Nat → Option VObj) (x y : Operand), binV Tryz.prog H .eql 22 x y (.sl (aa eI xs) xs.length false) (.lit (.slice none 0 0)) = some (.lit (.bool false)) := fun H x y => Rj Tryz.underlying22 hc
 have hb : aQ Tryz.prog 22 0 [] = some ([], 1) := by kernel_rfl
 refine ad.run mixed Tryz.call129 Tryz.func129 rfl (by simp [Tryz.ntmps129]; kernel_rfl) ?_
 simp only [vz, tyf, hnil, hb, List.map_nil, seval]
 refine zM (w := 1) (enc := eI) (xs := ([] : List Int)) (ys := xs) (el := some 3) (fun _ => rfl) pz py Tryz.underlying22 rfl hn (by rw [List.nil_append]; exact hr) ?_
 simp only [vz, tyf, List.nil_append, seval]
 refine ⟨rfl, .ref 5 0 xs.length 1 xs.length, by simp [Tryz.results129, resV, resL, aJ, upd], (aa eI xs).length + 1, 5, _, aa eI xs, ⟨_, rfl⟩, by simp only [br, bW, seval] <;> rfl, rP _ _ (eI_ok.treeL xs) (Nat.lt_succ_self _)⟩
def wC (xs : List GLe) : Option (List GLe) := cond (neB xs) (cond (aB 16 xs.length) (some xs) none) none
theorem Jx (xs R : List GLe) (h : wC xs = some R) : ad Tryz.prog G0 128 [.sl (aa cGLe xs) xs.length false] (.own (aa cGLe R) R.length 2) := by
 unfold wC at h
 cases hn : neB xs with
 | false => rw [hn] at h; cases h
 | true =>
 cases hr : aB 16 xs.length with
 | false => rw [hn, hr] at h; cases h
 | true =>
 rw [hn, hr] at h
 simp only [cond_true, Option.some.injEq] at h
 subst h
 have hc : aa cGLe xs ≠ [] := by
  cases xs with
  | nil => cases hn
  | cons a l => intro hh; cases hh
 have hnil : ∀ (H : Nat → Option VObj) (x y : Operand), binV Tryz.prog H .eql 29 x y (.sl (aa cGLe xs) xs.length false) (.lit (.slice none 0 0)) = some (.lit (.bool false)) := fun H x y => Rj Tryz.underlying29 hc
 have hb : aQ Tryz.prog 29 0 [] = some ([], 2) := by kernel_rfl
 refine ad.run mixed Tryz.call128 Tryz.func128 rfl (by simp [Tryz.ntmps128]; kernel_rfl) ?_
 simp only [vz, tyf, hnil, hb, List.map_nil, seval]
 refine zM (w := 2) (enc := cGLe) (xs := ([] : List GLe)) (ys := xs) (el := some 100) (fun _ => rfl) gk gj Tryz.underlying29 rfl hn (by rw [List.nil_append]; exact hr) ?_
 simp only [vz, tyf, List.nil_append, seval]
 refine ⟨rfl, .ref 5 0 xs.length 2 xs.length, by simp [Tryz.results128, resV, resL, aJ, upd], (aa cGLe xs).length + 1, 5, _, aa cGLe xs, ⟨_, rfl⟩, by simp only [br, bW, seval] <;> rfl, rP _ _ (eA.treeL xs) (Nat.lt_succ_self _)⟩
theorem FrozenL.get {H H' : Nat → Option VObj} : ∀ {xs ys : List VV} (i : Nat), FrozenL H H' xs ys → Frozen H H' ((xs[i]?).getD (.lit undef)) ((ys[i]?).getD (.lit undef))
 | [], [], _, _ => .inl rfl
 | x :: xs, y :: ys, 0, h => h.1
 | x :: xs, y :: ys, i + 1, h => by simpa using FrozenL.get i h.2
 | [], _ :: _, _, h => h.elim
 | _ :: _, [], _, h => h.elim
theorem Jy {β : Nat} {o : Oper} {st : St} {K : St → Prop} {X : Nat → Option VObj} : RoundEnd β o { st with H := X } K = RoundEnd β o st K := by
 obtain ⟨d, op, ty, pos, af, gd⟩ := o
 funext e s
 cases d <;> cases e <;> rfl
theorem Vd {P : Program} {G : Glob} {n β : Nat} {bo : Code} {o : Oper} {st : St} {K : St → Prop} {X : Nat → Option VObj} : RoundStart P G n β bo o { st with H := X } K = RoundStart P G n β bo o st K := by
 funext e s
 cases e <;> first | rfl | (unfold RoundStart; rw [Jy])
theorem FrozenL.set {H H' : Nat → Option VObj} {x y : VV} (hx : Frozen H H' x y) : ∀ {xs ys : List VV} (i : Nat), FrozenL H H' xs ys → FrozenL H H' (xs.set i x) (ys.set i y)
 | [], [], _, _ => trivial
 | _ :: _, _ :: _, 0, h => ⟨hx, h.2⟩
 | _ :: _, _ :: _, i + 1, h => ⟨h.1, FrozenL.set hx i h.2⟩
 | [], _ :: _, _, h => h.elim
 | _ :: _, [], _, h => h.elim
theorem Rk {H H' : Nat → Option VObj} : ∀ (ps : List Tmp) {args args' tm tm' : List VV}, FrozenL H H' args args' → FrozenL H H' tm tm' → FrozenL H H' (roundTm tm ps args) (roundTm tm' ps args')
 | [], _, _, _, _, _, h => h
 | _ :: _, [], [], _, _, _, h => h
 | p :: ps, x :: xs, y :: ys, tm, tm', ha, h => Rk ps (args := xs) (args' := ys) ha.2 (FrozenL.set ha.1 p h)
 | _ :: _, [], _ :: _, _, _, ha, _ => ha.elim
 | _ :: _, _ :: _, [], _, _, ha, _ => ha.elim
theorem Jz {H : Nat → Option VObj} {ns : List Nat} {c : Ctx} {W : World} (s : Sim c W) (hH : c.H = H) (hns : ∀ γ ∈ ns, ∃ el cs, H γ = some (.cells el cs)) : ∀ x st pe tm ps asg bo df, lessN H ns x = some (.loop st pe tm ps asg bo df) → isDef (lessN H ns) df := by
 intro x st pe tm ps asg bo df hx
 subst hH
 obtain ⟨l, fn, _, _, _, ds, hd⟩ := s.obj x _ (CW x _ hx)
 refine ⟨ds, ?_⟩
 unfold lessN
 split
 ·rename_i hm
  obtain ⟨el, cs, hc⟩ := hns df hm
  rw [hc] at hd; cases hd
 ·exact hd
theorem yieldK.freezeN {P : Program} {G : Glob} {o : Oper} {β : Nat} {args args' : List VV} {st : St} {K : St → Prop} (ns : List Nat) (hns : ∀ γ ∈ ns, ∃ el cs, st.H γ = some (.cells el cs)) (hβ : β ∉ ns) (ha : FrozenL st.H (lessN st.H ns) args args')
  (h : yieldK P G o β args' { st with H := lessN st.H ns } K) : yieldK P G o β args st K := by
 unfold yieldK at h ⊢
 have e : lessN st.H ns β = st.H β := by unfold lessN; rw [if_neg hβ]
 simp only [e] at h
 split at h
 ·rename_i pe tm ps asg bo df hl
  obtain ⟨h1, h2⟩ := h
  refine ⟨by rw [← FrozenL.length ha]; exact h1, ?_⟩
  rw [Vd] at h2
  intro ro c W a hro s hr hsz
  have hloop := Jz s hr.H hns
  refine VWp.freeze (st := { tm := aS (roundTm tm ps.toList args), H := st.H, nx := st.nx, df := [] }) (lessN st.H ns) (aS (roundTm tm ps.toList args')) (fun β o' hb => ⟨o', CW β o' hb, .inl rfl⟩) hloop (fun t => ?_) h2 ro c W a hro s hr hsz
  exact FrozenL.get t (Rk ps.toList ha FrozenL.same)
 ·exact h.elim
theorem zN {H : Nat → Option VObj} {x : VV} (h : x.tree = true) (n : Nat) (hn : 1 ≤ n) : sealV H n x = some x := by
 obtain ⟨m, rfl⟩ : ∃ m, n = m + 1 := ⟨n - 1, by omega⟩
 unfold sealV
 rw [h]
 rfl
theorem wD {H : Nat → Option VObj} {γ k w cp : Nat} {el : Option TypeId} {cs : List VV} (hγ : H γ = some (.cells el cs)) (ht : treeL cs = true) (hl : cs.length = k * w) (n : Nat) (hn : cs.length + 2 ≤ n) : sealV H n (.ref γ 0 k w cp) = some (.sl cs k false) := by
 obtain ⟨m, rfl⟩ : ∃ m, n = m + 1 := ⟨n - 1, by omega⟩
 unfold sealV
 have : (VV.ref γ 0 k w cp).tree = false := rfl
 rw [this]
 simp only [Bool.false_eq_true, if_false, hγ, Nat.zero_le, if_true, List.drop_zero]
 rw [List.take_of_length_le (by omega), rP cs _ ht (by omega)]
 rfl
theorem Frozen.pair {H H' : Nat → Option VObj} {x y x' y' : VV} (m : Nat) (hx : ∀ n, m ≤ n → sealV (gone H H') n x = some x') (hy : ∀ n, m ≤ n → sealV (gone H H') n y = some y') (ht : (VV.agg [x, y]).tree = false) : Frozen H H' (.agg [x, y]) (.agg [x', y']) := by
 refine .inr (.inr ⟨m + 4, ?_⟩)
 show sealV (gone H H') ((m + 3) + 1) _ = _
 unfold sealV
 rw [ht]
 simp only [Bool.false_eq_true, if_false]
 have e3 : aP (gone H H') (m + 1) [] = some [] := by simp [aP]
 have e2 : aP (gone H H') (m + 2) [y] = some [y'] := by
  show aP (gone H H') ((m + 1) + 1) _ = _
  unfold aP
  rw [hy (m + 1) (by omega), e3]
 have e1 : aP (gone H H') (m + 3) [x, y] = some [x', y'] := by
  show aP (gone H H') ((m + 2) + 1) _ = _
  unfold aP
  rw [hx (m + 2) (by omega), e2]
 rw [e1]
 rfl
theorem wE {H : Nat → Option VObj} {ns : List Nat} {γ : Nat} {el : Option TypeId} {cs : List VV} (hm : γ ∈ ns) (hγ : H γ = some (.cells el cs)) : gone H (lessN H ns) γ = some (.cells el cs) := by
 simp [gone, lessN, hm, hγ]
abbrev sE (l : List GLe) : VV := .sl (aa cGLe l) l.length false
abbrev sSet (out : List Int) (e : List GLe) : VV := .agg [vx eI out, sE e]
def goStg (rc : List GLe → Nat → Option (List (List GLe))) (poss : List GLe) (p : List GLe) : Nat → Nat → Option (List (List GLe))
 | 0, _ => some []
 | m + 1, i => Option.bind (poss[i]?) fun e => Option.bind (rc (p ++ [e]) (i + 1)) fun a => Option.bind (goStg rc poss p m (i + 1)) fun r => some (a ++ r)
def stgO (poss : List GLe) (last : Nat) (rows : Int) : Nat → List GLe → Nat → Option (List (List GLe))
 | 0, _, _ => none
 | d + 1, p, fr => Option.bind (goStg (stgO poss last rows d) poss p (if (p.length : Int) + 1 < rows then last - fr else 0) fr) fun a => Option.bind (poss[last]?) fun e => some (a ++ [p ++ [e]])
theorem argsTm8 {a b c e f g h i : VV} : aS [a, b, c, e, f, g, h, i] = upd (upd (upd (upd (upd (upd (upd (upd (fun _ => .lit undef) 0 a) 1 b) 2 c) 3 e) 4 f) 5 g) 6 h) 7 i := by
 funext t; rcases t with _ | _ | _ | _ | _ | _ | _ | _ | t <;> simp [aS, upd]
theorem J0 {P : Program} {t e : Nat} {H : Nat → Option VObj} (hu : P.underlying t = some (.slice e)) : ∀ {p : List GLe}, vlen P H t (vx cGLe p) = some (.lit (.int .i64 p.length))
 | [] => by simp [vlen, vx, hu, sls]
 | _ :: _ => by simp [vlen, vx, hu, sls]
theorem Rl : ad Tryz.prog G0 129 [.lit (.slice none 0 0)] (.tree (.lit (.slice none 0 0))) := by
 have hnil : ∀ (H : Nat → Option VObj) (x y : Operand), binV Tryz.prog H .eql 22 x y (.lit (.slice none 0 0)) (.lit (.slice none 0 0)) = some (.lit (.bool true)) := fun H x y => by kernel_rfl
 refine ad.run mixed Tryz.call129 Tryz.func129 rfl (by simp [Tryz.ntmps129]; kernel_rfl) ?_
 simp only [vz, tyf, hnil, seval, ua]
 exact ⟨rfl, .lit (.slice none 0 0), by simp [Tryz.results129, resV, resL, aJ, upd], 1, rfl⟩
theorem J1 : ad Tryz.prog G0 128 [.lit (.slice none 0 0)] (.tree (.lit (.slice none 0 0))) := by
 have hnil : ∀ (H : Nat → Option VObj) (x y : Operand), binV Tryz.prog H .eql 29 x y (.lit (.slice none 0 0)) (.lit (.slice none 0 0)) = some (.lit (.bool true)) := fun H x y => by kernel_rfl
 refine ad.run mixed Tryz.call128 Tryz.func128 rfl (by simp [Tryz.ntmps128]; kernel_rfl) ?_
 simp only [vz, tyf, hnil, seval, ua]
 exact ⟨rfl, .lit (.slice none 0 0), by simp [Tryz.results128, resV, resL, aJ, upd], 1, rfl⟩
theorem zO {α : Type} {xs : List α} {i : Nat} {x : α} (h : xs[i]? = some x) : getI xs (i : Int) = some x := by
 unfold getI
 simp [h]
abbrev sCaps (la e pl y : Nat) (s : GLs) (out : List Int) : List VV := [.ptr la 0, .tp (cGLs s), .ptr e 0, .ptr pl 0, .ptr y 0, .tp [vx eI out]]
def SExt (β y e pl la : Nat) (s : GLs) (out : List Int) (poss : List GLe) (last : Nat) (I : Inv) (d : Nat) : Prop :=
 ∀ (p : List GLe) (fr : Nat) (rest : List VV) (L : List (List GLe)) (Fr : Nat → Prop) (H : Nat → Option VObj) (nx : Nat), stgO poss last s.Rows d p fr = some L → p.length + d < 1000 → fr < 1000000 → β < nx → (∀ γ, Fr γ → γ < nx) → Fr y → Fr e → Fr pl → Fr la →
  H y = some (.cells (some 33) [.yl β]) → H pl = some (.cells (some 29) [sE poss]) → H la = some (.cells (some 3) [.lit (.int .i64 (last : Int))]) → H e = some (.cells (some 155) [.fn (.func 127) [] (sCaps la e pl y s out)]) →
  I (some (L.map (sSet out) ++ rest)) Fr H nx →
  av Tryz.prog G0 127 [vx cGLe p, .lit (.int .i64 (fr : Int)), .ptr la 0, .tp (cGLs s), .ptr e 0, .ptr pl 0, .ptr y 0, .tp [vx eI out]] H nx
   (fun v H' nx' => ∃ b, v = .lit (.bool b) ∧ nx ≤ nx' ∧ (∀ γ, Fr γ → H' γ = H γ) ∧ I (if b then some rest else none) Fr H' nx') (fun _ _ _ => False)
theorem Rm {p : List GLe} {e : GLe} (h : p ≠ []) (hr : aB 16 (p ++ [e]).length = true) : wC p = some p := by
 unfold wC
 have h1 : neB p = true := by cases p with
  | nil => exact absurd rfl h
  | cons a l => rfl
 have h2 : aB 16 p.length = true := by
  unfold aB at hr ⊢
  simp only [List.length_append, List.length_cons, List.length_nil, decide_eq_true_eq] at hr ⊢
  omega
 rw [h1, h2]; rfl
theorem J2 {p : List Int} (h : p ≠ []) (hr : p.length < 1000000) : CV p = some p := by
 unfold CV
 have h1 : neB p = true := by cases p with
  | nil => exact absurd rfl h
  | cons a l => rfl
 have h2 : aB 8 p.length = true := by
  unfold aB
  simp only [decide_eq_true_eq]
  omega
 rw [h1, h2]; rfl
theorem J3 {β y e pl la : Nat} {s : GLs} {out : List Int} {poss : List GLe} {last : Nat} {I : Inv} (hst : Stable I) (hr : Rounds Tryz.prog G0 β I) (hlast : last < 1000000) (hout : out.length < 1000000) : ∀ d, SExt β y e pl la s out poss last I d := by
 intro d
 induction d with
 | zero => intro p fr rest L Fr H nx hL; cases hL
 | succ d ih =>
  intro p fr rest L Fr H nx hL Rn J4 hbx hF hFy hFe hFp hFl hy hpl hla he hI
  rw [stgO] at hL
  rcases hLa : goStg (stgO poss last s.Rows d) poss p (if (p.length : Int) + 1 < s.Rows then last - fr else 0) fr with _ | La
  ·rw [hLa] at hL; cases hL
  rw [hLa, Option.bind_some] at hL
  rcases hLe : poss[last]? with _ | eL
  ·rw [hLe] at hL; cases hL
  rw [hLe, Option.bind_some, Option.some.injEq] at hL
  subst hL
  rw [List.map_append, List.append_assoc] at hI
  refine av.run mixed Tryz.call127 Tryz.func127 rfl (by simp [Tryz.ntmps127]; kernel_rfl) ?_
  simp only [argsTm8, vz, tyf, seval, ua, rg]
  obtain ⟨J, hJ⟩ : ∃ J : Nat → St → Prop, J = (fun m st => ∃ (i : Nat) (Lr : List (List GLe)), i < 1000000 ∧ (m = if (p.length : Int) + 1 < s.Rows then last - i else 0) ∧ st.df = [] ∧ nx ≤ st.nx ∧ (∀ γ, Fr γ → st.H γ = H γ) ∧
   goStg (stgO poss last s.Rows d) poss p m i = some Lr ∧ I (some (Lr.map (sSet out) ++ (List.map (sSet out) [p ++ [eL]] ++ rest))) Fr st.H st.nx ∧
   st.tm 0 = vx cGLe p ∧ st.tm 2 = .ptr la 0 ∧ st.tm 3 = .tp (cGLs s) ∧ st.tm 4 = .ptr e 0 ∧ st.tm 5 = .ptr pl 0 ∧ st.tm 6 = .ptr y 0 ∧ st.tm 7 = .tp [vx eI out] ∧ st.tm 11 = .lit (.int .i64 (i : Int))) := ⟨_, rfl⟩
  refine loopK mixed (by kernel_rfl) J (if (p.length : Int) + 1 < s.Rows then last - fr else 0) (by
   rw [hJ]
   refine ⟨fr, La, J4, rfl, rfl, (show nx ≤ nx + 3 by omega), fun _ _ => rfl, hLa, hst _ _ _ _ _ _ _ hI (fun _ _ _ => rfl) (show nx ≤ nx + 3 by omega) (fun γ h => .inl h), ?_, ?_, ?_, ?_, ?_, ?_, ?_, ?_⟩ <;> first | rfl | (simp only [ua, seval] <;> rfl)) ?_
  rintro m ⟨tm, H1, aZ, df⟩ hinv
  rw [hJ] at hinv
  obtain ⟨i, Lr, Yh, hm, hdf, hn, pT, hLr, tk, e0, e2, e3, e4, e5, e6, e7, bj⟩ := hinv
  simp only at hdf hn pT tk e0 e2 e3 e4 e5 e6 e7 bj
  subst hdf
  have pU : H1 e = _ := (pT e hFe).trans he
  have jF : H1 y = _ := (pT y hFy).trans hy
  have hp1' : H1 pl = _ := (pT pl hFp).trans hpl
  have ez : H1 la = _ := (pT la hFl).trans hla
  have hlen := fun H => J0 (P := Tryz.prog) (H := H) Tryz.underlying29 (p := p)
  have hwp : i64.wrap ((p.length : Int) + 1) = (p.length : Int) + 1 := IntWalk.i64_in _ (by omega)
  cases m with
  | zero =>
   have hd : (decide ((i : Int) < (last : Int)) && decide ((p.length : Int) + 1 < s.Rows)) = false := by
    cases hc : (decide ((i : Int) < (last : Int)) && decide ((p.length : Int) + 1 < s.Rows)) with
    | false => rfl
    | true =>
     simp only [Bool.and_eq_true, decide_eq_true_eq] at hc
     rw [if_pos hc.2] at hm
     omega
   have Ve : Lr = [] := by
    simp only [goStg, Option.some.injEq] at hLr
    exact hLr.symm
   subst Ve
   have hix := zO hLe
   have hroom : aB 16 (p ++ [eL]).length = true := by
    unfold aB
    simp only [List.length_append, List.length_cons, List.length_nil, decide_eq_true_eq]
    omega
   have hen : e < aZ := qZc (hF e hFe) hn
   have hyn : y < aZ := qZc (hF y hFy) hn
   have hpn : pl < aZ := qZc (hF pl hFp) hn
   have hln : la < aZ := qZc (hF la hFl) hn
   have fL : (y = aZ + 13) = False := by simp only [eq_iff_iff, iff_false]; omega
   have fM : (y = aZ + 15) = False := by simp only [eq_iff_iff, iff_false]; omega
   have fN : (pl = aZ + 13) = False := by simp only [eq_iff_iff, iff_false]; omega
   have fO : (pl = aZ + 15) = False := by simp only [eq_iff_iff, iff_false]; omega
   have fP : (la = aZ + 13) = False := by simp only [eq_iff_iff, iff_false]; omega
   have fQ : (la = aZ + 15) = False := by simp only [eq_iff_iff, iff_false]; omega
   cases hb : decide ((i : Int) < (last : Int))
   case' false => simp only [vz, tyf, seval, ua, e0, e2, e3, e4, e5, e6, e7, bj, ez, hlen, hwp, hb, rg]
   case' true =>
    rw [hb, Bool.true_and] at hd
    simp only [vz, tyf, seval, ua, e0, e2, e3, e4, e5, e6, e7, bj, ez, hlen, hwp, hb, hd, rg]
   all_goals
    refine CE (fun tm => tm 0 = vx cGLe p ∧ tm 2 = .ptr la 0 ∧ tm 5 = .ptr pl 0 ∧ tm 6 = .ptr y 0 ∧ tm 7 = .tp [vx eI out]) (by refine ⟨?_, ?_, ?_, ?_, ?_⟩ <;> simp only [ua, seval, e0, e2, e3, e4, e5, e6, e7, bj]) ?_
    clear e0 e2 e3 e4 e5 e6 e7 bj tm
    rintro tm ⟨e0, e2, e5, e6, e7⟩
    refine QD mixed 12 rfl rfl rfl (by kernel_rfl) ?_
    simp only [vz, tyf, seval, ua, e0, e2, e5, e6, e7, jF, rg]
    by_cases hone : out = []
    ·subst hone
     by_cases hpe : p = []
     ·subst hpe
      refine .inl ⟨rfl, .tree _, Rl, ?_⟩
      simp only [vz, tyf, seval, ua, e0, e2, e5, e6, e7, jF, hp1', ez, fL, fM, fN, fO, fP, fQ, (aG hix), rg]
      refine .inl ⟨rfl, .tree _, J1, ?_⟩
      simp only [vz, tyf, seval, ua, e0, e2, e5, e6, e7, jF, hp1', ez, fL, fM, fN, fO, fP, fQ, (aG hix), rg]
      refine oM (w := 2) (enc := cGLe) (ys := [eL]) (fZ := some 100) (fun _ => rfl) gk gj Tryz.underlying29 (by first | rfl | (simp only [ua, nm, seval]; done) | (simp only [ua, nm, seval]; rfl)) (Nat.zero_lt_succ _) hroom ?_
      simp only [vz, tyf, seval, ua, nm, e0, e2, e5, e6, e7, jF, hp1', ez, fL, fM, fN, fO, fP, fQ, (aG hix), rg]
      refine nv ⟨?_, ?_⟩
      ·simp only [n6, n5, ic, ny, and_true, true_and]
       repeat' (first | exact trivial | refine And.intro ?_ ?_ | rw [ic] | rw [nz] | exact Or.inl (by decide +kernel) | exact Or.inl (by dsimp only; decide +kernel) | (refine Or.inr ⟨?_, ?_⟩ <;> simp; done) | (refine Or.inr ⟨?_, ?_⟩ <;> simp <;> omega) | (refine Or.inr ⟨?_, ?_⟩ <;> simp [VEff.wr] <;> omega))
      simp only [vz, tyf, seval, ua, nm, e0, e2, e5, e6, e7, jF, hp1', ez, fL, fM, fN, fO, fP, fQ, (aG hix), rg]
      have uz : I (some (sSet [] ([] ++ [eL]) :: rest)) Fr H1 aZ := tk
      refine yieldK.freezeN (args' := [sSet [] ([] ++ [eL])]) [aZ + 21] ?_ (by simp; omega) ⟨Frozen.pair (2 * ([] ++ [eL]).length + 2 + ([] : List Int).length + 2) (fun n hn => ?_) (fun n hn => ?_) rfl, trivial⟩ ?_
      ·intro γ hγ
       simp only [List.mem_cons, List.not_mem_nil, or_false] at hγ
       subst hγ; exact ⟨_, _, by first | rfl | (simp only [ua, nm, seval]; done) | (simp only [ua, nm, seval]; rfl)⟩
      ·exact zN rfl n (by omega)
      ·exact wD (wE (by simp) (by first | rfl | (simp only [ua, nm, seval]; done) | (simp only [ua, nm, seval]; rfl))) (eA.treeL _) (by rw [ie (w := 2) (fun _ => rfl)]) n (by rw [ie (w := 2) (fun _ => rfl)]; omega)
      refine (hr (sSet [] ([] ++ [eL])) rest Fr _ _ (fun γ h => qZc (hF γ h) (qZf hn (qZd _ _))) (hst _ _ _ _ _ _ _ uz (fun γ h _ => ?_) (qZd _ _) (fun γ h => .inl h))) (some none) _ _ _ rfl rfl ?_
      ·have n1 : γ ≠ aZ + 21 := by omega
       have n2 : γ ≠ aZ + 20 := by omega
       have n3 : γ ≠ aZ + 15 := by omega
       have n4 : γ ≠ aZ + 13 := by omega
       simp only [lessN, updH, without, List.mem_cons, List.not_mem_nil, or_false, n1, n2, n3, n4, if_false, or_self]
      rintro b H2 nM ⟨h1, h2, h3⟩
      simp only [vz, tyf, seval, ua]
      refine d4 (x := .lit (.bool b)) (by simp [Tryz.results127, resV, resL, aJ, upd]) ⟨b, rfl, qZf (qZf hn (qZd _ _)) h1, fun γ h => ?_, h3⟩
      have g1 := hF γ h
      rw [h2 γ h, ← pT γ h]
      have n1 : γ ≠ aZ + 21 := by omega
      have n2 : γ ≠ aZ + 20 := by omega
      have n3 : γ ≠ aZ + 15 := by omega
      have n4 : γ ≠ aZ + 13 := by omega
      simp only [lessN, updH, without, List.mem_cons, List.not_mem_nil, or_false, n1, n2, n3, n4, if_false, or_self]
     ·have hvp : vx cGLe p = sE p := wF hpe
      have hclp := Rm hpe hroom
      refine .inl ⟨rfl, .tree _, Rl, ?_⟩
      simp only [vz, tyf, seval, ua, e0, e2, e5, e6, e7, jF, hp1', ez, fL, fM, fN, fO, fP, fQ, (aG hix), rg]
      rw [hvp]
      refine dkown (args0 := [sE p]) (by first | (simp only [nrm, ar]; done) | (simp only [nrm, ar]; rfl) | rfl) (by simp only [tre, aw, Bool.and_self]) (Jx _ _ hclp) ?_
      simp only [vz, tyf, seval, ua, e0, e2, e5, e6, e7, jF, hp1', ez, fL, fM, fN, fO, fP, fQ, (aG hix), rg]
      refine k_app (w := 2) (enc := cGLe) (xs := p) (ys := [eL]) (el := none) (fZ := some 100) (fun _ => rfl) gk gj Tryz.underlying29 (by first | rfl | (simp only [ua, nm, seval]; done) | (simp only [ua, nm, seval]; rfl)) (by first | rfl | (simp only [ua, nm, seval]; done) | (simp only [ua, nm, seval]; rfl)) (Nat.zero_lt_succ _) hroom ?_
      simp only [vz, tyf, seval, ua, nm, e0, e2, e5, e6, e7, jF, hp1', ez, fL, fM, fN, fO, fP, fQ, (aG hix), rg]
      refine nv ⟨?_, ?_⟩
      ·simp only [n6, n5, ic, ny, and_true, true_and]
       repeat' (first | exact trivial | refine And.intro ?_ ?_ | rw [ic] | rw [nz] | exact Or.inl (by decide +kernel) | exact Or.inl (by dsimp only; decide +kernel) | (refine Or.inr ⟨?_, ?_⟩ <;> simp; done) | (refine Or.inr ⟨?_, ?_⟩ <;> simp <;> omega) | (refine Or.inr ⟨?_, ?_⟩ <;> simp [VEff.wr] <;> omega))
      simp only [vz, tyf, seval, ua, nm, e0, e2, e5, e6, e7, jF, hp1', ez, fL, fM, fN, fO, fP, fQ, (aG hix), rg]
      have uz : I (some (sSet [] (p ++ [eL]) :: rest)) Fr H1 aZ := tk
      refine yieldK.freezeN (args' := [sSet [] (p ++ [eL])]) [aZ + 21] ?_ (by simp; omega) ⟨Frozen.pair (2 * (p ++ [eL]).length + 2 + ([] : List Int).length + 2) (fun n hn => ?_) (fun n hn => ?_) rfl, trivial⟩ ?_
      ·intro γ hγ
       simp only [List.mem_cons, List.not_mem_nil, or_false] at hγ
       subst hγ; exact ⟨_, _, by first | rfl | (simp only [ua, nm, seval]; done) | (simp only [ua, nm, seval]; rfl)⟩
      ·exact zN rfl n (by omega)
      ·exact wD (wE (by simp) (by first | rfl | (simp only [ua, nm, seval]; done) | (simp only [ua, nm, seval]; rfl))) (eA.treeL _) (by rw [ie (w := 2) (fun _ => rfl)]) n (by rw [ie (w := 2) (fun _ => rfl)]; omega)
      refine (hr (sSet [] (p ++ [eL])) rest Fr _ _ (fun γ h => qZc (hF γ h) (qZf hn (qZd _ _))) (hst _ _ _ _ _ _ _ uz (fun γ h _ => ?_) (qZd _ _) (fun γ h => .inl h))) (some none) _ _ _ rfl rfl ?_
      ·have n1 : γ ≠ aZ + 21 := by omega
       have n2 : γ ≠ aZ + 20 := by omega
       have n3 : γ ≠ aZ + 15 := by omega
       have n4 : γ ≠ aZ + 13 := by omega
       simp only [lessN, updH, without, List.mem_cons, List.not_mem_nil, or_false, n1, n2, n3, n4, if_false, or_self]
      rintro b H2 nM ⟨h1, h2, h3⟩
      simp only [vz, tyf, seval, ua]
      refine d4 (x := .lit (.bool b)) (by simp [Tryz.results127, resV, resL, aJ, upd]) ⟨b, rfl, qZf (qZf hn (qZd _ _)) h1, fun γ h => ?_, h3⟩
      have g1 := hF γ h
      rw [h2 γ h, ← pT γ h]
      have n1 : γ ≠ aZ + 21 := by omega
      have n2 : γ ≠ aZ + 20 := by omega
      have n3 : γ ≠ aZ + 15 := by omega
      have n4 : γ ≠ aZ + 13 := by omega
      simp only [lessN, updH, without, List.mem_cons, List.not_mem_nil, or_false, n1, n2, n3, n4, if_false, or_self]
    ·have hclo := J2 hone hout
     by_cases hpe : p = []
     ·subst hpe
      have hov : vx eI out = sI out := wF hone
      rw [hov]
      refine dkown (args0 := [sI out]) (by first | (simp only [nrm, ar]; done) | (simp only [nrm, ar]; rfl) | rfl) (by simp only [tre, aw, Bool.and_self]) (Ri _ _ hclo) ?_
      simp only [vz, tyf, seval, ua, e0, e2, e5, e6, e7, jF, hp1', ez, fL, fM, fN, fO, fP, fQ, (aG hix), rg]
      refine .inl ⟨rfl, .tree _, J1, ?_⟩
      simp only [vz, tyf, seval, ua, e0, e2, e5, e6, e7, jF, hp1', ez, fL, fM, fN, fO, fP, fQ, (aG hix), rg]
      refine oM (w := 2) (enc := cGLe) (ys := [eL]) (fZ := some 100) (fun _ => rfl) gk gj Tryz.underlying29 (by first | rfl | (simp only [ua, nm, seval]; done) | (simp only [ua, nm, seval]; rfl)) (Nat.zero_lt_succ _) hroom ?_
      simp only [vz, tyf, seval, ua, nm, e0, e2, e5, e6, e7, jF, hp1', ez, fL, fM, fN, fO, fP, fQ, (aG hix), rg]
      refine nv ⟨?_, ?_⟩
      ·simp only [n6, n5, ic, ny, and_true, true_and]
       repeat' (first | exact trivial | refine And.intro ?_ ?_ | rw [ic] | rw [nz] | exact Or.inl (by decide +kernel) | exact Or.inl (by dsimp only; decide +kernel) | (refine Or.inr ⟨?_, ?_⟩ <;> simp; done) | (refine Or.inr ⟨?_, ?_⟩ <;> simp <;> omega) | (refine Or.inr ⟨?_, ?_⟩ <;> simp [VEff.wr] <;> omega))
      simp only [vz, tyf, seval, ua, nm, e0, e2, e5, e6, e7, jF, hp1', ez, fL, fM, fN, fO, fP, fQ, (aG hix), rg]
      have uz : I (some (sSet out ([] ++ [eL]) :: rest)) Fr H1 aZ := tk
      refine yieldK.freezeN (args' := [sSet out ([] ++ [eL])]) [aZ + 21, aZ + 13] ?_ (by simp; omega) ⟨Frozen.pair (2 * ([] ++ [eL]).length + 2 + out.length + 2) (fun n hn => ?_) (fun n hn => ?_) rfl, trivial⟩ ?_
      ·intro γ hγ
       simp only [List.mem_cons, List.not_mem_nil, or_false] at hγ
       rcases hγ with rfl | rfl <;> exact ⟨_, _, by first | rfl | (simp only [ua, nm, seval]; done) | (simp only [ua, nm, seval]; rfl)⟩
      ·rw [hov]; exact wD (wE (by simp) (by first | rfl | (simp only [ua, nm, seval]; done) | (simp only [ua, nm, seval]; rfl))) (eI_ok.treeL _) (by rw [ie (w := 1) (fun _ => rfl)]) n (by rw [ie (w := 1) (fun _ => rfl)]; omega)
      ·exact wD (wE (by simp) (by first | rfl | (simp only [ua, nm, seval]; done) | (simp only [ua, nm, seval]; rfl))) (eA.treeL _) (by rw [ie (w := 2) (fun _ => rfl)]) n (by rw [ie (w := 2) (fun _ => rfl)]; omega)
      refine (hr (sSet out ([] ++ [eL])) rest Fr _ _ (fun γ h => qZc (hF γ h) (qZf hn (qZd _ _))) (hst _ _ _ _ _ _ _ uz (fun γ h _ => ?_) (qZd _ _) (fun γ h => .inl h))) (some none) _ _ _ rfl rfl ?_
      ·have n1 : γ ≠ aZ + 21 := by omega
       have n2 : γ ≠ aZ + 20 := by omega
       have n3 : γ ≠ aZ + 15 := by omega
       have n4 : γ ≠ aZ + 13 := by omega
       simp only [lessN, updH, without, List.mem_cons, List.not_mem_nil, or_false, n1, n2, n3, n4, if_false, or_self]
      rintro b H2 nM ⟨h1, h2, h3⟩
      simp only [vz, tyf, seval, ua]
      refine d4 (x := .lit (.bool b)) (by simp [Tryz.results127, resV, resL, aJ, upd]) ⟨b, rfl, qZf (qZf hn (qZd _ _)) h1, fun γ h => ?_, h3⟩
      have g1 := hF γ h
      rw [h2 γ h, ← pT γ h]
      have n1 : γ ≠ aZ + 21 := by omega
      have n2 : γ ≠ aZ + 20 := by omega
      have n3 : γ ≠ aZ + 15 := by omega
      have n4 : γ ≠ aZ + 13 := by omega
      simp only [lessN, updH, without, List.mem_cons, List.not_mem_nil, or_false, n1, n2, n3, n4, if_false, or_self]
     ·have hvp : vx cGLe p = sE p := wF hpe
      have hclp := Rm hpe hroom
      have hov : vx eI out = sI out := wF hone
      rw [hov]
      refine dkown (args0 := [sI out]) (by first | (simp only [nrm, ar]; done) | (simp only [nrm, ar]; rfl) | rfl) (by simp only [tre, aw, Bool.and_self]) (Ri _ _ hclo) ?_
      simp only [vz, tyf, seval, ua, e0, e2, e5, e6, e7, jF, hp1', ez, fL, fM, fN, fO, fP, fQ, (aG hix), rg]
      rw [hvp]
      refine dkown (args0 := [sE p]) (by first | (simp only [nrm, ar]; done) | (simp only [nrm, ar]; rfl) | rfl) (by simp only [tre, aw, Bool.and_self]) (Jx _ _ hclp) ?_
      simp only [vz, tyf, seval, ua, e0, e2, e5, e6, e7, jF, hp1', ez, fL, fM, fN, fO, fP, fQ, (aG hix), rg]
      refine k_app (w := 2) (enc := cGLe) (xs := p) (ys := [eL]) (el := none) (fZ := some 100) (fun _ => rfl) gk gj Tryz.underlying29 (by first | rfl | (simp only [ua, nm, seval]; done) | (simp only [ua, nm, seval]; rfl)) (by first | rfl | (simp only [ua, nm, seval]; done) | (simp only [ua, nm, seval]; rfl)) (Nat.zero_lt_succ _) hroom ?_
      simp only [vz, tyf, seval, ua, nm, e0, e2, e5, e6, e7, jF, hp1', ez, fL, fM, fN, fO, fP, fQ, (aG hix), rg]
      refine nv ⟨?_, ?_⟩
      ·simp only [n6, n5, ic, ny, and_true, true_and]
       repeat' (first | exact trivial | refine And.intro ?_ ?_ | rw [ic] | rw [nz] | exact Or.inl (by decide +kernel) | exact Or.inl (by dsimp only; decide +kernel) | (refine Or.inr ⟨?_, ?_⟩ <;> simp; done) | (refine Or.inr ⟨?_, ?_⟩ <;> simp <;> omega) | (refine Or.inr ⟨?_, ?_⟩ <;> simp [VEff.wr] <;> omega))
      simp only [vz, tyf, seval, ua, nm, e0, e2, e5, e6, e7, jF, hp1', ez, fL, fM, fN, fO, fP, fQ, (aG hix), rg]
      have uz : I (some (sSet out (p ++ [eL]) :: rest)) Fr H1 aZ := tk
      refine yieldK.freezeN (args' := [sSet out (p ++ [eL])]) [aZ + 21, aZ + 13] ?_ (by simp; omega) ⟨Frozen.pair (2 * (p ++ [eL]).length + 2 + out.length + 2) (fun n hn => ?_) (fun n hn => ?_) rfl, trivial⟩ ?_
      ·intro γ hγ
       simp only [List.mem_cons, List.not_mem_nil, or_false] at hγ
       rcases hγ with rfl | rfl <;> exact ⟨_, _, by first | rfl | (simp only [ua, nm, seval]; done) | (simp only [ua, nm, seval]; rfl)⟩
      ·rw [hov]; exact wD (wE (by simp) (by first | rfl | (simp only [ua, nm, seval]; done) | (simp only [ua, nm, seval]; rfl))) (eI_ok.treeL _) (by rw [ie (w := 1) (fun _ => rfl)]) n (by rw [ie (w := 1) (fun _ => rfl)]; omega)
      ·exact wD (wE (by simp) (by first | rfl | (simp only [ua, nm, seval]; done) | (simp only [ua, nm, seval]; rfl))) (eA.treeL _) (by rw [ie (w := 2) (fun _ => rfl)]) n (by rw [ie (w := 2) (fun _ => rfl)]; omega)
      refine (hr (sSet out (p ++ [eL])) rest Fr _ _ (fun γ h => qZc (hF γ h) (qZf hn (qZd _ _))) (hst _ _ _ _ _ _ _ uz (fun γ h _ => ?_) (qZd _ _) (fun γ h => .inl h))) (some none) _ _ _ rfl rfl ?_
      ·have n1 : γ ≠ aZ + 21 := by omega
       have n2 : γ ≠ aZ + 20 := by omega
       have n3 : γ ≠ aZ + 15 := by omega
       have n4 : γ ≠ aZ + 13 := by omega
       simp only [lessN, updH, without, List.mem_cons, List.not_mem_nil, or_false, n1, n2, n3, n4, if_false, or_self]
      rintro b H2 nM ⟨h1, h2, h3⟩
      simp only [vz, tyf, seval, ua]
      refine d4 (x := .lit (.bool b)) (by simp [Tryz.results127, resV, resL, aJ, upd]) ⟨b, rfl, qZf (qZf hn (qZd _ _)) h1, fun γ h => ?_, h3⟩
      have g1 := hF γ h
      rw [h2 γ h, ← pT γ h]
      have n1 : γ ≠ aZ + 21 := by omega
      have n2 : γ ≠ aZ + 20 := by omega
      have n3 : γ ≠ aZ + 15 := by omega
      have n4 : γ ≠ aZ + 13 := by omega
      simp only [lessN, updH, without, List.mem_cons, List.not_mem_nil, or_false, n1, n2, n3, n4, if_false, or_self]
  | succ m =>
   have wG : (p.length : Int) + 1 < s.Rows := by
    rcases Classical.em ((p.length : Int) + 1 < s.Rows) with h | h
    ·exact h
    ·rw [if_neg h] at hm; cases hm
   rw [if_pos wG] at hm
   have rQ : decide ((i : Int) < (last : Int)) = true := by simp; omega
   have mS : decide ((p.length : Int) + 1 < s.Rows) = true := by simpa using wG
   simp only [vz, tyf, seval, ua, e0, e2, e3, e4, e5, e6, e7, bj, ez, hlen, hwp, rQ, mS, rg]
   refine CE (fun tm => tm 0 = vx cGLe p ∧ tm 2 = .ptr la 0 ∧ tm 3 = .tp (cGLs s) ∧ tm 4 = .ptr e 0 ∧ tm 5 = .ptr pl 0 ∧ tm 6 = .ptr y 0 ∧ tm 7 = .tp [vx eI out] ∧ tm 11 = .lit (.int .i64 (i : Int))) (by refine ⟨?_, ?_, ?_, ?_, ?_, ?_, ?_, ?_⟩ <;> simp only [ua, seval, e0, e2, e3, e4, e5, e6, e7, bj]) ?_
   clear e0 e2 e3 e4 e5 e6 e7 bj tm
   rintro tm ⟨e0, e2, e3, e4, e5, e6, e7, bj⟩
   refine QD mixed 11 rfl rfl rfl (by kernel_rfl) ?_
   rw [goStg] at hLr
   rcases hei : poss[i]? with _ | ei
   ·rw [hei] at hLr; cases hLr
   rw [hei, Option.bind_some] at hLr
   rcases hLx : stgO poss last s.Rows d (p ++ [ei]) (i + 1) with _ | Lx
   ·rw [hLx] at hLr; cases hLr
   rw [hLx, Option.bind_some] at hLr
   rcases hLy : goStg (stgO poss last s.Rows d) poss p m (i + 1) with _ | Ly
   ·rw [hLy] at hLr; cases hLr
   rw [hLy, Option.bind_some, Option.some.injEq] at hLr
   subst hLr
   rw [List.map_append, List.append_assoc] at tk
   have hix := zO hei
   have hw : i64.wrap ((i : Int) + 1) = ((i + 1 : Nat) : Int) := by rw [IntWalk.i64_in _ (by omega)]; simp
   have hv : vx cGLe (p ++ [ei]) = sE (p ++ [ei]) := wF (by simp)
   have hroom : aB 16 (p ++ [ei]).length = true := by
    unfold aB
    simp only [List.length_append, List.length_cons, List.length_nil, decide_eq_true_eq]
    omega
   have hen : e < aZ := qZc (hF e hFe) hn
   have hyn : y < aZ := qZc (hF y hFy) hn
   have hpn : pl < aZ := qZc (hF pl hFp) hn
   have hln : la < aZ := qZc (hF la hFl) hn
   simp only [vz, tyf, seval, ua, e0, e2, e3, e4, e5, e6, e7, bj, pU, rg]
   rcases hpc : p with _ | ⟨p0, pt⟩
   ·subst hpc
    refine .inl ⟨rfl, .tree _, J1, ?_⟩
    simp only [vz, tyf, seval, ua, e0, e2, e3, e4, e5, e6, e7, bj, pU, hp1', (aG hix), rg, hw]
    refine oM (w := 2) (enc := cGLe) (ys := [ei]) (fZ := some 100) (fun _ => rfl) gk gj Tryz.underlying29 (by simp only [ua, nm, seval]; rfl) (Nat.zero_lt_succ _) hroom ?_
    simp only [vz, tyf, seval, ua, nm, e0, e2, e3, e4, e5, e6, e7, bj, pU, hp1', rg, hw]
    refine nv ⟨?_, ?_⟩
    ·simp only [n6, n5, ic, ny, and_true, true_and]
     repeat' (first | exact trivial | refine And.intro ?_ ?_ | rw [ic] | rw [nz] | exact Or.inl (by decide +kernel) | exact Or.inl (by dsimp only; decide +kernel) | (refine Or.inr ⟨?_, ?_⟩ <;> simp; done) | (refine Or.inr ⟨?_, ?_⟩ <;> simp <;> omega) | (refine Or.inr ⟨?_, ?_⟩ <;> simp [VEff.wr] <;> omega))
    simp only [vz, tyf, seval, ua, e0, e2, e3, e4, e5, e6, e7, bj, pU, rg]
    refine kopen ?_
    rw [J5]
    have hcell : (updH (updH H1 (aZ + 18) (VObj.cells (some 100) [VV.lit (Value.int IntKind.i64 ei.Word), VV.lit (Value.int IntKind.i64 ei.Letters)])) (aZ + 19) (VObj.cells (some 100) (aa cGLe ([] ++ [ei])))) (aZ + 19) = some (.cells (some 100) (aa cGLe ([] ++ [ei]))) := by simp only [ua, seval]
    have hbig : ∀ γ, γ < aZ → without (updH (updH H1 (aZ + 18) (VObj.cells (some 100) [VV.lit (Value.int IntKind.i64 ei.Word), VV.lit (Value.int IntKind.i64 ei.Letters)])) (aZ + 19) (VObj.cells (some 100) (aa cGLe ([] ++ [ei])))) (aZ + 19) γ = H1 γ := by
     intro γ h
     simp only [updH, without]
     repeat rw [if_neg (by omega)]
    refine av.mono (av.freeze1 (γ := (aZ + 19)) hcell (args' := [vx cGLe ([] ++ [ei]), .lit (.int .i64 ((i + 1 : Nat) : Int)), .ptr la 0, .tp (cGLs s), .ptr e 0, .ptr pl 0, .ptr y 0, .tp [vx eI out]]) ⟨by rw [hv]; exact Frozen.own hcell (eA.treeL _) (by rw [ie (w := 2) (fun _ => rfl)]), FrozenL.same⟩ (ih ([] ++ [ei]) (i + 1) _ Lx Fr _ _ hLx (by simp only [List.length_append, List.length_cons, List.length_nil] at Rn ⊢; omega) (by omega) (by omega) (fun γ h => by have := hF γ h; omega) hFy hFe hFp hFl ((hbig y hyn).trans jF) ((hbig pl hpn).trans hp1') ((hbig la hln).trans ez) ((hbig e hen).trans pU) (hst _ _ _ _ _ _ _ tk (fun γ h _ => hbig γ h) (by omega) (fun γ h => .inl h)))) ?_ (fun _ _ _ h => h.elim)
    rintro v H2 nM ⟨b, rfl, h1, h2, h3⟩
    have zP : ∀ γ, Fr γ → H2 γ = H γ := fun γ h => by rw [h2 γ h, hbig γ (qZc (hF γ h) hn), pT γ h]
    simp only [vz, tyf, seval, ua, e0, e2, e3, e4, e5, e6, e7, bj, pU, rg]
    cases b with
    | false =>
     simp only [vz, tyf, seval, ua, Bool.not_false]
     refine d4 (x := .lit (.bool false)) (by simp [Tryz.results127, resV, resL, aJ, upd]) ⟨false, rfl, by omega, zP, ?_⟩
     exact hst _ _ _ _ _ _ _ h3 (fun _ _ _ => rfl) (by omega) (fun γ h => .inl h)
    | true =>
     simp only [vz, tyf, seval, ua, Bool.not_true, bj, hw]
     simp only [if_true] at h3
     rw [hJ]
     refine ⟨m, Nat.lt_succ_self _, i + 1, Ly, by omega, by rw [if_pos wG]; omega, rfl, qZf hn (qZf (by omega : aZ ≤ nM) (qZd _ _)), zP, hLy, hst _ _ _ _ _ _ _ h3 (fun _ _ _ => rfl) (qZd _ _) (fun γ h => .inl h), by simp only [ua, seval, e0], by simp only [ua, seval, e2], by simp only [ua, seval, e3], by simp only [ua, seval, e4], by simp only [ua, seval, e5], by simp only [ua, seval, e6], by simp only [ua, seval, e7], by simp only [ua, seval]⟩
   rw [← hpc]
   have hne : p ≠ [] := by rw [hpc]; simp
   have hvp : vx cGLe p = sE p := wF hne
   rw [hvp]
   have hcl : wC p = some p := by
    unfold wC
    have h1 : neB p = true := by rw [hpc]; rfl
    have h2 : aB 16 p.length = true := by
     unfold aB at hroom ⊢
     simp only [List.length_append, List.length_cons, List.length_nil, decide_eq_true_eq] at hroom ⊢
     omega
    rw [h1, h2]; rfl
   have hpx : (pl = aZ + 13) = False := by simp only [eq_iff_iff, iff_false]; omega
   refine dkown (args0 := [sE p]) (by first | (simp only [nrm, ar]; done) | (simp only [nrm, ar]; rfl) | rfl) (by simp only [tre, aw, Bool.and_self]) (Jx _ _ hcl) ?_
   simp only [vz, tyf, seval, ua, e0, e2, e3, e4, e5, e6, e7, bj, pU, hp1', hpx, (aG hix), rg, hw]
   refine k_app (w := 2) (enc := cGLe) (xs := p) (ys := [ei]) (el := none) (fZ := some 100) (fun _ => rfl) gk gj Tryz.underlying29 (by first | rfl | (simp only [ua, nm, seval]; done) | (simp only [ua, nm, seval]; rfl)) (by first | rfl | (simp only [ua, nm, seval]; done) | (simp only [ua, nm, seval]; rfl)) (Nat.zero_lt_succ _) hroom ?_
   simp only [vz, tyf, seval, ua, nm, e0, e2, e3, e4, e5, e6, e7, bj, pU, hp1', rg, hw]
   refine nv ⟨?_, ?_⟩
   ·simp only [n6, n5, ic, ny, and_true, true_and]
    repeat' (first | exact trivial | refine And.intro ?_ ?_ | rw [ic] | rw [nz] | exact Or.inl (by decide +kernel) | exact Or.inl (by dsimp only; decide +kernel) | (refine Or.inr ⟨?_, ?_⟩ <;> simp; done) | (refine Or.inr ⟨?_, ?_⟩ <;> simp <;> omega) | (refine Or.inr ⟨?_, ?_⟩ <;> simp [VEff.wr] <;> omega))
   simp only [vz, tyf, seval, ua, e0, e2, e3, e4, e5, e6, e7, bj, pU, rg]
   refine kopen ?_
   rw [J5]
   have hcell : (updH (without (updH (updH H1 (aZ + 13) (VObj.cells none (aa cGLe p))) (aZ + 18) (VObj.cells (some 100) [VV.lit (Value.int IntKind.i64 ei.Word), VV.lit (Value.int IntKind.i64 ei.Letters)])) (aZ + 13)) (aZ + 19) (VObj.cells (sameEl none 100) (aa cGLe (p ++ [ei])))) (aZ + 19) = some (.cells (sameEl none 100) (aa cGLe (p ++ [ei]))) := by simp only [ua, seval]
   have hbig : ∀ γ, γ < aZ → without (updH (without (updH (updH H1 (aZ + 13) (VObj.cells none (aa cGLe p))) (aZ + 18) (VObj.cells (some 100) [VV.lit (Value.int IntKind.i64 ei.Word), VV.lit (Value.int IntKind.i64 ei.Letters)])) (aZ + 13)) (aZ + 19) (VObj.cells (sameEl none 100) (aa cGLe (p ++ [ei])))) (aZ + 19) γ = H1 γ := by
    intro γ h
    simp only [updH, without]
    repeat rw [if_neg (by omega)]
   refine av.mono (av.freeze1 (γ := (aZ + 19)) hcell (args' := [vx cGLe (p ++ [ei]), .lit (.int .i64 ((i + 1 : Nat) : Int)), .ptr la 0, .tp (cGLs s), .ptr e 0, .ptr pl 0, .ptr y 0, .tp [vx eI out]]) ⟨by rw [hv]; exact Frozen.own hcell (eA.treeL _) (by rw [ie (w := 2) (fun _ => rfl)]), FrozenL.same⟩ (ih (p ++ [ei]) (i + 1) _ Lx Fr _ _ hLx (by simp only [List.length_append, List.length_cons, List.length_nil] at Rn ⊢; omega) (by omega) (by omega) (fun γ h => by have := hF γ h; omega) hFy hFe hFp hFl ((hbig y hyn).trans jF) ((hbig pl hpn).trans hp1') ((hbig la hln).trans ez) ((hbig e hen).trans pU) (hst _ _ _ _ _ _ _ tk (fun γ h _ => hbig γ h) (by omega) (fun γ h => .inl h)))) ?_ (fun _ _ _ h => h.elim)
   rintro v H2 nM ⟨b, rfl, h1, h2, h3⟩
   have zP : ∀ γ, Fr γ → H2 γ = H γ := fun γ h => by rw [h2 γ h, hbig γ (qZc (hF γ h) hn), pT γ h]
   simp only [vz, tyf, seval, ua, e0, e2, e3, e4, e5, e6, e7, bj, pU, rg]
   cases b with
   | false =>
    simp only [vz, tyf, seval, ua, Bool.not_false]
    refine d4 (x := .lit (.bool false)) (by simp [Tryz.results127, resV, resL, aJ, upd]) ⟨false, rfl, by omega, zP, ?_⟩
    exact hst _ _ _ _ _ _ _ h3 (fun _ _ _ => rfl) (by omega) (fun γ h => .inl h)
   | true =>
    simp only [vz, tyf, seval, ua, Bool.not_true, bj, hw]
    simp only [if_true] at h3
    rw [hJ]
    refine ⟨m, Nat.lt_succ_self _, i + 1, Ly, by omega, by rw [if_pos wG]; omega, rfl, qZf hn (qZf (by omega : aZ ≤ nM) (qZd _ _)), zP, hLy, hst _ _ _ _ _ _ _ h3 (fun _ _ _ => rfl) (qZd _ _) (fun γ h => .inl h), by simp only [ua, seval, e0], by simp only [ua, seval, e2], by simp only [ua, seval, e3], by simp only [ua, seval, e4], by simp only [ua, seval, e5], by simp only [ua, seval, e6], by simp only [ua, seval, e7], by simp only [ua, seval]⟩
theorem J6 {α : Type} {enc : α → List VV} (he : EncOk enc) : ∀ {l : List α}, normV (vx enc l) = .sl (aa enc l) l.length false
 | [] => rfl
 | a :: l => by
  show normV (.sl (aa enc (a :: l)) (a :: l).length false) = _
  simp [normV, he.normL]
theorem CX {l : List Int} : normV (vx eI l) = sI l := J6 eI_ok
theorem jy {α : Type} {enc : α → List VV} : ∀ {l : List α}, (vx enc l).leaf = true
 | [] => rfl
 | a :: l => rfl
theorem rR {l : List Int} : (vx eI l).tree = true := J7 eI_ok
theorem zQ {H : Nat → Option VObj} {f : FuncId} {J8 fZ : Option TypeId} {c1 c2 : List VV} (h0 : H 0 = some (.cells J8 c1)) (h1 : H 1 = some (.cells fZ c2)) (t0 : treeL c1 = true) (t1 : treeL c2 = true) (l0 : c1.length < 40) (l1 : c2.length < 40) :
  sealV H 50 (.fn (.func f) [] [.ptr 0 0, .ptr 1 0]) = some (.fn (.func f) [] [.tp c1, .tp c2]) := by
 have e0 : sealV H 48 (.ptr 0 0) = some (.tp c1) := by
  show sealV H (47 + 1) _ = _
  have : (VV.ptr 0 0).tree = false := rfl
  simp only [sealV, this, h0, Nat.zero_le, if_true, List.drop_zero]
  rw [rP _ 47 t0 (by omega)]
  rfl
 have e1 : sealV H 47 (.ptr 1 0) = some (.tp c2) := by
  show sealV H (46 + 1) _ = _
  have : (VV.ptr 1 0).tree = false := rfl
  simp only [sealV, this, h1, Nat.zero_le, if_true, List.drop_zero]
  rw [rP _ 46 t1 (by omega)]
  rfl
 have s3 : aP H 47 [] = some [] := by
  show aP H (46 + 1) _ = _
  simp only [aP]
 have s2 : aP H 48 [.ptr 1 0] = some [.tp c2] := by
  show aP H (47 + 1) _ = _
  simp only [aP, e1, s3]
 have s1 : aP H 49 [.ptr 0 0, .ptr 1 0] = some [.tp c1, .tp c2] := by
  show aP H (48 + 1) _ = _
  simp only [aP, e0, e1]
 have s0 : aP H 49 [] = some [] := by
  show aP H (48 + 1) _ = _
  simp only [aP]
 show sealV H (49 + 1) _ = _
 have e3 : (VV.fn (.func f) [] [.ptr 0 0, .ptr 1 0]).tree = false := rfl
 simp only [sealV, e3, s1, s0]
 rfl
def itS (s : GLs) (out : List Int) : VV := .fn (.func 126) [] [.tp (cGLs s), .tp [vx eI out]]
theorem J9 (s : GLs) (out : List Int) : ad Tryz.prog G0 92 [.agg (cGLs s), vx eI out] (.tree (itS s out)) := by
 refine ad.run mixed Tryz.call92 Tryz.func92 rfl (by simp [Tryz.ntmps92]; kernel_rfl) ?_
 simp only [vz, tyf, seval, ua, rg, vcells1 jy]
 refine ⟨rfl, .fn (.func 126) [] [.ptr 0 0, .ptr 1 0], by simp [Tryz.results92, resV, resL, aJ, upd], 50, ?_⟩
 exact zQ (c1 := cGLs s) (c2 := [vx eI out]) (J8 := some 28) (fZ := some 22) (by simp only [br, seval] <;> rfl) (by simp only [br, seval] <;> rfl) (eK.tree s) (by simp [treeL, rR]) (by simp [cGLs]) (by simp)
def u4 (s : GLs) (out : List Int) : Option (List (List GLe)) := Option.bind (u5 s out) fun poss => if poss.length < 1000000 ∧ out.length < 1000000 then stgO poss (poss.length - 1) s.Rows 5 [] 0 else none
theorem Vf (s : GLs) (out : List Int) (L : List (List GLe)) (h : u4 s out = some L) : Iter Tryz.prog G0 (itS s out) (L.map (sSet out)) := by
 unfold u4 at h
 rcases hp : u5 s out with _ | poss
 ·rw [hp] at h; cases h
 rw [hp, Option.bind_some] at h
 split at h
 rotate_left
 ·cases h
 rename_i hb
 obtain ⟨wH, Vg⟩ := hb
 have hpos : 0 < poss.length := by
  rcases poss with _ | ⟨a, l⟩
  ·exfalso
   simp only [stgO, List.length_nil] at h
   rcases hg : goStg (stgO [] (0 - 1) s.Rows 4) [] [] (if (((0 : Nat) : Int) + 1 < s.Rows) then 0 - 1 - 0 else 0) 0 with _ | a
   ·simp_all
   ·simp_all
  ·exact Nat.succ_pos _
 refine ⟨126, [], _, rfl, fun β I hst hr H nx hβ hI => ?_⟩
 refine av.run mixed Tryz.call126 Tryz.func126 rfl (by simp [Tryz.ntmps126]; kernel_rfl) ?_
 simp only [List.nil_append, List.cons_append, argsTm3, vz, tyf, seval, ua, rg]
 refine ktree (args0 := [.agg (cGLs s), sI out]) (by first | (simp only [nrm, ar, CX] <;> rfl) | rfl) (by simp only [tre, aw, rR, Bool.and_self]) (Ro _ _ _ hp) ?_
 refine bt (fun tm => tm 1 = .tp (cGLs s) ∧ tm 2 = .tp [vx eI out] ∧ tm 3 = .ptr nx 0 ∧ tm 9 = sE poss) (by refine ⟨?_, ?_, ?_, ?_⟩ <;> simp only [ua, seval, tyf, Nat.add_zero]) ?_
 rintro tm ⟨e1, e2, e3, e9⟩
 have hw : i64.wrap ((poss.length : Int) - 1) = ((poss.length - 1 : Nat) : Int) := by rw [IntWalk.i64_in _ (by omega)]; omega
 simp only [vz, tyf, seval, ua, nm, rg, e1, e2, e3, e9, hw]
 refine kopen ?_
 rw [J5]
 refine av.mono (J3 (s := s) (out := out) (poss := poss) (last := poss.length - 1) (y := nx) (e := nx + 11) (pl := nx + 4) (la := nx + 9) hst hr (by omega) Vg 5 [] 0 [] L (fun γ => γ = nx ∨ γ = nx + 4 ∨ γ = nx + 9 ∨ γ = nx + 11) _ _ h (by simp) (by omega) (by omega) (by rintro γ (rfl | rfl | rfl | rfl) <;> omega) (.inl rfl) (.inr (.inr (.inr rfl))) (.inr (.inl rfl)) (.inr (.inr (.inl rfl))) (by simp [updH]) (by simp [updH]) (by simp [updH]) (by simp only [updH]; simp; rfl) ?_) ?_ (fun _ _ _ h => h.elim)
 ·rw [List.append_nil]
  refine hst _ _ _ _ _ _ _ hI ?_ (by omega) (by rintro γ (rfl | rfl | rfl | rfl) <;> right <;> omega)
  intro γ h _
  simp only [updH]
  repeat rw [if_neg (by omega)]
 rintro v H2 nM ⟨b, rfl, h1, h2, h3⟩
 simp only [vz, tyf, seval, ua]
 refine Gk (x := .tup []) (by simp [Tryz.results126, resV, resL]) ?_
 replace h3 := hst _ _ noFr _ _ _ _ h3 (fun _ _ _ => rfl) (qZe _) (fun γ h => h.elim)
 cases b with
 | true => exact .inl h3
 | false => exact .inr h3
def strR : Option Gld → Int × Int
 | none => (0, 5)
 | some l => (l.stretch, 0)
def tQ (s : GLs) (x : GLx) : Option (Int × Int) := Option.bind (tl s) fun b => cond b (Option.bind (u6 s x) fun c => cond c (Option.bind (rS s x 0) fun l => Option.bind (wI l) fun w => some (strR w)) (some (0, 2))) (some (0, 2))
theorem EJ (s : GLs) (x : GLx) (R : Int × Int) (h : tQ s x = some R) : ad Tryz.prog G0 32 [.agg (cGLs s), .agg (cGLx x)] (.tree (.tup [.lit (.int .i64 R.1), .lit (.int .i64 R.2)])) := by
 refine ad.runR mixed Tryz.call32 Tryz.func32 rfl (by simp [Tryz.ntmps32]; kernel_rfl) ?_
 unfold tQ at h
 rcases o0 : tl s with _ | b
 ·rw [o0] at h; cases h
 rw [o0, Option.bind_some] at h
 simp only [vz, tyf, seval, ua, rg]
 refine ktA (Rq _ _ o0) ?_
 cases b with
 | false =>
  simp only [cond_false, Option.some.injEq] at h
  subst h
  simp only [vz, tyf, seval, ua, rg, Bool.not_false]
  refine d4 (x := .tup [.lit (.int .i64 0), .lit (.int .i64 2)]) (by simp only [Tryz.results32, resV, resL, aJ, dU, dT, uw, cr, tyf, nm, seval] <;> rfl) ?_
  refine dW (by simp only [tre, aw, Bool.and_self]) ?_
  simp only [outV, nrm, ar, tyf, seval, List.map_cons, List.map_nil]
 | true =>
 rw [cond_true] at h
 rcases o1 : u6 s x with _ | c
 ·rw [o1] at h; cases h
 rw [o1, Option.bind_some] at h
 simp only [vz, tyf, seval, ua, rg, Bool.not_true]
 refine ktA (Vh _ _ _ o1) ?_
 cases c with
 | false =>
  simp only [cond_false, Option.some.injEq] at h
  subst h
  simp only [vz, tyf, seval, ua, rg, Bool.not_false]
  refine d4 (x := .tup [.lit (.int .i64 0), .lit (.int .i64 2)]) (by simp only [Tryz.results32, resV, resL, aJ, dU, dT, uw, cr, tyf, nm, seval] <;> rfl) ?_
  refine dW (by simp only [tre, aw, Bool.and_self]) ?_
  simp only [outV, nrm, ar, tyf, seval, List.map_cons, List.map_nil]
 | true =>
 rw [cond_true] at h
 rcases o2 : rS s x 0 with _ | l
 ·rw [o2] at h; cases h
 rw [o2, Option.bind_some] at h
 rcases o3 : wI l with _ | w
 ·rw [o3] at h; cases h
 rw [o3, Option.bind_some, Option.some.injEq] at h
 simp only [vz, tyf, seval, ua, rg, Bool.not_true]
 refine ktA (Rr _ _ _ _ o2) ?_
 simp only [vz, @iq, tyf, seval, ua, rg]
 refine ktree (args0 := [.agg (cGld l)]) (by first | (simp only [nrm, ar, mqr] <;> rfl) | rfl) (by simp only [tre, aw, mqr, Bool.and_self]) (Rs _ _ o3) ?_
 cases w with
 | none =>
  simp only [strR] at h
  subst h
  simp only [vz, @iq, mq, mqm, mqt, tyf, seval, ua, nm, rg, wV, zlN]
  refine d4 (x := .tup [.lit (.int .i64 0), .lit (.int .i64 5)]) (by simp only [Tryz.results32, resV, resL, aJ, dU, dT, uw, cr, tyf, nm, seval] <;> rfl) ?_
  refine dW (by simp only [tre, aw, Bool.and_self]) ?_
  simp only [outV, nrm, ar, tyf, seval, List.map_cons, List.map_nil]
 | some y =>
  simp only [strR] at h
  subst h
  simp only [vz, @iq, mq, mqm, mqt, tyf, seval, ua, nm, rg, wV, zlN]
  refine d4 (x := .tup [.lit (.int .i64 y.stretch), .lit (.int .i64 0)]) (by simp only [Tryz.results32, resV, resL, aJ, dU, dT, uw, cr, tyf, nm, seval] <;> rfl) ?_
  refine dW (by simp only [tre, aw, Bool.and_self]) ?_
  simp only [outV, nrm, ar, tyf, seval, List.map_cons, List.map_nil]




theorem u7 : ∀ (es : List GLe) (fl : List FL), AL es fl → es.length ≤ fl.length
 | [], [], _ => qZe _
 | [], _ :: _, h => h.elim
 | _ :: _, [], h => h.elim
 | e :: es, f :: fl, h => by
  unfold AL at h
  split at h
  ·have := u7 es fl h
   simp; omega
  ·have := u7 (e :: es) fl h
   simp at this ⊢; omega
theorem zR (out : List Int) : ∀ (ws : List GLw) (i : Int), (∀ w ∈ ws, w.Signs.length ≤ 6) → (ltrsL out ws i).length ≤ 6 * ws.length
 | [], _, _ => by simp [ltrsL]
 | w :: ws, i, h => by
  have h1 := zR out ws (i + 1) fun x hx => h x (qZa _ hx)
  have h2 := h w (qZb ..)
  unfold ltrsL
  cases out.contains i <;> simp [zS] <;> omega
theorem u9 : ∀ (es : List GLe) (fl : List FL) (r : Int) (m : Glm), m ∈ (mkS es fl r).1 → ∃ f ∈ fl, f.2.1 = m.sign
 | es, [], r, m, h => by cases es <;> simp [mkS] at h
 | [], f :: fl, r, m, h => by simp [mkS] at h
 | e :: es, f :: fl, r, m, h => by
  by_cases he : e = f.1
  ·rw [zT he] at h
   rcases List.mem_cons.1 h with rfl | h
   ·exact ⟨f, qZb .., rfl⟩
   ·obtain ⟨g, hg, h2⟩ := u9 es fl (r + 1) m h
    exact ⟨g, qZa _ hg, h2⟩
  ·rw [zU he] at h
   rcases List.mem_cons.1 h with rfl | h
   ·exact ⟨f, qZb .., rfl⟩
   ·obtain ⟨g, hg, h2⟩ := u9 (e :: es) fl r m h
    exact ⟨g, qZa _ hg, h2⟩
theorem uA : ∀ (es : List GLe) (fl : List FL) (r : Int), AL es fl → (mkS es fl r).1.length = fl.length
 | [], [], r, _ => by simp [mkS]
 | [], _ :: _, _, h => h.elim
 | _ :: _, [], _, h => h.elim
 | e :: es, f :: fl, r, h => by
  unfold AL at h
  by_cases he : e = f.1
  ·rw [if_pos he] at h
   rw [zT he]
   simp [uA es fl (r + 1) h]
  ·rw [if_neg he] at h
   rw [zU he]
   simp [uA (e :: es) fl r h]
theorem uB : ∀ (es : List GLe) (fl : List FL) (r : Int), AL es fl → ∀ j : Int, r ≤ j → j < r + es.length → ∃ m ∈ (mkS es fl r).1, m.row = j
 | [], _, r, _, j, h1, h2 => by simp at h2; omega
 | _ :: _, [], _, h, _, _, _ => h.elim
 | e :: es, f :: fl, r, h, j, h1, h2 => by
  simp only [List.length_cons] at h2
  unfold AL at h
  by_cases he : e = f.1
  ·rw [if_pos he] at h
   rw [zT he]
   by_cases hj : j = r
   ·exact ⟨_, qZb .., hj.symm⟩
   ·obtain ⟨m, hm, h3⟩ := uB es fl (r + 1) h j (by omega) (by omega)
    exact ⟨m, qZa _ hm, h3⟩
  ·rw [if_neg he] at h
   rw [zU he]
   obtain ⟨m, hm, h3⟩ := uB (e :: es) fl r h j h1 (by simp only [List.length_cons]; omega)
   exact ⟨m, qZa _ hm, h3⟩
def marksOf (s : GLs) (x : GLx) : List Glm := (mkS x.Ends (ltrsL x.Out s.Words 0) 0).1
theorem JA {s : GLs} (h : Sh s) {x : GLx} (hs : IsS (possL x.Out s.Words 0) x.Ends) : AL x.Ends (ltrsL x.Out s.Words 0) :=
 AL_of _ _ hs.1 (uC _ _ _) (fun e he => zV _ _ _ (fun w hw => ⟨(h.wlen w hw).1, (h.wcut w hw).2.1⟩) e (hs.2.1 e he)) (by rw [hs.2.2, Rt _ _ _ fun w hw => (h.wlen w hw).1])
theorem JB {s : GLs} (h : Sh s) {x : GLx} (ho : lenOk x.Out = true) (hs : IsS (possL x.Out s.Words 0) x.Ends) {k : Int} (h0 : 0 ≤ k) (h1 : k ≤ 10) : ∃ l, rS s x k = some l ∧ LOk l ∧ l.ls = s ∧ l.lx = x ∧ l.stretch = k ∧ l.marks = marksOf s x := by
 have hal := JA h hs
 have hw := h.nw
 have hp := h.npair
 have hl := zR x.Out s.Words 0 fun w hw => (h.wlen w hw).2
 have he := u7 _ _ hal
 obtain ⟨m, hm, hmo⟩ := zW s.Pairs 0 [] (fun _ _ => none) (fun l r => ⟨rfl, fun v hv => by cases hv⟩)
 have h2 := uD x ho (by omega) s.Words 0 0 [] x.Ends (fun w hw => (h.wlen w hw).2) (Int.le_refl _) (by omega) rfl hal (by simp; omega)
 refine ⟨_, by simp only [rS]; rw [oJ (by omega), cond_true, hm, pn, oJ (by omega), cond_true, h2, pn], ⟨h, hmo, fun q hq => ?_, ?_, by simp only; omega, ?_, h0, h1⟩, rfl, rfl, rfl, by simp [marksOf]⟩
 ·rw [List.nil_append] at hq
  obtain ⟨f, hf, e⟩ := u9 _ _ _ _ hq
  obtain ⟨_, w, hw, hc⟩ := CY hf
  have := h.wsign w hw _ hc
  rw [e] at this
  exact this
 ·simp only [List.nil_append]
  rw [uA _ _ _ hal]
  omega
 ·intro j a b
  simp only [List.nil_append]
  exact uB _ _ 0 hal j a (by simpa using b)
theorem JC {l : Gld} (h : LOk l) {k : Int} (h0 : 0 ≤ k) (h1 : k ≤ 10) : LOk (setS l k) := ⟨h.sh, h.mp, h.sg, h.nm, h.ne, h.rw, h0, h1⟩
theorem JD {l : Gld} (h : LOk l) {k k' : Int} (h0 : 0 ≤ k) (hk : k ≤ k') (h1 : k' ≤ 10) (hf : fitB l k' = true) : fitB l k = true := by
 unfold fitB at hf ⊢
 simp only [Bool.and_eq_true, Rh] at hf ⊢
 exact ⟨fun j a b => Int.le_trans (Rg h.sh h0 hk h1 j l.marks) (hf.1 j a b), hf.2⟩
theorem zX {l : Gld} (h : LOk l) : ∀ (m i : Nat) (acc : Option Gld), i + m = 11 → (∀ j : Nat, j < i → fitB l (j : Int) = true) → (acc = if i = 0 then none else some (setS l ((i : Int) - 1))) →
  ∃ w, wLoop l m i acc = some w ∧ ((w = none ∧ fitB l 0 = false) ∨ ∃ K : Nat, K ≤ 10 ∧ w = some (setS l (K : Int)) ∧ ∀ j : Nat, j ≤ 10 → fitB l (j : Int) = decide (j ≤ K))
 | 0, i, acc, hi, hj, ha => by
  refine ⟨acc, rfl, .inr ⟨10, qZe _, ?_, fun j hj' => ?_⟩⟩
  ·rw [ha, if_neg (by omega)]
   congr 2
   omega
  ·rw [hj j (by omega), decide_eq_true hj']
 | m + 1, i, acc, hi, hj, ha => by
  have hl := JC h (k := (i : Int)) (by omega) (by omega)
  have hf : uy (setS l (i : Int)) = some (fitB l (i : Int)) := Jw hl
  simp only [wLoop, hf, Option.bind_some]
  cases hb : fitB l (i : Int) with
  | true =>
   simp only [cond_true]
   refine zX h m (i + 1) _ (by omega) (fun j h2 => ?_) ?_
   ·by_cases hji : j = i
    ·rw [hji]; exact hb
    ·exact hj j (by omega)
   ·rw [if_neg (by omega)]
    congr 2
    omega
  | false =>
   simp only [cond_false]
   refine ⟨acc, rfl, ?_⟩
   by_cases h0 : i = 0
   ·subst h0
    exact .inl ⟨by rw [ha, if_pos rfl], hb⟩
   ·right
    refine ⟨i - 1, by omega, ?_, fun j hj' => ?_⟩
    ·rw [ha, if_neg h0]
     congr 2
     omega
    ·by_cases hji : j ≤ i - 1
     ·rw [decide_eq_true hji]; exact hj j (by omega)
     ·rw [decide_eq_false hji]
      cases hc : fitB l (j : Int) with
      | false => rfl
      | true =>
       have := JD h (k := (i : Int)) (k' := (j : Int)) (by omega) (by omega) (by omega) hc
       rw [this] at hb
       cases hb
def fitS (s : GLs) (x : GLx) (k : Int) : Bool := rowsOk s k (marksOf s x) x.Ends.length 0 && decide ((x.Ends.length : Int) ≤ s.Rows)
def MostS (s : GLs) (x : GLx) : Option Nat → Prop
 | none => fitS s x 0 = false
 | some K => K ≤ 10 ∧ ∀ j : Nat, j ≤ 10 → fitS s x (j : Int) = decide (j ≤ K)
theorem Ru {s : GLs} (h : Sh s) {x : GLx} (ho : lenOk x.Out = true) (hs : IsS (possL x.Out s.Words 0) x.Ends) : ∃ l w o, rS s x 0 = some l ∧ wI l = some w ∧ MostS s x o ∧ (w = o.map fun K => setS l (K : Int)) ∧ l.ls = s ∧ l.lx = x ∧ LOk l := by
 obtain ⟨l, h1, h2, h3, h4, h5, h6⟩ := JB h ho hs (k := 0) (Int.le_refl _) (by omega)
 obtain ⟨w, q1, q2⟩ := zX h2 11 0 none rfl (fun j hj => by omega) rfl
 have e : ∀ k, fitB l k = fitS s x k := fun k => by unfold fitB fitS; rw [h3, h4, h6]
 rcases q2 with ⟨rfl, q2⟩ | ⟨K, k1, rfl, q2⟩
 ·exact ⟨l, none, none, h1, q1, by rw [e] at q2; exact q2, rfl, h3, h4, h2⟩
 ·exact ⟨l, _, some K, h1, q1, ⟨k1, fun j hj => by rw [← e]; exact q2 j hj⟩, rfl, h3, h4, h2⟩
theorem Rv : ∀ (p : List GLw) (i : Int), ∃ r, wJ p i = some r ∧ (∀ k c, r ≠ .brk k c)
 | [], _ => ⟨_, rfl, by intro _ _ h; cases h⟩
 | e :: p, i => by
  obtain ⟨r, hr, h⟩ := Rv p (i + 1)
  simp only [wJ, hr]
  cases decide (i < 6)
  ·exact ⟨_, rfl, by intro _ _ h; cases h⟩
  ·cases decide ((e.Signs.length : Int) > 8)
   ·cases decide ((e.Cuts.length : Int) > 8)
    ·exact ⟨_, rfl, h⟩
    ·exact ⟨_, rfl, by intro _ _ h; cases h⟩
   ·exact ⟨_, rfl, by intro _ _ h; cases h⟩
theorem JE (s : GLs) (h : lenOk s.Words = true) : ∃ b, zY s = some b := by
 obtain ⟨r, hr, hk⟩ := Rv s.Words 0
 simp only [zY, h, cond_true, hr]
 match r, hk with
 | .ret b, _ => exact ⟨_, rfl⟩
 | .go _, _ =>
  simp only [lbind]
  cases decide ((s.Widths.length : Int) ≤ 8)
  ·exact ⟨_, rfl⟩
  ·cases decide ((s.Pairs.length : Int) ≤ 8)
   ·exact ⟨_, rfl⟩
   ·exact ⟨_, rfl⟩
 | .brk k c, hk => exact absurd rfl (hk k c)
theorem EU (s : GLs) (x : GLx) (h : FineS s) (hx : lenOk x.Out = true ∧ lenOk x.Ends = true) : wj s x = some false ∨ (wj s x = some true ∧ sheetB s = true ∧ outB s x.Out = true ∧ IsS (possL x.Out s.Words 0) x.Ends) := by
 obtain ⟨b, hb⟩ := JE s h.2.2.1
 have e2 : ri x = some (decide ((x.Out.length : Int) ≤ 6) && decide ((x.Ends.length : Int) ≤ 10)) := by
  unfold ri
  cases decide ((x.Out.length : Int) ≤ 6) <;> rfl
 unfold wj
 rw [hb, e2, JF s h]
 simp only [Option.bind_some]
 cases b with
 | false => exact .inl rfl
 | true =>
  rw [cond_true]
  cases (decide ((x.Out.length : Int) ≤ 6) && decide ((x.Ends.length : Int) ≤ 10)) with
  | false => exact .inl rfl
  | true =>
   rw [cond_true]
   cases hs : sheetB s with
   | false => exact .inl rfl
   | true =>
    rw [cond_true, Qo (sh_of hs) x hx.1 hx.2, Option.bind_some]
    cases ho : outB s x.Out with
    | false => exact .inl rfl
    | true =>
     cases he : areE x.Ends (possL x.Out s.Words 0) with
     | false => exact .inl rfl
     | true => exact .inr ⟨rfl, rfl, rfl, (wu _ _ (yr (sh_of hs) x.Out)).1 he⟩
structure Good (s : GLs) (x : GLx) : Prop where
 fine : FineS s
 sheet : sheetB s = true
 out : outB s x.Out = true
 ends : IsS (possL x.Out s.Words 0) x.Ends
 lo : lenOk x.Out = true
 le : lenOk x.Ends = true
theorem Good.sh {s : GLs} {x : GLx} (g : Good s x) : Sh s := sh_of g.sheet
theorem Good.is {s : GLs} {x : GLx} (g : Good s x) : u6 s x = some true := by
 rw [Vi g.sh x g.lo g.le, g.out]
 have := (wu _ _ (yr g.sh x.Out)).2 g.ends
 rw [this]; rfl
def strO : Option Nat → Int × Int
 | none => (0, 5)
 | some K => ((K : Int), 0)
theorem Qm {s : GLs} {x : GLx} (g : Good s x) : ∃ o, tQ s x = some (strO o) ∧ MostS s x o := by
 obtain ⟨l, w, o, e1, e2, e3, e4, e5, e6, e7⟩ := Ru g.sh g.lo g.ends
 refine ⟨o, ?_, e3⟩
 simp only [tQ, JG s g.fine, g.sheet, Option.bind_some, cond_true, g.is, e1, e2]
 rw [e4]
 cases o <;> rfl
end Go.V
end
