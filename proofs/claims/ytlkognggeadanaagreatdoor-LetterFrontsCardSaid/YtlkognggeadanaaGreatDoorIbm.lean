/- Part of a proof. -/
import Derived.Test.YtlkognggeadanaaGreatDoorIbl
set_option linter.all false
set_option maxRecDepth 4000
set_option maxHeartbeats 40000000
section
namespace Go.V
open Go Go.Proofs IntKind
def wi (k : Int) (x : GSpan) : Int := x.Low + Int.tdiv ((x.High - x.Low) * k) 10
theorem wi_b {k : Int} {x : GSpan} (h : 0 ≤ x.Low ∧ x.Low ≤ x.High ∧ x.High ≤ 20) (h0 : 0 ≤ k) (h1 : k ≤ 10) : x.Low ≤ wi k x ∧ wi k x ≤ x.High ∧ 0 ≤ (x.High - x.Low) * k ∧ (x.High - x.Low) * k ≤ 200 := by
 have hm := mulR (a := x.High - x.Low) (A := 20) (b := k) (B := 10) (by omega) (by omega) h0 h1
 have h2 : (x.High - x.Low) * k ≤ (x.High - x.Low) * 10 := Int.mul_le_mul_of_nonneg_left h1 (by omega)
 have hd := Int.tdiv_eq_ediv_of_nonneg (b := 10) hm.1
 unfold wi
 rw [hd]
 omega
theorem uB {k k' : Int} {x : GSpan} (h : 0 ≤ x.Low ∧ x.Low ≤ x.High ∧ x.High ≤ 20) (h0 : 0 ≤ k) (hk : k ≤ k') (h1 : k' ≤ 10) : wi k x ≤ wi k' x := by
 have h2 : (x.High - x.Low) * k ≤ (x.High - x.Low) * k' := Int.mul_le_mul_of_nonneg_left hk (by omega)
 have a := (wi_b h h0 (by omega)).2.2.1
 unfold wi
 rw [Int.tdiv_eq_ediv_of_nonneg a, Int.tdiv_eq_ediv_of_nonneg (by omega)]
 omega
theorem O5 (l : Gld) (x : GSpan) (h : 0 ≤ x.Low ∧ x.Low ≤ x.High ∧ x.High ≤ 20) (h0 : 0 ≤ l.stretch) (h1 : l.stretch ≤ 10) : rO l x = some (wi l.stretch x) := by
 have hb := wi_b h h0 h1
 unfold rO wi
 unfold wi at hb
 rw [lY (n := x.High - x.Low) (by omega) (by omega), lY (n := (x.High - x.Low) * l.stretch) (by omega) (by omega), lY (n := Int.tdiv _ 10) (by omega) (by omega), lY (by omega) (by omega)]
def spP (s : GLs) (a b : Int) : GSpan := (lastP a b s.Pairs none).getD s.Other
theorem Sk {a b : Int} : ∀ (ps : List GLp) (o : Option GSpan) (v : GSpan), lastP a b ps o = some v → o = some v ∨ ∃ p ∈ ps, p.Left = a ∧ p.Right = b ∧ p.Space = v
 | [], o, v, h => .inl h
 | p :: ps, o, v, h => by
  rcases Sk ps _ v h with h | ⟨q, h1, h2⟩
  ·split at h
   ·rename_i hc
    simp only [Option.some.injEq] at h
    exact .inr ⟨p, qZb .., hc.1.symm, hc.2.symm, h⟩
   ·exact .inl h
  ·exact .inr ⟨q, qZa _ h1, h2⟩
theorem spP_b {s : GLs} (h : Sh s) (a b : Int) : 0 ≤ (spP s a b).Low ∧ (spP s a b).Low ≤ (spP s a b).High ∧ (spP s a b).High ≤ 20 := by
 unfold spP
 cases hl : lastP a b s.Pairs none with
 | none => have := h.other; simp only [Option.getD_none]; omega
 | some v =>
  rcases Sk _ _ _ hl with hh | ⟨p, h1, _, _, rfl⟩
  ·cases hh
  ·have := h.pair p h1
   simp only [Option.getD_some]; omega
def spF (s : GLs) (k : Int) (m : Glm) : Option Glm → Int
 | none => cond m.hyphen (wi k s.Other) 0
 | some n => cond m.hyphen (wi k s.Other) (if n.row = m.row then (if n.word = m.word then wi k (spP s m.sign n.sign) else wi k s.Gap) else 0)
theorem spF_b {s : GLs} (h : Sh s) {k : Int} (h0 : 0 ≤ k) (h1 : k ≤ 10) (m : Glm) (n : Option Glm) : 0 ≤ spF s k m n ∧ spF s k m n ≤ 20 := by
 have ho := h.other
 have hg := h.gap
 have a := wi_b (x := s.Other) (by omega) h0 h1
 have b := wi_b (x := s.Gap) (by omega) h0 h1
 unfold spF
 cases n with
 | none => cases m.hyphen <;> simp only [cond_true, cond_false] <;> omega
 | some n =>
  have hc := spP_b h m.sign n.sign
  have c := wi_b hc h0 h1
  simp only
  cases m.hyphen with
  | true => simp only [cond_true]; omega
  | false =>
   simp only [cond_false]
   split
   ·split <;> omega
   ·omega
theorem O6 {s : GLs} (h : Sh s) {k k' : Int} (h0 : 0 ≤ k) (hk : k ≤ k') (h1 : k' ≤ 10) (m : Glm) (n : Option Glm) : spF s k m n ≤ spF s k' m n := by
 have ho := h.other
 have hg := h.gap
 have a := uB (x := s.Other) (by omega) h0 hk h1
 have b := uB (x := s.Gap) (by omega) h0 hk h1
 unfold spF
 cases n with
 | none => cases m.hyphen <;> simp only [cond_true, cond_false] <;> omega
 | some n =>
  have c := uB (spP_b h m.sign n.sign) h0 hk h1
  simp only
  cases m.hyphen with
  | true => simp only [cond_true]; omega
  | false =>
   simp only [cond_false]
   split
   ·split <;> omega
   ·omega
def wd (s : GLs) (n : Int) : Int := (getI s.Widths n).getD 0
theorem vP {s : GLs} (h : Sh s) {n : Int} (h0 : 0 ≤ n) (h1 : n < s.Widths.length) : getI s.Widths n = some (wd s n) ∧ 1 ≤ wd s n ∧ wd s n ≤ 20 := by
 obtain ⟨x, hx, hm⟩ := RB h0 h1
 have := h.wid x hm
 unfold wd
 rw [hx]
 exact ⟨rfl, this.1, this.2⟩
def addL (s : GLs) (k r : Int) : List Glm → List Int
 | [] => []
 | m :: ms => (if m.row = r then [wd s m.sign, spF s k m ms.head?] ++ cond m.hyphen [s.Hyphen] [] else []) ++ addL s k r ms
def Marks (s : GLs) (ms : List Glm) : Prop := ∀ m ∈ ms, 0 ≤ m.sign ∧ m.sign < s.Widths.length
theorem uC {s : GLs} (h : Sh s) {k r : Int} (h0 : 0 ≤ k) (h1 : k ≤ 10) : ∀ (ms : List Glm), Marks s ms → (∀ x ∈ addL s k r ms, 0 ≤ x ∧ x ≤ 20) ∧ (addL s k r ms).length ≤ 3 * ms.length
 | [], _ => by simp [addL]
 | m :: ms, hm => by
  obtain ⟨i1, i2⟩ := uC h h0 h1 (r := r) ms fun x hx => hm x (qZa _ hx)
  have hs := hm m (qZb ..)
  have hw := vP h hs.1 hs.2
  have hp := spF_b h h0 h1 m ms.head?
  have hh := h.hyp
  unfold addL
  split
  ·cases m.hyphen with
   | true =>
    simp only [cond_true, List.cons_append, List.nil_append, List.mem_cons, List.length_cons]
    refine ⟨?_, by omega⟩
    rintro x (rfl | rfl | rfl | hx)
    ·omega
    ·omega
    ·omega
    ·exact i1 x hx
   | false =>
    simp only [cond_false, List.append_nil, List.cons_append, List.nil_append, List.mem_cons, List.length_cons]
    refine ⟨?_, by omega⟩
    rintro x (rfl | rfl | hx)
    ·omega
    ·omega
    ·exact i1 x hx
  ·simp only [List.nil_append, List.length_cons]
   exact ⟨i1, by omega⟩
def rowF (s : GLs) (k r : Int) (ms : List Glm) : Int := (addL s k r ms).sum
theorem sum_b : ∀ (xs : List Int), (∀ x ∈ xs, 0 ≤ x ∧ x ≤ 20) → 0 ≤ xs.sum ∧ xs.sum ≤ 20 * xs.length
 | [], _ => by simp
 | x :: xs, h => by
  have ih := sum_b xs fun y hy => h y (qZa _ hy)
  have := h x (qZb ..)
  simp only [List.sum_cons, List.length_cons]
  omega
theorem AR : ∀ (xs : List Int) (i a : Int), (∀ x ∈ xs, 0 ≤ x ∧ x ≤ 20) → 0 ≤ a → a + 20 * xs.length ≤ 1000000 → tz xs i a = some (.go (a + xs.sum))
 | [], _, a, _, _, _ => by simp [tz]
 | x :: xs, i, a, h, h0, h1 => by
  have := h x (qZb ..)
  simp only [List.length_cons] at h1
  simp only [tz]
  rw [lY (by omega) (by omega), AR xs (i + 1) _ (fun y hy => h y (qZa _ hy)) (by omega) (by omega), List.sum_cons, Int.add_assoc]
theorem O7 (xs : List Int) (h : ∀ x ∈ xs, 0 ≤ x ∧ x ≤ 20) (hl : xs.length ≤ 1000) : yi xs = some xs.sum := by
 simp only [yi]
 rw [nF (by omega), cond_true, AR xs 0 0 h (qZf _) (by omega), og, Int.zero_add]
structure LOk (l : Gld) : Prop where
 sh : Sh l.ls
 mp : MapOk l.spaces (fun a b => lastP a b l.ls.Pairs none)
 sg : Marks l.ls l.marks
 nm : l.marks.length ≤ 24
 ne : l.lx.Ends.length ≤ 24
 rw : ∀ j : Int, 0 ≤ j → j < l.lx.Ends.length → ∃ m ∈ l.marks, m.row = j
 k0 : 0 ≤ l.stretch
 k1 : l.stretch ≤ 10
theorem O8 {l : Gld} (h : LOk l) {i : Int} {m : Glm} {ms : List Glm} (h0 : 0 ≤ i) (hd : l.marks.drop i.toNat = m :: ms) : ye l i = some (spF l.ls l.stretch m ms.head?) := by
 have hg : getI l.marks i = some m := dU h0 hd
 have hlt := yK hg
 have hn := h.nm
 have ho := h.sh.other
 have hgp := h.sh.gap
 have hlen : ms.length + 1 + i.toNat = l.marks.length := by
  have := congrArg List.length hd
  simp only [List.length_drop, List.length_cons] at this
  omega
 simp only [ye, hg, Option.bind_some, O5 l l.ls.Other (by omega) h.k0 h.k1, O5 l l.ls.Gap (by omega) h.k0 h.k1]
 unfold spF
 rw [lY (by omega) (by omega)]
 cases hh : m.hyphen with
 | true => cases ms <;> rfl
 | false =>
  simp only [cond_false]
  cases ms with
  | nil =>
   have : (i + 1 == (l.marks.length : Int)) = true := by simp only [List.length_nil] at hlen; simp; omega
   rw [this]; rfl
  | cons n ms =>
   have : (i + 1 == (l.marks.length : Int)) = false := by simp only [List.length_cons] at hlen; simp; omega
   have Xh : getI l.marks (i + 1) = some n := dU (by omega) (bY h0 hd)
   rw [this, cond_false, Xh, Option.bind_some]
   simp only [List.head?_cons]
   by_cases hr : n.row = m.row
   ·have : (n.row != m.row) = false := by simp [hr]
    rw [this, cond_false, if_pos hr]
    by_cases hw : n.word = m.word
    ·have : (n.word != m.word) = false := by simp [hw]
     rw [this, cond_false, if_pos hw]
     obtain ⟨m1, m2⟩ := h.mp m.sign n.sign
     replace m1 : mapHas dg l.spaces (Glp.mk m.sign n.sign) = (lastP m.sign n.sign l.ls.Pairs none).isSome := m1
     rw [m1]
     have hb := spP_b h.sh m.sign n.sign
     unfold spP at hb ⊢
     cases hl : lastP m.sign n.sign l.ls.Pairs none with
     | none => rfl
     | some v =>
      rw [hl] at hb
      simp only [Option.getD_some] at hb ⊢
      rw [Option.isSome_some, cond_true, m2 v hl, O5 l v hb h.k0 h.k1, Option.bind_some]
    ·have : (n.word != m.word) = true := by simp [hw]
     rw [this, cond_true, if_neg hw]
   ·have : (n.row != m.row) = true := by simp [hr]
    rw [this, cond_true, if_neg hr]
theorem roomOk8 {n : Nat} (h : n ≤ 1000) : aB 8 n = true := by simp [aB]; omega
theorem rb {l : Gld} (h : LOk l) (r : Int) : ∀ (ms : List Glm) (i : Int) (acc : List Int), 0 ≤ i → l.marks.drop i.toNat = ms → acc.length + 3 * ms.length ≤ 500 → om l r ms i acc = some (.go (acc ++ addL l.ls l.stretch r ms))
 | [], i, acc, _, _, _ => by simp [om, addL]
 | m :: ms, i, acc, h0, hd, hn => by
  have hs := h.sg m (by have := Jo (dU h0 hd); exact this)
  have hw := vP h.sh hs.1 hs.2
  simp only [List.length_cons] at hn
  simp only [om, addL]
  by_cases hr : m.row = r
  ·have : (m.row != r) = false := by simp [hr]
   rw [this, cond_false, hw.1, Option.bind_some, O8 h h0 hd, Option.bind_some, roomOk8 (by simp; omega), cond_true, if_pos hr]
   cases m.hyphen with
   | true =>
    simp only [cond_true]
    rw [roomOk8 (by simp; omega), cond_true, rb h r ms (i + 1) _ (by omega) (bY h0 hd) (by simp; omega)]
    simp
   | false =>
    simp only [cond_false]
    rw [rb h r ms (i + 1) _ (by omega) (bY h0 hd) (by simp; omega)]
    simp
  ·have : (m.row != r) = true := by simp [hr]
   rw [this, cond_true, if_neg hr, rb h r ms (i + 1) acc (by omega) (bY h0 hd) (by omega)]
   simp
theorem AS {l : Gld} (h : LOk l) (r : Int) : vI l r = some (rowF l.ls l.stretch r l.marks) := by
 have hn := h.nm
 obtain ⟨a1, a2⟩ := uC h.sh h.k0 h.k1 (r := r) l.marks h.sg
 simp only [vI]
 rw [nF (by omega), cond_true, rb h r l.marks 0 [] (by omega) rfl (by simp; omega), og, List.nil_append, O7 _ a1 (by omega)]
 rfl
theorem Sl {s : GLs} (h : Sh s) {k k' : Int} (h0 : 0 ≤ k) (hk : k ≤ k') (h1 : k' ≤ 10) (r : Int) : ∀ (ms : List Glm), rowF s k r ms ≤ rowF s k' r ms
 | [] => qZf _
 | m :: ms => by
  have ih := Sl h h0 hk h1 r ms
  have hp := O6 h h0 hk h1 m ms.head?
  unfold rowF at ih ⊢
  unfold addL
  split
  ·cases m.hyphen <;> simp only [cond_true, cond_false, List.append_nil, List.cons_append, List.nil_append, List.sum_cons] <;> omega
  ·simpa using ih
theorem yL {s : GLs} (h : Sh s) {k r : Int} (h0 : 0 ≤ k) (h1 : k ≤ 10) : ∀ (ms : List Glm), Marks s ms → (∃ m ∈ ms, m.row = r) → 1 ≤ rowF s k r ms
 | [], _, ⟨_, h, _⟩ => by cases h
 | m :: ms, hm, hx => by
  have Sm : Marks s ms := fun x hx => hm x (qZa _ hx)
  have hs := hm m (qZb ..)
  have hw := vP h hs.1 hs.2
  have hp := spF_b h h0 h1 m ms.head?
  have hh := h.hyp
  have hb := sum_b _ (uC h h0 h1 (r := r) ms Sm).1
  by_cases hr : m.row = r
  ·unfold rowF
   unfold addL
   rw [if_pos hr]
   cases m.hyphen <;> simp only [cond_true, cond_false, List.append_nil, List.cons_append, List.nil_append, List.sum_cons] <;> omega
  ·have ih := yL h h0 h1 ms Sm (by
    obtain ⟨x, hx, he⟩ := hx
    rcases List.mem_cons.1 hx with rfl | hx
    ·exact absurd he hr
    ·exact ⟨x, hx, he⟩)
   unfold rowF at ih ⊢
   unfold addL
   rw [if_neg hr, List.nil_append]
   exact ih
def rowsOk (s : GLs) (k : Int) (ms : List Glm) : Nat → Int → Bool
 | 0, _ => true
 | n + 1, r => decide (rowF s k r ms ≤ s.Wide) && rowsOk s k ms n (r + 1)
theorem Sn {s : GLs} {k : Int} {ms : List Glm} : ∀ (n : Nat) (r : Int), rowsOk s k ms n r = true ↔ ∀ j : Int, r ≤ j → j < r + n → rowF s k j ms ≤ s.Wide
 | 0, r => by simp only [rowsOk, true_iff]; intro j h1 h2; omega
 | n + 1, r => by
  simp only [rowsOk, Bool.and_eq_true, decide_eq_true_eq, Sn n (r + 1)]
  constructor
  ·rintro ⟨h1, h2⟩ j h3 h4
   by_cases hj : j = r
   ·rw [hj]; exact h1
   ·exact h2 j (by omega) (by omega)
  ·exact fun h => ⟨h r (by omega) (by omega), fun j h1 h2 => h j (by omega) (by omega)⟩
def fitB (l : Gld) (k : Int) : Bool := rowsOk l.ls k l.marks l.lx.Ends.length 0 && decide ((l.lx.Ends.length : Int) ≤ l.ls.Rows)
theorem AT {l : Gld} (h : LOk l) : ∀ (es : List GLe) (r : Int), vL l es r = goB (rowsOk l.ls l.stretch l.marks es.length r)
 | [], _ => rfl
 | e :: es, r => by
  simp only [vL, BO, AS h, Option.bind_some, List.length_cons, rowsOk, mm]
  by_cases hw : rowF l.ls l.stretch r l.marks ≤ l.ls.Wide
  ·rw [decide_eq_false (show ¬ (rowF l.ls l.stretch r l.marks > l.ls.Wide) by omega), decide_eq_true hw]
   simp only [cond_false, cond_true, Option.bind_some]
   exact AT h es (r + 1)
  ·rw [decide_eq_true (show (rowF l.ls l.stretch r l.marks > l.ls.Wide) by omega), decide_eq_false hw]
   rfl
theorem O9 {l : Gld} (h : LOk l) : tC l = some (fitB l l.stretch) := by
 have := h.ne
 simp only [tC]
 rw [nF (by omega), cond_true, AT h, vY]
 unfold fitB
 cases rowsOk l.ls l.stretch l.marks l.lx.Ends.length 0 <;> rfl
def C4 (xs : List Int) : Option (List Int) := cond (neB xs) (cond (aB 8 xs.length) (some xs) none) none
theorem So (xs R : List Int) (h : C4 xs = some R) : ad Tryz.prog G0 129 [.sl (aa eI xs) xs.length false] (.own (aa eI R) R.length 1) := by
 unfold C4 at h
 cases hn : neB xs with
 | false => rw [hn] at h; cases h
 | true =>
 cases hr : aB 8 xs.length with
 | false => rw [hn, hr] at h; cases h
 | true =>
 rw [hn, hr] at h
 simp only [cond_true, Option.some.injEq] at h
 subst h
 have hc : aa eI xs ≠ [] := by
  cases xs with
  | nil => cases hn
  | cons a l => intro hh; cases hh
 have hnil : ∀ (H : Nat → Option VObj) (x y : Operand), binV Tryz.prog H .eql 22 x y (.sl (aa eI xs) xs.length false) (.lit (.slice none 0 0)) = some (.lit (.bool false)) := fun H x y => Pk Tryz.underlying22 hc
 have hb : aN Tryz.prog 22 0 [] = some ([], 1) := by kernel_rfl
 refine ad.run mixed Tryz.call129 Tryz.func129 rfl (by simp [Tryz.ntmps129]; kernel_rfl) ?_
 simp only [vz, tyf, hnil, hb, List.map_nil, seval]
 refine wU (w := 1) (enc := eI) (xs := ([] : List Int)) (ys := xs) (el := some 3) (fun _ => rfl) ot mH Tryz.underlying22 rfl hn (by rw [List.nil_append]; exact hr) ?_
 simp only [vz, tyf, List.nil_append, seval]
 refine ⟨rfl, .ref 5 0 xs.length 1 xs.length, by simp [Tryz.results129, resV, resL, aD, upd], (aa eI xs).length + 1, 5, _, aa eI xs, ⟨_, rfl⟩, by simp only [bl, bI, seval] <;> rfl, qa _ _ (eI_ok.treeL xs) (qZc _)⟩
def wx (xs : List GLe) : Option (List GLe) := cond (neB xs) (cond (aB 16 xs.length) (some xs) none) none
theorem OA (xs R : List GLe) (h : wx xs = some R) : ad Tryz.prog G0 128 [.sl (aa cGLe xs) xs.length false] (.own (aa cGLe R) R.length 2) := by
 unfold wx at h
 cases hn : neB xs with
 | false => rw [hn] at h; cases h
 | true =>
 cases hr : aB 16 xs.length with
 | false => rw [hn, hr] at h; cases h
 | true =>
 rw [hn, hr] at h
 simp only [cond_true, Option.some.injEq] at h
 subst h
 have hc : aa cGLe xs ≠ [] := by
  cases xs with
  | nil => cases hn
  | cons a l => intro hh; cases hh
 have hnil : ∀ (H : Nat → Option VObj) (x y : Operand), binV Tryz.prog H .eql 29 x y (.sl (aa cGLe xs) xs.length false) (.lit (.slice none 0 0)) = some (.lit (.bool false)) := fun H x y => Pk Tryz.underlying29 hc
 have hb : aN Tryz.prog 29 0 [] = some ([], 2) := by kernel_rfl
 refine ad.run mixed Tryz.call128 Tryz.func128 rfl (by simp [Tryz.ntmps128]; kernel_rfl) ?_
 simp only [vz, tyf, hnil, hb, List.map_nil, seval]
 refine wU (w := 2) (enc := cGLe) (xs := ([] : List GLe)) (ys := xs) (el := some 100) (fun _ => rfl) fJ fI Tryz.underlying29 rfl hn (by rw [List.nil_append]; exact hr) ?_
 simp only [vz, tyf, List.nil_append, seval]
 refine ⟨rfl, .ref 5 0 xs.length 2 xs.length, by simp [Tryz.results128, resV, resL, aD, upd], (aa cGLe xs).length + 1, 5, _, aa cGLe xs, ⟨_, rfl⟩, by simp only [bl, bI, seval] <;> rfl, qa _ _ (dz.treeL xs) (qZc _)⟩
theorem FrozenL.get {H H' : Nat → Option VObj} : ∀ {xs ys : List VV} (i : Nat), FrozenL H H' xs ys → Frozen H H' ((xs[i]?).getD (.lit undef)) ((ys[i]?).getD (.lit undef))
 | [], [], _, _ => .inl rfl
 | x :: xs, y :: ys, 0, h => h.1
 | x :: xs, y :: ys, i + 1, h => by simpa using FrozenL.get i h.2
 | [], _ :: _, _, h => h.elim
 | _ :: _, [], _, h => h.elim
theorem OB {β : Nat} {o : Oper} {st : St} {K : St → Prop} {X : Nat → Option VObj} : RoundEnd β o { st with H := X } K = RoundEnd β o st K := by
 obtain ⟨d, op, ty, pos, af, gd⟩ := o
 funext e s
 cases d <;> cases e <;> rfl
theorem Xi {P : Program} {G : Glob} {n β : Nat} {bo : Code} {o : Oper} {st : St} {K : St → Prop} {X : Nat → Option VObj} : RoundStart P G n β bo o { st with H := X } K = RoundStart P G n β bo o st K := by
 funext e s
 cases e <;> first | rfl | (unfold RoundStart; rw [OB])
theorem FrozenL.set {H H' : Nat → Option VObj} {x y : VV} (hx : Frozen H H' x y) : ∀ {xs ys : List VV} (i : Nat), FrozenL H H' xs ys → FrozenL H H' (xs.set i x) (ys.set i y)
 | [], [], _, _ => trivial
 | _ :: _, _ :: _, 0, h => ⟨hx, h.2⟩
 | _ :: _, _ :: _, i + 1, h => ⟨h.1, FrozenL.set hx i h.2⟩
 | [], _ :: _, _, h => h.elim
 | _ :: _, [], _, h => h.elim
theorem Sp {H H' : Nat → Option VObj} : ∀ (ps : List Tmp) {args args' tm tm' : List VV}, FrozenL H H' args args' → FrozenL H H' tm tm' → FrozenL H H' (roundTm tm ps args) (roundTm tm' ps args')
 | [], _, _, _, _, _, h => h
 | _ :: _, [], [], _, _, _, h => h
 | p :: ps, x :: xs, y :: ys, tm, tm', ha, h => Sp ps (args := xs) (args' := ys) ha.2 (FrozenL.set ha.1 p h)
 | _ :: _, [], _ :: _, _, _, ha, _ => ha.elim
 | _ :: _, _ :: _, [], _, _, ha, _ => ha.elim
theorem OC {H : Nat → Option VObj} {ns : List Nat} {c : Ctx} {W : World} (s : Sim c W) (hH : c.H = H) (hns : ∀ γ ∈ ns, ∃ el cs, H γ = some (.cells el cs)) : ∀ x st pe tm ps asg bo df, lessN H ns x = some (.loop st pe tm ps asg bo df) → isDef (lessN H ns) df := by
 intro x st pe tm ps asg bo df hx
 subst hH
 obtain ⟨l, fn, _, _, _, ds, hd⟩ := s.obj x _ (Br x _ hx)
 refine ⟨ds, ?_⟩
 unfold lessN
 split
 ·rename_i hm
  obtain ⟨el, cs, hc⟩ := hns df hm
  rw [hc] at hd; cases hd
 ·exact hd
theorem yieldK.freezeN {P : Program} {G : Glob} {o : Oper} {β : Nat} {args args' : List VV} {st : St} {K : St → Prop} (ns : List Nat) (hns : ∀ γ ∈ ns, ∃ el cs, st.H γ = some (.cells el cs)) (hβ : β ∉ ns) (ha : FrozenL st.H (lessN st.H ns) args args')
  (h : yieldK P G o β args' { st with H := lessN st.H ns } K) : yieldK P G o β args st K := by
 unfold yieldK at h ⊢
 have e : lessN st.H ns β = st.H β := by unfold lessN; rw [if_neg hβ]
 simp only [e] at h
 split at h
 ·rename_i pe tm ps asg bo df hl
  obtain ⟨h1, h2⟩ := h
  refine ⟨by rw [← FrozenL.length ha]; exact h1, ?_⟩
  rw [Xi] at h2
  intro ro c W a hro s hr hsz
  have hloop := OC s hr.H hns
  refine VWp.freeze (st := { tm := aK (roundTm tm ps.toList args), H := st.H, nx := st.nx, df := [] }) (lessN st.H ns) (aK (roundTm tm ps.toList args')) (fun β o' hb => ⟨o', Br β o' hb, .inl rfl⟩) hloop (fun t => ?_) h2 ro c W a hro s hr hsz
  exact FrozenL.get t (Sp ps.toList ha FrozenL.same)
 ·exact h.elim
theorem AU {H : Nat → Option VObj} {x : VV} (h : x.tree = true) (n : Nat) (hn : 1 ≤ n) : sealV H n x = some x := by
 obtain ⟨m, rfl⟩ : ∃ m, n = m + 1 := ⟨n - 1, by omega⟩
 unfold sealV
 rw [h]
 rfl
theorem wy {H : Nat → Option VObj} {γ k w cp : Nat} {el : Option TypeId} {cs : List VV} (hγ : H γ = some (.cells el cs)) (ht : treeL cs = true) (hl : cs.length = k * w) (n : Nat) (hn : cs.length + 2 ≤ n) : sealV H n (.ref γ 0 k w cp) = some (.sl cs k false) := by
 obtain ⟨m, rfl⟩ : ∃ m, n = m + 1 := ⟨n - 1, by omega⟩
 unfold sealV
 have : (VV.ref γ 0 k w cp).tree = false := rfl
 rw [this]
 simp only [Bool.false_eq_true, if_false, hγ, Nat.zero_le, if_true, List.drop_zero]
 rw [List.take_of_length_le (by omega), qa cs _ ht (by omega)]
 rfl
theorem Frozen.pair {H H' : Nat → Option VObj} {x y x' y' : VV} (m : Nat) (hx : ∀ n, m ≤ n → sealV (gone H H') n x = some x') (hy : ∀ n, m ≤ n → sealV (gone H H') n y = some y') (ht : (VV.agg [x, y]).tree = false) : Frozen H H' (.agg [x, y]) (.agg [x', y']) := by
 refine .inr (.inr ⟨m + 4, ?_⟩)
 show sealV (gone H H') ((m + 3) + 1) _ = _
 unfold sealV
 rw [ht]
 simp only [Bool.false_eq_true, if_false]
 have e3 : aO (gone H H') (m + 1) [] = some [] := by simp [aO]
 have e2 : aO (gone H H') (m + 2) [y] = some [y'] := by
  show aO (gone H H') ((m + 1) + 1) _ = _
  unfold aO
  rw [hy (m + 1) (by omega), e3]
 have e1 : aO (gone H H') (m + 3) [x, y] = some [x', y'] := by
  show aO (gone H H') ((m + 2) + 1) _ = _
  unfold aO
  rw [hx (m + 2) (by omega), e2]
 rw [e1]
 rfl
theorem wz {H : Nat → Option VObj} {ns : List Nat} {γ : Nat} {el : Option TypeId} {cs : List VV} (hm : γ ∈ ns) (hγ : H γ = some (.cells el cs)) : gone H (lessN H ns) γ = some (.cells el cs) := by
 simp [gone, lessN, hm, hγ]
abbrev sE (l : List GLe) : VV := .sl (aa cGLe l) l.length false
abbrev sSet (out : List Int) (e : List GLe) : VV := .agg [vx eI out, sE e]
def goStg (rc : List GLe → Nat → Option (List (List GLe))) (poss : List GLe) (p : List GLe) : Nat → Nat → Option (List (List GLe))
 | 0, _ => some []
 | m + 1, i => Option.bind (poss[i]?) fun e => Option.bind (rc (p ++ [e]) (i + 1)) fun a => Option.bind (goStg rc poss p m (i + 1)) fun r => some (a ++ r)
def stgO (poss : List GLe) (last : Nat) (rows : Int) : Nat → List GLe → Nat → Option (List (List GLe))
 | 0, _, _ => none
 | d + 1, p, fr => Option.bind (goStg (stgO poss last rows d) poss p (if (p.length : Int) + 1 < rows then last - fr else 0) fr) fun a => Option.bind (poss[last]?) fun e => some (a ++ [p ++ [e]])
theorem argsTm8 {a b c e f g h i : VV} : aK [a, b, c, e, f, g, h, i] = upd (upd (upd (upd (upd (upd (upd (upd (fun _ => .lit undef) 0 a) 1 b) 2 c) 3 e) 4 f) 5 g) 6 h) 7 i := by
 funext t; rcases t with _ | _ | _ | _ | _ | _ | _ | _ | t <;> simp [aK, upd]
theorem OD {P : Program} {t e : Nat} {H : Nat → Option VObj} (hu : P.underlying t = some (.slice e)) : ∀ {p : List GLe}, vlen P H t (vx cGLe p) = some (.lit (.int .i64 p.length))
 | [] => by simp [vlen, vx, hu, sls]
 | _ :: _ => by simp [vlen, vx, hu, sls]
theorem Sq : ad Tryz.prog G0 129 [.lit (.slice none 0 0)] (.tree (.lit (.slice none 0 0))) := by
 have hnil : ∀ (H : Nat → Option VObj) (x y : Operand), binV Tryz.prog H .eql 22 x y (.lit (.slice none 0 0)) (.lit (.slice none 0 0)) = some (.lit (.bool true)) := fun H x y => by kernel_rfl
 refine ad.run mixed Tryz.call129 Tryz.func129 rfl (by simp [Tryz.ntmps129]; kernel_rfl) ?_
 simp only [vz, tyf, hnil, seval, ua]
 exact ⟨rfl, .lit (.slice none 0 0), by simp [Tryz.results129, resV, resL, aD, upd], 1, rfl⟩
theorem OE : ad Tryz.prog G0 128 [.lit (.slice none 0 0)] (.tree (.lit (.slice none 0 0))) := by
 have hnil : ∀ (H : Nat → Option VObj) (x y : Operand), binV Tryz.prog H .eql 29 x y (.lit (.slice none 0 0)) (.lit (.slice none 0 0)) = some (.lit (.bool true)) := fun H x y => by kernel_rfl
 refine ad.run mixed Tryz.call128 Tryz.func128 rfl (by simp [Tryz.ntmps128]; kernel_rfl) ?_
 simp only [vz, tyf, hnil, seval, ua]
 exact ⟨rfl, .lit (.slice none 0 0), by simp [Tryz.results128, resV, resL, aD, upd], 1, rfl⟩
theorem AV {α : Type} {xs : List α} {i : Nat} {x : α} (h : xs[i]? = some x) : getI xs (i : Int) = some x := by
 unfold getI
 simp [h]
abbrev sCaps (la e pl y : Nat) (s : GLs) (out : List Int) : List VV := [.ptr la 0, .tp (cGLs s), .ptr e 0, .ptr pl 0, .ptr y 0, .tp [vx eI out]]
def SExt (β y e pl la : Nat) (s : GLs) (out : List Int) (poss : List GLe) (last : Nat) (I : Inv) (d : Nat) : Prop :=
 ∀ (p : List GLe) (fr : Nat) (rest : List VV) (L : List (List GLe)) (Fr : Nat → Prop) (H : Nat → Option VObj) (nx : Nat), stgO poss last s.Rows d p fr = some L → p.length + d < 1000 → fr < 1000000 → β < nx → (∀ γ, Fr γ → γ < nx) → Fr y → Fr e → Fr pl → Fr la →
  H y = some (.cells (some 33) [.yl β]) → H pl = some (.cells (some 29) [sE poss]) → H la = some (.cells (some 3) [.lit (.int .i64 (last : Int))]) → H e = some (.cells (some 155) [.fn (.func 127) [] (sCaps la e pl y s out)]) →
  I (some (L.map (sSet out) ++ rest)) Fr H nx →
  aq Tryz.prog G0 127 [vx cGLe p, .lit (.int .i64 (fr : Int)), .ptr la 0, .tp (cGLs s), .ptr e 0, .ptr pl 0, .ptr y 0, .tp [vx eI out]] H nx
   (fun v H' nx' => ∃ b, v = .lit (.bool b) ∧ nx ≤ nx' ∧ (∀ γ, Fr γ → H' γ = H γ) ∧ I (if b then some rest else none) Fr H' nx') (fun _ _ _ => False)
theorem Sr {p : List GLe} {e : GLe} (h : p ≠ []) (hr : aB 16 (p ++ [e]).length = true) : wx p = some p := by
 unfold wx
 have h1 : neB p = true := by cases p with
  | nil => exact absurd rfl h
  | cons a l => rfl
 have h2 : aB 16 p.length = true := by
  unfold aB at hr ⊢
  simp only [List.length_append, List.length_cons, List.length_nil, decide_eq_true_eq] at hr ⊢
  omega
 rw [h1, h2]; rfl
theorem OF {p : List Int} (h : p ≠ []) (hr : p.length < 1000000) : C4 p = some p := by
 unfold C4
 have h1 : neB p = true := by cases p with
  | nil => exact absurd rfl h
  | cons a l => rfl
 have h2 : aB 8 p.length = true := by
  unfold aB
  simp only [decide_eq_true_eq]
  omega
 rw [h1, h2]; rfl
theorem OG {β y e pl la : Nat} {s : GLs} {out : List Int} {poss : List GLe} {last : Nat} {I : Inv} (hst : Stable I) (hr : Rounds Tryz.prog G0 β I) (hlast : last < 1000000) (hout : out.length < 1000000) : ∀ d, SExt β y e pl la s out poss last I d := by
 intro d
 induction d with
 | zero => intro p fr rest L Fr H nx hL; cases hL
 | succ d ih =>
  intro p fr rest L Fr H nx hL Ss OH hbx hF hFy hFe hFp hFl hy hpl hla he hI
  rw [stgO] at hL
  rcases hLa : goStg (stgO poss last s.Rows d) poss p (if (p.length : Int) + 1 < s.Rows then last - fr else 0) fr with _ | La
  ·rw [hLa] at hL; cases hL
  rw [hLa, Option.bind_some] at hL
  rcases hLe : poss[last]? with _ | eL
  ·rw [hLe] at hL; cases hL
  rw [hLe, Option.bind_some, Option.some.injEq] at hL
  subst hL
  rw [List.map_append, List.append_assoc] at hI
  refine aq.run mixed Tryz.call127 Tryz.func127 rfl (by simp [Tryz.ntmps127]; kernel_rfl) ?_
  simp only [argsTm8, vz, tyf, seval, ua, rg]
  obtain ⟨J, hJ⟩ : ∃ J : Nat → St → Prop, J = (fun m st => ∃ (i : Nat) (Lr : List (List GLe)), i < 1000000 ∧ (m = if (p.length : Int) + 1 < s.Rows then last - i else 0) ∧ st.df = [] ∧ nx ≤ st.nx ∧ (∀ γ, Fr γ → st.H γ = H γ) ∧
   goStg (stgO poss last s.Rows d) poss p m i = some Lr ∧ I (some (Lr.map (sSet out) ++ (List.map (sSet out) [p ++ [eL]] ++ rest))) Fr st.H st.nx ∧
   st.tm 0 = vx cGLe p ∧ st.tm 2 = .ptr la 0 ∧ st.tm 3 = .tp (cGLs s) ∧ st.tm 4 = .ptr e 0 ∧ st.tm 5 = .ptr pl 0 ∧ st.tm 6 = .ptr y 0 ∧ st.tm 7 = .tp [vx eI out] ∧ st.tm 11 = .lit (.int .i64 (i : Int))) := ⟨_, rfl⟩
  refine loopK mixed (by kernel_rfl) J (if (p.length : Int) + 1 < s.Rows then last - fr else 0) (by
   rw [hJ]
   refine ⟨fr, La, OH, rfl, rfl, (show nx ≤ nx + 3 by omega), fun _ _ => rfl, hLa, hst _ _ _ _ _ _ _ hI (fun _ _ _ => rfl) (show nx ≤ nx + 3 by omega) (fun γ h => .inl h), ?_, ?_, ?_, ?_, ?_, ?_, ?_, ?_⟩ <;> first | rfl | (simp only [ua, seval] <;> rfl)) ?_
  rintro m ⟨tm, H1, aX, df⟩ hinv
  rw [hJ] at hinv
  obtain ⟨i, Lr, X2, hm, hdf, hn, po, hLr, sm, e0, e2, e3, e4, e5, e6, e7, bj⟩ := hinv
  simp only at hdf hn po sm e0 e2 e3 e4 e5 e6 e7 bj
  subst hdf
  have pq : H1 e = _ := (po e hFe).trans he
  have ja : H1 y = _ := (po y hFy).trans hy
  have hp1' : H1 pl = _ := (po pl hFp).trans hpl
  have dJ : H1 la = _ := (po la hFl).trans hla
  have hlen := fun H => OD (P := Tryz.prog) (H := H) Tryz.underlying29 (p := p)
  have hwp : i64.wrap ((p.length : Int) + 1) = (p.length : Int) + 1 := IntWalk.i64_in _ (by omega)
  cases m with
  | zero =>
   have hd : (decide ((i : Int) < (last : Int)) && decide ((p.length : Int) + 1 < s.Rows)) = false := by
    cases hc : (decide ((i : Int) < (last : Int)) && decide ((p.length : Int) + 1 < s.Rows)) with
    | false => rfl
    | true =>
     simp only [Bool.and_eq_true, decide_eq_true_eq] at hc
     rw [if_pos hc.2] at hm
     omega
   have Xj : Lr = [] := by
    simp only [goStg, Option.some.injEq] at hLr
    exact hLr.symm
   subst Xj
   have hix := AV hLe
   have hroom : aB 16 (p ++ [eL]).length = true := by
    unfold aB
    simp only [List.length_append, List.length_cons, List.length_nil, decide_eq_true_eq]
    omega
   have hen : e < aX := qZd (hF e hFe) hn
   have hyn : y < aX := qZd (hF y hFy) hn
   have hpn : pl < aX := qZd (hF pl hFp) hn
   have hln : la < aX := qZd (hF la hFl) hn
   have fg : (y = aX + 13) = False := by simp only [eq_iff_iff, iff_false]; omega
   have fh : (y = aX + 15) = False := by simp only [eq_iff_iff, iff_false]; omega
   have fj : (pl = aX + 13) = False := by simp only [eq_iff_iff, iff_false]; omega
   have fk : (pl = aX + 15) = False := by simp only [eq_iff_iff, iff_false]; omega
   have fm : (la = aX + 13) = False := by simp only [eq_iff_iff, iff_false]; omega
   have fp : (la = aX + 15) = False := by simp only [eq_iff_iff, iff_false]; omega
   cases hb : decide ((i : Int) < (last : Int))
   case' false => simp only [vz, tyf, seval, ua, e0, e2, e3, e4, e5, e6, e7, bj, dJ, hlen, hwp, hb, rg]
   case' true =>
    rw [hb, Bool.true_and] at hd
    simp only [vz, tyf, seval, ua, e0, e2, e3, e4, e5, e6, e7, bj, dJ, hlen, hwp, hb, hd, rg]
   all_goals
    refine yx (fun tm => tm 0 = vx cGLe p ∧ tm 2 = .ptr la 0 ∧ tm 5 = .ptr pl 0 ∧ tm 6 = .ptr y 0 ∧ tm 7 = .tp [vx eI out]) (by refine ⟨?_, ?_, ?_, ?_, ?_⟩ <;> simp only [ua, seval, e0, e2, e3, e4, e5, e6, e7, bj]) ?_
    clear e0 e2 e3 e4 e5 e6 e7 bj tm
    rintro tm ⟨e0, e2, e5, e6, e7⟩
    refine Rq mixed 12 rfl rfl rfl (by kernel_rfl) ?_
    simp only [vz, tyf, seval, ua, e0, e2, e5, e6, e7, ja, rg]
    by_cases hone : out = []
    ·subst hone
     by_cases hpe : p = []
     ·subst hpe
      refine .inl ⟨rfl, .tree _, Sq, ?_⟩
      simp only [vz, tyf, seval, ua, e0, e2, e5, e6, e7, ja, hp1', dJ, fg, fh, fj, fk, fm, fp, (bk hix), rg]
      refine .inl ⟨rfl, .tree _, OE, ?_⟩
      simp only [vz, tyf, seval, ua, e0, e2, e5, e6, e7, ja, hp1', dJ, fg, fh, fj, fk, fm, fp, (bk hix), rg]
      refine nE (w := 2) (enc := cGLe) (ys := [eL]) (fz := some 100) (fun _ => rfl) fJ fI Tryz.underlying29 (by first | rfl | (simp only [ua, nm, seval]; done) | (simp only [ua, nm, seval]; rfl)) (Nat.zero_lt_succ _) hroom ?_
      simp only [vz, tyf, seval, ua, nm, e0, e2, e5, e6, e7, ja, hp1', dJ, fg, fh, fj, fk, fm, fp, (bk hix), rg]
      refine k9 ⟨?_, ?_⟩
      ·simp only [kE, kG, fu, kH, and_true, true_and]
       repeat' (first | exact trivial | refine And.intro ?_ ?_ | rw [fu] | rw [kI] | exact Or.inl (by decide +kernel) | exact Or.inl (by dsimp only; decide +kernel) | (refine Or.inr ⟨?_, ?_⟩ <;> simp; done) | (refine Or.inr ⟨?_, ?_⟩ <;> simp <;> omega) | (refine Or.inr ⟨?_, ?_⟩ <;> simp [VEff.wr] <;> omega))
      simp only [vz, tyf, seval, ua, nm, e0, e2, e5, e6, e7, ja, hp1', dJ, fg, fh, fj, fk, fm, fp, (bk hix), rg]
      have uD : I (some (sSet [] ([] ++ [eL]) :: rest)) Fr H1 aX := sm
      refine yieldK.freezeN (args' := [sSet [] ([] ++ [eL])]) [aX + 21] ?_ (by simp; omega) ⟨Frozen.pair (2 * ([] ++ [eL]).length + 2 + ([] : List Int).length + 2) (fun n hn => ?_) (fun n hn => ?_) rfl, trivial⟩ ?_
      ·intro γ hγ
       simp only [List.mem_cons, List.not_mem_nil, or_false] at hγ
       subst hγ; exact ⟨_, _, by first | rfl | (simp only [ua, nm, seval]; done) | (simp only [ua, nm, seval]; rfl)⟩
      ·exact AU rfl n (by omega)
      ·exact wy (wz (by simp) (by first | rfl | (simp only [ua, nm, seval]; done) | (simp only [ua, nm, seval]; rfl))) (dz.treeL _) (by rw [fY (w := 2) (fun _ => rfl)]) n (by rw [fY (w := 2) (fun _ => rfl)]; omega)
      refine (hr (sSet [] ([] ++ [eL])) rest Fr _ _ (fun γ h => qZd (hF γ h) (qZh hn (qZe _ _))) (hst _ _ _ _ _ _ _ uD (fun γ h _ => ?_) (qZe _ _) (fun γ h => .inl h))) (some none) _ _ _ rfl rfl ?_
      ·have n1 : γ ≠ aX + 21 := by omega
       have n2 : γ ≠ aX + 20 := by omega
       have n3 : γ ≠ aX + 15 := by omega
       have n4 : γ ≠ aX + 13 := by omega
       simp only [lessN, updH, without, List.mem_cons, List.not_mem_nil, or_false, n1, n2, n3, n4, if_false, or_self]
      rintro b H2 mK ⟨h1, h2, h3⟩
      simp only [vz, tyf, seval, ua]
      refine cG (x := .lit (.bool b)) (by simp [Tryz.results127, resV, resL, aD, upd]) ⟨b, rfl, qZh (qZh hn (qZe _ _)) h1, fun γ h => ?_, h3⟩
      have g1 := hF γ h
      rw [h2 γ h, ← po γ h]
      have n1 : γ ≠ aX + 21 := by omega
      have n2 : γ ≠ aX + 20 := by omega
      have n3 : γ ≠ aX + 15 := by omega
      have n4 : γ ≠ aX + 13 := by omega
      simp only [lessN, updH, without, List.mem_cons, List.not_mem_nil, or_false, n1, n2, n3, n4, if_false, or_self]
     ·have hvp : vx cGLe p = sE p := uW hpe
      have hclp := Sr hpe hroom
      refine .inl ⟨rfl, .tree _, Sq, ?_⟩
      simp only [vz, tyf, seval, ua, e0, e2, e5, e6, e7, ja, hp1', dJ, fg, fh, fj, fk, fm, fp, (bk hix), rg]
      rw [hvp]
      refine dkown (args0 := [sE p]) (by first | (simp only [nrm, au]; done) | (simp only [nrm, au]; rfl) | rfl) (by simp only [tre, ar, Bool.and_self]) (OA _ _ hclp) ?_
      simp only [vz, tyf, seval, ua, e0, e2, e5, e6, e7, ja, hp1', dJ, fg, fh, fj, fk, fm, fp, (bk hix), rg]
      refine k_app (w := 2) (enc := cGLe) (xs := p) (ys := [eL]) (el := none) (fz := some 100) (fun _ => rfl) fJ fI Tryz.underlying29 (by first | rfl | (simp only [ua, nm, seval]; done) | (simp only [ua, nm, seval]; rfl)) (by first | rfl | (simp only [ua, nm, seval]; done) | (simp only [ua, nm, seval]; rfl)) (Nat.zero_lt_succ _) hroom ?_
      simp only [vz, tyf, seval, ua, nm, e0, e2, e5, e6, e7, ja, hp1', dJ, fg, fh, fj, fk, fm, fp, (bk hix), rg]
      refine k9 ⟨?_, ?_⟩
      ·simp only [kE, kG, fu, kH, and_true, true_and]
       repeat' (first | exact trivial | refine And.intro ?_ ?_ | rw [fu] | rw [kI] | exact Or.inl (by decide +kernel) | exact Or.inl (by dsimp only; decide +kernel) | (refine Or.inr ⟨?_, ?_⟩ <;> simp; done) | (refine Or.inr ⟨?_, ?_⟩ <;> simp <;> omega) | (refine Or.inr ⟨?_, ?_⟩ <;> simp [VEff.wr] <;> omega))
      simp only [vz, tyf, seval, ua, nm, e0, e2, e5, e6, e7, ja, hp1', dJ, fg, fh, fj, fk, fm, fp, (bk hix), rg]
      have uD : I (some (sSet [] (p ++ [eL]) :: rest)) Fr H1 aX := sm
      refine yieldK.freezeN (args' := [sSet [] (p ++ [eL])]) [aX + 21] ?_ (by simp; omega) ⟨Frozen.pair (2 * (p ++ [eL]).length + 2 + ([] : List Int).length + 2) (fun n hn => ?_) (fun n hn => ?_) rfl, trivial⟩ ?_
      ·intro γ hγ
       simp only [List.mem_cons, List.not_mem_nil, or_false] at hγ
       subst hγ; exact ⟨_, _, by first | rfl | (simp only [ua, nm, seval]; done) | (simp only [ua, nm, seval]; rfl)⟩
      ·exact AU rfl n (by omega)
      ·exact wy (wz (by simp) (by first | rfl | (simp only [ua, nm, seval]; done) | (simp only [ua, nm, seval]; rfl))) (dz.treeL _) (by rw [fY (w := 2) (fun _ => rfl)]) n (by rw [fY (w := 2) (fun _ => rfl)]; omega)
      refine (hr (sSet [] (p ++ [eL])) rest Fr _ _ (fun γ h => qZd (hF γ h) (qZh hn (qZe _ _))) (hst _ _ _ _ _ _ _ uD (fun γ h _ => ?_) (qZe _ _) (fun γ h => .inl h))) (some none) _ _ _ rfl rfl ?_
      ·have n1 : γ ≠ aX + 21 := by omega
       have n2 : γ ≠ aX + 20 := by omega
       have n3 : γ ≠ aX + 15 := by omega
       have n4 : γ ≠ aX + 13 := by omega
       simp only [lessN, updH, without, List.mem_cons, List.not_mem_nil, or_false, n1, n2, n3, n4, if_false, or_self]
      rintro b H2 mK ⟨h1, h2, h3⟩
      simp only [vz, tyf, seval, ua]
      refine cG (x := .lit (.bool b)) (by simp [Tryz.results127, resV, resL, aD, upd]) ⟨b, rfl, qZh (qZh hn (qZe _ _)) h1, fun γ h => ?_, h3⟩
      have g1 := hF γ h
      rw [h2 γ h, ← po γ h]
      have n1 : γ ≠ aX + 21 := by omega
      have n2 : γ ≠ aX + 20 := by omega
      have n3 : γ ≠ aX + 15 := by omega
      have n4 : γ ≠ aX + 13 := by omega
      simp only [lessN, updH, without, List.mem_cons, List.not_mem_nil, or_false, n1, n2, n3, n4, if_false, or_self]
    ·have hclo := OF hone hout
     by_cases hpe : p = []
     ·subst hpe
      have hov : vx eI out = sI out := uW hone
      rw [hov]
      refine dkown (args0 := [sI out]) (by first | (simp only [nrm, au]; done) | (simp only [nrm, au]; rfl) | rfl) (by simp only [tre, ar, Bool.and_self]) (So _ _ hclo) ?_
      simp only [vz, tyf, seval, ua, e0, e2, e5, e6, e7, ja, hp1', dJ, fg, fh, fj, fk, fm, fp, (bk hix), rg]
      refine .inl ⟨rfl, .tree _, OE, ?_⟩
      simp only [vz, tyf, seval, ua, e0, e2, e5, e6, e7, ja, hp1', dJ, fg, fh, fj, fk, fm, fp, (bk hix), rg]
      refine nE (w := 2) (enc := cGLe) (ys := [eL]) (fz := some 100) (fun _ => rfl) fJ fI Tryz.underlying29 (by first | rfl | (simp only [ua, nm, seval]; done) | (simp only [ua, nm, seval]; rfl)) (Nat.zero_lt_succ _) hroom ?_
      simp only [vz, tyf, seval, ua, nm, e0, e2, e5, e6, e7, ja, hp1', dJ, fg, fh, fj, fk, fm, fp, (bk hix), rg]
      refine k9 ⟨?_, ?_⟩
      ·simp only [kE, kG, fu, kH, and_true, true_and]
       repeat' (first | exact trivial | refine And.intro ?_ ?_ | rw [fu] | rw [kI] | exact Or.inl (by decide +kernel) | exact Or.inl (by dsimp only; decide +kernel) | (refine Or.inr ⟨?_, ?_⟩ <;> simp; done) | (refine Or.inr ⟨?_, ?_⟩ <;> simp <;> omega) | (refine Or.inr ⟨?_, ?_⟩ <;> simp [VEff.wr] <;> omega))
      simp only [vz, tyf, seval, ua, nm, e0, e2, e5, e6, e7, ja, hp1', dJ, fg, fh, fj, fk, fm, fp, (bk hix), rg]
      have uD : I (some (sSet out ([] ++ [eL]) :: rest)) Fr H1 aX := sm
      refine yieldK.freezeN (args' := [sSet out ([] ++ [eL])]) [aX + 21, aX + 13] ?_ (by simp; omega) ⟨Frozen.pair (2 * ([] ++ [eL]).length + 2 + out.length + 2) (fun n hn => ?_) (fun n hn => ?_) rfl, trivial⟩ ?_
      ·intro γ hγ
       simp only [List.mem_cons, List.not_mem_nil, or_false] at hγ
       rcases hγ with rfl | rfl <;> exact ⟨_, _, by first | rfl | (simp only [ua, nm, seval]; done) | (simp only [ua, nm, seval]; rfl)⟩
      ·rw [hov]; exact wy (wz (by simp) (by first | rfl | (simp only [ua, nm, seval]; done) | (simp only [ua, nm, seval]; rfl))) (eI_ok.treeL _) (by rw [fY (w := 1) (fun _ => rfl)]) n (by rw [fY (w := 1) (fun _ => rfl)]; omega)
      ·exact wy (wz (by simp) (by first | rfl | (simp only [ua, nm, seval]; done) | (simp only [ua, nm, seval]; rfl))) (dz.treeL _) (by rw [fY (w := 2) (fun _ => rfl)]) n (by rw [fY (w := 2) (fun _ => rfl)]; omega)
      refine (hr (sSet out ([] ++ [eL])) rest Fr _ _ (fun γ h => qZd (hF γ h) (qZh hn (qZe _ _))) (hst _ _ _ _ _ _ _ uD (fun γ h _ => ?_) (qZe _ _) (fun γ h => .inl h))) (some none) _ _ _ rfl rfl ?_
      ·have n1 : γ ≠ aX + 21 := by omega
       have n2 : γ ≠ aX + 20 := by omega
       have n3 : γ ≠ aX + 15 := by omega
       have n4 : γ ≠ aX + 13 := by omega
       simp only [lessN, updH, without, List.mem_cons, List.not_mem_nil, or_false, n1, n2, n3, n4, if_false, or_self]
      rintro b H2 mK ⟨h1, h2, h3⟩
      simp only [vz, tyf, seval, ua]
      refine cG (x := .lit (.bool b)) (by simp [Tryz.results127, resV, resL, aD, upd]) ⟨b, rfl, qZh (qZh hn (qZe _ _)) h1, fun γ h => ?_, h3⟩
      have g1 := hF γ h
      rw [h2 γ h, ← po γ h]
      have n1 : γ ≠ aX + 21 := by omega
      have n2 : γ ≠ aX + 20 := by omega
      have n3 : γ ≠ aX + 15 := by omega
      have n4 : γ ≠ aX + 13 := by omega
      simp only [lessN, updH, without, List.mem_cons, List.not_mem_nil, or_false, n1, n2, n3, n4, if_false, or_self]
     ·have hvp : vx cGLe p = sE p := uW hpe
      have hclp := Sr hpe hroom
      have hov : vx eI out = sI out := uW hone
      rw [hov]
      refine dkown (args0 := [sI out]) (by first | (simp only [nrm, au]; done) | (simp only [nrm, au]; rfl) | rfl) (by simp only [tre, ar, Bool.and_self]) (So _ _ hclo) ?_
      simp only [vz, tyf, seval, ua, e0, e2, e5, e6, e7, ja, hp1', dJ, fg, fh, fj, fk, fm, fp, (bk hix), rg]
      rw [hvp]
      refine dkown (args0 := [sE p]) (by first | (simp only [nrm, au]; done) | (simp only [nrm, au]; rfl) | rfl) (by simp only [tre, ar, Bool.and_self]) (OA _ _ hclp) ?_
      simp only [vz, tyf, seval, ua, e0, e2, e5, e6, e7, ja, hp1', dJ, fg, fh, fj, fk, fm, fp, (bk hix), rg]
      refine k_app (w := 2) (enc := cGLe) (xs := p) (ys := [eL]) (el := none) (fz := some 100) (fun _ => rfl) fJ fI Tryz.underlying29 (by first | rfl | (simp only [ua, nm, seval]; done) | (simp only [ua, nm, seval]; rfl)) (by first | rfl | (simp only [ua, nm, seval]; done) | (simp only [ua, nm, seval]; rfl)) (Nat.zero_lt_succ _) hroom ?_
      simp only [vz, tyf, seval, ua, nm, e0, e2, e5, e6, e7, ja, hp1', dJ, fg, fh, fj, fk, fm, fp, (bk hix), rg]
      refine k9 ⟨?_, ?_⟩
      ·simp only [kE, kG, fu, kH, and_true, true_and]
       repeat' (first | exact trivial | refine And.intro ?_ ?_ | rw [fu] | rw [kI] | exact Or.inl (by decide +kernel) | exact Or.inl (by dsimp only; decide +kernel) | (refine Or.inr ⟨?_, ?_⟩ <;> simp; done) | (refine Or.inr ⟨?_, ?_⟩ <;> simp <;> omega) | (refine Or.inr ⟨?_, ?_⟩ <;> simp [VEff.wr] <;> omega))
      simp only [vz, tyf, seval, ua, nm, e0, e2, e5, e6, e7, ja, hp1', dJ, fg, fh, fj, fk, fm, fp, (bk hix), rg]
      have uD : I (some (sSet out (p ++ [eL]) :: rest)) Fr H1 aX := sm
      refine yieldK.freezeN (args' := [sSet out (p ++ [eL])]) [aX + 21, aX + 13] ?_ (by simp; omega) ⟨Frozen.pair (2 * (p ++ [eL]).length + 2 + out.length + 2) (fun n hn => ?_) (fun n hn => ?_) rfl, trivial⟩ ?_
      ·intro γ hγ
       simp only [List.mem_cons, List.not_mem_nil, or_false] at hγ
       rcases hγ with rfl | rfl <;> exact ⟨_, _, by first | rfl | (simp only [ua, nm, seval]; done) | (simp only [ua, nm, seval]; rfl)⟩
      ·rw [hov]; exact wy (wz (by simp) (by first | rfl | (simp only [ua, nm, seval]; done) | (simp only [ua, nm, seval]; rfl))) (eI_ok.treeL _) (by rw [fY (w := 1) (fun _ => rfl)]) n (by rw [fY (w := 1) (fun _ => rfl)]; omega)
      ·exact wy (wz (by simp) (by first | rfl | (simp only [ua, nm, seval]; done) | (simp only [ua, nm, seval]; rfl))) (dz.treeL _) (by rw [fY (w := 2) (fun _ => rfl)]) n (by rw [fY (w := 2) (fun _ => rfl)]; omega)
      refine (hr (sSet out (p ++ [eL])) rest Fr _ _ (fun γ h => qZd (hF γ h) (qZh hn (qZe _ _))) (hst _ _ _ _ _ _ _ uD (fun γ h _ => ?_) (qZe _ _) (fun γ h => .inl h))) (some none) _ _ _ rfl rfl ?_
      ·have n1 : γ ≠ aX + 21 := by omega
       have n2 : γ ≠ aX + 20 := by omega
       have n3 : γ ≠ aX + 15 := by omega
       have n4 : γ ≠ aX + 13 := by omega
       simp only [lessN, updH, without, List.mem_cons, List.not_mem_nil, or_false, n1, n2, n3, n4, if_false, or_self]
      rintro b H2 mK ⟨h1, h2, h3⟩
      simp only [vz, tyf, seval, ua]
      refine cG (x := .lit (.bool b)) (by simp [Tryz.results127, resV, resL, aD, upd]) ⟨b, rfl, qZh (qZh hn (qZe _ _)) h1, fun γ h => ?_, h3⟩
      have g1 := hF γ h
      rw [h2 γ h, ← po γ h]
      have n1 : γ ≠ aX + 21 := by omega
      have n2 : γ ≠ aX + 20 := by omega
      have n3 : γ ≠ aX + 15 := by omega
      have n4 : γ ≠ aX + 13 := by omega
      simp only [lessN, updH, without, List.mem_cons, List.not_mem_nil, or_false, n1, n2, n3, n4, if_false, or_self]
  | succ m =>
   have uM : (p.length : Int) + 1 < s.Rows := by
    rcases Classical.em ((p.length : Int) + 1 < s.Rows) with h | h
    ·exact h
    ·rw [if_neg h] at hm; cases hm
   rw [if_pos uM] at hm
   have oy : decide ((i : Int) < (last : Int)) = true := by simp; omega
   have mf : decide ((p.length : Int) + 1 < s.Rows) = true := by simpa using uM
   simp only [vz, tyf, seval, ua, e0, e2, e3, e4, e5, e6, e7, bj, dJ, hlen, hwp, oy, mf, rg]
   refine yx (fun tm => tm 0 = vx cGLe p ∧ tm 2 = .ptr la 0 ∧ tm 3 = .tp (cGLs s) ∧ tm 4 = .ptr e 0 ∧ tm 5 = .ptr pl 0 ∧ tm 6 = .ptr y 0 ∧ tm 7 = .tp [vx eI out] ∧ tm 11 = .lit (.int .i64 (i : Int))) (by refine ⟨?_, ?_, ?_, ?_, ?_, ?_, ?_, ?_⟩ <;> simp only [ua, seval, e0, e2, e3, e4, e5, e6, e7, bj]) ?_
   clear e0 e2 e3 e4 e5 e6 e7 bj tm
   rintro tm ⟨e0, e2, e3, e4, e5, e6, e7, bj⟩
   refine Rq mixed 11 rfl rfl rfl (by kernel_rfl) ?_
   rw [goStg] at hLr
   rcases hei : poss[i]? with _ | ei
   ·rw [hei] at hLr; cases hLr
   rw [hei, Option.bind_some] at hLr
   rcases hLx : stgO poss last s.Rows d (p ++ [ei]) (i + 1) with _ | Lx
   ·rw [hLx] at hLr; cases hLr
   rw [hLx, Option.bind_some] at hLr
   rcases hLy : goStg (stgO poss last s.Rows d) poss p m (i + 1) with _ | Ly
   ·rw [hLy] at hLr; cases hLr
   rw [hLy, Option.bind_some, Option.some.injEq] at hLr
   subst hLr
   rw [List.map_append, List.append_assoc] at sm
   have hix := AV hei
   have hw : i64.wrap ((i : Int) + 1) = ((i + 1 : Nat) : Int) := by rw [IntWalk.i64_in _ (by omega)]; simp
   have hv : vx cGLe (p ++ [ei]) = sE (p ++ [ei]) := uW (by simp)
   have hroom : aB 16 (p ++ [ei]).length = true := by
    unfold aB
    simp only [List.length_append, List.length_cons, List.length_nil, decide_eq_true_eq]
    omega
   have hen : e < aX := qZd (hF e hFe) hn
   have hyn : y < aX := qZd (hF y hFy) hn
   have hpn : pl < aX := qZd (hF pl hFp) hn
   have hln : la < aX := qZd (hF la hFl) hn
   simp only [vz, tyf, seval, ua, e0, e2, e3, e4, e5, e6, e7, bj, pq, rg]
   rcases hpc : p with _ | ⟨p0, pt⟩
   ·subst hpc
    refine .inl ⟨rfl, .tree _, OE, ?_⟩
    simp only [vz, tyf, seval, ua, e0, e2, e3, e4, e5, e6, e7, bj, pq, hp1', (bk hix), rg, hw]
    refine nE (w := 2) (enc := cGLe) (ys := [ei]) (fz := some 100) (fun _ => rfl) fJ fI Tryz.underlying29 (by simp only [ua, nm, seval]; rfl) (Nat.zero_lt_succ _) hroom ?_
    simp only [vz, tyf, seval, ua, nm, e0, e2, e3, e4, e5, e6, e7, bj, pq, hp1', rg, hw]
    refine k9 ⟨?_, ?_⟩
    ·simp only [kE, kG, fu, kH, and_true, true_and]
     repeat' (first | exact trivial | refine And.intro ?_ ?_ | rw [fu] | rw [kI] | exact Or.inl (by decide +kernel) | exact Or.inl (by dsimp only; decide +kernel) | (refine Or.inr ⟨?_, ?_⟩ <;> simp; done) | (refine Or.inr ⟨?_, ?_⟩ <;> simp <;> omega) | (refine Or.inr ⟨?_, ?_⟩ <;> simp [VEff.wr] <;> omega))
    simp only [vz, tyf, seval, ua, e0, e2, e3, e4, e5, e6, e7, bj, pq, rg]
    refine kopen ?_
    rw [BM]
    have hcell : (updH (updH H1 (aX + 18) (VObj.cells (some 100) [VV.lit (Value.int IntKind.i64 ei.Word), VV.lit (Value.int IntKind.i64 ei.Letters)])) (aX + 19) (VObj.cells (some 100) (aa cGLe ([] ++ [ei])))) (aX + 19) = some (.cells (some 100) (aa cGLe ([] ++ [ei]))) := by simp only [ua, seval]
    have hbig : ∀ γ, γ < aX → without (updH (updH H1 (aX + 18) (VObj.cells (some 100) [VV.lit (Value.int IntKind.i64 ei.Word), VV.lit (Value.int IntKind.i64 ei.Letters)])) (aX + 19) (VObj.cells (some 100) (aa cGLe ([] ++ [ei])))) (aX + 19) γ = H1 γ := by
     intro γ h
     simp only [updH, without]
     repeat rw [if_neg (by omega)]
    refine aq.mono (aq.freeze1 (γ := (aX + 19)) hcell (args' := [vx cGLe ([] ++ [ei]), .lit (.int .i64 ((i + 1 : Nat) : Int)), .ptr la 0, .tp (cGLs s), .ptr e 0, .ptr pl 0, .ptr y 0, .tp [vx eI out]]) ⟨by rw [hv]; exact Frozen.own hcell (dz.treeL _) (by rw [fY (w := 2) (fun _ => rfl)]), FrozenL.same⟩ (ih ([] ++ [ei]) (i + 1) _ Lx Fr _ _ hLx (by simp only [List.length_append, List.length_cons, List.length_nil] at Ss ⊢; omega) (by omega) (by omega) (fun γ h => by have := hF γ h; omega) hFy hFe hFp hFl ((hbig y hyn).trans ja) ((hbig pl hpn).trans hp1') ((hbig la hln).trans dJ) ((hbig e hen).trans pq) (hst _ _ _ _ _ _ _ sm (fun γ h _ => hbig γ h) (by omega) (fun γ h => .inl h)))) ?_ (fun _ _ _ h => h.elim)
    rintro v H2 mK ⟨b, rfl, h1, h2, h3⟩
    have AW : ∀ γ, Fr γ → H2 γ = H γ := fun γ h => by rw [h2 γ h, hbig γ (qZd (hF γ h) hn), po γ h]
    simp only [vz, tyf, seval, ua, e0, e2, e3, e4, e5, e6, e7, bj, pq, rg]
    cases b with
    | false =>
     simp only [vz, tyf, seval, ua, Bool.not_false]
     refine cG (x := .lit (.bool false)) (by simp [Tryz.results127, resV, resL, aD, upd]) ⟨false, rfl, by omega, AW, ?_⟩
     exact hst _ _ _ _ _ _ _ h3 (fun _ _ _ => rfl) (by omega) (fun γ h => .inl h)
    | true =>
     simp only [vz, tyf, seval, ua, Bool.not_true, bj, hw]
     simp only [if_true] at h3
     rw [hJ]
     refine ⟨m, qZc _, i + 1, Ly, by omega, by rw [if_pos uM]; omega, rfl, qZh hn (qZh (by omega : aX ≤ mK) (qZe _ _)), AW, hLy, hst _ _ _ _ _ _ _ h3 (fun _ _ _ => rfl) (qZe _ _) (fun γ h => .inl h), by simp only [ua, seval, e0], by simp only [ua, seval, e2], by simp only [ua, seval, e3], by simp only [ua, seval, e4], by simp only [ua, seval, e5], by simp only [ua, seval, e6], by simp only [ua, seval, e7], by simp only [ua, seval]⟩
   rw [← hpc]
   have hne : p ≠ [] := by rw [hpc]; simp
   have hvp : vx cGLe p = sE p := uW hne
   rw [hvp]
   have hcl : wx p = some p := by
    unfold wx
    have h1 : neB p = true := by rw [hpc]; rfl
    have h2 : aB 16 p.length = true := by
     unfold aB at hroom ⊢
     simp only [List.length_append, List.length_cons, List.length_nil, decide_eq_true_eq] at hroom ⊢
     omega
    rw [h1, h2]; rfl
   have hpx : (pl = aX + 13) = False := by simp only [eq_iff_iff, iff_false]; omega
   refine dkown (args0 := [sE p]) (by first | (simp only [nrm, au]; done) | (simp only [nrm, au]; rfl) | rfl) (by simp only [tre, ar, Bool.and_self]) (OA _ _ hcl) ?_
   simp only [vz, tyf, seval, ua, e0, e2, e3, e4, e5, e6, e7, bj, pq, hp1', hpx, (bk hix), rg, hw]
   refine k_app (w := 2) (enc := cGLe) (xs := p) (ys := [ei]) (el := none) (fz := some 100) (fun _ => rfl) fJ fI Tryz.underlying29 (by first | rfl | (simp only [ua, nm, seval]; done) | (simp only [ua, nm, seval]; rfl)) (by first | rfl | (simp only [ua, nm, seval]; done) | (simp only [ua, nm, seval]; rfl)) (Nat.zero_lt_succ _) hroom ?_
   simp only [vz, tyf, seval, ua, nm, e0, e2, e3, e4, e5, e6, e7, bj, pq, hp1', rg, hw]
   refine k9 ⟨?_, ?_⟩
   ·simp only [kE, kG, fu, kH, and_true, true_and]
    repeat' (first | exact trivial | refine And.intro ?_ ?_ | rw [fu] | rw [kI] | exact Or.inl (by decide +kernel) | exact Or.inl (by dsimp only; decide +kernel) | (refine Or.inr ⟨?_, ?_⟩ <;> simp; done) | (refine Or.inr ⟨?_, ?_⟩ <;> simp <;> omega) | (refine Or.inr ⟨?_, ?_⟩ <;> simp [VEff.wr] <;> omega))
   simp only [vz, tyf, seval, ua, e0, e2, e3, e4, e5, e6, e7, bj, pq, rg]
   refine kopen ?_
   rw [BM]
   have hcell : (updH (without (updH (updH H1 (aX + 13) (VObj.cells none (aa cGLe p))) (aX + 18) (VObj.cells (some 100) [VV.lit (Value.int IntKind.i64 ei.Word), VV.lit (Value.int IntKind.i64 ei.Letters)])) (aX + 13)) (aX + 19) (VObj.cells (sameEl none 100) (aa cGLe (p ++ [ei])))) (aX + 19) = some (.cells (sameEl none 100) (aa cGLe (p ++ [ei]))) := by simp only [ua, seval]
   have hbig : ∀ γ, γ < aX → without (updH (without (updH (updH H1 (aX + 13) (VObj.cells none (aa cGLe p))) (aX + 18) (VObj.cells (some 100) [VV.lit (Value.int IntKind.i64 ei.Word), VV.lit (Value.int IntKind.i64 ei.Letters)])) (aX + 13)) (aX + 19) (VObj.cells (sameEl none 100) (aa cGLe (p ++ [ei])))) (aX + 19) γ = H1 γ := by
    intro γ h
    simp only [updH, without]
    repeat rw [if_neg (by omega)]
   refine aq.mono (aq.freeze1 (γ := (aX + 19)) hcell (args' := [vx cGLe (p ++ [ei]), .lit (.int .i64 ((i + 1 : Nat) : Int)), .ptr la 0, .tp (cGLs s), .ptr e 0, .ptr pl 0, .ptr y 0, .tp [vx eI out]]) ⟨by rw [hv]; exact Frozen.own hcell (dz.treeL _) (by rw [fY (w := 2) (fun _ => rfl)]), FrozenL.same⟩ (ih (p ++ [ei]) (i + 1) _ Lx Fr _ _ hLx (by simp only [List.length_append, List.length_cons, List.length_nil] at Ss ⊢; omega) (by omega) (by omega) (fun γ h => by have := hF γ h; omega) hFy hFe hFp hFl ((hbig y hyn).trans ja) ((hbig pl hpn).trans hp1') ((hbig la hln).trans dJ) ((hbig e hen).trans pq) (hst _ _ _ _ _ _ _ sm (fun γ h _ => hbig γ h) (by omega) (fun γ h => .inl h)))) ?_ (fun _ _ _ h => h.elim)
   rintro v H2 mK ⟨b, rfl, h1, h2, h3⟩
   have AW : ∀ γ, Fr γ → H2 γ = H γ := fun γ h => by rw [h2 γ h, hbig γ (qZd (hF γ h) hn), po γ h]
   simp only [vz, tyf, seval, ua, e0, e2, e3, e4, e5, e6, e7, bj, pq, rg]
   cases b with
   | false =>
    simp only [vz, tyf, seval, ua, Bool.not_false]
    refine cG (x := .lit (.bool false)) (by simp [Tryz.results127, resV, resL, aD, upd]) ⟨false, rfl, by omega, AW, ?_⟩
    exact hst _ _ _ _ _ _ _ h3 (fun _ _ _ => rfl) (by omega) (fun γ h => .inl h)
   | true =>
    simp only [vz, tyf, seval, ua, Bool.not_true, bj, hw]
    simp only [if_true] at h3
    rw [hJ]
    refine ⟨m, qZc _, i + 1, Ly, by omega, by rw [if_pos uM]; omega, rfl, qZh hn (qZh (by omega : aX ≤ mK) (qZe _ _)), AW, hLy, hst _ _ _ _ _ _ _ h3 (fun _ _ _ => rfl) (qZe _ _) (fun γ h => .inl h), by simp only [ua, seval, e0], by simp only [ua, seval, e2], by simp only [ua, seval, e3], by simp only [ua, seval, e4], by simp only [ua, seval, e5], by simp only [ua, seval, e6], by simp only [ua, seval, e7], by simp only [ua, seval]⟩
theorem OI {α : Type} {enc : α → List VV} (he : EncOk enc) : ∀ {l : List α}, normV (vx enc l) = .sl (aa enc l) l.length false
 | [] => rfl
 | a :: l => by
  show normV (.sl (aa enc (a :: l)) (a :: l).length false) = _
  simp [normV, he.normL]
theorem tH {l : List Int} : normV (vx eI l) = sI l := OI eI_ok
theorem ej {α : Type} {enc : α → List VV} : ∀ {l : List α}, (vx enc l).leaf = true
 | [] => rfl
 | a :: l => rfl
theorem mJ {l : List Int} : (vx eI l).tree = true := DO eI_ok
theorem zb {H : Nat → Option VObj} {f : FuncId} {JY fz : Option TypeId} {c1 c2 : List VV} (h0 : H 0 = some (.cells JY c1)) (h1 : H 1 = some (.cells fz c2)) (t0 : treeL c1 = true) (t1 : treeL c2 = true) (l0 : c1.length < 40) (l1 : c2.length < 40) :
  sealV H 50 (.fn (.func f) [] [.ptr 0 0, .ptr 1 0]) = some (.fn (.func f) [] [.tp c1, .tp c2]) := by
 have e0 : sealV H 48 (.ptr 0 0) = some (.tp c1) := by
  show sealV H (47 + 1) _ = _
  have : (VV.ptr 0 0).tree = false := rfl
  simp only [sealV, this, h0, Nat.zero_le, if_true, List.drop_zero]
  rw [qa _ 47 t0 (by omega)]
  rfl
 have e1 : sealV H 47 (.ptr 1 0) = some (.tp c2) := by
  show sealV H (46 + 1) _ = _
  have : (VV.ptr 1 0).tree = false := rfl
  simp only [sealV, this, h1, Nat.zero_le, if_true, List.drop_zero]
  rw [qa _ 46 t1 (by omega)]
  rfl
 have s3 : aO H 47 [] = some [] := by
  show aO H (46 + 1) _ = _
  simp only [aO]
 have s2 : aO H 48 [.ptr 1 0] = some [.tp c2] := by
  show aO H (47 + 1) _ = _
  simp only [aO, e1, s3]
 have s1 : aO H 49 [.ptr 0 0, .ptr 1 0] = some [.tp c1, .tp c2] := by
  show aO H (48 + 1) _ = _
  simp only [aO, e0, e1]
 have s0 : aO H 49 [] = some [] := by
  show aO H (48 + 1) _ = _
  simp only [aO]
 show sealV H (49 + 1) _ = _
 have e3 : (VV.fn (.func f) [] [.ptr 0 0, .ptr 1 0]).tree = false := rfl
 simp only [sealV, e3, s1, s0]
 rfl
def itS (s : GLs) (out : List Int) : VV := .fn (.func 126) [] [.tp (cGLs s), .tp [vx eI out]]
theorem IT {s : GLs} {out : List Int} : (itS s out).tree = true := by
 have h : treeL (cGLs s) = true := dy.tree s
 have h2 : (vx eI out).tree = true := mJ
 simp [itS, VV.tree, treeL, h, h2]
theorem Q2 (s : GLs) (out : List Int) : ad Tryz.prog G0 92 [.agg (cGLs s), vx eI out] (.tree (itS s out)) := by
 refine ad.run mixed Tryz.call92 Tryz.func92 rfl (by simp [Tryz.ntmps92]; kernel_rfl) ?_
 simp only [vz, tyf, seval, ua, rg, vcells1 ej]
 refine ⟨rfl, .fn (.func 126) [] [.ptr 0 0, .ptr 1 0], by simp [Tryz.results92, resV, resL, aD, upd], 50, ?_⟩
 exact zb (c1 := cGLs s) (c2 := [vx eI out]) (JY := some 28) (fz := some 22) (by simp only [bl, seval] <;> rfl) (by simp only [bl, seval] <;> rfl) (dy.tree s) (by simp [treeL, mJ]) (by simp [cGLs]) (by simp)
def q9 (s : GLs) (out : List Int) : Option (List (List GLe)) := Option.bind (uz s out) fun poss => if poss.length < 1000000 ∧ out.length < 1000000 then stgO poss (poss.length - 1) s.Rows 5 [] 0 else none
theorem Q1 (s : GLs) (out : List Int) (L : List (List GLe)) (h : q9 s out = some L) : Iter Tryz.prog G0 (itS s out) (L.map (sSet out)) := by
 unfold q9 at h
 rcases hp : uz s out with _ | poss
 ·rw [hp] at h; cases h
 rw [hp, Option.bind_some] at h
 split at h
 rotate_left
 ·cases h
 rename_i hb
 obtain ⟨uL, Xk⟩ := hb
 have hpos : 0 < poss.length := by
  rcases poss with _ | ⟨a, l⟩
  ·exfalso
   simp only [stgO, List.length_nil] at h
   rcases hg : goStg (stgO [] (0 - 1) s.Rows 4) [] [] (if (((0 : Nat) : Int) + 1 < s.Rows) then 0 - 1 - 0 else 0) 0 with _ | a
   ·simp_all
   ·simp_all
  ·exact Nat.succ_pos _
 refine ⟨126, [], _, rfl, fun β I hst hr H nx hβ hI => ?_⟩
 refine aq.run mixed Tryz.call126 Tryz.func126 rfl (by simp [Tryz.ntmps126]; kernel_rfl) ?_
 simp only [List.nil_append, List.cons_append, argsTm3, vz, tyf, seval, ua, rg]
 refine ktree (args0 := [.agg (cGLs s), sI out]) (by first | (simp only [nrm, au, tH] <;> rfl) | rfl) (by simp only [tre, ar, mJ, Bool.and_self]) (Wu _ _ _ hp) ?_
 refine bC (fun tm => tm 1 = .tp (cGLs s) ∧ tm 2 = .tp [vx eI out] ∧ tm 3 = .ptr nx 0 ∧ tm 9 = sE poss) (by refine ⟨?_, ?_, ?_, ?_⟩ <;> simp only [ua, seval, tyf, Nat.add_zero]) ?_
 rintro tm ⟨e1, e2, e3, e9⟩
 have hw : i64.wrap ((poss.length : Int) - 1) = ((poss.length - 1 : Nat) : Int) := by rw [IntWalk.i64_in _ (by omega)]; omega
 simp only [vz, tyf, seval, ua, nm, rg, e1, e2, e3, e9, hw]
 refine kopen ?_
 rw [BM]
 refine aq.mono (OG (s := s) (out := out) (poss := poss) (last := poss.length - 1) (y := nx) (e := nx + 11) (pl := nx + 4) (la := nx + 9) hst hr (by omega) Xk 5 [] 0 [] L (fun γ => γ = nx ∨ γ = nx + 4 ∨ γ = nx + 9 ∨ γ = nx + 11) _ _ h (by simp) (by omega) (by omega) (by rintro γ (rfl | rfl | rfl | rfl) <;> omega) (.inl rfl) (.inr (.inr (.inr rfl))) (.inr (.inl rfl)) (.inr (.inr (.inl rfl))) (by simp [updH]) (by simp [updH]) (by simp [updH]) (by simp only [updH]; simp; rfl) ?_) ?_ (fun _ _ _ h => h.elim)
 ·rw [List.append_nil]
  refine hst _ _ _ _ _ _ _ hI ?_ (by omega) (by rintro γ (rfl | rfl | rfl | rfl) <;> right <;> omega)
  intro γ h _
  simp only [updH]
  repeat rw [if_neg (by omega)]
 rintro v H2 mK ⟨b, rfl, h1, h2, h3⟩
 simp only [vz, tyf, seval, ua]
 refine Iy (x := .tup []) (by simp [Tryz.results126, resV, resL]) ?_
 replace h3 := hst _ _ noFr _ _ _ _ h3 (fun _ _ _ => rfl) (qZg _) (fun γ h => h.elim)
 cases b with
 | true => exact .inl h3
 | false => exact .inr h3





def rowsL (s : GLs) (k : Int) (ms : List Glm) : Nat → Int → List Int
 | 0, _ => []
 | n + 1, r => rowF s k r ms :: rowsL s k ms n (r + 1)
theorem IV (s : GLs) (k : Int) (ms : List Glm) : ∀ (n : Nat) (r : Int), (rowsL s k ms n r).length = n
 | 0, _ => rfl
 | n + 1, r => by simp [rowsL, IV s k ms n]
theorem Su {l : Gld} (h : LOk l) : ∀ (es : List GLe) (r : Int) (d : List Int), r = d.length → tA l es r (d ++ List.replicate es.length 0) = some (.go (d ++ rowsL l.ls l.stretch l.marks es.length r))
 | [], r, d, _ => by simp [tA, rowsL]
 | e :: es, r, d, hr => by
  have hg : getI (d ++ List.replicate (e :: es).length 0) r = some 0 := by
   unfold getI
   rw [if_pos (by omega), show r.toNat = d.length by omega, List.getElem?_append_right (qZg _)]
   simp
  have hs : List.set (d ++ List.replicate (e :: es).length 0) (Int.toNat r) (rowF l.ls l.stretch r l.marks) = (d ++ [rowF l.ls l.stretch r l.marks]) ++ List.replicate es.length 0 := by
   rw [show r.toNat = d.length by omega, List.set_append_right _ _ (qZg _)]
   simp [List.replicate_succ]
  simp only [tA, AS h, Option.bind_some, hg, hs]
  rw [Su h es (r + 1) _ (by simp; omega)]
  simp [rowsL]
theorem Ur {l : Gld} (h : LOk l) : yn l = some (rowsL l.ls l.stretch l.marks l.lx.Ends.length 0) := by
 have hn := h.ne
 simp only [yn]
 rw [yd.2 (by omega), cond_true, nF (by omega), cond_true]
 have := Su h l.lx.Ends 0 [] rfl
 rw [List.nil_append, List.nil_append] at this
 rw [show Int.toNat (l.lx.Ends.length : Int) = l.lx.Ends.length by omega, this]
 rfl
theorem uE : ∀ (es : List GLe) (fl : List FL), AL es fl → es.length ≤ fl.length
 | [], [], _ => qZg _
 | [], _ :: _, h => h.elim
 | _ :: _, [], h => h.elim
 | e :: es, f :: fl, h => by
  unfold AL at h
  split at h
  ·have := uE es fl h
   simp; omega
  ·have := uE (e :: es) fl h
   simp at this ⊢; omega
theorem AX (out : List Int) : ∀ (ws : List GLw) (i : Int), (∀ w ∈ ws, w.Signs.length ≤ 6) → (ltrsL out ws i).length ≤ 6 * ws.length
 | [], _, _ => by simp [ltrsL]
 | w :: ws, i, h => by
  have h1 := AX out ws (i + 1) fun x hx => h x (qZa _ hx)
  have h2 := h w (qZb ..)
  unfold ltrsL
  cases out.contains i <;> simp [xZ] <;> omega
theorem uF : ∀ (es : List GLe) (fl : List FL) (r : Int) (m : Glm), m ∈ (mkS es fl r).1 → ∃ f ∈ fl, f.2.1 = m.sign
 | es, [], r, m, h => by cases es <;> simp [mkS] at h
 | [], f :: fl, r, m, h => by simp [mkS] at h
 | e :: es, f :: fl, r, m, h => by
  by_cases he : e = f.1
  ·rw [rM he] at h
   rcases List.mem_cons.1 h with rfl | h
   ·exact ⟨f, qZb .., rfl⟩
   ·obtain ⟨g, hg, h2⟩ := uF es fl (r + 1) m h
    exact ⟨g, qZa _ hg, h2⟩
  ·rw [rN he] at h
   rcases List.mem_cons.1 h with rfl | h
   ·exact ⟨f, qZb .., rfl⟩
   ·obtain ⟨g, hg, h2⟩ := uF (e :: es) fl r m h
    exact ⟨g, qZa _ hg, h2⟩
theorem uG : ∀ (es : List GLe) (fl : List FL) (r : Int), AL es fl → (mkS es fl r).1.length = fl.length
 | [], [], r, _ => by simp [mkS]
 | [], _ :: _, _, h => h.elim
 | _ :: _, [], _, h => h.elim
 | e :: es, f :: fl, r, h => by
  unfold AL at h
  by_cases he : e = f.1
  ·rw [if_pos he] at h
   rw [rM he]
   simp [uG es fl (r + 1) h]
  ·rw [if_neg he] at h
   rw [rN he]
   simp [uG (e :: es) fl r h]
theorem uH : ∀ (es : List GLe) (fl : List FL) (r : Int), AL es fl → ∀ j : Int, r ≤ j → j < r + es.length → ∃ m ∈ (mkS es fl r).1, m.row = j
 | [], _, r, _, j, h1, h2 => by simp at h2; omega
 | _ :: _, [], _, h, _, _, _ => h.elim
 | e :: es, f :: fl, r, h, j, h1, h2 => by
  simp only [List.length_cons] at h2
  unfold AL at h
  by_cases he : e = f.1
  ·rw [if_pos he] at h
   rw [rM he]
   by_cases hj : j = r
   ·exact ⟨_, qZb .., hj.symm⟩
   ·obtain ⟨m, hm, h3⟩ := uH es fl (r + 1) h j (by omega) (by omega)
    exact ⟨m, qZa _ hm, h3⟩
  ·rw [if_neg he] at h
   rw [rN he]
   obtain ⟨m, hm, h3⟩ := uH (e :: es) fl r h j h1 (by simp only [List.length_cons]; omega)
   exact ⟨m, qZa _ hm, h3⟩
def marksOf (s : GLs) (x : GLx) : List Glm := (mkS x.Ends (ltrsL x.Out s.Words 0) 0).1
theorem yE {s : GLs} (h : Sh s) {x : GLx} (hs : IsS (possL x.Out s.Words 0) x.Ends) : AL x.Ends (ltrsL x.Out s.Words 0) :=
 AL_of _ _ hs.1 (BH _ _ _) (fun e he => yb _ _ _ (fun w hw => ⟨(h.wlen w hw).1, (h.wcut w hw).2.1⟩) e (hs.2.1 e he)) (by rw [hs.2.2, Qk _ _ _ fun w hw => (h.wlen w hw).1])
theorem oz {s : GLs} (h : Sh s) {x : GLx} (ho : lenOk x.Out = true) (hs : IsS (possL x.Out s.Words 0) x.Ends) {k : Int} (h0 : 0 ≤ k) (h1 : k ≤ 10) : ∃ l, rT s x k = some l ∧ LOk l ∧ l.ls = s ∧ l.lx = x ∧ l.stretch = k ∧ l.marks = marksOf s x := by
 have hal := yE h hs
 have hw := h.nw
 have hp := h.npair
 have hl := AX x.Out s.Words 0 fun w hw => (h.wlen w hw).2
 have he := uE _ _ hal
 obtain ⟨m, hm, hmo⟩ := xY s.Pairs 0 [] (fun _ _ => none) (fun l r => ⟨rfl, fun v hv => by cases hv⟩)
 have h2 := tv x ho (by omega) s.Words 0 0 [] x.Ends (fun w hw => (h.wlen w hw).2) (qZf _) (by omega) rfl hal (by simp; omega)
 refine ⟨_, by simp only [rT]; rw [nF (by omega), cond_true, hm, og, nF (by omega), cond_true, h2, og], ⟨h, hmo, fun q hq => ?_, ?_, by simp only; omega, ?_, h0, h1⟩, rfl, rfl, rfl, by simp [marksOf]⟩
 ·rw [List.nil_append] at hq
  obtain ⟨f, hf, e⟩ := uF _ _ _ _ hq
  obtain ⟨_, w, hw, hc⟩ := vH hf
  have := h.wsign w hw _ hc
  rw [e] at this
  exact this
 ·simp only [List.nil_append]
  rw [uG _ _ _ hal]
  omega
 ·intro j a b
  simp only [List.nil_append]
  exact uH _ _ 0 hal j a (by simpa using b)
theorem OJ {l : Gld} (h : LOk l) {k : Int} (h0 : 0 ≤ k) (h1 : k ≤ 10) : LOk (setS l k) := ⟨h.sh, h.mp, h.sg, h.nm, h.ne, h.rw, h0, h1⟩
theorem OK {l : Gld} (h : LOk l) {k k' : Int} (h0 : 0 ≤ k) (hk : k ≤ k') (h1 : k' ≤ 10) (hf : fitB l k' = true) : fitB l k = true := by
 unfold fitB at hf ⊢
 simp only [Bool.and_eq_true, Sn] at hf ⊢
 exact ⟨fun j a b => Int.le_trans (Sl h.sh h0 hk h1 j l.marks) (hf.1 j a b), hf.2⟩
theorem AY {l : Gld} (h : LOk l) : ∀ (m i : Nat) (acc : Option Gld), i + m = 11 → (∀ j : Nat, j < i → fitB l (j : Int) = true) → (acc = if i = 0 then none else some (setS l ((i : Int) - 1))) →
  ∃ w, wLoop l m i acc = some w ∧ ((w = none ∧ fitB l 0 = false) ∨ ∃ K : Nat, K ≤ 10 ∧ w = some (setS l (K : Int)) ∧ ∀ j : Nat, j ≤ 10 → fitB l (j : Int) = decide (j ≤ K))
 | 0, i, acc, hi, hj, ha => by
  refine ⟨acc, rfl, .inr ⟨10, qZg _, ?_, fun j hj' => ?_⟩⟩
  ·rw [ha, if_neg (by omega)]
   congr 2
   omega
  ·rw [hj j (by omega), decide_eq_true hj']
 | m + 1, i, acc, hi, hj, ha => by
  have hl := OJ h (k := (i : Int)) (by omega) (by omega)
  have hf : tC (setS l (i : Int)) = some (fitB l (i : Int)) := O9 hl
  simp only [wLoop, hf, Option.bind_some]
  cases hb : fitB l (i : Int) with
  | true =>
   simp only [cond_true]
   refine AY h m (i + 1) _ (by omega) (fun j h2 => ?_) ?_
   ·by_cases hji : j = i
    ·rw [hji]; exact hb
    ·exact hj j (by omega)
   ·rw [if_neg (by omega)]
    congr 2
    omega
  | false =>
   simp only [cond_false]
   refine ⟨acc, rfl, ?_⟩
   by_cases h0 : i = 0
   ·subst h0
    exact .inl ⟨by rw [ha, if_pos rfl], hb⟩
   ·right
    refine ⟨i - 1, by omega, ?_, fun j hj' => ?_⟩
    ·rw [ha, if_neg h0]
     congr 2
     omega
    ·by_cases hji : j ≤ i - 1
     ·rw [decide_eq_true hji]; exact hj j (by omega)
     ·rw [decide_eq_false hji]
      cases hc : fitB l (j : Int) with
      | false => rfl
      | true =>
       have := OK h (k := (i : Int)) (k' := (j : Int)) (by omega) (by omega) (by omega) hc
       rw [this] at hb
       cases hb
def fitS (s : GLs) (x : GLx) (k : Int) : Bool := rowsOk s k (marksOf s x) x.Ends.length 0 && decide ((x.Ends.length : Int) ≤ s.Rows)
def MostS (s : GLs) (x : GLx) : Option Nat → Prop
 | none => fitS s x 0 = false
 | some K => K ≤ 10 ∧ ∀ j : Nat, j ≤ 10 → fitS s x (j : Int) = decide (j ≤ K)
theorem Kf {s : GLs} (h : Sh s) {x : GLx} (ho : lenOk x.Out = true) (hs : IsS (possL x.Out s.Words 0) x.Ends) : ∃ l w o, rT s x 0 = some l ∧ BP l = some w ∧ MostS s x o ∧ (w = o.map fun K => setS l (K : Int)) ∧ l.ls = s ∧ l.lx = x ∧ LOk l := by
 obtain ⟨l, h1, h2, h3, h4, h5, h6⟩ := oz h ho hs (k := 0) (qZf _) (by omega)
 obtain ⟨w, q1, q2⟩ := AY h2 11 0 none rfl (fun j hj => by omega) rfl
 have e : ∀ k, fitB l k = fitS s x k := fun k => by unfold fitB fitS; rw [h3, h4, h6]
 rcases q2 with ⟨rfl, q2⟩ | ⟨K, k1, rfl, q2⟩
 ·exact ⟨l, none, none, h1, q1, by rw [e] at q2; exact q2, rfl, h3, h4, h2⟩
 ·exact ⟨l, _, some K, h1, q1, ⟨k1, fun j hj => by rw [← e]; exact q2 j hj⟩, rfl, h3, h4, h2⟩
theorem Sv : ∀ (p : List GLw) (i : Int), ∃ r, wc p i = some r ∧ (∀ k c, r ≠ .brk k c)
 | [], _ => ⟨_, rfl, by intro _ _ h; cases h⟩
 | e :: p, i => by
  obtain ⟨r, hr, h⟩ := Sv p (i + 1)
  simp only [wc, hr]
  cases decide (i < 6)
  ·exact ⟨_, rfl, by intro _ _ h; cases h⟩
  ·cases decide ((e.Signs.length : Int) > 8)
   ·cases decide ((e.Cuts.length : Int) > 8)
    ·exact ⟨_, rfl, h⟩
    ·exact ⟨_, rfl, by intro _ _ h; cases h⟩
   ·exact ⟨_, rfl, by intro _ _ h; cases h⟩
theorem Jp (s : GLs) (h : lenOk s.Words = true) : ∃ b, yH s = some b := by
 obtain ⟨r, hr, hk⟩ := Sv s.Words 0
 simp only [yH, h, cond_true, hr]
 match r, hk with
 | .ret b, _ => exact ⟨_, rfl⟩
 | .go _, _ =>
  simp only [lbind]
  cases decide ((s.Widths.length : Int) ≤ 8)
  ·exact ⟨_, rfl⟩
  ·cases decide ((s.Pairs.length : Int) ≤ 8)
   ·exact ⟨_, rfl⟩
   ·exact ⟨_, rfl⟩
 | .brk k c, hk => exact absurd rfl (hk k c)
structure Good (s : GLs) (x : GLx) : Prop where
 fine : FineS s
 sheet : sheetB s = true
 out : outB s x.Out = true
 ends : IsS (possL x.Out s.Words 0) x.Ends
 lo : lenOk x.Out = true
 le : lenOk x.Ends = true
theorem Good.sh {s : GLs} {x : GLx} (g : Good s x) : Sh s := sh_of g.sheet
theorem Good.is {s : GLs} {x : GLx} (g : Good s x) : Ko s x = some true := by
 rw [UW g.sh x g.lo g.le, g.out]
 have := (Km _ _ (yY g.sh x.Out)).2 g.ends
 rw [this]; rfl
theorem yF {s : GLs} {x : GLx} (g : Good s x) : Marks s (marksOf s x) := by
 obtain ⟨l, e1, e2, e3, e4, e5, e6⟩ := oz g.sh g.lo g.ends (k := 0) (qZf _) (by omega)
 have := e2.sg
 rwa [e3, e6] at this
theorem Jr {s : GLs} {x : GLx} (g : Good s x) : ∀ j : Int, 0 ≤ j → j < x.Ends.length → ∃ m ∈ marksOf s x, m.row = j := by
 obtain ⟨l, e1, e2, e3, e4, e5, e6⟩ := oz g.sh g.lo g.ends (k := 0) (qZf _) (by omega)
 have := e2.rw
 rwa [e4, e6] at this
theorem IX {s : GLs} {x : GLx} (g : Good s x) : x.Ends.length ≤ 24 := by
 obtain ⟨l, e1, e2, e3, e4, e5, e6⟩ := oz g.sh g.lo g.ends (k := 0) (qZf _) (by omega)
 have := e2.ne
 rwa [e4] at this
end Go.V
end
