/- Part of a proof. -/
import Derived.Test.YtlkognggeadanaaGreatDoorDbk
set_option linter.all false
set_option maxRecDepth 4000
set_option maxHeartbeats 40000000
section
namespace Go.V
open Go Go.Proofs IntKind
instance {a b : GLe} : Decidable (befE a b) := inferInstanceAs (Decidable (_ ∨ _))
theorem MB (a b : GLe) : D7 a b = some (decide (befE a b)) := by
 unfold D7 befE
 by_cases h1 : a.Word < b.Word
 ·simp [h1]
 ·by_cases h2 : a.Word = b.Word
  ·simp [h1, h2]
  ·have : (a.Word == b.Word) = false := by simpa using h2
   simp [h1, h2, this]
def letB (s : GLs) (e : GLe) : Bool := match getI s.Words e.Word with
 | some w => (e.Letters == (w.Signs.length : Int)) || w.Cuts.contains e.Letters
 | none => false
def memB (s : GLs) (out : List Int) (e : GLe) : Bool := inB 0 ((s.Words.length : Int) - 1) e.Word && (!out.contains e.Word && letB s e)
theorem MC {s : GLs} {out : List Int} {e : GLe} : memB s out e = true ↔ e ∈ possL out s.Words 0 := by
 rw [FZ]
 unfold memB letB
 simp only [Bool.and_eq_true, tx, Bool.not_eq_true']
 constructor
 ·rintro ⟨h1, h2, h3⟩
  refine ⟨e.Word.toNat, ?_⟩
  have hk : (0 : Int) + (e.Word.toNat : Int) = e.Word := by omega
  rw [hk]
  split at h3
  ·rename_i w hw
   unfold getI at hw
   rw [if_pos h1.1] at hw
   refine ⟨w, hw, h2, yV.2 ⟨rfl, ?_⟩⟩
   simp only [Bool.or_eq_true, beq_iff_eq, List.contains_eq_mem, decide_eq_true_eq] at h3
   exact h3.symm
  ·cases h3
 ·rintro ⟨k, w, hk, h2, h3⟩
  obtain ⟨h3, h4⟩ := yV.1 h3
  have hlt : k < s.Words.length := by
   rcases Nat.lt_or_ge k s.Words.length with h | h
   ·exact h
   ·rw [List.getElem?_eq_none h] at hk; cases hk
  rw [← h3] at h2
  refine ⟨by omega, h2, ?_⟩
  have hg : getI s.Words e.Word = some w := by
   unfold getI
   rw [if_pos (by omega), show e.Word.toNat = k by omega]
   exact hk
  simp only [hg, Bool.or_eq_true, beq_iff_eq, List.contains_eq_mem, decide_eq_true_eq]
  exact h4.symm
def stgG (s : GLs) (out : List Int) : Option GLe → List GLe → Bool
 | _, [] => true
 | none, e :: p => memB s out e && stgG s out (some e) p
 | some q, e :: p => memB s out e && (decide (befE q e) && stgG s out (some e) p)
theorem Uy (s : GLs) (out : List Int) : ∀ (p : List GLe) (q : GLe), stgG s out (some q) p = true ↔ (q :: p).Pairwise befE ∧ ∀ e ∈ p, memB s out e = true
 | [], q => by simp [stgG]
 | e :: p, q => by
  have ih := Uy s out p e
  simp only [stgG, Bool.and_eq_true, ih, decide_eq_true_eq]
  constructor
  ·rintro ⟨h1, h2, h3, h4⟩
   refine ⟨List.pairwise_cons.2 ⟨fun x hx => ?_, h3⟩, fun x hx => ?_⟩
   ·rcases List.mem_cons.1 hx with rfl | hx
    ·exact h2
    ·exact BK h2 ((List.pairwise_cons.1 h3).1 x hx)
   ·rcases List.mem_cons.1 hx with rfl | hx
    ·exact h1
    ·exact h4 x hx
  ·rintro ⟨h1, h2⟩
   rw [List.pairwise_cons] at h1
   exact ⟨h2 e (qZb ..), h1.1 e (qZb ..), h1.2, fun x hx => h2 x (qZa _ hx)⟩
theorem Uz (s : GLs) (out : List Int) : ∀ (p : List GLe), stgG s out none p = true ↔ p.Pairwise befE ∧ ∀ e ∈ p, e ∈ possL out s.Words 0
 | [] => by simp [stgG]
 | e :: p => by
  simp only [stgG, Bool.and_eq_true, Uy, MC]
  constructor
  ·rintro ⟨h1, h2, h3⟩
   refine ⟨h2, fun x hx => ?_⟩
   rcases List.mem_cons.1 hx with rfl | hx
   ·exact h1
   ·exact h3 x hx
  ·rintro ⟨h1, h2⟩
   exact ⟨h2 e (qZb ..), h1, fun x hx => h2 x (qZa _ hx)⟩
theorem D8 {s : GLs} (h : Sh s) (x : GLx) (ho : lenOk x.Out = true) (hl : lenOk x.Ends = true) : ∀ (p : List GLe) (q : GLe) (i : Int), 1 ≤ i → x.Ends.drop (i - 1).toNat = q :: p → sR s x p i = goB (stgG s x.Out (some q) p)
 | [], _, _, _, _ => rfl
 | e :: p, q, i, h0, hd => by
  have hb := w7 hl
  have hle := vy hd
  simp only [List.length_cons] at hle
  have hi : i < 9223372036854775808 := by
   rcases hle with hle | hle
   ·omega
   ·cases hle
  have hn : x.Ends.drop (i + 1 - 1).toNat = e :: p := by
   have := bK (i := i - 1) (by omega) hd
   rwa [show i - 1 + 1 = i + 1 - 1 by omega] at this
  have hp : decide (i > 0) = true := by simp; omega
  have hw := h.nw
  simp only [sR, in_eq, Option.bind_some]
  rw [jd (by omega) (by omega)]
  simp only [stgG, memB]
  cases hin : inB 0 ((s.Words.length : Int) - 1) e.Word with
  | false => simp only [cond_false, Bool.false_and]; rfl
  | true =>
   obtain ⟨w, hw', hwm⟩ := D9 hin
   have hc := (h.wcut w hwm).2.2
   simp only [cond_true, zl _ _ ho, Option.bind_some, hp, xe h0 hi hd, MB, hw', zl w.Cuts _ (oV (by omega)), D8 h x ho hl p e (i + 1) (by omega) hn, letB, Bool.true_and]
   cases x.Out.contains e.Word with
   | true => rfl
   | false =>
    simp only [cond_false, Bool.not_false, Bool.true_and, bne]
    cases decide (befE q e) <;> cases (e.Letters == (w.Signs.length : Int)) <;> cases w.Cuts.contains e.Letters <;> simp <;> rfl
theorem MD {s : GLs} (h : Sh s) (x : GLx) (ho : lenOk x.Out = true) (hl : lenOk x.Ends = true) : sR s x x.Ends 0 = goB (stgG s x.Out none x.Ends) := by
 generalize hx : x.Ends = es
 cases es with
 | nil => rfl
 | cons e p =>
  have ih := D8 h x ho hl p e (0 + 1) (by omega) (by rw [hx]; rfl)
  have hw := h.nw
  simp only [sR, in_eq, Option.bind_some]
  rw [jd (by omega) (by omega)]
  simp only [stgG, memB]
  cases hin : inB 0 ((s.Words.length : Int) - 1) e.Word with
  | false => simp only [cond_false, Bool.false_and]; rfl
  | true =>
   obtain ⟨w, hw', hwm⟩ := D9 hin
   have hc := (h.wcut w hwm).2.2
   simp only [cond_true, zl _ _ ho, Option.bind_some, show decide ((0 : Int) > 0) = false from rfl, cond_false, hw', zl w.Cuts _ (oV (by omega)), ih, letB, Bool.true_and]
   cases x.Out.contains e.Word with
   | true => rfl
   | false =>
    simp only [cond_false, Bool.not_false, Bool.true_and, bne]
    cases (e.Letters == (w.Signs.length : Int)) <;> cases w.Cuts.contains e.Letters <;> simp <;> rfl
theorem DA {hi : Int} : ∀ (p : List Int) (q : Int), incr q p = true → (p.length : Int) < hi - q → ∃ j, q < j ∧ j ≤ hi ∧ j ∉ p
 | [], q, _, h => ⟨q + 1, by omega, by simp at h; omega, by simp⟩
 | e :: p, q, h1, h2 => by
  simp only [incr, Bool.and_eq_true, Bool.not_eq_true', decide_eq_false_iff_not] at h1
  simp only [List.length_cons] at h2
  by_cases he : e = q + 1
  ·obtain ⟨j, a, b, c⟩ := DA (hi := hi) p e h1.2 (by omega)
   refine ⟨j, by omega, b, fun hm => ?_⟩
   rcases List.mem_cons.1 hm with hm | hm
   ·omega
   ·exact c hm
  ·refine ⟨q + 1, by omega, by omega, fun hm => ?_⟩
   have hpw := xQ p e h1.2
   rcases List.mem_cons.1 hm with hm | hm
   ·omega
   ·have := (List.pairwise_cons.1 hpw).1 _ hm
    omega
theorem DB {s : GLs} {out : List Int} (h : outB s out = true) : ∃ j : Nat, j < s.Words.length ∧ out.contains (j : Int) = false := by
 simp only [outB, Bool.and_eq_true, decide_eq_true_eq] at h
 obtain ⟨h1, ⟨h2, h2'⟩, _⟩ := h
 have : ∃ j, (-1 : Int) < j ∧ j ≤ (s.Words.length : Int) - 1 ∧ j ∉ out := by
  cases out with
  | nil => exact ⟨0, by omega, by simp at h1; omega, by simp⟩
  | cons e p =>
   simp only [List.length_cons] at h1
   refine DA (e :: p) (-1) ?_ (by simp only [List.length_cons]; omega)
   simp only [List.all_cons, Bool.and_eq_true, tx] at h2'
   simp only [incrL] at h2
   simp only [incr, h2, Bool.and_true, Bool.not_eq_true', decide_eq_false_iff_not]
   omega
 obtain ⟨j, a, b, c⟩ := this
 exact ⟨j.toNat, by omega, by rw [show ((j.toNat : Nat) : Int) = j by omega]; simpa using c⟩
theorem F6 {α : Type} {xs : List α} {i : Nat} {x : α} (h : xs[i]? = some x) : getI xs (i : Int) = some x := by
 unfold getI
 simp [h]
theorem DC {out : List Int} (hl : lenOk out = true) : ∀ (n f : Nat), n < f → n < 1000 → (∃ j : Nat, j ≤ n ∧ out.contains (j : Int) = false) → ∃ m : Nat, m ≤ n ∧ z6 out f (n : Int) = some (.go (m : Int)) ∧ out.contains (m : Int) = false ∧ ∀ k : Nat, m < k → k ≤ n → out.contains (k : Int) = true
 | n, 0, h, _, _ => by omega
 | n, f + 1, h, hn, hj => by
  simp only [z6, zl _ _ hl, Option.bind_some]
  cases hc : out.contains (n : Int) with
  | false => exact ⟨n, qZf _, rfl, hc, fun k h1 h2 => by omega⟩
  | true =>
   simp only [cond_true]
   obtain ⟨j, h1, h2⟩ := hj
   have hne : j ≠ n := fun e => by rw [e, hc] at h2; cases h2
   cases n with
   | zero => omega
   | succ n =>
    obtain ⟨m, q1, q2, q3, q4⟩ := DC hl n f (by omega) (by omega) ⟨j, by omega, h2⟩
    rw [jd (by omega) (by omega), show (((n + 1 : Nat) : Int) - 1) = (n : Int) by omega]
    refine ⟨m, by omega, q2, q3, fun k h3 h4 => ?_⟩
    by_cases hk : k = n + 1
    ·rw [hk]; exact hc
    ·exact q4 k h3 (by omega)
theorem U0 (out : List Int) : ∀ (ws : List GLw) (i : Int), (∀ k : Nat, k < ws.length → out.contains (i + k) = true) → possL out ws i = []
 | [], _, _ => rfl
 | w :: ws, i, h => by
  have h0 := h 0 (by simp)
  rw [Int.natCast_zero, Int.add_zero] at h0
  unfold possL
  rw [h0, cond_true]
  exact U0 out ws (i + 1) fun k hk => by
   have := h (k + 1) (by simp; omega)
   rwa [show i + ((k + 1 : Nat) : Int) = i + 1 + k by omega] at this
theorem U1 (out : List Int) : ∀ (ws : List GLw) (i : Int) (m : Nat) (w : GLw), ws[m]? = some w → out.contains (i + m) = false → (∀ k : Nat, m < k → k < ws.length → out.contains (i + k) = true) → (possL out ws i).getLast? = some (GLe.mk (i + m) (w.Signs.length : Int))
 | [], _, m, w, h, _, _ => by simp at h
 | v :: ws, i, 0, w, h, h1, h2 => by
  simp only [List.getElem?_cons_zero, Option.some.injEq] at h
  subst h
  have hn := U0 out ws (i + 1) fun k hk => by
   have := h2 (k + 1) (by omega) (by simp; omega)
   rwa [show i + ((k + 1 : Nat) : Int) = i + 1 + k by omega] at this
  rw [Int.natCast_zero, Int.add_zero] at h1 ⊢
  unfold possL
  rw [h1, cond_false, hn, List.append_nil]
  simp [posW]
 | v :: ws, i, m + 1, w, h, h1, h2 => by
  have e1 : i + ((m + 1 : Nat) : Int) = i + 1 + m := by omega
  rw [e1] at h1 ⊢
  have ih := U1 out ws (i + 1) m w (by simpa using h) h1 fun k h3 h4 => by
   have := h2 (k + 1) (by omega) (by simp; omega)
   rwa [show i + ((k + 1 : Nat) : Int) = i + 1 + k by omega] at this
  unfold possL
  cases out.contains i with
  | true => exact ih
  | false => rw [cond_false, List.getLast?_append, ih]; rfl
theorem ME {s : GLs} {out : List Int} (h : outB s out = true) : possL out s.Words 0 ≠ [] := by
 obtain ⟨j, h1, h2⟩ := DB h
 intro hn
 have : GLe.mk (j : Int) (s.Words[j].Signs.length : Int) ∈ possL out s.Words 0 := by
  rw [FZ]
  exact ⟨j, s.Words[j], qZh h1, by rw [Int.zero_add]; exact h2, yV.2 ⟨by simp, .inr rfl⟩⟩
 rw [hn] at this
 cases this
theorem Mv {s : GLs} (h : Sh s) (x : GLx) (ho : lenOk x.Out = true) (he : lenOk x.Ends = true) : D2 s x = some (outB s x.Out && areE x.Ends (possL x.Out s.Words 0)) := by
 have hw := h.nw
 simp only [D2, MF s _ ho (by omega), Option.bind_some]
 cases hob : outB s x.Out with
 | false => rfl
 | true =>
  simp only [cond_true, Bool.true_and]
  have hiff := CK x.Ends (possL x.Out s.Words 0) (xq h x.Out)
  have hpn := ME hob
  cases hx : x.Ends with
  | nil =>
   rw [hx] at hiff
   simp only [List.length_nil, Int.natCast_zero, beq_self_eq_true, cond_true]
   cases ha : areE [] (possL x.Out s.Words 0) with
   | false => rfl
   | true =>
    have := (hiff.1 ha).2.2
    rw [List.getLast?_nil] at this
    exact absurd (List.getLast?_eq_none_iff.1 this.symm) hpn
  | cons e p =>
   have hz : (((e :: p).length : Int) == 0) = false := by simp; omega
   rw [hz, cond_false, ← hx, he, cond_true, MD h x ho he, w6]
   cases hg : stgG s x.Out none x.Ends with
   | false =>
    simp only [cond_false]
    cases ha : areE x.Ends (possL x.Out s.Words 0) with
    | false => rfl
    | true =>
     obtain ⟨h1, h2, _⟩ := hiff.1 ha
     rw [(Uz s x.Out x.Ends).2 ⟨h1, h2⟩] at hg
     cases hg
   | true =>
    simp only [cond_true]
    obtain ⟨h1, h2⟩ := (Uz s x.Out x.Ends).1 hg
    obtain ⟨j, hj1, Yn⟩ := DB hob
    obtain ⟨m, q1, q2, q3, q4⟩ := DC ho (s.Words.length - 1) 1000000 (by omega) (by omega) ⟨j, by omega, Yn⟩
    have hm : m < s.Words.length := by omega
    have hwm : s.Words[m]? = some s.Words[m] := qZh hm
    have hlast := U1 x.Out s.Words 0 m _ hwm (by rw [Int.zero_add]; exact q3) fun k h3 h4 => by rw [Int.zero_add]; exact q4 k h3 (by omega)
    rw [Int.zero_add] at hlast
    have hgw : getI s.Words (m : Int) = some s.Words[m] := F6 hwm
    have hel : x.Ends.length = p.length + 1 := by rw [hx]; rfl
    have hlE := w7 he
    simp only [Ga]
    rw [jd (by omega) (by omega), show ((s.Words.length : Int) - 1) = ((s.Words.length - 1 : Nat) : Int) by omega, q2, mY, Option.bind_some, Jg (by omega) hlE]
    obtain ⟨y, hy⟩ : ∃ y, x.Ends.getLast? = some y := by
     rw [hx, List.getLast?_cons]; exact ⟨_, rfl⟩
    rw [hy, Option.bind_some, hgw, Option.bind_some]
    congr 1
    rw [BG y (GLe.mk (m : Int) (s.Words[m].Signs.length : Int))]
    cases ha : areE x.Ends (possL x.Out s.Words 0) with
    | true =>
     have := (hiff.1 ha).2.2
     rw [hy, hlast, Option.some.injEq] at this
     simpa using this
    | false =>
     rw [decide_eq_false_iff_not]
     intro hh
     rw [hiff.2 ⟨h1, h2, by rw [hy, hlast, hh]⟩] at ha
     cases ha
end Go.V
end
section
namespace Go.V
open Go Go.Proofs IntKind
section
variable {P : Program} {K V : Type} {q : K → K → Bool} {kv : K → Value} {ew : V → VV} {t kt et : TypeId} {H : Nat → Option VObj}
theorem Yo {fs : Array Field} {z : V} (hm : P.underlying t = some (.map kt et)) (hu : P.underlying kt = some (.struct fs)) (he : ∀ a b, aB P (Op.equal kt (kv a) (kv b)) = some (q a b)) (hc : ∀ b k, aB P (Instr.checkKey b 10000 kt (kv k)) = some ())
  (hz : ((P.info? et).bind (·.zero)).map ofVal2 = some (ew z)) {l : List (K × V)} {kx : VV} {k : K} (hk : kx.val? = some (kv k)) :
  vlookup P H t (.mt (mtK kv l) (mtV ew l)) kx true = some (.tup [ew (mapGet q z l k), .lit (.bool (mapHas q l k))]) := by
 have := X0 (H := fun _ => some (.map (encM kv ew l))) (β := 0) hm hu he hc hz hk rfl
 unfold vlookup at this ⊢
 rw [CB]
 exact this
end
end Go.V
end
section
namespace Go.V
open Go Go.Proofs IntKind
def eV (a b : Glp) : Bool := ((a.left == b.left) && ((a.right == b.right) && true))
theorem sS (a b : Glp) : aB Tryz.prog (Op.equal 142 (du a) (du b)) = some (eV a b) := by
 unfold Op.equal
 exact MG 5 142 _ _ _ (by kernel_rfl) 9995
theorem sT (b : Bool) (k : Glp) : aB Tryz.prog (Instr.checkKey b 10000 142 (du k)) = some () := by
 cases b <;> kernel_rfl
theorem vg (a b : Glp) (h : eV a b = true) : a = b := by
 obtain ⟨aleft, aright⟩ := a
 obtain ⟨bleft, bright⟩ := b
 simp only [eV, Bool.and_true, Bool.and_eq_true, beq_iff_eq] at h
 simp only [h]
theorem wB (a : Glp) : eV a a = true := by simp [eV]
theorem DD (a : Glp) : Instr.sameBits 10000 (du a) (du a) = true := by
 simp [du, Instr.sameBits]
theorem DE : ((Tryz.prog.info? 25).bind (·.zero)).map ofVal2 = some (gn (GSpan.mk 0 0)) := by kernel_rfl
theorem DF (k : Glp) : VV.val? (.agg [.lit (.int .i64 k.left), .lit (.int .i64 k.right)]) = some (du k) := rfl
theorem MH {β : Nat} (l : List (Glp × GSpan)) (k : Glp) (n : GSpan) (H : Nat → Option VObj) (hb : H β = some (.map (encM du gn l))) : vmapUpdate Tryz.prog H 90 (.mp β) (.agg [.lit (.int .i64 k.left), .lit (.int .i64 k.right)]) (.agg [.lit (.int .i64 n.Low), .lit (.int .i64 n.High)]) = some (.upd β (.map (encM du gn (mapSet eV l k n)))) :=
 KH Tryz.underlying90 Tryz.underlying142 sS sT vg DD (DF k) hb
theorem MI {c : VV} {cs : List VV} : aU Tryz.prog 90 (c :: cs) = some c := by
 have h1 : aggT Tryz.prog 90 = some false := by kernel_rfl
 simp [aU, vpart, h1]
theorem MJ : szT Tryz.prog 90 = some 1 := by kernel_rfl
theorem DG : vzl Tryz.prog 90 = some [.lit (.map none)] := by kernel_rfl
theorem DH {l : List (Glp × GSpan)} {a_left a_right : Int} {H : Nat → Option VObj} : vlookup Tryz.prog H 90 (.mt (mtK du l) (mtV gn l)) (.agg [.lit (.int .i64 a_left), .lit (.int .i64 a_right)]) false = some (.agg (cGSpan (mapGet eV (GSpan.mk 0 0) l (Glp.mk a_left a_right)))) :=
 KQ Tryz.underlying90 Tryz.underlying142 sS sT DE (k := (Glp.mk a_left a_right)) rfl
theorem lkto90 {l : List (Glp × GSpan)} {a_left a_right : Int} {H : Nat → Option VObj} : vlookup Tryz.prog H 90 (.mt (mtK du l) (mtV gn l)) (.agg [.lit (.int .i64 a_left), .lit (.int .i64 a_right)]) true = some (.tup [.agg (cGSpan (mapGet eV (GSpan.mk 0 0) l (Glp.mk a_left a_right))), .lit (.bool (mapHas eV l (Glp.mk a_left a_right)))]) :=
 Yo Tryz.underlying90 Tryz.underlying142 sS sT DE (k := (Glp.mk a_left a_right)) rfl
theorem MK (H : Nat → Option VObj) (d : Nat) (n : GSpan) : showV H d (gn n) = gn n := by cases d <;> simp [gn, showV, aE, nrm]
theorem ML {kv : Glp → Value} {l : List (Glp × GSpan)} {H : Nat → Option VObj} {d : Nat} : ((encM kv gn l).map (·.2)).map (showV H d) = mtV gn l := KU MK
def mqr := (And.intro (And.intro @Fl @AY) (And.intro @rH True.intro))
def mqt := (And.intro (And.intro (And.intro @MI @MJ) (And.intro @DG @DH)) (And.intro (And.intro @lkto90 @Fl) (And.intro @AY (And.intro @mZ @ML))))
def oX (aj : GLx) (fQ : Int) (e1 : GLw) : List Int → Int → Int → (List Glm) → Option (LOut (Gld) (Int × (List Glm)))
 | [], lN, iQ, lO => some (.go (iQ, lO))
 | e2 :: p2, lN, iQ, lO => Option.bind (getI aj.Ends iQ) (fun x8 => cond (x8.Word == fQ && (x8.Letters == (lN + 1))) (cond (av 32 (List.length (lO ++ [(Glm.mk fQ e2 iQ (decide ((lN + 1) < (List.length e1.Signs : Int))))]))) (oX aj fQ e1 p2 (lN + 1) (i64.wrap (iQ + 1)) (lO ++ [(Glm.mk fQ e2 iQ (decide ((lN + 1) < (List.length e1.Signs : Int))))])) none) (cond (av 32 (List.length (lO ++ [(Glm.mk fQ e2 iQ false)]))) (oX aj fQ e1 p2 (lN + 1) iQ (lO ++ [(Glm.mk fQ e2 iQ false)])) none))
def t0 (aj : GLx) : List GLw → Int → Int → (List Glm) → Option (LOut (Gld) (Int × (List Glm)))
 | [], fQ, pz, pE => some (.go (pz, pE))
 | e1 :: p1, fQ, pz, pE => Option.bind (z7 aj.Out fQ) (fun r7 => cond (r7) (t0 aj p1 (fQ + 1) pz pE) (cond (lenOk e1.Signs) (lbind (oX aj fQ e1 e1.Signs 0 pz pE) (fun z2 => some (.ret z2)) (fun c9 => t0 aj p1 (fQ + 1) c9.1 c9.2) (fun _ _ => none)) none))
def yT  : List GLp → Int → (List (Glp × GSpan)) → Option (LOut (Gld) ((List (Glp × GSpan))))
 | [], nt, gi => some (.go gi)
 | e0 :: p0, nt, gi => yT p0 (nt + 1) (mapSet eV gi (Glp.mk e0.Left e0.Right) e0.Space)
def CF (ad : GLs) (aj : GLx) (aZ : Int) : Option (Gld) := cond (lenOk ad.Pairs) (lbind (yT ad.Pairs 0 ([] : List (Glp × GSpan))) (fun zr => some zr) (fun c1 => cond (lenOk ad.Words) (lbind (t0 aj ad.Words 0 0 ([] : List Glm)) (fun z8 => some z8) (fun Fm => some (Gld.mk ad aj aZ c1 Fm.2)) (fun _ _ => none)) none) (fun _ _ => none)) none
theorem XF (ad : GLs) (aj : GLx) (aZ : Int) (R : Gld) (h : CF ad aj aZ = some R) : ag Tryz.prog G0 71 [.agg (cGLs ad), .agg (cGLx aj), .lit (.int .i64 aZ)] (.tree (.agg (cGld R))) := by
 refine ag.runR mixed Tryz.call71 Tryz.func71 rfl (by simp [Tryz.ntmps71]; kernel_rfl) ?_
 obtain ⟨KF, h, kF, kN⟩ := eC h
 simp only [CF] at h
 cases nP : (lenOk ad.Pairs)
 ·simp only [nP, hs] at h
  exact absurd h kN
 simp only [nP, hs] at h
 simp only [vz, mq, mqm, tyf, mqt, nP, nm, seval]
 obtain ⟨Yp, h, Yq, MM, Yr, Ys⟩ := gp h kN
 obtain ⟨Yt, MN, h⟩ := call3 h
 obtain ⟨Yu, xR⟩ : ∃ I : Nat → St → Prop, I = (fun m st => ∃ (vK : List GLp) (gW : Int) (gX : List (Glp × GSpan)), m = List.length vK ∧ 0 ≤ gW ∧ List.drop (Int.toNat gW) ad.Pairs = vK ∧ st.df = [] ∧ 14 ≤ st.nx ∧ st.H 0 = some (.cells (some 28) (cGLs ad)) ∧ st.H 1 = some (.cells (some 31) (cGLx aj)) ∧ st.H 2 = some (.cells (some 93) ([.lit (.slice none 0 0)] ++ [.lit (.slice none 0 0)] ++ [.lit (.int .i64 0)] ++ [.lit (.int .i64 0)] ++ [.lit (.int .i64 0)] ++ [.lit (.int .i64 0)] ++ [.lit (.int .i64 0)] ++ [.lit (.slice none 0 0)] ++ [.lit (.int .i64 0)] ++ [.lit (.int .i64 0)] ++ [.lit (.slice none 0 0)] ++ [.lit (.slice none 0 0)] ++ [.lit (.int .i64 0)] ++ [.lit (.map none)] ++ [.lit (.slice none 0 0)])) ∧ st.H 6 = some (.map (encM du gn gX)) ∧ st.H 8 = some (.cells (some 93) ((cGLs ad) ++ (cGLx aj) ++ [.lit (.int .i64 aZ)] ++ [.mp 6] ++ [.lit (.slice none 0 0)])) ∧ st.tm 3 = .ptr 0 0 ∧ st.tm 4 = .ptr 1 0 ∧ st.tm 6 = .ptr 2 0 ∧ st.tm 7 = .ptr 8 0 ∧ st.tm 22 = .sl (aa cGLp ad.Pairs) (List.length ad.Pairs) false ∧ st.tm 23 = .lit (.int .i64 (List.length ad.Pairs : Int)) ∧ st.tm 24 = .lit (.int .i64 gW) ∧ Yp (Yt vK gW gX)) := ⟨_, rfl⟩
 refine loopK mixed (by kernel_rfl) Yu (List.length ad.Pairs) (by rw [xR]; refine ⟨ad.Pairs, 0, ([] : List (Glp × GSpan)), rfl, qZe _, rfl, rfl, (show 14 ≤ 14 by omega), ?_, ?_, ?_, ?_, ?_, ?_, ?_, ?_, ?_, ?_, ?_, ?_, h⟩ <;> first | (simp only [ua, dk, nm, seval] <;> rfl) | rfl) ?_
 rintro m ⟨tm, H, iR, df⟩ hinv
 rw [xR] at hinv
 obtain ⟨vK, gW, gX, rfl, qy, sU, hdf, MO, lD, bC, cg, cj, lJ, cn, bJ, cm, cu, cN, dI, dm, h⟩ := hinv
 simp only at hdf MO lD bC cg cj lJ cn bJ cm cu cN dI dm
 have k8 := gq (m := 14) (b := iR) (by omega)
 subst hdf MN
 cases vK with
 | nil =>
  have k9 : (decide (gW < (List.length ad.Pairs : Int))) = false := fy qy sU
  simp only [yT, hs, reduceCtorEq] at h
  replace h := MM _ h
  try dsimp only at h
  try simp only [hs] at h
  cases oE : (lenOk ad.Words)
  ·simp only [oE, hs] at h
   exact absurd h kN
  simp only [oE, hs] at h
  simp only [vz, mq, mqm, tyf, mqt, nP, k8, cn, bJ, cm, cu, cN, dI, dm, lD, bC, cg, cj, lJ, k9, oE, nm, seval]
  obtain ⟨Yv, h, Yw, DI, Yx, qz⟩ := gp h kN
  obtain ⟨Yy, MP, h⟩ := call4 h
  obtain ⟨Yz, nu⟩ : ∃ I : Nat → St → Prop, I = (fun m st => ∃ (lP : List GLw) (ar : Int) (fX : Int) (cW : List Glm) (pF : VV), m = List.length lP ∧ 0 ≤ ar ∧ List.drop (Int.toNat ar) ad.Words = lP ∧ st.df = [] ∧ iR + 6 ≤ st.nx ∧ st.H 0 = some (.cells (some 28) (cGLs ad)) ∧ st.H 1 = some (.cells (some 31) (cGLx aj)) ∧ st.H 2 = some (.cells (some 93) ([.lit (.slice none 0 0)] ++ [.lit (.slice none 0 0)] ++ [.lit (.int .i64 0)] ++ [.lit (.int .i64 0)] ++ [.lit (.int .i64 0)] ++ [.lit (.int .i64 0)] ++ [.lit (.int .i64 0)] ++ [.lit (.slice none 0 0)] ++ [.lit (.int .i64 0)] ++ [.lit (.int .i64 0)] ++ [.lit (.slice none 0 0)] ++ [.lit (.slice none 0 0)] ++ [.lit (.int .i64 0)] ++ [.lit (.map none)] ++ [.lit (.slice none 0 0)])) ∧ st.H 6 = some (.map (encM du gn gX)) ∧ st.H 8 = some (.cells (some 93) ((cGLs ad) ++ (cGLx aj) ++ [.lit (.int .i64 aZ)] ++ [.mp 6] ++ [pF])) ∧ st.tm 3 = .ptr 0 0 ∧ st.tm 4 = .ptr 1 0 ∧ st.tm 6 = .ptr 2 0 ∧ st.tm 7 = .ptr 8 0 ∧ st.tm 40 = .lit (.int .i64 (List.length ad.Words : Int)) ∧ st.tm 10 = .lit (.int .i64 fX) ∧ st.tm 41 = .lit (.int .i64 ar) ∧ ((∃ (β : Nat) (el : Option TypeId), pF = .ref β 0 (List.length cW) 4 (List.length cW) ∧ β < st.nx ∧ β ≠ 0 ∧ β ≠ 1 ∧ β ≠ 2 ∧ β ≠ 6 ∧ β ≠ 8 ∧ st.H β = some (.cells el (aa cGlm cW))) ∨ (pF = .lit (.slice none 0 0) ∧ cW = [])) ∧ Yv (Yy lP ar fX cW)) := ⟨_, rfl⟩
  refine loopK mixed (by kernel_rfl) Yz (List.length ad.Words) (by rw [nu]; refine ⟨ad.Words, 0, 0, ([] : List Glm), .lit (.slice none 0 0), rfl, qZe _, rfl, rfl, (show iR + 6 ≤ iR + 6 by omega), ?_, ?_, ?_, ?_, ?_, cn, bJ, cm, cu, ?_, ?_, ?_, Or.inr ⟨rfl, rfl⟩, h⟩ <;> first | (simp only [ua, dk, k8, cn, bJ, cm, cu, cN, dI, dm, lD, bC, cg, cj, lJ, k9, nm, seval] <;> rfl) | rfl) ?_
  rintro m ⟨tm, H, fR, df⟩ hinv
  rw [nu] at hinv
  obtain ⟨lP, ar, fX, cW, pF, rfl, fS, iS, hdf, MQ, q9, qA, qB, fY, qC, bW, bH, bX, bF, bN, b9, cq, sV, h⟩ := hinv
  simp only at hdf MQ q9 qA qB fY qC bW bH bX bF bN b9 cq sV
  have rp := gq (m := 14) (b := fR) (by omega)
  have fT := u2 (a := iR) (m := 6) (b := fR) (by omega)
  subst hdf MP
  rcases sV with ⟨nv, sW, rfl, MR, xS, xT, MS, MT, MU, z9⟩ | ⟨rfl, rfl⟩
  ·have zA := qa MR
   have kE := ne_f xS
   have kG := ne_f xT
   have zB := ne_f MS
   have zC := ne_f MT
   have zD := ne_f MU
   cases lP with
   | nil =>
    have pG : (decide (ar < (List.length ad.Words : Int))) = false := fy fS iS
    simp only [t0, hs, reduceCtorEq] at h
    replace h := DI _ h
    try dsimp only at h
    try simp only [hs] at h
    try simp only [vz, mq, mqm, tyf, mqt, nP, k8, k9, oE, rp, fT, bW, bH, bX, bF, bN, b9, cq, q9, qA, qB, fY, qC, zA, z9, kE, kG, zB, zC, zD, pG, nm, seval]
    refine eh (x := (.agg ((cGLs ad) ++ (cGLx aj) ++ [.lit (.int .i64 aZ)] ++ [.mp 6] ++ [.ref nv 0 (List.length cW) 4 (List.length cW)]))) (by first | (simp only [Tryz.results71, resV, resL, aR, ei, ej, uw, cr, tyf, mqt, nP, k8, k9, oE, rp, fT, bW, bH, bX, bF, bN, b9, cq, q9, qA, qB, fY, qC, zA, z9, kE, kG, zB, zC, zD, pG, nm, seval] <;> rfl) | rfl) ?_
    obtain rfl := kF _ h
    refine eD ?_ ?_
    ·simp only [tre, aG, mqr, Bool.and_self]
    ·first | (simp only [outV, uw, ep, nF, mZ, cr, tyf, mqt, nrm, aE, nP, k8, k9, oE, rp, fT, bW, bH, bX, bF, bN, b9, cq, q9, qA, qB, fY, qC, zA, z9, kE, kG, zB, zC, zD, pG, nm, seval] <;> rfl) | rfl
   | cons bI lP =>
    have tQ : (decide (ar < (List.length ad.Words : Int))) = true := fz fS iS
    have lb := eg fS iS
    have MV := f2 fS iS oE
    simp only [t0, hs, reduceCtorEq] at h
    obtain ⟨U2, Y0, h⟩ := optI h qz
    try simp only [hs] at h
    simp only [vz, mq, mqm, tyf, mqt, nP, k8, k9, oE, rp, fT, bW, bH, bX, bF, bN, b9, cq, q9, qA, qB, fY, qC, zA, z9, kE, kG, zB, zC, zD, tQ, (aq lb), MV, nm, seval]
    refine ktree (args0 := [.sl (aa eI aj.Out) (List.length aj.Out) false, .lit (.int .i64 ar)]) (by first | (simp only [nrm, aE, mqr] <;> rfl) | rfl) (by simp only [tre, aG, mqr, Bool.and_self]) (Gb _ _ _ Y0) ?_
    refine b5 (fun tm => tm 3 = .ptr 0 0 ∧ tm 4 = .ptr 1 0 ∧ tm 6 = .ptr 2 0 ∧ tm 7 = .ptr 8 0 ∧ tm 10 = .lit (.int .i64 fX) ∧ tm 11 = .lit (.int .i64 ar) ∧ tm 40 = .lit (.int .i64 (List.length ad.Words : Int)) ∧ tm 41 = .lit (.int .i64 ar) ∧ tm 47 = .lit (.bool U2) ∧ True) (by refine ⟨bW, bH, bX, bF, b9, ?_, bN, cq, ?_, trivial⟩ <;> first | (simp only [ua, dk, k8, k9, rp, fT, bW, bH, bX, bF, bN, b9, cq, q9, qA, qB, fY, qC, zA, z9, kE, kG, zB, zC, zD, tQ, MV, nm, seval] <;> rfl) | rfl) ?_
    rintro tm ⟨hT, kn, sX, gv, gG, ij, kS, lG, je, _⟩
    have iH := And.intro nP (And.intro k8 (And.intro k9 (And.intro oE (And.intro rp (And.intro fT (And.intro q9 (And.intro qA (And.intro qB (And.intro fY (And.intro qC (And.intro zA (And.intro z9 (And.intro kE (And.intro kG (And.intro zB (And.intro zC (And.intro zD (And.intro tQ MV))))))))))))))))))
    cases fZ : (U2)
    ·simp only [fZ, hs] at h
     cases sY : (lenOk bI.Signs)
     ·simp only [sY, hs] at h
      exact absurd h qz
     simp only [sY, hs] at h
     simp only [vz, mq, mqm, tyf, mqt, iH, (aq lb), hT, kn, sX, gv, gG, ij, kS, lG, je, fZ, sY, nm, seval]
     obtain ⟨Y1, h, Y2, DJ, Y3, qD⟩ := gp h qz
     obtain ⟨Y4, MW, h⟩ := call4 h
     obtain ⟨Y5, qE⟩ : ∃ I : Nat → St → Prop, I = (fun m st => ∃ (nQ : List Int) (b6 : Int) (br : Int) (bT : List Glm) (pH : VV), m = List.length nQ ∧ 0 ≤ b6 ∧ List.drop (Int.toNat b6) bI.Signs = nQ ∧ st.df = [] ∧ fR + 23 ≤ st.nx ∧ st.H 0 = some (.cells (some 28) (cGLs ad)) ∧ st.H 1 = some (.cells (some 31) (cGLx aj)) ∧ st.H 2 = some (.cells (some 93) ([.lit (.slice none 0 0)] ++ [.lit (.slice none 0 0)] ++ [.lit (.int .i64 0)] ++ [.lit (.int .i64 0)] ++ [.lit (.int .i64 0)] ++ [.lit (.int .i64 0)] ++ [.lit (.int .i64 0)] ++ [.lit (.slice none 0 0)] ++ [.lit (.int .i64 0)] ++ [.lit (.int .i64 0)] ++ [.lit (.slice none 0 0)] ++ [.lit (.slice none 0 0)] ++ [.lit (.int .i64 0)] ++ [.lit (.map none)] ++ [.lit (.slice none 0 0)])) ∧ st.H 6 = some (.map (encM du gn gX)) ∧ st.H 8 = some (.cells (some 93) ((cGLs ad) ++ (cGLx aj) ++ [.lit (.int .i64 aZ)] ++ [.mp 6] ++ [pH])) ∧ st.tm 3 = .ptr 0 0 ∧ st.tm 4 = .ptr 1 0 ∧ st.tm 6 = .ptr 2 0 ∧ st.tm 7 = .ptr 8 0 ∧ st.tm 11 = .lit (.int .i64 ar) ∧ st.tm 12 = .lit (.int .i64 (List.length bI.Signs : Int)) ∧ st.tm 40 = .lit (.int .i64 (List.length ad.Words : Int)) ∧ st.tm 41 = .lit (.int .i64 ar) ∧ st.tm 60 = .sl (aa eI bI.Signs) (List.length bI.Signs) false ∧ st.tm 61 = .lit (.int .i64 (List.length bI.Signs : Int)) ∧ st.tm 10 = .lit (.int .i64 br) ∧ st.tm 62 = .lit (.int .i64 b6) ∧ ((∃ (β : Nat) (el : Option TypeId), pH = .ref β 0 (List.length bT) 4 (List.length bT) ∧ β < st.nx ∧ β ≠ 0 ∧ β ≠ 1 ∧ β ≠ 2 ∧ β ≠ 6 ∧ β ≠ 8 ∧ st.H β = some (.cells el (aa cGlm bT))) ∨ (pH = .lit (.slice none 0 0) ∧ bT = [])) ∧ Y1 (Y4 nQ b6 br bT)) := ⟨_, rfl⟩
     refine loopK mixed (by kernel_rfl) Y5 (List.length bI.Signs) (by rw [qE]; refine ⟨bI.Signs, 0, fX, cW, .ref nv 0 (List.length cW) 4 (List.length cW), rfl, qZe _, rfl, rfl, (show fR + 23 ≤ fR + 23 by omega), ?_, ?_, ?_, ?_, ?_, hT, kn, sX, gv, ij, ?_, kS, lG, ?_, ?_, gG, ?_, Or.inl ⟨nv, sW, rfl, (by first | omega | (simp only [nm, seval]; done) | (simp only [nm, seval]; omega)), (by first | omega | (intro hh; simp only [iH, reduceCtorEq] at hh)), (by first | omega | (intro hh; simp only [iH, reduceCtorEq] at hh)), (by first | omega | (intro hh; simp only [iH, reduceCtorEq] at hh)), (by first | omega | (intro hh; simp only [iH, reduceCtorEq] at hh)), (by first | omega | (intro hh; simp only [iH, reduceCtorEq] at hh)), ?_⟩, h⟩ <;> first | (simp only [ua, dk, iH, hT, kn, sX, gv, gG, ij, kS, lG, je, fZ, nm, seval] <;> rfl) | rfl) ?_
     rintro m ⟨tm, H, gY, df⟩ hinv
     rw [qE] at hinv
     obtain ⟨nQ, b6, br, bT, pH, rfl, ic, jQ, hdf, MX, u3, u4, u5, u6, u7, eM, eR, ck, cz, cA, ct, eJ, dw, cI, cw, cK, gH, sZ, h⟩ := hinv
     simp only at hdf MX u3 u4 u5 u6 u7 eM eR ck cz cA ct eJ dw cI cw cK gH sZ
     have fM := gq (m := 14) (b := gY) (by omega)
     have qF := u2 (a := iR) (m := 6) (b := gY) (by omega)
     have qG := u2 (a := fR) (m := 23) (b := gY) (by omega)
     subst hdf MW
     rcases sZ with ⟨vL, kH, rfl, MY, MZ, Na, Nb, Nc, Nd, Gc⟩ | ⟨rfl, rfl⟩
     ·have u9 := qa MY
      have uA := ne_f MZ
      have uB := ne_f Na
      have uC := ne_f Nb
      have uD := ne_f Nc
      have uE := ne_f Nd
      cases nQ with
      | nil =>
       have uF : (decide (b6 < (List.length bI.Signs : Int))) = false := fy ic jQ
       simp only [oX, hs, reduceCtorEq] at h
       replace h := DJ _ h
       try dsimp only at h
       try simp only [hs] at h
       simp only [vz, mq, mqm, tyf, mqt, iH, (aq lb), fZ, sY, fM, qF, qG, eM, eR, ck, cz, cA, ct, eJ, dw, cI, cw, cK, gH, u3, u4, u5, u6, u7, u9, Gc, uA, uB, uC, uD, uE, uF, nm, seval]
       exact ⟨List.length lP, qZc _, by rw [nu]; refine ⟨lP, ar + 1, br, bT, .ref vL 0 (List.length bT) 4 (List.length bT), rfl, Int.le_trans fS (Int.le_add_one (qZe _)), bK fS iS, rfl, (show iR + 6 ≤ gY + 3 by omega), ?_, ?_, ?_, ?_, ?_, eM, eR, ck, cz, eJ, cK, ?_, Or.inl ⟨vL, kH, rfl, (by first | omega | (simp only [nm, seval]; done) | (simp only [nm, seval]; omega)), (by first | omega | (intro hh; simp only [iH, fM, qF, qG, u9, uA, uB, uC, uD, uE, reduceCtorEq] at hh)), (by first | omega | (intro hh; simp only [iH, fM, qF, qG, u9, uA, uB, uC, uD, uE, reduceCtorEq] at hh)), (by first | omega | (intro hh; simp only [iH, fM, qF, qG, u9, uA, uB, uC, uD, uE, reduceCtorEq] at hh)), (by first | omega | (intro hh; simp only [iH, fM, qF, qG, u9, uA, uB, uC, uD, uE, reduceCtorEq] at hh)), (by first | omega | (intro hh; simp only [iH, fM, qF, qG, u9, uA, uB, uC, uD, uE, reduceCtorEq] at hh)), ?_⟩, (by first | exact h | (simp only [iH, fZ, uF]; exact h))⟩ <;> first | (simp only [ua, dk, iH, fZ, fM, qF, qG, eM, eR, ck, cz, cA, ct, eJ, dw, cI, cw, cK, gH, u3, u4, u5, u6, u7, u9, Gc, uA, uB, uC, uD, uE, uF, nm, seval] <;> rfl) | rfl⟩
      | cons eZ nQ =>
       have DK : (decide (b6 < (List.length bI.Signs : Int))) = true := fz ic jQ
       have ny := eg ic jQ
       have DL := f2 ic jQ sY
       simp only [oX, hs, reduceCtorEq] at h
       obtain ⟨DM, nz, h⟩ := optI h qD
       try simp only [hs] at h
       cases uG : (DM.Word == ar && (DM.Letters == (b6 + 1)))
       ·simp only [uG, hs] at h
        have js := And.intro iH (And.intro fZ (And.intro sY (And.intro fM (And.intro qF (And.intro qG (And.intro u3 (And.intro u4 (And.intro u5 (And.intro u6 (And.intro u7 (And.intro u9 (And.intro Gc (And.intro uA (And.intro uB (And.intro uC (And.intro uD (And.intro uE (And.intro DK (And.intro DL uG)))))))))))))))))))
        cases oF : (av 32 (List.length (bT ++ [(Glm.mk ar eZ br false)])))
        ·simp only [oF, hs] at h
         exact absurd h qD
        simp only [oF, hs] at h
        simp only [vz, mq, mqm, tyf, mqt, js, (aq lb), eM, eR, ck, cz, cA, ct, eJ, dw, cI, cw, cK, gH, (au ny), (aV nz), oF, nm, seval]
        refine k_app (w := 4) (enc := cGlm) (xs := bT) (ys := ([(Glm.mk ar eZ br false)])) (el := kH) (gg := (some 144)) (fun _ => rfl) mX mW Tryz.underlying91 (by first | rfl | assumption | (simp only [bw, bx, jk, js, nm, seval] <;> rfl) | (simp only [bw, bx, dj, d6, dp, dq, tyf, mqt, js, (aq lb), eM, eR, ck, cz, cA, ct, eJ, dw, cI, cw, cK, gH, (au ny), (aV nz), oF, nm, seval]; done)) (by first | rfl | assumption | (simp only [bw, bx, jk, js, nm, seval] <;> rfl) | (simp only [bw, bx, dj, d6, dp, dq, tyf, mqt, js, (aq lb), eM, eR, ck, cz, cA, ct, eJ, dw, cI, cw, cK, gH, (au ny), (aV nz), oF, nm, seval]; done)) (Nat.zero_lt_succ _) oF ?_
        simp only [vz, mq, mqm, tyf, mqt, js, (aq lb), eM, eR, ck, cz, cA, ct, eJ, dw, cI, cw, cK, gH, (au ny), (aV nz), oF, nm, seval]
        exact ⟨List.length nQ, qZc _, by rw [qE]; refine ⟨nQ, b6 + 1, br, (bT ++ [(Glm.mk ar eZ br false)]), .ref (gY + 31) 0 (List.length (bT ++ [(Glm.mk ar eZ br false)])) 4 (List.length (bT ++ [(Glm.mk ar eZ br false)])), rfl, Int.le_trans ic (Int.le_add_one (qZe _)), bK ic jQ, rfl, (show fR + 23 ≤ gY + 37 by omega), ?_, ?_, ?_, ?_, ?_, eM, eR, ck, cz, cA, ct, eJ, dw, cI, cw, cK, ?_, Or.inl ⟨gY + 31, (sameEl kH 144), rfl, (by first | omega | (simp only [nm, seval]; done) | (simp only [nm, seval]; omega)), (by first | omega | (intro hh; simp only [js, reduceCtorEq] at hh)), (by first | omega | (intro hh; simp only [js, reduceCtorEq] at hh)), (by first | omega | (intro hh; simp only [js, reduceCtorEq] at hh)), (by first | omega | (intro hh; simp only [js, reduceCtorEq] at hh)), (by first | omega | (intro hh; simp only [js, reduceCtorEq] at hh)), ?_⟩, (by first | exact h | (simp only [js]; exact h))⟩ <;> first | (simp only [ua, dk, js, eM, eR, ck, cz, cA, ct, eJ, dw, cI, cw, cK, gH, nm, seval] <;> rfl) | rfl⟩
       simp only [uG, hs] at h
       have jt := And.intro iH (And.intro fZ (And.intro sY (And.intro fM (And.intro qF (And.intro qG (And.intro u3 (And.intro u4 (And.intro u5 (And.intro u6 (And.intro u7 (And.intro u9 (And.intro Gc (And.intro uA (And.intro uB (And.intro uC (And.intro uD (And.intro uE (And.intro DK (And.intro DL uG)))))))))))))))))))
       cases oG : (av 32 (List.length (bT ++ [(Glm.mk ar eZ br (decide ((b6 + 1) < (List.length bI.Signs : Int))))])))
       ·simp only [oG, hs] at h
        exact absurd h qD
       simp only [oG, hs] at h
       simp only [vz, mq, mqm, tyf, mqt, jt, (aq lb), eM, eR, ck, cz, cA, ct, eJ, dw, cI, cw, cK, gH, (au ny), (aV nz), oG, nm, seval]
       refine k_app (w := 4) (enc := cGlm) (xs := bT) (ys := ([(Glm.mk ar eZ br (decide ((b6 + 1) < (List.length bI.Signs : Int))))])) (el := kH) (gg := (some 144)) (fun _ => rfl) mX mW Tryz.underlying91 (by first | rfl | assumption | (simp only [bw, bx, jk, jt, nm, seval] <;> rfl) | (simp only [bw, bx, dj, d6, dp, dq, tyf, mqt, jt, (aq lb), eM, eR, ck, cz, cA, ct, eJ, dw, cI, cw, cK, gH, (au ny), (aV nz), oG, nm, seval]; done)) (by first | rfl | assumption | (simp only [bw, bx, jk, jt, nm, seval] <;> rfl) | (simp only [bw, bx, dj, d6, dp, dq, tyf, mqt, jt, (aq lb), eM, eR, ck, cz, cA, ct, eJ, dw, cI, cw, cK, gH, (au ny), (aV nz), oG, nm, seval]; done)) (Nat.zero_lt_succ _) oG ?_
       simp only [vz, mq, mqm, tyf, mqt, jt, (aq lb), eM, eR, ck, cz, cA, ct, eJ, dw, cI, cw, cK, gH, (au ny), (aV nz), oG, nm, seval]
       exact ⟨List.length nQ, qZc _, by rw [qE]; refine ⟨nQ, b6 + 1, i64.wrap (br + 1), (bT ++ [(Glm.mk ar eZ br (decide ((b6 + 1) < (List.length bI.Signs : Int))))]), .ref (gY + 31) 0 (List.length (bT ++ [(Glm.mk ar eZ br (decide ((b6 + 1) < (List.length bI.Signs : Int))))])) 4 (List.length (bT ++ [(Glm.mk ar eZ br (decide ((b6 + 1) < (List.length bI.Signs : Int))))])), rfl, Int.le_trans ic (Int.le_add_one (qZe _)), bK ic jQ, rfl, (show fR + 23 ≤ gY + 40 by omega), ?_, ?_, ?_, ?_, ?_, eM, eR, ck, cz, cA, ct, eJ, dw, cI, cw, ?_, ?_, Or.inl ⟨gY + 31, (sameEl kH 144), rfl, (by first | omega | (simp only [nm, seval]; done) | (simp only [nm, seval]; omega)), (by first | omega | (intro hh; simp only [jt, reduceCtorEq] at hh)), (by first | omega | (intro hh; simp only [jt, reduceCtorEq] at hh)), (by first | omega | (intro hh; simp only [jt, reduceCtorEq] at hh)), (by first | omega | (intro hh; simp only [jt, reduceCtorEq] at hh)), (by first | omega | (intro hh; simp only [jt, reduceCtorEq] at hh)), ?_⟩, (by first | exact h | (simp only [jt]; exact h))⟩ <;> first | (simp only [ua, dk, jt, eM, eR, ck, cz, cA, ct, eJ, dw, cI, cw, cK, gH, nm, seval] <;> rfl) | rfl⟩
     ·cases nQ with
      | nil =>
       have xU : (decide (b6 < (List.length bI.Signs : Int))) = false := fy ic jQ
       simp only [oX, hs, reduceCtorEq] at h
       replace h := DJ _ h
       try dsimp only at h
       try simp only [hs] at h
       simp only [vz, mq, mqm, tyf, mqt, iH, (aq lb), fZ, sY, fM, qF, qG, eM, eR, ck, cz, cA, ct, eJ, dw, cI, cw, cK, gH, u3, u4, u5, u6, u7, xU, nm, seval]
       exact ⟨List.length lP, qZc _, by rw [nu]; refine ⟨lP, ar + 1, br, ([] : List Glm), .lit (.slice none 0 0), rfl, Int.le_trans fS (Int.le_add_one (qZe _)), bK fS iS, rfl, (show iR + 6 ≤ gY + 3 by omega), ?_, ?_, ?_, ?_, ?_, eM, eR, ck, cz, eJ, cK, ?_, Or.inr ⟨rfl, rfl⟩, (by first | exact h | (simp only [iH, fZ, xU]; exact h))⟩ <;> first | (simp only [ua, dk, iH, fZ, fM, qF, qG, eM, eR, ck, cz, cA, ct, eJ, dw, cI, cw, cK, gH, u3, u4, u5, u6, u7, xU, nm, seval] <;> rfl) | rfl⟩
      | cons eZ nQ =>
       have DN : (decide (b6 < (List.length bI.Signs : Int))) = true := fz ic jQ
       have qH := eg ic jQ
       have DO := f2 ic jQ sY
       simp only [oX, hs, reduceCtorEq] at h
       obtain ⟨DP, qI, h⟩ := optI h qD
       try simp only [hs] at h
       cases uH : (DP.Word == ar && (DP.Letters == (b6 + 1)))
       ·simp only [uH, hs] at h
        have kI := And.intro iH (And.intro fZ (And.intro sY (And.intro fM (And.intro qF (And.intro qG (And.intro u3 (And.intro u4 (And.intro u5 (And.intro u6 (And.intro u7 (And.intro DN (And.intro DO uH))))))))))))
        cases qJ : (av 32 (List.length (([] : List Glm) ++ [(Glm.mk ar eZ br false)])))
        ·simp only [qJ, hs] at h
         exact absurd h qD
        simp only [qJ, hs] at h
        simp only [vz, mq, mqm, tyf, mqt, kI, (aq lb), eM, eR, ck, cz, cA, ct, eJ, dw, cI, cw, cK, gH, (au qH), (aV qI), qJ, nm, seval]
        refine nc (w := 4) (enc := cGlm) (ys := ([(Glm.mk ar eZ br false)])) (gg := (some 144)) (fun _ => rfl) mX mW Tryz.underlying91 (by first | rfl | assumption | (simp only [bw, bx, jk, kI, nm, seval] <;> rfl) | (simp only [bw, bx, dj, d6, dp, dq, tyf, mqt, kI, (aq lb), eM, eR, ck, cz, cA, ct, eJ, dw, cI, cw, cK, gH, (au qH), (aV qI), qJ, nm, seval]; done)) (Nat.zero_lt_succ _) qJ ?_
        simp only [vz, mq, mqm, tyf, mqt, kI, (aq lb), eM, eR, ck, cz, cA, ct, eJ, dw, cI, cw, cK, gH, (au qH), (aV qI), qJ, nm, seval]
        exact ⟨List.length nQ, qZc _, by rw [qE]; refine ⟨nQ, b6 + 1, br, (([] : List Glm) ++ [(Glm.mk ar eZ br false)]), .ref (gY + 31) 0 (List.length (([] : List Glm) ++ [(Glm.mk ar eZ br false)])) 4 (List.length (([] : List Glm) ++ [(Glm.mk ar eZ br false)])), rfl, Int.le_trans ic (Int.le_add_one (qZe _)), bK ic jQ, rfl, (show fR + 23 ≤ gY + 37 by omega), ?_, ?_, ?_, ?_, ?_, eM, eR, ck, cz, cA, ct, eJ, dw, cI, cw, cK, ?_, Or.inl ⟨gY + 31, (some 144), rfl, (by first | omega | (simp only [nm, seval]; done) | (simp only [nm, seval]; omega)), (by first | omega | (intro hh; simp only [kI, reduceCtorEq] at hh)), (by first | omega | (intro hh; simp only [kI, reduceCtorEq] at hh)), (by first | omega | (intro hh; simp only [kI, reduceCtorEq] at hh)), (by first | omega | (intro hh; simp only [kI, reduceCtorEq] at hh)), (by first | omega | (intro hh; simp only [kI, reduceCtorEq] at hh)), ?_⟩, (by first | exact h | (simp only [kI]; exact h))⟩ <;> first | (simp only [ua, dk, kI, eM, eR, ck, cz, cA, ct, eJ, dw, cI, cw, cK, gH, nm, seval] <;> rfl) | rfl⟩
       simp only [uH, hs] at h
       have kJ := And.intro iH (And.intro fZ (And.intro sY (And.intro fM (And.intro qF (And.intro qG (And.intro u3 (And.intro u4 (And.intro u5 (And.intro u6 (And.intro u7 (And.intro DN (And.intro DO uH))))))))))))
       cases qK : (av 32 (List.length (([] : List Glm) ++ [(Glm.mk ar eZ br (decide ((b6 + 1) < (List.length bI.Signs : Int))))])))
       ·simp only [qK, hs] at h
        exact absurd h qD
       simp only [qK, hs] at h
       simp only [vz, mq, mqm, tyf, mqt, kJ, (aq lb), eM, eR, ck, cz, cA, ct, eJ, dw, cI, cw, cK, gH, (au qH), (aV qI), qK, nm, seval]
       refine nc (w := 4) (enc := cGlm) (ys := ([(Glm.mk ar eZ br (decide ((b6 + 1) < (List.length bI.Signs : Int))))])) (gg := (some 144)) (fun _ => rfl) mX mW Tryz.underlying91 (by first | rfl | assumption | (simp only [bw, bx, jk, kJ, nm, seval] <;> rfl) | (simp only [bw, bx, dj, d6, dp, dq, tyf, mqt, kJ, (aq lb), eM, eR, ck, cz, cA, ct, eJ, dw, cI, cw, cK, gH, (au qH), (aV qI), qK, nm, seval]; done)) (Nat.zero_lt_succ _) qK ?_
       simp only [vz, mq, mqm, tyf, mqt, kJ, (aq lb), eM, eR, ck, cz, cA, ct, eJ, dw, cI, cw, cK, gH, (au qH), (aV qI), qK, nm, seval]
       exact ⟨List.length nQ, qZc _, by rw [qE]; refine ⟨nQ, b6 + 1, i64.wrap (br + 1), (([] : List Glm) ++ [(Glm.mk ar eZ br (decide ((b6 + 1) < (List.length bI.Signs : Int))))]), .ref (gY + 31) 0 (List.length (([] : List Glm) ++ [(Glm.mk ar eZ br (decide ((b6 + 1) < (List.length bI.Signs : Int))))])) 4 (List.length (([] : List Glm) ++ [(Glm.mk ar eZ br (decide ((b6 + 1) < (List.length bI.Signs : Int))))])), rfl, Int.le_trans ic (Int.le_add_one (qZe _)), bK ic jQ, rfl, (show fR + 23 ≤ gY + 40 by omega), ?_, ?_, ?_, ?_, ?_, eM, eR, ck, cz, cA, ct, eJ, dw, cI, cw, ?_, ?_, Or.inl ⟨gY + 31, (some 144), rfl, (by first | omega | (simp only [nm, seval]; done) | (simp only [nm, seval]; omega)), (by first | omega | (intro hh; simp only [kJ, reduceCtorEq] at hh)), (by first | omega | (intro hh; simp only [kJ, reduceCtorEq] at hh)), (by first | omega | (intro hh; simp only [kJ, reduceCtorEq] at hh)), (by first | omega | (intro hh; simp only [kJ, reduceCtorEq] at hh)), (by first | omega | (intro hh; simp only [kJ, reduceCtorEq] at hh)), ?_⟩, (by first | exact h | (simp only [kJ]; exact h))⟩ <;> first | (simp only [ua, dk, kJ, eM, eR, ck, cz, cA, ct, eJ, dw, cI, cw, cK, gH, nm, seval] <;> rfl) | rfl⟩
    simp only [fZ, hs] at h
    simp only [vz, mq, mqm, tyf, mqt, iH, (aq lb), hT, kn, sX, gv, gG, ij, kS, lG, je, fZ, nm, seval]
    exact ⟨List.length lP, qZc _, by rw [nu]; refine ⟨lP, ar + 1, fX, cW, .ref nv 0 (List.length cW) 4 (List.length cW), rfl, Int.le_trans fS (Int.le_add_one (qZe _)), bK fS iS, rfl, (show iR + 6 ≤ fR + 9 by omega), ?_, ?_, ?_, ?_, ?_, hT, kn, sX, gv, kS, gG, ?_, Or.inl ⟨nv, sW, rfl, (by first | omega | (simp only [nm, seval]; done) | (simp only [nm, seval]; omega)), (by first | omega | (intro hh; simp only [iH, reduceCtorEq] at hh)), (by first | omega | (intro hh; simp only [iH, reduceCtorEq] at hh)), (by first | omega | (intro hh; simp only [iH, reduceCtorEq] at hh)), (by first | omega | (intro hh; simp only [iH, reduceCtorEq] at hh)), (by first | omega | (intro hh; simp only [iH, reduceCtorEq] at hh)), ?_⟩, (by first | exact h | (simp only [iH, fZ]; exact h))⟩ <;> first | (simp only [ua, dk, iH, hT, kn, sX, gv, gG, ij, kS, lG, je, fZ, nm, seval] <;> rfl) | rfl⟩
  ·cases lP with
   | nil =>
    have xV : (decide (ar < (List.length ad.Words : Int))) = false := fy fS iS
    simp only [t0, hs, reduceCtorEq] at h
    replace h := DI _ h
    try dsimp only at h
    try simp only [hs] at h
    try simp only [vz, mq, mqm, tyf, mqt, nP, k8, k9, oE, rp, fT, bW, bH, bX, bF, bN, b9, cq, q9, qA, qB, fY, qC, xV, nm, seval]
    refine eh (x := (.agg ((cGLs ad) ++ (cGLx aj) ++ [.lit (.int .i64 aZ)] ++ [.mp 6] ++ [.lit (.slice none 0 0)]))) (by first | (simp only [Tryz.results71, resV, resL, aR, ei, ej, uw, cr, tyf, mqt, nP, k8, k9, oE, rp, fT, bW, bH, bX, bF, bN, b9, cq, q9, qA, qB, fY, qC, xV, nm, seval] <;> rfl) | rfl) ?_
    obtain rfl := kF _ h
    refine eD ?_ ?_
    ·simp only [tre, aG, mqr, Bool.and_self]
    ·first | (simp only [outV, uw, ep, nF, mZ, cr, tyf, mqt, nrm, aE, nP, k8, k9, oE, rp, fT, bW, bH, bX, bF, bN, b9, cq, q9, qA, qB, fY, qC, xV, nm, seval] <;> rfl) | rfl
   | cons bI lP =>
    have xW : (decide (ar < (List.length ad.Words : Int))) = true := fz fS iS
    have ga := eg fS iS
    have xX := f2 fS iS oE
    simp only [t0, hs, reduceCtorEq] at h
    obtain ⟨so, xb, h⟩ := optI h qz
    try simp only [hs] at h
    simp only [vz, mq, mqm, tyf, mqt, nP, k8, k9, oE, rp, fT, bW, bH, bX, bF, bN, b9, cq, q9, qA, qB, fY, qC, xW, (aq ga), xX, nm, seval]
    refine ktree (args0 := [.sl (aa eI aj.Out) (List.length aj.Out) false, .lit (.int .i64 ar)]) (by first | (simp only [nrm, aE, mqr] <;> rfl) | rfl) (by simp only [tre, aG, mqr, Bool.and_self]) (Gb _ _ _ xb) ?_
    refine b5 (fun tm => tm 3 = .ptr 0 0 ∧ tm 4 = .ptr 1 0 ∧ tm 6 = .ptr 2 0 ∧ tm 7 = .ptr 8 0 ∧ tm 10 = .lit (.int .i64 fX) ∧ tm 11 = .lit (.int .i64 ar) ∧ tm 40 = .lit (.int .i64 (List.length ad.Words : Int)) ∧ tm 41 = .lit (.int .i64 ar) ∧ tm 47 = .lit (.bool so) ∧ True) (by refine ⟨bW, bH, bX, bF, b9, ?_, bN, cq, ?_, trivial⟩ <;> first | (simp only [ua, dk, k8, k9, rp, fT, bW, bH, bX, bF, bN, b9, cq, q9, qA, qB, fY, qC, xW, xX, nm, seval] <;> rfl) | rfl) ?_
    rintro tm ⟨lf, lg, lh, lY, lZ, ni, ma, ta, uI, _⟩
    have fU := And.intro nP (And.intro k8 (And.intro k9 (And.intro oE (And.intro rp (And.intro fT (And.intro q9 (And.intro qA (And.intro qB (And.intro fY (And.intro qC (And.intro xW xX)))))))))))
    cases gZ : (so)
    ·simp only [gZ, hs] at h
     cases kK : (lenOk bI.Signs)
     ·simp only [kK, hs] at h
      exact absurd h qz
     simp only [kK, hs] at h
     simp only [vz, mq, mqm, tyf, mqt, fU, (aq ga), lf, lg, lh, lY, lZ, ni, ma, ta, uI, gZ, kK, nm, seval]
     obtain ⟨Nf, h, U3, vM, U4, lQ⟩ := gp h qz
     obtain ⟨Ng, DQ, h⟩ := call4 h
     obtain ⟨Nh, lR⟩ : ∃ I : Nat → St → Prop, I = (fun m st => ∃ (ie : List Int) (bh : Int) (ba : Int) (b7 : List Glm) (mm : VV), m = List.length ie ∧ 0 ≤ bh ∧ List.drop (Int.toNat bh) bI.Signs = ie ∧ st.df = [] ∧ fR + 23 ≤ st.nx ∧ st.H 0 = some (.cells (some 28) (cGLs ad)) ∧ st.H 1 = some (.cells (some 31) (cGLx aj)) ∧ st.H 2 = some (.cells (some 93) ([.lit (.slice none 0 0)] ++ [.lit (.slice none 0 0)] ++ [.lit (.int .i64 0)] ++ [.lit (.int .i64 0)] ++ [.lit (.int .i64 0)] ++ [.lit (.int .i64 0)] ++ [.lit (.int .i64 0)] ++ [.lit (.slice none 0 0)] ++ [.lit (.int .i64 0)] ++ [.lit (.int .i64 0)] ++ [.lit (.slice none 0 0)] ++ [.lit (.slice none 0 0)] ++ [.lit (.int .i64 0)] ++ [.lit (.map none)] ++ [.lit (.slice none 0 0)])) ∧ st.H 6 = some (.map (encM du gn gX)) ∧ st.H 8 = some (.cells (some 93) ((cGLs ad) ++ (cGLx aj) ++ [.lit (.int .i64 aZ)] ++ [.mp 6] ++ [mm])) ∧ st.tm 3 = .ptr 0 0 ∧ st.tm 4 = .ptr 1 0 ∧ st.tm 6 = .ptr 2 0 ∧ st.tm 7 = .ptr 8 0 ∧ st.tm 11 = .lit (.int .i64 ar) ∧ st.tm 12 = .lit (.int .i64 (List.length bI.Signs : Int)) ∧ st.tm 40 = .lit (.int .i64 (List.length ad.Words : Int)) ∧ st.tm 41 = .lit (.int .i64 ar) ∧ st.tm 60 = .sl (aa eI bI.Signs) (List.length bI.Signs) false ∧ st.tm 61 = .lit (.int .i64 (List.length bI.Signs : Int)) ∧ st.tm 10 = .lit (.int .i64 ba) ∧ st.tm 62 = .lit (.int .i64 bh) ∧ ((∃ (β : Nat) (el : Option TypeId), mm = .ref β 0 (List.length b7) 4 (List.length b7) ∧ β < st.nx ∧ β ≠ 0 ∧ β ≠ 1 ∧ β ≠ 2 ∧ β ≠ 6 ∧ β ≠ 8 ∧ st.H β = some (.cells el (aa cGlm b7))) ∨ (mm = .lit (.slice none 0 0) ∧ b7 = [])) ∧ Nf (Ng ie bh ba b7)) := ⟨_, rfl⟩
     refine loopK mixed (by kernel_rfl) Nh (List.length bI.Signs) (by rw [lR]; refine ⟨bI.Signs, 0, fX, ([] : List Glm), .lit (.slice none 0 0), rfl, qZe _, rfl, rfl, (show fR + 23 ≤ fR + 23 by omega), ?_, ?_, ?_, ?_, ?_, lf, lg, lh, lY, ni, ?_, ma, ta, ?_, ?_, lZ, ?_, Or.inr ⟨rfl, rfl⟩, h⟩ <;> first | (simp only [ua, dk, fU, lf, lg, lh, lY, lZ, ni, ma, ta, uI, gZ, nm, seval] <;> rfl) | rfl) ?_
     rintro m ⟨tm, H, dY, df⟩ hinv
     rw [lR] at hinv
     obtain ⟨ie, bh, ba, b7, mm, rfl, eN, gk, hdf, DS, mn, mo, mr, mu, mw, cX, cY, cZ, da, dC, dD, db, dE, dF, dG, dH, fb, pI, h⟩ := hinv
     simp only at hdf DS mn mo mr mu mw cX cY cZ da dC dD db dE dF dG dH fb pI
     have ju := gq (m := 14) (b := dY) (by omega)
     have jv := u2 (a := iR) (m := 6) (b := dY) (by omega)
     have jw := u2 (a := fR) (m := 23) (b := dY) (by omega)
     subst hdf DQ
     rcases pI with ⟨tc, iT, rfl, DT, DU, DV, DW, DX, DY, fp⟩ | ⟨rfl, rfl⟩
     ·have my := qa DT
      have mz := ne_f DU
      have m0 := ne_f DV
      have m4 := ne_f DW
      have m5 := ne_f DX
      have m6 := ne_f DY
      cases ie with
      | nil =>
       have xY : (decide (bh < (List.length bI.Signs : Int))) = false := fy eN gk
       simp only [oX, hs, reduceCtorEq] at h
       replace h := vM _ h
       try dsimp only at h
       try simp only [hs] at h
       simp only [vz, mq, mqm, tyf, mqt, fU, (aq ga), gZ, kK, ju, jv, jw, cX, cY, cZ, da, dC, dD, db, dE, dF, dG, dH, fb, mn, mo, mr, mu, mw, my, fp, mz, m0, m4, m5, m6, xY, nm, seval]
       exact ⟨List.length lP, qZc _, by rw [nu]; refine ⟨lP, ar + 1, ba, b7, .ref tc 0 (List.length b7) 4 (List.length b7), rfl, Int.le_trans fS (Int.le_add_one (qZe _)), bK fS iS, rfl, (show iR + 6 ≤ dY + 3 by omega), ?_, ?_, ?_, ?_, ?_, cX, cY, cZ, da, db, dH, ?_, Or.inl ⟨tc, iT, rfl, (by first | omega | (simp only [nm, seval]; done) | (simp only [nm, seval]; omega)), (by first | omega | (intro hh; simp only [fU, ju, jv, jw, my, mz, m0, m4, m5, m6, reduceCtorEq] at hh)), (by first | omega | (intro hh; simp only [fU, ju, jv, jw, my, mz, m0, m4, m5, m6, reduceCtorEq] at hh)), (by first | omega | (intro hh; simp only [fU, ju, jv, jw, my, mz, m0, m4, m5, m6, reduceCtorEq] at hh)), (by first | omega | (intro hh; simp only [fU, ju, jv, jw, my, mz, m0, m4, m5, m6, reduceCtorEq] at hh)), (by first | omega | (intro hh; simp only [fU, ju, jv, jw, my, mz, m0, m4, m5, m6, reduceCtorEq] at hh)), ?_⟩, (by first | exact h | (simp only [fU, gZ, xY]; exact h))⟩ <;> first | (simp only [ua, dk, fU, gZ, ju, jv, jw, cX, cY, cZ, da, dC, dD, db, dE, dF, dG, dH, fb, mn, mo, mr, mu, mw, my, fp, mz, m0, m4, m5, m6, xY, nm, seval] <;> rfl) | rfl⟩
      | cons fK ie =>
       have DZ : (decide (bh < (List.length bI.Signs : Int))) = true := fz eN gk
       have n0 := eg eN gk
       have Ea := f2 eN gk kK
       simp only [oX, hs, reduceCtorEq] at h
       obtain ⟨Eb, n3, h⟩ := optI h lQ
       try simp only [hs] at h
       cases uJ : (Eb.Word == ar && (Eb.Letters == (bh + 1)))
       ·simp only [uJ, hs] at h
        have jx := And.intro fU (And.intro gZ (And.intro kK (And.intro ju (And.intro jv (And.intro jw (And.intro mn (And.intro mo (And.intro mr (And.intro mu (And.intro mw (And.intro my (And.intro fp (And.intro mz (And.intro m0 (And.intro m4 (And.intro m5 (And.intro m6 (And.intro DZ (And.intro Ea uJ)))))))))))))))))))
        cases oH : (av 32 (List.length (b7 ++ [(Glm.mk ar fK ba false)])))
        ·simp only [oH, hs] at h
         exact absurd h lQ
        simp only [oH, hs] at h
        simp only [vz, mq, mqm, tyf, mqt, jx, (aq ga), cX, cY, cZ, da, dC, dD, db, dE, dF, dG, dH, fb, (au n0), (aV n3), oH, nm, seval]
        refine k_app (w := 4) (enc := cGlm) (xs := b7) (ys := ([(Glm.mk ar fK ba false)])) (el := iT) (gg := (some 144)) (fun _ => rfl) mX mW Tryz.underlying91 (by first | rfl | assumption | (simp only [bw, bx, jk, jx, nm, seval] <;> rfl) | (simp only [bw, bx, dj, d6, dp, dq, tyf, mqt, jx, (aq ga), cX, cY, cZ, da, dC, dD, db, dE, dF, dG, dH, fb, (au n0), (aV n3), oH, nm, seval]; done)) (by first | rfl | assumption | (simp only [bw, bx, jk, jx, nm, seval] <;> rfl) | (simp only [bw, bx, dj, d6, dp, dq, tyf, mqt, jx, (aq ga), cX, cY, cZ, da, dC, dD, db, dE, dF, dG, dH, fb, (au n0), (aV n3), oH, nm, seval]; done)) (Nat.zero_lt_succ _) oH ?_
        simp only [vz, mq, mqm, tyf, mqt, jx, (aq ga), cX, cY, cZ, da, dC, dD, db, dE, dF, dG, dH, fb, (au n0), (aV n3), oH, nm, seval]
        exact ⟨List.length ie, qZc _, by rw [lR]; refine ⟨ie, bh + 1, ba, (b7 ++ [(Glm.mk ar fK ba false)]), .ref (dY + 31) 0 (List.length (b7 ++ [(Glm.mk ar fK ba false)])) 4 (List.length (b7 ++ [(Glm.mk ar fK ba false)])), rfl, Int.le_trans eN (Int.le_add_one (qZe _)), bK eN gk, rfl, (show fR + 23 ≤ dY + 37 by omega), ?_, ?_, ?_, ?_, ?_, cX, cY, cZ, da, dC, dD, db, dE, dF, dG, dH, ?_, Or.inl ⟨dY + 31, (sameEl iT 144), rfl, (by first | omega | (simp only [nm, seval]; done) | (simp only [nm, seval]; omega)), (by first | omega | (intro hh; simp only [jx, reduceCtorEq] at hh)), (by first | omega | (intro hh; simp only [jx, reduceCtorEq] at hh)), (by first | omega | (intro hh; simp only [jx, reduceCtorEq] at hh)), (by first | omega | (intro hh; simp only [jx, reduceCtorEq] at hh)), (by first | omega | (intro hh; simp only [jx, reduceCtorEq] at hh)), ?_⟩, (by first | exact h | (simp only [jx]; exact h))⟩ <;> first | (simp only [ua, dk, jx, cX, cY, cZ, da, dC, dD, db, dE, dF, dG, dH, fb, nm, seval] <;> rfl) | rfl⟩
       simp only [uJ, hs] at h
       have jy := And.intro fU (And.intro gZ (And.intro kK (And.intro ju (And.intro jv (And.intro jw (And.intro mn (And.intro mo (And.intro mr (And.intro mu (And.intro mw (And.intro my (And.intro fp (And.intro mz (And.intro m0 (And.intro m4 (And.intro m5 (And.intro m6 (And.intro DZ (And.intro Ea uJ)))))))))))))))))))
       cases oI : (av 32 (List.length (b7 ++ [(Glm.mk ar fK ba (decide ((bh + 1) < (List.length bI.Signs : Int))))])))
       ·simp only [oI, hs] at h
        exact absurd h lQ
       simp only [oI, hs] at h
       simp only [vz, mq, mqm, tyf, mqt, jy, (aq ga), cX, cY, cZ, da, dC, dD, db, dE, dF, dG, dH, fb, (au n0), (aV n3), oI, nm, seval]
       refine k_app (w := 4) (enc := cGlm) (xs := b7) (ys := ([(Glm.mk ar fK ba (decide ((bh + 1) < (List.length bI.Signs : Int))))])) (el := iT) (gg := (some 144)) (fun _ => rfl) mX mW Tryz.underlying91 (by first | rfl | assumption | (simp only [bw, bx, jk, jy, nm, seval] <;> rfl) | (simp only [bw, bx, dj, d6, dp, dq, tyf, mqt, jy, (aq ga), cX, cY, cZ, da, dC, dD, db, dE, dF, dG, dH, fb, (au n0), (aV n3), oI, nm, seval]; done)) (by first | rfl | assumption | (simp only [bw, bx, jk, jy, nm, seval] <;> rfl) | (simp only [bw, bx, dj, d6, dp, dq, tyf, mqt, jy, (aq ga), cX, cY, cZ, da, dC, dD, db, dE, dF, dG, dH, fb, (au n0), (aV n3), oI, nm, seval]; done)) (Nat.zero_lt_succ _) oI ?_
       simp only [vz, mq, mqm, tyf, mqt, jy, (aq ga), cX, cY, cZ, da, dC, dD, db, dE, dF, dG, dH, fb, (au n0), (aV n3), oI, nm, seval]
       exact ⟨List.length ie, qZc _, by rw [lR]; refine ⟨ie, bh + 1, i64.wrap (ba + 1), (b7 ++ [(Glm.mk ar fK ba (decide ((bh + 1) < (List.length bI.Signs : Int))))]), .ref (dY + 31) 0 (List.length (b7 ++ [(Glm.mk ar fK ba (decide ((bh + 1) < (List.length bI.Signs : Int))))])) 4 (List.length (b7 ++ [(Glm.mk ar fK ba (decide ((bh + 1) < (List.length bI.Signs : Int))))])), rfl, Int.le_trans eN (Int.le_add_one (qZe _)), bK eN gk, rfl, (show fR + 23 ≤ dY + 40 by omega), ?_, ?_, ?_, ?_, ?_, cX, cY, cZ, da, dC, dD, db, dE, dF, dG, ?_, ?_, Or.inl ⟨dY + 31, (sameEl iT 144), rfl, (by first | omega | (simp only [nm, seval]; done) | (simp only [nm, seval]; omega)), (by first | omega | (intro hh; simp only [jy, reduceCtorEq] at hh)), (by first | omega | (intro hh; simp only [jy, reduceCtorEq] at hh)), (by first | omega | (intro hh; simp only [jy, reduceCtorEq] at hh)), (by first | omega | (intro hh; simp only [jy, reduceCtorEq] at hh)), (by first | omega | (intro hh; simp only [jy, reduceCtorEq] at hh)), ?_⟩, (by first | exact h | (simp only [jy]; exact h))⟩ <;> first | (simp only [ua, dk, jy, cX, cY, cZ, da, dC, dD, db, dE, dF, dG, dH, fb, nm, seval] <;> rfl) | rfl⟩
     ·cases ie with
      | nil =>
       have ln : (decide (bh < (List.length bI.Signs : Int))) = false := fy eN gk
       simp only [oX, hs, reduceCtorEq] at h
       replace h := vM _ h
       try dsimp only at h
       try simp only [hs] at h
       simp only [vz, mq, mqm, tyf, mqt, fU, (aq ga), gZ, kK, ju, jv, jw, cX, cY, cZ, da, dC, dD, db, dE, dF, dG, dH, fb, mn, mo, mr, mu, mw, ln, nm, seval]
       exact ⟨List.length lP, qZc _, by rw [nu]; refine ⟨lP, ar + 1, ba, ([] : List Glm), .lit (.slice none 0 0), rfl, Int.le_trans fS (Int.le_add_one (qZe _)), bK fS iS, rfl, (show iR + 6 ≤ dY + 3 by omega), ?_, ?_, ?_, ?_, ?_, cX, cY, cZ, da, db, dH, ?_, Or.inr ⟨rfl, rfl⟩, (by first | exact h | (simp only [fU, gZ, ln]; exact h))⟩ <;> first | (simp only [ua, dk, fU, gZ, ju, jv, jw, cX, cY, cZ, da, dC, dD, db, dE, dF, dG, dH, fb, mn, mo, mr, mu, mw, ln, nm, seval] <;> rfl) | rfl⟩
      | cons fK ie =>
       have Ec : (decide (bh < (List.length bI.Signs : Int))) = true := fz eN gk
       have ky := eg eN gk
       have Ed := f2 eN gk kK
       simp only [oX, hs, reduceCtorEq] at h
       obtain ⟨Ee, qL, h⟩ := optI h lQ
       try simp only [hs] at h
       cases lp : (Ee.Word == ar && (Ee.Letters == (bh + 1)))
       ·simp only [lp, hs] at h
        have kL := And.intro fU (And.intro gZ (And.intro kK (And.intro ju (And.intro jv (And.intro jw (And.intro mn (And.intro mo (And.intro mr (And.intro mu (And.intro mw (And.intro Ec (And.intro Ed lp))))))))))))
        cases qM : (av 32 (List.length (([] : List Glm) ++ [(Glm.mk ar fK ba false)])))
        ·simp only [qM, hs] at h
         exact absurd h lQ
        simp only [qM, hs] at h
        simp only [vz, mq, mqm, tyf, mqt, kL, (aq ga), cX, cY, cZ, da, dC, dD, db, dE, dF, dG, dH, fb, (au ky), (aV qL), qM, nm, seval]
        refine nc (w := 4) (enc := cGlm) (ys := ([(Glm.mk ar fK ba false)])) (gg := (some 144)) (fun _ => rfl) mX mW Tryz.underlying91 (by first | rfl | assumption | (simp only [bw, bx, jk, kL, nm, seval] <;> rfl) | (simp only [bw, bx, dj, d6, dp, dq, tyf, mqt, kL, (aq ga), cX, cY, cZ, da, dC, dD, db, dE, dF, dG, dH, fb, (au ky), (aV qL), qM, nm, seval]; done)) (Nat.zero_lt_succ _) qM ?_
        simp only [vz, mq, mqm, tyf, mqt, kL, (aq ga), cX, cY, cZ, da, dC, dD, db, dE, dF, dG, dH, fb, (au ky), (aV qL), qM, nm, seval]
        exact ⟨List.length ie, qZc _, by rw [lR]; refine ⟨ie, bh + 1, ba, (([] : List Glm) ++ [(Glm.mk ar fK ba false)]), .ref (dY + 31) 0 (List.length (([] : List Glm) ++ [(Glm.mk ar fK ba false)])) 4 (List.length (([] : List Glm) ++ [(Glm.mk ar fK ba false)])), rfl, Int.le_trans eN (Int.le_add_one (qZe _)), bK eN gk, rfl, (show fR + 23 ≤ dY + 37 by omega), ?_, ?_, ?_, ?_, ?_, cX, cY, cZ, da, dC, dD, db, dE, dF, dG, dH, ?_, Or.inl ⟨dY + 31, (some 144), rfl, (by first | omega | (simp only [nm, seval]; done) | (simp only [nm, seval]; omega)), (by first | omega | (intro hh; simp only [kL, reduceCtorEq] at hh)), (by first | omega | (intro hh; simp only [kL, reduceCtorEq] at hh)), (by first | omega | (intro hh; simp only [kL, reduceCtorEq] at hh)), (by first | omega | (intro hh; simp only [kL, reduceCtorEq] at hh)), (by first | omega | (intro hh; simp only [kL, reduceCtorEq] at hh)), ?_⟩, (by first | exact h | (simp only [kL]; exact h))⟩ <;> first | (simp only [ua, dk, kL, cX, cY, cZ, da, dC, dD, db, dE, dF, dG, dH, fb, nm, seval] <;> rfl) | rfl⟩
       simp only [lp, hs] at h
       have kM := And.intro fU (And.intro gZ (And.intro kK (And.intro ju (And.intro jv (And.intro jw (And.intro mn (And.intro mo (And.intro mr (And.intro mu (And.intro mw (And.intro Ec (And.intro Ed lp))))))))))))
       cases jq : (av 32 (List.length (([] : List Glm) ++ [(Glm.mk ar fK ba (decide ((bh + 1) < (List.length bI.Signs : Int))))])))
       ·simp only [jq, hs] at h
        exact absurd h lQ
       simp only [jq, hs] at h
       simp only [vz, mq, mqm, tyf, mqt, kM, (aq ga), cX, cY, cZ, da, dC, dD, db, dE, dF, dG, dH, fb, (au ky), (aV qL), jq, nm, seval]
       refine nc (w := 4) (enc := cGlm) (ys := ([(Glm.mk ar fK ba (decide ((bh + 1) < (List.length bI.Signs : Int))))])) (gg := (some 144)) (fun _ => rfl) mX mW Tryz.underlying91 (by first | rfl | assumption | (simp only [bw, bx, jk, kM, nm, seval] <;> rfl) | (simp only [bw, bx, dj, d6, dp, dq, tyf, mqt, kM, (aq ga), cX, cY, cZ, da, dC, dD, db, dE, dF, dG, dH, fb, (au ky), (aV qL), jq, nm, seval]; done)) (Nat.zero_lt_succ _) jq ?_
       simp only [vz, mq, mqm, tyf, mqt, kM, (aq ga), cX, cY, cZ, da, dC, dD, db, dE, dF, dG, dH, fb, (au ky), (aV qL), jq, nm, seval]
       exact ⟨List.length ie, qZc _, by rw [lR]; refine ⟨ie, bh + 1, i64.wrap (ba + 1), (([] : List Glm) ++ [(Glm.mk ar fK ba (decide ((bh + 1) < (List.length bI.Signs : Int))))]), .ref (dY + 31) 0 (List.length (([] : List Glm) ++ [(Glm.mk ar fK ba (decide ((bh + 1) < (List.length bI.Signs : Int))))])) 4 (List.length (([] : List Glm) ++ [(Glm.mk ar fK ba (decide ((bh + 1) < (List.length bI.Signs : Int))))])), rfl, Int.le_trans eN (Int.le_add_one (qZe _)), bK eN gk, rfl, (show fR + 23 ≤ dY + 40 by omega), ?_, ?_, ?_, ?_, ?_, cX, cY, cZ, da, dC, dD, db, dE, dF, dG, ?_, ?_, Or.inl ⟨dY + 31, (some 144), rfl, (by first | omega | (simp only [nm, seval]; done) | (simp only [nm, seval]; omega)), (by first | omega | (intro hh; simp only [kM, reduceCtorEq] at hh)), (by first | omega | (intro hh; simp only [kM, reduceCtorEq] at hh)), (by first | omega | (intro hh; simp only [kM, reduceCtorEq] at hh)), (by first | omega | (intro hh; simp only [kM, reduceCtorEq] at hh)), (by first | omega | (intro hh; simp only [kM, reduceCtorEq] at hh)), ?_⟩, (by first | exact h | (simp only [kM]; exact h))⟩ <;> first | (simp only [ua, dk, kM, cX, cY, cZ, da, dC, dD, db, dE, dF, dG, dH, fb, nm, seval] <;> rfl) | rfl⟩
    simp only [gZ, hs] at h
    simp only [vz, mq, mqm, tyf, mqt, fU, (aq ga), lf, lg, lh, lY, lZ, ni, ma, ta, uI, gZ, nm, seval]
    exact ⟨List.length lP, qZc _, by rw [nu]; refine ⟨lP, ar + 1, fX, ([] : List Glm), .lit (.slice none 0 0), rfl, Int.le_trans fS (Int.le_add_one (qZe _)), bK fS iS, rfl, (show iR + 6 ≤ fR + 9 by omega), ?_, ?_, ?_, ?_, ?_, lf, lg, lh, lY, ma, lZ, ?_, Or.inr ⟨rfl, rfl⟩, (by first | exact h | (simp only [fU, gZ]; exact h))⟩ <;> first | (simp only [ua, dk, fU, lf, lg, lh, lY, lZ, ni, ma, ta, uI, gZ, nm, seval] <;> rfl) | rfl⟩
 | cons bn vK =>
  have bf : (decide (gW < (List.length ad.Pairs : Int))) = true := fz qy sU
  have Ni := eg qy sU
  have Ef := f2 qy sU nP
  simp only [yT, hs, reduceCtorEq] at h
  have xZ := fun H => MH (β := 6) gX (Glp.mk bn.Left bn.Right) bn.Space H
  try simp only [dk] at xZ
  simp only [vz, mq, mqm, tyf, mqt, nP, k8, cn, bJ, cm, cu, cN, dI, dm, lD, bC, cg, cj, lJ, bf, (bY Ni), Ef, xZ, nm, seval]
  exact ⟨List.length vK, qZc _, by rw [xR]; refine ⟨vK, gW + 1, (mapSet eV gX (Glp.mk bn.Left bn.Right) bn.Space), rfl, Int.le_trans qy (Int.le_add_one (qZe _)), bK qy sU, rfl, (show 14 ≤ iR + 17 by omega), ?_, ?_, ?_, ?_, ?_, cn, bJ, cm, cu, cN, dI, ?_, (by first | exact h | (simp only [bf]; exact h))⟩ <;> first | (simp only [ua, dk, k8, cn, bJ, cm, cu, cN, dI, dm, lD, bC, cg, cj, lJ, bf, Ef, xZ, nm, seval] <;> rfl) | rfl⟩
end Go.V
end
section
namespace Go.V
open Go Go.Proofs IntKind
section
variable {K V : Type} {q : K → K → Bool} {z : V}
def getR (q : K → K → Bool) (z : V) (k : K) : List (K × V) → V
 | [] => z
 | e :: l => if q k e.1 then e.2 else getR q z k l
def setR (q : K → K → Bool) (k : K) (v : V) : List (K × V) → List (K × V)
 | [] => [(k, v)]
 | e :: l => if q k e.1 then (k, v) :: l else e :: setR q k v l
theorem Fq (k : K) : ∀ (es : List K) (i : Nat), kIdx q k es (i + 1) = (kIdx q k es i).map (· + 1)
 | [], _ => rfl
 | e :: es, i => by
  unfold kIdx
  cases q k e with
  | true => rfl
  | false => exact Fq k es (i + 1)
theorem Nj (k : K) : ∀ l : List (K × V), mapGet q z l k = getR q z k l
 | [] => rfl
 | e :: l => by
  have ih := Nj k l
  unfold mapGet at ih ⊢
  rw [List.map_cons]
  unfold kIdx getR
  cases hq : q k e.1 with
  | true => rfl
  | false =>
   simp only [cond_false, Bool.false_eq_true, if_false]
   rw [Fq]
   cases h : kIdx q k (l.map (·.1)) 0 with
   | none => rw [h] at ih; exact ih
   | some i => rw [h] at ih; simpa using ih
theorem Ft (k : K) (v : V) : ∀ l : List (K × V), mapSet q l k v = setR q k v l
 | [] => rfl
 | e :: l => by
  have ih := Ft k v l
  unfold mapSet at ih ⊢
  rw [List.map_cons]
  unfold kIdx setR
  cases hq : q k e.1 with
  | true => rfl
  | false =>
   simp only [cond_false, Bool.false_eq_true, if_false]
   rw [Fq]
   cases h : kIdx q k (l.map (·.1)) 0 with
   | none => rw [h] at ih; simpa using ih
   | some i => rw [h] at ih; simpa using ih
theorem U5 (hq : ∀ a b, q a b = true ↔ a = b) (k k' : K) (v : V) : ∀ l : List (K × V), getR q z k' (setR q k v l) = if q k' k then v else getR q z k' l
 | [] => rfl
 | e :: l => by
  have ih := U5 hq k k' v l
  unfold setR
  cases he : q k e.1 with
  | true =>
   have e1 := (hq _ _).1 he
   simp only [if_true, getR, ← e1]
   split <;> rfl
  | false =>
   simp only [Bool.false_eq_true, if_false, getR, ih]
   cases h1 : q k' e.1 with
   | true =>
    have e1 := (hq _ _).1 h1
    have : q k' k = false := by
     cases h2 : q k' k with
     | false => rfl
     | true =>
      have e2 := (hq _ _).1 h2
      rw [e2] at e1
      rw [e1, (hq _ _).2 rfl] at he
      cases he
    rw [this]
    simp
   | false => simp
theorem Jp (hq : ∀ a b, q a b = true ↔ a = b) (k k' : K) (v : V) (l : List (K × V)) : mapGet q z (mapSet q l k v) k' = if q k' k then v else mapGet q z l k' := by
 rw [Nj, Nj, Ft, U5 hq]
end
end Go.V
end
