/- Part of a proof. -/
import Derived.Test.YtlkognggeadanaaGreatDoorEbk
set_option linter.all false
set_option maxRecDepth 4000
set_option maxHeartbeats 40000000
section
namespace Go.V
open Go Go.Proofs IntKind
instance {a b : GLe} : Decidable (befE a b) := inferInstanceAs (Decidable (_ ∨ _))
theorem Ql (a b : GLe) : we a b = some (decide (befE a b)) := by
 unfold we befE
 by_cases h1 : a.Word < b.Word
 ·simp [h1]
 ·by_cases h2 : a.Word = b.Word
  ·simp [h1, h2]
  ·have : (a.Word == b.Word) = false := by simpa using h2
   simp [h1, h2, this]
def letB (s : GLs) (e : GLe) : Bool := match getI s.Words e.Word with
 | some w => (e.Letters == (w.Signs.length : Int)) || w.Cuts.contains e.Letters
 | none => false
def memB (s : GLs) (out : List Int) (e : GLe) : Bool := inB 0 ((s.Words.length : Int) - 1) e.Word && (!out.contains e.Word && letB s e)
theorem NB {s : GLs} {out : List Int} {e : GLe} : memB s out e = true ↔ e ∈ possL out s.Words 0 := by
 rw [Dr]
 unfold memB letB
 simp only [Bool.and_eq_true, rM, Bool.not_eq_true']
 constructor
 ·rintro ⟨h1, h2, h3⟩
  refine ⟨e.Word.toNat, ?_⟩
  have hk : (0 : Int) + (e.Word.toNat : Int) = e.Word := by omega
  rw [hk]
  split at h3
  ·rename_i w hw
   unfold getI at hw
   rw [if_pos h1.1] at hw
   refine ⟨w, hw, h2, xq.2 ⟨rfl, ?_⟩⟩
   simp only [Bool.or_eq_true, beq_iff_eq, List.contains_eq_mem, decide_eq_true_eq] at h3
   exact h3.symm
  ·cases h3
 ·rintro ⟨k, w, hk, h2, h3⟩
  obtain ⟨h3, h4⟩ := xq.1 h3
  have hlt : k < s.Words.length := by
   rcases Nat.lt_or_ge k s.Words.length with h | h
   ·exact h
   ·rw [List.getElem?_eq_none h] at hk; cases hk
  rw [← h3] at h2
  refine ⟨by omega, h2, ?_⟩
  have hg : getI s.Words e.Word = some w := by
   unfold getI
   rw [if_pos (by omega), show e.Word.toNat = k by omega]
   exact hk
  simp only [hg, Bool.or_eq_true, beq_iff_eq, List.contains_eq_mem, decide_eq_true_eq]
  exact h4.symm
def stgG (s : GLs) (out : List Int) : Option GLe → List GLe → Bool
 | _, [] => true
 | none, e :: p => memB s out e && stgG s out (some e) p
 | some q, e :: p => memB s out e && (decide (befE q e) && stgG s out (some e) p)
theorem Bd (s : GLs) (out : List Int) : ∀ (p : List GLe) (q : GLe), stgG s out (some q) p = true ↔ (q :: p).Pairwise befE ∧ ∀ e ∈ p, memB s out e = true
 | [], q => by simp [stgG]
 | e :: p, q => by
  have ih := Bd s out p e
  simp only [stgG, Bool.and_eq_true, ih, decide_eq_true_eq]
  constructor
  ·rintro ⟨h1, h2, h3, h4⟩
   refine ⟨List.pairwise_cons.2 ⟨fun x hx => ?_, h3⟩, fun x hx => ?_⟩
   ·rcases List.mem_cons.1 hx with rfl | hx
    ·exact h2
    ·exact Be h2 ((List.pairwise_cons.1 h3).1 x hx)
   ·rcases List.mem_cons.1 hx with rfl | hx
    ·exact h1
    ·exact h4 x hx
  ·rintro ⟨h1, h2⟩
   rw [List.pairwise_cons] at h1
   exact ⟨h2 e (List.mem_cons_self ..), h1.1 e (List.mem_cons_self ..), h1.2, fun x hx => h2 x (List.mem_cons_of_mem _ hx)⟩
theorem Sw (s : GLs) (out : List Int) : ∀ (p : List GLe), stgG s out none p = true ↔ p.Pairwise befE ∧ ∀ e ∈ p, e ∈ possL out s.Words 0
 | [] => by simp [stgG]
 | e :: p => by
  simp only [stgG, Bool.and_eq_true, Bd, NB]
  constructor
  ·rintro ⟨h1, h2, h3⟩
   refine ⟨h2, fun x hx => ?_⟩
   rcases List.mem_cons.1 hx with rfl | hx
   ·exact h1
   ·exact h3 x hx
  ·rintro ⟨h1, h2⟩
   exact ⟨h2 e (List.mem_cons_self ..), h1, fun x hx => h2 x (List.mem_cons_of_mem _ hx)⟩
theorem Bf {s : GLs} (h : Sh s) (x : GLx) (ho : lenOk x.Out = true) (hl : lenOk x.Ends = true) : ∀ (p : List GLe) (q : GLe) (i : Int), 1 ≤ i → x.Ends.drop (i - 1).toNat = q :: p → qk s x p i = goB (stgG s x.Out (some q) p)
 | [], _, _, _, _ => rfl
 | e :: p, q, i, h0, hd => by
  have hb := uj hl
  have hle := xr hd
  simp only [List.length_cons] at hle
  have hi : i < 9223372036854775808 := by
   rcases hle with hle | hle
   ·omega
   ·cases hle
  have hn : x.Ends.drop (i + 1 - 1).toNat = e :: p := by
   have := bS (i := i - 1) (by omega) hd
   rwa [show i - 1 + 1 = i + 1 - 1 by omega] at this
  have hp : decide (i > 0) = true := by simp; omega
  have hw := h.nw
  simp only [qk, in_eq, Option.bind_some]
  rw [kf (by omega) (by omega)]
  simp only [stgG, memB]
  cases hin : inB 0 ((s.Words.length : Int) - 1) e.Word with
  | false => simp only [cond_false, Bool.false_and]; rfl
  | true =>
   obtain ⟨w, hw', hwm⟩ := Bg hin
   have hc := (h.wcut w hwm).2.2
   simp only [cond_true, Bh _ _ ho, Option.bind_some, hp, xt h0 hi hd, Ql, hw', Bh w.Cuts _ (oJ (by omega)), Bf h x ho hl p e (i + 1) (by omega) hn, letB, Bool.true_and]
   cases x.Out.contains e.Word with
   | true => rfl
   | false =>
    simp only [cond_false, Bool.not_false, Bool.true_and, bne]
    cases decide (befE q e) <;> cases (e.Letters == (w.Signs.length : Int)) <;> cases w.Cuts.contains e.Letters <;> simp <;> rfl
theorem NC {s : GLs} (h : Sh s) (x : GLx) (ho : lenOk x.Out = true) (hl : lenOk x.Ends = true) : qk s x x.Ends 0 = goB (stgG s x.Out none x.Ends) := by
 generalize hx : x.Ends = es
 cases es with
 | nil => rfl
 | cons e p =>
  have ih := Bf h x ho hl p e (0 + 1) (by omega) (by rw [hx]; rfl)
  have hw := h.nw
  simp only [qk, in_eq, Option.bind_some]
  rw [kf (by omega) (by omega)]
  simp only [stgG, memB]
  cases hin : inB 0 ((s.Words.length : Int) - 1) e.Word with
  | false => simp only [cond_false, Bool.false_and]; rfl
  | true =>
   obtain ⟨w, hw', hwm⟩ := Bg hin
   have hc := (h.wcut w hwm).2.2
   simp only [cond_true, Bh _ _ ho, Option.bind_some, show decide ((0 : Int) > 0) = false from rfl, cond_false, hw', Bh w.Cuts _ (oJ (by omega)), ih, letB, Bool.true_and]
   cases x.Out.contains e.Word with
   | true => rfl
   | false =>
    simp only [cond_false, Bool.not_false, Bool.true_and, bne]
    cases (e.Letters == (w.Signs.length : Int)) <;> cases w.Cuts.contains e.Letters <;> simp <;> rfl
theorem Bi {hi : Int} : ∀ (p : List Int) (q : Int), incr q p = true → (p.length : Int) < hi - q → ∃ j, q < j ∧ j ≤ hi ∧ j ∉ p
 | [], q, _, h => ⟨q + 1, by omega, by simp at h; omega, by simp⟩
 | e :: p, q, h1, h2 => by
  simp only [incr, Bool.and_eq_true, Bool.not_eq_true', decide_eq_false_iff_not] at h1
  simp only [List.length_cons] at h2
  by_cases he : e = q + 1
  ·obtain ⟨j, a, b, c⟩ := Bi (hi := hi) p e h1.2 (by omega)
   refine ⟨j, by omega, b, fun hm => ?_⟩
   rcases List.mem_cons.1 hm with hm | hm
   ·omega
   ·exact c hm
  ·refine ⟨q + 1, by omega, by omega, fun hm => ?_⟩
   have hpw := vl p e h1.2
   rcases List.mem_cons.1 hm with hm | hm
   ·omega
   ·have := (List.pairwise_cons.1 hpw).1 _ hm
    omega
theorem Bj {s : GLs} {out : List Int} (h : outB s out = true) : ∃ j : Nat, j < s.Words.length ∧ out.contains (j : Int) = false := by
 simp only [outB, Bool.and_eq_true, decide_eq_true_eq] at h
 obtain ⟨h1, ⟨h2, h2'⟩, _⟩ := h
 have : ∃ j, (-1 : Int) < j ∧ j ≤ (s.Words.length : Int) - 1 ∧ j ∉ out := by
  cases out with
  | nil => exact ⟨0, by omega, by simp at h1; omega, by simp⟩
  | cons e p =>
   simp only [List.length_cons] at h1
   refine Bi (e :: p) (-1) ?_ (by simp only [List.length_cons]; omega)
   simp only [List.all_cons, Bool.and_eq_true, rM] at h2'
   simp only [incrL] at h2
   simp only [incr, h2, Bool.and_true, Bool.not_eq_true', decide_eq_false_iff_not]
   omega
 obtain ⟨j, a, b, c⟩ := this
 exact ⟨j.toNat, by omega, by rw [show ((j.toNat : Nat) : Int) = j by omega]; simpa using c⟩
theorem ND {α : Type} {xs : List α} {i : Nat} {x : α} (h : xs[i]? = some x) : getI xs (i : Int) = some x := by
 unfold getI
 simp [h]
theorem Bk {out : List Int} (hl : lenOk out = true) : ∀ (n f : Nat), n < f → n < 1000 → (∃ j : Nat, j ≤ n ∧ out.contains (j : Int) = false) → ∃ m : Nat, m ≤ n ∧ xu out f (n : Int) = some (.go (m : Int)) ∧ out.contains (m : Int) = false ∧ ∀ k : Nat, m < k → k ≤ n → out.contains (k : Int) = true
 | n, 0, h, _, _ => by omega
 | n, f + 1, h, hn, hj => by
  simp only [xu, Bh _ _ hl, Option.bind_some]
  cases hc : out.contains (n : Int) with
  | false => exact ⟨n, Nat.le_refl _, rfl, hc, fun k h1 h2 => by omega⟩
  | true =>
   simp only [cond_true]
   obtain ⟨j, h1, h2⟩ := hj
   have hne : j ≠ n := fun e => by rw [e, hc] at h2; cases h2
   cases n with
   | zero => omega
   | succ n =>
    obtain ⟨m, q1, q2, q3, q4⟩ := Bk hl n f (by omega) (by omega) ⟨j, by omega, h2⟩
    rw [kf (by omega) (by omega), show (((n + 1 : Nat) : Int) - 1) = (n : Int) by omega]
    refine ⟨m, by omega, q2, q3, fun k h3 h4 => ?_⟩
    by_cases hk : k = n + 1
    ·rw [hk]; exact hc
    ·exact q4 k h3 (by omega)
theorem Sx (out : List Int) : ∀ (ws : List GLw) (i : Int), (∀ k : Nat, k < ws.length → out.contains (i + k) = true) → possL out ws i = []
 | [], _, _ => rfl
 | w :: ws, i, h => by
  have h0 := h 0 (by simp)
  rw [Int.natCast_zero, Int.add_zero] at h0
  unfold possL
  rw [h0, cond_true]
  exact Sx out ws (i + 1) fun k hk => by
   have := h (k + 1) (by simp; omega)
   rwa [show i + ((k + 1 : Nat) : Int) = i + 1 + k by omega] at this
theorem Sy (out : List Int) : ∀ (ws : List GLw) (i : Int) (m : Nat) (w : GLw), ws[m]? = some w → out.contains (i + m) = false → (∀ k : Nat, m < k → k < ws.length → out.contains (i + k) = true) → (possL out ws i).getLast? = some (GLe.mk (i + m) (w.Signs.length : Int))
 | [], _, m, w, h, _, _ => by simp at h
 | v :: ws, i, 0, w, h, h1, h2 => by
  simp only [List.getElem?_cons_zero, Option.some.injEq] at h
  subst h
  have hn := Sx out ws (i + 1) fun k hk => by
   have := h2 (k + 1) (by omega) (by simp; omega)
   rwa [show i + ((k + 1 : Nat) : Int) = i + 1 + k by omega] at this
  rw [Int.natCast_zero, Int.add_zero] at h1 ⊢
  unfold possL
  rw [h1, cond_false, hn, List.append_nil]
  simp [posW]
 | v :: ws, i, m + 1, w, h, h1, h2 => by
  have e1 : i + ((m + 1 : Nat) : Int) = i + 1 + m := by omega
  rw [e1] at h1 ⊢
  have ih := Sy out ws (i + 1) m w (by simpa using h) h1 fun k h3 h4 => by
   have := h2 (k + 1) (by omega) (by simp; omega)
   rwa [show i + ((k + 1 : Nat) : Int) = i + 1 + k by omega] at this
  unfold possL
  cases out.contains i with
  | true => exact ih
  | false => rw [cond_false, List.getLast?_append, ih]; rfl
theorem Bl {s : GLs} {out : List Int} (h : outB s out = true) : possL out s.Words 0 ≠ [] := by
 obtain ⟨j, h1, h2⟩ := Bj h
 intro hn
 have : GLe.mk (j : Int) (s.Words[j].Signs.length : Int) ∈ possL out s.Words 0 := by
  rw [Dr]
  exact ⟨j, s.Words[j], List.getElem?_eq_getElem h1, by rw [Int.zero_add]; exact h2, xq.2 ⟨by simp, .inr rfl⟩⟩
 rw [hn] at this
 cases this
theorem Qo {s : GLs} (h : Sh s) (x : GLx) (ho : lenOk x.Out = true) (he : lenOk x.Ends = true) : sS s x = some (outB s x.Out && areE x.Ends (possL x.Out s.Words 0)) := by
 have hw := h.nw
 simp only [sS, NF s _ ho (by omega), Option.bind_some]
 cases hob : outB s x.Out with
 | false => rfl
 | true =>
  simp only [cond_true, Bool.true_and]
  have hiff := wu x.Ends (possL x.Out s.Words 0) (yr h x.Out)
  have hpn := Bl hob
  cases hx : x.Ends with
  | nil =>
   rw [hx] at hiff
   simp only [List.length_nil, Int.natCast_zero, beq_self_eq_true, cond_true]
   cases ha : areE [] (possL x.Out s.Words 0) with
   | false => rfl
   | true =>
    have := (hiff.1 ha).2.2
    rw [List.getLast?_nil] at this
    exact absurd (List.getLast?_eq_none_iff.1 this.symm) hpn
  | cons e p =>
   have hz : (((e :: p).length : Int) == 0) = false := by simp; omega
   rw [hz, cond_false, ← hx, he, cond_true, NC h x ho he, te]
   cases hg : stgG s x.Out none x.Ends with
   | false =>
    simp only [cond_false]
    cases ha : areE x.Ends (possL x.Out s.Words 0) with
    | false => rfl
    | true =>
     obtain ⟨h1, h2, _⟩ := hiff.1 ha
     rw [(Sw s x.Out x.Ends).2 ⟨h1, h2⟩] at hg
     cases hg
   | true =>
    simp only [cond_true]
    obtain ⟨h1, h2⟩ := (Sw s x.Out x.Ends).1 hg
    obtain ⟨j, t8, WU⟩ := Bj hob
    obtain ⟨m, q1, q2, q3, q4⟩ := Bk ho (s.Words.length - 1) 1000000 (by omega) (by omega) ⟨j, by omega, WU⟩
    have hm : m < s.Words.length := by omega
    have hwm : s.Words[m]? = some s.Words[m] := List.getElem?_eq_getElem hm
    have hlast := Sy x.Out s.Words 0 m _ hwm (by rw [Int.zero_add]; exact q3) fun k h3 h4 => by rw [Int.zero_add]; exact q4 k h3 (by omega)
    rw [Int.zero_add] at hlast
    have hgw : getI s.Words (m : Int) = some s.Words[m] := ND hwm
    have hel : x.Ends.length = p.length + 1 := by rw [hx]; rfl
    have hlE := uj he
    simp only [Ds]
    rw [kf (by omega) (by omega), show ((s.Words.length : Int) - 1) = ((s.Words.length - 1 : Nat) : Int) by omega, q2, pn, Option.bind_some, Jd (by omega) hlE]
    obtain ⟨y, hy⟩ : ∃ y, x.Ends.getLast? = some y := by
     rw [hx, List.getLast?_cons]; exact ⟨_, rfl⟩
    rw [hy, Option.bind_some, hgw, Option.bind_some]
    congr 1
    rw [wq y (GLe.mk (m : Int) (s.Words[m].Signs.length : Int))]
    cases ha : areE x.Ends (possL x.Out s.Words 0) with
    | true =>
     have := (hiff.1 ha).2.2
     rw [hy, hlast, Option.some.injEq] at this
     simpa using this
    | false =>
     rw [decide_eq_false_iff_not]
     intro hh
     rw [hiff.2 ⟨h1, h2, by rw [hy, hlast, hh]⟩] at ha
     cases ha
end Go.V
end
section
namespace Go.V
open Go Go.Proofs IntKind
section
variable {P : Program} {K V : Type} {q : K → K → Bool} {kv : K → Value} {ew : V → VV} {t kt et : TypeId} {H : Nat → Option VObj}
theorem WV {fs : Array Field} {z : V} (hm : P.underlying t = some (.map kt et)) (hu : P.underlying kt = some (.struct fs)) (he : ∀ a b, au P (Op.equal kt (kv a) (kv b)) = some (q a b)) (hc : ∀ b k, au P (Instr.checkKey b 10000 kt (kv k)) = some ())
  (hz : ((P.info? et).bind (·.zero)).map ofVal2 = some (ew z)) {l : List (K × V)} {kx : VV} {k : K} (hk : kx.val? = some (kv k)) :
  vlookup P H t (.mt (mtK kv l) (mtV ew l)) kx true = some (.tup [ew (mapGet q z l k), .lit (.bool (mapHas q l k))]) := by
 have := WQ (H := fun _ => some (.map (encM kv ew l))) (β := 0) hm hu he hc hz hk rfl
 unfold vlookup at this ⊢
 rw [AT]
 exact this
end
end Go.V
end
section
namespace Go.V
open Go Go.Proofs IntKind
def dO (a b : Glp) : Bool := ((a.left == b.left) && ((a.right == b.right) && true))
theorem ql (a b : Glp) : au Tryz.prog (Op.equal 142 (cP a) (cP b)) = some (dO a b) := by
 unfold Op.equal
 exact Ht 5 142 _ _ _ (by kernel_rfl) 9995
theorem qm (b : Bool) (k : Glp) : au Tryz.prog (Instr.checkKey b 10000 142 (cP k)) = some () := by
 cases b <;> kernel_rfl
theorem t9 (a b : Glp) (h : dO a b = true) : a = b := by
 obtain ⟨aleft, aright⟩ := a
 obtain ⟨bleft, bright⟩ := b
 simp only [dO, Bool.and_true, Bool.and_eq_true, beq_iff_eq] at h
 simp only [h]
theorem vm (a : Glp) : dO a a = true := by simp [dO]
theorem Bm (a : Glp) : Instr.sameBits 10000 (cP a) (cP a) = true := by
 simp [cP, Instr.sameBits]
theorem Bn : ((Tryz.prog.info? 25).bind (·.zero)).map ofVal2 = some (fh (GSpan.mk 0 0)) := by kernel_rfl
theorem Bo (k : Glp) : VV.val? (.agg [.lit (.int .i64 k.left), .lit (.int .i64 k.right)]) = some (cP k) := rfl
theorem NG {β : Nat} (l : List (Glp × GSpan)) (k : Glp) (n : GSpan) (H : Nat → Option VObj) (hb : H β = some (.map (encM cP fh l))) : vmapUpdate Tryz.prog H 90 (.mp β) (.agg [.lit (.int .i64 k.left), .lit (.int .i64 k.right)]) (.agg [.lit (.int .i64 n.Low), .lit (.int .i64 n.High)]) = some (.upd β (.map (encM cP fh (mapSet dO l k n)))) :=
 MT Tryz.underlying90 Tryz.underlying142 ql qm t9 Bm (Bo k) hb
theorem NH {c : VV} {cs : List VV} : aV Tryz.prog 90 (c :: cs) = some c := by
 have h1 : aggT Tryz.prog 90 = some false := by kernel_rfl
 simp [aV, vpart, h1]
theorem NI : szT Tryz.prog 90 = some 1 := by kernel_rfl
theorem Bp : vzl Tryz.prog 90 = some [.lit (.map none)] := by kernel_rfl
theorem Bq {l : List (Glp × GSpan)} {a_left a_right : Int} {H : Nat → Option VObj} : vlookup Tryz.prog H 90 (.mt (mtK cP l) (mtV fh l)) (.agg [.lit (.int .i64 a_left), .lit (.int .i64 a_right)]) false = some (.agg (cGSpan (mapGet dO (GSpan.mk 0 0) l (Glp.mk a_left a_right)))) :=
 Nc Tryz.underlying90 Tryz.underlying142 ql qm Bn (k := (Glp.mk a_left a_right)) rfl
theorem lkto90 {l : List (Glp × GSpan)} {a_left a_right : Int} {H : Nat → Option VObj} : vlookup Tryz.prog H 90 (.mt (mtK cP l) (mtV fh l)) (.agg [.lit (.int .i64 a_left), .lit (.int .i64 a_right)]) true = some (.tup [.agg (cGSpan (mapGet dO (GSpan.mk 0 0) l (Glp.mk a_left a_right))), .lit (.bool (mapHas dO l (Glp.mk a_left a_right)))]) :=
 WV Tryz.underlying90 Tryz.underlying142 ql qm Bn (k := (Glp.mk a_left a_right)) rfl
theorem NJ (H : Nat → Option VObj) (d : Nat) (n : GSpan) : showV H d (fh n) = fh n := by cases d <;> simp [fh, showV, ar, nrm]
theorem NK {kv : Glp → Value} {l : List (Glp × GSpan)} {H : Nat → Option VObj} {d : Nat} : ((encM kv fh l).map (·.2)).map (showV H d) = mtV fh l := Nh NJ
def mqr := (And.intro (And.intro @CJ @yQ) (And.intro @px True.intro))
def mqt := (And.intro (And.intro (And.intro @NH @NI) (And.intro @Bp @Bq)) (And.intro (And.intro @lkto90 @CJ) (And.intro @yQ (And.intro @lU @NK))))
def nd (aA : GLx) (eN : Int) (e1 : GLw) : List Int → Int → Int → (List Glm) → Option (LOut (Gld) (Int × (List Glm)))
 | [], jT, gE, jU => some (.go (gE, jU))
 | e2 :: p2, jT, gE, jU => Option.bind (getI aA.Ends gE) (fun x8 => cond (x8.Word == eN && (x8.Letters == (jT + 1))) (cond (aB 32 (List.length (jU ++ [(Glm.mk eN e2 gE (decide ((jT + 1) < (List.length e1.Signs : Int))))]))) (nd aA eN e1 p2 (jT + 1) (i64.wrap (gE + 1)) (jU ++ [(Glm.mk eN e2 gE (decide ((jT + 1) < (List.length e1.Signs : Int))))])) none) (cond (aB 32 (List.length (jU ++ [(Glm.mk eN e2 gE false)]))) (nd aA eN e1 p2 (jT + 1) gE (jU ++ [(Glm.mk eN e2 gE false)])) none))
def qS (aA : GLx) : List GLw → Int → Int → (List Glm) → Option (LOut (Gld) (Int × (List Glm)))
 | [], eN, nf, ng => some (.go (nf, ng))
 | e1 :: p1, eN, nf, ng => Option.bind (xv aA.Out eN) (fun r7 => cond (r7) (qS aA p1 (eN + 1) nf ng) (cond (lenOk e1.Signs) (lbind (nd aA eN e1 e1.Signs 0 nf ng) (fun wm => some (.ret wm)) (fun c9 => qS aA p1 (eN + 1) c9.1 c9.2) (fun _ _ => none)) none))
def xw  : List GLp → Int → (List (Glp × GSpan)) → Option (LOut (Gld) ((List (Glp × GSpan))))
 | [], lz, qn => some (.go qn)
 | e0 :: p0, lz, qn => xw p0 (lz + 1) (mapSet dO qn (Glp.mk e0.Left e0.Right) e0.Space)
def rS (ag : GLs) (aA : GLx) (gb : Int) : Option (Gld) := cond (lenOk ag.Pairs) (lbind (xw ag.Pairs 0 ([] : List (Glp × GSpan))) (fun Kg => some Kg) (fun c1 => cond (lenOk ag.Words) (lbind (qS aA ag.Words 0 0 ([] : List Glm)) (fun rj => some rj) (fun CQ => some (Gld.mk ag aA gb c1 CQ.2)) (fun _ _ => none)) none) (fun _ _ => none)) none
theorem Rr (ag : GLs) (aA : GLx) (gb : Int) (R : Gld) (h : rS ag aA gb = some R) : ad Tryz.prog G0 71 [.agg (cGLs ag), .agg (cGLx aA), .lit (.int .i64 gb)] (.tree (.agg (cGld R))) := by
 refine ad.runR mixed Tryz.call71 Tryz.func71 rfl (by simp [Tryz.ntmps71]; kernel_rfl) ?_
 obtain ⟨KF, h, kF, kN⟩ := dZ h
 simp only [rS] at h
 cases lV : (lenOk ag.Pairs)
 ·simp only [lV, hs] at h
  exact absurd h kN
 simp only [lV, hs] at h
 simp only [vz, mq, mqm, tyf, mqt, lV, nm, seval]
 obtain ⟨WW, h, WX, NL, WY, WZ⟩ := gu h kN
 obtain ⟨Xa, NM, h⟩ := call3 h
 obtain ⟨Xb, vn⟩ : ∃ I : Nat → St → Prop, I = (fun m st => ∃ (tA : List GLp) (fA : Int) (fB : List (Glp × GSpan)), m = List.length tA ∧ 0 ≤ fA ∧ List.drop (Int.toNat fA) ag.Pairs = tA ∧ st.df = [] ∧ 14 ≤ st.nx ∧ st.H 0 = some (.cells (some 28) (cGLs ag)) ∧ st.H 1 = some (.cells (some 31) (cGLx aA)) ∧ st.H 2 = some (.cells (some 93) ([.lit (.slice none 0 0)] ++ [.lit (.slice none 0 0)] ++ [.lit (.int .i64 0)] ++ [.lit (.int .i64 0)] ++ [.lit (.int .i64 0)] ++ [.lit (.int .i64 0)] ++ [.lit (.int .i64 0)] ++ [.lit (.slice none 0 0)] ++ [.lit (.int .i64 0)] ++ [.lit (.int .i64 0)] ++ [.lit (.slice none 0 0)] ++ [.lit (.slice none 0 0)] ++ [.lit (.int .i64 0)] ++ [.lit (.map none)] ++ [.lit (.slice none 0 0)])) ∧ st.H 6 = some (.map (encM cP fh fB)) ∧ st.H 8 = some (.cells (some 93) ((cGLs ag) ++ (cGLx aA) ++ [.lit (.int .i64 gb)] ++ [.mp 6] ++ [.lit (.slice none 0 0)])) ∧ st.tm 3 = .ptr 0 0 ∧ st.tm 4 = .ptr 1 0 ∧ st.tm 6 = .ptr 2 0 ∧ st.tm 7 = .ptr 8 0 ∧ st.tm 22 = .sl (aa cGLp ag.Pairs) (List.length ag.Pairs) false ∧ st.tm 23 = .lit (.int .i64 (List.length ag.Pairs : Int)) ∧ st.tm 24 = .lit (.int .i64 fA) ∧ WW (Xa tA fA fB)) := ⟨_, rfl⟩
 refine loopK mixed (by kernel_rfl) Xb (List.length ag.Pairs) (by rw [vn]; refine ⟨ag.Pairs, 0, ([] : List (Glp × GSpan)), rfl, Int.le_refl _, rfl, rfl, (show 14 ≤ 14 by omega), ?_, ?_, ?_, ?_, ?_, ?_, ?_, ?_, ?_, ?_, ?_, ?_, h⟩ <;> first | (simp only [ua, cL, nm, seval] <;> rfl) | rfl) ?_
 rintro m ⟨tm, H, gF, df⟩ hinv
 rw [vn] at hinv
 obtain ⟨tA, fA, fB, rfl, nU, qo, hdf, NN, nV, mX, Br, Bs, nP, dL, bX, dz, ej, eW, dI, ec, h⟩ := hinv
 simp only at hdf NN nV mX Br Bs nP dL bX dz ej eW dI ec
 have ji := gv (m := 14) (b := gF) (by omega)
 subst hdf NM
 cases tA with
 | nil =>
  have jj : (decide (fA < (List.length ag.Pairs : Int))) = false := fj nU qo
  simp only [xw, hs, reduceCtorEq] at h
  replace h := NL _ h
  try dsimp only at h
  try simp only [hs] at h
  cases mB : (lenOk ag.Words)
  ·simp only [mB, hs] at h
   exact absurd h kN
  simp only [mB, hs] at h
  simp only [vz, mq, mqm, tyf, mqt, lV, ji, dL, bX, dz, ej, eW, dI, ec, nV, mX, Br, Bs, nP, jj, mB, nm, seval]
  obtain ⟨Xc, h, Xd, Bt, Xe, nW⟩ := gu h kN
  obtain ⟨Xf, NO, h⟩ := call4 h
  obtain ⟨Xg, lA⟩ : ∃ I : Nat → St → Prop, I = (fun m st => ∃ (jV : List GLw) (ak : Int) (fa : Int) (cB : List Glm) (nh : VV), m = List.length jV ∧ 0 ≤ ak ∧ List.drop (Int.toNat ak) ag.Words = jV ∧ st.df = [] ∧ gF + 6 ≤ st.nx ∧ st.H 0 = some (.cells (some 28) (cGLs ag)) ∧ st.H 1 = some (.cells (some 31) (cGLx aA)) ∧ st.H 2 = some (.cells (some 93) ([.lit (.slice none 0 0)] ++ [.lit (.slice none 0 0)] ++ [.lit (.int .i64 0)] ++ [.lit (.int .i64 0)] ++ [.lit (.int .i64 0)] ++ [.lit (.int .i64 0)] ++ [.lit (.int .i64 0)] ++ [.lit (.slice none 0 0)] ++ [.lit (.int .i64 0)] ++ [.lit (.int .i64 0)] ++ [.lit (.slice none 0 0)] ++ [.lit (.slice none 0 0)] ++ [.lit (.int .i64 0)] ++ [.lit (.map none)] ++ [.lit (.slice none 0 0)])) ∧ st.H 6 = some (.map (encM cP fh fB)) ∧ st.H 8 = some (.cells (some 93) ((cGLs ag) ++ (cGLx aA) ++ [.lit (.int .i64 gb)] ++ [.mp 6] ++ [nh])) ∧ st.tm 3 = .ptr 0 0 ∧ st.tm 4 = .ptr 1 0 ∧ st.tm 6 = .ptr 2 0 ∧ st.tm 7 = .ptr 8 0 ∧ st.tm 40 = .lit (.int .i64 (List.length ag.Words : Int)) ∧ st.tm 10 = .lit (.int .i64 fa) ∧ st.tm 41 = .lit (.int .i64 ak) ∧ ((∃ (β : Nat) (el : Option TypeId), nh = .ref β 0 (List.length cB) 4 (List.length cB) ∧ β < st.nx ∧ β ≠ 0 ∧ β ≠ 1 ∧ β ≠ 2 ∧ β ≠ 6 ∧ β ≠ 8 ∧ st.H β = some (.cells el (aa cGlm cB))) ∨ (nh = .lit (.slice none 0 0) ∧ cB = [])) ∧ Xc (Xf jV ak fa cB)) := ⟨_, rfl⟩
  refine loopK mixed (by kernel_rfl) Xg (List.length ag.Words) (by rw [lA]; refine ⟨ag.Words, 0, 0, ([] : List Glm), .lit (.slice none 0 0), rfl, Int.le_refl _, rfl, rfl, (show gF + 6 ≤ gF + 6 by omega), ?_, ?_, ?_, ?_, ?_, dL, bX, dz, ej, ?_, ?_, ?_, Or.inr ⟨rfl, rfl⟩, h⟩ <;> first | (simp only [ua, cL, ji, dL, bX, dz, ej, eW, dI, ec, nV, mX, Br, Bs, nP, jj, nm, seval] <;> rfl) | rfl) ?_
  rintro m ⟨tm, H, eO, df⟩ hinv
  rw [lA] at hinv
  obtain ⟨jV, ak, fa, cB, nh, rfl, eP, gG, hdf, NP, nX, nY, nZ, fb, oa, bT, bC, bG, bE, cm, bP, cw, qp, h⟩ := hinv
  simp only at hdf NP nX nY nZ fb oa bT bC bG bE cm bP cw qp
  have oR := gv (m := 14) (b := eO) (by omega)
  have eQ := rH (a := gF) (m := 6) (b := eO) (by omega)
  subst hdf NO
  rcases qp with ⟨lB, qq, rfl, NQ, vo, vp, NR, NS, NT, xx⟩ | ⟨rfl, rfl⟩
  ·have xy := ub NQ
   have jl := ne_f vo
   have jm := ne_f vp
   have xz := ne_f NR
   have x9 := ne_f NS
   have xA := ne_f NT
   cases jV with
   | nil =>
    have mY : (decide (ak < (List.length ag.Words : Int))) = false := fj eP gG
    simp only [qS, hs, reduceCtorEq] at h
    replace h := Bt _ h
    try dsimp only at h
    try simp only [hs] at h
    try simp only [vz, mq, mqm, tyf, mqt, lV, ji, jj, mB, oR, eQ, bT, bC, bG, bE, cm, bP, cw, nX, nY, nZ, fb, oa, xy, xx, jl, jm, xz, x9, xA, mY, nm, seval]
    refine d4 (x := (.agg ((cGLs ag) ++ (cGLx aA) ++ [.lit (.int .i64 gb)] ++ [.mp 6] ++ [.ref lB 0 (List.length cB) 4 (List.length cB)]))) (by first | (simp only [Tryz.results71, resV, resL, aJ, dU, dT, uw, cr, tyf, mqt, lV, ji, jj, mB, oR, eQ, bT, bC, bG, bE, cm, bP, cw, nX, nY, nZ, fb, oa, xy, xx, jl, jm, xz, x9, xA, mY, nm, seval] <;> rfl) | rfl) ?_
    obtain rfl := kF _ h
    refine dW ?_ ?_
    ·simp only [tre, aw, mqr, Bool.and_self]
    ·first | (simp only [outV, uw, fu, mA, lU, cr, tyf, mqt, nrm, ar, lV, ji, jj, mB, oR, eQ, bT, bC, bG, bE, cm, bP, cw, nX, nY, nZ, fb, oa, xy, xx, jl, jm, xz, x9, xA, mY, nm, seval] <;> rfl) | rfl
   | cons bQ jV =>
    have kT : (decide (ak < (List.length ag.Words : Int))) = true := fk eP gG
    have iR := eg eP gG
    have NU := fm eP gG mB
    simp only [qS, hs, reduceCtorEq] at h
    obtain ⟨Sz, Xh, h⟩ := optI h nW
    try simp only [hs] at h
    simp only [vz, mq, mqm, tyf, mqt, lV, ji, jj, mB, oR, eQ, bT, bC, bG, bE, cm, bP, cw, nX, nY, nZ, fb, oa, xy, xx, jl, jm, xz, x9, xA, kT, (aE iR), NU, nm, seval]
    refine ktree (args0 := [.sl (aa eI aA.Out) (List.length aA.Out) false, .lit (.int .i64 ak)]) (by first | (simp only [nrm, ar, mqr] <;> rfl) | rfl) (by simp only [tre, aw, mqr, Bool.and_self]) (Dt _ _ _ Xh) ?_
    refine bt (fun tm => tm 3 = .ptr 0 0 ∧ tm 4 = .ptr 1 0 ∧ tm 6 = .ptr 2 0 ∧ tm 7 = .ptr 8 0 ∧ tm 10 = .lit (.int .i64 fa) ∧ tm 11 = .lit (.int .i64 ak) ∧ tm 40 = .lit (.int .i64 (List.length ag.Words : Int)) ∧ tm 41 = .lit (.int .i64 ak) ∧ tm 47 = .lit (.bool Sz) ∧ True) (by refine ⟨bT, bC, bG, bE, bP, ?_, cm, cw, ?_, trivial⟩ <;> first | (simp only [ua, cL, ji, jj, oR, eQ, bT, bC, bG, bE, cm, bP, cw, nX, nY, nZ, fb, oa, xy, xx, jl, jm, xz, x9, xA, kT, NU, nm, seval] <;> rfl) | rfl) ?_
    rintro tm ⟨jN, kL, kM, eV, eY, fE, iG, lC, lW, _⟩
    have eJ := And.intro lV (And.intro ji (And.intro jj (And.intro mB (And.intro oR (And.intro eQ (And.intro nX (And.intro nY (And.intro nZ (And.intro fb (And.intro oa (And.intro xy (And.intro xx (And.intro jl (And.intro jm (And.intro xz (And.intro x9 (And.intro xA (And.intro kT NU))))))))))))))))))
    cases du : (Sz)
    ·simp only [du, hs] at h
     cases qs : (lenOk bQ.Signs)
     ·simp only [qs, hs] at h
      exact absurd h nW
     simp only [qs, hs] at h
     simp only [vz, mq, mqm, tyf, mqt, eJ, (aE iR), jN, kL, kM, eV, eY, fE, iG, lC, lW, du, qs, nm, seval]
     obtain ⟨Xi, h, Xj, Bu, Xk, oc⟩ := gu h nW
     obtain ⟨Xl, NV, h⟩ := call4 h
     obtain ⟨Xm, od⟩ : ∃ I : Nat → St → Prop, I = (fun m st => ∃ (lX : List Int) (bn : Int) (bl : Int) (bN : List Glm) (ni : VV), m = List.length lX ∧ 0 ≤ bn ∧ List.drop (Int.toNat bn) bQ.Signs = lX ∧ st.df = [] ∧ eO + 23 ≤ st.nx ∧ st.H 0 = some (.cells (some 28) (cGLs ag)) ∧ st.H 1 = some (.cells (some 31) (cGLx aA)) ∧ st.H 2 = some (.cells (some 93) ([.lit (.slice none 0 0)] ++ [.lit (.slice none 0 0)] ++ [.lit (.int .i64 0)] ++ [.lit (.int .i64 0)] ++ [.lit (.int .i64 0)] ++ [.lit (.int .i64 0)] ++ [.lit (.int .i64 0)] ++ [.lit (.slice none 0 0)] ++ [.lit (.int .i64 0)] ++ [.lit (.int .i64 0)] ++ [.lit (.slice none 0 0)] ++ [.lit (.slice none 0 0)] ++ [.lit (.int .i64 0)] ++ [.lit (.map none)] ++ [.lit (.slice none 0 0)])) ∧ st.H 6 = some (.map (encM cP fh fB)) ∧ st.H 8 = some (.cells (some 93) ((cGLs ag) ++ (cGLx aA) ++ [.lit (.int .i64 gb)] ++ [.mp 6] ++ [ni])) ∧ st.tm 3 = .ptr 0 0 ∧ st.tm 4 = .ptr 1 0 ∧ st.tm 6 = .ptr 2 0 ∧ st.tm 7 = .ptr 8 0 ∧ st.tm 11 = .lit (.int .i64 ak) ∧ st.tm 12 = .lit (.int .i64 (List.length bQ.Signs : Int)) ∧ st.tm 40 = .lit (.int .i64 (List.length ag.Words : Int)) ∧ st.tm 41 = .lit (.int .i64 ak) ∧ st.tm 60 = .sl (aa eI bQ.Signs) (List.length bQ.Signs) false ∧ st.tm 61 = .lit (.int .i64 (List.length bQ.Signs : Int)) ∧ st.tm 10 = .lit (.int .i64 bl) ∧ st.tm 62 = .lit (.int .i64 bn) ∧ ((∃ (β : Nat) (el : Option TypeId), ni = .ref β 0 (List.length bN) 4 (List.length bN) ∧ β < st.nx ∧ β ≠ 0 ∧ β ≠ 1 ∧ β ≠ 2 ∧ β ≠ 6 ∧ β ≠ 8 ∧ st.H β = some (.cells el (aa cGlm bN))) ∨ (ni = .lit (.slice none 0 0) ∧ bN = [])) ∧ Xi (Xl lX bn bl bN)) := ⟨_, rfl⟩
     refine loopK mixed (by kernel_rfl) Xm (List.length bQ.Signs) (by rw [od]; refine ⟨bQ.Signs, 0, fa, cB, .ref lB 0 (List.length cB) 4 (List.length cB), rfl, Int.le_refl _, rfl, rfl, (show eO + 23 ≤ eO + 23 by omega), ?_, ?_, ?_, ?_, ?_, jN, kL, kM, eV, fE, ?_, iG, lC, ?_, ?_, eY, ?_, Or.inl ⟨lB, qq, rfl, (by first | omega | (simp only [nm, seval]; done) | (simp only [nm, seval]; omega)), (by first | omega | (intro hh; simp only [eJ, reduceCtorEq] at hh)), (by first | omega | (intro hh; simp only [eJ, reduceCtorEq] at hh)), (by first | omega | (intro hh; simp only [eJ, reduceCtorEq] at hh)), (by first | omega | (intro hh; simp only [eJ, reduceCtorEq] at hh)), (by first | omega | (intro hh; simp only [eJ, reduceCtorEq] at hh)), ?_⟩, h⟩ <;> first | (simp only [ua, cL, eJ, jN, kL, kM, eV, eY, fE, iG, lC, lW, du, nm, seval] <;> rfl) | rfl) ?_
     rintro m ⟨tm, H, fC, df⟩ hinv
     rw [od] at hinv
     obtain ⟨lX, bn, bl, bN, ni, rfl, fV, iB, hdf, NW, sa, sb, sc, sd, se, cv, cz, bF, cj, cg, bZ, dy, dF, cM, cy, cH, fS, qt, h⟩ := hinv
     simp only at hdf NW sa sb sc sd se cv cz bF cj cg bZ dy dF cM cy cH fS qt
     have eC := gv (m := 14) (b := fC) (by omega)
     have oe := rH (a := gF) (m := 6) (b := fC) (by omega)
     have og := rH (a := eO) (m := 23) (b := fC) (by omega)
     subst hdf NV
     rcases qt with ⟨tB, jn, rfl, NX, NY, NZ, Oa, Ob, Oc, Du⟩ | ⟨rfl, rfl⟩
     ·have sf := ub NX
      have si := ne_f NY
      have sj := ne_f NZ
      have sk := ne_f Oa
      have sm := ne_f Ob
      have sn := ne_f Oc
      cases lX with
      | nil =>
       have so : (decide (bn < (List.length bQ.Signs : Int))) = false := fj fV iB
       simp only [nd, hs, reduceCtorEq] at h
       replace h := Bu _ h
       try dsimp only at h
       try simp only [hs] at h
       simp only [vz, mq, mqm, tyf, mqt, eJ, (aE iR), du, qs, eC, oe, og, cv, cz, bF, cj, cg, bZ, dy, dF, cM, cy, cH, fS, sa, sb, sc, sd, se, sf, Du, si, sj, sk, sm, sn, so, nm, seval]
       exact ⟨List.length jV, Nat.lt_succ_self _, by rw [lA]; refine ⟨jV, ak + 1, bl, bN, .ref tB 0 (List.length bN) 4 (List.length bN), rfl, Int.le_trans eP (Int.le_add_one (Int.le_refl _)), bS eP gG, rfl, (show gF + 6 ≤ fC + 3 by omega), ?_, ?_, ?_, ?_, ?_, cv, cz, bF, cj, dy, cH, ?_, Or.inl ⟨tB, jn, rfl, (by first | omega | (simp only [nm, seval]; done) | (simp only [nm, seval]; omega)), (by first | omega | (intro hh; simp only [eJ, eC, oe, og, sf, si, sj, sk, sm, sn, reduceCtorEq] at hh)), (by first | omega | (intro hh; simp only [eJ, eC, oe, og, sf, si, sj, sk, sm, sn, reduceCtorEq] at hh)), (by first | omega | (intro hh; simp only [eJ, eC, oe, og, sf, si, sj, sk, sm, sn, reduceCtorEq] at hh)), (by first | omega | (intro hh; simp only [eJ, eC, oe, og, sf, si, sj, sk, sm, sn, reduceCtorEq] at hh)), (by first | omega | (intro hh; simp only [eJ, eC, oe, og, sf, si, sj, sk, sm, sn, reduceCtorEq] at hh)), ?_⟩, (by first | exact h | (simp only [eJ, du, so]; exact h))⟩ <;> first | (simp only [ua, cL, eJ, du, eC, oe, og, cv, cz, bF, cj, cg, bZ, dy, dF, cM, cy, cH, fS, sa, sb, sc, sd, se, sf, Du, si, sj, sk, sm, sn, so, nm, seval] <;> rfl) | rfl⟩
      | cons fy lX =>
       have Bv : (decide (bn < (List.length bQ.Signs : Int))) = true := fk fV iB
       have lD := eg fV iB
       have Bw := fm fV iB qs
       simp only [nd, hs, reduceCtorEq] at h
       obtain ⟨Bx, lE, h⟩ := optI h oc
       try simp only [hs] at h
       cases sq : (Bx.Word == ak && (Bx.Letters == (bn + 1)))
       ·simp only [sq, hs] at h
        have hT := And.intro eJ (And.intro du (And.intro qs (And.intro eC (And.intro oe (And.intro og (And.intro sa (And.intro sb (And.intro sc (And.intro sd (And.intro se (And.intro sf (And.intro Du (And.intro si (And.intro sj (And.intro sk (And.intro sm (And.intro sn (And.intro Bv (And.intro Bw sq)))))))))))))))))))
        cases mC : (aB 32 (List.length (bN ++ [(Glm.mk ak fy bl false)])))
        ·simp only [mC, hs] at h
         exact absurd h oc
        simp only [mC, hs] at h
        simp only [vz, mq, mqm, tyf, mqt, hT, (aE iR), cv, cz, bF, cj, cg, bZ, dy, dF, cM, cy, cH, fS, (aD lD), (aG lE), mC, nm, seval]
        refine k_app (w := 4) (enc := cGlm) (xs := bN) (ys := ([(Glm.mk ak fy bl false)])) (el := jn) (fZ := (some 144)) (fun _ => rfl) lj lh Tryz.underlying91 (by first | rfl | assumption | (simp only [br, bW, gX, hT, nm, seval] <;> rfl) | (simp only [br, bW, fX, fJ, fT, fU, tyf, mqt, hT, (aE iR), cv, cz, bF, cj, cg, bZ, dy, dF, cM, cy, cH, fS, (aD lD), (aG lE), mC, nm, seval]; done)) (by first | rfl | assumption | (simp only [br, bW, gX, hT, nm, seval] <;> rfl) | (simp only [br, bW, fX, fJ, fT, fU, tyf, mqt, hT, (aE iR), cv, cz, bF, cj, cg, bZ, dy, dF, cM, cy, cH, fS, (aD lD), (aG lE), mC, nm, seval]; done)) (Nat.zero_lt_succ _) mC ?_
        simp only [vz, mq, mqm, tyf, mqt, hT, (aE iR), cv, cz, bF, cj, cg, bZ, dy, dF, cM, cy, cH, fS, (aD lD), (aG lE), mC, nm, seval]
        exact ⟨List.length lX, Nat.lt_succ_self _, by rw [od]; refine ⟨lX, bn + 1, bl, (bN ++ [(Glm.mk ak fy bl false)]), .ref (fC + 31) 0 (List.length (bN ++ [(Glm.mk ak fy bl false)])) 4 (List.length (bN ++ [(Glm.mk ak fy bl false)])), rfl, Int.le_trans fV (Int.le_add_one (Int.le_refl _)), bS fV iB, rfl, (show eO + 23 ≤ fC + 37 by omega), ?_, ?_, ?_, ?_, ?_, cv, cz, bF, cj, cg, bZ, dy, dF, cM, cy, cH, ?_, Or.inl ⟨fC + 31, (sameEl jn 144), rfl, (by first | omega | (simp only [nm, seval]; done) | (simp only [nm, seval]; omega)), (by first | omega | (intro hh; simp only [hT, reduceCtorEq] at hh)), (by first | omega | (intro hh; simp only [hT, reduceCtorEq] at hh)), (by first | omega | (intro hh; simp only [hT, reduceCtorEq] at hh)), (by first | omega | (intro hh; simp only [hT, reduceCtorEq] at hh)), (by first | omega | (intro hh; simp only [hT, reduceCtorEq] at hh)), ?_⟩, (by first | exact h | (simp only [hT]; exact h))⟩ <;> first | (simp only [ua, cL, hT, cv, cz, bF, cj, cg, bZ, dy, dF, cM, cy, cH, fS, nm, seval] <;> rfl) | rfl⟩
       simp only [sq, hs] at h
       have gh := And.intro eJ (And.intro du (And.intro qs (And.intro eC (And.intro oe (And.intro og (And.intro sa (And.intro sb (And.intro sc (And.intro sd (And.intro se (And.intro sf (And.intro Du (And.intro si (And.intro sj (And.intro sk (And.intro sm (And.intro sn (And.intro Bv (And.intro Bw sq)))))))))))))))))))
       cases mD : (aB 32 (List.length (bN ++ [(Glm.mk ak fy bl (decide ((bn + 1) < (List.length bQ.Signs : Int))))])))
       ·simp only [mD, hs] at h
        exact absurd h oc
       simp only [mD, hs] at h
       simp only [vz, mq, mqm, tyf, mqt, gh, (aE iR), cv, cz, bF, cj, cg, bZ, dy, dF, cM, cy, cH, fS, (aD lD), (aG lE), mD, nm, seval]
       refine k_app (w := 4) (enc := cGlm) (xs := bN) (ys := ([(Glm.mk ak fy bl (decide ((bn + 1) < (List.length bQ.Signs : Int))))])) (el := jn) (fZ := (some 144)) (fun _ => rfl) lj lh Tryz.underlying91 (by first | rfl | assumption | (simp only [br, bW, gX, gh, nm, seval] <;> rfl) | (simp only [br, bW, fX, fJ, fT, fU, tyf, mqt, gh, (aE iR), cv, cz, bF, cj, cg, bZ, dy, dF, cM, cy, cH, fS, (aD lD), (aG lE), mD, nm, seval]; done)) (by first | rfl | assumption | (simp only [br, bW, gX, gh, nm, seval] <;> rfl) | (simp only [br, bW, fX, fJ, fT, fU, tyf, mqt, gh, (aE iR), cv, cz, bF, cj, cg, bZ, dy, dF, cM, cy, cH, fS, (aD lD), (aG lE), mD, nm, seval]; done)) (Nat.zero_lt_succ _) mD ?_
       simp only [vz, mq, mqm, tyf, mqt, gh, (aE iR), cv, cz, bF, cj, cg, bZ, dy, dF, cM, cy, cH, fS, (aD lD), (aG lE), mD, nm, seval]
       exact ⟨List.length lX, Nat.lt_succ_self _, by rw [od]; refine ⟨lX, bn + 1, i64.wrap (bl + 1), (bN ++ [(Glm.mk ak fy bl (decide ((bn + 1) < (List.length bQ.Signs : Int))))]), .ref (fC + 31) 0 (List.length (bN ++ [(Glm.mk ak fy bl (decide ((bn + 1) < (List.length bQ.Signs : Int))))])) 4 (List.length (bN ++ [(Glm.mk ak fy bl (decide ((bn + 1) < (List.length bQ.Signs : Int))))])), rfl, Int.le_trans fV (Int.le_add_one (Int.le_refl _)), bS fV iB, rfl, (show eO + 23 ≤ fC + 40 by omega), ?_, ?_, ?_, ?_, ?_, cv, cz, bF, cj, cg, bZ, dy, dF, cM, cy, ?_, ?_, Or.inl ⟨fC + 31, (sameEl jn 144), rfl, (by first | omega | (simp only [nm, seval]; done) | (simp only [nm, seval]; omega)), (by first | omega | (intro hh; simp only [gh, reduceCtorEq] at hh)), (by first | omega | (intro hh; simp only [gh, reduceCtorEq] at hh)), (by first | omega | (intro hh; simp only [gh, reduceCtorEq] at hh)), (by first | omega | (intro hh; simp only [gh, reduceCtorEq] at hh)), (by first | omega | (intro hh; simp only [gh, reduceCtorEq] at hh)), ?_⟩, (by first | exact h | (simp only [gh]; exact h))⟩ <;> first | (simp only [ua, cL, gh, cv, cz, bF, cj, cg, bZ, dy, dF, cM, cy, cH, fS, nm, seval] <;> rfl) | rfl⟩
     ·cases lX with
      | nil =>
       have vq : (decide (bn < (List.length bQ.Signs : Int))) = false := fj fV iB
       simp only [nd, hs, reduceCtorEq] at h
       replace h := Bu _ h
       try dsimp only at h
       try simp only [hs] at h
       simp only [vz, mq, mqm, tyf, mqt, eJ, (aE iR), du, qs, eC, oe, og, cv, cz, bF, cj, cg, bZ, dy, dF, cM, cy, cH, fS, sa, sb, sc, sd, se, vq, nm, seval]
       exact ⟨List.length jV, Nat.lt_succ_self _, by rw [lA]; refine ⟨jV, ak + 1, bl, ([] : List Glm), .lit (.slice none 0 0), rfl, Int.le_trans eP (Int.le_add_one (Int.le_refl _)), bS eP gG, rfl, (show gF + 6 ≤ fC + 3 by omega), ?_, ?_, ?_, ?_, ?_, cv, cz, bF, cj, dy, cH, ?_, Or.inr ⟨rfl, rfl⟩, (by first | exact h | (simp only [eJ, du, vq]; exact h))⟩ <;> first | (simp only [ua, cL, eJ, du, eC, oe, og, cv, cz, bF, cj, cg, bZ, dy, dF, cM, cy, cH, fS, sa, sb, sc, sd, se, vq, nm, seval] <;> rfl) | rfl⟩
      | cons fy lX =>
       have By : (decide (bn < (List.length bQ.Signs : Int))) = true := fk fV iB
       have oh := eg fV iB
       have Bz := fm fV iB qs
       simp only [nd, hs, reduceCtorEq] at h
       obtain ⟨B0, om, h⟩ := optI h oc
       try simp only [hs] at h
       cases ss : (B0.Word == ak && (B0.Letters == (bn + 1)))
       ·simp only [ss, hs] at h
        have jo := And.intro eJ (And.intro du (And.intro qs (And.intro eC (And.intro oe (And.intro og (And.intro sa (And.intro sb (And.intro sc (And.intro sd (And.intro se (And.intro By (And.intro Bz ss))))))))))))
        cases oo : (aB 32 (List.length (([] : List Glm) ++ [(Glm.mk ak fy bl false)])))
        ·simp only [oo, hs] at h
         exact absurd h oc
        simp only [oo, hs] at h
        simp only [vz, mq, mqm, tyf, mqt, jo, (aE iR), cv, cz, bF, cj, cg, bZ, dy, dF, cM, cy, cH, fS, (aD oh), (aG om), oo, nm, seval]
        refine oM (w := 4) (enc := cGlm) (ys := ([(Glm.mk ak fy bl false)])) (fZ := (some 144)) (fun _ => rfl) lj lh Tryz.underlying91 (by first | rfl | assumption | (simp only [br, bW, gX, jo, nm, seval] <;> rfl) | (simp only [br, bW, fX, fJ, fT, fU, tyf, mqt, jo, (aE iR), cv, cz, bF, cj, cg, bZ, dy, dF, cM, cy, cH, fS, (aD oh), (aG om), oo, nm, seval]; done)) (Nat.zero_lt_succ _) oo ?_
        simp only [vz, mq, mqm, tyf, mqt, jo, (aE iR), cv, cz, bF, cj, cg, bZ, dy, dF, cM, cy, cH, fS, (aD oh), (aG om), oo, nm, seval]
        exact ⟨List.length lX, Nat.lt_succ_self _, by rw [od]; refine ⟨lX, bn + 1, bl, (([] : List Glm) ++ [(Glm.mk ak fy bl false)]), .ref (fC + 31) 0 (List.length (([] : List Glm) ++ [(Glm.mk ak fy bl false)])) 4 (List.length (([] : List Glm) ++ [(Glm.mk ak fy bl false)])), rfl, Int.le_trans fV (Int.le_add_one (Int.le_refl _)), bS fV iB, rfl, (show eO + 23 ≤ fC + 37 by omega), ?_, ?_, ?_, ?_, ?_, cv, cz, bF, cj, cg, bZ, dy, dF, cM, cy, cH, ?_, Or.inl ⟨fC + 31, (some 144), rfl, (by first | omega | (simp only [nm, seval]; done) | (simp only [nm, seval]; omega)), (by first | omega | (intro hh; simp only [jo, reduceCtorEq] at hh)), (by first | omega | (intro hh; simp only [jo, reduceCtorEq] at hh)), (by first | omega | (intro hh; simp only [jo, reduceCtorEq] at hh)), (by first | omega | (intro hh; simp only [jo, reduceCtorEq] at hh)), (by first | omega | (intro hh; simp only [jo, reduceCtorEq] at hh)), ?_⟩, (by first | exact h | (simp only [jo]; exact h))⟩ <;> first | (simp only [ua, cL, jo, cv, cz, bF, cj, cg, bZ, dy, dF, cM, cy, cH, fS, nm, seval] <;> rfl) | rfl⟩
       simp only [ss, hs] at h
       have jq := And.intro eJ (And.intro du (And.intro qs (And.intro eC (And.intro oe (And.intro og (And.intro sa (And.intro sb (And.intro sc (And.intro sd (And.intro se (And.intro By (And.intro Bz ss))))))))))))
       cases oq : (aB 32 (List.length (([] : List Glm) ++ [(Glm.mk ak fy bl (decide ((bn + 1) < (List.length bQ.Signs : Int))))])))
       ·simp only [oq, hs] at h
        exact absurd h oc
       simp only [oq, hs] at h
       simp only [vz, mq, mqm, tyf, mqt, jq, (aE iR), cv, cz, bF, cj, cg, bZ, dy, dF, cM, cy, cH, fS, (aD oh), (aG om), oq, nm, seval]
       refine oM (w := 4) (enc := cGlm) (ys := ([(Glm.mk ak fy bl (decide ((bn + 1) < (List.length bQ.Signs : Int))))])) (fZ := (some 144)) (fun _ => rfl) lj lh Tryz.underlying91 (by first | rfl | assumption | (simp only [br, bW, gX, jq, nm, seval] <;> rfl) | (simp only [br, bW, fX, fJ, fT, fU, tyf, mqt, jq, (aE iR), cv, cz, bF, cj, cg, bZ, dy, dF, cM, cy, cH, fS, (aD oh), (aG om), oq, nm, seval]; done)) (Nat.zero_lt_succ _) oq ?_
       simp only [vz, mq, mqm, tyf, mqt, jq, (aE iR), cv, cz, bF, cj, cg, bZ, dy, dF, cM, cy, cH, fS, (aD oh), (aG om), oq, nm, seval]
       exact ⟨List.length lX, Nat.lt_succ_self _, by rw [od]; refine ⟨lX, bn + 1, i64.wrap (bl + 1), (([] : List Glm) ++ [(Glm.mk ak fy bl (decide ((bn + 1) < (List.length bQ.Signs : Int))))]), .ref (fC + 31) 0 (List.length (([] : List Glm) ++ [(Glm.mk ak fy bl (decide ((bn + 1) < (List.length bQ.Signs : Int))))])) 4 (List.length (([] : List Glm) ++ [(Glm.mk ak fy bl (decide ((bn + 1) < (List.length bQ.Signs : Int))))])), rfl, Int.le_trans fV (Int.le_add_one (Int.le_refl _)), bS fV iB, rfl, (show eO + 23 ≤ fC + 40 by omega), ?_, ?_, ?_, ?_, ?_, cv, cz, bF, cj, cg, bZ, dy, dF, cM, cy, ?_, ?_, Or.inl ⟨fC + 31, (some 144), rfl, (by first | omega | (simp only [nm, seval]; done) | (simp only [nm, seval]; omega)), (by first | omega | (intro hh; simp only [jq, reduceCtorEq] at hh)), (by first | omega | (intro hh; simp only [jq, reduceCtorEq] at hh)), (by first | omega | (intro hh; simp only [jq, reduceCtorEq] at hh)), (by first | omega | (intro hh; simp only [jq, reduceCtorEq] at hh)), (by first | omega | (intro hh; simp only [jq, reduceCtorEq] at hh)), ?_⟩, (by first | exact h | (simp only [jq]; exact h))⟩ <;> first | (simp only [ua, cL, jq, cv, cz, bF, cj, cg, bZ, dy, dF, cM, cy, cH, fS, nm, seval] <;> rfl) | rfl⟩
    simp only [du, hs] at h
    simp only [vz, mq, mqm, tyf, mqt, eJ, (aE iR), jN, kL, kM, eV, eY, fE, iG, lC, lW, du, nm, seval]
    exact ⟨List.length jV, Nat.lt_succ_self _, by rw [lA]; refine ⟨jV, ak + 1, fa, cB, .ref lB 0 (List.length cB) 4 (List.length cB), rfl, Int.le_trans eP (Int.le_add_one (Int.le_refl _)), bS eP gG, rfl, (show gF + 6 ≤ eO + 9 by omega), ?_, ?_, ?_, ?_, ?_, jN, kL, kM, eV, iG, eY, ?_, Or.inl ⟨lB, qq, rfl, (by first | omega | (simp only [nm, seval]; done) | (simp only [nm, seval]; omega)), (by first | omega | (intro hh; simp only [eJ, reduceCtorEq] at hh)), (by first | omega | (intro hh; simp only [eJ, reduceCtorEq] at hh)), (by first | omega | (intro hh; simp only [eJ, reduceCtorEq] at hh)), (by first | omega | (intro hh; simp only [eJ, reduceCtorEq] at hh)), (by first | omega | (intro hh; simp only [eJ, reduceCtorEq] at hh)), ?_⟩, (by first | exact h | (simp only [eJ, du]; exact h))⟩ <;> first | (simp only [ua, cL, eJ, jN, kL, kM, eV, eY, fE, iG, lC, lW, du, nm, seval] <;> rfl) | rfl⟩
  ·cases jV with
   | nil =>
    have gi : (decide (ak < (List.length ag.Words : Int))) = false := fj eP gG
    simp only [qS, hs, reduceCtorEq] at h
    replace h := Bt _ h
    try dsimp only at h
    try simp only [hs] at h
    try simp only [vz, mq, mqm, tyf, mqt, lV, ji, jj, mB, oR, eQ, bT, bC, bG, bE, cm, bP, cw, nX, nY, nZ, fb, oa, gi, nm, seval]
    refine d4 (x := (.agg ((cGLs ag) ++ (cGLx aA) ++ [.lit (.int .i64 gb)] ++ [.mp 6] ++ [.lit (.slice none 0 0)]))) (by first | (simp only [Tryz.results71, resV, resL, aJ, dU, dT, uw, cr, tyf, mqt, lV, ji, jj, mB, oR, eQ, bT, bC, bG, bE, cm, bP, cw, nX, nY, nZ, fb, oa, gi, nm, seval] <;> rfl) | rfl) ?_
    obtain rfl := kF _ h
    refine dW ?_ ?_
    ·simp only [tre, aw, mqr, Bool.and_self]
    ·first | (simp only [outV, uw, fu, mA, lU, cr, tyf, mqt, nrm, ar, lV, ji, jj, mB, oR, eQ, bT, bC, bG, bE, cm, bP, cw, nX, nY, nZ, fb, oa, gi, nm, seval] <;> rfl) | rfl
   | cons bQ jV =>
    have gy : (decide (ak < (List.length ag.Words : Int))) = true := fk eP gG
    have fc := eg eP gG
    have vr := fm eP gG mB
    simp only [qS, hs, reduceCtorEq] at h
    obtain ⟨B1, Od, h⟩ := optI h nW
    try simp only [hs] at h
    simp only [vz, mq, mqm, tyf, mqt, lV, ji, jj, mB, oR, eQ, bT, bC, bG, bE, cm, bP, cw, nX, nY, nZ, fb, oa, gy, (aE fc), vr, nm, seval]
    refine ktree (args0 := [.sl (aa eI aA.Out) (List.length aA.Out) false, .lit (.int .i64 ak)]) (by first | (simp only [nrm, ar, mqr] <;> rfl) | rfl) (by simp only [tre, aw, mqr, Bool.and_self]) (Dt _ _ _ Od) ?_
    refine bt (fun tm => tm 3 = .ptr 0 0 ∧ tm 4 = .ptr 1 0 ∧ tm 6 = .ptr 2 0 ∧ tm 7 = .ptr 8 0 ∧ tm 10 = .lit (.int .i64 fa) ∧ tm 11 = .lit (.int .i64 ak) ∧ tm 40 = .lit (.int .i64 (List.length ag.Words : Int)) ∧ tm 41 = .lit (.int .i64 ak) ∧ tm 47 = .lit (.bool B1) ∧ True) (by refine ⟨bT, bC, bG, bE, bP, ?_, cm, cw, ?_, trivial⟩ <;> first | (simp only [ua, cL, ji, jj, oR, eQ, bT, bC, bG, bE, cm, bP, cw, nX, nY, nZ, fb, oa, gy, vr, nm, seval] <;> rfl) | rfl) ?_
    rintro tm ⟨iT, iU, iV, iW, iX, jB, ot, qu, su, _⟩
    have eR := And.intro lV (And.intro ji (And.intro jj (And.intro mB (And.intro oR (And.intro eQ (And.intro nX (And.intro nY (And.intro nZ (And.intro fb (And.intro oa (And.intro gy vr)))))))))))
    cases dD : (B1)
    ·simp only [dD, hs] at h
     cases jr : (lenOk bQ.Signs)
     ·simp only [jr, hs] at h
      exact absurd h nW
     simp only [jr, hs] at h
     simp only [vz, mq, mqm, tyf, mqt, eR, (aE fc), iT, iU, iV, iW, iX, jB, ot, qu, su, dD, jr, nm, seval]
     obtain ⟨Oe, h, S0, tC, S1, jW⟩ := gu h nW
     obtain ⟨Of, B2, h⟩ := call4 h
     obtain ⟨Og, jX⟩ : ∃ I : Nat → St → Prop, I = (fun m st => ∃ (fW : List Int) (bd : Int) (aY : Int) (bp : List Glm) (kl : VV), m = List.length fW ∧ 0 ≤ bd ∧ List.drop (Int.toNat bd) bQ.Signs = fW ∧ st.df = [] ∧ eO + 23 ≤ st.nx ∧ st.H 0 = some (.cells (some 28) (cGLs ag)) ∧ st.H 1 = some (.cells (some 31) (cGLx aA)) ∧ st.H 2 = some (.cells (some 93) ([.lit (.slice none 0 0)] ++ [.lit (.slice none 0 0)] ++ [.lit (.int .i64 0)] ++ [.lit (.int .i64 0)] ++ [.lit (.int .i64 0)] ++ [.lit (.int .i64 0)] ++ [.lit (.int .i64 0)] ++ [.lit (.slice none 0 0)] ++ [.lit (.int .i64 0)] ++ [.lit (.int .i64 0)] ++ [.lit (.slice none 0 0)] ++ [.lit (.slice none 0 0)] ++ [.lit (.int .i64 0)] ++ [.lit (.map none)] ++ [.lit (.slice none 0 0)])) ∧ st.H 6 = some (.map (encM cP fh fB)) ∧ st.H 8 = some (.cells (some 93) ((cGLs ag) ++ (cGLx aA) ++ [.lit (.int .i64 gb)] ++ [.mp 6] ++ [kl])) ∧ st.tm 3 = .ptr 0 0 ∧ st.tm 4 = .ptr 1 0 ∧ st.tm 6 = .ptr 2 0 ∧ st.tm 7 = .ptr 8 0 ∧ st.tm 11 = .lit (.int .i64 ak) ∧ st.tm 12 = .lit (.int .i64 (List.length bQ.Signs : Int)) ∧ st.tm 40 = .lit (.int .i64 (List.length ag.Words : Int)) ∧ st.tm 41 = .lit (.int .i64 ak) ∧ st.tm 60 = .sl (aa eI bQ.Signs) (List.length bQ.Signs) false ∧ st.tm 61 = .lit (.int .i64 (List.length bQ.Signs : Int)) ∧ st.tm 10 = .lit (.int .i64 aY) ∧ st.tm 62 = .lit (.int .i64 bd) ∧ ((∃ (β : Nat) (el : Option TypeId), kl = .ref β 0 (List.length bp) 4 (List.length bp) ∧ β < st.nx ∧ β ≠ 0 ∧ β ≠ 1 ∧ β ≠ 2 ∧ β ≠ 6 ∧ β ≠ 8 ∧ st.H β = some (.cells el (aa cGlm bp))) ∨ (kl = .lit (.slice none 0 0) ∧ bp = [])) ∧ Oe (Of fW bd aY bp)) := ⟨_, rfl⟩
     refine loopK mixed (by kernel_rfl) Og (List.length bQ.Signs) (by rw [jX]; refine ⟨bQ.Signs, 0, fa, ([] : List Glm), .lit (.slice none 0 0), rfl, Int.le_refl _, rfl, rfl, (show eO + 23 ≤ eO + 23 by omega), ?_, ?_, ?_, ?_, ?_, iT, iU, iV, iW, jB, ?_, ot, qu, ?_, ?_, iX, ?_, Or.inr ⟨rfl, rfl⟩, h⟩ <;> first | (simp only [ua, cL, eR, iT, iU, iV, iW, iX, jB, ot, qu, su, dD, nm, seval] <;> rfl) | rfl) ?_
     rintro m ⟨tm, H, dq, df⟩ hinv
     rw [jX] at hinv
     obtain ⟨fW, bd, aY, bp, kl, rfl, dA, ff, hdf, B3, km, kn, ko, kq, ku, cC, cD, cE, cF, cS, cT, cG, cU, cV, cW, cX, dQ, nj, h⟩ := hinv
     simp only at hdf B3 km kn ko kq ku cC cD cE cF cS cT cG cU cV cW cX dQ nj
     have hU := gv (m := 14) (b := dq) (by omega)
     have hX := rH (a := gF) (m := 6) (b := dq) (by omega)
     have hY := rH (a := eO) (m := 23) (b := dq) (by omega)
     subst hdf B2
     rcases nj with ⟨qv, gH, rfl, B4, B5, B6, B7, B8, B9, sv⟩ | ⟨rfl, rfl⟩
     ·have ky := ub B4
      have kz := ne_f B5
      have k6 := ne_f B6
      have k7 := ne_f B7
      have k8 := ne_f B8
      have k9 := ne_f B9
      cases fW with
      | nil =>
       have vt : (decide (bd < (List.length bQ.Signs : Int))) = false := fj dA ff
       simp only [nd, hs, reduceCtorEq] at h
       replace h := tC _ h
       try dsimp only at h
       try simp only [hs] at h
       simp only [vz, mq, mqm, tyf, mqt, eR, (aE fc), dD, jr, hU, hX, hY, cC, cD, cE, cF, cS, cT, cG, cU, cV, cW, cX, dQ, km, kn, ko, kq, ku, ky, sv, kz, k6, k7, k8, k9, vt, nm, seval]
       exact ⟨List.length jV, Nat.lt_succ_self _, by rw [lA]; refine ⟨jV, ak + 1, aY, bp, .ref qv 0 (List.length bp) 4 (List.length bp), rfl, Int.le_trans eP (Int.le_add_one (Int.le_refl _)), bS eP gG, rfl, (show gF + 6 ≤ dq + 3 by omega), ?_, ?_, ?_, ?_, ?_, cC, cD, cE, cF, cG, cX, ?_, Or.inl ⟨qv, gH, rfl, (by first | omega | (simp only [nm, seval]; done) | (simp only [nm, seval]; omega)), (by first | omega | (intro hh; simp only [eR, hU, hX, hY, ky, kz, k6, k7, k8, k9, reduceCtorEq] at hh)), (by first | omega | (intro hh; simp only [eR, hU, hX, hY, ky, kz, k6, k7, k8, k9, reduceCtorEq] at hh)), (by first | omega | (intro hh; simp only [eR, hU, hX, hY, ky, kz, k6, k7, k8, k9, reduceCtorEq] at hh)), (by first | omega | (intro hh; simp only [eR, hU, hX, hY, ky, kz, k6, k7, k8, k9, reduceCtorEq] at hh)), (by first | omega | (intro hh; simp only [eR, hU, hX, hY, ky, kz, k6, k7, k8, k9, reduceCtorEq] at hh)), ?_⟩, (by first | exact h | (simp only [eR, dD, vt]; exact h))⟩ <;> first | (simp only [ua, cL, eR, dD, hU, hX, hY, cC, cD, cE, cF, cS, cT, cG, cU, cV, cW, cX, dQ, km, kn, ko, kq, ku, ky, sv, kz, k6, k7, k8, k9, vt, nm, seval] <;> rfl) | rfl⟩
      | cons eu fW =>
       have BA : (decide (bd < (List.length bQ.Signs : Int))) = true := fk dA ff
       have lF := eg dA ff
       have BB := fm dA ff jr
       simp only [nd, hs, reduceCtorEq] at h
       obtain ⟨BC, lG, h⟩ := optI h jW
       try simp only [hs] at h
       cases sw : (BC.Word == ak && (BC.Letters == (bd + 1)))
       ·simp only [sw, hs] at h
        have hZ := And.intro eR (And.intro dD (And.intro jr (And.intro hU (And.intro hX (And.intro hY (And.intro km (And.intro kn (And.intro ko (And.intro kq (And.intro ku (And.intro ky (And.intro sv (And.intro kz (And.intro k6 (And.intro k7 (And.intro k8 (And.intro k9 (And.intro BA (And.intro BB sw)))))))))))))))))))
        cases mF : (aB 32 (List.length (bp ++ [(Glm.mk ak eu aY false)])))
        ·simp only [mF, hs] at h
         exact absurd h jW
        simp only [mF, hs] at h
        simp only [vz, mq, mqm, tyf, mqt, hZ, (aE fc), cC, cD, cE, cF, cS, cT, cG, cU, cV, cW, cX, dQ, (aD lF), (aG lG), mF, nm, seval]
        refine k_app (w := 4) (enc := cGlm) (xs := bp) (ys := ([(Glm.mk ak eu aY false)])) (el := gH) (fZ := (some 144)) (fun _ => rfl) lj lh Tryz.underlying91 (by first | rfl | assumption | (simp only [br, bW, gX, hZ, nm, seval] <;> rfl) | (simp only [br, bW, fX, fJ, fT, fU, tyf, mqt, hZ, (aE fc), cC, cD, cE, cF, cS, cT, cG, cU, cV, cW, cX, dQ, (aD lF), (aG lG), mF, nm, seval]; done)) (by first | rfl | assumption | (simp only [br, bW, gX, hZ, nm, seval] <;> rfl) | (simp only [br, bW, fX, fJ, fT, fU, tyf, mqt, hZ, (aE fc), cC, cD, cE, cF, cS, cT, cG, cU, cV, cW, cX, dQ, (aD lF), (aG lG), mF, nm, seval]; done)) (Nat.zero_lt_succ _) mF ?_
        simp only [vz, mq, mqm, tyf, mqt, hZ, (aE fc), cC, cD, cE, cF, cS, cT, cG, cU, cV, cW, cX, dQ, (aD lF), (aG lG), mF, nm, seval]
        exact ⟨List.length fW, Nat.lt_succ_self _, by rw [jX]; refine ⟨fW, bd + 1, aY, (bp ++ [(Glm.mk ak eu aY false)]), .ref (dq + 31) 0 (List.length (bp ++ [(Glm.mk ak eu aY false)])) 4 (List.length (bp ++ [(Glm.mk ak eu aY false)])), rfl, Int.le_trans dA (Int.le_add_one (Int.le_refl _)), bS dA ff, rfl, (show eO + 23 ≤ dq + 37 by omega), ?_, ?_, ?_, ?_, ?_, cC, cD, cE, cF, cS, cT, cG, cU, cV, cW, cX, ?_, Or.inl ⟨dq + 31, (sameEl gH 144), rfl, (by first | omega | (simp only [nm, seval]; done) | (simp only [nm, seval]; omega)), (by first | omega | (intro hh; simp only [hZ, reduceCtorEq] at hh)), (by first | omega | (intro hh; simp only [hZ, reduceCtorEq] at hh)), (by first | omega | (intro hh; simp only [hZ, reduceCtorEq] at hh)), (by first | omega | (intro hh; simp only [hZ, reduceCtorEq] at hh)), (by first | omega | (intro hh; simp only [hZ, reduceCtorEq] at hh)), ?_⟩, (by first | exact h | (simp only [hZ]; exact h))⟩ <;> first | (simp only [ua, cL, hZ, cC, cD, cE, cF, cS, cT, cG, cU, cV, cW, cX, dQ, nm, seval] <;> rfl) | rfl⟩
       simp only [sw, hs] at h
       have ia := And.intro eR (And.intro dD (And.intro jr (And.intro hU (And.intro hX (And.intro hY (And.intro km (And.intro kn (And.intro ko (And.intro kq (And.intro ku (And.intro ky (And.intro sv (And.intro kz (And.intro k6 (And.intro k7 (And.intro k8 (And.intro k9 (And.intro BA (And.intro BB sw)))))))))))))))))))
       cases mG : (aB 32 (List.length (bp ++ [(Glm.mk ak eu aY (decide ((bd + 1) < (List.length bQ.Signs : Int))))])))
       ·simp only [mG, hs] at h
        exact absurd h jW
       simp only [mG, hs] at h
       simp only [vz, mq, mqm, tyf, mqt, ia, (aE fc), cC, cD, cE, cF, cS, cT, cG, cU, cV, cW, cX, dQ, (aD lF), (aG lG), mG, nm, seval]
       refine k_app (w := 4) (enc := cGlm) (xs := bp) (ys := ([(Glm.mk ak eu aY (decide ((bd + 1) < (List.length bQ.Signs : Int))))])) (el := gH) (fZ := (some 144)) (fun _ => rfl) lj lh Tryz.underlying91 (by first | rfl | assumption | (simp only [br, bW, gX, ia, nm, seval] <;> rfl) | (simp only [br, bW, fX, fJ, fT, fU, tyf, mqt, ia, (aE fc), cC, cD, cE, cF, cS, cT, cG, cU, cV, cW, cX, dQ, (aD lF), (aG lG), mG, nm, seval]; done)) (by first | rfl | assumption | (simp only [br, bW, gX, ia, nm, seval] <;> rfl) | (simp only [br, bW, fX, fJ, fT, fU, tyf, mqt, ia, (aE fc), cC, cD, cE, cF, cS, cT, cG, cU, cV, cW, cX, dQ, (aD lF), (aG lG), mG, nm, seval]; done)) (Nat.zero_lt_succ _) mG ?_
       simp only [vz, mq, mqm, tyf, mqt, ia, (aE fc), cC, cD, cE, cF, cS, cT, cG, cU, cV, cW, cX, dQ, (aD lF), (aG lG), mG, nm, seval]
       exact ⟨List.length fW, Nat.lt_succ_self _, by rw [jX]; refine ⟨fW, bd + 1, i64.wrap (aY + 1), (bp ++ [(Glm.mk ak eu aY (decide ((bd + 1) < (List.length bQ.Signs : Int))))]), .ref (dq + 31) 0 (List.length (bp ++ [(Glm.mk ak eu aY (decide ((bd + 1) < (List.length bQ.Signs : Int))))])) 4 (List.length (bp ++ [(Glm.mk ak eu aY (decide ((bd + 1) < (List.length bQ.Signs : Int))))])), rfl, Int.le_trans dA (Int.le_add_one (Int.le_refl _)), bS dA ff, rfl, (show eO + 23 ≤ dq + 40 by omega), ?_, ?_, ?_, ?_, ?_, cC, cD, cE, cF, cS, cT, cG, cU, cV, cW, ?_, ?_, Or.inl ⟨dq + 31, (sameEl gH 144), rfl, (by first | omega | (simp only [nm, seval]; done) | (simp only [nm, seval]; omega)), (by first | omega | (intro hh; simp only [ia, reduceCtorEq] at hh)), (by first | omega | (intro hh; simp only [ia, reduceCtorEq] at hh)), (by first | omega | (intro hh; simp only [ia, reduceCtorEq] at hh)), (by first | omega | (intro hh; simp only [ia, reduceCtorEq] at hh)), (by first | omega | (intro hh; simp only [ia, reduceCtorEq] at hh)), ?_⟩, (by first | exact h | (simp only [ia]; exact h))⟩ <;> first | (simp only [ua, cL, ia, cC, cD, cE, cF, cS, cT, cG, cU, cV, cW, cX, dQ, nm, seval] <;> rfl) | rfl⟩
     ·cases fW with
      | nil =>
       have vu : (decide (bd < (List.length bQ.Signs : Int))) = false := fj dA ff
       simp only [nd, hs, reduceCtorEq] at h
       replace h := tC _ h
       try dsimp only at h
       try simp only [hs] at h
       simp only [vz, mq, mqm, tyf, mqt, eR, (aE fc), dD, jr, hU, hX, hY, cC, cD, cE, cF, cS, cT, cG, cU, cV, cW, cX, dQ, km, kn, ko, kq, ku, vu, nm, seval]
       exact ⟨List.length jV, Nat.lt_succ_self _, by rw [lA]; refine ⟨jV, ak + 1, aY, ([] : List Glm), .lit (.slice none 0 0), rfl, Int.le_trans eP (Int.le_add_one (Int.le_refl _)), bS eP gG, rfl, (show gF + 6 ≤ dq + 3 by omega), ?_, ?_, ?_, ?_, ?_, cC, cD, cE, cF, cG, cX, ?_, Or.inr ⟨rfl, rfl⟩, (by first | exact h | (simp only [eR, dD, vu]; exact h))⟩ <;> first | (simp only [ua, cL, eR, dD, hU, hX, hY, cC, cD, cE, cF, cS, cT, cG, cU, cV, cW, cX, dQ, km, kn, ko, kq, ku, vu, nm, seval] <;> rfl) | rfl⟩
      | cons eu fW =>
       have BD : (decide (bd < (List.length bQ.Signs : Int))) = true := fk dA ff
       have ov := eg dA ff
       have BE := fm dA ff jr
       simp only [nd, hs, reduceCtorEq] at h
       obtain ⟨BF, ow, h⟩ := optI h jW
       try simp only [hs] at h
       cases sx : (BF.Word == ak && (BF.Letters == (bd + 1)))
       ·simp only [sx, hs] at h
        have js := And.intro eR (And.intro dD (And.intro jr (And.intro hU (And.intro hX (And.intro hY (And.intro km (And.intro kn (And.intro ko (And.intro kq (And.intro ku (And.intro BD (And.intro BE sx))))))))))))
        cases oy : (aB 32 (List.length (([] : List Glm) ++ [(Glm.mk ak eu aY false)])))
        ·simp only [oy, hs] at h
         exact absurd h jW
        simp only [oy, hs] at h
        simp only [vz, mq, mqm, tyf, mqt, js, (aE fc), cC, cD, cE, cF, cS, cT, cG, cU, cV, cW, cX, dQ, (aD ov), (aG ow), oy, nm, seval]
        refine oM (w := 4) (enc := cGlm) (ys := ([(Glm.mk ak eu aY false)])) (fZ := (some 144)) (fun _ => rfl) lj lh Tryz.underlying91 (by first | rfl | assumption | (simp only [br, bW, gX, js, nm, seval] <;> rfl) | (simp only [br, bW, fX, fJ, fT, fU, tyf, mqt, js, (aE fc), cC, cD, cE, cF, cS, cT, cG, cU, cV, cW, cX, dQ, (aD ov), (aG ow), oy, nm, seval]; done)) (Nat.zero_lt_succ _) oy ?_
        simp only [vz, mq, mqm, tyf, mqt, js, (aE fc), cC, cD, cE, cF, cS, cT, cG, cU, cV, cW, cX, dQ, (aD ov), (aG ow), oy, nm, seval]
        exact ⟨List.length fW, Nat.lt_succ_self _, by rw [jX]; refine ⟨fW, bd + 1, aY, (([] : List Glm) ++ [(Glm.mk ak eu aY false)]), .ref (dq + 31) 0 (List.length (([] : List Glm) ++ [(Glm.mk ak eu aY false)])) 4 (List.length (([] : List Glm) ++ [(Glm.mk ak eu aY false)])), rfl, Int.le_trans dA (Int.le_add_one (Int.le_refl _)), bS dA ff, rfl, (show eO + 23 ≤ dq + 37 by omega), ?_, ?_, ?_, ?_, ?_, cC, cD, cE, cF, cS, cT, cG, cU, cV, cW, cX, ?_, Or.inl ⟨dq + 31, (some 144), rfl, (by first | omega | (simp only [nm, seval]; done) | (simp only [nm, seval]; omega)), (by first | omega | (intro hh; simp only [js, reduceCtorEq] at hh)), (by first | omega | (intro hh; simp only [js, reduceCtorEq] at hh)), (by first | omega | (intro hh; simp only [js, reduceCtorEq] at hh)), (by first | omega | (intro hh; simp only [js, reduceCtorEq] at hh)), (by first | omega | (intro hh; simp only [js, reduceCtorEq] at hh)), ?_⟩, (by first | exact h | (simp only [js]; exact h))⟩ <;> first | (simp only [ua, cL, js, cC, cD, cE, cF, cS, cT, cG, cU, cV, cW, cX, dQ, nm, seval] <;> rfl) | rfl⟩
       simp only [sx, hs] at h
       have jt := And.intro eR (And.intro dD (And.intro jr (And.intro hU (And.intro hX (And.intro hY (And.intro km (And.intro kn (And.intro ko (And.intro kq (And.intro ku (And.intro BD (And.intro BE sx))))))))))))
       cases oz : (aB 32 (List.length (([] : List Glm) ++ [(Glm.mk ak eu aY (decide ((bd + 1) < (List.length bQ.Signs : Int))))])))
       ·simp only [oz, hs] at h
        exact absurd h jW
       simp only [oz, hs] at h
       simp only [vz, mq, mqm, tyf, mqt, jt, (aE fc), cC, cD, cE, cF, cS, cT, cG, cU, cV, cW, cX, dQ, (aD ov), (aG ow), oz, nm, seval]
       refine oM (w := 4) (enc := cGlm) (ys := ([(Glm.mk ak eu aY (decide ((bd + 1) < (List.length bQ.Signs : Int))))])) (fZ := (some 144)) (fun _ => rfl) lj lh Tryz.underlying91 (by first | rfl | assumption | (simp only [br, bW, gX, jt, nm, seval] <;> rfl) | (simp only [br, bW, fX, fJ, fT, fU, tyf, mqt, jt, (aE fc), cC, cD, cE, cF, cS, cT, cG, cU, cV, cW, cX, dQ, (aD ov), (aG ow), oz, nm, seval]; done)) (Nat.zero_lt_succ _) oz ?_
       simp only [vz, mq, mqm, tyf, mqt, jt, (aE fc), cC, cD, cE, cF, cS, cT, cG, cU, cV, cW, cX, dQ, (aD ov), (aG ow), oz, nm, seval]
       exact ⟨List.length fW, Nat.lt_succ_self _, by rw [jX]; refine ⟨fW, bd + 1, i64.wrap (aY + 1), (([] : List Glm) ++ [(Glm.mk ak eu aY (decide ((bd + 1) < (List.length bQ.Signs : Int))))]), .ref (dq + 31) 0 (List.length (([] : List Glm) ++ [(Glm.mk ak eu aY (decide ((bd + 1) < (List.length bQ.Signs : Int))))])) 4 (List.length (([] : List Glm) ++ [(Glm.mk ak eu aY (decide ((bd + 1) < (List.length bQ.Signs : Int))))])), rfl, Int.le_trans dA (Int.le_add_one (Int.le_refl _)), bS dA ff, rfl, (show eO + 23 ≤ dq + 40 by omega), ?_, ?_, ?_, ?_, ?_, cC, cD, cE, cF, cS, cT, cG, cU, cV, cW, ?_, ?_, Or.inl ⟨dq + 31, (some 144), rfl, (by first | omega | (simp only [nm, seval]; done) | (simp only [nm, seval]; omega)), (by first | omega | (intro hh; simp only [jt, reduceCtorEq] at hh)), (by first | omega | (intro hh; simp only [jt, reduceCtorEq] at hh)), (by first | omega | (intro hh; simp only [jt, reduceCtorEq] at hh)), (by first | omega | (intro hh; simp only [jt, reduceCtorEq] at hh)), (by first | omega | (intro hh; simp only [jt, reduceCtorEq] at hh)), ?_⟩, (by first | exact h | (simp only [jt]; exact h))⟩ <;> first | (simp only [ua, cL, jt, cC, cD, cE, cF, cS, cT, cG, cU, cV, cW, cX, dQ, nm, seval] <;> rfl) | rfl⟩
    simp only [dD, hs] at h
    simp only [vz, mq, mqm, tyf, mqt, eR, (aE fc), iT, iU, iV, iW, iX, jB, ot, qu, su, dD, nm, seval]
    exact ⟨List.length jV, Nat.lt_succ_self _, by rw [lA]; refine ⟨jV, ak + 1, fa, ([] : List Glm), .lit (.slice none 0 0), rfl, Int.le_trans eP (Int.le_add_one (Int.le_refl _)), bS eP gG, rfl, (show gF + 6 ≤ eO + 9 by omega), ?_, ?_, ?_, ?_, ?_, iT, iU, iV, iW, ot, iX, ?_, Or.inr ⟨rfl, rfl⟩, (by first | exact h | (simp only [eR, dD]; exact h))⟩ <;> first | (simp only [ua, cL, eR, iT, iU, iV, iW, iX, jB, ot, qu, su, dD, nm, seval] <;> rfl) | rfl⟩
 | cons ca tA =>
  have vv : (decide (fA < (List.length ag.Pairs : Int))) = true := fk nU qo
  have Oh := eg nU qo
  have BG := fm nU qo lV
  simp only [xw, hs, reduceCtorEq] at h
  have vw := fun H => NG (β := 6) fB (Glp.mk ca.Left ca.Right) ca.Space H
  try simp only [cL] at vw
  simp only [vz, mq, mqm, tyf, mqt, lV, ji, dL, bX, dz, ej, eW, dI, ec, nV, mX, Br, Bs, nP, vv, (cn Oh), BG, vw, nm, seval]
  exact ⟨List.length tA, Nat.lt_succ_self _, by rw [vn]; refine ⟨tA, fA + 1, (mapSet dO fB (Glp.mk ca.Left ca.Right) ca.Space), rfl, Int.le_trans nU (Int.le_add_one (Int.le_refl _)), bS nU qo, rfl, (show 14 ≤ gF + 17 by omega), ?_, ?_, ?_, ?_, ?_, dL, bX, dz, ej, eW, dI, ?_, (by first | exact h | (simp only [vv]; exact h))⟩ <;> first | (simp only [ua, cL, ji, dL, bX, dz, ej, eW, dI, ec, nV, mX, Br, Bs, nP, vv, BG, vw, nm, seval] <;> rfl) | rfl⟩
end Go.V
end
section
namespace Go.V
open Go Go.Proofs IntKind
section
variable {K V : Type} {q : K → K → Bool} {z : V}
def getR (q : K → K → Bool) (z : V) (k : K) : List (K × V) → V
 | [] => z
 | e :: l => if q k e.1 then e.2 else getR q z k l
def setR (q : K → K → Bool) (k : K) (v : V) : List (K × V) → List (K × V)
 | [] => [(k, v)]
 | e :: l => if q k e.1 then (k, v) :: l else e :: setR q k v l
theorem Dv (k : K) : ∀ (es : List K) (i : Nat), kIdx q k es (i + 1) = (kIdx q k es i).map (· + 1)
 | [], _ => rfl
 | e :: es, i => by
  unfold kIdx
  cases q k e with
  | true => rfl
  | false => exact Dv k es (i + 1)
theorem Oi (k : K) : ∀ l : List (K × V), mapGet q z l k = getR q z k l
 | [] => rfl
 | e :: l => by
  have ih := Oi k l
  unfold mapGet at ih ⊢
  rw [List.map_cons]
  unfold kIdx getR
  cases hq : q k e.1 with
  | true => rfl
  | false =>
   simp only [cond_false, Bool.false_eq_true, if_false]
   rw [Dv]
   cases h : kIdx q k (l.map (·.1)) 0 with
   | none => rw [h] at ih; exact ih
   | some i => rw [h] at ih; simpa using ih
theorem Dw (k : K) (v : V) : ∀ l : List (K × V), mapSet q l k v = setR q k v l
 | [] => rfl
 | e :: l => by
  have ih := Dw k v l
  unfold mapSet at ih ⊢
  rw [List.map_cons]
  unfold kIdx setR
  cases hq : q k e.1 with
  | true => rfl
  | false =>
   simp only [cond_false, Bool.false_eq_true, if_false]
   rw [Dv]
   cases h : kIdx q k (l.map (·.1)) 0 with
   | none => rw [h] at ih; simpa using ih
   | some i => rw [h] at ih; simpa using ih
theorem S2 (hq : ∀ a b, q a b = true ↔ a = b) (k k' : K) (v : V) : ∀ l : List (K × V), getR q z k' (setR q k v l) = if q k' k then v else getR q z k' l
 | [] => rfl
 | e :: l => by
  have ih := S2 hq k k' v l
  unfold setR
  cases he : q k e.1 with
  | true =>
   have e1 := (hq _ _).1 he
   simp only [if_true, getR, ← e1]
   split <;> rfl
  | false =>
   simp only [Bool.false_eq_true, if_false, getR, ih]
   cases h1 : q k' e.1 with
   | true =>
    have e1 := (hq _ _).1 h1
    have : q k' k = false := by
     cases h2 : q k' k with
     | false => rfl
     | true =>
      have e2 := (hq _ _).1 h2
      rw [e2] at e1
      rw [e1, (hq _ _).2 rfl] at he
      cases he
    rw [this]
    simp
   | false => simp
theorem Oj (hq : ∀ a b, q a b = true ↔ a = b) (k k' : K) (v : V) (l : List (K × V)) : mapGet q z (mapSet q l k v) k' = if q k' k then v else mapGet q z l k' := by
 rw [Oi, Oi, Dw, S2 hq]
end
end Go.V
end
