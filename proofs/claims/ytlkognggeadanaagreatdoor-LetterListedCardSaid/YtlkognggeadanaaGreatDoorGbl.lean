/- Part of a proof. -/
import Derived.Test.YtlkognggeadanaaGreatDoorGbk
set_option linter.all false
set_option maxRecDepth 4000
set_option maxHeartbeats 40000000
section
namespace Go.V
open Go Go.Proofs IntKind
instance {a b : GLe} : Decidable (befE a b) := inferInstanceAs (Decidable (_ ∨ _))
theorem L5 (a b : GLe) : Bd a b = some (decide (befE a b)) := by
 unfold Bd befE
 by_cases h1 : a.Word < b.Word
 ·simp [h1]
 ·by_cases h2 : a.Word = b.Word
  ·simp [h1, h2]
  ·have : (a.Word == b.Word) = false := by simpa using h2
   simp [h1, h2, this]
def letB (s : GLs) (e : GLe) : Bool := match getI s.Words e.Word with
 | some w => (e.Letters == (w.Signs.length : Int)) || w.Cuts.contains e.Letters
 | none => false
def memB (s : GLs) (out : List Int) (e : GLe) : Bool := inB 0 ((s.Words.length : Int) - 1) e.Word && (!out.contains e.Word && letB s e)
theorem L6 {s : GLs} {out : List Int} {e : GLe} : memB s out e = true ↔ e ∈ possL out s.Words 0 := by
 rw [CB]
 unfold memB letB
 simp only [Bool.and_eq_true, rk, Bool.not_eq_true']
 constructor
 ·rintro ⟨h1, h2, h3⟩
  refine ⟨e.Word.toNat, ?_⟩
  have hk : (0 : Int) + (e.Word.toNat : Int) = e.Word := by omega
  rw [hk]
  split at h3
  ·rename_i w hw
   unfold getI at hw
   rw [if_pos h1.1] at hw
   refine ⟨w, hw, h2, wE.2 ⟨rfl, ?_⟩⟩
   simp only [Bool.or_eq_true, beq_iff_eq, List.contains_eq_mem, decide_eq_true_eq] at h3
   exact h3.symm
  ·cases h3
 ·rintro ⟨k, w, hk, h2, h3⟩
  obtain ⟨h3, h4⟩ := wE.1 h3
  have hlt : k < s.Words.length := by
   rcases Nat.lt_or_ge k s.Words.length with h | h
   ·exact h
   ·rw [List.getElem?_eq_none h] at hk; cases hk
  rw [← h3] at h2
  refine ⟨by omega, h2, ?_⟩
  have hg : getI s.Words e.Word = some w := by
   unfold getI
   rw [if_pos (by omega), show e.Word.toNat = k by omega]
   exact hk
  simp only [hg, Bool.or_eq_true, beq_iff_eq, List.contains_eq_mem, decide_eq_true_eq]
  exact h4.symm
def stgG (s : GLs) (out : List Int) : Option GLe → List GLe → Bool
 | _, [] => true
 | none, e :: p => memB s out e && stgG s out (some e) p
 | some q, e :: p => memB s out e && (decide (befE q e) && stgG s out (some e) p)
theorem Sr (s : GLs) (out : List Int) : ∀ (p : List GLe) (q : GLe), stgG s out (some q) p = true ↔ (q :: p).Pairwise befE ∧ ∀ e ∈ p, memB s out e = true
 | [], q => by simp [stgG]
 | e :: p, q => by
  have ih := Sr s out p e
  simp only [stgG, Bool.and_eq_true, ih, decide_eq_true_eq]
  constructor
  ·rintro ⟨h1, h2, h3, h4⟩
   refine ⟨List.pairwise_cons.2 ⟨fun x hx => ?_, h3⟩, fun x hx => ?_⟩
   ·rcases List.mem_cons.1 hx with rfl | hx
    ·exact h2
    ·exact BY h2 ((List.pairwise_cons.1 h3).1 x hx)
   ·rcases List.mem_cons.1 hx with rfl | hx
    ·exact h1
    ·exact h4 x hx
  ·rintro ⟨h1, h2⟩
   rw [List.pairwise_cons] at h1
   exact ⟨h2 e (qZb ..), h1.1 e (qZb ..), h1.2, fun x hx => h2 x (qZa _ hx)⟩
theorem Bm (s : GLs) (out : List Int) : ∀ (p : List GLe), stgG s out none p = true ↔ p.Pairwise befE ∧ ∀ e ∈ p, e ∈ possL out s.Words 0
 | [] => by simp [stgG]
 | e :: p => by
  simp only [stgG, Bool.and_eq_true, Sr, L6]
  constructor
  ·rintro ⟨h1, h2, h3⟩
   refine ⟨h2, fun x hx => ?_⟩
   rcases List.mem_cons.1 hx with rfl | hx
   ·exact h1
   ·exact h3 x hx
  ·rintro ⟨h1, h2⟩
   exact ⟨h2 e (qZb ..), h1, fun x hx => h2 x (qZa _ hx)⟩
theorem Bn {s : GLs} (h : Sh s) (x : GLx) (ho : lenOk x.Out = true) (hl : lenOk x.Ends = true) : ∀ (p : List GLe) (q : GLe) (i : Int), 1 ≤ i → x.Ends.drop (i - 1).toNat = q :: p → pW s x p i = goB (stgG s x.Out (some q) p)
 | [], _, _, _, _ => rfl
 | e :: p, q, i, h0, hd => by
  have hb := uu hl
  have hle := wC hd
  simp only [List.length_cons] at hle
  have hi : i < 9223372036854775808 := by
   rcases hle with hle | hle
   ·omega
   ·cases hle
  have hn : x.Ends.drop (i + 1 - 1).toNat = e :: p := by
   have := bW (i := i - 1) (by omega) hd
   rwa [show i - 1 + 1 = i + 1 - 1 by omega] at this
  have hp : decide (i > 0) = true := by simp; omega
  have hw := h.nw
  simp only [pW, in_eq, Option.bind_some]
  rw [ka (by omega) (by omega)]
  simp only [stgG, memB]
  cases hin : inB 0 ((s.Words.length : Int) - 1) e.Word with
  | false => simp only [cond_false, Bool.false_and]; rfl
  | true =>
   obtain ⟨w, hw', hwm⟩ := zp hin
   have hc := (h.wcut w hwm).2.2
   simp only [cond_true, zn _ _ ho, Option.bind_some, hp, wD h0 hi hd, L5, hw', zn w.Cuts _ (ny (by omega)), Bn h x ho hl p e (i + 1) (by omega) hn, letB, Bool.true_and]
   cases x.Out.contains e.Word with
   | true => rfl
   | false =>
    simp only [cond_false, Bool.not_false, Bool.true_and, bne]
    cases decide (befE q e) <;> cases (e.Letters == (w.Signs.length : Int)) <;> cases w.Cuts.contains e.Letters <;> simp <;> rfl
theorem L7 {s : GLs} (h : Sh s) (x : GLx) (ho : lenOk x.Out = true) (hl : lenOk x.Ends = true) : pW s x x.Ends 0 = goB (stgG s x.Out none x.Ends) := by
 generalize hx : x.Ends = es
 cases es with
 | nil => rfl
 | cons e p =>
  have ih := Bn h x ho hl p e (0 + 1) (by omega) (by rw [hx]; rfl)
  have hw := h.nw
  simp only [pW, in_eq, Option.bind_some]
  rw [ka (by omega) (by omega)]
  simp only [stgG, memB]
  cases hin : inB 0 ((s.Words.length : Int) - 1) e.Word with
  | false => simp only [cond_false, Bool.false_and]; rfl
  | true =>
   obtain ⟨w, hw', hwm⟩ := zp hin
   have hc := (h.wcut w hwm).2.2
   simp only [cond_true, zn _ _ ho, Option.bind_some, show decide ((0 : Int) > 0) = false from rfl, cond_false, hw', zn w.Cuts _ (ny (by omega)), ih, letB, Bool.true_and]
   cases x.Out.contains e.Word with
   | true => rfl
   | false =>
    simp only [cond_false, Bool.not_false, Bool.true_and, bne]
    cases (e.Letters == (w.Signs.length : Int)) <;> cases w.Cuts.contains e.Letters <;> simp <;> rfl
theorem Bo {hi : Int} : ∀ (p : List Int) (q : Int), incr q p = true → (p.length : Int) < hi - q → ∃ j, q < j ∧ j ≤ hi ∧ j ∉ p
 | [], q, _, h => ⟨q + 1, by omega, by simp at h; omega, by simp⟩
 | e :: p, q, h1, h2 => by
  simp only [incr, Bool.and_eq_true, Bool.not_eq_true', decide_eq_false_iff_not] at h1
  simp only [List.length_cons] at h2
  by_cases he : e = q + 1
  ·obtain ⟨j, a, b, c⟩ := Bo (hi := hi) p e h1.2 (by omega)
   refine ⟨j, by omega, b, fun hm => ?_⟩
   rcases List.mem_cons.1 hm with hm | hm
   ·omega
   ·exact c hm
  ·refine ⟨q + 1, by omega, by omega, fun hm => ?_⟩
   have hpw := ux p e h1.2
   rcases List.mem_cons.1 hm with hm | hm
   ·omega
   ·have := (List.pairwise_cons.1 hpw).1 _ hm
    omega
theorem Bp {s : GLs} {out : List Int} (h : outB s out = true) : ∃ j : Nat, j < s.Words.length ∧ out.contains (j : Int) = false := by
 simp only [outB, Bool.and_eq_true, decide_eq_true_eq] at h
 obtain ⟨h1, ⟨h2, h2'⟩, _⟩ := h
 have : ∃ j, (-1 : Int) < j ∧ j ≤ (s.Words.length : Int) - 1 ∧ j ∉ out := by
  cases out with
  | nil => exact ⟨0, by omega, by simp at h1; omega, by simp⟩
  | cons e p =>
   simp only [List.length_cons] at h1
   refine Bo (e :: p) (-1) ?_ (by simp only [List.length_cons]; omega)
   simp only [List.all_cons, Bool.and_eq_true, rk] at h2'
   simp only [incrL] at h2
   simp only [incr, h2, Bool.and_true, Bool.not_eq_true', decide_eq_false_iff_not]
   omega
 obtain ⟨j, a, b, c⟩ := this
 exact ⟨j.toNat, by omega, by rw [show ((j.toNat : Nat) : Int) = j by omega]; simpa using c⟩
theorem L8 {α : Type} {xs : List α} {i : Nat} {x : α} (h : xs[i]? = some x) : getI xs (i : Int) = some x := by
 unfold getI
 simp [h]
theorem Bq {out : List Int} (hl : lenOk out = true) : ∀ (n f : Nat), n < f → n < 1000 → (∃ j : Nat, j ≤ n ∧ out.contains (j : Int) = false) → ∃ m : Nat, m ≤ n ∧ wP out f (n : Int) = some (.go (m : Int)) ∧ out.contains (m : Int) = false ∧ ∀ k : Nat, m < k → k ≤ n → out.contains (k : Int) = true
 | n, 0, h, _, _ => by omega
 | n, f + 1, h, hn, hj => by
  simp only [wP, zn _ _ hl, Option.bind_some]
  cases hc : out.contains (n : Int) with
  | false => exact ⟨n, qZg _, rfl, hc, fun k h1 h2 => by omega⟩
  | true =>
   simp only [cond_true]
   obtain ⟨j, h1, h2⟩ := hj
   have hne : j ≠ n := fun e => by rw [e, hc] at h2; cases h2
   cases n with
   | zero => omega
   | succ n =>
    obtain ⟨m, q1, q2, q3, q4⟩ := Bq hl n f (by omega) (by omega) ⟨j, by omega, h2⟩
    rw [ka (by omega) (by omega), show (((n + 1 : Nat) : Int) - 1) = (n : Int) by omega]
    refine ⟨m, by omega, q2, q3, fun k h3 h4 => ?_⟩
    by_cases hk : k = n + 1
    ·rw [hk]; exact hc
    ·exact q4 k h3 (by omega)
theorem Ss (out : List Int) : ∀ (ws : List GLw) (i : Int), (∀ k : Nat, k < ws.length → out.contains (i + k) = true) → possL out ws i = []
 | [], _, _ => rfl
 | w :: ws, i, h => by
  have h0 := h 0 (by simp)
  rw [Int.natCast_zero, Int.add_zero] at h0
  unfold possL
  rw [h0, cond_true]
  exact Ss out ws (i + 1) fun k hk => by
   have := h (k + 1) (by simp; omega)
   rwa [show i + ((k + 1 : Nat) : Int) = i + 1 + k by omega] at this
theorem Su (out : List Int) : ∀ (ws : List GLw) (i : Int) (m : Nat) (w : GLw), ws[m]? = some w → out.contains (i + m) = false → (∀ k : Nat, m < k → k < ws.length → out.contains (i + k) = true) → (possL out ws i).getLast? = some (GLe.mk (i + m) (w.Signs.length : Int))
 | [], _, m, w, h, _, _ => by simp at h
 | v :: ws, i, 0, w, h, h1, h2 => by
  simp only [List.getElem?_cons_zero, Option.some.injEq] at h
  subst h
  have hn := Ss out ws (i + 1) fun k hk => by
   have := h2 (k + 1) (by omega) (by simp; omega)
   rwa [show i + ((k + 1 : Nat) : Int) = i + 1 + k by omega] at this
  rw [Int.natCast_zero, Int.add_zero] at h1 ⊢
  unfold possL
  rw [h1, cond_false, hn, List.append_nil]
  simp [posW]
 | v :: ws, i, m + 1, w, h, h1, h2 => by
  have e1 : i + ((m + 1 : Nat) : Int) = i + 1 + m := by omega
  rw [e1] at h1 ⊢
  have ih := Su out ws (i + 1) m w (by simpa using h) h1 fun k h3 h4 => by
   have := h2 (k + 1) (by omega) (by simp; omega)
   rwa [show i + ((k + 1 : Nat) : Int) = i + 1 + k by omega] at this
  unfold possL
  cases out.contains i with
  | true => exact ih
  | false => rw [cond_false, List.getLast?_append, ih]; rfl
theorem xj {s : GLs} {out : List Int} (h : outB s out = true) : possL out s.Words 0 ≠ [] := by
 obtain ⟨j, h1, h2⟩ := Bp h
 intro hn
 have : GLe.mk (j : Int) (s.Words[j].Signs.length : Int) ∈ possL out s.Words 0 := by
  rw [CB]
  exact ⟨j, s.Words[j], qZi h1, by rw [Int.zero_add]; exact h2, wE.2 ⟨by simp, .inr rfl⟩⟩
 rw [hn] at this
 cases this
theorem D9 {s : GLs} (h : Sh s) (x : GLx) (ho : lenOk x.Out = true) (he : lenOk x.Ends = true) : Be s x = some (outB s x.Out && areE x.Ends (possL x.Out s.Words 0)) := by
 have hw := h.nw
 simp only [Be, Hi s _ ho (by omega), Option.bind_some]
 cases hob : outB s x.Out with
 | false => rfl
 | true =>
  simp only [cond_true, Bool.true_and]
  have hiff := xd x.Ends (possL x.Out s.Words 0) (qG h x.Out)
  have hpn := xj hob
  cases hx : x.Ends with
  | nil =>
   rw [hx] at hiff
   simp only [List.length_nil, Int.natCast_zero, beq_self_eq_true, cond_true]
   cases ha : areE [] (possL x.Out s.Words 0) with
   | false => rfl
   | true =>
    have := (hiff.1 ha).2.2
    rw [List.getLast?_nil] at this
    exact absurd (List.getLast?_eq_none_iff.1 this.symm) hpn
  | cons e p =>
   have hz : (((e :: p).length : Int) == 0) = false := by simp; omega
   rw [hz, cond_false, ← hx, he, cond_true, L7 h x ho he, sB]
   cases hg : stgG s x.Out none x.Ends with
   | false =>
    simp only [cond_false]
    cases ha : areE x.Ends (possL x.Out s.Words 0) with
    | false => rfl
    | true =>
     obtain ⟨h1, h2, _⟩ := hiff.1 ha
     rw [(Bm s x.Out x.Ends).2 ⟨h1, h2⟩] at hg
     cases hg
   | true =>
    simp only [cond_true]
    obtain ⟨h1, h2⟩ := (Bm s x.Out x.Ends).1 hg
    obtain ⟨j, rX, Wm⟩ := Bp hob
    obtain ⟨m, q1, q2, q3, q4⟩ := Bq ho (s.Words.length - 1) 1000000 (by omega) (by omega) ⟨j, by omega, Wm⟩
    have hm : m < s.Words.length := by omega
    have hwm : s.Words[m]? = some s.Words[m] := qZi hm
    have hlast := Su x.Out s.Words 0 m _ hwm (by rw [Int.zero_add]; exact q3) fun k h3 h4 => by rw [Int.zero_add]; exact q4 k h3 (by omega)
    rw [Int.zero_add] at hlast
    have hgw : getI s.Words (m : Int) = some s.Words[m] := L8 hwm
    have hel : x.Ends.length = p.length + 1 := by rw [hx]; rfl
    have hlE := uu he
    simp only [Dy]
    rw [ka (by omega) (by omega), show ((s.Words.length : Int) - 1) = ((s.Words.length - 1 : Nat) : Int) by omega, q2, oH, Option.bind_some, Ku (by omega) hlE]
    obtain ⟨y, hy⟩ : ∃ y, x.Ends.getLast? = some y := by
     rw [hx, List.getLast?_cons]; exact ⟨_, rfl⟩
    rw [hy, Option.bind_some, hgw, Option.bind_some]
    congr 1
    rw [wx y (GLe.mk (m : Int) (s.Words[m].Signs.length : Int))]
    cases ha : areE x.Ends (possL x.Out s.Words 0) with
    | true =>
     have := (hiff.1 ha).2.2
     rw [hy, hlast, Option.some.injEq] at this
     simpa using this
    | false =>
     rw [decide_eq_false_iff_not]
     intro hh
     rw [hiff.2 ⟨h1, h2, by rw [hy, hlast, hh]⟩] at ha
     cases ha
end Go.V
end
section
namespace Go.V
open Go Go.Proofs IntKind
section
variable {P : Program} {K V : Type} {q : K → K → Bool} {kv : K → Value} {ew : V → VV} {t kt et : TypeId} {H : Nat → Option VObj}
theorem Wn {fs : Array Field} {z : V} (hm : P.underlying t = some (.map kt et)) (hu : P.underlying kt = some (.struct fs)) (he : ∀ a b, av P (Op.equal kt (kv a) (kv b)) = some (q a b)) (hc : ∀ b k, av P (Instr.checkKey b 10000 kt (kv k)) = some ())
  (hz : ((P.info? et).bind (·.zero)).map ofVal2 = some (ew z)) {l : List (K × V)} {kx : VV} {k : K} (hk : kx.val? = some (kv k)) :
  vlookup P H t (.mt (mtK kv l) (mtV ew l)) kx true = some (.tup [ew (mapGet q z l k), .lit (.bool (mapHas q l k))]) := by
 have := Ui (H := fun _ => some (.map (encM kv ew l))) (β := 0) hm hu he hc hz hk rfl
 unfold vlookup at this ⊢
 rw [yp]
 exact this
end
end Go.V
end
section
namespace Go.V
open Go Go.Proofs IntKind
def dV (a b : Glp) : Bool := ((a.left == b.left) && ((a.right == b.right) && true))
theorem qa (a b : Glp) : av Tryz.prog (Op.equal 142 (cO a) (cO b)) = some (dV a b) := by
 unfold Op.equal
 exact L9 5 142 _ _ _ (by kernel_rfl) 9995
theorem qb (b : Bool) (k : Glp) : av Tryz.prog (Instr.checkKey b 10000 142 (cO k)) = some () := by
 cases b <;> kernel_rfl
theorem sC (a b : Glp) (h : dV a b = true) : a = b := by
 obtain ⟨aleft, aright⟩ := a
 obtain ⟨bleft, bright⟩ := b
 simp only [dV, Bool.and_true, Bool.and_eq_true, beq_iff_eq] at h
 simp only [h]
theorem uy (a : Glp) : dV a a = true := by simp [dV]
theorem Br (a : Glp) : Instr.sameBits 10000 (cO a) (cO a) = true := by
 simp [cO, Instr.sameBits]
theorem Bs : ((Tryz.prog.info? 25).bind (·.zero)).map ofVal2 = some (ff (GSpan.mk 0 0)) := by kernel_rfl
theorem Bt (k : Glp) : VV.val? (.agg [.lit (.int .i64 k.left), .lit (.int .i64 k.right)]) = some (cO k) := rfl
theorem LA {β : Nat} (l : List (Glp × GSpan)) (k : Glp) (n : GSpan) (H : Nat → Option VObj) (hb : H β = some (.map (encM cO ff l))) : vmapUpdate Tryz.prog H 90 (.mp β) (.agg [.lit (.int .i64 k.left), .lit (.int .i64 k.right)]) (.agg [.lit (.int .i64 n.Low), .lit (.int .i64 n.High)]) = some (.upd β (.map (encM cO ff (mapSet dV l k n)))) :=
 FI Tryz.underlying90 Tryz.underlying142 qa qb sC Br (Bt k) hb
theorem LC {c : VV} {cs : List VV} : aV Tryz.prog 90 (c :: cs) = some c := by
 have h1 : aggT Tryz.prog 90 = some false := by kernel_rfl
 simp [aV, vpart, h1]
theorem LF : szT Tryz.prog 90 = some 1 := by kernel_rfl
theorem Bu : vzl Tryz.prog 90 = some [.lit (.map none)] := by kernel_rfl
theorem Bv {l : List (Glp × GSpan)} {a_left a_right : Int} {H : Nat → Option VObj} : vlookup Tryz.prog H 90 (.mt (mtK cO l) (mtV ff l)) (.agg [.lit (.int .i64 a_left), .lit (.int .i64 a_right)]) false = some (.agg (cGSpan (mapGet dV (GSpan.mk 0 0) l (Glp.mk a_left a_right)))) :=
 FT Tryz.underlying90 Tryz.underlying142 qa qb Bs (k := (Glp.mk a_left a_right)) rfl
theorem lkto90 {l : List (Glp × GSpan)} {a_left a_right : Int} {H : Nat → Option VObj} : vlookup Tryz.prog H 90 (.mt (mtK cO l) (mtV ff l)) (.agg [.lit (.int .i64 a_left), .lit (.int .i64 a_right)]) true = some (.tup [.agg (cGSpan (mapGet dV (GSpan.mk 0 0) l (Glp.mk a_left a_right))), .lit (.bool (mapHas dV l (Glp.mk a_left a_right)))]) :=
 Wn Tryz.underlying90 Tryz.underlying142 qa qb Bs (k := (Glp.mk a_left a_right)) rfl
theorem LG (H : Nat → Option VObj) (d : Nat) (n : GSpan) : showV H d (ff n) = ff n := by cases d <;> simp [ff, showV, an, nrm]
theorem LH {kv : Glp → Value} {l : List (Glp × GSpan)} {H : Nat → Option VObj} {d : Nat} : ((encM kv ff l).map (·.2)).map (showV H d) = mtV ff l := FX LG
def mqr := (And.intro (And.intro @Cw @yq) (And.intro @pF True.intro))
def mqt := (And.intro (And.intro (And.intro @LC @LF) (And.intro @Bu @Bv)) (And.intro (And.intro @lkto90 @Cw) (And.intro @yq (And.intro @jE @LH))))
def mO (aB : GLx) (eM : Int) (e1 : GLw) : List Int → Int → Int → (List Glm) → Option (LOut (Gld) (Int × (List Glm)))
 | [], jH, gE, jI => some (.go (gE, jI))
 | e2 :: p2, jH, gE, jI => Option.bind (getI aB.Ends gE) (fun x8 => cond (x8.Word == eM && (x8.Letters == (jH + 1))) (cond (aC 32 (List.length (jI ++ [(Glm.mk eM e2 gE (decide ((jH + 1) < (List.length e1.Signs : Int))))]))) (mO aB eM e1 p2 (jH + 1) (i64.wrap (gE + 1)) (jI ++ [(Glm.mk eM e2 gE (decide ((jH + 1) < (List.length e1.Signs : Int))))])) none) (cond (aC 32 (List.length (jI ++ [(Glm.mk eM e2 gE false)]))) (mO aB eM e1 p2 (jH + 1) gE (jI ++ [(Glm.mk eM e2 gE false)])) none))
def qC (aB : GLx) : List GLw → Int → Int → (List Glm) → Option (LOut (Gld) (Int × (List Glm)))
 | [], eM, mR, mS => some (.go (mR, mS))
 | e1 :: p1, eM, mR, mS => Option.bind (wy aB.Out eM) (fun r7 => cond (r7) (qC aB p1 (eM + 1) mR mS) (cond (lenOk e1.Signs) (lbind (mO aB eM e1 e1.Signs 0 mR mS) (fun Fj => some (.ret Fj)) (fun c9 => qC aB p1 (eM + 1) c9.1 c9.2) (fun _ _ => none)) none))
def wF  : List GLp → Int → (List (Glp × GSpan)) → Option (LOut (Gld) ((List (Glp × GSpan))))
 | [], lh, qc => some (.go qc)
 | e0 :: p0, lh, qc => wF p0 (lh + 1) (mapSet dV qc (Glp.mk e0.Left e0.Right) e0.Space)
def rW (ag : GLs) (aB : GLx) (fV : Int) : Option (Gld) := cond (lenOk ag.Pairs) (lbind (wF ag.Pairs 0 ([] : List (Glp × GSpan))) (fun vO => some vO) (fun c1 => cond (lenOk ag.Words) (lbind (qC aB ag.Words 0 0 ([] : List Glm)) (fun vP => some vP) (fun Dj => some (Gld.mk ag aB fV c1 Dj.2)) (fun _ _ => none)) none) (fun _ _ => none)) none
theorem P2 (ag : GLs) (aB : GLx) (fV : Int) (R : Gld) (h : rW ag aB fV = some R) : ad Tryz.prog G0 71 [.agg (cGLs ag), .agg (cGLx aB), .lit (.int .i64 fV)] (.tree (.agg (cGld R))) := by
 refine ad.runR mixed Tryz.call71 Tryz.func71 rfl (by simp [Tryz.ntmps71]; kernel_rfl) ?_
 obtain ⟨KF, h, kF, kN⟩ := dC h
 simp only [rW] at h
 cases lK : (lenOk ag.Pairs)
 ·simp only [lK, hs] at h
  exact absurd h kN
 simp only [lK, hs] at h
 simp only [vz, mq, mqm, tyf, mqt, lK, nm, seval]
 obtain ⟨Wo, h, Wp, LI, Wq, Wr⟩ := fW h kN
 obtain ⟨Ws, LJ, h⟩ := call3 h
 obtain ⟨Wt, vg⟩ : ∃ I : Nat → St → Prop, I = (fun m st => ∃ (sU : List GLp) (fv : Int) (fx : List (Glp × GSpan)), m = List.length sU ∧ 0 ≤ fv ∧ List.drop (Int.toNat fv) ag.Pairs = sU ∧ st.df = [] ∧ 14 ≤ st.nx ∧ st.H 0 = some (.cells (some 28) (cGLs ag)) ∧ st.H 1 = some (.cells (some 31) (cGLx aB)) ∧ st.H 2 = some (.cells (some 93) ([.lit (.slice none 0 0)] ++ [.lit (.slice none 0 0)] ++ [.lit (.int .i64 0)] ++ [.lit (.int .i64 0)] ++ [.lit (.int .i64 0)] ++ [.lit (.int .i64 0)] ++ [.lit (.int .i64 0)] ++ [.lit (.slice none 0 0)] ++ [.lit (.int .i64 0)] ++ [.lit (.int .i64 0)] ++ [.lit (.slice none 0 0)] ++ [.lit (.slice none 0 0)] ++ [.lit (.int .i64 0)] ++ [.lit (.map none)] ++ [.lit (.slice none 0 0)])) ∧ st.H 6 = some (.map (encM cO ff fx)) ∧ st.H 8 = some (.cells (some 93) ((cGLs ag) ++ (cGLx aB) ++ [.lit (.int .i64 fV)] ++ [.mp 6] ++ [.lit (.slice none 0 0)])) ∧ st.tm 3 = .ptr 0 0 ∧ st.tm 4 = .ptr 1 0 ∧ st.tm 6 = .ptr 2 0 ∧ st.tm 7 = .ptr 8 0 ∧ st.tm 22 = .sl (aa cGLp ag.Pairs) (List.length ag.Pairs) false ∧ st.tm 23 = .lit (.int .i64 (List.length ag.Pairs : Int)) ∧ st.tm 24 = .lit (.int .i64 fv) ∧ Wo (Ws sU fv fx)) := ⟨_, rfl⟩
 refine loopK mixed (by kernel_rfl) Wt (List.length ag.Pairs) (by rw [vg]; refine ⟨ag.Pairs, 0, ([] : List (Glp × GSpan)), rfl, qZf _, rfl, rfl, (show 14 ≤ 14 by omega), ?_, ?_, ?_, ?_, ?_, ?_, ?_, ?_, ?_, ?_, ?_, ?_, h⟩ <;> first | (simp only [ua, ct, nm, seval] <;> rfl) | rfl) ?_
 rintro m ⟨tm, H, gF, df⟩ hinv
 rw [vg] at hinv
 obtain ⟨sU, fv, fx, rfl, nE, qd, hdf, LK, nB, mD, Bw, Bx, nq, dQ, cg, cZ, dH, dN, dI, ec, h⟩ := hinv
 simp only at hdf LK nB mD Bw Bx nq dQ cg cZ dH dN dI ec
 have iU := fX (m := 14) (b := gF) (by omega)
 subst hdf LJ
 cases sU with
 | nil =>
  have iV : (decide (fv < (List.length ag.Pairs : Int))) = false := fc nE qd
  simp only [wF, hs, reduceCtorEq] at h
  replace h := LI _ h
  try dsimp only at h
  try simp only [hs] at h
  cases mo : (lenOk ag.Words)
  ·simp only [mo, hs] at h
   exact absurd h kN
  simp only [mo, hs] at h
  simp only [vz, mq, mqm, tyf, mqt, lK, iU, dQ, cg, cZ, dH, dN, dI, ec, nB, mD, Bw, Bx, nq, iV, mo, nm, seval]
  obtain ⟨Wu, h, Wv, By, Ww, nF⟩ := fW h kN
  obtain ⟨Wx, LL, h⟩ := call4 h
  obtain ⟨Wy, lj⟩ : ∃ I : Nat → St → Prop, I = (fun m st => ∃ (jJ : List GLw) (ak : Int) (eX : Int) (cA : List Glm) (mT : VV), m = List.length jJ ∧ 0 ≤ ak ∧ List.drop (Int.toNat ak) ag.Words = jJ ∧ st.df = [] ∧ gF + 6 ≤ st.nx ∧ st.H 0 = some (.cells (some 28) (cGLs ag)) ∧ st.H 1 = some (.cells (some 31) (cGLx aB)) ∧ st.H 2 = some (.cells (some 93) ([.lit (.slice none 0 0)] ++ [.lit (.slice none 0 0)] ++ [.lit (.int .i64 0)] ++ [.lit (.int .i64 0)] ++ [.lit (.int .i64 0)] ++ [.lit (.int .i64 0)] ++ [.lit (.int .i64 0)] ++ [.lit (.slice none 0 0)] ++ [.lit (.int .i64 0)] ++ [.lit (.int .i64 0)] ++ [.lit (.slice none 0 0)] ++ [.lit (.slice none 0 0)] ++ [.lit (.int .i64 0)] ++ [.lit (.map none)] ++ [.lit (.slice none 0 0)])) ∧ st.H 6 = some (.map (encM cO ff fx)) ∧ st.H 8 = some (.cells (some 93) ((cGLs ag) ++ (cGLx aB) ++ [.lit (.int .i64 fV)] ++ [.mp 6] ++ [mT])) ∧ st.tm 3 = .ptr 0 0 ∧ st.tm 4 = .ptr 1 0 ∧ st.tm 6 = .ptr 2 0 ∧ st.tm 7 = .ptr 8 0 ∧ st.tm 40 = .lit (.int .i64 (List.length ag.Words : Int)) ∧ st.tm 10 = .lit (.int .i64 eX) ∧ st.tm 41 = .lit (.int .i64 ak) ∧ ((∃ (β : Nat) (el : Option TypeId), mT = .ref β 0 (List.length cA) 4 (List.length cA) ∧ β < st.nx ∧ β ≠ 0 ∧ β ≠ 1 ∧ β ≠ 2 ∧ β ≠ 6 ∧ β ≠ 8 ∧ st.H β = some (.cells el (aa cGlm cA))) ∨ (mT = .lit (.slice none 0 0) ∧ cA = [])) ∧ Wu (Wx jJ ak eX cA)) := ⟨_, rfl⟩
  refine loopK mixed (by kernel_rfl) Wy (List.length ag.Words) (by rw [lj]; refine ⟨ag.Words, 0, 0, ([] : List Glm), .lit (.slice none 0 0), rfl, qZf _, rfl, rfl, (show gF + 6 ≤ gF + 6 by omega), ?_, ?_, ?_, ?_, ?_, dQ, cg, cZ, dH, ?_, ?_, ?_, Or.inr ⟨rfl, rfl⟩, h⟩ <;> first | (simp only [ua, ct, iU, dQ, cg, cZ, dH, dN, dI, ec, nB, mD, Bw, Bx, nq, iV, nm, seval] <;> rfl) | rfl) ?_
  rintro m ⟨tm, H, eN, df⟩ hinv
  rw [lj] at hinv
  obtain ⟨jJ, ak, eX, cA, mT, rfl, eO, gG, hdf, LM, nG, nH, nI, eV, nJ, cb, bH, bR, bO, bS, bD, bV, qe, h⟩ := hinv
  simp only at hdf LM nG nH nI eV nJ cb bH bR bO bS bD bV qe
  have oD := fX (m := 14) (b := eN) (by omega)
  have eK := qT (a := gF) (m := 6) (b := eN) (by omega)
  subst hdf LL
  rcases qe with ⟨lk, qf, rfl, LN, ug, uh, LP, LQ, LS, wU⟩ | ⟨rfl, rfl⟩
  ·have wW := uf LN
   have ja := ne_f ug
   have jb := ne_f uh
   have wX := ne_f LP
   have wY := ne_f LQ
   have wZ := ne_f LS
   cases jJ with
   | nil =>
    have gL : (decide (ak < (List.length ag.Words : Int))) = false := fc eO gG
    simp only [qC, hs, reduceCtorEq] at h
    replace h := By _ h
    try dsimp only at h
    try simp only [hs] at h
    try simp only [vz, mq, mqm, tyf, mqt, lK, iU, iV, mo, oD, eK, cb, bH, bR, bO, bS, bD, bV, nG, nH, nI, eV, nJ, wW, wU, ja, jb, wX, wY, wZ, gL, nm, seval]
    refine cX (x := (.agg ((cGLs ag) ++ (cGLx aB) ++ [.lit (.int .i64 fV)] ++ [.mp 6] ++ [.ref lk 0 (List.length cA) 4 (List.length cA)]))) (by first | (simp only [Tryz.results71, resV, resL, aG, d6, dA, uw, cr, tyf, mqt, lK, iU, iV, mo, oD, eK, cb, bH, bR, bO, bS, bD, bV, nG, nH, nI, eV, nJ, wW, wU, ja, jb, wX, wY, wZ, gL, nm, seval] <;> rfl) | rfl) ?_
    obtain rfl := kF _ h
    refine dB ?_ ?_
    ·simp only [tre, ar, mqr, Bool.and_self]
    ·first | (simp only [outV, uw, eF, kc, jE, cr, tyf, mqt, nrm, an, lK, iU, iV, mo, oD, eK, cb, bH, bR, bO, bS, bD, bV, nG, nH, nI, eV, nJ, wW, wU, ja, jb, wX, wY, wZ, gL, nm, seval] <;> rfl) | rfl
   | cons bU jJ =>
    have ij : (decide (ak < (List.length ag.Words : Int))) = true := fb eO gG
    have iY := dZ eO gG
    have LU := fe eO gG mo
    simp only [qC, hs, reduceCtorEq] at h
    obtain ⟨Sv, Wz, h⟩ := optI h nF
    try simp only [hs] at h
    simp only [vz, mq, mqm, tyf, mqt, lK, iU, iV, mo, oD, eK, cb, bH, bR, bO, bS, bD, bV, nG, nH, nI, eV, nJ, wW, wU, ja, jb, wX, wY, wZ, ij, (aE iY), LU, nm, seval]
    refine ktree (args0 := [.sl (aa eI aB.Out) (List.length aB.Out) false, .lit (.int .i64 ak)]) (by first | (simp only [nrm, an, mqr] <;> rfl) | rfl) (by simp only [tre, ar, mqr, Bool.and_self]) (C7 _ _ _ Wz) ?_
    refine bw (fun tm => tm 3 = .ptr 0 0 ∧ tm 4 = .ptr 1 0 ∧ tm 6 = .ptr 2 0 ∧ tm 7 = .ptr 8 0 ∧ tm 10 = .lit (.int .i64 eX) ∧ tm 11 = .lit (.int .i64 ak) ∧ tm 40 = .lit (.int .i64 (List.length ag.Words : Int)) ∧ tm 41 = .lit (.int .i64 ak) ∧ tm 47 = .lit (.bool Sv) ∧ True) (by refine ⟨cb, bH, bR, bO, bD, ?_, bS, bV, ?_, trivial⟩ <;> first | (simp only [ua, ct, iU, iV, oD, eK, cb, bH, bR, bO, bS, bD, bV, nG, nH, nI, eV, nJ, wW, wU, ja, jb, wX, wY, wZ, ij, LU, nm, seval] <;> rfl) | rfl) ?_
    rintro tm ⟨jO, oS, oT, fC, fS, gI, kG, kW, lH, _⟩
    have gk := And.intro lK (And.intro iU (And.intro iV (And.intro mo (And.intro oD (And.intro eK (And.intro nG (And.intro nH (And.intro nI (And.intro eV (And.intro nJ (And.intro wW (And.intro wU (And.intro ja (And.intro jb (And.intro wX (And.intro wY (And.intro wZ (And.intro ij LU))))))))))))))))))
    cases eW : (Sv)
    ·simp only [eW, hs] at h
     cases qg : (lenOk bU.Signs)
     ·simp only [qg, hs] at h
      exact absurd h nF
     simp only [qg, hs] at h
     simp only [vz, mq, mqm, tyf, mqt, gk, (aE iY), jO, oS, oT, fC, fS, gI, kG, kW, lH, eW, qg, nm, seval]
     obtain ⟨W6, h, W7, Bz, W8, nK⟩ := fW h nF
     obtain ⟨W9, LV, h⟩ := call4 h
     obtain ⟨WA, nL⟩ : ∃ I : Nat → St → Prop, I = (fun m st => ∃ (lL : List Int) (bu : Int) (bm : Int) (bP : List Glm) (mU : VV), m = List.length lL ∧ 0 ≤ bu ∧ List.drop (Int.toNat bu) bU.Signs = lL ∧ st.df = [] ∧ eN + 23 ≤ st.nx ∧ st.H 0 = some (.cells (some 28) (cGLs ag)) ∧ st.H 1 = some (.cells (some 31) (cGLx aB)) ∧ st.H 2 = some (.cells (some 93) ([.lit (.slice none 0 0)] ++ [.lit (.slice none 0 0)] ++ [.lit (.int .i64 0)] ++ [.lit (.int .i64 0)] ++ [.lit (.int .i64 0)] ++ [.lit (.int .i64 0)] ++ [.lit (.int .i64 0)] ++ [.lit (.slice none 0 0)] ++ [.lit (.int .i64 0)] ++ [.lit (.int .i64 0)] ++ [.lit (.slice none 0 0)] ++ [.lit (.slice none 0 0)] ++ [.lit (.int .i64 0)] ++ [.lit (.map none)] ++ [.lit (.slice none 0 0)])) ∧ st.H 6 = some (.map (encM cO ff fx)) ∧ st.H 8 = some (.cells (some 93) ((cGLs ag) ++ (cGLx aB) ++ [.lit (.int .i64 fV)] ++ [.mp 6] ++ [mU])) ∧ st.tm 3 = .ptr 0 0 ∧ st.tm 4 = .ptr 1 0 ∧ st.tm 6 = .ptr 2 0 ∧ st.tm 7 = .ptr 8 0 ∧ st.tm 11 = .lit (.int .i64 ak) ∧ st.tm 12 = .lit (.int .i64 (List.length bU.Signs : Int)) ∧ st.tm 40 = .lit (.int .i64 (List.length ag.Words : Int)) ∧ st.tm 41 = .lit (.int .i64 ak) ∧ st.tm 60 = .sl (aa eI bU.Signs) (List.length bU.Signs) false ∧ st.tm 61 = .lit (.int .i64 (List.length bU.Signs : Int)) ∧ st.tm 10 = .lit (.int .i64 bm) ∧ st.tm 62 = .lit (.int .i64 bu) ∧ ((∃ (β : Nat) (el : Option TypeId), mU = .ref β 0 (List.length bP) 4 (List.length bP) ∧ β < st.nx ∧ β ≠ 0 ∧ β ≠ 1 ∧ β ≠ 2 ∧ β ≠ 6 ∧ β ≠ 8 ∧ st.H β = some (.cells el (aa cGlm bP))) ∨ (mU = .lit (.slice none 0 0) ∧ bP = [])) ∧ W6 (W9 lL bu bm bP)) := ⟨_, rfl⟩
     refine loopK mixed (by kernel_rfl) WA (List.length bU.Signs) (by rw [nL]; refine ⟨bU.Signs, 0, eX, cA, .ref lk 0 (List.length cA) 4 (List.length cA), rfl, qZf _, rfl, rfl, (show eN + 23 ≤ eN + 23 by omega), ?_, ?_, ?_, ?_, ?_, jO, oS, oT, fC, gI, ?_, kG, kW, ?_, ?_, fS, ?_, Or.inl ⟨lk, qf, rfl, (by first | omega | (simp only [nm, seval]; done) | (simp only [nm, seval]; omega)), (by first | omega | (intro hh; simp only [gk, reduceCtorEq] at hh)), (by first | omega | (intro hh; simp only [gk, reduceCtorEq] at hh)), (by first | omega | (intro hh; simp only [gk, reduceCtorEq] at hh)), (by first | omega | (intro hh; simp only [gk, reduceCtorEq] at hh)), (by first | omega | (intro hh; simp only [gk, reduceCtorEq] at hh)), ?_⟩, h⟩ <;> first | (simp only [ua, ct, gk, jO, oS, oT, fC, fS, gI, kG, kW, lH, eW, nm, seval] <;> rfl) | rfl) ?_
     rintro m ⟨tm, H, fy, df⟩ hinv
     rw [nL] at hinv
     obtain ⟨lL, bu, bm, bP, mU, rfl, fO, iy, hdf, LW, rF, rG, rH, rI, rJ, dD, dO, bZ, cl, ck, ca, dx, dK, cM, cy, cH, fF, qh, h⟩ := hinv
     simp only at hdf LW rF rG rH rI rJ dD dO bZ cl ck ca dx dK cM cy cH fF qh
     have eC := fX (m := 14) (b := fy) (by omega)
     have nM := qT (a := gF) (m := 6) (b := fy) (by omega)
     have nN := qT (a := eN) (m := 23) (b := fy) (by omega)
     subst hdf LV
     rcases qh with ⟨sV, jd, rfl, LY, LZ, Ma, Mb, Mc, Md, D1⟩ | ⟨rfl, rfl⟩
     ·have rK := uf LY
      have rL := ne_f LZ
      have rM := ne_f Ma
      have rN := ne_f Mb
      have rO := ne_f Mc
      have rP := ne_f Md
      cases lL with
      | nil =>
       have rh : (decide (bu < (List.length bU.Signs : Int))) = false := fc fO iy
       simp only [mO, hs, reduceCtorEq] at h
       replace h := Bz _ h
       try dsimp only at h
       try simp only [hs] at h
       simp only [vz, mq, mqm, tyf, mqt, gk, (aE iY), eW, qg, eC, nM, nN, dD, dO, bZ, cl, ck, ca, dx, dK, cM, cy, cH, fF, rF, rG, rH, rI, rJ, rK, D1, rL, rM, rN, rO, rP, rh, nm, seval]
       exact ⟨List.length jJ, qZc _, by rw [lj]; refine ⟨jJ, ak + 1, bm, bP, .ref sV 0 (List.length bP) 4 (List.length bP), rfl, Int.le_trans eO (Int.le_add_one (qZf _)), bW eO gG, rfl, (show gF + 6 ≤ fy + 3 by omega), ?_, ?_, ?_, ?_, ?_, dD, dO, bZ, cl, dx, cH, ?_, Or.inl ⟨sV, jd, rfl, (by first | omega | (simp only [nm, seval]; done) | (simp only [nm, seval]; omega)), (by first | omega | (intro hh; simp only [gk, eC, nM, nN, rK, rL, rM, rN, rO, rP, reduceCtorEq] at hh)), (by first | omega | (intro hh; simp only [gk, eC, nM, nN, rK, rL, rM, rN, rO, rP, reduceCtorEq] at hh)), (by first | omega | (intro hh; simp only [gk, eC, nM, nN, rK, rL, rM, rN, rO, rP, reduceCtorEq] at hh)), (by first | omega | (intro hh; simp only [gk, eC, nM, nN, rK, rL, rM, rN, rO, rP, reduceCtorEq] at hh)), (by first | omega | (intro hh; simp only [gk, eC, nM, nN, rK, rL, rM, rN, rO, rP, reduceCtorEq] at hh)), ?_⟩, (by first | exact h | (simp only [gk, eW, rh]; exact h))⟩ <;> first | (simp only [ua, ct, gk, eW, eC, nM, nN, dD, dO, bZ, cl, ck, ca, dx, dK, cM, cy, cH, fF, rF, rG, rH, rI, rJ, rK, D1, rL, rM, rN, rO, rP, rh, nm, seval] <;> rfl) | rfl⟩
      | cons fk lL =>
       have B0 : (decide (bu < (List.length bU.Signs : Int))) = true := fb fO iy
       have ll := dZ fO iy
       have B1 := fe fO iy qg
       simp only [mO, hs, reduceCtorEq] at h
       obtain ⟨B2, ln, h⟩ := optI h nK
       try simp only [hs] at h
       cases rQ : (B2.Word == ak && (B2.Letters == (bu + 1)))
       ·simp only [rQ, hs] at h
        have gZ := And.intro gk (And.intro eW (And.intro qg (And.intro eC (And.intro nM (And.intro nN (And.intro rF (And.intro rG (And.intro rH (And.intro rI (And.intro rJ (And.intro rK (And.intro D1 (And.intro rL (And.intro rM (And.intro rN (And.intro rO (And.intro rP (And.intro B0 (And.intro B1 rQ)))))))))))))))))))
        cases mr : (aC 32 (List.length (bP ++ [(Glm.mk ak fk bm false)])))
        ·simp only [mr, hs] at h
         exact absurd h nK
        simp only [mr, hs] at h
        simp only [vz, mq, mqm, tyf, mqt, gZ, (aE iY), dD, dO, bZ, cl, ck, ca, dx, dK, cM, cy, cH, fF, (aA ll), (aJ ln), mr, nm, seval]
        refine k_app (w := 4) (enc := cGlm) (xs := bP) (ys := ([(Glm.mk ak fk bm false)])) (el := jd) (fQ := (some 144)) (fun _ => rfl) lf ld Tryz.underlying91 (by first | rfl | assumption | (simp only [bt, bY, gY, gZ, nm, seval] <;> rfl) | (simp only [bt, bY, fU, fB, fG, fH, tyf, mqt, gZ, (aE iY), dD, dO, bZ, cl, ck, ca, dx, dK, cM, cy, cH, fF, (aA ll), (aJ ln), mr, nm, seval]; done)) (by first | rfl | assumption | (simp only [bt, bY, gY, gZ, nm, seval] <;> rfl) | (simp only [bt, bY, fU, fB, fG, fH, tyf, mqt, gZ, (aE iY), dD, dO, bZ, cl, ck, ca, dx, dK, cM, cy, cH, fF, (aA ll), (aJ ln), mr, nm, seval]; done)) (Nat.zero_lt_succ _) mr ?_
        simp only [vz, mq, mqm, tyf, mqt, gZ, (aE iY), dD, dO, bZ, cl, ck, ca, dx, dK, cM, cy, cH, fF, (aA ll), (aJ ln), mr, nm, seval]
        exact ⟨List.length lL, qZc _, by rw [nL]; refine ⟨lL, bu + 1, bm, (bP ++ [(Glm.mk ak fk bm false)]), .ref (fy + 31) 0 (List.length (bP ++ [(Glm.mk ak fk bm false)])) 4 (List.length (bP ++ [(Glm.mk ak fk bm false)])), rfl, Int.le_trans fO (Int.le_add_one (qZf _)), bW fO iy, rfl, (show eN + 23 ≤ fy + 37 by omega), ?_, ?_, ?_, ?_, ?_, dD, dO, bZ, cl, ck, ca, dx, dK, cM, cy, cH, ?_, Or.inl ⟨fy + 31, (sameEl jd 144), rfl, (by first | omega | (simp only [nm, seval]; done) | (simp only [nm, seval]; omega)), (by first | omega | (intro hh; simp only [gZ, reduceCtorEq] at hh)), (by first | omega | (intro hh; simp only [gZ, reduceCtorEq] at hh)), (by first | omega | (intro hh; simp only [gZ, reduceCtorEq] at hh)), (by first | omega | (intro hh; simp only [gZ, reduceCtorEq] at hh)), (by first | omega | (intro hh; simp only [gZ, reduceCtorEq] at hh)), ?_⟩, (by first | exact h | (simp only [gZ]; exact h))⟩ <;> first | (simp only [ua, ct, gZ, dD, dO, bZ, cl, ck, ca, dx, dK, cM, cy, cH, fF, nm, seval] <;> rfl) | rfl⟩
       simp only [rQ, hs] at h
       have hO := And.intro gk (And.intro eW (And.intro qg (And.intro eC (And.intro nM (And.intro nN (And.intro rF (And.intro rG (And.intro rH (And.intro rI (And.intro rJ (And.intro rK (And.intro D1 (And.intro rL (And.intro rM (And.intro rN (And.intro rO (And.intro rP (And.intro B0 (And.intro B1 rQ)))))))))))))))))))
       cases mu : (aC 32 (List.length (bP ++ [(Glm.mk ak fk bm (decide ((bu + 1) < (List.length bU.Signs : Int))))])))
       ·simp only [mu, hs] at h
        exact absurd h nK
       simp only [mu, hs] at h
       simp only [vz, mq, mqm, tyf, mqt, hO, (aE iY), dD, dO, bZ, cl, ck, ca, dx, dK, cM, cy, cH, fF, (aA ll), (aJ ln), mu, nm, seval]
       refine k_app (w := 4) (enc := cGlm) (xs := bP) (ys := ([(Glm.mk ak fk bm (decide ((bu + 1) < (List.length bU.Signs : Int))))])) (el := jd) (fQ := (some 144)) (fun _ => rfl) lf ld Tryz.underlying91 (by first | rfl | assumption | (simp only [bt, bY, gY, hO, nm, seval] <;> rfl) | (simp only [bt, bY, fU, fB, fG, fH, tyf, mqt, hO, (aE iY), dD, dO, bZ, cl, ck, ca, dx, dK, cM, cy, cH, fF, (aA ll), (aJ ln), mu, nm, seval]; done)) (by first | rfl | assumption | (simp only [bt, bY, gY, hO, nm, seval] <;> rfl) | (simp only [bt, bY, fU, fB, fG, fH, tyf, mqt, hO, (aE iY), dD, dO, bZ, cl, ck, ca, dx, dK, cM, cy, cH, fF, (aA ll), (aJ ln), mu, nm, seval]; done)) (Nat.zero_lt_succ _) mu ?_
       simp only [vz, mq, mqm, tyf, mqt, hO, (aE iY), dD, dO, bZ, cl, ck, ca, dx, dK, cM, cy, cH, fF, (aA ll), (aJ ln), mu, nm, seval]
       exact ⟨List.length lL, qZc _, by rw [nL]; refine ⟨lL, bu + 1, i64.wrap (bm + 1), (bP ++ [(Glm.mk ak fk bm (decide ((bu + 1) < (List.length bU.Signs : Int))))]), .ref (fy + 31) 0 (List.length (bP ++ [(Glm.mk ak fk bm (decide ((bu + 1) < (List.length bU.Signs : Int))))])) 4 (List.length (bP ++ [(Glm.mk ak fk bm (decide ((bu + 1) < (List.length bU.Signs : Int))))])), rfl, Int.le_trans fO (Int.le_add_one (qZf _)), bW fO iy, rfl, (show eN + 23 ≤ fy + 40 by omega), ?_, ?_, ?_, ?_, ?_, dD, dO, bZ, cl, ck, ca, dx, dK, cM, cy, ?_, ?_, Or.inl ⟨fy + 31, (sameEl jd 144), rfl, (by first | omega | (simp only [nm, seval]; done) | (simp only [nm, seval]; omega)), (by first | omega | (intro hh; simp only [hO, reduceCtorEq] at hh)), (by first | omega | (intro hh; simp only [hO, reduceCtorEq] at hh)), (by first | omega | (intro hh; simp only [hO, reduceCtorEq] at hh)), (by first | omega | (intro hh; simp only [hO, reduceCtorEq] at hh)), (by first | omega | (intro hh; simp only [hO, reduceCtorEq] at hh)), ?_⟩, (by first | exact h | (simp only [hO]; exact h))⟩ <;> first | (simp only [ua, ct, hO, dD, dO, bZ, cl, ck, ca, dx, dK, cM, cy, cH, fF, nm, seval] <;> rfl) | rfl⟩
     ·cases lL with
      | nil =>
       have vh : (decide (bu < (List.length bU.Signs : Int))) = false := fc fO iy
       simp only [mO, hs, reduceCtorEq] at h
       replace h := Bz _ h
       try dsimp only at h
       try simp only [hs] at h
       simp only [vz, mq, mqm, tyf, mqt, gk, (aE iY), eW, qg, eC, nM, nN, dD, dO, bZ, cl, ck, ca, dx, dK, cM, cy, cH, fF, rF, rG, rH, rI, rJ, vh, nm, seval]
       exact ⟨List.length jJ, qZc _, by rw [lj]; refine ⟨jJ, ak + 1, bm, ([] : List Glm), .lit (.slice none 0 0), rfl, Int.le_trans eO (Int.le_add_one (qZf _)), bW eO gG, rfl, (show gF + 6 ≤ fy + 3 by omega), ?_, ?_, ?_, ?_, ?_, dD, dO, bZ, cl, dx, cH, ?_, Or.inr ⟨rfl, rfl⟩, (by first | exact h | (simp only [gk, eW, vh]; exact h))⟩ <;> first | (simp only [ua, ct, gk, eW, eC, nM, nN, dD, dO, bZ, cl, ck, ca, dx, dK, cM, cy, cH, fF, rF, rG, rH, rI, rJ, vh, nm, seval] <;> rfl) | rfl⟩
      | cons fk lL =>
       have B3 : (decide (bu < (List.length bU.Signs : Int))) = true := fb fO iy
       have nO := dZ fO iy
       have B4 := fe fO iy qg
       simp only [mO, hs, reduceCtorEq] at h
       obtain ⟨B5, nP, h⟩ := optI h nK
       try simp only [hs] at h
       cases rR : (B5.Word == ak && (B5.Letters == (bu + 1)))
       ·simp only [rR, hs] at h
        have je := And.intro gk (And.intro eW (And.intro qg (And.intro eC (And.intro nM (And.intro nN (And.intro rF (And.intro rG (And.intro rH (And.intro rI (And.intro rJ (And.intro B3 (And.intro B4 rR))))))))))))
        cases nQ : (aC 32 (List.length (([] : List Glm) ++ [(Glm.mk ak fk bm false)])))
        ·simp only [nQ, hs] at h
         exact absurd h nK
        simp only [nQ, hs] at h
        simp only [vz, mq, mqm, tyf, mqt, je, (aE iY), dD, dO, bZ, cl, ck, ca, dx, dK, cM, cy, cH, fF, (aA nO), (aJ nP), nQ, nm, seval]
        refine og (w := 4) (enc := cGlm) (ys := ([(Glm.mk ak fk bm false)])) (fQ := (some 144)) (fun _ => rfl) lf ld Tryz.underlying91 (by first | rfl | assumption | (simp only [bt, bY, gY, je, nm, seval] <;> rfl) | (simp only [bt, bY, fU, fB, fG, fH, tyf, mqt, je, (aE iY), dD, dO, bZ, cl, ck, ca, dx, dK, cM, cy, cH, fF, (aA nO), (aJ nP), nQ, nm, seval]; done)) (Nat.zero_lt_succ _) nQ ?_
        simp only [vz, mq, mqm, tyf, mqt, je, (aE iY), dD, dO, bZ, cl, ck, ca, dx, dK, cM, cy, cH, fF, (aA nO), (aJ nP), nQ, nm, seval]
        exact ⟨List.length lL, qZc _, by rw [nL]; refine ⟨lL, bu + 1, bm, (([] : List Glm) ++ [(Glm.mk ak fk bm false)]), .ref (fy + 31) 0 (List.length (([] : List Glm) ++ [(Glm.mk ak fk bm false)])) 4 (List.length (([] : List Glm) ++ [(Glm.mk ak fk bm false)])), rfl, Int.le_trans fO (Int.le_add_one (qZf _)), bW fO iy, rfl, (show eN + 23 ≤ fy + 37 by omega), ?_, ?_, ?_, ?_, ?_, dD, dO, bZ, cl, ck, ca, dx, dK, cM, cy, cH, ?_, Or.inl ⟨fy + 31, (some 144), rfl, (by first | omega | (simp only [nm, seval]; done) | (simp only [nm, seval]; omega)), (by first | omega | (intro hh; simp only [je, reduceCtorEq] at hh)), (by first | omega | (intro hh; simp only [je, reduceCtorEq] at hh)), (by first | omega | (intro hh; simp only [je, reduceCtorEq] at hh)), (by first | omega | (intro hh; simp only [je, reduceCtorEq] at hh)), (by first | omega | (intro hh; simp only [je, reduceCtorEq] at hh)), ?_⟩, (by first | exact h | (simp only [je]; exact h))⟩ <;> first | (simp only [ua, ct, je, dD, dO, bZ, cl, ck, ca, dx, dK, cM, cy, cH, fF, nm, seval] <;> rfl) | rfl⟩
       simp only [rR, hs] at h
       have jf := And.intro gk (And.intro eW (And.intro qg (And.intro eC (And.intro nM (And.intro nN (And.intro rF (And.intro rG (And.intro rH (And.intro rI (And.intro rJ (And.intro B3 (And.intro B4 rR))))))))))))
       cases nR : (aC 32 (List.length (([] : List Glm) ++ [(Glm.mk ak fk bm (decide ((bu + 1) < (List.length bU.Signs : Int))))])))
       ·simp only [nR, hs] at h
        exact absurd h nK
       simp only [nR, hs] at h
       simp only [vz, mq, mqm, tyf, mqt, jf, (aE iY), dD, dO, bZ, cl, ck, ca, dx, dK, cM, cy, cH, fF, (aA nO), (aJ nP), nR, nm, seval]
       refine og (w := 4) (enc := cGlm) (ys := ([(Glm.mk ak fk bm (decide ((bu + 1) < (List.length bU.Signs : Int))))])) (fQ := (some 144)) (fun _ => rfl) lf ld Tryz.underlying91 (by first | rfl | assumption | (simp only [bt, bY, gY, jf, nm, seval] <;> rfl) | (simp only [bt, bY, fU, fB, fG, fH, tyf, mqt, jf, (aE iY), dD, dO, bZ, cl, ck, ca, dx, dK, cM, cy, cH, fF, (aA nO), (aJ nP), nR, nm, seval]; done)) (Nat.zero_lt_succ _) nR ?_
       simp only [vz, mq, mqm, tyf, mqt, jf, (aE iY), dD, dO, bZ, cl, ck, ca, dx, dK, cM, cy, cH, fF, (aA nO), (aJ nP), nR, nm, seval]
       exact ⟨List.length lL, qZc _, by rw [nL]; refine ⟨lL, bu + 1, i64.wrap (bm + 1), (([] : List Glm) ++ [(Glm.mk ak fk bm (decide ((bu + 1) < (List.length bU.Signs : Int))))]), .ref (fy + 31) 0 (List.length (([] : List Glm) ++ [(Glm.mk ak fk bm (decide ((bu + 1) < (List.length bU.Signs : Int))))])) 4 (List.length (([] : List Glm) ++ [(Glm.mk ak fk bm (decide ((bu + 1) < (List.length bU.Signs : Int))))])), rfl, Int.le_trans fO (Int.le_add_one (qZf _)), bW fO iy, rfl, (show eN + 23 ≤ fy + 40 by omega), ?_, ?_, ?_, ?_, ?_, dD, dO, bZ, cl, ck, ca, dx, dK, cM, cy, ?_, ?_, Or.inl ⟨fy + 31, (some 144), rfl, (by first | omega | (simp only [nm, seval]; done) | (simp only [nm, seval]; omega)), (by first | omega | (intro hh; simp only [jf, reduceCtorEq] at hh)), (by first | omega | (intro hh; simp only [jf, reduceCtorEq] at hh)), (by first | omega | (intro hh; simp only [jf, reduceCtorEq] at hh)), (by first | omega | (intro hh; simp only [jf, reduceCtorEq] at hh)), (by first | omega | (intro hh; simp only [jf, reduceCtorEq] at hh)), ?_⟩, (by first | exact h | (simp only [jf]; exact h))⟩ <;> first | (simp only [ua, ct, jf, dD, dO, bZ, cl, ck, ca, dx, dK, cM, cy, cH, fF, nm, seval] <;> rfl) | rfl⟩
    simp only [eW, hs] at h
    simp only [vz, mq, mqm, tyf, mqt, gk, (aE iY), jO, oS, oT, fC, fS, gI, kG, kW, lH, eW, nm, seval]
    exact ⟨List.length jJ, qZc _, by rw [lj]; refine ⟨jJ, ak + 1, eX, cA, .ref lk 0 (List.length cA) 4 (List.length cA), rfl, Int.le_trans eO (Int.le_add_one (qZf _)), bW eO gG, rfl, (show gF + 6 ≤ eN + 9 by omega), ?_, ?_, ?_, ?_, ?_, jO, oS, oT, fC, kG, fS, ?_, Or.inl ⟨lk, qf, rfl, (by first | omega | (simp only [nm, seval]; done) | (simp only [nm, seval]; omega)), (by first | omega | (intro hh; simp only [gk, reduceCtorEq] at hh)), (by first | omega | (intro hh; simp only [gk, reduceCtorEq] at hh)), (by first | omega | (intro hh; simp only [gk, reduceCtorEq] at hh)), (by first | omega | (intro hh; simp only [gk, reduceCtorEq] at hh)), (by first | omega | (intro hh; simp only [gk, reduceCtorEq] at hh)), ?_⟩, (by first | exact h | (simp only [gk, eW]; exact h))⟩ <;> first | (simp only [ua, ct, gk, jO, oS, oT, fC, fS, gI, kG, kW, lH, eW, nm, seval] <;> rfl) | rfl⟩
  ·cases jJ with
   | nil =>
    have vi : (decide (ak < (List.length ag.Words : Int))) = false := fc eO gG
    simp only [qC, hs, reduceCtorEq] at h
    replace h := By _ h
    try dsimp only at h
    try simp only [hs] at h
    try simp only [vz, mq, mqm, tyf, mqt, lK, iU, iV, mo, oD, eK, cb, bH, bR, bO, bS, bD, bV, nG, nH, nI, eV, nJ, vi, nm, seval]
    refine cX (x := (.agg ((cGLs ag) ++ (cGLx aB) ++ [.lit (.int .i64 fV)] ++ [.mp 6] ++ [.lit (.slice none 0 0)]))) (by first | (simp only [Tryz.results71, resV, resL, aG, d6, dA, uw, cr, tyf, mqt, lK, iU, iV, mo, oD, eK, cb, bH, bR, bO, bS, bD, bV, nG, nH, nI, eV, nJ, vi, nm, seval] <;> rfl) | rfl) ?_
    obtain rfl := kF _ h
    refine dB ?_ ?_
    ·simp only [tre, ar, mqr, Bool.and_self]
    ·first | (simp only [outV, uw, eF, kc, jE, cr, tyf, mqt, nrm, an, lK, iU, iV, mo, oD, eK, cb, bH, bR, bO, bS, bD, bV, nG, nH, nI, eV, nJ, vi, nm, seval] <;> rfl) | rfl
   | cons bU jJ =>
    have vj : (decide (ak < (List.length ag.Words : Int))) = true := fb eO gG
    have eY := dZ eO gG
    have vk := fe eO gG mo
    simp only [qC, hs, reduceCtorEq] at h
    obtain ⟨B6, Me, h⟩ := optI h nF
    try simp only [hs] at h
    simp only [vz, mq, mqm, tyf, mqt, lK, iU, iV, mo, oD, eK, cb, bH, bR, bO, bS, bD, bV, nG, nH, nI, eV, nJ, vj, (aE eY), vk, nm, seval]
    refine ktree (args0 := [.sl (aa eI aB.Out) (List.length aB.Out) false, .lit (.int .i64 ak)]) (by first | (simp only [nrm, an, mqr] <;> rfl) | rfl) (by simp only [tre, ar, mqr, Bool.and_self]) (C7 _ _ _ Me) ?_
    refine bw (fun tm => tm 3 = .ptr 0 0 ∧ tm 4 = .ptr 1 0 ∧ tm 6 = .ptr 2 0 ∧ tm 7 = .ptr 8 0 ∧ tm 10 = .lit (.int .i64 eX) ∧ tm 11 = .lit (.int .i64 ak) ∧ tm 40 = .lit (.int .i64 (List.length ag.Words : Int)) ∧ tm 41 = .lit (.int .i64 ak) ∧ tm 47 = .lit (.bool B6) ∧ True) (by refine ⟨cb, bH, bR, bO, bD, ?_, bS, bV, ?_, trivial⟩ <;> first | (simp only [ua, ct, iU, iV, oD, eK, cb, bH, bR, bO, bS, bD, bV, nG, nH, nI, eV, nJ, vj, vk, nm, seval] <;> rfl) | rfl) ?_
    rintro tm ⟨nS, nT, nU, nV, nW, qi, nX, qj, rS, _⟩
    have eP := And.intro lK (And.intro iU (And.intro iV (And.intro mo (And.intro oD (And.intro eK (And.intro nG (And.intro nH (And.intro nI (And.intro eV (And.intro nJ (And.intro vj vk)))))))))))
    cases fz : (B6)
    ·simp only [fz, hs] at h
     cases jg : (lenOk bU.Signs)
     ·simp only [jg, hs] at h
      exact absurd h nF
     simp only [jg, hs] at h
     simp only [vz, mq, mqm, tyf, mqt, eP, (aE eY), nS, nT, nU, nV, nW, qi, nX, qj, rS, fz, jg, nm, seval]
     obtain ⟨Mf, h, Sw, sW, Sx, jK⟩ := fW h nF
     obtain ⟨Mg, B7, h⟩ := call4 h
     obtain ⟨Mh, jL⟩ : ∃ I : Nat → St → Prop, I = (fun m st => ∃ (fP : List Int) (bh : Int) (aY : Int) (bx : List Glm) (kf : VV), m = List.length fP ∧ 0 ≤ bh ∧ List.drop (Int.toNat bh) bU.Signs = fP ∧ st.df = [] ∧ eN + 23 ≤ st.nx ∧ st.H 0 = some (.cells (some 28) (cGLs ag)) ∧ st.H 1 = some (.cells (some 31) (cGLx aB)) ∧ st.H 2 = some (.cells (some 93) ([.lit (.slice none 0 0)] ++ [.lit (.slice none 0 0)] ++ [.lit (.int .i64 0)] ++ [.lit (.int .i64 0)] ++ [.lit (.int .i64 0)] ++ [.lit (.int .i64 0)] ++ [.lit (.int .i64 0)] ++ [.lit (.slice none 0 0)] ++ [.lit (.int .i64 0)] ++ [.lit (.int .i64 0)] ++ [.lit (.slice none 0 0)] ++ [.lit (.slice none 0 0)] ++ [.lit (.int .i64 0)] ++ [.lit (.map none)] ++ [.lit (.slice none 0 0)])) ∧ st.H 6 = some (.map (encM cO ff fx)) ∧ st.H 8 = some (.cells (some 93) ((cGLs ag) ++ (cGLx aB) ++ [.lit (.int .i64 fV)] ++ [.mp 6] ++ [kf])) ∧ st.tm 3 = .ptr 0 0 ∧ st.tm 4 = .ptr 1 0 ∧ st.tm 6 = .ptr 2 0 ∧ st.tm 7 = .ptr 8 0 ∧ st.tm 11 = .lit (.int .i64 ak) ∧ st.tm 12 = .lit (.int .i64 (List.length bU.Signs : Int)) ∧ st.tm 40 = .lit (.int .i64 (List.length ag.Words : Int)) ∧ st.tm 41 = .lit (.int .i64 ak) ∧ st.tm 60 = .sl (aa eI bU.Signs) (List.length bU.Signs) false ∧ st.tm 61 = .lit (.int .i64 (List.length bU.Signs : Int)) ∧ st.tm 10 = .lit (.int .i64 aY) ∧ st.tm 62 = .lit (.int .i64 bh) ∧ ((∃ (β : Nat) (el : Option TypeId), kf = .ref β 0 (List.length bx) 4 (List.length bx) ∧ β < st.nx ∧ β ≠ 0 ∧ β ≠ 1 ∧ β ≠ 2 ∧ β ≠ 6 ∧ β ≠ 8 ∧ st.H β = some (.cells el (aa cGlm bx))) ∨ (kf = .lit (.slice none 0 0) ∧ bx = [])) ∧ Mf (Mg fP bh aY bx)) := ⟨_, rfl⟩
     refine loopK mixed (by kernel_rfl) Mh (List.length bU.Signs) (by rw [jL]; refine ⟨bU.Signs, 0, eX, ([] : List Glm), .lit (.slice none 0 0), rfl, qZf _, rfl, rfl, (show eN + 23 ≤ eN + 23 by omega), ?_, ?_, ?_, ?_, ?_, nS, nT, nU, nV, qi, ?_, nX, qj, ?_, ?_, nW, ?_, Or.inr ⟨rfl, rfl⟩, h⟩ <;> first | (simp only [ua, ct, eP, nS, nT, nU, nV, nW, qi, nX, qj, rS, fz, nm, seval] <;> rfl) | rfl) ?_
     rintro m ⟨tm, H, du, df⟩ hinv
     rw [jL] at hinv
     obtain ⟨fP, bh, aY, bx, kf, rfl, dG, fa, hdf, B8, kh, ki, kj, kl, km, cB, cC, cD, cE, cR, cS, cF, cT, cU, cV, cW, dW, mV, h⟩ := hinv
     simp only at hdf B8 kh ki kj kl km cB cC cD cE cR cS cF cT cU cV cW dW mV
     have hP := fX (m := 14) (b := du) (by omega)
     have hT := qT (a := gF) (m := 6) (b := du) (by omega)
     have hU := qT (a := eN) (m := 23) (b := du) (by omega)
     subst hdf B7
     rcases mV with ⟨qk, gH, rfl, B9, BA, BB, BC, BD, BE, rT⟩ | ⟨rfl, rfl⟩
     ·have kn := uf B9
      have ko := ne_f BA
      have kq := ne_f BB
      have ku := ne_f BC
      have ky := ne_f BD
      have kz := ne_f BE
      cases fP with
      | nil =>
       have vl : (decide (bh < (List.length bU.Signs : Int))) = false := fc dG fa
       simp only [mO, hs, reduceCtorEq] at h
       replace h := sW _ h
       try dsimp only at h
       try simp only [hs] at h
       simp only [vz, mq, mqm, tyf, mqt, eP, (aE eY), fz, jg, hP, hT, hU, cB, cC, cD, cE, cR, cS, cF, cT, cU, cV, cW, dW, kh, ki, kj, kl, km, kn, rT, ko, kq, ku, ky, kz, vl, nm, seval]
       exact ⟨List.length jJ, qZc _, by rw [lj]; refine ⟨jJ, ak + 1, aY, bx, .ref qk 0 (List.length bx) 4 (List.length bx), rfl, Int.le_trans eO (Int.le_add_one (qZf _)), bW eO gG, rfl, (show gF + 6 ≤ du + 3 by omega), ?_, ?_, ?_, ?_, ?_, cB, cC, cD, cE, cF, cW, ?_, Or.inl ⟨qk, gH, rfl, (by first | omega | (simp only [nm, seval]; done) | (simp only [nm, seval]; omega)), (by first | omega | (intro hh; simp only [eP, hP, hT, hU, kn, ko, kq, ku, ky, kz, reduceCtorEq] at hh)), (by first | omega | (intro hh; simp only [eP, hP, hT, hU, kn, ko, kq, ku, ky, kz, reduceCtorEq] at hh)), (by first | omega | (intro hh; simp only [eP, hP, hT, hU, kn, ko, kq, ku, ky, kz, reduceCtorEq] at hh)), (by first | omega | (intro hh; simp only [eP, hP, hT, hU, kn, ko, kq, ku, ky, kz, reduceCtorEq] at hh)), (by first | omega | (intro hh; simp only [eP, hP, hT, hU, kn, ko, kq, ku, ky, kz, reduceCtorEq] at hh)), ?_⟩, (by first | exact h | (simp only [eP, fz, vl]; exact h))⟩ <;> first | (simp only [ua, ct, eP, fz, hP, hT, hU, cB, cC, cD, cE, cR, cS, cF, cT, cU, cV, cW, dW, kh, ki, kj, kl, km, kn, rT, ko, kq, ku, ky, kz, vl, nm, seval] <;> rfl) | rfl⟩
      | cons ep fP =>
       have BF : (decide (bh < (List.length bU.Signs : Int))) = true := fb dG fa
       have lp := dZ dG fa
       have BG := fe dG fa jg
       simp only [mO, hs, reduceCtorEq] at h
       obtain ⟨BH, lq, h⟩ := optI h jK
       try simp only [hs] at h
       cases rU : (BH.Word == ak && (BH.Letters == (bh + 1)))
       ·simp only [rU, hs] at h
        have hX := And.intro eP (And.intro fz (And.intro jg (And.intro hP (And.intro hT (And.intro hU (And.intro kh (And.intro ki (And.intro kj (And.intro kl (And.intro km (And.intro kn (And.intro rT (And.intro ko (And.intro kq (And.intro ku (And.intro ky (And.intro kz (And.intro BF (And.intro BG rU)))))))))))))))))))
        cases mw : (aC 32 (List.length (bx ++ [(Glm.mk ak ep aY false)])))
        ·simp only [mw, hs] at h
         exact absurd h jK
        simp only [mw, hs] at h
        simp only [vz, mq, mqm, tyf, mqt, hX, (aE eY), cB, cC, cD, cE, cR, cS, cF, cT, cU, cV, cW, dW, (aA lp), (aJ lq), mw, nm, seval]
        refine k_app (w := 4) (enc := cGlm) (xs := bx) (ys := ([(Glm.mk ak ep aY false)])) (el := gH) (fQ := (some 144)) (fun _ => rfl) lf ld Tryz.underlying91 (by first | rfl | assumption | (simp only [bt, bY, gY, hX, nm, seval] <;> rfl) | (simp only [bt, bY, fU, fB, fG, fH, tyf, mqt, hX, (aE eY), cB, cC, cD, cE, cR, cS, cF, cT, cU, cV, cW, dW, (aA lp), (aJ lq), mw, nm, seval]; done)) (by first | rfl | assumption | (simp only [bt, bY, gY, hX, nm, seval] <;> rfl) | (simp only [bt, bY, fU, fB, fG, fH, tyf, mqt, hX, (aE eY), cB, cC, cD, cE, cR, cS, cF, cT, cU, cV, cW, dW, (aA lp), (aJ lq), mw, nm, seval]; done)) (Nat.zero_lt_succ _) mw ?_
        simp only [vz, mq, mqm, tyf, mqt, hX, (aE eY), cB, cC, cD, cE, cR, cS, cF, cT, cU, cV, cW, dW, (aA lp), (aJ lq), mw, nm, seval]
        exact ⟨List.length fP, qZc _, by rw [jL]; refine ⟨fP, bh + 1, aY, (bx ++ [(Glm.mk ak ep aY false)]), .ref (du + 31) 0 (List.length (bx ++ [(Glm.mk ak ep aY false)])) 4 (List.length (bx ++ [(Glm.mk ak ep aY false)])), rfl, Int.le_trans dG (Int.le_add_one (qZf _)), bW dG fa, rfl, (show eN + 23 ≤ du + 37 by omega), ?_, ?_, ?_, ?_, ?_, cB, cC, cD, cE, cR, cS, cF, cT, cU, cV, cW, ?_, Or.inl ⟨du + 31, (sameEl gH 144), rfl, (by first | omega | (simp only [nm, seval]; done) | (simp only [nm, seval]; omega)), (by first | omega | (intro hh; simp only [hX, reduceCtorEq] at hh)), (by first | omega | (intro hh; simp only [hX, reduceCtorEq] at hh)), (by first | omega | (intro hh; simp only [hX, reduceCtorEq] at hh)), (by first | omega | (intro hh; simp only [hX, reduceCtorEq] at hh)), (by first | omega | (intro hh; simp only [hX, reduceCtorEq] at hh)), ?_⟩, (by first | exact h | (simp only [hX]; exact h))⟩ <;> first | (simp only [ua, ct, hX, cB, cC, cD, cE, cR, cS, cF, cT, cU, cV, cW, dW, nm, seval] <;> rfl) | rfl⟩
       simp only [rU, hs] at h
       have hY := And.intro eP (And.intro fz (And.intro jg (And.intro hP (And.intro hT (And.intro hU (And.intro kh (And.intro ki (And.intro kj (And.intro kl (And.intro km (And.intro kn (And.intro rT (And.intro ko (And.intro kq (And.intro ku (And.intro ky (And.intro kz (And.intro BF (And.intro BG rU)))))))))))))))))))
       cases my : (aC 32 (List.length (bx ++ [(Glm.mk ak ep aY (decide ((bh + 1) < (List.length bU.Signs : Int))))])))
       ·simp only [my, hs] at h
        exact absurd h jK
       simp only [my, hs] at h
       simp only [vz, mq, mqm, tyf, mqt, hY, (aE eY), cB, cC, cD, cE, cR, cS, cF, cT, cU, cV, cW, dW, (aA lp), (aJ lq), my, nm, seval]
       refine k_app (w := 4) (enc := cGlm) (xs := bx) (ys := ([(Glm.mk ak ep aY (decide ((bh + 1) < (List.length bU.Signs : Int))))])) (el := gH) (fQ := (some 144)) (fun _ => rfl) lf ld Tryz.underlying91 (by first | rfl | assumption | (simp only [bt, bY, gY, hY, nm, seval] <;> rfl) | (simp only [bt, bY, fU, fB, fG, fH, tyf, mqt, hY, (aE eY), cB, cC, cD, cE, cR, cS, cF, cT, cU, cV, cW, dW, (aA lp), (aJ lq), my, nm, seval]; done)) (by first | rfl | assumption | (simp only [bt, bY, gY, hY, nm, seval] <;> rfl) | (simp only [bt, bY, fU, fB, fG, fH, tyf, mqt, hY, (aE eY), cB, cC, cD, cE, cR, cS, cF, cT, cU, cV, cW, dW, (aA lp), (aJ lq), my, nm, seval]; done)) (Nat.zero_lt_succ _) my ?_
       simp only [vz, mq, mqm, tyf, mqt, hY, (aE eY), cB, cC, cD, cE, cR, cS, cF, cT, cU, cV, cW, dW, (aA lp), (aJ lq), my, nm, seval]
       exact ⟨List.length fP, qZc _, by rw [jL]; refine ⟨fP, bh + 1, i64.wrap (aY + 1), (bx ++ [(Glm.mk ak ep aY (decide ((bh + 1) < (List.length bU.Signs : Int))))]), .ref (du + 31) 0 (List.length (bx ++ [(Glm.mk ak ep aY (decide ((bh + 1) < (List.length bU.Signs : Int))))])) 4 (List.length (bx ++ [(Glm.mk ak ep aY (decide ((bh + 1) < (List.length bU.Signs : Int))))])), rfl, Int.le_trans dG (Int.le_add_one (qZf _)), bW dG fa, rfl, (show eN + 23 ≤ du + 40 by omega), ?_, ?_, ?_, ?_, ?_, cB, cC, cD, cE, cR, cS, cF, cT, cU, cV, ?_, ?_, Or.inl ⟨du + 31, (sameEl gH 144), rfl, (by first | omega | (simp only [nm, seval]; done) | (simp only [nm, seval]; omega)), (by first | omega | (intro hh; simp only [hY, reduceCtorEq] at hh)), (by first | omega | (intro hh; simp only [hY, reduceCtorEq] at hh)), (by first | omega | (intro hh; simp only [hY, reduceCtorEq] at hh)), (by first | omega | (intro hh; simp only [hY, reduceCtorEq] at hh)), (by first | omega | (intro hh; simp only [hY, reduceCtorEq] at hh)), ?_⟩, (by first | exact h | (simp only [hY]; exact h))⟩ <;> first | (simp only [ua, ct, hY, cB, cC, cD, cE, cR, cS, cF, cT, cU, cV, cW, dW, nm, seval] <;> rfl) | rfl⟩
     ·cases fP with
      | nil =>
       have vm : (decide (bh < (List.length bU.Signs : Int))) = false := fc dG fa
       simp only [mO, hs, reduceCtorEq] at h
       replace h := sW _ h
       try dsimp only at h
       try simp only [hs] at h
       simp only [vz, mq, mqm, tyf, mqt, eP, (aE eY), fz, jg, hP, hT, hU, cB, cC, cD, cE, cR, cS, cF, cT, cU, cV, cW, dW, kh, ki, kj, kl, km, vm, nm, seval]
       exact ⟨List.length jJ, qZc _, by rw [lj]; refine ⟨jJ, ak + 1, aY, ([] : List Glm), .lit (.slice none 0 0), rfl, Int.le_trans eO (Int.le_add_one (qZf _)), bW eO gG, rfl, (show gF + 6 ≤ du + 3 by omega), ?_, ?_, ?_, ?_, ?_, cB, cC, cD, cE, cF, cW, ?_, Or.inr ⟨rfl, rfl⟩, (by first | exact h | (simp only [eP, fz, vm]; exact h))⟩ <;> first | (simp only [ua, ct, eP, fz, hP, hT, hU, cB, cC, cD, cE, cR, cS, cF, cT, cU, cV, cW, dW, kh, ki, kj, kl, km, vm, nm, seval] <;> rfl) | rfl⟩
      | cons ep fP =>
       have BI : (decide (bh < (List.length bU.Signs : Int))) = true := fb dG fa
       have nY := dZ dG fa
       have BJ := fe dG fa jg
       simp only [mO, hs, reduceCtorEq] at h
       obtain ⟨BK, nZ, h⟩ := optI h jK
       try simp only [hs] at h
       cases rV : (BK.Word == ak && (BK.Letters == (bh + 1)))
       ·simp only [rV, hs] at h
        have jh := And.intro eP (And.intro fz (And.intro jg (And.intro hP (And.intro hT (And.intro hU (And.intro kh (And.intro ki (And.intro kj (And.intro kl (And.intro km (And.intro BI (And.intro BJ rV))))))))))))
        cases oa : (aC 32 (List.length (([] : List Glm) ++ [(Glm.mk ak ep aY false)])))
        ·simp only [oa, hs] at h
         exact absurd h jK
        simp only [oa, hs] at h
        simp only [vz, mq, mqm, tyf, mqt, jh, (aE eY), cB, cC, cD, cE, cR, cS, cF, cT, cU, cV, cW, dW, (aA nY), (aJ nZ), oa, nm, seval]
        refine og (w := 4) (enc := cGlm) (ys := ([(Glm.mk ak ep aY false)])) (fQ := (some 144)) (fun _ => rfl) lf ld Tryz.underlying91 (by first | rfl | assumption | (simp only [bt, bY, gY, jh, nm, seval] <;> rfl) | (simp only [bt, bY, fU, fB, fG, fH, tyf, mqt, jh, (aE eY), cB, cC, cD, cE, cR, cS, cF, cT, cU, cV, cW, dW, (aA nY), (aJ nZ), oa, nm, seval]; done)) (Nat.zero_lt_succ _) oa ?_
        simp only [vz, mq, mqm, tyf, mqt, jh, (aE eY), cB, cC, cD, cE, cR, cS, cF, cT, cU, cV, cW, dW, (aA nY), (aJ nZ), oa, nm, seval]
        exact ⟨List.length fP, qZc _, by rw [jL]; refine ⟨fP, bh + 1, aY, (([] : List Glm) ++ [(Glm.mk ak ep aY false)]), .ref (du + 31) 0 (List.length (([] : List Glm) ++ [(Glm.mk ak ep aY false)])) 4 (List.length (([] : List Glm) ++ [(Glm.mk ak ep aY false)])), rfl, Int.le_trans dG (Int.le_add_one (qZf _)), bW dG fa, rfl, (show eN + 23 ≤ du + 37 by omega), ?_, ?_, ?_, ?_, ?_, cB, cC, cD, cE, cR, cS, cF, cT, cU, cV, cW, ?_, Or.inl ⟨du + 31, (some 144), rfl, (by first | omega | (simp only [nm, seval]; done) | (simp only [nm, seval]; omega)), (by first | omega | (intro hh; simp only [jh, reduceCtorEq] at hh)), (by first | omega | (intro hh; simp only [jh, reduceCtorEq] at hh)), (by first | omega | (intro hh; simp only [jh, reduceCtorEq] at hh)), (by first | omega | (intro hh; simp only [jh, reduceCtorEq] at hh)), (by first | omega | (intro hh; simp only [jh, reduceCtorEq] at hh)), ?_⟩, (by first | exact h | (simp only [jh]; exact h))⟩ <;> first | (simp only [ua, ct, jh, cB, cC, cD, cE, cR, cS, cF, cT, cU, cV, cW, dW, nm, seval] <;> rfl) | rfl⟩
       simp only [rV, hs] at h
       have ji := And.intro eP (And.intro fz (And.intro jg (And.intro hP (And.intro hT (And.intro hU (And.intro kh (And.intro ki (And.intro kj (And.intro kl (And.intro km (And.intro BI (And.intro BJ rV))))))))))))
       cases oc : (aC 32 (List.length (([] : List Glm) ++ [(Glm.mk ak ep aY (decide ((bh + 1) < (List.length bU.Signs : Int))))])))
       ·simp only [oc, hs] at h
        exact absurd h jK
       simp only [oc, hs] at h
       simp only [vz, mq, mqm, tyf, mqt, ji, (aE eY), cB, cC, cD, cE, cR, cS, cF, cT, cU, cV, cW, dW, (aA nY), (aJ nZ), oc, nm, seval]
       refine og (w := 4) (enc := cGlm) (ys := ([(Glm.mk ak ep aY (decide ((bh + 1) < (List.length bU.Signs : Int))))])) (fQ := (some 144)) (fun _ => rfl) lf ld Tryz.underlying91 (by first | rfl | assumption | (simp only [bt, bY, gY, ji, nm, seval] <;> rfl) | (simp only [bt, bY, fU, fB, fG, fH, tyf, mqt, ji, (aE eY), cB, cC, cD, cE, cR, cS, cF, cT, cU, cV, cW, dW, (aA nY), (aJ nZ), oc, nm, seval]; done)) (Nat.zero_lt_succ _) oc ?_
       simp only [vz, mq, mqm, tyf, mqt, ji, (aE eY), cB, cC, cD, cE, cR, cS, cF, cT, cU, cV, cW, dW, (aA nY), (aJ nZ), oc, nm, seval]
       exact ⟨List.length fP, qZc _, by rw [jL]; refine ⟨fP, bh + 1, i64.wrap (aY + 1), (([] : List Glm) ++ [(Glm.mk ak ep aY (decide ((bh + 1) < (List.length bU.Signs : Int))))]), .ref (du + 31) 0 (List.length (([] : List Glm) ++ [(Glm.mk ak ep aY (decide ((bh + 1) < (List.length bU.Signs : Int))))])) 4 (List.length (([] : List Glm) ++ [(Glm.mk ak ep aY (decide ((bh + 1) < (List.length bU.Signs : Int))))])), rfl, Int.le_trans dG (Int.le_add_one (qZf _)), bW dG fa, rfl, (show eN + 23 ≤ du + 40 by omega), ?_, ?_, ?_, ?_, ?_, cB, cC, cD, cE, cR, cS, cF, cT, cU, cV, ?_, ?_, Or.inl ⟨du + 31, (some 144), rfl, (by first | omega | (simp only [nm, seval]; done) | (simp only [nm, seval]; omega)), (by first | omega | (intro hh; simp only [ji, reduceCtorEq] at hh)), (by first | omega | (intro hh; simp only [ji, reduceCtorEq] at hh)), (by first | omega | (intro hh; simp only [ji, reduceCtorEq] at hh)), (by first | omega | (intro hh; simp only [ji, reduceCtorEq] at hh)), (by first | omega | (intro hh; simp only [ji, reduceCtorEq] at hh)), ?_⟩, (by first | exact h | (simp only [ji]; exact h))⟩ <;> first | (simp only [ua, ct, ji, cB, cC, cD, cE, cR, cS, cF, cT, cU, cV, cW, dW, nm, seval] <;> rfl) | rfl⟩
    simp only [fz, hs] at h
    simp only [vz, mq, mqm, tyf, mqt, eP, (aE eY), nS, nT, nU, nV, nW, qi, nX, qj, rS, fz, nm, seval]
    exact ⟨List.length jJ, qZc _, by rw [lj]; refine ⟨jJ, ak + 1, eX, ([] : List Glm), .lit (.slice none 0 0), rfl, Int.le_trans eO (Int.le_add_one (qZf _)), bW eO gG, rfl, (show gF + 6 ≤ eN + 9 by omega), ?_, ?_, ?_, ?_, ?_, nS, nT, nU, nV, nX, nW, ?_, Or.inr ⟨rfl, rfl⟩, (by first | exact h | (simp only [eP, fz]; exact h))⟩ <;> first | (simp only [ua, ct, eP, nS, nT, nU, nV, nW, qi, nX, qj, rS, fz, nm, seval] <;> rfl) | rfl⟩
 | cons cG sU =>
  have vn : (decide (fv < (List.length ag.Pairs : Int))) = true := fb nE qd
  have Mi := dZ nE qd
  have BL := fe nE qd lK
  simp only [wF, hs, reduceCtorEq] at h
  have vo := fun H => LA (β := 6) fx (Glp.mk cG.Left cG.Right) cG.Space H
  try simp only [ct] at vo
  simp only [vz, mq, mqm, tyf, mqt, lK, iU, dQ, cg, cZ, dH, dN, dI, ec, nB, mD, Bw, Bx, nq, vn, (cn Mi), BL, vo, nm, seval]
  exact ⟨List.length sU, qZc _, by rw [vg]; refine ⟨sU, fv + 1, (mapSet dV fx (Glp.mk cG.Left cG.Right) cG.Space), rfl, Int.le_trans nE (Int.le_add_one (qZf _)), bW nE qd, rfl, (show 14 ≤ gF + 17 by omega), ?_, ?_, ?_, ?_, ?_, dQ, cg, cZ, dH, dN, dI, ?_, (by first | exact h | (simp only [vn]; exact h))⟩ <;> first | (simp only [ua, ct, iU, dQ, cg, cZ, dH, dN, dI, ec, nB, mD, Bw, Bx, nq, vn, BL, vo, nm, seval] <;> rfl) | rfl⟩
end Go.V
end
section
namespace Go.V
open Go Go.Proofs IntKind
section
variable {K V : Type} {q : K → K → Bool} {z : V}
def getR (q : K → K → Bool) (z : V) (k : K) : List (K × V) → V
 | [] => z
 | e :: l => if q k e.1 then e.2 else getR q z k l
def setR (q : K → K → Bool) (k : K) (v : V) : List (K × V) → List (K × V)
 | [] => [(k, v)]
 | e :: l => if q k e.1 then (k, v) :: l else e :: setR q k v l
theorem CD (k : K) : ∀ (es : List K) (i : Nat), kIdx q k es (i + 1) = (kIdx q k es i).map (· + 1)
 | [], _ => rfl
 | e :: es, i => by
  unfold kIdx
  cases q k e with
  | true => rfl
  | false => exact CD k es (i + 1)
theorem Mj (k : K) : ∀ l : List (K × V), mapGet q z l k = getR q z k l
 | [] => rfl
 | e :: l => by
  have ih := Mj k l
  unfold mapGet at ih ⊢
  rw [List.map_cons]
  unfold kIdx getR
  cases hq : q k e.1 with
  | true => rfl
  | false =>
   simp only [cond_false, Bool.false_eq_true, if_false]
   rw [CD]
   cases h : kIdx q k (l.map (·.1)) 0 with
   | none => rw [h] at ih; exact ih
   | some i => rw [h] at ih; simpa using ih
theorem CF (k : K) (v : V) : ∀ l : List (K × V), mapSet q l k v = setR q k v l
 | [] => rfl
 | e :: l => by
  have ih := CF k v l
  unfold mapSet at ih ⊢
  rw [List.map_cons]
  unfold kIdx setR
  cases hq : q k e.1 with
  | true => rfl
  | false =>
   simp only [cond_false, Bool.false_eq_true, if_false]
   rw [CD]
   cases h : kIdx q k (l.map (·.1)) 0 with
   | none => rw [h] at ih; simpa using ih
   | some i => rw [h] at ih; simpa using ih
theorem Sy (hq : ∀ a b, q a b = true ↔ a = b) (k k' : K) (v : V) : ∀ l : List (K × V), getR q z k' (setR q k v l) = if q k' k then v else getR q z k' l
 | [] => rfl
 | e :: l => by
  have ih := Sy hq k k' v l
  unfold setR
  cases he : q k e.1 with
  | true =>
   have e1 := (hq _ _).1 he
   simp only [if_true, getR, ← e1]
   split <;> rfl
  | false =>
   simp only [Bool.false_eq_true, if_false, getR, ih]
   cases h1 : q k' e.1 with
   | true =>
    have e1 := (hq _ _).1 h1
    have : q k' k = false := by
     cases h2 : q k' k with
     | false => rfl
     | true =>
      have e2 := (hq _ _).1 h2
      rw [e2] at e1
      rw [e1, (hq _ _).2 rfl] at he
      cases he
    rw [this]
    simp
   | false => simp
theorem Hr (hq : ∀ a b, q a b = true ↔ a = b) (k k' : K) (v : V) (l : List (K × V)) : mapGet q z (mapSet q l k v) k' = if q k' k then v else mapGet q z l k' := by
 rw [Mj, Mj, CF, Sy hq]
end
end Go.V
end
