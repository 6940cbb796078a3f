/- Part of a proof: a logic of values by content, lifted functions, what follows. -/
import Derived.Test.YtgdgkkloccpbnaaGreatDoorZbn
import Derived.Test.YtgdgkkloccpbnaaGreatDoorZbo
import Derived.Test.YtgdgkkloccpbnaaGreatDoorZay
import Derived.Test.YtgdgkkloccpbnaaGreatDoorZbf
import Derived.Test.YtgdgkkloccpbnaaGreatDoorProg
set_option linter.all false
set_option maxRecDepth 4000
set_option maxHeartbeats 40000000
section
namespace Go.V
open Go
set_option linter.unusedVariables false
set_option linter.unusedSimpArgs false
theorem with_l0 {n : Int} : ∀ (p : List Int) (c : Int) (a : List Int), a.length + p.length ≤ 1000 → g_law03_with_l0 n p c a = some (.go (a ++ p.takeWhile fun e => decide (e < n)))
 | [], c, a, _ => by simp [g_law03_with_l0]
 | e :: p, c, a, h => by
  rw [List.length_cons] at h
  rw [g_law03_with_l0, List.takeWhile_cons]
  cases decide (e < n) with
  | false => simp
  | true =>
   rw [cond_true, show roomOk 8 (a ++ [e]).length = true by simp [roomOk]; omega, cond_true, with_l0 p (c + 1) _ (by simp; omega)]
   simp
def withL (l : List Int) (n : Int) : List Int := match l.dropWhile fun e => decide (e < n) with
 | [] => (l.takeWhile fun e => decide (e < n)) ++ [n]
 | e :: b => (l.takeWhile fun e => decide (e < n)) ++ [n] ++ (if e == n then b else e :: b)
theorem sliceO_end {α : Type} {a b : List α} {i : Int} (hi : i = a.length) : sliceO (a ++ b) i ((a ++ b).length : Int) = some b := by
 subst hi
 unfold sliceO
 rw [if_pos (by simp only [List.length_append]; omega), show ((a.length : Int)).toNat = a.length by omega, List.drop_left]
 rw [List.take_of_length_le (by simp only [List.length_append]; omega)]
theorem with_eq {l : List Int} {n : Int} (hl : l.length ≤ 1000) : g_law03_with l n = some (withL l n) := by
 have e0 : (l.takeWhile fun e => decide (e < n)) ++ (l.dropWhile fun e => decide (e < n)) = l := List.takeWhile_append_dropWhile
 unfold g_law03_with withL
 rw [lenOk_of (by omega), cond_true, with_l0 l 0 [] (by simp; omega), List.nil_append]
 show cond _ _ _ = _
 generalize hA : (l.takeWhile fun e => decide (e < n)) = a at e0
 generalize hB : (l.dropWhile fun e => decide (e < n)) = b at e0
 have hlen : a.length + b.length = l.length := by rw [← e0, List.length_append]
 rw [show roomOk 8 (a ++ [n]).length = true by simp [roomOk]; omega, cond_true]
 cases b with
 | nil =>
  rw [List.append_nil] at e0
  subst e0
  have hs : sliceO a (a.length : Int) (a.length : Int) = some [] := by
   have := sliceO_end (a := a) (b := []) rfl
   rwa [List.append_nil] at this
  rw [decide_eq_false (by omega), cond_false, hs]
  rfl
 | cons e b =>
  simp only [List.length_cons] at hlen
  have hg : getI l (a.length : Int) = some e := by
   rw [← e0]
   exact getI_of_drop (by omega) (post := b) (by simp)
  have hs1 : sliceO l ((a.length : Int) + 1) (l.length : Int) = some b := by
   have := sliceO_end (a := a ++ [e]) (b := b) (i := (a.length : Int) + 1) (by simp)
   rw [List.append_assoc, List.singleton_append, e0] at this
   exact this
  have hs2 : sliceO l (a.length : Int) (l.length : Int) = some (e :: b) := by
   have := sliceO_end (a := a) (b := e :: b) (i := (a.length : Int)) rfl
   rw [e0] at this
   exact this
  rw [decide_eq_true (by omega), cond_true, hg, Option.bind_some, wrap_eq (by omega) (by omega), hs1, hs2]
  show _ = some (a ++ [n] ++ (if (e == n) = true then b else e :: b))
  cases he : e == n with
  | true =>
   rw [cond_true, Option.bind_some, if_pos rfl]
   cases b with
   | nil => simp [neB]
   | cons c b =>
    rw [show neB (c :: b) = true from rfl, cond_true, show roomOk 8 (a ++ [n] ++ (c :: b)).length = true by simp [roomOk] at *; omega, cond_true]
  | false =>
   rw [cond_false, Option.bind_some, show neB (e :: b) = true from rfl, cond_true, show roomOk 8 (a ++ [n] ++ (e :: b)).length = true by simp [roomOk] at *; omega, cond_true, if_neg (by simp)]
theorem withL_mem {l : List Int} {n d : Int} : d ∈ withL l n ↔ d ∈ l ∨ d = n := by
 have e0 : (l.takeWhile fun e => decide (e < n)) ++ (l.dropWhile fun e => decide (e < n)) = l := List.takeWhile_append_dropWhile
 unfold withL
 generalize (l.takeWhile fun e => decide (e < n)) = a at e0
 generalize (l.dropWhile fun e => decide (e < n)) = b at e0
 rw [← e0]
 cases b with
 | nil => simp
 | cons e b =>
  cases he : e == n with
  | true =>
   have := beq_iff_eq.1 he
   subst this
   simp
   exact fun h => .inr (.inl h)
  | false =>
   simp [he]
   constructor
   ·rintro (h | h | h | h) <;> simp [h]
   ·rintro ((h | h | h) | h) <;> simp [h]
theorem pw_up : ∀ {l : List Int}, l.Pairwise (· < ·) → upB l = true
 | [], _ => rfl
 | [a], _ => rfl
 | a :: b :: l, h => by
  obtain ⟨h1, h2⟩ := List.pairwise_cons.1 h
  rw [upB_cons, decide_eq_true (h1 b (by simp)), pw_up h2]
  rfl
theorem withL_up {l : List Int} {n : Int} (h : upB l = true) : upB (withL l n) = true := by
 have hp := up_pw h
 have e0 : (l.takeWhile fun e => decide (e < n)) ++ (l.dropWhile fun e => decide (e < n)) = l := List.takeWhile_append_dropWhile
 have ha : ∀ x ∈ (l.takeWhile fun e => decide (e < n)), x < n := fun x hx => by
  have := List.all_eq_true.1 List.all_takeWhile x hx
  exact of_decide_eq_true this
 have hb : ∀ e b, (l.dropWhile fun e => decide (e < n)) = e :: b → n ≤ e := fun e b he => by
  have := List.head_dropWhile_not (fun e => decide (e < n)) (l := l) (by rw [he]; simp)
  simp only [he, List.head_cons, decide_eq_false_iff_not] at this
  omega
 refine pw_up ?_
 unfold withL
 generalize (l.takeWhile fun e => decide (e < n)) = a at e0 ha
 generalize (l.dropWhile fun e => decide (e < n)) = b at e0 hb
 rw [← e0] at hp
 obtain ⟨p1, p2, p3⟩ := List.pairwise_append.1 hp
 cases b with
 | nil =>
  exact List.pairwise_append.2 ⟨p1, List.pairwise_singleton _ _, fun x hx y hy => by rw [List.mem_singleton.1 hy]; exact ha x hx⟩
 | cons e b =>
  obtain ⟨p4, p5⟩ := List.pairwise_cons.1 p2
  have hne := hb e b rfl
  show (a ++ [n] ++ (if e == n then b else e :: b)).Pairwise _
  rw [List.append_assoc, List.singleton_append]
  have hall : ∀ y ∈ (if e == n then b else e :: b), n < y := fun y hy => by
   cases he : e == n with
   | true =>
    rw [he, if_pos rfl] at hy
    have := p4 y hy
    omega
   | false =>
    rw [he, if_neg (by simp)] at hy
    have hne2 : e ≠ n := by simpa using he
    rcases List.mem_cons.1 hy with rfl | hy
    ·omega
    ·have := p4 y hy
     omega
  refine List.pairwise_append.2 ⟨p1, List.pairwise_cons.2 ⟨hall, ?_⟩, fun x hx y hy => ?_⟩
  ·split
   ·exact p5
   ·exact p2
  ·have := ha x hx
   rcases List.mem_cons.1 hy with rfl | hy
   ·exact this
   ·have := hall y hy
    omega
end Go.V
end
section
namespace Go.V
open Go
set_option linter.unusedVariables false
set_option linter.unusedSimpArgs false
def leC : List GCoatCoat → List GCoatCoat → Prop
 | [], [] => True
 | k :: a, j :: b => j.Need ≤ k.Need ∧ k.Peel ≤ j.Peel ∧ leC a b
 | _, _ => False
theorem leC_refl : ∀ a, leC a a
 | [] => trivial
 | k :: a => ⟨Int.le_refl _, Int.le_refl _, leC_refl a⟩
theorem leC_set : ∀ (a : List GCoatCoat) (k : Nat) (j : GCoatCoat), (∀ c, a[k]? = some c → j.Need ≤ c.Need ∧ c.Peel ≤ j.Peel) → leC a (a.set k j)
 | [], _, _, _ => trivial
 | c :: a, 0, j, h => by
  have := h c rfl
  exact ⟨this.1, this.2, leC_refl a⟩
 | c :: a, k + 1, j, h => ⟨Int.le_refl _, Int.le_refl _, leC_set a k j (fun c hc => h c (by simpa using hc))⟩
theorem inD_set : ∀ (a : List GSpan) (k : Nat) (j : GSpan), (∀ c, a[k]? = some c → c.Low ≤ j.Low ∧ j.High ≤ c.High) → inD a (a.set k j)
 | [], _, _, _ => trivial
 | c :: a, 0, j, h => by
  have := h c rfl
  exact ⟨this.1, this.2, inD_refl a⟩
 | c :: a, k + 1, j, h => ⟨Int.le_refl _, Int.le_refl _, inD_set a k j (fun c hc => h c (by simpa using hc))⟩
theorem failW_leC {lo hi : Int → Int} {n : Int} : ∀ (p : List Int) (cs ds : List GCoatCoat) (i : Int), leC cs ds → (failW lo hi n p cs i).isNone = true → (failW lo hi n p ds i).isNone = true
 | [], cs, ds, i, _, _ => by simp [failW]
 | a :: p, [], [], i, _, h => h
 | a :: p, c :: cs, d :: ds, i, h, hn => by
  obtain ⟨g1, g2, g3⟩ := h
  rw [failW] at hn ⊢
  by_cases h1 : lo (p.headD n) - lo a < c.Need
  ·simp only [h1, decide_true, cond_true] at hn
   cases hn
  ·have h1' : ¬ (lo (p.headD n) - lo a < d.Need) := by omega
   simp only [h1, h1', decide_false, cond_false] at hn ⊢
   cases p with
   | nil => simp [failW]
   | cons b p =>
    simp only [List.isEmpty_cons, Bool.not_false, Bool.true_and] at hn ⊢
    by_cases h2 : hi ((b :: p).headD n) - hi a > c.Peel
    ·simp only [h2, decide_true, cond_true] at hn
     cases hn
    ·have h2' : ¬ (hi ((b :: p).headD n) - hi a > d.Peel) := by omega
     simp only [h2, h2', decide_false, cond_false] at hn ⊢
     exact failW_leC (lo := lo) (hi := hi) (n := n) (b :: p) cs ds (i + 1) g3 hn
structure Eas (s x : GCoatSheet) : Prop where
 dl : x.Dry.length = s.Dry.length
 cl : x.Coats.length = s.Coats.length
 di : inD s.Dry x.Dry
 w : ∀ d ∈ s.Work, d ∈ x.Work
 c : leC s.Coats x.Coats
theorem Eas.plan {s x : GCoatSheet} (h : Eas s x) {q : List Int} (hq : planB s q = true) : planB x q = true := by
 unfold planB at hq ⊢
 simp only [Bool.and_eq_true, decide_eq_true_eq, List.all_eq_true, List.contains_iff_mem] at hq ⊢
 refine ⟨⟨by rw [h.cl]; exact hq.1.1, by rw [h.dl]; exact hq.1.2⟩, fun d hd => h.w d (hq.2 d hd)⟩
theorem Eas.sure {s x : GCoatSheet} (h : Eas s x) (hS : ShOk s) {q : List Int} (hq : planB s q = true) (hs : sureB s.Dry s.Coats q = true) : sureB x.Dry x.Coats q = true := by
 have h1 := sure_in h.dl.symm (VP.ofS hS hq) h.di hs
 unfold sureB worstW at h1 ⊢
 exact failW_leC _ _ _ _ h.c h1
theorem Eas.count {s x : GCoatSheet} (h : Eas s x) (hS : ShOk s) {L M : List (List Int)} (hL : PlansL s L) (hM : PlansL x M) : L.length ≤ M.length ∧ ∀ q ∈ L, q ∈ M := by
 have hsub : ∀ q ∈ L, q ∈ M := fun q hq => by
  have := (hL.mem q).1 hq
  exact (hM.mem q).2 ⟨h.plan this.1, h.sure hS this.1 this.2⟩
 refine ⟨?_, hsub⟩
 have he : M.filter (fun q => planB s q && sureB s.Dry s.Coats q) = L := by
  refine eq_of_sorted (r := lexL) (fun _ => lexL_irrefl) (fun _ _ _ => lexL_trans) _ _ (hM.pw.filter _) hL.pw fun y => ?_
  rw [List.mem_filter, hL.mem]
  simp only [Bool.and_eq_true]
  exact ⟨fun hh => hh.2, fun hh => ⟨hsub y ((hL.mem y).2 hh), hh⟩⟩
 rw [← he]
 exact List.length_filter_le _ _
def quiQ (q : List Int) : Int := (q.getLast?.getD 0) - (q.head?.getD 0)
theorem length_eq {q : List Int} (h1 : 1 ≤ q.length) (h2 : q.length ≤ 5) (hr : ∀ d ∈ q, 0 ≤ d ∧ d ≤ 12) : g_coat_length q = some (quiQ q) := by
 cases q with
 | nil => simp at h1
 | cons a l =>
  obtain ⟨z, hz⟩ : ∃ z, (a :: l).getLast? = some z := ⟨_, List.getLast?_cons⟩
  have mz : z ∈ a :: l := List.mem_of_getLast? hz
  have b1 := hr z mz
  have b2 := hr a (by simp)
  unfold g_coat_length quiQ
  rw [getI_last (by simp) (by simp only [List.length_cons] at h2 ⊢; omega), hz, Option.bind_some, show getI (a :: l) 0 = some a from rfl, Option.bind_some, wrap_eq (by omega) (by omega)]
  rfl
theorem quick_eq {s : GCoatSheet} (hs : OkS s) (h1 : sheetB s = true) {L : List (List Int)} (hP : PlansL s L) : (L = [] ∧ g_coat_Quick s = some (0, 5)) ∨ (∃ q, g_coat_Quick s = some (quiQ q, 0) ∧ q ∈ L ∧ ∀ x ∈ L, quiQ q ≤ quiQ x) := by
 have hS := ShOk.of h1
 have hc := hS.c
 have hd := hS.dk.l
 have e0 : ∀ r, bestO g_coat_Quick_1 L ([], false) = some r → g_coat_Quick s = cond r.2 (Option.bind (g_coat_length r.1) fun n => some (n, 0)) (some (0, 5)) := by
  intro r hr
  unfold g_coat_Quick
  rw [isSheet_eq hs, h1, Option.bind_some, cond_true, summed_of hS.dk, Option.bind_some, hP.it, Option.bind_some, hr, Option.bind_some]
 have hlq : ∀ q ∈ L, g_coat_length q = some (quiQ q) := fun q hq => by
  have hv := VP.of h1 ((hP.mem q).1 hq).1
  exact length_eq (by rw [hv.l]; omega) (by rw [hv.l]; omega) (fun d hd2 => by have := hv.r d hd2; omega)
 cases hL : L with
 | nil => exact .inl ⟨rfl, e0 ([], false) (by rw [hL]; rfl)⟩
 | cons y M =>
  right
  have hb : ∀ a, a ∈ y :: M → ∀ c, c ∈ y :: M → g_coat_Quick_1 a c = some (decide (quiQ a < quiQ c)) := by
   intro a ha c hcc
   rw [← hL] at ha hcc
   unfold g_coat_Quick_1
   rw [hlq a ha, hlq c hcc]
   rfl
  obtain ⟨q, hq, hqm, hqx⟩ := bestO_some (f := quiQ) hb (by rw [← hL]; exact hP.pw)
  refine ⟨q, ?_, hqm, fun x hx => (hqx x hx).1⟩
  rw [e0 (q, true) (by rw [hL]; exact hq), cond_true, hlq q (by rw [hL]; exact hqm)]
  rfl
end Go.V
end
section
namespace Go.V
open Go Go.Proofs
theorem hmix : Tryz.prog.follows .mixedOrders = true := by kernel_rfl
def kA : VV := (Go.V.VV.agg [(Go.V.VV.sl [(Go.V.VV.lit (Go.Value.int Go.IntKind.i64 (Int.ofNat 6))), (Go.V.VV.lit (Go.Value.int Go.IntKind.i64 (Int.ofNat 8))), (Go.V.VV.lit (Go.Value.int Go.IntKind.i64 (Int.ofNat 4))), (Go.V.VV.lit (Go.Value.int Go.IntKind.i64 (Int.ofNat 6))), (Go.V.VV.lit (Go.Value.int Go.IntKind.i64 (Int.ofNat 8))), (Go.V.VV.lit (Go.Value.int Go.IntKind.i64 (Int.ofNat 10))), (Go.V.VV.lit (Go.Value.int Go.IntKind.i64 (Int.ofNat 2))), (Go.V.VV.lit (Go.Value.int Go.IntKind.i64 (Int.ofNat 4))), (Go.V.VV.lit (Go.Value.int Go.IntKind.i64 (Int.ofNat 6))), (Go.V.VV.lit (Go.Value.int Go.IntKind.i64 (Int.ofNat 6))), (Go.V.VV.lit (Go.Value.int Go.IntKind.i64 (Int.ofNat 5))), (Go.V.VV.lit (Go.Value.int Go.IntKind.i64 (Int.ofNat 9))), (Go.V.VV.lit (Go.Value.int Go.IntKind.i64 (Int.ofNat 8))), (Go.V.VV.lit (Go.Value.int Go.IntKind.i64 (Int.ofNat 12))), (Go.V.VV.lit (Go.Value.int Go.IntKind.i64 (Int.ofNat 4))), (Go.V.VV.lit (Go.Value.int Go.IntKind.i64 (Int.ofNat 4)))] 8 Bool.false), (Go.V.VV.sl [(Go.V.VV.lit (Go.Value.int Go.IntKind.i64 (Int.ofNat 0))), (Go.V.VV.lit (Go.Value.int Go.IntKind.i64 (Int.ofNat 2))), (Go.V.VV.lit (Go.Value.int Go.IntKind.i64 (Int.ofNat 3))), (Go.V.VV.lit (Go.Value.int Go.IntKind.i64 (Int.ofNat 5))), (Go.V.VV.lit (Go.Value.int Go.IntKind.i64 (Int.ofNat 6)))] 5 Bool.false), (Go.V.VV.sl [(Go.V.VV.lit (Go.Value.int Go.IntKind.i64 (Int.ofNat 9))), (Go.V.VV.lit (Go.Value.int Go.IntKind.i64 (Int.ofNat 20))), (Go.V.VV.lit (Go.Value.int Go.IntKind.i64 (Int.ofNat 10))), (Go.V.VV.lit (Go.Value.int Go.IntKind.i64 (Int.ofNat 20))), (Go.V.VV.lit (Go.Value.int Go.IntKind.i64 (Int.ofNat 8))), (Go.V.VV.lit (Go.Value.int Go.IntKind.i64 (Int.ofNat 30)))] 3 Bool.false)])
def kB : VV := (Go.V.VV.agg [(Go.V.VV.sl [(Go.V.VV.lit (Go.Value.int Go.IntKind.i64 (Int.ofNat 6))), (Go.V.VV.lit (Go.Value.int Go.IntKind.i64 (Int.ofNat 8))), (Go.V.VV.lit (Go.Value.int Go.IntKind.i64 (Int.ofNat 4))), (Go.V.VV.lit (Go.Value.int Go.IntKind.i64 (Int.ofNat 6))), (Go.V.VV.lit (Go.Value.int Go.IntKind.i64 (Int.ofNat 8))), (Go.V.VV.lit (Go.Value.int Go.IntKind.i64 (Int.ofNat 10))), (Go.V.VV.lit (Go.Value.int Go.IntKind.i64 (Int.ofNat 2))), (Go.V.VV.lit (Go.Value.int Go.IntKind.i64 (Int.ofNat 4))), (Go.V.VV.lit (Go.Value.int Go.IntKind.i64 (Int.ofNat 6))), (Go.V.VV.lit (Go.Value.int Go.IntKind.i64 (Int.ofNat 6))), (Go.V.VV.lit (Go.Value.int Go.IntKind.i64 (Int.ofNat 5))), (Go.V.VV.lit (Go.Value.int Go.IntKind.i64 (Int.ofNat 9))), (Go.V.VV.lit (Go.Value.int Go.IntKind.i64 (Int.ofNat 8))), (Go.V.VV.lit (Go.Value.int Go.IntKind.i64 (Int.ofNat 12))), (Go.V.VV.lit (Go.Value.int Go.IntKind.i64 (Int.ofNat 4))), (Go.V.VV.lit (Go.Value.int Go.IntKind.i64 (Int.ofNat 4)))] 8 Bool.false), (Go.V.VV.sl [(Go.V.VV.lit (Go.Value.int Go.IntKind.i64 (Int.ofNat 0))), (Go.V.VV.lit (Go.Value.int Go.IntKind.i64 (Int.ofNat 2))), (Go.V.VV.lit (Go.Value.int Go.IntKind.i64 (Int.ofNat 3))), (Go.V.VV.lit (Go.Value.int Go.IntKind.i64 (Int.ofNat 5))), (Go.V.VV.lit (Go.Value.int Go.IntKind.i64 (Int.ofNat 6)))] 5 Bool.false), (Go.V.VV.sl [(Go.V.VV.lit (Go.Value.int Go.IntKind.i64 (Int.ofNat 9))), (Go.V.VV.lit (Go.Value.int Go.IntKind.i64 (Int.ofNat 20))), (Go.V.VV.lit (Go.Value.int Go.IntKind.i64 (Int.ofNat 10))), (Go.V.VV.lit (Go.Value.int Go.IntKind.i64 (Int.ofNat 18))), (Go.V.VV.lit (Go.Value.int Go.IntKind.i64 (Int.ofNat 8))), (Go.V.VV.lit (Go.Value.int Go.IntKind.i64 (Int.ofNat 30)))] 3 Bool.false)])
def kE : VV := (Go.V.VV.agg [(Go.V.VV.sl [(Go.V.VV.lit (Go.Value.int Go.IntKind.i64 (Int.ofNat 6))), (Go.V.VV.lit (Go.Value.int Go.IntKind.i64 (Int.ofNat 8))), (Go.V.VV.lit (Go.Value.int Go.IntKind.i64 (Int.ofNat 4))), (Go.V.VV.lit (Go.Value.int Go.IntKind.i64 (Int.ofNat 6))), (Go.V.VV.lit (Go.Value.int Go.IntKind.i64 (Int.ofNat 8))), (Go.V.VV.lit (Go.Value.int Go.IntKind.i64 (Int.ofNat 10))), (Go.V.VV.lit (Go.Value.int Go.IntKind.i64 (Int.ofNat 2))), (Go.V.VV.lit (Go.Value.int Go.IntKind.i64 (Int.ofNat 4))), (Go.V.VV.lit (Go.Value.int Go.IntKind.i64 (Int.ofNat 6))), (Go.V.VV.lit (Go.Value.int Go.IntKind.i64 (Int.ofNat 6))), (Go.V.VV.lit (Go.Value.int Go.IntKind.i64 (Int.ofNat 5))), (Go.V.VV.lit (Go.Value.int Go.IntKind.i64 (Int.ofNat 9))), (Go.V.VV.lit (Go.Value.int Go.IntKind.i64 (Int.ofNat 8))), (Go.V.VV.lit (Go.Value.int Go.IntKind.i64 (Int.ofNat 12))), (Go.V.VV.lit (Go.Value.int Go.IntKind.i64 (Int.ofNat 4))), (Go.V.VV.lit (Go.Value.int Go.IntKind.i64 (Int.ofNat 4)))] 8 Bool.false), (Go.V.VV.sl [(Go.V.VV.lit (Go.Value.int Go.IntKind.i64 (Int.ofNat 0))), (Go.V.VV.lit (Go.Value.int Go.IntKind.i64 (Int.ofNat 1))), (Go.V.VV.lit (Go.Value.int Go.IntKind.i64 (Int.ofNat 2))), (Go.V.VV.lit (Go.Value.int Go.IntKind.i64 (Int.ofNat 3))), (Go.V.VV.lit (Go.Value.int Go.IntKind.i64 (Int.ofNat 4))), (Go.V.VV.lit (Go.Value.int Go.IntKind.i64 (Int.ofNat 5))), (Go.V.VV.lit (Go.Value.int Go.IntKind.i64 (Int.ofNat 6))), (Go.V.VV.lit (Go.Value.int Go.IntKind.i64 (Int.ofNat 7)))] 8 Bool.false), (Go.V.VV.sl [(Go.V.VV.lit (Go.Value.int Go.IntKind.i64 (Int.ofNat 9))), (Go.V.VV.lit (Go.Value.int Go.IntKind.i64 (Int.ofNat 20))), (Go.V.VV.lit (Go.Value.int Go.IntKind.i64 (Int.ofNat 10))), (Go.V.VV.lit (Go.Value.int Go.IntKind.i64 (Int.ofNat 20))), (Go.V.VV.lit (Go.Value.int Go.IntKind.i64 (Int.ofNat 8))), (Go.V.VV.lit (Go.Value.int Go.IntKind.i64 (Int.ofNat 30)))] 3 Bool.false)])
def kHolds : VV := (Go.V.VV.tup [(Go.V.VV.lit (Go.Value.bool Bool.false)), (Go.V.VV.lit (Go.Value.int Go.IntKind.i64 (Int.ofNat 0)))])
def kWord : VV := (Go.V.VV.tup [(Go.V.VV.lit (Go.Value.int Go.IntKind.i64 (Int.ofNat 1))), (Go.V.VV.lit (Go.Value.int Go.IntKind.i64 (Int.ofNat 0)))])
def kFails : VV := (Go.V.VV.tup [(Go.V.VV.lit (Go.Value.int Go.IntKind.i64 (Int.ofNat 0))), (Go.V.VV.lit (Go.Value.int Go.IntKind.i64 (Int.ofNat 2))), (Go.V.VV.lit (Go.Value.int Go.IntKind.i64 (Int.ofNat 0)))])
def kProof : VV := (Go.V.VV.tup [(Go.V.VV.sl [(Go.V.VV.lit (Go.Value.int Go.IntKind.i64 (Int.ofNat 6))), (Go.V.VV.lit (Go.Value.int Go.IntKind.i64 (Int.ofNat 5))), (Go.V.VV.lit (Go.Value.int Go.IntKind.i64 (Int.ofNat 10))), (Go.V.VV.lit (Go.Value.int Go.IntKind.i64 (Int.ofNat 2))), (Go.V.VV.lit (Go.Value.int Go.IntKind.i64 (Int.ofNat 6))), (Go.V.VV.lit (Go.Value.int Go.IntKind.i64 (Int.ofNat 5))), (Go.V.VV.lit (Go.Value.int Go.IntKind.i64 (Int.ofNat 8))), (Go.V.VV.lit (Go.Value.int Go.IntKind.i64 (Int.ofNat 4)))] 8 Bool.false), (Go.V.VV.lit (Go.Value.int Go.IntKind.i64 (Int.ofNat 0)))])
def kFirst : VV := (Go.V.VV.tup [(Go.V.VV.sl [(Go.V.VV.lit (Go.Value.int Go.IntKind.i64 (Int.ofNat 0))), (Go.V.VV.lit (Go.Value.int Go.IntKind.i64 (Int.ofNat 2))), (Go.V.VV.lit (Go.Value.int Go.IntKind.i64 (Int.ofNat 5)))] 3 Bool.false), (Go.V.VV.lit (Go.Value.int Go.IntKind.i64 (Int.ofNat 0)))])
def kCount : VV := (Go.V.VV.tup [(Go.V.VV.lit (Go.Value.int Go.IntKind.i64 (Int.ofNat 5))), (Go.V.VV.lit (Go.Value.int Go.IntKind.i64 (Int.ofNat 0)))])
def kDays : VV := (Go.V.VV.tup [(Go.V.VV.sl [(Go.V.VV.lit (Go.Value.int Go.IntKind.i64 (Int.ofNat 2))), (Go.V.VV.lit (Go.Value.int Go.IntKind.i64 (Int.ofNat 3))), (Go.V.VV.lit (Go.Value.int Go.IntKind.i64 (Int.ofNat 4)))] 3 Bool.false), (Go.V.VV.lit (Go.Value.int Go.IntKind.i64 (Int.ofNat 0)))])
def kLate : VV := (Go.V.VV.tup [(Go.V.VV.lit (Go.Value.int Go.IntKind.i64 (Int.ofNat 2))), (Go.V.VV.lit (Go.Value.int Go.IntKind.i64 (Int.ofNat 0)))])
def kQuick : VV := (Go.V.VV.tup [(Go.V.VV.lit (Go.Value.int Go.IntKind.i64 (Int.ofNat 4))), (Go.V.VV.lit (Go.Value.int Go.IntKind.i64 (Int.ofNat 0)))])
def kStuck : VV := (Go.V.VV.tup [(Go.V.VV.lit (Go.Value.int Go.IntKind.i64 (Int.ofNat 2))), (Go.V.VV.lit (Go.Value.int Go.IntKind.i64 (Int.ofNat 0)))])
def kSlack : VV := (Go.V.VV.tup [(Go.V.VV.lit (Go.Value.int Go.IntKind.i64 (Int.ofNat 2))), (Go.V.VV.lit (Go.Value.int Go.IntKind.i64 (Int.ofNat 0)))])
def kMend : VV := (Go.V.VV.tup [(Go.V.VV.sl [(Go.V.VV.lit (Go.Value.int Go.IntKind.i64 (Int.ofNat 0))), (Go.V.VV.lit (Go.Value.int Go.IntKind.i64 (Int.ofNat 2))), (Go.V.VV.lit (Go.Value.int Go.IntKind.i64 (Int.ofNat 4)))] 3 Bool.false), (Go.V.VV.lit (Go.Value.int Go.IntKind.i64 (Int.ofNat 2))), (Go.V.VV.lit (Go.Value.int Go.IntKind.i64 (Int.ofNat 0)))])
def kRead : VV := (Go.V.VV.tup [(Go.V.VV.agg [(Go.V.VV.sl [(Go.V.VV.lit (Go.Value.int Go.IntKind.i64 (Int.ofNat 1))), (Go.V.VV.lit (Go.Value.int Go.IntKind.i64 (Int.ofNat 2)))] 1 Bool.false), (Go.V.VV.sl [(Go.V.VV.lit (Go.Value.int Go.IntKind.i64 (Int.ofNat 0)))] 1 Bool.false), (Go.V.VV.sl [(Go.V.VV.lit (Go.Value.int Go.IntKind.i64 (Int.ofNat 1))), (Go.V.VV.lit (Go.Value.int Go.IntKind.i64 (Int.ofNat 3)))] 1 Bool.false)]), (Go.V.VV.lit (Go.Value.int Go.IntKind.i64 (Int.ofNat 0)))])
end Go.V
end
section
namespace Go.V
open Go Go.Proofs
theorem pA : VPure Tryz.prog G0 52 [] (.tree kA) := VPure.closedB hmix 1000 (by kernel_rfl)
theorem pB : VPure Tryz.prog G0 55 [] (.tree kB) := VPure.closedB hmix 1000 (by kernel_rfl)
theorem pE : VPure Tryz.prog G0 54 [] (.tree kE) := VPure.closedB hmix 1000 (by kernel_rfl)
theorem pHolds : VPure Tryz.prog G0 51 [kA, .sl [.lit (.int .i64 (0)), .lit (.int .i64 (3)), .lit (.int .i64 (6))] 3 false, .sl [.lit (.int .i64 (6)), .lit (.int .i64 (5)), .lit (.int .i64 (10)), .lit (.int .i64 (2)), .lit (.int .i64 (6)), .lit (.int .i64 (5)), .lit (.int .i64 (8)), .lit (.int .i64 (4))] 8 false] (.tree kHolds) := VPure.closedB hmix 1000 (by kernel_rfl)
theorem pWord : VPure Tryz.prog G0 53 [kA, .sl [.lit (.int .i64 (3)), .lit (.int .i64 (5)), .lit (.int .i64 (6))] 3 false] (.tree kWord) := VPure.closedB hmix 1000 (by kernel_rfl)
theorem pFails : VPure Tryz.prog G0 47 [kA, .sl [.lit (.int .i64 (0)), .lit (.int .i64 (3)), .lit (.int .i64 (6))] 3 false] (.tree kFails) := VPure.closedB hmix 1000 (by kernel_rfl)
end Go.V
end
section
namespace Go.V
open Go Go.Proofs
theorem pProof : VPure Tryz.prog G0 48 [kA, .sl [.lit (.int .i64 (0)), .lit (.int .i64 (3)), .lit (.int .i64 (6))] 3 false] (.tree kProof) := VPure.closedB hmix 1000 (by kernel_rfl)
end Go.V
end
section
namespace Go.V
open Go Go.Proofs
theorem pFirst : VPure Tryz.prog G0 17 [kA] (.tree kFirst) := VPure.closedB hmix 1000 (by kernel_rfl)
end Go.V
end
section
namespace Go.V
open Go Go.Proofs
theorem pCount : VPure Tryz.prog G0 18 [kE] (.tree kCount) := VPure.closedB hmix 1000 (by kernel_rfl)
end Go.V
end
section
namespace Go.V
open Go Go.Proofs
theorem pDays : VPure Tryz.prog G0 26 [kE, .lit (.int .i64 (1))] (.tree kDays) := VPure.closedB hmix 1000 (by kernel_rfl)
end Go.V
end
section
namespace Go.V
open Go Go.Proofs
theorem pLate : VPure Tryz.prog G0 27 [kE] (.tree kLate) := VPure.closedB hmix 1000 (by kernel_rfl)
end Go.V
end
section
namespace Go.V
open Go Go.Proofs
theorem pQuick : VPure Tryz.prog G0 28 [kE] (.tree kQuick) := VPure.closedB hmix 1000 (by kernel_rfl)
end Go.V
end
section
namespace Go.V
open Go Go.Proofs
theorem pStuck : VPure Tryz.prog G0 34 [kB] (.tree kStuck) := VPure.closedB hmix 1000 (by kernel_rfl)
end Go.V
end
section
namespace Go.V
open Go Go.Proofs
theorem pSlack : VPure Tryz.prog G0 38 [kB] (.tree kSlack) := VPure.closedB hmix 1000 (by kernel_rfl)
end Go.V
end
section
namespace Go.V
open Go Go.Proofs
theorem pMend : VPure Tryz.prog G0 41 [kE, .sl [.lit (.int .i64 (0)), .lit (.int .i64 (3)), .lit (.int .i64 (6))] 3 false, .lit (.int .i64 (1))] (.tree kMend) := VPure.closedB hmix 1000 (by kernel_rfl)
end Go.V
end
section
namespace Go.V
open Go Go.Proofs
theorem pRead : VPure Tryz.prog G0 56 [.lit (.string ⟨⟨[100, 97, 121, 32, 49, 32, 50, 32, 121, 101, 115, 10, 99, 111, 97, 116, 32, 49, 32, 51, 10, 101, 110, 100, 32, 49, 48, 52, 10]⟩⟩)] (.tree kRead) := VPure.closedB hmix 1000 (by kernel_rfl)
end Go.V
end
section
namespace Go.V
open Go Go.Proofs
def kTab : KTab := [
  (52, [], kA),
  (55, [], kB),
  (54, [], kE),
  (51, [kA, .sl [.lit (.int .i64 (0)), .lit (.int .i64 (3)), .lit (.int .i64 (6))] 3 false, .sl [.lit (.int .i64 (6)), .lit (.int .i64 (5)), .lit (.int .i64 (10)), .lit (.int .i64 (2)), .lit (.int .i64 (6)), .lit (.int .i64 (5)), .lit (.int .i64 (8)), .lit (.int .i64 (4))] 8 false], kHolds),
  (53, [kA, .sl [.lit (.int .i64 (3)), .lit (.int .i64 (5)), .lit (.int .i64 (6))] 3 false], kWord),
  (47, [kA, .sl [.lit (.int .i64 (0)), .lit (.int .i64 (3)), .lit (.int .i64 (6))] 3 false], kFails),
  (48, [kA, .sl [.lit (.int .i64 (0)), .lit (.int .i64 (3)), .lit (.int .i64 (6))] 3 false], kProof),
  (17, [kA], kFirst),
  (18, [kE], kCount),
  (26, [kE, .lit (.int .i64 (1))], kDays),
  (27, [kE], kLate),
  (28, [kE], kQuick),
  (34, [kB], kStuck),
  (38, [kB], kSlack),
  (41, [kE, .sl [.lit (.int .i64 (0)), .lit (.int .i64 (3)), .lit (.int .i64 (6))] 3 false, .lit (.int .i64 (1))], kMend),
  (56, [.lit (.string ⟨⟨[100, 97, 121, 32, 49, 32, 50, 32, 121, 101, 115, 10, 99, 111, 97, 116, 32, 49, 32, 51, 10, 101, 110, 100, 32, 49, 48, 52, 10]⟩⟩)], kRead)]
theorem kTabOk : KTabOk Tryz.prog G0 kTab := ⟨⟨by kernel_rfl, pA⟩, ⟨⟨by kernel_rfl, pB⟩, ⟨⟨by kernel_rfl, pE⟩, ⟨⟨by kernel_rfl, pHolds⟩, ⟨⟨by kernel_rfl, pWord⟩, ⟨⟨by kernel_rfl, pFails⟩, ⟨⟨by kernel_rfl, pProof⟩, ⟨⟨by kernel_rfl, pFirst⟩, ⟨⟨by kernel_rfl, pCount⟩, ⟨⟨by kernel_rfl, pDays⟩, ⟨⟨by kernel_rfl, pLate⟩, ⟨⟨by kernel_rfl, pQuick⟩, ⟨⟨by kernel_rfl, pStuck⟩, ⟨⟨by kernel_rfl, pSlack⟩, ⟨⟨by kernel_rfl, pMend⟩, ⟨⟨by kernel_rfl, pRead⟩, trivial⟩⟩⟩⟩⟩⟩⟩⟩⟩⟩⟩⟩⟩⟩⟩⟩
theorem pKnown : VPure Tryz.prog G0 16 [] (.tree (.lit (.bool true))) := VPure.closedT hmix kTabOk 1000 (by kernel_rfl)
#print axioms pKnown
end Go.V
end
section
namespace Go.V
open Go Go.Proofs
theorem g_law03_known_ok : VPure Tryz.prog G0 16 [] (.tree (.lit (.bool true))) := pKnown
end Go.V
end
