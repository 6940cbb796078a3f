/- Part of a proof: a logic of values by content, lifted functions, what follows. -/
import Derived.Test.YtgdgkkloccpbnaaGreatDoorRbn
import Derived.Test.YtgdgkkloccpbnaaGreatDoorRbo
import Derived.Test.YtgdgkkloccpbnaaGreatDoorRbh
import Derived.Test.YtgdgkkloccpbnaaGreatDoorRay
import Derived.Test.YtgdgkkloccpbnaaGreatDoorRbf
import Derived.Test.YtgdgkkloccpbnaaGreatDoorProg
set_option linter.all false
set_option maxRecDepth 4000
set_option maxHeartbeats 40000000
section
namespace Go.V
open Go
set_option linter.unusedVariables false
set_option linter.unusedSimpArgs false
def keepB (d : Int) : List Int → List Int → Bool
 | g :: gs, x :: ps => cond (decide ((if x < g then x else g) < d)) (cond (g != x) false (keepB d gs ps)) (keepB d gs ps)
 | _, _ => true
theorem keeps_l0 {plan : List Int} {d : Int} : ∀ (gs ps : List Int) (c : Int), 0 ≤ c → plan.drop c.toNat = ps → gs.length = ps.length → g_coat_keeps_l0 plan d gs c = goB (keepB d gs ps)
 | [], [], _, _, _, _ => rfl
 | [], _ :: _, _, _, _, h => by simp at h
 | _ :: _, [], _, _, _, h => by simp at h
 | g :: gs, x :: ps, c, h0, h, hl => by
  have ih := keeps_l0 (d := d) gs ps (c + 1) (by omega) (drop_next h0 h) (by simpa using hl)
  rw [g_coat_keeps_l0, getI_of_drop h0 h, Option.bind_some, ih]
  rw [show keepB d (g :: gs) (x :: ps) = cond (decide ((if x < g then x else g) < d)) (cond (g != x) false (keepB d gs ps)) (keepB d gs ps) from rfl]
  cases decide ((if x < g then x else g) < d) <;> cases g != x <;> rfl
theorem keeps_eq {g p : List Int} {d : Int} (hg : lenOk g = true) (hl : g.length = p.length) : g_coat_keeps g p d = some (keepB d g p) := by
 unfold g_coat_keeps
 rw [hg, keeps_l0 g p 0 (Int.le_refl _) rfl hl, goB_lbind]
 cases keepB d g p <;> rfl
theorem rKeeps_l0 {plan : List Int} {d : Int} : ∀ (ls ps : List Int) (c : Int), 0 ≤ c → plan.drop c.toNat = ps → ls.length = ps.length → g_ref03_Keeps_l0 plan d ls c = goB (keepB d ps ls)
 | [], [], _, _, _, _ => rfl
 | [], _ :: _, _, _, _, h => by simp at h
 | _ :: _, [], _, _, _, h => by simp at h
 | e :: ls, x :: ps, c, h0, h, hl => by
  have ih := rKeeps_l0 (d := d) ls ps (c + 1) (by omega) (drop_next h0 h) (by simpa using hl)
  rw [g_ref03_Keeps_l0, getI_of_drop h0 h, Option.bind_some, ih]
  rw [show keepB d (x :: ps) (e :: ls) = cond (decide ((if e < x then e else x) < d)) (cond (x != e) false (keepB d ps ls)) (keepB d ps ls) from rfl]
  by_cases h1 : x < d
  ·have e1 : decide (x < d) = true := decide_eq_true h1
   have e2 : decide (x ≥ d) = false := decide_eq_false (by omega)
   have e3 : decide ((if e < x then e else x) < d) = true := decide_eq_true (by split <;> omega)
   have e4 : (e != x) = (x != e) := by rw [Bool.eq_iff_iff]; simp only [bne_iff_ne, ne_eq]; omega
   rw [e1, e2, e3, e4]
   cases x != e <;> rfl
  ·have e1 : decide (x < d) = false := decide_eq_false h1
   have e2 : decide (x ≥ d) = true := decide_eq_true (by omega)
   rw [e1, e2]
   by_cases h2 : e < d
   ·have e3 : decide ((if e < x then e else x) < d) = true := decide_eq_true (by split <;> omega)
    have e4 : (x != e) = true := by simp only [bne_iff_ne, ne_eq]; omega
    rw [e3, e4, decide_eq_true h2]
    rfl
   ·have e3 : decide ((if e < x then e else x) < d) = false := decide_eq_false (by split <;> omega)
    rw [e3, decide_eq_false h2]
    rfl
theorem rKeeps_eq {l p : List Int} {d : Int} (hg : lenOk l = true) (hl : l.length = p.length) : g_ref03_Keeps l p d = some (keepB d p l) := by
 unfold g_ref03_Keeps
 rw [hg, rKeeps_l0 l p 0 (Int.le_refl _) rfl hl, goB_lbind]
 cases keepB d p l <;> rfl
theorem keepB_self (d : Int) : ∀ p : List Int, keepB d p p = true
 | [] => rfl
 | a :: p => by
  rw [show keepB d (a :: p) (a :: p) = cond (decide ((if a < a then a else a) < d)) (cond (a != a) false (keepB d p p)) (keepB d p p) from rfl, keepB_self d p]
  have : (a != a) = false := by simp
  rw [this]
  cases decide ((if a < a then a else a) < d) <;> rfl
def chN : List Int → List Int → Nat
 | g :: gs, x :: ps => cond (g != x) (chN gs ps + 1) (chN gs ps)
 | _, _ => 0
theorem chN_comm : ∀ g p : List Int, chN g p = chN p g
 | [], [] => rfl
 | [], _ :: _ => rfl
 | _ :: _, [] => rfl
 | a :: g, b :: p => by
  have e4 : (a != b) = (b != a) := by rw [Bool.eq_iff_iff]; simp only [bne_iff_ne, ne_eq]; omega
  rw [chN, chN, chN_comm g p, e4]
theorem chN_self : ∀ p : List Int, chN p p = 0
 | [] => rfl
 | a :: p => by
  have : (a != a) = false := by simp
  rw [chN, this, chN_self p]; rfl
theorem changes_l0 {plan : List Int} : ∀ (gs ps : List Int) (c : Int) (n : Nat), 0 ≤ c → plan.drop c.toNat = ps → gs.length = ps.length → n + gs.length < 1000 → g_coat_changes_l0 plan gs c (n : Int) = some (.go ((n + chN gs ps : Nat) : Int))
 | [], [], _, _, _, _, _, _ => rfl
 | [], _ :: _, _, _, _, _, h, _ => by simp at h
 | _ :: _, [], _, _, _, _, h, _ => by simp at h
 | g :: gs, x :: ps, c, n, h0, h, hl, hb => by
  simp only [List.length_cons] at hb
  have i1 := changes_l0 gs ps (c + 1) n (by omega) (drop_next h0 h) (by simpa using hl) (by omega)
  have i2 := changes_l0 gs ps (c + 1) (n + 1) (by omega) (drop_next h0 h) (by simpa using hl) (by omega)
  rw [g_coat_changes_l0, getI_of_drop h0 h, Option.bind_some, wrap_eq (by omega) (by omega), show (n : Int) + 1 = ((n + 1 : Nat) : Int) by omega, i1, i2, chN]
  cases g != x
  ·rfl
  ·simp only [cond_true]
   congr 2
   omega
theorem changes_eq {g p : List Int} (hg : g.length < 100) (hl : g.length = p.length) : g_coat_changes g p = some (chN g p : Int) := by
 unfold g_coat_changes
 have := changes_l0 (plan := p) g p 0 0 (Int.le_refl _) rfl hl (by omega)
 rw [show ((0 : Nat) : Int) = 0 from rfl] at this
 rw [lenOk_of (by omega), this, Nat.zero_add]
 rfl
theorem rChanges_l0 {plan : List Int} : ∀ (gs ps : List Int) (c : Int) (n : Nat), 0 ≤ c → plan.drop c.toNat = ps → gs.length = ps.length → n + gs.length < 1000 → g_ref03_Changes_l0 plan gs c (n : Int) = some (.go ((n + chN gs ps : Nat) : Int))
 | [], [], _, _, _, _, _, _ => rfl
 | [], _ :: _, _, _, _, _, h, _ => by simp at h
 | _ :: _, [], _, _, _, _, h, _ => by simp at h
 | g :: gs, x :: ps, c, n, h0, h, hl, hb => by
  simp only [List.length_cons] at hb
  have i1 := rChanges_l0 gs ps (c + 1) n (by omega) (drop_next h0 h) (by simpa using hl) (by omega)
  have i2 := rChanges_l0 gs ps (c + 1) (n + 1) (by omega) (drop_next h0 h) (by simpa using hl) (by omega)
  rw [g_ref03_Changes_l0, getI_of_drop h0 h, Option.bind_some, wrap_eq (by omega) (by omega), show (n : Int) + 1 = ((n + 1 : Nat) : Int) by omega, i1, i2, chN]
  cases g != x
  ·rfl
  ·simp only [cond_true]
   congr 2
   omega
theorem rChanges_eq {g p : List Int} (hg : g.length < 100) (hl : g.length = p.length) : g_ref03_Changes g p = some (chN g p : Int) := by
 unfold g_ref03_Changes
 have := rChanges_l0 (plan := p) g p 0 0 (Int.le_refl _) rfl hl (by omega)
 rw [show ((0 : Nat) : Int) = 0 from rfl] at this
 rw [lenOk_of (by omega), this, Nat.zero_add]
 rfl
theorem filterO_eq {f : List Int → Option Bool} {b : List Int → Bool} : ∀ (L : List (List Int)), (∀ q ∈ L, f q = some (b q)) → filterO f L = some (L.filter b)
 | [], _ => rfl
 | q :: L, h => by
  have ih := filterO_eq L (fun x hx => h x (List.mem_cons_of_mem _ hx))
  rw [filterO, h q (by simp), Option.bind_some, ih, Option.bind_some, List.filter_cons]
  cases b q <;> rfl
theorem bestO_spec {better : List Int → List Int → Option Bool} {f : List Int → Int} : ∀ (M : List (List Int)) (r : List Int), (∀ a ∈ M, ∀ c, c ∈ r :: M → better a c = some (decide (f a < f c))) → (∀ x ∈ M, lexL r x) → M.Pairwise lexL →
  ∃ q, bestO better M (r, true) = some (q, true) ∧ q ∈ r :: M ∧ ∀ x ∈ r :: M, f q ≤ f x ∧ (f x = f q → x = q ∨ lexL q x)
 | [], r, _, _, _ => ⟨r, rfl, by simp, fun x hx => by rw [List.mem_singleton.1 hx]; exact ⟨Int.le_refl _, fun _ => .inl rfl⟩⟩
 | y :: M, r, hb, hr, hp => by
  have hp' := List.pairwise_cons.1 hp
  have e : bestO better (y :: M) (r, true) = bestO better M (cond (decide (f y < f r)) (y, true) (r, true)) := by
   show Option.bind (better y r) _ = _
   rw [hb y (by simp) r (by simp)]
   rfl
  rw [e]
  by_cases hlt : f y < f r
  ·rw [decide_eq_true hlt, cond_true]
   obtain ⟨q, h1, h2, h3⟩ := bestO_spec M y (fun a ha c hc => hb a (List.mem_cons_of_mem _ ha) c (List.mem_cons_of_mem _ hc)) hp'.1 hp'.2
   refine ⟨q, h1, List.mem_cons_of_mem _ h2, fun x hx => ?_⟩
   rcases List.mem_cons.1 hx with rfl | hx
   ·have := (h3 y (by simp)).1
    exact ⟨by omega, fun hh => by omega⟩
   ·exact h3 x hx
  ·rw [decide_eq_false hlt, cond_false]
   obtain ⟨q, h1, h2, h3⟩ := bestO_spec M r (fun a ha c hc => hb a (List.mem_cons_of_mem _ ha) c (by
    rcases List.mem_cons.1 hc with rfl | hc
    ·simp
    ·exact List.mem_cons_of_mem _ (List.mem_cons_of_mem _ hc))) (fun x hx => hr x (List.mem_cons_of_mem _ hx)) hp'.2
   refine ⟨q, h1, ?_, fun x hx => ?_⟩
   ·rcases List.mem_cons.1 h2 with rfl | h2
    ·simp
    ·exact List.mem_cons_of_mem _ (List.mem_cons_of_mem _ h2)
   ·have hr0 := h3 r (by simp)
    rcases List.mem_cons.1 hx with rfl | hx
    ·exact hr0
    ·rcases List.mem_cons.1 hx with rfl | hx
     ·refine ⟨by omega, fun hh => .inr ?_⟩
      have hrx := hr x (by simp)
      rcases hr0.2 (by omega) with rfl | hq
      ·exact hrx
      ·exact lexL_trans hq hrx
     ·exact h3 x (List.mem_cons_of_mem _ hx)
theorem bestO_some {better : List Int → List Int → Option Bool} {f : List Int → Int} {y : List Int} {M : List (List Int)} (hb : ∀ a, a ∈ y :: M → ∀ c, c ∈ y :: M → better a c = some (decide (f a < f c))) (hp : (y :: M).Pairwise lexL) :
  ∃ q, bestO better (y :: M) ([], false) = some (q, true) ∧ q ∈ y :: M ∧ ∀ x ∈ y :: M, f q ≤ f x ∧ (f x = f q → x = q ∨ lexL q x) := by
 have hp' := List.pairwise_cons.1 hp
 exact bestO_spec M y (fun a ha c hc => hb a (List.mem_cons_of_mem _ ha) c hc) hp'.1 hp'.2
end Go.V
end
section
namespace Go.V
open Go Go.Proofs
theorem hmix : Tryz.prog.follows .mixedOrders = true := by kernel_rfl
def kA : VV := (Go.V.VV.agg [(Go.V.VV.sl [(Go.V.VV.lit (Go.Value.int Go.IntKind.i64 (Int.ofNat 6))), (Go.V.VV.lit (Go.Value.int Go.IntKind.i64 (Int.ofNat 8))), (Go.V.VV.lit (Go.Value.int Go.IntKind.i64 (Int.ofNat 4))), (Go.V.VV.lit (Go.Value.int Go.IntKind.i64 (Int.ofNat 6))), (Go.V.VV.lit (Go.Value.int Go.IntKind.i64 (Int.ofNat 8))), (Go.V.VV.lit (Go.Value.int Go.IntKind.i64 (Int.ofNat 10))), (Go.V.VV.lit (Go.Value.int Go.IntKind.i64 (Int.ofNat 2))), (Go.V.VV.lit (Go.Value.int Go.IntKind.i64 (Int.ofNat 4))), (Go.V.VV.lit (Go.Value.int Go.IntKind.i64 (Int.ofNat 6))), (Go.V.VV.lit (Go.Value.int Go.IntKind.i64 (Int.ofNat 6))), (Go.V.VV.lit (Go.Value.int Go.IntKind.i64 (Int.ofNat 5))), (Go.V.VV.lit (Go.Value.int Go.IntKind.i64 (Int.ofNat 9))), (Go.V.VV.lit (Go.Value.int Go.IntKind.i64 (Int.ofNat 8))), (Go.V.VV.lit (Go.Value.int Go.IntKind.i64 (Int.ofNat 12))), (Go.V.VV.lit (Go.Value.int Go.IntKind.i64 (Int.ofNat 4))), (Go.V.VV.lit (Go.Value.int Go.IntKind.i64 (Int.ofNat 4)))] 8 Bool.false), (Go.V.VV.sl [(Go.V.VV.lit (Go.Value.int Go.IntKind.i64 (Int.ofNat 0))), (Go.V.VV.lit (Go.Value.int Go.IntKind.i64 (Int.ofNat 2))), (Go.V.VV.lit (Go.Value.int Go.IntKind.i64 (Int.ofNat 3))), (Go.V.VV.lit (Go.Value.int Go.IntKind.i64 (Int.ofNat 5))), (Go.V.VV.lit (Go.Value.int Go.IntKind.i64 (Int.ofNat 6)))] 5 Bool.false), (Go.V.VV.sl [(Go.V.VV.lit (Go.Value.int Go.IntKind.i64 (Int.ofNat 9))), (Go.V.VV.lit (Go.Value.int Go.IntKind.i64 (Int.ofNat 20))), (Go.V.VV.lit (Go.Value.int Go.IntKind.i64 (Int.ofNat 10))), (Go.V.VV.lit (Go.Value.int Go.IntKind.i64 (Int.ofNat 20))), (Go.V.VV.lit (Go.Value.int Go.IntKind.i64 (Int.ofNat 8))), (Go.V.VV.lit (Go.Value.int Go.IntKind.i64 (Int.ofNat 30)))] 3 Bool.false)])
def kB : VV := (Go.V.VV.agg [(Go.V.VV.sl [(Go.V.VV.lit (Go.Value.int Go.IntKind.i64 (Int.ofNat 6))), (Go.V.VV.lit (Go.Value.int Go.IntKind.i64 (Int.ofNat 8))), (Go.V.VV.lit (Go.Value.int Go.IntKind.i64 (Int.ofNat 4))), (Go.V.VV.lit (Go.Value.int Go.IntKind.i64 (Int.ofNat 6))), (Go.V.VV.lit (Go.Value.int Go.IntKind.i64 (Int.ofNat 8))), (Go.V.VV.lit (Go.Value.int Go.IntKind.i64 (Int.ofNat 10))), (Go.V.VV.lit (Go.Value.int Go.IntKind.i64 (Int.ofNat 2))), (Go.V.VV.lit (Go.Value.int Go.IntKind.i64 (Int.ofNat 4))), (Go.V.VV.lit (Go.Value.int Go.IntKind.i64 (Int.ofNat 6))), (Go.V.VV.lit (Go.Value.int Go.IntKind.i64 (Int.ofNat 6))), (Go.V.VV.lit (Go.Value.int Go.IntKind.i64 (Int.ofNat 5))), (Go.V.VV.lit (Go.Value.int Go.IntKind.i64 (Int.ofNat 9))), (Go.V.VV.lit (Go.Value.int Go.IntKind.i64 (Int.ofNat 8))), (Go.V.VV.lit (Go.Value.int Go.IntKind.i64 (Int.ofNat 12))), (Go.V.VV.lit (Go.Value.int Go.IntKind.i64 (Int.ofNat 4))), (Go.V.VV.lit (Go.Value.int Go.IntKind.i64 (Int.ofNat 4)))] 8 Bool.false), (Go.V.VV.sl [(Go.V.VV.lit (Go.Value.int Go.IntKind.i64 (Int.ofNat 0))), (Go.V.VV.lit (Go.Value.int Go.IntKind.i64 (Int.ofNat 2))), (Go.V.VV.lit (Go.Value.int Go.IntKind.i64 (Int.ofNat 3))), (Go.V.VV.lit (Go.Value.int Go.IntKind.i64 (Int.ofNat 5))), (Go.V.VV.lit (Go.Value.int Go.IntKind.i64 (Int.ofNat 6)))] 5 Bool.false), (Go.V.VV.sl [(Go.V.VV.lit (Go.Value.int Go.IntKind.i64 (Int.ofNat 9))), (Go.V.VV.lit (Go.Value.int Go.IntKind.i64 (Int.ofNat 20))), (Go.V.VV.lit (Go.Value.int Go.IntKind.i64 (Int.ofNat 10))), (Go.V.VV.lit (Go.Value.int Go.IntKind.i64 (Int.ofNat 18))), (Go.V.VV.lit (Go.Value.int Go.IntKind.i64 (Int.ofNat 8))), (Go.V.VV.lit (Go.Value.int Go.IntKind.i64 (Int.ofNat 30)))] 3 Bool.false)])
def kE : VV := (Go.V.VV.agg [(Go.V.VV.sl [(Go.V.VV.lit (Go.Value.int Go.IntKind.i64 (Int.ofNat 6))), (Go.V.VV.lit (Go.Value.int Go.IntKind.i64 (Int.ofNat 8))), (Go.V.VV.lit (Go.Value.int Go.IntKind.i64 (Int.ofNat 4))), (Go.V.VV.lit (Go.Value.int Go.IntKind.i64 (Int.ofNat 6))), (Go.V.VV.lit (Go.Value.int Go.IntKind.i64 (Int.ofNat 8))), (Go.V.VV.lit (Go.Value.int Go.IntKind.i64 (Int.ofNat 10))), (Go.V.VV.lit (Go.Value.int Go.IntKind.i64 (Int.ofNat 2))), (Go.V.VV.lit (Go.Value.int Go.IntKind.i64 (Int.ofNat 4))), (Go.V.VV.lit (Go.Value.int Go.IntKind.i64 (Int.ofNat 6))), (Go.V.VV.lit (Go.Value.int Go.IntKind.i64 (Int.ofNat 6))), (Go.V.VV.lit (Go.Value.int Go.IntKind.i64 (Int.ofNat 5))), (Go.V.VV.lit (Go.Value.int Go.IntKind.i64 (Int.ofNat 9))), (Go.V.VV.lit (Go.Value.int Go.IntKind.i64 (Int.ofNat 8))), (Go.V.VV.lit (Go.Value.int Go.IntKind.i64 (Int.ofNat 12))), (Go.V.VV.lit (Go.Value.int Go.IntKind.i64 (Int.ofNat 4))), (Go.V.VV.lit (Go.Value.int Go.IntKind.i64 (Int.ofNat 4)))] 8 Bool.false), (Go.V.VV.sl [(Go.V.VV.lit (Go.Value.int Go.IntKind.i64 (Int.ofNat 0))), (Go.V.VV.lit (Go.Value.int Go.IntKind.i64 (Int.ofNat 1))), (Go.V.VV.lit (Go.Value.int Go.IntKind.i64 (Int.ofNat 2))), (Go.V.VV.lit (Go.Value.int Go.IntKind.i64 (Int.ofNat 3))), (Go.V.VV.lit (Go.Value.int Go.IntKind.i64 (Int.ofNat 4))), (Go.V.VV.lit (Go.Value.int Go.IntKind.i64 (Int.ofNat 5))), (Go.V.VV.lit (Go.Value.int Go.IntKind.i64 (Int.ofNat 6))), (Go.V.VV.lit (Go.Value.int Go.IntKind.i64 (Int.ofNat 7)))] 8 Bool.false), (Go.V.VV.sl [(Go.V.VV.lit (Go.Value.int Go.IntKind.i64 (Int.ofNat 9))), (Go.V.VV.lit (Go.Value.int Go.IntKind.i64 (Int.ofNat 20))), (Go.V.VV.lit (Go.Value.int Go.IntKind.i64 (Int.ofNat 10))), (Go.V.VV.lit (Go.Value.int Go.IntKind.i64 (Int.ofNat 20))), (Go.V.VV.lit (Go.Value.int Go.IntKind.i64 (Int.ofNat 8))), (Go.V.VV.lit (Go.Value.int Go.IntKind.i64 (Int.ofNat 30)))] 3 Bool.false)])
def kHolds : VV := (Go.V.VV.tup [(Go.V.VV.lit (Go.Value.bool Bool.false)), (Go.V.VV.lit (Go.Value.int Go.IntKind.i64 (Int.ofNat 0)))])
def kWord : VV := (Go.V.VV.tup [(Go.V.VV.lit (Go.Value.int Go.IntKind.i64 (Int.ofNat 1))), (Go.V.VV.lit (Go.Value.int Go.IntKind.i64 (Int.ofNat 0)))])
def kFails : VV := (Go.V.VV.tup [(Go.V.VV.lit (Go.Value.int Go.IntKind.i64 (Int.ofNat 0))), (Go.V.VV.lit (Go.Value.int Go.IntKind.i64 (Int.ofNat 2))), (Go.V.VV.lit (Go.Value.int Go.IntKind.i64 (Int.ofNat 0)))])
def kProof : VV := (Go.V.VV.tup [(Go.V.VV.sl [(Go.V.VV.lit (Go.Value.int Go.IntKind.i64 (Int.ofNat 6))), (Go.V.VV.lit (Go.Value.int Go.IntKind.i64 (Int.ofNat 5))), (Go.V.VV.lit (Go.Value.int Go.IntKind.i64 (Int.ofNat 10))), (Go.V.VV.lit (Go.Value.int Go.IntKind.i64 (Int.ofNat 2))), (Go.V.VV.lit (Go.Value.int Go.IntKind.i64 (Int.ofNat 6))), (Go.V.VV.lit (Go.Value.int Go.IntKind.i64 (Int.ofNat 5))), (Go.V.VV.lit (Go.Value.int Go.IntKind.i64 (Int.ofNat 8))), (Go.V.VV.lit (Go.Value.int Go.IntKind.i64 (Int.ofNat 4)))] 8 Bool.false), (Go.V.VV.lit (Go.Value.int Go.IntKind.i64 (Int.ofNat 0)))])
def kFirst : VV := (Go.V.VV.tup [(Go.V.VV.sl [(Go.V.VV.lit (Go.Value.int Go.IntKind.i64 (Int.ofNat 0))), (Go.V.VV.lit (Go.Value.int Go.IntKind.i64 (Int.ofNat 2))), (Go.V.VV.lit (Go.Value.int Go.IntKind.i64 (Int.ofNat 5)))] 3 Bool.false), (Go.V.VV.lit (Go.Value.int Go.IntKind.i64 (Int.ofNat 0)))])
def kCount : VV := (Go.V.VV.tup [(Go.V.VV.lit (Go.Value.int Go.IntKind.i64 (Int.ofNat 5))), (Go.V.VV.lit (Go.Value.int Go.IntKind.i64 (Int.ofNat 0)))])
def kDays : VV := (Go.V.VV.tup [(Go.V.VV.sl [(Go.V.VV.lit (Go.Value.int Go.IntKind.i64 (Int.ofNat 2))), (Go.V.VV.lit (Go.Value.int Go.IntKind.i64 (Int.ofNat 3))), (Go.V.VV.lit (Go.Value.int Go.IntKind.i64 (Int.ofNat 4)))] 3 Bool.false), (Go.V.VV.lit (Go.Value.int Go.IntKind.i64 (Int.ofNat 0)))])
def kLate : VV := (Go.V.VV.tup [(Go.V.VV.lit (Go.Value.int Go.IntKind.i64 (Int.ofNat 2))), (Go.V.VV.lit (Go.Value.int Go.IntKind.i64 (Int.ofNat 0)))])
def kQuick : VV := (Go.V.VV.tup [(Go.V.VV.lit (Go.Value.int Go.IntKind.i64 (Int.ofNat 4))), (Go.V.VV.lit (Go.Value.int Go.IntKind.i64 (Int.ofNat 0)))])
def kStuck : VV := (Go.V.VV.tup [(Go.V.VV.lit (Go.Value.int Go.IntKind.i64 (Int.ofNat 2))), (Go.V.VV.lit (Go.Value.int Go.IntKind.i64 (Int.ofNat 0)))])
def kSlack : VV := (Go.V.VV.tup [(Go.V.VV.lit (Go.Value.int Go.IntKind.i64 (Int.ofNat 2))), (Go.V.VV.lit (Go.Value.int Go.IntKind.i64 (Int.ofNat 0)))])
def kMend : VV := (Go.V.VV.tup [(Go.V.VV.sl [(Go.V.VV.lit (Go.Value.int Go.IntKind.i64 (Int.ofNat 0))), (Go.V.VV.lit (Go.Value.int Go.IntKind.i64 (Int.ofNat 2))), (Go.V.VV.lit (Go.Value.int Go.IntKind.i64 (Int.ofNat 4)))] 3 Bool.false), (Go.V.VV.lit (Go.Value.int Go.IntKind.i64 (Int.ofNat 2))), (Go.V.VV.lit (Go.Value.int Go.IntKind.i64 (Int.ofNat 0)))])
def kRead : VV := (Go.V.VV.tup [(Go.V.VV.agg [(Go.V.VV.sl [(Go.V.VV.lit (Go.Value.int Go.IntKind.i64 (Int.ofNat 1))), (Go.V.VV.lit (Go.Value.int Go.IntKind.i64 (Int.ofNat 2)))] 1 Bool.false), (Go.V.VV.sl [(Go.V.VV.lit (Go.Value.int Go.IntKind.i64 (Int.ofNat 0)))] 1 Bool.false), (Go.V.VV.sl [(Go.V.VV.lit (Go.Value.int Go.IntKind.i64 (Int.ofNat 1))), (Go.V.VV.lit (Go.Value.int Go.IntKind.i64 (Int.ofNat 3)))] 1 Bool.false)]), (Go.V.VV.lit (Go.Value.int Go.IntKind.i64 (Int.ofNat 0)))])
end Go.V
end
section
namespace Go.V
open Go Go.Proofs
theorem pA : VPure Tryz.prog G0 52 [] (.tree kA) := VPure.closedB hmix 1000 (by kernel_rfl)
theorem pB : VPure Tryz.prog G0 55 [] (.tree kB) := VPure.closedB hmix 1000 (by kernel_rfl)
theorem pE : VPure Tryz.prog G0 54 [] (.tree kE) := VPure.closedB hmix 1000 (by kernel_rfl)
theorem pHolds : VPure Tryz.prog G0 51 [kA, .sl [.lit (.int .i64 (0)), .lit (.int .i64 (3)), .lit (.int .i64 (6))] 3 false, .sl [.lit (.int .i64 (6)), .lit (.int .i64 (5)), .lit (.int .i64 (10)), .lit (.int .i64 (2)), .lit (.int .i64 (6)), .lit (.int .i64 (5)), .lit (.int .i64 (8)), .lit (.int .i64 (4))] 8 false] (.tree kHolds) := VPure.closedB hmix 1000 (by kernel_rfl)
theorem pWord : VPure Tryz.prog G0 53 [kA, .sl [.lit (.int .i64 (3)), .lit (.int .i64 (5)), .lit (.int .i64 (6))] 3 false] (.tree kWord) := VPure.closedB hmix 1000 (by kernel_rfl)
theorem pFails : VPure Tryz.prog G0 47 [kA, .sl [.lit (.int .i64 (0)), .lit (.int .i64 (3)), .lit (.int .i64 (6))] 3 false] (.tree kFails) := VPure.closedB hmix 1000 (by kernel_rfl)
end Go.V
end
section
namespace Go.V
open Go Go.Proofs
theorem pProof : VPure Tryz.prog G0 48 [kA, .sl [.lit (.int .i64 (0)), .lit (.int .i64 (3)), .lit (.int .i64 (6))] 3 false] (.tree kProof) := VPure.closedB hmix 1000 (by kernel_rfl)
end Go.V
end
section
namespace Go.V
open Go Go.Proofs
theorem pFirst : VPure Tryz.prog G0 17 [kA] (.tree kFirst) := VPure.closedB hmix 1000 (by kernel_rfl)
end Go.V
end
section
namespace Go.V
open Go Go.Proofs
theorem pCount : VPure Tryz.prog G0 18 [kE] (.tree kCount) := VPure.closedB hmix 1000 (by kernel_rfl)
end Go.V
end
section
namespace Go.V
open Go Go.Proofs
theorem pDays : VPure Tryz.prog G0 26 [kE, .lit (.int .i64 (1))] (.tree kDays) := VPure.closedB hmix 1000 (by kernel_rfl)
end Go.V
end
section
namespace Go.V
open Go Go.Proofs
theorem pLate : VPure Tryz.prog G0 27 [kE] (.tree kLate) := VPure.closedB hmix 1000 (by kernel_rfl)
end Go.V
end
section
namespace Go.V
open Go Go.Proofs
theorem pQuick : VPure Tryz.prog G0 28 [kE] (.tree kQuick) := VPure.closedB hmix 1000 (by kernel_rfl)
end Go.V
end
section
namespace Go.V
open Go Go.Proofs
theorem pStuck : VPure Tryz.prog G0 34 [kB] (.tree kStuck) := VPure.closedB hmix 1000 (by kernel_rfl)
end Go.V
end
section
namespace Go.V
open Go Go.Proofs
theorem pSlack : VPure Tryz.prog G0 38 [kB] (.tree kSlack) := VPure.closedB hmix 1000 (by kernel_rfl)
end Go.V
end
section
namespace Go.V
open Go Go.Proofs
theorem pMend : VPure Tryz.prog G0 41 [kE, .sl [.lit (.int .i64 (0)), .lit (.int .i64 (3)), .lit (.int .i64 (6))] 3 false, .lit (.int .i64 (1))] (.tree kMend) := VPure.closedB hmix 1000 (by kernel_rfl)
end Go.V
end
section
namespace Go.V
open Go Go.Proofs
theorem pRead : VPure Tryz.prog G0 56 [.lit (.string ⟨⟨[100, 97, 121, 32, 49, 32, 50, 32, 121, 101, 115, 10, 99, 111, 97, 116, 32, 49, 32, 51, 10, 101, 110, 100, 32, 49, 48, 52, 10]⟩⟩)] (.tree kRead) := VPure.closedB hmix 1000 (by kernel_rfl)
end Go.V
end
section
namespace Go.V
open Go Go.Proofs
def kTab : KTab := [
  (52, [], kA),
  (55, [], kB),
  (54, [], kE),
  (51, [kA, .sl [.lit (.int .i64 (0)), .lit (.int .i64 (3)), .lit (.int .i64 (6))] 3 false, .sl [.lit (.int .i64 (6)), .lit (.int .i64 (5)), .lit (.int .i64 (10)), .lit (.int .i64 (2)), .lit (.int .i64 (6)), .lit (.int .i64 (5)), .lit (.int .i64 (8)), .lit (.int .i64 (4))] 8 false], kHolds),
  (53, [kA, .sl [.lit (.int .i64 (3)), .lit (.int .i64 (5)), .lit (.int .i64 (6))] 3 false], kWord),
  (47, [kA, .sl [.lit (.int .i64 (0)), .lit (.int .i64 (3)), .lit (.int .i64 (6))] 3 false], kFails),
  (48, [kA, .sl [.lit (.int .i64 (0)), .lit (.int .i64 (3)), .lit (.int .i64 (6))] 3 false], kProof),
  (17, [kA], kFirst),
  (18, [kE], kCount),
  (26, [kE, .lit (.int .i64 (1))], kDays),
  (27, [kE], kLate),
  (28, [kE], kQuick),
  (34, [kB], kStuck),
  (38, [kB], kSlack),
  (41, [kE, .sl [.lit (.int .i64 (0)), .lit (.int .i64 (3)), .lit (.int .i64 (6))] 3 false, .lit (.int .i64 (1))], kMend),
  (56, [.lit (.string ⟨⟨[100, 97, 121, 32, 49, 32, 50, 32, 121, 101, 115, 10, 99, 111, 97, 116, 32, 49, 32, 51, 10, 101, 110, 100, 32, 49, 48, 52, 10]⟩⟩)], kRead)]
theorem kTabOk : KTabOk Tryz.prog G0 kTab := ⟨⟨by kernel_rfl, pA⟩, ⟨⟨by kernel_rfl, pB⟩, ⟨⟨by kernel_rfl, pE⟩, ⟨⟨by kernel_rfl, pHolds⟩, ⟨⟨by kernel_rfl, pWord⟩, ⟨⟨by kernel_rfl, pFails⟩, ⟨⟨by kernel_rfl, pProof⟩, ⟨⟨by kernel_rfl, pFirst⟩, ⟨⟨by kernel_rfl, pCount⟩, ⟨⟨by kernel_rfl, pDays⟩, ⟨⟨by kernel_rfl, pLate⟩, ⟨⟨by kernel_rfl, pQuick⟩, ⟨⟨by kernel_rfl, pStuck⟩, ⟨⟨by kernel_rfl, pSlack⟩, ⟨⟨by kernel_rfl, pMend⟩, ⟨⟨by kernel_rfl, pRead⟩, trivial⟩⟩⟩⟩⟩⟩⟩⟩⟩⟩⟩⟩⟩⟩⟩⟩
theorem pKnown : VPure Tryz.prog G0 16 [] (.tree (.lit (.bool true))) := VPure.closedT hmix kTabOk 1000 (by kernel_rfl)
#print axioms pKnown
end Go.V
end
section
namespace Go.V
open Go Go.Proofs
theorem g_law03_known_ok : VPure Tryz.prog G0 16 [] (.tree (.lit (.bool true))) := pKnown
end Go.V
end
