/- Part of a proof: a logic of values by content, lifted functions, what follows. -/
import Derived.Test.YtgdgkkloccpbnaaGreatDoorVbn
import Derived.Test.YtgdgkkloccpbnaaGreatDoorVbh
import Derived.Test.YtgdgkkloccpbnaaGreatDoorVbl
set_option linter.all false
section
namespace Go.V
open Go
set_option linter.unusedVariables false
set_option linter.unusedSimpArgs false
theorem bestO_spec {better : List Int → List Int → Option Bool} {f : List Int → Int} : ∀ (M : List (List Int)) (r : List Int), (∀ a ∈ M, ∀ c, c ∈ r :: M → better a c = some (decide (f a < f c))) → (∀ x ∈ M, lexL r x) → M.Pairwise lexL →
  ∃ q, bestO better M (r, true) = some (q, true) ∧ q ∈ r :: M ∧ ∀ x ∈ r :: M, f q ≤ f x ∧ (f x = f q → x = q ∨ lexL q x)
 | [], r, _, _, _ => ⟨r, rfl, by simp, fun x hx => by rw [List.mem_singleton.1 hx]; exact ⟨Int.le_refl _, fun _ => .inl rfl⟩⟩
 | y :: M, r, hb, hr, hp => by
  have hp' := List.pairwise_cons.1 hp
  have e : bestO better (y :: M) (r, true) = bestO better M (cond (decide (f y < f r)) (y, true) (r, true)) := by
   show Option.bind (better y r) _ = _
   rw [hb y (by simp) r (by simp)]
   rfl
  rw [e]
  by_cases hlt : f y < f r
  ·rw [decide_eq_true hlt, cond_true]
   obtain ⟨q, h1, h2, h3⟩ := bestO_spec M y (fun a ha c hc => hb a (List.mem_cons_of_mem _ ha) c (List.mem_cons_of_mem _ hc)) hp'.1 hp'.2
   refine ⟨q, h1, List.mem_cons_of_mem _ h2, fun x hx => ?_⟩
   rcases List.mem_cons.1 hx with rfl | hx
   ·have := (h3 y (by simp)).1
    exact ⟨by omega, fun hh => by omega⟩
   ·exact h3 x hx
  ·rw [decide_eq_false hlt, cond_false]
   obtain ⟨q, h1, h2, h3⟩ := bestO_spec M r (fun a ha c hc => hb a (List.mem_cons_of_mem _ ha) c (by
    rcases List.mem_cons.1 hc with rfl | hc
    ·simp
    ·exact List.mem_cons_of_mem _ (List.mem_cons_of_mem _ hc))) (fun x hx => hr x (List.mem_cons_of_mem _ hx)) hp'.2
   refine ⟨q, h1, ?_, fun x hx => ?_⟩
   ·rcases List.mem_cons.1 h2 with rfl | h2
    ·simp
    ·exact List.mem_cons_of_mem _ (List.mem_cons_of_mem _ h2)
   ·have hr0 := h3 r (by simp)
    rcases List.mem_cons.1 hx with rfl | hx
    ·exact hr0
    ·rcases List.mem_cons.1 hx with rfl | hx
     ·refine ⟨by omega, fun hh => .inr ?_⟩
      have hrx := hr x (by simp)
      rcases hr0.2 (by omega) with rfl | hq
      ·exact hrx
      ·exact lexL_trans hq hrx
     ·exact h3 x (List.mem_cons_of_mem _ hx)
theorem bestO_some {better : List Int → List Int → Option Bool} {f : List Int → Int} {y : List Int} {M : List (List Int)} (hb : ∀ a, a ∈ y :: M → ∀ c, c ∈ y :: M → better a c = some (decide (f a < f c))) (hp : (y :: M).Pairwise lexL) :
  ∃ q, bestO better (y :: M) ([], false) = some (q, true) ∧ q ∈ y :: M ∧ ∀ x ∈ y :: M, f q ≤ f x ∧ (f x = f q → x = q ∨ lexL q x) := by
 have hp' := List.pairwise_cons.1 hp
 exact bestO_spec M y (fun a ha c hc => hb a (List.mem_cons_of_mem _ ha) c hc) hp'.1 hp'.2
end Go.V
end
section
set_option linter.unusedVariables false
set_option linter.unusedSimpArgs false
namespace Go.V
open Go
theorem neB_false {α : Type} {xs : List α} (h : neB xs = false) : xs = [] := by
 cases xs with
 | nil => rfl
 | cons a l => cases h
section
variable {P : Program} {G : Glob} {H : Nat → Option VObj} {γ : Nat} {α : Type} {enc : α → List VV} {t t2 e e2 w b : Nat} {xs ys : List α} {el : Option TypeId} {β : Nat} {f : Bool} {k : VV → VEff → Prop}
theorem k_appSE (he : ∀ x, (enc x).length = w) (hl : ∀ x, leafL (enc x) = true) (ha : appOk P t = some (e, w, b)) (hu2 : P.underlying t2 = some (.slice e2)) (hb : H β = some (.cells el (cellsL enc xs)))
  (hm : neB ys = false) (h : k (.ref β 0 xs.length w xs.length) (.upd β (.cells el (cellsL enc xs)))) :
  oeK (vappend P H γ t t2 (.ref β 0 xs.length w xs.length) (.sl (cellsL enc ys) ys.length f)) k := by
 have hm := neB_false hm
 subst hm
 obtain ⟨hu, inf, z, hi, hz, rfl, rfl, hs0, hb0, hzs⟩ := appOk_some ha
 have h1 := cellsL_length he xs
 have key : vappend P H γ t t2 (.ref β 0 xs.length inf.size xs.length) (.sl (cellsL enc ([] : List α)) ([] : List α).length f) = some (.ref β 0 xs.length inf.size xs.length, .upd β (.cells el (cellsL enc xs))) := by
  simp only [vappend, nilS, vappend1, hu, hu2, hi, hz, srcV, sls, hs0, hb0, hzs, hb, cellsL_nil, List.length_nil]
  simp [h1, overwrite]
 rw [key]
 exact h
theorem k_appNE (ha : appOk P t = some (e, w, b)) (hu2 : P.underlying t2 = some (.slice e2)) (hm : neB ys = false) (h : k (.sl [] 0 true) .none) :
  oeK (vappend P H γ t t2 (.lit (.slice none 0 0)) (.sl (cellsL enc ys) ys.length f)) k := by
 have hm := neB_false hm
 subst hm
 obtain ⟨hu, inf, z, hi, hz, rfl, rfl, hs0, hb0, hzs⟩ := appOk_some ha
 have key : vappend P H γ t t2 (.lit (.slice none 0 0)) (.sl (cellsL enc ([] : List α)) ([] : List α).length f) = some (.sl [] 0 true, .none) := by
  simp only [vappend, nilS, vappend1, hu, hu2, hi, hz, srcV, sls, hs0, hb0, hzs, cellsL_nil, List.length_nil]
  simp
 rw [key]
 exact h
theorem fin_updS {d : Tmp} {γ : Nat} {tm : Nat → VV} {nx : Nat} {df : List VDef} {K : St → Prop} {x : VV} {β : Nat} {o : VObj} : fin (some d) γ tm H nx df K x (.upd β o) = K ⟨upd tm d x, updH H β o, nx, df⟩ := rfl
theorem vap_full {s : VV} : vappend P H γ t t2 (.sl [] 0 true) s = vappend P H γ t t2 (.lit (.slice none 0 0)) s := rfl
theorem kfreeze {f : FuncId} {args args' args0 : List VV} {x : VV} {d : Option Tmp} {γ g : Nat} {tm : Nat → VV} {nx : Nat} {df : List VDef} {K : St → Prop} {Qp : VV → St → Prop} {cs : List VV} (hγ : H g = some (.cells el cs)) (ha : FrozenL H (without H g) args args')
  (hn : normL args' = args0) (ht : treeL args' = true) (hp : VPure P G f args0 (.tree x)) (h : fin d γ tm (without H g) nx df K x .none) : callK P G f args ⟨tm, H, nx, df⟩ d γ K Qp := by
 subst hn
 refine .inr (.inr ?_)
 unfold openK
 refine VOpen.mono (VOpen.freeze1 hγ ha (VOpen.of_pure hp.norm ht)) ?_ (fun _ _ _ h => h.elim)
 rintro v H2 nx2 ⟨rfl, rfl, rfl⟩
 rw [← fin_eq (K := K), stepTo_none] at h
 cases d <;> exact h
end
end Go.V
namespace Go.V
open Go
end Go.V
namespace Go.V
open Go
theorem nilS_some {y : VV} (h : nilS y = .sl [] 0 true) : y = .lit (.slice none 0 0) ∨ y = .sl [] 0 true := by
 unfold nilS at h
 split at h
 ·exact .inl rfl
 ·exact .inr h
theorem vap_y {y : VV} (hy : nilS y = .sl [] 0 true) (P : Program) (H : Nat → Option VObj) (γ : Nat) (t t2 : TypeId) (x : VV) : vappend P H γ t t2 y x = vappend P H γ t t2 (.lit (.slice none 0 0)) x := by
 show vappend1 P H γ t t2 (nilS y) x = vappend1 P H γ t t2 (.sl [] 0 true) x
 rw [hy]
theorem outV_y {y : VV} (hy : nilS y = .sl [] 0 true) (H : Nat → Option VObj) : outV H y = .sl [] 0 false := by
 rcases nilS_some hy with rfl | rfl <;> simp [outV, showV, normV, normL]
end Go.V
end
