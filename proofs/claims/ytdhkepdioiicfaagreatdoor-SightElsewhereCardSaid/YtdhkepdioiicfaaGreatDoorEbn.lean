/- Part of a proof: a logic of values by content, lifted functions, what follows. -/
import Derived.Test.YtdhkepdioiicfaaGreatDoorEbl
import Derived.Test.YtdhkepdioiicfaaGreatDoorEbm
import Derived.Test.YtdhkepdioiicfaaGreatDoorEbf
import Derived.Test.YtdhkepdioiicfaaGreatDoorEbi
set_option linter.all false
set_option maxRecDepth 4000
set_option maxHeartbeats 4000000
section
namespace Go.V
open Go
def rowP (a : Int) : Nat → Int → List GSightPlace
 | 0, _ => []
 | k + 1, c => ⟨a, c + 1⟩ :: rowP a k (c + 1)
def gridP (w : Nat) : Nat → Int → List GSightPlace
 | 0, _ => []
 | k + 1, c => rowP c w 0 ++ gridP w k (c + 1)
theorem mem_rowP {a : Int} {p : GSightPlace} : ∀ (k : Nat) (c : Int), p ∈ rowP a k c → p.Along = a ∧ c + 1 ≤ p.Across ∧ p.Across ≤ c + k
 | 0, c, h => by cases h
 | k + 1, c, h => by
  rcases List.mem_cons.1 h with rfl | h
  ·exact ⟨rfl, by show c + 1 ≤ c + 1; omega, by show c + 1 ≤ c + ((k + 1 : Nat) : Int); omega⟩
  ·have := mem_rowP k (c + 1) h; exact ⟨this.1, by omega, by omega⟩
theorem mem_gridP {w : Nat} {p : GSightPlace} : ∀ (k : Nat) (c : Int), p ∈ gridP w k c → (c ≤ p.Along ∧ p.Along < c + k) ∧ 1 ≤ p.Across ∧ p.Across ≤ w
 | 0, c, h => by cases h
 | k + 1, c, h => by
  rcases List.mem_append.1 h with h | h
  ·have := mem_rowP _ _ h; exact ⟨⟨by omega, by omega⟩, by omega, by omega⟩
  ·have := mem_gridP k (c + 1) h; exact ⟨⟨by omega, by omega⟩, by omega, by omega⟩
theorem rowP_len {a : Int} : ∀ (k : Nat) (c : Int), (rowP a k c).length = k
 | 0, c => rfl
 | k + 1, c => by simp [rowP, rowP_len k]
def InvM (f : GSightPlace → Int) (l : List (GSightPlace × Int)) : Prop := ∀ e ∈ l, e.2 = f e.1
def HasK (l : List (GSightPlace × Int)) (k : GSightPlace) : Prop := ∃ e ∈ l, e.1 = k
theorem q34_self (k : GSightPlace) : q34 k k = true := by simp [q34]
theorem kIdx_no {k : GSightPlace} : ∀ (es : List GSightPlace) (i : Nat), kIdx q34 k es i = none → k ∉ es
 | [], i, h => by simp
 | e :: es, i, h => by
  unfold kIdx at h
  cases hq : q34 k e with
  | true => rw [hq] at h; cases h
  | false =>
   rw [hq] at h
   have := kIdx_no es (i + 1) h
   intro hm
   rcases List.mem_cons.1 hm with rfl | hm
   ·rw [q34_self] at hq; cases hq
   ·exact this hm
theorem kIdx_at {k : GSightPlace} {l : List (GSightPlace × Int)} {i : Nat} (h : kIdx q34 k (l.map (·.1)) 0 = some i) : ∃ v, l[i]? = some (k, v) := by
 obtain ⟨_, e, h1, h2⟩ := kIdx_some _ _ _ h
 rw [Nat.sub_zero, List.getElem?_map] at h1
 cases hl : l[i]? with
 | none => rw [hl] at h1; cases h1
 | some p =>
  rw [hl] at h1
  simp only [Option.map_some, Option.some.injEq] at h1
  have := hq34 _ _ h2
  exact ⟨p.2, by rw [this, ← h1]⟩
theorem get_of {f : GSightPlace → Int} {l : List (GSightPlace × Int)} {k : GSightPlace} (h : InvM f l) (hk : HasK l k) : mapGet q34 0 l k = f k := by
 unfold mapGet
 cases hi : kIdx q34 k (l.map (·.1)) 0 with
 | none =>
  obtain ⟨e, he, rfl⟩ := hk
  exact absurd (List.mem_map.2 ⟨e, he, rfl⟩) (kIdx_no _ _ hi)
 | some i =>
  obtain ⟨v, hv⟩ := kIdx_at hi
  simp only [hv]
  exact h _ (List.mem_of_getElem? hv)
theorem set_of {f : GSightPlace → Int} {l : List (GSightPlace × Int)} {k : GSightPlace} (h : InvM f l) : InvM f (mapSet q34 l k (f k)) ∧ HasK (mapSet q34 l k (f k)) k ∧ ∀ k', HasK l k' → HasK (mapSet q34 l k (f k)) k' := by
 unfold mapSet
 cases hi : kIdx q34 k (l.map (·.1)) 0 with
 | none =>
  refine ⟨fun e he => ?_, ⟨_, List.mem_append.2 (.inr (List.mem_singleton.2 rfl)), rfl⟩, fun k' ⟨e, he, hk⟩ => ⟨e, List.mem_append.2 (.inl he), hk⟩⟩
  rcases List.mem_append.1 he with he | he
  ·exact h e he
  ·rw [List.mem_singleton.1 he]
 | some i =>
  obtain ⟨v, hv⟩ := kIdx_at hi
  have hvf : v = f k := h _ (List.mem_of_getElem? hv)
  have hs : l.set i (k, f k) = l := by
   rw [← hvf]
   obtain ⟨hlt, he⟩ := List.getElem?_eq_some_iff.1 hv
   rw [← he, List.set_getElem_self]
  simp only [hs]
  exact ⟨h, ⟨_, List.mem_of_getElem? hv, rfl⟩, fun k' hk => hk⟩
theorem fold_of {f : GSightPlace → Int} : ∀ (L : List GSightPlace) (l : List (GSightPlace × Int)), InvM f l → InvM f (L.foldl (fun m p => mapSet q34 m p (f p)) l) ∧ (∀ p ∈ L, HasK (L.foldl (fun m p => mapSet q34 m p (f p)) l) p) ∧ ∀ k', HasK l k' → HasK (L.foldl (fun m p => mapSet q34 m p (f p)) l) k'
 | [], l, h => ⟨h, fun p hp => (by cases hp), fun k' hk => hk⟩
 | p :: L, l, h => by
  obtain ⟨h1, h2, h3⟩ := set_of (k := p) h
  obtain ⟨g1, g2, g3⟩ := fold_of L _ h1
  refine ⟨g1, fun x hx => ?_, fun k' hk => g3 k' (h3 k' hk)⟩
  rcases List.mem_cons.1 hx with rfl | hx
  ·exact g3 _ h2
  ·exact g2 x hx
theorem bnd_small {n : Int} (h : n ≤ 1000) : boundOk n = true := by unfold boundOk; exact decide_eq_true (by omega)
section
variable {s : GSightStreet} {b : GSightBoard}
theorem rf_l1 (a : Int) : ∀ (k : Nat) (c : Int) (m : List (GSightPlace × Int)), (∀ p ∈ rowP a k c, Good s b p) → g_sight_readFrom_l1 s b a k c m = some (.go ((rowP a k c).foldl (fun m p => mapSet q34 m p (seenI s b p)) m))
 | 0, c, m, h => rfl
 | k + 1, c, m, h => by
  simp only [g_sight_readFrom_l1, seen_eq s b _ (h _ (List.mem_cons_self ..)), Option.bind_some, rowP, List.foldl_cons]
  exact rf_l1 a k (c + 1) _ (fun p hp => h p (List.mem_cons_of_mem _ hp))
theorem rf_l0 (hw : s.Width ≤ 12) : ∀ (k : Nat) (c : Int) (m : List (GSightPlace × Int)), (∀ p ∈ gridP s.Width.toNat k c, Good s b p) → g_sight_readFrom_l0 s b k c m = some (.go ((gridP s.Width.toNat k c).foldl (fun m p => mapSet q34 m p (seenI s b p)) m))
 | 0, c, m, h => rfl
 | k + 1, c, m, h => by
  simp only [g_sight_readFrom_l0, bnd_small (show s.Width ≤ 1000 by omega), cond_true, Int.sub_zero]
  rw [rf_l1 c s.Width.toNat 0 m (fun p hp => h p (List.mem_append.2 (.inl hp))), lbind_go, rf_l0 hw k (c + 1) _ (fun p hp => h p (List.mem_append.2 (.inr hp))), gridP, List.foldl_append]
theorem ct_l1 (r : List (GSightPlace × Int)) (f : GSightPlace → Int) (a : Int) : ∀ (k : Nat) (c o : Int), (∀ p ∈ rowP a k c, mapGet q34 0 r p = f p) → 0 ≤ o → o + k ≤ 1000 → g_sight_Many_l1 r a k c o = some (.go (o + ((rowP a k c).filter (fun p => f p == 3)).length))
 | 0, c, o, h, h0, h1 => by simp [g_sight_Many_l1, rowP]
 | k + 1, c, o, h, h0, h1 => by
  have ih := fun o' => ct_l1 r f a k (c + 1) o' (fun p hp => h p (List.mem_cons_of_mem _ hp))
  simp only [g_sight_Many_l1, h _ (List.mem_cons_self ..), rowP, List.filter_cons]
  cases f ⟨a, c + 1⟩ == 3 with
  | true =>
   simp only [cond_true, if_true, List.length_cons]
   rw [wrap_eq (by omega) (by omega), ih (o + 1) (by omega) (by omega)]
   congr 2; omega
  | false =>
   simp only [cond_false, Bool.false_eq_true, if_false]
   rw [ih o h0 (by omega)]
theorem ct_l3 (r : List (GSightPlace × Int)) (f : GSightPlace → Int) (a : Int) : ∀ (k : Nat) (c o : Int), (∀ p ∈ rowP a k c, mapGet q34 0 r p = f p) → 0 ≤ o → o + k ≤ 1000 → g_sight_Many_l3 r a k c o = some (.go (o + ((rowP a k c).filter (fun p => decide (f p ≥ 2))).length))
 | 0, c, o, h, h0, h1 => by simp [g_sight_Many_l3, rowP]
 | k + 1, c, o, h, h0, h1 => by
  have ih := fun o' => ct_l3 r f a k (c + 1) o' (fun p hp => h p (List.mem_cons_of_mem _ hp))
  simp only [g_sight_Many_l3, h _ (List.mem_cons_self ..), rowP, List.filter_cons]
  cases decide (f ⟨a, c + 1⟩ ≥ 2) with
  | true =>
   simp only [cond_true, if_true, List.length_cons]
   rw [wrap_eq (by omega) (by omega), ih (o + 1) (by omega) (by omega)]
   congr 2; omega
  | false =>
   simp only [cond_false, Bool.false_eq_true, if_false]
   rw [ih o h0 (by omega)]
theorem ct_l0 (hw : s.Width ≤ 12) (hw0 : 0 ≤ s.Width) (r : List (GSightPlace × Int)) (f : GSightPlace → Int) : ∀ (k : Nat) (c o : Int), (∀ p ∈ gridP s.Width.toNat k c, mapGet q34 0 r p = f p) → 0 ≤ o → o + k * 12 ≤ 1000 → g_sight_Many_l0 s r k c o = some (.go (o + ((gridP s.Width.toNat k c).filter (fun p => f p == 3)).length))
 | 0, c, o, h, h0, h1 => by simp [g_sight_Many_l0, gridP]
 | k + 1, c, o, h, h0, h1 => by
  have hl := List.length_filter_le (fun p => f p == 3) (rowP c s.Width.toNat 0)
  rw [rowP_len] at hl
  simp only [g_sight_Many_l0, bnd_small (show s.Width ≤ 1000 by omega), cond_true, Int.sub_zero]
  rw [ct_l1 r f c s.Width.toNat 0 o (fun p hp => h p (List.mem_append.2 (.inl hp))) h0 (by omega), lbind_go, ct_l0 hw hw0 r f k (c + 1) (o + ((rowP c s.Width.toNat 0).filter (fun p => f p == 3)).length) (fun p hp => h p (List.mem_append.2 (.inr hp))) (by omega) (by omega), gridP, List.filter_append, List.length_append]
  congr 2; omega
theorem ct_l2 (hw : s.Width ≤ 12) (hw0 : 0 ≤ s.Width) (r : List (GSightPlace × Int)) (f : GSightPlace → Int) : ∀ (k : Nat) (c o : Int), (∀ p ∈ gridP s.Width.toNat k c, mapGet q34 0 r p = f p) → 0 ≤ o → o + k * 12 ≤ 1000 → g_sight_Many_l2 s r k c o = some (.go (o + ((gridP s.Width.toNat k c).filter (fun p => decide (f p ≥ 2))).length))
 | 0, c, o, h, h0, h1 => by simp [g_sight_Many_l2, gridP]
 | k + 1, c, o, h, h0, h1 => by
  have hl := List.length_filter_le (fun p => decide (f p ≥ 2)) (rowP c s.Width.toNat 0)
  rw [rowP_len] at hl
  simp only [g_sight_Many_l2, bnd_small (show s.Width ≤ 1000 by omega), cond_true, Int.sub_zero]
  rw [ct_l3 r f c s.Width.toNat 0 o (fun p hp => h p (List.mem_append.2 (.inl hp))) h0 (by omega), lbind_go, ct_l2 hw hw0 r f k (c + 1) (o + ((rowP c s.Width.toNat 0).filter (fun p => decide (f p ≥ 2))).length) (fun p hp => h p (List.mem_append.2 (.inr hp))) (by omega) (by omega), gridP, List.filter_append, List.length_append]
  congr 2; omega
def allP (s : GSightStreet) : List GSightPlace := gridP s.Width.toNat (s.Length + 1).toNat 0
theorem all_good {n : Int} (h1 : streetB s = true) (h2 : numB s n = true) : ∃ b, getI s.Boards n = some b ∧ (1 ≤ s.Length ∧ s.Length ≤ 40) ∧ (1 ≤ s.Width ∧ s.Width ≤ 12) ∧ ∀ p ∈ allP s, Good s b p := by
 have hs := h1
 simp only [streetB, Bool.and_eq_true, inB_iff] at hs
 obtain ⟨hl, hw, _⟩ := hs
 have h3 : placeB s ⟨0, 1⟩ = true := by simp only [placeB, Bool.and_eq_true, inB_iff]; omega
 obtain ⟨b, b1, _, _⟩ := good_of h1 h2 h3
 refine ⟨b, b1, hl, hw, fun p hp => ?_⟩
 have := mem_gridP _ _ hp
 have h4 : placeB s p = true := by simp only [placeB, Bool.and_eq_true, inB_iff]; omega
 obtain ⟨b', b2, _, b3⟩ := good_of h1 h2 h4
 rw [b1] at b2
 cases b2
 exact b3
theorem readFrom_eq (hl : 1 ≤ s.Length ∧ s.Length ≤ 40) (hw : 1 ≤ s.Width ∧ s.Width ≤ 12) (h : ∀ p ∈ allP s, Good s b p) : ∃ r, g_sight_readFrom s b = some r ∧ ∀ p ∈ allP s, mapGet q34 0 r p = seenI s b p := by
 have hf := fold_of (f := seenI s b) (allP s) [] (fun e he => by cases he)
 refine ⟨_, ?_, fun p hp => get_of hf.1 (hf.2.1 p hp)⟩
 simp only [g_sight_readFrom, wrap_eq (show -9223372036854775808 ≤ s.Length + 1 by omega) (by omega), bnd_small (show s.Length + 1 ≤ 1000 by omega), cond_true, Int.sub_zero]
 rw [rf_l0 hw.2 _ _ _ h, lbind_go]
 rfl
theorem Many_eq {n : Int} (h : FineS s) (h1 : streetB s = true) (h2 : numB s n = true) (hb : getI s.Boards n = some b) (hl : 1 ≤ s.Length ∧ s.Length ≤ 40) (hw : 1 ≤ s.Width ∧ s.Width ≤ 12) (hg : ∀ p ∈ allP s, Good s b p) :
  g_sight_Many s n = some ((((allP s).filter (fun p => seenI s b p == 3)).length : Int), (((allP s).filter (fun p => decide (seenI s b p ≥ 2))).length : Int), 0) := by
 obtain ⟨r, hr, hm⟩ := readFrom_eq hl hw hg
 have h2' := h2
 simp only [numB] at h2'
 simp only [g_sight_Many, isStreet_eq s h, isBoard_eq, h1, h2', Option.bind_some, cond_true, hb, hr, wrap_eq (show -9223372036854775808 ≤ s.Length + 1 by omega) (by omega), bnd_small (show s.Length + 1 ≤ 1000 by omega), Int.sub_zero]
 rw [ct_l0 hw.2 (by omega) r (seenI s b) _ _ _ hm (Int.le_refl 0) (by omega), lbind_go, ct_l2 hw.2 (by omega) r (seenI s b) _ _ _ hm (Int.le_refl 0) (by omega), lbind_go, Int.zero_add, Int.zero_add]
 rfl
theorem seen3 (p : GSightPlace) : (seenI s b p == 3) = sureB s b p := by
 unfold seenI
 cases sureB s b p <;> cases mayB s b p <;> rfl
end
end Go.V
end
section
set_option linter.unusedVariables false
set_option linter.unusedSimpArgs false
namespace Go.V
open Go
section
variable {P : Program} {G : Glob} {f : FuncId} {β γ w c nx : Nat} {tm : Nat → VV} {H : Nat → Option VObj} {df : List VDef} {d : Option Tmp} {K : List Nat → List Nat → St → Prop} {el : Option TypeId} {α : Type} {enc : α → List VV} {xs ys : List α} {x : VV}
end
section
variable {P : Program} {G : Glob} {β γ w e : Nat} {t ty : TypeId} {tm : Nat → VV} {H : Nat → Option VObj} {d : Option Tmp} {k : VV → VEff → Prop} {el : Option TypeId} {α : Type} {enc : α → List VV} {xs ys : List α} {pos : String} {af : Array Edge} {g : Option (Nat × Bool)} {x : Operand} {lo hi : Option Operand}
end
section
variable {P : Program} {G : Glob} {f : FuncId} {γ nx : Nat} {tm : Nat → VV} {H : Nat → Option VObj} {df : List VDef} {d : Option Tmp} {x : VV}
theorem ktree0 {K : St → Prop} {Qp : VV → St → Prop} (hp : VPure P G f [] (.tree x)) (h : fin d γ tm H nx df K x .none) : callK P G f [] ⟨tm, H, nx, df⟩ d γ K Qp := ktree (args0 := []) rfl rfl hp h
end
end Go.V
end
section
set_option linter.unusedVariables false
set_option linter.defProp false
namespace Go.V
open Go
section
variable {P : Program} {H : Nat → Option VObj} {t : TypeId} {x y : Operand} {k : IntKind} {a b : Int}
end
end Go.V
end
section
set_option linter.unusedVariables false
namespace Go.V
open Go
def pairOk (ops : Array Oper) (p q : Nat × List Nat × List Nat) : Prop := isBefore ops ops.size p.1 q.1 = true ∨ (Indep p q ∧ ∀ o o', ops[p.1]? = some o → ops[q.1]? = some o' → o.apart ops o' = true)
section
variable {P : Program} {G : Glob} {ops : Array Oper} {base : Nat} {Q : VExit → St → Prop} {n : Nat}
theorem QSteps.snoc {m : Nat} {o : Oper} {rd wr : List Nat} {s2 : St} (ho : ops[m]? = some o) : ∀ {l : List Nat} {st s1 : St} {tr : Tr}, QSteps P G ops base l st s1 tr → QStep P G ops base m o s1 s2 rd wr → QSteps P G ops base (l ++ [m]) st s2 (tr ++ [(m, rd, wr)])
 | _, _, _, _, .nil, h => .cons ho h .nil
 | _, _, _, _, .cons ho' hq hs, h => .cons ho' hq (QSteps.snoc ho hs h)
theorem traceOk_snoc {tr : Tr} {q : Nat × List Nat × List Nat} (h : TraceOk ops tr) (h' : ∀ p ∈ tr, pairOk ops p q) : TraceOk ops (tr ++ [q]) := by
 unfold TraceOk
 rw [List.pairwise_append]
 refine ⟨h, List.pairwise_singleton _ _, fun p hp r hr => ?_⟩
 rw [List.mem_singleton.1 hr]
 exact h' p hp
def vbar (P : Program) (G : Glob) (n : Nat) (ops : Array Oper) (base : Nat) (Q : VExit → St → Prop) (b : Nat) (Nx : List Nat → St → Prop) : Nat → List Nat → St → Tr → Prop
 | 0, fl, st, _ => fl = [] ∧ SStep P G n ops base b st (Nx fl) (fun x s => Q (.panic x) s)
 | k + 1, fl, st, tr => SStep P G n ops base b st (Nx fl) (fun x s => Q (.panic x) s) ∧ ∀ m ∈ fl, (∀ i ∈ fl, isBefore ops ops.size i m = false) →
   ∃ o s1 rd wr, ops[m]? = some o ∧ QStep P G ops base m o st s1 rd wr ∧ (∀ p ∈ tr, pairOk ops p (m, rd, wr)) ∧ vbar P G n ops base Q b Nx k (fl.erase m) s1 (tr ++ [(m, rd, wr)])
theorem vbar_sub {b : Nat} {Nx : List Nat → St → Prop} : ∀ (k : Nat) {fl : List Nat} {st : St} {tr tr' : Tr}, vbar P G n ops base Q b Nx k fl st tr → (∀ p ∈ tr', p ∈ tr) → vbar P G n ops base Q b Nx k fl st tr'
 | 0, _, _, _, _, h, _ => h
 | k + 1, _, _, _, _, h, hs => ⟨h.1, fun m hm hb => by
   obtain ⟨o, s1, rd, wr, h1, h2, h3, h4⟩ := h.2 m hm hb
   refine ⟨o, s1, rd, wr, h1, h2, fun p hp => h3 p (hs p hp), vbar_sub k h4 fun p hp => ?_⟩
   rcases List.mem_append.1 hp with hp | hp
   ·exact List.mem_append_left _ (hs p hp)
   ·exact List.mem_append_right _ hp⟩
theorem vbar_sstep {b : Nat} {Nx : List Nat → St → Prop} {k : Nat} {fl : List Nat} {st : St} {tr : Tr} (h : vbar P G n ops base Q b Nx k fl st tr) : SStep P G n ops base b st (Nx fl) (fun x s => Q (.panic x) s) := by
 cases k with
 | zero => exact h.2
 | succ k => exact h.1
def VF (P : Program) (G : Glob) (n : Nat) (ops : Array Oper) (base : Nat) (Q : VExit → St → Prop) : List (List Nat × Nat) → List Nat → List Nat → St → Prop
 | [], last, fl, st => ∃ lst st' tr, lst.Perm (fl ++ last) ∧ QSteps P G ops base lst st st' tr ∧ TraceOk ops tr ∧ Q .normal st'
 | (l, b) :: rest, last, fl, st => ∃ st' tr k, QSteps P G ops base l st st' tr ∧ TraceOk ops tr ∧ vbar P G n ops base Q b (VF P G n ops base Q rest last) k fl st' tr
theorem Left.perm {listed : Array Bool} {l l' : List Nat} (h : Left ops listed l) (hp : l'.Perm l) : Left ops listed l' :=
 ⟨h.1, hp.nodup_iff.2 h.2.1, fun i => (hp.mem_iff).trans (h.2.2 i)⟩
theorem vf_sound {ro : Option Nat} {nx0 : Nat} {c0 : Ctx} {W0 : World} (hback : backOk ops = true) (hdst : dstsOk n ops = true) :
  ∀ (fuel : Nat) (segs : List (List Nat × Nat)) (last fl : List Nat) (listed : Array Bool) (st : St) (c : Ctx) (W : World) (a : Act),
  VF P G n ops base Q segs last fl st → Left ops listed (fl ++ flat segs last) → (fl ++ flat segs last).length ≤ fuel → Closed ops listed → barOk ops segs last = true → base + ops.size ≤ st.nx → nx0 ≤ base →
  RoOk G c ro → Sim c W → StRep G c W st a → a.tmps.size = n → (∀ i ∈ fl ++ flat segs last, ¬ c.used (base + i)) → Ext c0 W0 c W → (∀ β, c.used β → c0.used β ∨ nx0 ≤ β) →
  wpAnyIn (Fw ro) 0 P .any ops (Lift G n nx0 c0 W0 Q) fuel listed a W := by
 intro fuel
 induction fuel with
 | zero =>
  intro segs last fl listed st c W a h hleft hlen hcl hbar hb hn hro s hr hs hf he hu
  cases segs with
  | cons p rest => obtain ⟨l, b⟩ := p; simp [flat] at hlen
  | nil =>
   obtain ⟨lst, st', tr, hp, hq, htr, hQ⟩ := h
   simp only [flat] at hleft hlen hf
   exact vdraw_sound hback hdst 0 [] lst listed st c W a ⟨st', tr, hq, htr, hQ⟩ (hleft.perm hp) (by simp only [flat]; rw [hp.length_eq]; exact hlen) hcl rfl hb hn hro s hr hs (fun i hi => hf i (hp.mem_iff.1 hi)) he hu
 | succ fuel ih =>
  intro segs last fl listed st c W a h hleft hlen hcl hbar hb hn hro s hr hs hf he hu
  cases segs with
  | nil =>
   obtain ⟨lst, st', tr, hp, hq, htr, hQ⟩ := h
   simp only [flat] at hleft hlen hf
   exact vdraw_sound hback hdst (fuel + 1) [] lst listed st c W a ⟨st', tr, hq, htr, hQ⟩ (hleft.perm hp) (by simp only [flat]; rw [hp.length_eq]; exact hlen) hcl rfl hb hn hro s hr hs (fun i hi => hf i (hp.mem_iff.1 hi)) he hu
  | cons p rest =>
   obtain ⟨l, b⟩ := p
   refine ⟨fun hrd => ?_, fun j hj => ?_⟩
   ·have hnil := ready_of_left hback hleft hrd
    simp [flat] at hnil
   ·have hjl := ready_left hleft hj
    obtain ⟨hjlt, _, hpre⟩ := ready_spec hj
    have hjlt' : j < listed.size := by rw [hleft.1]; exact hjlt
    have hno : ∀ i ∈ fl ++ flat ((l, b) :: rest) last, isBefore ops ops.size i j = false := by
     intro i hi
     cases hbf : isBefore ops ops.size i j with
     | false => rfl
     | true =>
      have h1 := before_listed hcl _ _ _ hpre hbf
      rw [hleft.unlisted hi] at h1
      cases h1
    have hcl' := hcl.set hpre hjlt'
    have hnd := hleft.2.1
    have hlt : ∀ i ∈ fl ++ flat ((l, b) :: rest) last, i < ops.size := fun i hi => ((hleft.2.2 i).1 hi).1
    obtain ⟨st', tr, k, hq, htr, hB⟩ := h
    have quiet : ∀ (o : Oper) (rd wr : List Nat) (s1 : St) (l' fl' : List Nat), ops[j]? = some o → QStep P G ops base j o st s1 rd wr → VF P G n ops base Q ((l', b) :: rest) last fl' s1 → fl' ++ flat ((l', b) :: rest) last = (fl ++ flat ((l, b) :: rest) last).erase j → barOk ops ((l', b) :: rest) last = true →
      wpOpIn (Fw ro) 0 P ops (Lift G n nx0 c0 W0 Q) j (wpAnyIn (Fw ro) 0 P .any ops (Lift G n nx0 c0 W0 Q) fuel (listed.setIfInBounds j true)) a W := by
     intro o rd wr s1 l' fl' ho hqj hd' hflat hbar'
     refine qstep_sound ho hqj s hr (by rw [hs]; exact dstsOk_spec hdst ho) (hf j hjl) (by omega) ?_
     intro a' W' c' he' hs' hr' hsz hu'
     refine ih ((l', b) :: rest) last fl' _ s1 c' W' a' hd' (by rw [hflat]; exact hleft.set hjl) ?_ hcl' hbar' (by rw [hqj.nx]; exact hb) hn (hro.ext he') hs' hr' (hsz.trans hs) ?_ (he.trans he') ?_
     ·rw [hflat, List.length_erase_of_mem hjl]; omega
     ·intro i hi hbad
      rw [hflat, hnd.mem_erase_iff] at hi
      rcases hu' _ hbad with h | h
      ·exact hf i hi.2 h
      ·exact hi.1 (by omega)
     ·intro β hβ
      rcases hu' β hβ with h | h
      ·exact hu β h
      ·right; omega
    simp only [barOk, Bool.and_eq_true, List.all_eq_true] at hbar
    by_cases hjf : j ∈ fl
    ·have hdis := List.nodup_append.1 hnd
     have hjn : j ∉ l := fun hm => hdis.2.2 j hjf j (by simp [flat, hm]) rfl
     cases k with
     | zero => rw [hB.1] at hjf; cases hjf
     | succ k =>
      obtain ⟨o, sm, rd, wr, ho, hqm, hpo, hB'⟩ := hB.2 j hjf (fun i hi => hno i (List.mem_append_left _ hi))
      obtain ⟨o2, rd2, wr2, s1, tr2, ho2, hqj, hqs, htr2, hsub, _⟩ := (hq.snoc ho hqm).pull (j := j) (by simp) (traceOk_snoc htr hpo) (fun i hi => by
       rcases List.mem_append.1 hi with hi | hi
       ·exact hno i (by simp [flat, hi])
       ·rw [List.mem_singleton.1 hi]; exact hno j hjl)
      have el : (l ++ [j]).erase j = l := by rw [List.erase_append_right _ hjn, List.erase_cons_head, List.append_nil]
      rw [el] at hqs
      refine quiet o2 rd2 wr2 s1 l (fl.erase j) ho2 hqj ⟨sm, tr2, k, hqs, htr2, vbar_sub k hB' hsub⟩ (List.erase_append_left _ hjf).symm ?_
      simp only [barOk, Bool.and_eq_true, List.all_eq_true]
      exact hbar
    ·have hjl2 : j ∈ flat ((l, b) :: rest) last := by
      rcases List.mem_append.1 hjl with h | h
      ·exact absurd h hjf
      ·exact h
     by_cases hjm : j ∈ l
     ·obtain ⟨o2, rd2, wr2, s1, tr2, ho2, hqj, hqs, htr2, hsub, _⟩ := hq.pull hjm htr (fun i hi => hno i (by simp [flat, hi]))
      refine quiet o2 rd2 wr2 s1 (l.erase j) fl ho2 hqj ⟨st', tr2, k, hqs, htr2, vbar_sub k hB hsub⟩ ?_ ?_
      ·rw [List.erase_append_right _ hjf]
       simp only [flat]
       rw [List.erase_append_left _ hjm]
      ·simp only [barOk, Bool.and_eq_true, List.all_eq_true]
       exact ⟨⟨fun i hi => hbar.1.1 i (List.mem_of_mem_erase hi), hbar.1.2⟩, hbar.2⟩
     ·simp only [flat] at hjl2
      have hjb : j = b := by
       rcases List.mem_append.1 hjl2 with h | h
       ·exact absurd h hjm
       ·rcases List.mem_cons.1 h with h | h
        ·exact h
        ·have h1 := hbar.1.2 j h
         rw [hno b (by simp [flat])] at h1; cases h1
      subst hjb
      have hlnil : l = [] := by
       cases l with
       | nil => rfl
       | cons i l' =>
        have h1 := hbar.1.1 i (List.mem_cons_self ..)
        rw [hno i (by simp [flat])] at h1; cases h1
      subst hlnil
      cases hq
      have hst := vbar_sstep hB
      simp only [flat, List.nil_append] at hf hlt hnd hleft hlen hjl
      refine hst ro c W a _ _ hro s hr hs (hf j hjl) (by omega) ?_ ?_
      ·intro a' W' c' s1 he' hs' hr' hsz hu' hnx hk
       have her : (fl ++ j :: flat rest last).erase j = fl ++ flat rest last := by rw [List.erase_append_right _ hjf, List.erase_cons_head]
       have hmem : ∀ i ∈ fl ++ flat rest last, i ∈ fl ++ j :: flat rest last := by
        intro i hi
        rcases List.mem_append.1 hi with hi | hi
        ·exact List.mem_append_left _ hi
        ·exact List.mem_append_right _ (List.mem_cons_of_mem _ hi)
       refine ih rest last fl _ s1 c' W' a' hk (by have := hleft.set hjl; rwa [her] at this) (by simp at hlen ⊢; omega) hcl' hbar.2 (by omega) hn (hro.ext he') hs' hr' hsz ?_ (he.trans he') ?_
       ·intro i hi hbad
        have hi' := hlt i (hmem i hi)
        rcases hu' _ hbad with h | h | h
        ·exact hf i (hmem i hi) h
        ·have : i = j := by omega
         rw [← her, hnd.mem_erase_iff] at hi
         exact hi.1 this
        ·omega
       ·intro β hβ
        rcases hu' β hβ with h | h | h
        ·exact hu β h
        ·right; omega
        ·right; omega
      ·intro a' W' c' s1 x v he' hs' hr' hsz hu' hnx hv hq
       refine ⟨.panic x, c', s1, ⟨v, rfl, hv⟩, he.trans he', hs', hr', hsz, fun β hβ => ?_, by omega, hq⟩
       rcases hu' β hβ with h | h | h
       ·exact hu β h
       ·right; omega
       ·right; omega
end
end Go.V
namespace Go.V
open Go
theorem VWp.regionFloat {P : Program} {G : Glob} {n id : Nat} {ops : Array Oper} {Q : VExit → St → Prop} {st : St} (hm : P.follows .mixedOrders = true) (segs : List (List Nat × Nat)) (last fl : List Nat)
  (hback : backOk ops = true) (hdst : dstsOk n ops = true) (hbar : barOk ops segs last = true) (hnd : (fl ++ flat segs last).Nodup) (hlen : (fl ++ flat segs last).length ≤ ops.size) (hmem : ∀ i, i ∈ fl ++ flat segs last ↔ i < ops.size)
  (h : VF P G n ops st.nx Q segs last fl { st with nx := st.nx + ops.size }) : VWp P G n (.region id ops true) Q st := by
 intro ro c W a hro s hr hs
 refine wpIn_region_any hm (vf_sound hback hdst ops.size segs last fl _ _ c W.drew a h ?_ hlen ?_ hbar (Nat.le_refl _) (Nat.le_refl _) (hro.ext (Ext.drew c W)) s.drew ?_ hs ?_ (Ext.drew c W) (fun _ h => .inl h))
 ·refine ⟨by simp, hnd, fun i => ?_⟩
  rw [hmem i]
  constructor
  ·intro hi; exact ⟨hi, by simp [hi]⟩
  ·intro hi; exact hi.1
 ·intro j hj
  exfalso
  by_cases hlt : j < ops.size
  ·simp [hlt] at hj
  ·simp [hlt] at hj
 ·have ab : Abides c W c W.drew := abides_of_heap rfl
  exact ⟨hr.H, fun t => Rep.abides ab _ (hr.tm t), fun β hb => Nat.lt_of_lt_of_le (hr.nx β hb) (Nat.le_add_right _ _), hr.df.abides ab, hr.G.abides ab⟩
 ·intro i _ hb
  have := hr.nx _ hb
  omega
def flR (P : Program) (G : Glob) (ops : Array Oper) (base : Nat) : Nat → List Oper → List Bool → Tr → (Tr → St → Prop) → St → Prop
 | i, o :: l, true :: mk, tr, K, st => dstepK P G ops (base + i) o st fun rd wr s => flR P G ops base (i + 1) l mk ((i, rd, wr) :: tr) K s
 | i, _ :: l, false :: mk, tr, K, st => flR P G ops base (i + 1) l mk tr K st
 | _, _, _, tr, K, st => K tr st
def idxM : Nat → List Bool → List Nat
 | _, [] => []
 | i, true :: mk => i :: idxM (i + 1) mk
 | i, false :: mk => idxM (i + 1) mk
theorem idxM_ge : ∀ {mk : List Bool} {i j : Nat}, j ∈ idxM i mk → i ≤ j
 | [], _, _, h => by cases h
 | true :: mk, i, j, h => by
  rcases List.mem_cons.1 h with rfl | h
  ·exact Nat.le_refl _
  ·exact Nat.le_of_succ_le (idxM_ge h)
 | false :: mk, i, j, h => Nat.le_of_succ_le (idxM_ge (mk := mk) h)
theorem idxM_sorted : ∀ (mk : List Bool) (i : Nat), (idxM i mk).Pairwise (· < ·)
 | [], _ => List.Pairwise.nil
 | true :: mk, i => List.pairwise_cons.2 ⟨fun j hj => idxM_ge hj, idxM_sorted mk (i + 1)⟩
 | false :: mk, i => idxM_sorted mk (i + 1)
section
variable {P : Program} {G : Glob} {ops : Array Oper} {base : Nat} {Q : VExit → St → Prop} {n : Nat}
theorem flR_sound : ∀ (l : List Oper) (mk : List Bool) (i : Nat) (tr : Tr) (K : Tr → St → Prop) (st : St), (∀ k o, l[k]? = some o → ops[i + k]? = some o) → mk.length ≤ l.length → flR P G ops base i l mk tr K st →
  ∃ st' tr', QSteps P G ops base (idxM i mk) st st' tr' ∧ K (tr'.reverse ++ tr) st'
 | l, [], i, tr, K, st, _, _, h => ⟨st, [], .nil, by cases l <;> exact h⟩
 | [], _ :: _, _, _, _, _, _, hl, _ => by simp at hl
 | o :: l, true :: mk, i, tr, K, st, ho, hl, h => by
  obtain ⟨rd, wr, s1, hq, hk⟩ := dstepK_sound h
  obtain ⟨st', tr', hqs, hK⟩ := flR_sound l mk (i + 1) _ K s1 (fun k o' hk' => by have := ho (k + 1) o' (by simpa using hk'); rw [show i + 1 + k = i + (k + 1) by omega]; exact this) (by simpa using hl) hk
  exact ⟨st', (i, rd, wr) :: tr', .cons (by have := ho 0 o rfl; simpa using this) hq hqs, by simpa using hK⟩
 | o :: l, false :: mk, i, tr, K, st, ho, hl, h =>
  flR_sound l mk (i + 1) tr K st (fun k o' hk' => by have := ho (k + 1) o' (by simpa using hk'); rw [show i + 1 + k = i + (k + 1) by omega]; exact this) (by simpa using hl) h
def flB (P : Program) (G : Glob) (ops : Array Oper) (base : Nat) (Q : VExit → St → Prop) (l : List Oper) (b : Nat) (K : St → Prop) (st : St) : Prop := match l.drop b with
 | o :: _ => stepK P G ops (base + b) o st K (fun x s => Q (.panic x) s)
 | [] => False
def flD (P : Program) (G : Glob) (ops : Array Oper) (base : Nat) (l : List Oper) (m : Nat) (st : St) (K : List Nat → List Nat → St → Prop) : Prop := match l.drop m with
 | o :: _ => dstepK P G ops (base + m) o st K
 | [] => False
def flGo (P : Program) (G : Glob) (ops : Array Oper) (base : Nat) (Q : VExit → St → Prop) (l : List Oper) (m : Nat) (mE mL : List Bool) : List (List Bool × Nat) → Bool → St → Prop
 | [], true, st => flR P G ops base 0 l mL [] (fun tr s => traceR ops tr ∧ Q .normal s) st
 | [], false, st => flR P G ops base 0 l mE [] (fun tr s => traceR ops tr ∧ Q .normal s) st
 | (mk, b) :: rest, false, st => flR P G ops base 0 l mk [] (fun tr s => traceR ops tr ∧ flB P G ops base Q l b (flGo P G ops base Q l m mE mL rest false) s) st
 | (mk, b) :: rest, true, st => flR P G ops base 0 l mk [] (fun tr s => traceR ops tr ∧ (flB P G ops base Q l b (flGo P G ops base Q l m mE mL rest true) s ∧
   flD P G ops base l m s (fun rd wr s' => hitK ops m rd wr tr ∧ flB P G ops base Q l b (flGo P G ops base Q l m mE mL rest false) s'))) st
def segsI (segs : List (List Bool × Nat)) : List (List Nat × Nat) := segs.map fun p => (idxM 0 p.1, p.2)
def apartM (ops : Array Oper) (m : Nat) (segs : List (List Bool × Nat)) : Bool := segs.all fun p => (idxM 0 p.1).all fun i => isBefore ops ops.size i m || (match ops[i]?, ops[m]? with
 | some o, some o' => o.apart ops o'
 | _, _ => true)
def shortM (k : Nat) (segs : List (List Bool × Nat)) : Bool := segs.all fun p => decide (p.1.length ≤ k)
theorem flB_sound {l : List Oper} {b : Nat} {K : St → Prop} {st : St} (hl : ∀ (k : Nat) (o : Oper), l[k]? = some o → ops[k]? = some o) (hd : dstsOk n ops = true) (h : flB P G ops base Q l b K st) : SStep P G n ops base b st K (fun x s => Q (.panic x) s) := by
 unfold flB at h
 cases e : l.drop b with
 | nil => rw [e] at h; exact h.elim
 | cons o l2 =>
  rw [e] at h
  have ho : l[b]? = some o := by
   have : (l.drop b)[0]? = some o := by rw [e]; rfl
   simpa using this
  exact stepK_sound (hl b o ho) hd h
theorem flD_sound {l : List Oper} {m : Nat} {K : List Nat → List Nat → St → Prop} {st : St} (hl : ∀ (k : Nat) (o : Oper), l[k]? = some o → ops[k]? = some o) (h : flD P G ops base l m st K) : ∃ o rd wr st', ops[m]? = some o ∧ QStep P G ops base m o st st' rd wr ∧ K rd wr st' := by
 unfold flD at h
 cases e : l.drop m with
 | nil => rw [e] at h; exact h.elim
 | cons o l2 =>
  rw [e] at h
  have ho : l[m]? = some o := by
   have : (l.drop m)[0]? = some o := by rw [e]; rfl
   simpa using this
  obtain ⟨rd, wr, st', h1, h2⟩ := dstepK_sound h
  exact ⟨o, rd, wr, st', hl m o ho, h1, h2⟩
theorem flGo_vf {l : List Oper} {m : Nat} {mE mL : List Bool} (hl : ∀ (k : Nat) (o : Oper), l[k]? = some o → ops[k]? = some o) (hd : dstsOk n ops = true) (hap : apartOk ops = true) (hE : mE.length ≤ l.length) (hL : mL.length ≤ l.length) (hp : (idxM 0 mL).Perm (m :: idxM 0 mE)) :
  ∀ (segs : List (List Bool × Nat)) (pend : Bool) (st : St), apartM ops m segs = true → shortM l.length segs = true → flGo P G ops base Q l m mE mL segs pend st → VF P G n ops base Q (segsI segs) (idxM 0 mE) (if pend then [m] else []) st := by
 have hl0 : ∀ (k : Nat) (o : Oper), l[k]? = some o → ops[0 + k]? = some o := fun k o h => by rw [Nat.zero_add]; exact hl k o h
 have tok : ∀ {mk : List Bool} {st st' : St} {tr : Tr}, QSteps P G ops base (idxM 0 mk) st st' tr → traceR ops (tr.reverse ++ []) → TraceOk ops tr := by
  intro mk st st' tr hq h
  refine traceK_sound hap tr ?_ (by simpa using traceR_sound h)
  rw [hq.fst]
  exact idxM_sorted mk 0
 intro segs
 induction segs with
 | nil =>
  intro pend st _ _ h
  cases pend with
  | true =>
   obtain ⟨st', tr, hq, ht, hQ⟩ := flR_sound l mL 0 [] _ st hl0 hL h
   exact ⟨_, st', tr, hp, hq, tok hq ht, hQ⟩
  | false =>
   obtain ⟨st', tr, hq, ht, hQ⟩ := flR_sound l mE 0 [] _ st hl0 hE h
   exact ⟨_, st', tr, List.Perm.refl _, hq, tok hq ht, hQ⟩
 | cons p rest ih =>
  obtain ⟨mk, b⟩ := p
  intro pend st ha hs h
  unfold apartM at ha
  unfold shortM at hs
  simp only [List.all_cons, Bool.and_eq_true] at ha hs
  have hmk : mk.length ≤ l.length := of_decide_eq_true hs.1
  cases pend with
  | false =>
   obtain ⟨st', tr, hq, ht, hB⟩ := flR_sound l mk 0 [] _ st hl0 hmk h
   exact ⟨st', tr, 0, hq, tok hq ht, rfl, (flB_sound hl hd hB).mono (fun s hs' => ih false s ha.2 hs.2 hs') (fun _ _ h => h)⟩
  | true =>
   obtain ⟨st', tr, hq, ht, hB, hD⟩ := flR_sound l mk 0 [] _ st hl0 hmk h
   refine ⟨st', tr, 1, hq, tok hq ht, (flB_sound hl hd hB).mono (fun s hs' => ih true s ha.2 hs.2 hs') (fun _ _ h => h), fun m' hm' _ => ?_⟩
   have em : m' = m := by simpa using hm'
   subst em
   obtain ⟨o, rd, wr, s1, ho, hqm, hk, hB2⟩ := flD_sound hl hD
   refine ⟨o, s1, rd, wr, ho, hqm, fun p hp' => ?_, by simp, (flB_sound hl hd hB2).mono (fun s hs' => ?_) (fun _ _ h => h)⟩
   ·rcases hitK_all hk p (by simpa using hp') with hb | hi
    ·exact .inl hb
    ·cases hbb : isBefore ops ops.size p.1 m' with
     | true => exact .inl hbb
     | false =>
      refine .inr ⟨hi, fun o1 o2 h1 h2 => ?_⟩
      have hpm : p.1 ∈ idxM 0 mk := by rw [← hq.fst]; exact List.mem_map_of_mem hp'
      have := (List.all_eq_true.1 ha.1) p.1 hpm
      simpa [hbb, h1, h2] using this
   ·have := ih false s ha.2 hs.2 hs'
    show VF P G n ops base Q (segsI rest) (idxM 0 mE) ([m'].erase m') s
    rw [List.erase_cons_head]
    exact this
def floatOk (n : Nat) (ops : Array Oper) (m : Nat) (segs : List (List Bool × Nat)) (mE mL : List Bool) : Bool :=
 backOk ops && dstsOk n ops && barOk ops (segsI segs) (idxM 0 mE) && apartOk ops && apartM ops m segs && shortM ops.size segs && decide (mE.length ≤ ops.size) && decide (mL.length ≤ ops.size) && decide ((idxM 0 mL).Perm (m :: idxM 0 mE)) &&
 decide ((m :: flat (segsI segs) (idxM 0 mE)).Nodup) && decide ((m :: flat (segsI segs) (idxM 0 mE)).length ≤ ops.size) && ((m :: flat (segsI segs) (idxM 0 mE)).all fun i => decide (i < ops.size)) && ((List.range ops.size).all fun i => decide (i ∈ m :: flat (segsI segs) (idxM 0 mE)))
theorem cwp_drawF (hm : P.follows .mixedOrders = true) {id : Nat} {l : List Oper} {tm : Nat → VV} {H : Nat → Option VObj} {nx : Nat} {df : List VDef}
  (m : Nat) (segs : List (List Bool × Nat)) (mE mL : List Bool) (hstat : floatOk n ⟨l⟩ m segs mE mL = true) (h : flGo P G ⟨l⟩ nx Q l m mE mL segs true ⟨tm, H, nx + l.length, df⟩) : CWp P G n (.region id ⟨l⟩ true) Q ⟨tm, H, nx, df⟩ := by
 unfold floatOk at hstat
 simp only [Bool.and_eq_true, decide_eq_true_eq, List.all_eq_true, List.mem_range] at hstat
 obtain ⟨⟨⟨⟨⟨⟨⟨⟨⟨⟨⟨⟨h1, h2⟩, h3⟩, h4⟩, h5⟩, h6⟩, h7⟩, h8⟩, h9⟩, h10⟩, h11⟩, h12⟩, h13⟩ := hstat
 refine .inr (VWp.regionFloat hm (segsI segs) (idxM 0 mE) [m] h1 h2 h3 h10 h11 (fun i => ⟨fun hi => h12 i hi, fun hi => h13 i hi⟩) ?_)
 have := flGo_vf (P := P) (G := G) (base := nx) (Q := Q) (n := n) (ops := ⟨l⟩) (l := l) (fun k o ho => by simpa using ho) h2 h4 h7 h8 h9 segs true _ h5 h6 h
 simpa using this
end
section
variable {P : Program} {G : Glob} {ops : Array Oper} {base : Nat} {Q : VExit → St → Prop} {n : Nat} {i m b : Nat} {o : Oper} {l l2 : List Oper} {mk mE mL : List Bool} {tr : Tr} {K : Tr → St → Prop} {tm : Nat → VV} {H : Nat → Option VObj} {nx : Nat} {df : List VDef} {st : St} {rest : List (List Bool × Nat)}
theorem flR_t : flR P G ops base i (o :: l) (true :: mk) tr K ⟨tm, H, nx, df⟩ = dstepK P G ops (base + i) o ⟨tm, H, nx, df⟩ fun rd wr s => flR P G ops base (i + 1) l mk ((i, rd, wr) :: tr) K s := rfl
theorem flR_f : flR P G ops base i (o :: l) (false :: mk) tr K ⟨tm, H, nx, df⟩ = flR P G ops base (i + 1) l mk tr K ⟨tm, H, nx, df⟩ := rfl
theorem flR_end (h : K tr st) : flR P G ops base i [] [] tr K st := h
theorem flB_go {K : St → Prop} (ho : l.drop b = o :: l2) (h : stepK P G ops (base + b) o st K (fun x s => Q (.panic x) s)) : flB P G ops base Q l b K st := by unfold flB; rw [ho]; exact h
theorem flD_go {K : List Nat → List Nat → St → Prop} (ho : l.drop m = o :: l2) (h : dstepK P G ops (base + m) o st K) : flD P G ops base l m st K := by unfold flD; rw [ho]; exact h
theorem flGo_lastL (h : flR P G ops base 0 l mL [] (fun tr s => traceR ops tr ∧ Q .normal s) st) : flGo P G ops base Q l m mE mL [] true st := h
theorem flGo_lastE (h : flR P G ops base 0 l mE [] (fun tr s => traceR ops tr ∧ Q .normal s) st) : flGo P G ops base Q l m mE mL [] false st := h
theorem flGo_segE (h : flR P G ops base 0 l mk [] (fun tr s => traceR ops tr ∧ flB P G ops base Q l b (flGo P G ops base Q l m mE mL rest false) s) st) : flGo P G ops base Q l m mE mL ((mk, b) :: rest) false st := h
theorem flGo_segL (h : flR P G ops base 0 l mk [] (fun tr s => traceR ops tr ∧ (flB P G ops base Q l b (flGo P G ops base Q l m mE mL rest true) s ∧
   flD P G ops base l m s (fun rd wr s' => hitK ops m rd wr tr ∧ flB P G ops base Q l b (flGo P G ops base Q l m mE mL rest false) s'))) st) : flGo P G ops base Q l m mE mL ((mk, b) :: rest) true st := h
end
end Go.V
namespace Go.V
set_option linter.defProp false
def flr := And.intro @flR_t @flR_f
end Go.V
end
section
namespace Go.V
open Go Go.Proofs
def g_sight_Hang_1 (x0_a : Gsighthanging) (x1_b : Gsighthanging) : Option (Bool) := some (decide (x0_a.places > x1_b.places))
theorem g_sight_Hang_1_ok (x0_a : Gsighthanging) (x1_b : Gsighthanging) (R : Bool) (h : g_sight_Hang_1 x0_a x1_b = some R) : VPure Tryz.prog G0 78 [.agg (cGsighthanging x0_a), .agg (cGsighthanging x1_b)] (.tree (.lit (.bool R))) := by
 refine VPure.runR mixed Tryz.call78 Tryz.func78 rfl (by simp [Tryz.ntmps78]; kernel_rfl) ?_
 obtain ⟨KF, h, kF, kN⟩ := fun_intro h
 simp only [g_sight_Hang_1] at h
 try simp only [vz, tyf, nm, seval]
 obtain rfl := kF _ h
 exact opd_bool Tryz.results78 rfl
end Go.V
end
