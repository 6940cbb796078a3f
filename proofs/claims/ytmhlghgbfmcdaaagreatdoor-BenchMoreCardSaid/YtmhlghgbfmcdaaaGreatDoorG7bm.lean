/- Part of a proof. -/
import Derived.Test.YtmhlghgbfmcdaaaGreatDoorG7bl
set_option linter.all false
set_option maxRecDepth 4000
set_option maxHeartbeats 40000000
section
namespace Go.V
open Go Go.Proofs IntKind
theorem F9 {b : GBk} (hA : 0 ≤ b.Apprentices) : ∀ (t : List Int) (p : List Int) (ss : List GBs), b.Strokes.drop p.length = ss → t.length = ss.length → (stepsB (mF b) (b.Apprentices.toNat + 1) p t = true ↔ planL b.Apprentices ss t = true)
 | [], p, [], _, _ => by simp [stepsB, planL]
 | h :: t, p, s :: ss, hd, hl => by
  have hg : b.Strokes[p.length]? = some s := by
   have := congrArg List.head? hd
   simpa [List.head?_drop] using this
  have f9 : b.Strokes.drop (p ++ [h]).length = ss := by
   have := congrArg List.tail hd
   simpa [List.tail_drop] using this
  have ih := F9 hA t (p ++ [h]) ss f9 (by simpa using hl)
  simp only [stepsB, planL, Bool.and_eq_true, decide_eq_true_eq, sS, ih, mF, hg]
  constructor
  ·rintro ⟨⟨h1, h2⟩, h3, h4⟩
   exact ⟨⟨⟨h1, by omega⟩, h3⟩, h4⟩
  ·rintro ⟨⟨⟨h1, h2⟩, h3⟩, h4⟩
   exact ⟨⟨h1, by omega⟩, h3, h4⟩
theorem uU {b : GBk} (hB : BOk b) {q : List Int} : q ∈ LA b b.Apprentices ↔ planB b q = true := by
 have h0 := hB.ap
 have hn := hB.ns
 unfold LA
 rw [wS]
 constructor
 ·rintro ⟨t, e, hl, hs⟩
  have e : q = t := e
  subst e
  have h := (F9 h0.1 q [] b.Strokes (by simp) hl).1 hs
  unfold planB
  simp [hl, h]
 ·intro h
  unfold planB at h
  simp only [Bool.and_eq_true, decide_eq_true_eq] at h
  exact ⟨q, rfl, h.1, (F9 h0.1 q [] b.Strokes (by simp) h.1).2 h.2⟩
theorem uT (b : GBk) : wiB b b.Apprentices = b := rfl
end Go.V
end
section
namespace Go.V
open Go Go.Proofs IntKind
section
variable {P : Program} {G : Glob} {γ : Nat} {tm : Nat → VV} {H : Nat → Option VObj} {α : Type} {enc : α → List VV} {z : α} {t e b : Nat} {n : Int} {v : Value} {x y : Operand} {d : Option Tmp} {ty : TypeId} {pos : String} {af : Array Edge} {g : Option (Nat × Bool)} {k : VV → VEff → Prop}
end
end Go.V
end
section
namespace Go.V
open Go Go.Proofs IntKind
def Ghost (st st' : St) : Prop := (∀ β o', st'.H β = some o' → ∃ o, st.H β = some o ∧ FrozenO st.H st'.H o o') ∧ (∀ β, isDef st.H β → isDef st'.H β) ∧
 (∀ t, Frozen st.H st'.H (st.tm t) (st'.tm t)) ∧ st'.nx = st.nx ∧ st'.df = st.df
theorem Ghost.rep {G : Glob} {c : Ctx} {W : World} {st st' : St} {a : Act} (g : Ghost st st') (s : Sim c W) (hr : StRep G c W st a) :
  Ext c W (c.frz st'.H) W ∧ Sim (c.frz st'.H) W ∧ StRep G (c.frz st'.H) W st' a := by
 obtain ⟨ho, hdd, htm, hnx, hdf⟩ := g
 have ho' : ∀ β o', st'.H β = some o' → ∃ o, c.H β = some o ∧ FrozenO c.H st'.H o o' := by rw [hr.H]; exact ho
 have hl : ∀ β, (st'.H β).isSome = true → c.live β := by
  intro β h
  obtain ⟨o', h'⟩ := Option.isSome_iff_exists.1 h
  obtain ⟨o, h1, _⟩ := ho' β o' h'
  simp [Ctx.live, h1]
 have he : Ext c W (c.frz st'.H) W := xt hl
 have ab : Abides c W (c.frz st'.H) W := rE hl
 have hloop : ∀ x s pe tm ps asg bo df, st'.H x = some (.loop s pe tm ps asg bo df) → isDef st'.H df := by
  intro x s1 pe tm ps asg bo df hx
  obtain ⟨o, h1, hf⟩ := ho x _ hx
  rcases hf with rfl | ⟨el, cs, cs', rfl, e, _⟩
  ·obtain ⟨l, fn, _, _, _, hd⟩ := s.obj x _ (show c.H x = _ by rw [hr.H]; exact h1)
   exact hdd df (by rw [← hr.H]; exact hd)
  ·cases e
 refine ⟨he, s.frz ho' hloop, rfl, fun t => FA s hl (by rw [hr.H]; exact htm t) (hr.tm t), ?_, ?_, hr.G.abides ab⟩
 ·rw [hnx]; exact hr.nx
 ·rw [hdf]; exact hr.df.abides ab
theorem VWp.ghost {P : Program} {G : Glob} {n : Nat} {code : Code} {Q : VExit → St → Prop} {st : St} (h : VWp P G n code (fun e s => ∃ s', Ghost s s' ∧ Q e s') st) : VWp P G n code Q st := by
 intro ro c W a hro s hr hsz
 refine wpIn_mono (h ro c W a hro s hr hsz) ?_
 rintro e a' W' ⟨ve, c', st', he, hext, hs', hr', hsz', hu, hle, s2, g, hq⟩
 obtain ⟨e2, h2, r2⟩ := g.rep hs' hr'
 refine ⟨ve, c'.frz s2.H, s2, ?_, hext.trans e2, h2, r2, hsz', fun β hb => hu β hb, by rw [g.2.2.2.1]; exact hle, hq⟩
 cases ve with
 | panic x =>
  obtain ⟨v, e1, hv⟩ := he
  exact ⟨v, e1, Rep.abides (e2.abides hs') _ hv⟩
 | normal => exact he
 | exit id => exact he
 | goto l => exact he
 | ret => exact he
theorem Ghost.refl (st : St) : Ghost st st := ⟨fun β o' h => ⟨o', h, .inl rfl⟩, fun _ h => h, fun _ => .inl rfl, rfl, rfl⟩
section
variable {P : Program} {H : Nat → Option VObj} {γ : Nat} {k : VV → VEff → Prop} {t t2 e e2 β δ cx : Nat} {b : Nat} {el jN : Option TypeId} {cs : List VV} {y : VV}
end
section
variable {P : Program} {H : Nat → Option VObj} {γ : Nat} {k : VV → VEff → Prop} {t t2 e e2 β δ cx : Nat} {b : Nat} {el jN : Option TypeId} {y : VV} {α : Type} {enc : α → List VV} {xs : List α} {a : α}
end
end Go.V
end
section
namespace Go.V
open Go Go.Proofs IntKind
def Look (st st' : St) : Prop := st'.nx = st.nx ∧ ∀ (G : Glob) (c : Ctx) (W : World) (a : Act), Sim c W → StRep G c W st a → ∃ c', Ext c W c' W ∧ Sim c' W ∧ StRep G c' W st' a ∧ ∀ β, c'.used β → c.used β
theorem Look.trans {a b c : St} (h1 : Look a b) (h2 : Look b c) : Look a c := by
  refine ⟨h2.1.trans h1.1, fun G x W y s hr => ?_⟩
  obtain ⟨c1, e1, s1, r1, u1⟩ := h1.2 G x W y s hr
  obtain ⟨c2, e2, s2, r2, u2⟩ := h2.2 G c1 W y s1 r1
  exact ⟨c2, e1.trans e2, s2, r2, fun β hb => u1 β (u2 β hb)⟩
theorem Look.ghost {st st' : St} (g : Ghost st st') : Look st st' := by
  refine ⟨g.2.2.2.1, fun G c W a s hr => ?_⟩
  obtain ⟨e2, h2, r2⟩ := g.rep s hr
  exact ⟨c.frz st'.H, e2, h2, r2, fun β hb => hb⟩
theorem FB {c : Ctx} {W : World} {x y : VV} {Z : List VV} (h : ∀ v, Rep c W x v → Rep c W y v) : ∀ (A : List VV) (l : List Value), RepL c W (A ++ x :: Z) l → RepL c W (A ++ y :: Z) l
  | [], _, ⟨u, us, e, h1, h2⟩ => ⟨u, us, e, h _ h1, h2⟩
  | _ :: A, _, ⟨u, us, e, h1, h2⟩ => ⟨u, us, e, h1, FB h A us h2⟩
theorem Look.nil {tm : Nat → VV} {H : Nat → Option VObj} {nx : Nat} {df : List VDef} {β : Nat} {el : Option TypeId} {A Z : List VV} (hβ : H β = some (.cells el (A ++ .lit (.slice none 0 0) :: Z))) :
    Look ⟨tm, H, nx, df⟩ ⟨tm, updH H β (.cells el (A ++ .sl [] 0 false :: Z)), nx, df⟩ := by
  refine ⟨rfl, fun G c W a s hr => ?_⟩
  have hc : c.H β = some (.cells el (A ++ .lit (.slice none 0 0) :: Z)) := by rw [hr.H]; exact hβ
  have hl : c.live β := by simp [Ctx.live, hc]
  have he : Ext c W (c.upd β (.cells el (A ++ .sl [] 0 false :: Z))) W := Ext.upd hl (But.self W _)
  have ab := he.abides s
  have hs : Sim (c.upd β (.cells el (A ++ .sl [] 0 false :: Z))) W := by
    refine Sim.upd s hl (But.self W _) (fun ⟨ds, hd⟩ => by rw [hc] at hd; cases hd) ?_
    obtain ⟨arr, e, a1, a2, a3, a4, a5⟩ := s.obj β _ hc
    refine ⟨arr, e, a1, a2, by simpa using a3, ?_, a5⟩
    have hlen : (A ++ VV.lit (.slice none 0 0) :: Z).length = (A ++ VV.sl [] 0 false :: Z).length := by simp
    rw [hlen] at a4
    refine FB (x := .lit (.slice none 0 0)) (fun v hv => ?_) A _ (RepL.abides ab _ a4)
    have e : v = .slice none 0 0 := hv
    subst e
    exact ⟨none, 0, rfl, Nat.le_refl _, fun h => (by cases h), .inl rfl⟩
  refine ⟨_, he, hs, ⟨?_, fun t => Rep.abides ab _ (hr.tm t), hr.nx, hr.df.abides ab, hr.G.abides ab⟩, fun β hb => hb⟩
  show updH c.H β _ = _
  rw [hr.H]
theorem FrozenL.mid {H H' : Nat → Option VObj} {x y : VV} (h : Frozen H H' x y) (Z : List VV) : ∀ (cs : List VV), FrozenL H H' (cs ++ x :: Z) (cs ++ y :: Z)
  | [] => ⟨h, FrozenL.refl Z⟩
  | c :: cs => ⟨.inl rfl, FrozenL.mid h Z cs⟩
where
  FrozenL.refl : ∀ Z : List VV, FrozenL H H' Z Z
    | [] => trivial
    | _ :: Z => ⟨.inl rfl, FrozenL.refl Z⟩
theorem Ghost.mid {tm : Nat → VV} {H : Nat → Option VObj} {nx : Nat} {df : List VDef} {γ ε n w cp : Nat} {e1 e2 : Option TypeId} {cs ys Z : List VV} (hγ : H γ = some (.cells e1 ys)) (hε : H ε = some (.cells e2 (cs ++ .ref γ 0 n w cp :: Z))) (hne : ε ≠ γ) (ht : treeL ys = true) (hl : ys.length = n * w) :
    Ghost ⟨tm, H, nx, df⟩ ⟨tm, updH (without H γ) ε (.cells e2 (cs ++ .sl ys n false :: Z)), nx, df⟩ := by
  have hg : gone H (updH (without H γ) ε (.cells e2 (cs ++ .sl ys n false :: Z))) γ = some (.cells e1 ys) := by
    unfold gone
    rw [aU, if_neg (Ne.symm hne)]
    simp [without, hγ]
  have hfz : Frozen H (updH (without H γ) ε (.cells e2 (cs ++ .sl ys n false :: Z))) (.ref γ 0 n w cp) (.sl ys n false) := by
    refine .inr (.inr ⟨ys.length + 2, ?_⟩)
    unfold sealV
    have : (VV.ref γ 0 n w cp).tree = false := rfl
    rw [this]
    simp only [Bool.false_eq_true, if_false, hg, Nat.zero_le, if_true, List.drop_zero]
    rw [List.take_of_length_le (by omega), qH ys _ ht (by omega)]
    rfl
  refine ⟨?_, ?_, fun _ => .inl rfl, rfl, rfl⟩
  · intro β o' h
    simp only [aU] at h
    by_cases hb : β = ε
    · subst hb
      rw [if_pos rfl] at h
      cases h
      exact ⟨_, hε, .inr ⟨e2, _, _, rfl, rfl, FrozenL.mid hfz Z cs⟩⟩
    · rw [if_neg hb] at h
      simp only [bg] at h
      split at h
      · cases h
      · exact ⟨o', h, .inl rfl⟩
  · rintro β ⟨ds, h⟩
    refine ⟨ds, ?_⟩
    have h : H β = some (.deferred ds) := h
    show updH (without H γ) ε _ β = _
    have b1 : β ≠ ε := by rintro rfl; rw [hε] at h; cases h
    have b2 : β ≠ γ := by rintro rfl; rw [hγ] at h; cases h
    rw [aU, if_neg b1, bg, if_neg b2]
    exact h


def rF (ai : List Int) (b5 : Int) (c8 : List Int) : List Int → Int → Option (LOut (Bool) (Unit))
 | [], vb => some (.go ())
 | e2 :: p2, vb => Option.bind (getI c8 e2) (fun pN => cond (decide (pN < 0)) (some (.ret false)) (Option.bind (getI ai e2) (fun xi => cond (decide ((i64.wrap (pN + xi)) > b5)) (some (.ret false)) (rF ai b5 c8 p2 (vb + 1)))))
def nN (bf : List (List Int)) (av : List Int) (ai : List Int) (b5 : Int) : List Int → Int → Int → (List Int) → Option (LOut (List Int) (Int × (List Int)))
 | [], db, f8, c8 => some (.go (f8, c8))
 | e1 :: p1, db, f8, c8 => Option.bind (getI c8 db) (fun JP => cond (decide (JP < 0)) (Option.bind (getI bf db) (fun ud => cond (aM ud) (lbind (rF ai b5 c8 ud 0) (fun j0 => cond (j0) (nN bf av ai b5 p1 (db + 1) (i64.wrap (f8 - 1)) (List.set c8 (Int.toNat db) b5)) (nN bf av ai b5 p1 (db + 1) f8 c8)) (fun Qn => nN bf av ai b5 p1 (db + 1) (i64.wrap (f8 - 1)) (List.set c8 (Int.toNat db) b5)) (fun _ _ => none)) none)) (nN bf av ai b5 p1 (db + 1) f8 c8))
def vc (bf : List (List Int)) (av : List Int) (ai : List Int) : Nat → Int → Int → (List Int) → Option (LOut (List Int) (Int × Int × (List Int)))
 | 0, _, _, _ => none
 | k0 + 1, fp, b5, bT => cond (decide (fp > 0)) (cond (aM av) (lbind (nN bf av ai b5 av 0 fp bT) (fun xl => some (.ret xl)) (fun Lm => vc bf av ai k0 Lm.1 (i64.wrap (b5 + 1)) Lm.2) (fun _ _ => none)) none) (some (.go (fp, b5, bT)))



end Go.V
end
section
namespace Go.V
open Go Go.Proofs IntKind
def hrL (b : GBk) (hi : Bool) : List Int := b.Strokes.map fun s => if hi then s.Hours.High else s.Hours.Low
theorem getMap {n : Nat} (f : Nat → Int) {i : Int} (h0 : 0 ≤ i) (h1 : i.toNat < n) : getI ((List.range n).map f) i = some (f i.toNat) := by
 unfold getI
 rw [if_pos h0, List.getElem?_map, List.getElem?_range h1]
 rfl
def foB (b : GBk) (pl : List Int) (i k : Nat) : Bool := (hF pl k == hF pl i) || decide ((k : Int) ∈ nF b i)
def foL (b : GBk) (pl : List Int) (i : Nat) : List Int := ((List.range' 0 i).filter (foB b pl i)).map fun k : Nat => (k : Int)
section
variable {hd : Nat → Int} {nd : Nat → List Int} {d : Nat → Int}
def fT (B : Nat → Int) (t : Int) (j : Nat) : Int := if B j < t then B j else -1
def sT (B : Nat → Int) (t : Int) (i j : Nat) : Int := if j < i then fT B (t + 1) j else fT B t j
theorem vd {B : Nat → Int} {t : Int} {i : Nat} (h : B i ≠ t) : sT B t i = sT B t (i + 1) := by
 funext j
 unfold sT fT
 by_cases e : j = i
 ·subst e
  rw [if_neg (Nat.lt_irrefl _), if_pos (Nat.lt_succ_self _)]
  by_cases h1 : B j < t
  ·rw [if_pos h1, if_pos (by omega)]
  ·rw [if_neg h1, if_neg (by omega)]
 ·by_cases h1 : j < i
  ·simp only [h1, show j < i + 1 by omega, if_true]
  ·simp only [h1, show ¬ j < i + 1 by omega, if_false]
def ngF (v : Nat → Int) : Nat → Int
 | 0 => 0
 | n + 1 => ngF v n + if v n < 0 then 1 else 0
theorem FC {v w : Nat → Int} : ∀ {n : Nat}, (∀ k, k < n → v k = w k) → ngF v n = ngF w n
 | 0, _ => rfl
 | n + 1, h => by unfold ngF; rw [h n (Nat.lt_succ_self _), FC fun k hk => h k (Nat.lt_succ_of_lt hk)]
theorem ngF_b (v : Nat → Int) : ∀ n : Nat, 0 ≤ ngF v n ∧ ngF v n ≤ n
 | 0 => ⟨Int.le_refl _, Int.le_refl _⟩
 | n + 1 => by have := ngF_b v n; unfold ngF; split <;> omega
theorem vf {v : Nat → Int} : ∀ {n : Nat}, ngF v n ≤ 0 → ∀ k, k < n → 0 ≤ v k
 | 0, _, _, h => absurd h (Nat.not_lt_zero _)
 | n + 1, h, k, hk => by
  have h1 := (ngF_b v n).1
  unfold ngF at h
  split at h
  ·omega
  ·rename_i hv
   by_cases e : k = n
   ·subst e; omega
   ·exact vf (n := n) (by omega) k (by omega)
theorem qo {v : Nat → Int} : ∀ {n : Nat}, (∀ k, k < n → 0 ≤ v k) → ngF v n = 0
 | 0, _ => rfl
 | n + 1, h => by
  have := h n (Nat.lt_succ_self _)
  unfold ngF
  rw [qo fun k hk => h k (Nat.lt_succ_of_lt hk), if_neg (by omega)]
  rfl
theorem vg {v w : Nat → Int} {i : Nat} (h1 : v i < 0) (h2 : 0 ≤ w i) (h3 : ∀ k, k ≠ i → v k = w k) : ∀ {n : Nat}, i < n → ngF v n - 1 = ngF w n
 | 0, h => absurd h (Nat.not_lt_zero _)
 | n + 1, h => by
  unfold ngF
  by_cases e : i = n
  ·subst e
   rw [if_pos h1, if_neg (by omega), FC fun k hk => h3 k (by omega)]
   omega
  ·have := vg h1 h2 h3 (n := n) (by omega)
   rw [h3 n (fun e' => e e'.symm)]
   omega
theorem nO {n : Nat} {v d : Nat → Int} {hs bl : List Int} {t : Int} (hb : ∀ k : Nat, k < n → getI bl k = some (v k)) (hh : ∀ k : Nat, k < n → getI hs k = some (d k)) (hw : ∀ k : Nat, k < n → 0 ≤ v k → v k + d k < 9223372036854775808 ∧ 0 ≤ d k) :
  ∀ (p : List Nat) (c : Int), (∀ k ∈ p, k < n) → rF hs t bl (p.map fun k : Nat => (k : Int)) c = if ∀ k ∈ p, 0 ≤ v k ∧ v k + d k ≤ t then some (.go ()) else some (.ret false)
 | [], c, _ => by simp [rF]
 | k :: p, c, hp => by
  have hk := hp k (List.mem_cons_self ..)
  have ih := nO (t := t) hb hh hw p (c + 1) fun k hk => hp k (List.mem_cons_of_mem _ hk)
  simp only [List.map_cons, rF, hb k hk, hh k hk, Option.bind_some]
  by_cases h1 : v k < 0
  ·rw [decide_eq_true h1, cond_true, if_neg (fun h => by have := (h k (List.mem_cons_self ..)).1; omega)]
  ·rw [decide_eq_false h1, cond_false]
   have h2 := hw k hk (by omega)
   rw [hS (by omega) (by omega)]
   by_cases h3 : v k + d k > t
   ·rw [decide_eq_true h3, cond_true, if_neg (fun h => by have := (h k (List.mem_cons_self ..)).2; omega)]
   ·rw [decide_eq_false h3, cond_false, ih]
    congr 1
    simp only [List.mem_cons, forall_eq_or_imp, eq_iff_iff]
    exact ⟨fun h => ⟨⟨by omega, by omega⟩, h⟩, fun h => h.2⟩
end
structure Sim6 (b : GBk) (pl : List Int) (hs : List Int) (d : Nat → Int) : Prop where
 hL : Len b
 n6 : b.Strokes.length ≤ 6
 hp : pl.length = b.Strokes.length
 hn : NdOk (nF b)
 d0 : ∀ k, 0 ≤ d k ∧ d k ≤ 15
 hh : ∀ k : Nat, k < b.Strokes.length → getI hs k = some (d k)
section
variable {b : GBk} {pl hs : List Int} {d : Nat → Int} (S : Sim6 b pl hs d)
include S
theorem Sim6.Bb (k : Nat) (hk : k < b.Strokes.length) : 0 ≤ Bg (hF pl) (nF b) d k ∧ Bg (hF pl) (nF b) d k ≤ 90 := by
 have h1 := Bt (hd := hF pl) S.hn S.d0 k
 have h2 := Bg_nn (hd := hF pl) (nd := nF b) (d := d) k
 rw [Ed_eq S.hn] at h1
 have := S.d0 k
 have := S.n6
 omega
theorem Sim6.ready {i : Nat} (hi : i < b.Strokes.length) {t : Int} (ht : 0 ≤ t) : (∀ k ∈ (List.range' 0 i).filter (foB b pl i), 0 ≤ sT (Bg (hF pl) (nF b) d) t i k ∧ sT (Bg (hF pl) (nF b) d) t i k + d k ≤ t) ↔ Bg (hF pl) (nF b) d i ≤ t := by
 constructor
 ·intro h
  have key : ∀ k, k < i → foB b pl i k = true → Ed (hF pl) (nF b) d k ≤ t := by
   intro k hk hf
   obtain ⟨h1, h2⟩ := h k (List.mem_filter.2 ⟨List.mem_range'.2 ⟨k, hk, by omega⟩, hf⟩)
   unfold sT fT at h1 h2
   rw [if_pos hk] at h1 h2
   rw [Ed_eq S.hn]
   split at h2
   ·exact h2
   ·rename_i hne
    rw [if_neg hne] at h1
    omega
  refine oV S.hn ht (fun k hk hh => key k hk ?_) (fun k hk => ?_)
  ·unfold foB; rw [hh]; simp
  ·obtain ⟨h1, h2⟩ := S.hn i k hk
   refine key _ h2 ?_
   unfold foB
   rw [Int.toNat_of_nonneg h1]
   simp [hk]
 ·intro h k hk
  obtain ⟨FD, hf⟩ := List.mem_filter.1 hk
  obtain ⟨j, hj, e⟩ := List.mem_range'.1 FD
  have hki : k < i := by omega
  have hE : Ed (hF pl) (nF b) d k ≤ Bg (hF pl) (nF b) d i := by
   unfold foB at hf
   rcases Bool.or_eq_true_iff.1 hf with h1 | h1
   ·exact sY S.hn (fun k => (S.d0 k).1) hki (by simpa using h1)
   ·have h2 := sW (hd := hF pl) (d := d) S.hn (of_decide_eq_true h1)
    rwa [Int.toNat_natCast] at h2
  rw [Ed_eq S.hn] at hE
  have h1 := S.Bb k (by omega)
  have h2 := S.d0 k
  unfold sT fT
  rw [if_pos hki, if_pos (by omega)]
  omega
theorem Sim6.l1 {t : Int} (ht : 0 ≤ t) (vh : t ≤ 1000) : ∀ (p : List Int) (i : Nat), i + p.length = b.Strokes.length →
  nN ((List.range' 0 b.Strokes.length).map (foL b pl)) pl hs t p i (ngF (sT (Bg (hF pl) (nF b) d) t i) b.Strokes.length) ((List.range b.Strokes.length).map (sT (Bg (hF pl) (nF b) d) t i)) =
   some (.go (ngF (sT (Bg (hF pl) (nF b) d) t b.Strokes.length) b.Strokes.length, (List.range b.Strokes.length).map (sT (Bg (hF pl) (nF b) d) t b.Strokes.length)))
 | [], i, hi => by
  simp only [List.length_nil, Nat.add_zero] at hi
  subst hi
  rfl
 | e :: p, i, hi => by
  simp only [List.length_cons] at hi
  have hin : i < b.Strokes.length := by omega
  have hB := S.Bb i hin
  have ih := Sim6.l1 ht vh p (i + 1) (by omega)
  have e1 : ((i : Int) + 1) = ((i + 1 : Nat) : Int) := by omega
  have ev : sT (Bg (hF pl) (nF b) d) t i i = fT (Bg (hF pl) (nF b) d) t i := by unfold sT; rw [if_neg (Nat.lt_irrefl _)]
  simp only [nN]
  rw [getMap _ (by omega) (by omega), Int.toNat_natCast, ev, e1]
  simp only [Option.bind_some]
  by_cases h1 : Bg (hF pl) (nF b) d i < t
  ·have e2 : fT (Bg (hF pl) (nF b) d) t i = Bg (hF pl) (nF b) d i := by unfold fT; rw [if_pos h1]
   rw [e2, decide_eq_false (by omega), cond_false, vd (i := i) (by omega)]
   exact ih
  ·have e2 : fT (Bg (hF pl) (nF b) d) t i = -1 := by unfold fT; rw [if_neg h1]
   have e3 : getI ((List.range' 0 b.Strokes.length).map (foL b pl)) i = some (foL b pl i) := by
    unfold getI
    rw [if_pos (by omega), Int.toNat_natCast, List.getElem?_map, List.getElem?_range' (by omega)]
    simp
   have h6 := S.n6
   have e4 : aM (foL b pl i) = true := by
    refine gI ?_
    have h2 : (foL b pl i).length ≤ i := by
     unfold foL
     rw [List.length_map]
     exact Nat.le_trans (List.length_filter_le _ _) (by simp)
    omega
   have e5 := nO (n := b.Strokes.length) (v := sT (Bg (hF pl) (nF b) d) t i) (d := d) (hs := hs) (t := t) (bl := (List.range b.Strokes.length).map (sT (Bg (hF pl) (nF b) d) t i))
    (fun k hk => by rw [getMap _ (by omega) (by omega), Int.toNat_natCast]) S.hh (fun k hk h0 => by
     have h3 := S.Bb k hk
     have h4 := S.d0 k
     refine ⟨?_, h4.1⟩
     unfold sT fT
     split <;> split <;> omega) ((List.range' 0 i).filter (foB b pl i)) 0 (fun k hk => by
     obtain ⟨j, hj, e⟩ := List.mem_range'.1 (List.mem_filter.1 hk).1
     omega)
   rw [e2, decide_eq_true (by omega), cond_true, e3]
   simp only [Option.bind_some]
   rw [e4, cond_true, show rF hs t ((List.range b.Strokes.length).map (sT (Bg (hF pl) (nF b) d) t i)) (foL b pl i) 0 = _ from e5]
   have hr := S.ready hin ht
   by_cases h3 : Bg (hF pl) (nF b) d i ≤ t
   ·rw [if_pos (hr.2 h3)]
    simp only [lbind]
    have h4 : Bg (hF pl) (nF b) d i = t := by omega
    have e6 : List.set ((List.range b.Strokes.length).map (sT (Bg (hF pl) (nF b) d) t i)) i t = (List.range b.Strokes.length).map (sT (Bg (hF pl) (nF b) d) t (i + 1)) := by
     refine List.ext_getElem? fun k => ?_
     rw [List.getElem?_set, List.getElem?_map, List.getElem?_map]
     by_cases hk : i = k
     ·subst hk
      rw [if_pos rfl, if_pos (by simpa using hin), List.getElem?_range hin]
      simp only [Option.map_some]
      unfold sT fT
      rw [if_pos (Nat.lt_succ_self _), if_pos (by omega), h4]
     ·rw [if_neg hk]
      by_cases hkn : k < b.Strokes.length
      ·rw [List.getElem?_range hkn]
       simp only [Option.map_some, Option.some.injEq]
       unfold sT
       by_cases h5 : k < i
       ·simp only [h5, show k < i + 1 by omega, if_true]
       ·simp only [h5, show ¬ k < i + 1 by omega, if_false]
      ·rw [List.getElem?_eq_none (by simp; omega)]
       rfl
    have e7 : ngF (sT (Bg (hF pl) (nF b) d) t i) b.Strokes.length - 1 = ngF (sT (Bg (hF pl) (nF b) d) t (i + 1)) b.Strokes.length := by
     refine vg (i := i) ?_ ?_ ?_ hin
     ·rw [ev, e2]; omega
     ·unfold sT fT
      rw [if_pos (Nat.lt_succ_self _), if_pos (by omega)]
      omega
     ·intro k hk
      unfold sT
      by_cases h5 : k < i
      ·simp only [h5, show k < i + 1 by omega, if_true]
      ·simp only [h5, show ¬ k < i + 1 by omega, if_false]
    have qA := ngF_b (sT (Bg (hF pl) (nF b) d) t (i + 1)) b.Strokes.length
    rw [hS (by omega) (by omega), e7, e6]
    exact ih
   ·rw [if_neg (fun h => h3 (hr.1 h))]
    simp only [lbind, cond_false]
    rw [vd (i := i) (by omega)]
    exact ih
theorem Sim6.l0 : ∀ (k : Nat) (t : Int), 0 ≤ t → t ≤ 200 → 90 < t + k → ∃ c : Int × Int, vc ((List.range' 0 b.Strokes.length).map (foL b pl)) pl hs (k + 1) (ngF (sT (Bg (hF pl) (nF b) d) t 0) b.Strokes.length) t ((List.range b.Strokes.length).map (sT (Bg (hF pl) (nF b) d) t 0)) =
   some (.go (c.1, c.2, (List.range b.Strokes.length).map (Bg (hF pl) (nF b) d))) := by
 have fin : ∀ t : Int, (∀ j, j < b.Strokes.length → Bg (hF pl) (nF b) d j < t) → (List.range b.Strokes.length).map (sT (Bg (hF pl) (nF b) d) t 0) = (List.range b.Strokes.length).map (Bg (hF pl) (nF b) d) := by
  intro t h
  refine List.map_congr_left fun j hj => ?_
  unfold sT fT
  rw [if_neg (Nat.not_lt_zero _), if_pos (h j (List.mem_range.1 hj))]
 have stop : ∀ (k : Nat) (t : Int), ngF (sT (Bg (hF pl) (nF b) d) t 0) b.Strokes.length ≤ 0 → ∃ c : Int × Int, vc ((List.range' 0 b.Strokes.length).map (foL b pl)) pl hs (k + 1) (ngF (sT (Bg (hF pl) (nF b) d) t 0) b.Strokes.length) t ((List.range b.Strokes.length).map (sT (Bg (hF pl) (nF b) d) t 0)) =
   some (.go (c.1, c.2, (List.range b.Strokes.length).map (Bg (hF pl) (nF b) d))) := by
  intro k t hz
  refine ⟨(ngF (sT (Bg (hF pl) (nF b) d) t 0) b.Strokes.length, t), ?_⟩
  simp only [vc]
  rw [decide_eq_false (by omega), cond_false, fin t ?_]
  intro j hj
  have h1 := vf hz j hj
  unfold sT fT at h1
  rw [if_neg (Nat.not_lt_zero _)] at h1
  split at h1
  ·assumption
  ·omega
 intro k
 induction k with
 | zero =>
  intro t h0 h1 h2
  refine stop 0 t ?_
  rw [qo ?_]
  ·exact Int.le_refl _
  ·intro j hj
   have := S.Bb j hj
   unfold sT fT
   rw [if_neg (Nat.not_lt_zero _), if_pos (by omega)]
   exact this.1
 | succ k ih =>
  intro t h0 h1 h2
  by_cases hz : ngF (sT (Bg (hF pl) (nF b) d) t 0) b.Strokes.length ≤ 0
  ·exact stop (k + 1) t hz
  ·have h6 := S.n6
   have ht : t ≤ 90 := by
    by_cases hh : t ≤ 90
    ·exact hh
    ·exfalso
     refine hz ?_
     rw [qo ?_]
     ·exact Int.le_refl _
     ·intro j hj
      have := S.Bb j hj
      unfold sT fT
      rw [if_neg (Nat.not_lt_zero _), if_pos (by omega)]
      exact this.1
   obtain ⟨c, ec⟩ := ih (t + 1) (by omega) (by omega) (by omega)
   refine ⟨c, ?_⟩
   have e1 := S.l1 h0 (by omega) pl 0 (by have := S.hp; omega)
   have en : ∀ j, j < b.Strokes.length → sT (Bg (hF pl) (nF b) d) t b.Strokes.length j = sT (Bg (hF pl) (nF b) d) (t + 1) 0 j := by
    intro j hj
    unfold sT
    rw [if_pos hj, if_neg (Nat.not_lt_zero _)]
   rw [FC en, List.map_congr_left (fun j hj => en j (List.mem_range.1 hj))] at e1
   rw [vc, decide_eq_true (by omega), cond_true, gI (by have := S.hp; omega), cond_true]
   rw [show nN ((List.range' 0 b.Strokes.length).map (foL b pl)) pl hs t pl 0 _ _ = _ from e1]
   simp only [lbind]
   rw [hS (by omega) (by omega)]
   exact ec
end
end Go.V
end
section
namespace Go.V
open Go Go.Proofs IntKind







theorem aj.runRQ {P : Program} {G : Glob} (hm : P.follows .mixedOrders = true) {f : FuncId} {fn : Func} {code : Code} {args : List VV} {r : PRes} (hc : Callable P f) (hf : P.funcs[f]? = some fn) (hb : fn.body = some code)
  (hst : (decide (args.length ≤ fn.ntmps) && codeQ fn.ntmps code) = true) (h : CWp P (G.at (some none)) fn.ntmps code (OpenPostD P G fn (RR r) (RPn r)) { tm := aP args, H := fun _ => none, nx := 0, df := [] }) : aj P G f args r := by
 rw [Bool.and_eq_true] at hst
 exact aj.runR hm hc hf hb (by rw [Bool.and_eq_true]; exact ⟨hst.1, jJ hst.2⟩) h
def rangeFR (f : FuncId) (cf : aw) (jump : Code → RS → ER) (n : Nat) (s : RS) (f0 : FuncId) (first captured : List VV) (ps : Array Tmp) (asg bo : Code) : ER :=
 match cf f0 (first ++ [.yl (s.nx + 1)] ++ captured) ((s.H.put s.nx (some (.deferred (some [])))).put (s.nx + 1) (some (.loopF .ready none (tmL n s.st.tm) ps asg bo f))) (s.nx + 2) with
 | .ret _ H' nx' => match H'.get (s.nx + 1) with
  | some (.loopF .busy _ _ _ _ _ _) => .no (.text 1)
  | some (.loopF _ pe tm ps asg bo fn) => match pe with
   | none => .mk .normal { s with H := H'.put (s.nx + 1) (some (.loopF .exhausted pe tm ps asg bo fn)), nx := nx', df := .coll s.nx :: s.df }
   | some c => jump c { s with H := H'.put (s.nx + 1) (some (.loopF .exhausted pe tm ps asg bo fn)), nx := nx', df := .coll s.nx :: s.df }
  | _ => .no (.text 2)
 | .pan x H' nx' => .mk (.panic x) { s with H := H', nx := nx', df := .coll s.nx :: s.df }
 | .no w => .no w
def GoOk (P : Program) (G : Glob) (f n : Nat) (go : Code → RS → ER) : Prop := ∀ code s e s', go code s = .mk e s' → ∀ Q : VExit → St → Prop, Q e s'.st → VGo P G f n code Q s.st
theorem QN {P : Program} {G : Glob} {cf : aw} (hcf : CallOk P G cf) {f : FuncId} {jump : Code → RS → ER} {n : Nat} (hj : GoOk P G f n jump) {s s' : RS} {e : VExit} {g : Operand} {f0 : FuncId} {first captured : List VV} {ps : Array Tmp} {asg bo : Code}
  (hg : s.st.ρ G g = .fn (.func f0) first captured) (h : rangeFR f cf jump n s f0 first captured ps asg bo = .mk e s') {Q : VExit → St → Prop} (hq : Q e s'.st) : VGo P G f n (.rangeFunc g ps asg bo) Q s.st := by
 refine VGo.range hg ?_
 unfold rangeFR at h
 have eH : ((s.H.put s.nx (some (.deferred (some [])))).put (s.nx + 1) (some (.loopF .ready none (tmL n s.st.tm) ps asg bo f))).get = updH (updH s.st.H s.st.nx (.deferred (some []))) (s.st.nx + 1) (.loopF .ready none (tmL n s.st.tm) ps asg bo f) := by
  rw [kq, kq]; rfl
 split at h
 ·rename_i x H' nx' hc
  have hv := hcf.1 _ _ _ _ _ _ _ hc
  rw [eH] at hv
  refine an.mono hv ?_ ?_
  ·rintro y H1 n1 ⟨_, rfl, rfl⟩
   split at h
   ·cases h
   ·rename_i st pe i0 i5 i6 i7 jq hnb hl
    have e2 : ({ s with H := H'.put (s.nx + 1) (some (.loopF .exhausted pe i0 i5 i6 i7 jq)), nx := n1, df := .coll s.nx :: s.df } : RS).st = { s.st with H := updH H'.get (s.st.nx + 1) (.loopF .exhausted pe i0 i5 i6 i7 jq), nx := n1, df := .coll s.st.nx :: s.st.df } := by
     simp only [RS.st, kq]
    refine ⟨st, pe, i0, i5, i6, i7, jq, hl, hnb, ?_⟩
    split at h
    ·cases h
     show Q .normal _
     rw [← e2]; exact hq
    ·rename_i c
     show VGo P _ f n c Q _
     rw [← e2]
     exact hj c _ e s' h Q hq
   ·cases h
  ·intro y H1 n1 h; exact h.elim
 ·rename_i x H' nx' hc
  have hv := hcf.2 _ _ _ _ _ _ _ hc
  rw [eH] at hv
  cases h
  refine an.mono hv ?_ ?_
  ·intro y H1 n1 h; exact h.elim
  ·rintro y H1 n1 ⟨rfl, rfl, rfl⟩
   exact hq
 ·cases h
noncomputable def rangeFF (f : FuncId) (cf : aw) (jump : Code → RS → ER) (n : Nat) (s : RS) (ps : Array Tmp) (asg bo : Code) (code : Code) (x : VV) : ER := match x with
 | .fn (.func f0) first captured => rangeFR f cf jump n s f0 first captured ps asg bo
 | _ => .no (.code code)
noncomputable def goF (G : Glob) (f : FuncId) (run : RunR) (cf : aw) (n : Nat) (k : Nat) : Code → RS → ER :=
 Nat.rec (motive := fun _ => Code → RS → ER) (fun code s => run none n code s) (fun _ ih code s => match code with
  | .seq a b => thenQ (ih a s) (fun s' => ih b s')
  | .block id a => blockQ (ih a s) id
  | .rangeFunc g ps asg bo => rangeFF f cf (fun c s => run none n c s) n s ps asg bo code (ρQ G s.tm g)
  | code => run none n code s) k
theorem vi {P : Program} {G : Glob} {f n : Nat} {run : RunR} {cf : aw} (hrun : RunOk P G run) (hcf : CallOk P G cf) : ∀ (k : Nat), GoOk P G f n (goF G f run cf n k)
 | 0, code, s, e, s', h, Q, hq => VGo.of (hrun none n code s e s' h Q hq)
 | k + 1, code, s, e, s', h, Q, hq => by
  have ih := vi (f := f) (n := n) hrun hcf k
  have dflt : run none n code s = .mk e s' → VGo P G f n code Q s.st := fun h => VGo.of (hrun none n code s e s' h Q hq)
  cases code with
  | seq a b =>
   have h' : thenQ (goF G f run cf n k a s) (fun s' => goF G f run cf n k b s') = .mk e s' := h
   cases hs : goF G f run cf n k a s with
   | no w => rw [hs] at h'; cases h'
   | mk e1 s1 =>
    rw [hs] at h'
    cases e1 with
    | normal => exact VGo.seq (ih a s .normal s1 hs _ (ih b s1 e s' h' Q hq))
    | exit id => cases h'; exact VGo.seq (ih a s _ _ hs _ hq)
    | goto l => cases h'; exact VGo.seq (ih a s _ _ hs _ hq)
    | ret => cases h'; exact VGo.seq (ih a s _ _ hs _ hq)
    | panic x => cases h'; exact VGo.seq (ih a s _ _ hs _ hq)
  | block id a =>
   have h' : blockQ (goF G f run cf n k a s) id = .mk e s' := h
   cases hs : goF G f run cf n k a s with
   | no w => rw [hs] at h'; cases h'
   | mk e1 s1 =>
    rw [hs] at h'
    refine VGo.block (ih a s e1 s1 hs _ ?_)
    cases e1 with
    | normal => cases h'; exact hq
    | goto l => cases h'; exact hq
    | ret => cases h'; exact hq
    | panic x => cases h'; exact hq
    | exit id' =>
     have h'' : Bool.rec (motive := fun _ => ER) (.mk (.exit id') s1) (.mk .normal s1) (Nat.beq id' id) = .mk e s' := h'
     show (if id' = id then _ else _)
     by_cases hid : id' = id
     ·have hb : Nat.beq id' id = true := by simpa using hid
      rw [hb] at h''
      cases h''
      rw [if_pos hid]; exact hq
     ·have hb : Nat.beq id' id = false := by cases hq : Nat.beq id' id with | false => rfl | true => exact absurd (by simpa using hq) hid
      rw [hb] at h''
      cases h''
      rw [if_neg hid]; exact hq
  | rangeFunc g ps asg bo =>
   have h' : rangeFF f cf (fun c s => run none n c s) n s ps asg bo (.rangeFunc g ps asg bo) (ρQ G s.tm g) = .mk e s' := h
   rw [ρQ_eq] at h'
   unfold rangeFF at h'
   split at h'
   ·rename_i f0 first captured hg
    exact QN hcf (fun c s e s' hs Q hq => VGo.of (hrun none n c s e s' hs Q hq)) hg h' hq
   ·cases h'
  | _ => exact dflt h
noncomputable def enterF (P : Program) (G : Glob) (run : RunR) (cf : aw) (k : Nat) (f : FuncId) (fn : Func) (code : Code) (args : List VV) (H : Trie VObj) (nx : Nat) : CR :=
 match goF G f run cf fn.ntmps k code (RS.mk (listV args 0 .nil) H nx []) with
 | .mk .ret s => leaveR P G run fn f s s.df .ret s.H s.nx
 | .mk .normal s => leaveR P G run fn f s s.df .ret s.H s.nx
 | .mk (.panic x) s => leaveR P G run fn f s s.df (.pan x false) s.H s.nx
 | .mk _ _ => .no (.fn f)
 | .no w => .no w
noncomputable def lz (P : Program) (G : Glob) (run : RunR) (cf : aw) (k : Nat) : aw := fun f args H nx => match textQ P f with
 | some (fn, code) => Bool.rec (motive := fun _ => CR) (.no (.fn f)) (enterF P G run cf k f fn code args H nx) (Nat.ble args.length fn.ntmps)
 | none => .no (.fn f)
theorem FE {P : Program} {f : FuncId} {fn : Func} {code : Code} (h : textQ P f = some (fn, code)) : P.funcs[f]? = some fn ∧ fn.body = some code ∧ nameQ fn = true := by
 unfold textQ at h
 split at h
 ·cases h
 ·rename_i mW hf
  split at h
  ·cases h
  ·rename_i c1 hb
   split at h
   ·rename_i hn
    cases h
    exact ⟨hf, hb, hn⟩
   ·cases h
theorem Ln {P : Program} {G : Glob} {run : RunR} {cf : aw} {k : Nat} (hrun : RunOk P G run) (hcf : CallOk P G cf) {f : FuncId} {args : List VV} {H : Trie VObj} {nx : Nat} {R Rp : VV → (Nat → Option VObj) → Nat → Prop}
  (h1 : ∀ x H' nx', lz P (G.at (some none)) run cf k f args H nx = .ret x H' nx' → R x H'.get nx') (h2 : ∀ x H' nx', lz P (G.at (some none)) run cf k f args H nx = .pan x H' nx' → Rp x H'.get nx') (h3 : ∀ w, lz P (G.at (some none)) run cf k f args H nx ≠ .no w) : an P G f args H.get nx R Rp := by
 unfold lz at h1 h2 h3
 cases ht : textQ P f with
 | none => exact absurd (by simp only [ht]) (h3 (.fn f))
 | some p =>
  obtain ⟨fn, code⟩ := p
  obtain ⟨hf, hb, hn⟩ := FE ht
  cases hc : Nat.ble args.length fn.ntmps with
  | false => exact absurd (by simp only [ht, hc]) (h3 (.fn f))
  | true =>
   simp only [ht, hc] at h1 h2 h3
   simp only [Nat.ble_eq] at hc
   unfold enterF at h1 h2 h3
   rw [zi] at h1 h2 h3
   cases hr : goF (G.at (some none)) f run cf fn.ntmps k code (RS.mk (Trie.ofList 0 args .nil) H nx []) with
   | no w => exact absurd (by rw [hr]) (h3 w)
   | mk e s =>
    rw [hr] at h1 h2 h3
    have body : OpenPostD P G fn R Rp e s.st → an P G f args H.get nx R Rp := by
     intro hq
     have := vi (G := G.at (some none)) (f := f) (n := fn.ntmps) hrun hcf k code _ e s hr _ hq
     rw [argsR] at this
     exact an.of_bodyGo (FG hf hb hn) hf hb hc this
    cases e with
    | ret => exact body (nP hrun s.df .ret s.H s.nx h1 h2 h3)
    | normal => exact body (nP hrun s.df .ret s.H s.nx h1 h2 h3)
    | panic x => exact body (nP hrun s.df (.pan x false) s.H s.nx h1 h2 h3)
    | exit id => exact absurd rfl (h3 (.fn f))
    | goto l => exact absurd rfl (h3 (.fn f))
noncomputable def cfF (P : Program) (G : Glob) (run : RunR) (fs : List Nat) (k : Nat) : aw := fun f args H nx => match fs.elem f with
 | true => lz P G run (cfQ P G run) k f args H nx
 | false => cfQ P G run f args H nx
theorem vj {P : Program} {G : Glob} {run : RunR} {fs : List Nat} {k : Nat} (hrun : RunOk P G run) : CallOk P G (cfF P (G.at (some none)) run fs k) := by
 have hcf : CallOk P G (cfQ P (G.at (some none)) run) := by rw [zh]; exact QO hrun
 constructor
 ·intro f args H nx x H' nx' h
  unfold cfF at h
  split at h
  ·exact Ln hrun hcf (fun y H1 n1 e => by rw [h] at e; cases e; exact ⟨rfl, rfl, rfl⟩) (fun y H1 n1 e => by rw [h] at e; cases e) (fun w e => by rw [h] at e; cases e)
  ·exact hcf.1 _ _ _ _ _ _ _ h
 ·intro f args H nx x H' nx' h
  unfold cfF at h
  split at h
  ·exact Ln hrun hcf (fun y H1 n1 e => by rw [h] at e; cases e) (fun y H1 n1 e => by rw [h] at e; cases e; exact ⟨rfl, rfl, rfl⟩) (fun w e => by rw [h] at e; cases e)
  ·exact hcf.2 _ _ _ _ _ _ _ h
noncomputable def runF (P : Program) (G : Glob) (fs : List Nat) (tab : KTab) (k : Nat) : RunR :=
 Nat.rec (motive := fun _ => RunR) (fun _ _ _ _ => .no .fuel) (fun k ih ro n code s => bodyA k ih (cfT tab (cfF P (G.at (some none)) ih fs k)) ro n s (ccB P G code)) k
theorem Lo {P : Program} {G : Glob} {fs : List Nat} {tab : KTab} (hm : P.follows .mixedOrders = true) (ht : KTabOk P G tab) : ∀ (k : Nat), RunOk P G (runF P G fs tab k)
 | 0, _, _, _, _, _, _, h => by cases h
 | k + 1, ro, n, code, s, e, s', h => by
  intro Q hq
  have ih := Lo (G := G) (fs := fs) hm ht k
  exact NA hm ih (zI ht (vj ih)) h hq
noncomputable def closedF (P : Program) (G : Glob) (fs : List Nat) (tab : KTab) (k : Nat) (f : FuncId) (args : List VV) : PRes ⊕ Why := pureQ (cfF P (G.at (some none)) (runF P G fs tab k) fs k) f args
theorem aj.closedF {P : Program} {G : Glob} {fs : List Nat} {tab : KTab} (hm : P.follows .mixedOrders = true) (ht : KTabOk P G tab) (k : Nat) {f : FuncId} {args : List VV} {r : PRes} (h : closedF P G fs tab k f args = .inl r) : aj P G f args r := by
 unfold Go.V.closedF at h
 rw [ze] at h
 exact vk (vj (Lo hm ht k)) h
theorem hmix : Tryz.prog.follows .mixedOrders = true := by kernel_rfl
def kB : VV := (VV.agg [(VV.lit (Value.int IntKind.i64 (Int.ofNat 1))), (VV.sl [(VV.lit (Value.int IntKind.i64 (Int.ofNat 5))), (VV.lit (Value.int IntKind.i64 (Int.ofNat 6)))] 2 Bool.false), (VV.sl [(VV.lit (Value.int IntKind.i64 (Int.ofNat 1))), (VV.lit (Value.bool Bool.true)), (VV.lit (Value.int IntKind.i64 (Int.ofNat 2))), (VV.lit (Value.int IntKind.i64 (Int.ofNat 2))), (VV.lit (Value.slice Option.none 0 0)), (VV.lit (Value.int IntKind.i64 (Int.ofNat 0))), (VV.lit (Value.bool Bool.false)), (VV.lit (Value.int IntKind.i64 (Int.ofNat 2))), (VV.lit (Value.int IntKind.i64 (Int.ofNat 3))), (VV.lit (Value.slice Option.none 0 0)), (VV.lit (Value.int IntKind.i64 (Int.ofNat 0))), (VV.lit (Value.bool Bool.true)), (VV.lit (Value.int IntKind.i64 (Int.ofNat 1))), (VV.lit (Value.int IntKind.i64 (Int.ofNat 2))), (VV.sl [(VV.lit (Value.int IntKind.i64 (Int.ofNat 1)))] 1 Bool.false), (VV.lit (Value.int IntKind.i64 (Int.ofNat 1))), (VV.lit (Value.bool Bool.false)), (VV.lit (Value.int IntKind.i64 (Int.ofNat 1))), (VV.lit (Value.int IntKind.i64 (Int.ofNat 3))), (VV.sl [(VV.lit (Value.int IntKind.i64 (Int.ofNat 0)))] 1 Bool.false)] 4 Bool.false)])
def kEnds : VV := (VV.tup [(VV.sl [(VV.lit (Value.int IntKind.i64 (Int.ofNat 2))), (VV.lit (Value.int IntKind.i64 (Int.ofNat 2))), (VV.lit (Value.int IntKind.i64 (Int.ofNat 2))), (VV.lit (Value.int IntKind.i64 (Int.ofNat 3))), (VV.lit (Value.int IntKind.i64 (Int.ofNat 3))), (VV.lit (Value.int IntKind.i64 (Int.ofNat 5))), (VV.lit (Value.int IntKind.i64 (Int.ofNat 3))), (VV.lit (Value.int IntKind.i64 (Int.ofNat 6)))] 4 Bool.false), (VV.lit (Value.int IntKind.i64 (Int.ofNat 0)))])
def kDone : VV := (VV.tup [(VV.agg [(VV.lit (Value.int IntKind.i64 (Int.ofNat 3))), (VV.lit (Value.int IntKind.i64 (Int.ofNat 5)))]), (VV.lit (Value.int IntKind.i64 (Int.ofNat 0)))])
def kLate : VV := (VV.tup [(VV.sl [(VV.lit (Value.int IntKind.i64 (Int.ofNat 1))), (VV.lit (Value.int IntKind.i64 (Int.ofNat 2)))] 2 Bool.false), (VV.lit (Value.int IntKind.i64 (Int.ofNat 0)))])
def kWaits : VV := (VV.tup [(VV.sl [(VV.lit (Value.int IntKind.i64 (Int.ofNat 0))), (VV.lit (Value.int IntKind.i64 (Int.ofNat 0))), (VV.lit (Value.int IntKind.i64 (Int.ofNat 1))), (VV.lit (Value.int IntKind.i64 (Int.ofNat 0)))] 4 Bool.false), (VV.lit (Value.int IntKind.i64 (Int.ofNat 0)))])
def kChain : VV := (VV.tup [(VV.sl [(VV.lit (Value.int IntKind.i64 (Int.ofNat 1))), (VV.lit (Value.int IntKind.i64 (Int.ofNat 3)))] 2 Bool.false), (VV.lit (Value.int IntKind.i64 (Int.ofNat 0)))])
def kSpare : VV := (VV.tup [(VV.lit (Value.int IntKind.i64 (Int.ofNat 1))), (VV.lit (Value.int IntKind.i64 (Int.ofNat 0)))])
def kBest : VV := (VV.tup [(VV.sl [(VV.lit (Value.int IntKind.i64 (Int.ofNat 0))), (VV.lit (Value.int IntKind.i64 (Int.ofNat 1))), (VV.lit (Value.int IntKind.i64 (Int.ofNat 0))), (VV.lit (Value.int IntKind.i64 (Int.ofNat 1)))] 4 Bool.false), (VV.lit (Value.int IntKind.i64 (Int.ofNat 6))), (VV.lit (Value.int IntKind.i64 (Int.ofNat 0)))])
def kCount : VV := (VV.tup [(VV.lit (Value.int IntKind.i64 (Int.ofNat 1))), (VV.lit (Value.int IntKind.i64 (Int.ofNat 0)))])
def kWho : VV := (VV.tup [(VV.sl [(VV.lit (Value.int IntKind.i64 (Int.ofNat 1)))] 1 Bool.false), (VV.lit (Value.int IntKind.i64 (Int.ofNat 0)))])
def kGive : VV := (VV.tup [(VV.lit (Value.int IntKind.i64 (Int.ofNat 1))), (VV.lit (Value.int IntKind.i64 (Int.ofNat 8))), (VV.lit (Value.int IntKind.i64 (Int.ofNat 0)))])
def kMore : VV := (VV.tup [(VV.lit (Value.int IntKind.i64 (Int.ofNat 5))), (VV.lit (Value.int IntKind.i64 (Int.ofNat 0)))])
def kLeast : VV := (VV.tup [(VV.lit (Value.int IntKind.i64 (Int.ofNat 2))), (VV.lit (Value.int IntKind.i64 (Int.ofNat 0)))])
def kRead : VV := (VV.tup [(VV.agg [(VV.lit (Value.int IntKind.i64 (Int.ofNat 0))), (VV.sl [(VV.lit (Value.int IntKind.i64 (Int.ofNat 0)))] 1 Bool.false), (VV.sl [(VV.lit (Value.int IntKind.i64 (Int.ofNat 0))), (VV.lit (Value.bool Bool.false)), (VV.lit (Value.int IntKind.i64 (Int.ofNat 1))), (VV.lit (Value.int IntKind.i64 (Int.ofNat 1))), (VV.lit (Value.slice Option.none 0 0))] 1 Bool.false)]), (VV.lit (Value.int IntKind.i64 (Int.ofNat 0)))])
theorem pB : aj Tryz.prog G0 64 [] (.tree kB) := aj.closedF (fs := []) (tab := []) hmix trivial 1000 (by kernel_rfl)
theorem pEnds : aj Tryz.prog G0 22 [kB, .sl [.lit (.int .i64 (0)), .lit (.int .i64 (1)), .lit (.int .i64 (0)), .lit (.int .i64 (1))] 4 false] (.tree kEnds) := aj.closedF (fs := []) (tab := []) hmix trivial 1000 (by kernel_rfl)
theorem pDone : aj Tryz.prog G0 23 [kB, .sl [.lit (.int .i64 (0)), .lit (.int .i64 (1)), .lit (.int .i64 (0)), .lit (.int .i64 (1))] 4 false, .lit (.int .i64 (0))] (.tree kDone) := aj.closedF (fs := []) (tab := []) hmix trivial 1000 (by kernel_rfl)
theorem pLate : aj Tryz.prog G0 36 [kB, .sl [.lit (.int .i64 (0)), .lit (.int .i64 (1)), .lit (.int .i64 (0)), .lit (.int .i64 (0))] 4 false] (.tree kLate) := aj.closedF (fs := []) (tab := []) hmix trivial 1000 (by kernel_rfl)
theorem pWaits : aj Tryz.prog G0 37 [kB, .sl [.lit (.int .i64 (0)), .lit (.int .i64 (1)), .lit (.int .i64 (0)), .lit (.int .i64 (1))] 4 false] (.tree kWaits) := aj.closedF (fs := []) (tab := []) hmix trivial 1000 (by kernel_rfl)
theorem pChain : aj Tryz.prog G0 42 [kB, .sl [.lit (.int .i64 (0)), .lit (.int .i64 (1)), .lit (.int .i64 (0)), .lit (.int .i64 (1))] 4 false] (.tree kChain) := aj.closedF (fs := []) (tab := []) hmix trivial 1000 (by kernel_rfl)
theorem pSpare : aj Tryz.prog G0 43 [kB, .sl [.lit (.int .i64 (0)), .lit (.int .i64 (1)), .lit (.int .i64 (0)), .lit (.int .i64 (1))] 4 false, .lit (.int .i64 (0))] (.tree kSpare) := aj.closedF (fs := []) (tab := []) hmix trivial 1000 (by kernel_rfl)
theorem pBest : aj Tryz.prog G0 51 [kB] (.tree kBest) := aj.closedF (fs := []) (tab := []) hmix trivial 1000 (by kernel_rfl)
theorem pCount : aj Tryz.prog G0 52 [kB] (.tree kCount) := aj.closedF (fs := []) (tab := []) hmix trivial 1000 (by kernel_rfl)
theorem pWho : aj Tryz.prog G0 55 [kB, .lit (.int .i64 (1))] (.tree kWho) := aj.closedF (fs := []) (tab := []) hmix trivial 1000 (by kernel_rfl)
theorem pGive : aj Tryz.prog G0 56 [kB, .sl [.lit (.int .i64 (0)), .lit (.int .i64 (0)), .lit (.int .i64 (0)), .lit (.int .i64 (0))] 4 false, .lit (.int .i64 (1))] (.tree kGive) := aj.closedF (fs := []) (tab := []) hmix trivial 1000 (by kernel_rfl)
theorem pMore : aj Tryz.prog G0 60 [kB] (.tree kMore) := aj.closedF (fs := []) (tab := []) hmix trivial 1000 (by kernel_rfl)
theorem pLeast : aj Tryz.prog G0 61 [kB, .lit (.int .i64 (5))] (.tree kLeast) := aj.closedF (fs := []) (tab := []) hmix trivial 1000 (by kernel_rfl)
theorem pRead : aj Tryz.prog G0 65 [.lit (.string ⟨⟨[98, 101, 110, 99, 104, 32, 48, 10, 98, 111, 97, 114, 100, 32, 48, 10, 115, 116, 114, 97, 105, 103, 104, 116, 32, 48, 32, 49, 32, 49, 32, 45, 10, 101, 110, 100, 32, 49, 55, 53, 10]⟩⟩)] (.tree kRead) := aj.closedF (fs := []) (tab := []) hmix trivial 1000 (by kernel_rfl)
def kTab : KTab := [
  (64, [], kB),
  (22, [kB, .sl [.lit (.int .i64 (0)), .lit (.int .i64 (1)), .lit (.int .i64 (0)), .lit (.int .i64 (1))] 4 false], kEnds),
  (23, [kB, .sl [.lit (.int .i64 (0)), .lit (.int .i64 (1)), .lit (.int .i64 (0)), .lit (.int .i64 (1))] 4 false, .lit (.int .i64 (0))], kDone),
  (36, [kB, .sl [.lit (.int .i64 (0)), .lit (.int .i64 (1)), .lit (.int .i64 (0)), .lit (.int .i64 (0))] 4 false], kLate),
  (37, [kB, .sl [.lit (.int .i64 (0)), .lit (.int .i64 (1)), .lit (.int .i64 (0)), .lit (.int .i64 (1))] 4 false], kWaits),
  (42, [kB, .sl [.lit (.int .i64 (0)), .lit (.int .i64 (1)), .lit (.int .i64 (0)), .lit (.int .i64 (1))] 4 false], kChain),
  (43, [kB, .sl [.lit (.int .i64 (0)), .lit (.int .i64 (1)), .lit (.int .i64 (0)), .lit (.int .i64 (1))] 4 false, .lit (.int .i64 (0))], kSpare),
  (51, [kB], kBest),
  (52, [kB], kCount),
  (55, [kB, .lit (.int .i64 (1))], kWho),
  (56, [kB, .sl [.lit (.int .i64 (0)), .lit (.int .i64 (0)), .lit (.int .i64 (0)), .lit (.int .i64 (0))] 4 false, .lit (.int .i64 (1))], kGive),
  (60, [kB], kMore),
  (61, [kB, .lit (.int .i64 (5))], kLeast),
  (65, [.lit (.string ⟨⟨[98, 101, 110, 99, 104, 32, 48, 10, 98, 111, 97, 114, 100, 32, 48, 10, 115, 116, 114, 97, 105, 103, 104, 116, 32, 48, 32, 49, 32, 49, 32, 45, 10, 101, 110, 100, 32, 49, 55, 53, 10]⟩⟩)], kRead)]
theorem kTabOk : KTabOk Tryz.prog G0 kTab := ⟨⟨by kernel_rfl, pB⟩, ⟨⟨by kernel_rfl, pEnds⟩, ⟨⟨by kernel_rfl, pDone⟩, ⟨⟨by kernel_rfl, pLate⟩, ⟨⟨by kernel_rfl, pWaits⟩, ⟨⟨by kernel_rfl, pChain⟩, ⟨⟨by kernel_rfl, pSpare⟩, ⟨⟨by kernel_rfl, pBest⟩, ⟨⟨by kernel_rfl, pCount⟩, ⟨⟨by kernel_rfl, pWho⟩, ⟨⟨by kernel_rfl, pGive⟩, ⟨⟨by kernel_rfl, pMore⟩, ⟨⟨by kernel_rfl, pLeast⟩, ⟨⟨by kernel_rfl, pRead⟩, trivial⟩⟩⟩⟩⟩⟩⟩⟩⟩⟩⟩⟩⟩⟩
theorem pKnown : aj Tryz.prog G0 20 [] (.tree (.lit (.bool true))) := aj.closedF (fs := []) hmix kTabOk 1000 (by kernel_rfl)
#print axioms pKnown
theorem mH : aj Tryz.prog G0 20 [] (.tree (.lit (.bool true))) := pKnown
def xk (eG : Int) (dc : Int) : Option (GSpan) := some (GSpan.mk eG dc)
theorem Qu (eG : Int) (dc : Int) (R : GSpan) (h : xk eG dc = some R) : aj Tryz.prog G0 34 [.lit (.int .i64 eG), .lit (.int .i64 dc)] (.tree (.agg (cGSpan R))) := by
 refine aj.runR mixed Tryz.call34 Tryz.func34 rfl (by simp [Tryz.ntmps34]; kernel_rfl) ?_
 obtain ⟨KF, h, kF, kN⟩ := cJ h
 simp only [xk] at h
 try simp only [vz, tyf, nm, seval]
 refine cH (x := (.agg ([.lit (.int .i64 eG)] ++ [.lit (.int .i64 dc)]))) (by first | (simp only [Tryz.results34, resV, resL, resV1, dh, di, uw, cr, tyf, nm, seval] <;> rfl) | rfl) ?_
 obtain rfl := kF _ h
 refine ka ?_ ?_
 ·simp only [tre, tytre, Bool.and_self]
 ·first | (simp only [outV, uw, jO, cr, tyf, nrm, tynrm, nm, seval] <;> rfl) | rfl
theorem an.freezeG {P : Program} {G : Glob} {f : FuncId} {args args' : List VV} {H : Nat → Option VObj} {nx : Nat} {R Rp : VV → (Nat → Option VObj) → Nat → Prop} (H' : Nat → Option VObj) (ho : ∀ β o', H' β = some o' → ∃ o, H β = some o ∧ FrozenO H H' o o')
  (hdd : ∀ β, isDef H β → isDef H' β) (ha : FrozenL H H' args args') (h : an P G f args' H' nx R Rp) : an P G f args H nx R Rp := by
 refine ⟨h.1, fun c W vs s hH hnx hG hargs => ?_⟩
 refine (an.freeze H' ho ?_ ha h).2 c W vs s hH hnx hG hargs
 intro x s1 pe tm ps asg bo df hx
 obtain ⟨o, h1, hf⟩ := ho x _ hx
 rcases hf with rfl | ⟨el, cs, cs', rfl, e, _⟩
 ·obtain ⟨l, fn, _, _, _, hd⟩ := s.obj x _ (show c.H x = _ by rw [hH]; exact h1)
  exact hdd df (by rw [← hH]; exact hd)
 ·cases e
theorem an.nilc {P : Program} {G : Glob} {f : FuncId} {args : List VV} {H : Nat → Option VObj} {nx : Nat} {R Rp : VV → (Nat → Option VObj) → Nat → Prop} {β : Nat} {el : Option TypeId} {A Z : List VV} (hβ : H β = some (.cells el (A ++ .lit (.slice none 0 0) :: Z)))
  (h : an P G f args (updH H β (.cells el (A ++ .sl [] 0 false :: Z))) nx R Rp) : an P G f args H nx R Rp := by
 refine ⟨h.1, fun c W vs s hH hnx hG hargs => ?_⟩
 have hc : c.H β = some (.cells el (A ++ .lit (.slice none 0 0) :: Z)) := by rw [hH]; exact hβ
 have hl : c.live β := by simp [Ctx.live, hc]
 have he : Ext c W (c.upd β (.cells el (A ++ .sl [] 0 false :: Z))) W := Ext.upd hl (But.self W _)
 have ab := he.abides s
 have hs : Sim (c.upd β (.cells el (A ++ .sl [] 0 false :: Z))) W := by
  refine Sim.upd s hl (But.self W _) (fun ⟨ds, hd⟩ => by rw [hc] at hd; cases hd) ?_
  obtain ⟨arr, e, a1, a2, a3, a4, a5⟩ := s.obj β _ hc
  refine ⟨arr, e, a1, a2, by simpa using a3, ?_, a5⟩
  have hlen : (A ++ VV.lit (.slice none 0 0) :: Z).length = (A ++ VV.sl [] 0 false :: Z).length := by simp
  rw [hlen] at a4
  refine FB (x := .lit (.slice none 0 0)) (fun v hv => ?_) A _ (RepL.abides ab _ a4)
  have e : v = .slice none 0 0 := hv
  subst e
  exact ⟨none, 0, rfl, Nat.le_refl _, fun h => (by cases h), .inl rfl⟩
 have hH' : (c.upd β (.cells el (A ++ .sl [] 0 false :: Z))).H = updH H β (.cells el (A ++ .sl [] 0 false :: Z)) := by
  show updH c.H β _ = _
  rw [hH]
 refine (h.2 _ W vs hs hH' hnx (hG.abides ab) (RepL.abides ab _ hargs)).mono ?_
 rintro e W' ⟨c', H1, nx', g1, g2, g3, g4, g5, g6, g7⟩
 exact ⟨c', H1, nx', he.trans g1, g2, g3, g4, g5, g6, g7⟩
inductive Ghs : (Nat → Option VObj) → (Nat → Option VObj) → Prop
 | nil {H : Nat → Option VObj} : Ghs H H
 | ghost {H H1 H2 : Nat → Option VObj} (ho : ∀ β o', H1 β = some o' → ∃ o, H β = some o ∧ FrozenO H H1 o o') (hdd : ∀ β, isDef H β → isDef H1 β) (h : Ghs H1 H2) : Ghs H H2
 | empty {H H2 : Nat → Option VObj} {β : Nat} {el : Option TypeId} {A Z : List VV} (hβ : H β = some (.cells el (A ++ .lit (.slice none 0 0) :: Z))) (h : Ghs (updH H β (.cells el (A ++ .sl [] 0 false :: Z))) H2) : Ghs H H2
theorem Ghs.mid {H H2 : Nat → Option VObj} {γ ε n w cp : Nat} {e1 e2 : Option TypeId} {cs ys Z : List VV} (hγ : H γ = some (.cells e1 ys)) (hε : H ε = some (.cells e2 (cs ++ .ref γ 0 n w cp :: Z))) (hne : ε ≠ γ) (ht : treeL ys = true) (hl : ys.length = n * w)
  (h : Ghs (updH (without H γ) ε (.cells e2 (cs ++ .sl ys n false :: Z))) H2) : Ghs H H2 :=
 have gh := Ghost.mid (tm := fun _ => .lit (.bool false)) (nx := 0) (df := []) hγ hε hne ht hl
 .ghost gh.1 gh.2.1 h
theorem an.ghs {P : Program} {G : Glob} {f : FuncId} {args : List VV} {nx : Nat} {R Rp : VV → (Nat → Option VObj) → Nat → Prop} {H H' : Nat → Option VObj} (g : Ghs H H') (h : an P G f args H' nx R Rp) : an P G f args H nx R Rp := by
 induction g with
 | nil => exact h
 | ghost ho hdd _ ih => exact an.freezeG _ ho hdd (FrozenL.mid.FrozenL.refl args) (ih h)
 | empty hβ _ ih => exact an.nilc hβ (ih h)
theorem kghs {P : Program} {G : Glob} {H H' : Nat → Option VObj} {f : FuncId} {args args0 : List VV} {x : VV} {d : Option Tmp} {γ : Nat} {tm : Nat → VV} {nx : Nat} {df : List VDef} {K : St → Prop} {Qp : VV → St → Prop} (g : Ghs H H') (hn : normL args = args0) (ht : treeL args = true) (hp : aj P G f args0 (.tree x)) (h : fin d γ tm H' nx df K x .none) : callK P G f args ⟨tm, H, nx, df⟩ d γ K Qp := by
 subst hn
 refine .inr (.inr ?_)
 unfold openK
 refine an.mono (an.ghs g (an.of_pure hp.norm ht)) ?_ (fun _ _ _ h => h.elim)
 rintro v H2 fv ⟨rfl, rfl, rfl⟩
 cases d <;> exact h
theorem Ghs.two {H : Nat → Option VObj} {a b x y n1 n2 w c1 c2 : Nat} {o0 : Option VObj} {e1 e2 e3 e4 : Option TypeId} {A1 A2 xs ys : List VV} (h0 : H 0 = o0) (hb : H b = some (.cells e1 (A1 ++ .ref x 0 n1 w c1 :: []))) (ha : H a = some (.cells e2 (A2 ++ .ref y 0 n2 w c2 :: []))) (hx : H x = some (.cells e3 xs)) (hy : H y = some (.cells e4 ys))
  (hd : a ≠ b ∧ a ≠ x ∧ a ≠ y ∧ b ≠ x ∧ b ≠ y ∧ x ≠ y ∧ a ≠ 0 ∧ b ≠ 0 ∧ x ≠ 0 ∧ y ≠ 0) (tx : treeL xs = true) (ty : treeL ys = true) (lx : xs.length = n1 * w) (ly : ys.length = n2 * w) :
  ∃ H2, Ghs H H2 ∧ H2 0 = o0 ∧ H2 b = some (.cells e1 (A1 ++ [.sl xs n1 false])) ∧ H2 a = some (.cells e2 (A2 ++ [.sl ys n2 false])) := by
 obtain ⟨d1, d2, d3, d4, d5, d6, d7, d8, d9, lH⟩ := hd
 refine ⟨_, Ghs.mid (γ := y) (ε := a) hy ha d3 ty ly (Ghs.mid (γ := x) (ε := b) (e1 := e3) (e2 := e1) (cs := A1) (Z := []) (cp := c1) ?_ ?_ d4 tx lx .nil), ?_, ?_, ?_⟩
 ·rw [aU, if_neg (Ne.symm d2), bg, if_neg d6]; exact hx
 ·rw [aU, if_neg (Ne.symm d1), bg, if_neg d5]; exact hb
 ·rw [aU, if_neg (Ne.symm d8), bg, if_neg (Ne.symm d9), aU, if_neg (Ne.symm d7), bg, if_neg (Ne.symm lH)]; exact h0
 ·rw [aU, if_pos rfl]
 ·rw [aU, if_neg d1, bg, if_neg d2, aU, if_pos rfl]
end Go.V
end
