/- Part of a proof. -/
import Derived.Test.YtmhlghgbfmcdaaaGreatDoorE1bk
set_option linter.all false
set_option maxRecDepth 4000
set_option maxHeartbeats 40000000
section
namespace Go.V
open Go Go.Proofs
theorem Len.of {b : GBk} (h : aC b.Boards = true ∧ aC b.Strokes = true ∧ ∀ y ∈ b.Strokes, aC y.Needs = true) : Len b := ⟨zg h.1, zg h.2.1, fun s hs => zg (h.2.2 s hs)⟩
theorem HW : ∀ (p : List GBs) (c : Int), n4 p c = some (.go ()) ∨ n4 p c = some (.ret false)
 | [], c => .inl rfl
 | s :: p, c => by
  simp only [n4]
  cases decide (c < 9) with
  | false => exact .inl rfl
  | true =>
   cases decide ((s.Needs.length : Int) > 8) with
   | true => exact .inr rfl
   | false => exact HW p (c + 1)
theorem BOk.len {b : GBk} (h : BOk b) (hl : ∀ s ∈ b.Strokes, s.Needs.length < 9223372036854775808) : Len b := ⟨by have := h.nb; omega, by have := h.ns; omega, hl⟩
structure HOk (n : Int) (s : GBs) : Prop where
 nd : ∀ k ∈ s.Needs, 0 ≤ k ∧ k < n
 ad : adjB s.Needs = true
 hr : 0 ≤ s.Hours.Low ∧ s.Hours.Low ≤ 15 ∧ 0 ≤ s.Hours.High ∧ s.Hours.High ≤ 15
structure BH (b : GBk) : Prop where
 ns : 1 ≤ b.Strokes.length ∧ b.Strokes.length ≤ 6
 s : ∀ {i : Nat} {s : GBs}, b.Strokes[i]? = some s → HOk i s
theorem BOk.h {b : GBk} (h : BOk b) : BH b := ⟨h.ns, fun hs => by have := h.s hs; have h2 := this.hr; exact ⟨this.nd, this.ad, by omega⟩⟩
def nF (b : GBk) (s : Nat) : List Int := match b.Strokes[s]? with | some x => x.Needs | none => []
def dF (b : GBk) (h : Int) (s : Nat) : Int := match b.Strokes[s]? with | some x => if h = 0 then x.Hours.Low else x.Hours.High | none => 0
def hF (pl : List Int) (s : Nat) : Int := (pl[s]?).getD 0
def EE (b : GBk) (pl : List Int) (h : Int) (s : Nat) : Int := Ed (hF pl) (nF b) (dF b h) s
def BB (b : GBk) (pl : List Int) (h : Int) (s : Nat) : Int := Bg (hF pl) (nF b) (dF b h) s
def FF (b : GBk) (pl : List Int) (h : Int) (s : Nat) : Int := frF (hF pl) (EE b pl h) (hF pl s) s
theorem BH.nd {b : GBk} (h : BH b) : NdOk (nF b) := by
 intro s k hk
 unfold nF at hk
 split at hk
 ·rename_i x hx
  have := (h.s hx).nd k hk
  omega
 ·cases hk
theorem BH.d {b : GBk} (h : BH b) (hr : Int) (s : Nat) : 0 ≤ dF b hr s ∧ dF b hr s ≤ 15 := by
 unfold dF
 split
 ·rename_i x hx
  have := (h.s hx).hr
  split <;> omega
 ·omega
theorem EE_b {b : GBk} (h : BH b) (pl : List Int) (hr : Int) {s : Nat} (hs : s < b.Strokes.length) : 0 ≤ EE b pl hr s ∧ EE b pl hr s ≤ 90 := by
 have h1 := Ed_nn (hd := hF pl) h.nd (fun k => (h.d hr k).1) s
 have h2 := HX (hd := hF pl) h.nd (h.d hr) s
 have := h.ns
 unfold EE
 omega
theorem EE_eq {b : GBk} (h : BH b) (pl : List Int) (hr : Int) (s : Nat) : EE b pl hr s = BB b pl hr s + dF b hr s := Ed_eq h.nd s
theorem BB_b {b : GBk} (h : BH b) (pl : List Int) (hr : Int) {s : Nat} (hs : s < b.Strokes.length) : 0 ≤ BB b pl hr s ∧ BB b pl hr s ≤ 90 := by
 have h1 := EE_b h pl hr hs
 have h2 := h.d hr s
 have h3 := Bg_nn (hd := hF pl) (nd := nF b) (d := dF b hr) s
 rw [EE_eq h] at h1
 have h3 : 0 ≤ BB b pl hr s := h3
 omega
theorem zh {b : GBk} (pl : List Int) (hr : Int) (s : Nat) : BB b pl hr s = max (max 0 (FF b pl hr s)) (mxL ((nF b s).map fun k => EE b pl hr k.toNat)) := rfl
def InvE (b : GBk) (pl : List Int) (l : List (GBe × Int)) : Prop := ∀ p ∈ l, p.2 = EE b pl p.1.hours p.1.stroke.toNat
theorem InvE.nil {b : GBk} {pl : List Int} : InvE b pl [] := fun _ h => by cases h
theorem InvE.has {b : GBk} {pl : List Int} {l : List (GBe × Int)} (h : InvE b pl l) {k : GBe} (hk : mapHas cR l k = true) : mapGet cR 0 l k = EE b pl k.hours k.stroke.toNat := by
 unfold mapHas at hk
 unfold mapGet
 cases hi : kIdx cR k (l.map (·.1)) 0 with
 | none => rw [hi] at hk; cases hk
 | some i =>
  obtain ⟨_, e, he, hq⟩ := va _ _ _ hi
  rw [Nat.sub_zero, List.getElem?_map] at he
  cases hg : l[i]? with
  | none => rw [hg] at he; cases he
  | some p =>
   rw [hg] at he
   simp only [Option.map_some, Option.some.injEq] at he
   have hpe := jB _ _ hq
   have hv := h p (List.mem_of_getElem? hg)
   rw [he, ← hpe] at hv
   simp only [hg, hv]
theorem rI {K V : Type} {q : K → K → Bool} {k : K} {v : V} : ∀ {l : List (K × V)} {p : K × V}, p ∈ setR q k v l → p ∈ l ∨ p.2 = v ∧ (p.1 = k ∨ q k p.1 = true)
 | [], p, h => by
  simp only [setR, List.mem_singleton] at h
  exact .inr ⟨by rw [h], .inl (by rw [h])⟩
 | a :: l, p, h => by
  unfold setR at h
  split at h
  ·rename_i hq
   rcases List.mem_cons.1 h with rfl | h
   ·exact .inr ⟨rfl, .inl rfl⟩
   ·exact .inl (List.mem_cons_of_mem _ h)
  ·rcases List.mem_cons.1 h with rfl | h
   ·exact .inl (List.mem_cons_self ..)
   ·exact (rI h).imp (List.mem_cons_of_mem _) id
theorem InvE.set {b : GBk} {pl : List Int} {l : List (GBe × Int)} (h : InvE b pl l) (s hr : Int) : InvE b pl (mapSet cR l ⟨s, hr⟩ (EE b pl hr s.toNat)) := by
 intro p hp
 rw [Hu] at hp
 rcases rI hp with hp | ⟨h1, h2⟩
 ·exact h p hp
 ·have e : p.1 = ⟨s, hr⟩ := by
   rcases h2 with h2 | h2
   ·exact h2
   ·exact (jB _ _ h2).symm
  rw [h1, e]
abbrev RC := GBk → List Int → Int → Int → List (GBe × Int) → Option (Int × List (GBe × Int))
def RcOk (rc : RC) (b : GBk) (pl : List Int) (h : Int) (n : Nat) : Prop := ∀ (k : Int) l, 0 ≤ k → k.toNat < n → InvE b pl l → ∃ l', rc b pl k h l = some (EE b pl h k.toNat, l') ∧ InvE b pl l'
theorem room8 {n : Nat} (h : n ≤ 1000) : roomOk 8 n = true := by simp [roomOk]; omega
theorem HY : ∀ (p : List Int) (i c : Int), pY p i c = some (.go (p.foldl max c))
 | [], _, _ => rfl
 | e :: p, i, c => by
  simp only [pY, HY p, List.foldl_cons]
  have : (if c < e then e else c) = max c e := by split <;> omega
  rw [this]
theorem vd {l : List Int} (h : l.length < 9223372036854775808) : lW l = some (mxL l) := by
 unfold lW
 rw [fg h, cond_true, HY]
 rfl
theorem getP {pl : List Int} {n : Nat} {s : Int} (hl : pl.length = n) (h0 : 0 ≤ s) (h1 : s.toNat < n) : getI pl s = some (hF pl s.toNat) := by
 unfold getI hF
 rw [if_pos h0, List.getElem?_eq_getElem (by omega)]
 rfl
theorem rJ {rc : RC} {b : GBk} {pl : List Int} {h : Int} {s : Int} {N : Nat} (hp : pl.length = N) (hC : 0 ≤ s) (hs : s.toNat < N) (hN : N ≤ 6) (hrc : RcOk rc b pl h s.toNat) {l : List (GBe × Int)} (hl : InvE b pl l) :
  ∀ (k0 k : Nat), k < k0 → k ≤ s.toNat → ∃ l', lbind (n5 rc b pl s h l k0 ((k : Int) - 1)) (fun r => some r) (fun _ => some (0, l)) (fun _ _ => none) = some (frF (hF pl) (EE b pl h) (hF pl s.toNat) k, l') ∧ InvE b pl l'
 | 0, _, hk, _ => absurd hk (Nat.not_lt_zero _)
 | k0 + 1, 0, _, _ => by
  simp only [n5]
  rw [decide_eq_false (by omega), cond_false]
  exact ⟨l, rfl, hl⟩
 | k0 + 1, k + 1, hk, hks => by
  simp only [n5]
  rw [decide_eq_true (by omega), cond_true, getP hp (by omega) (by omega), getP hp hC hs]
  have e : (((k + 1 : Nat) : Int) - 1).toNat = k := by omega
  simp only [Option.bind_some, e]
  unfold frF
  by_cases hh : hF pl k = hF pl s.toNat
  ·obtain ⟨l', e1, hl'⟩ := hrc (((k + 1 : Nat) : Int) - 1) l (by omega) (by omega) hl
   rw [show (hF pl k == hF pl s.toNat) = true by simpa using hh, cond_true, e1, if_pos hh, e]
   exact ⟨l', rfl, hl'⟩
  ·rw [show (hF pl k == hF pl s.toNat) = false by simpa using hh, cond_false, if_neg hh, gL (by omega) (by omega), show ((k + 1 : Nat) : Int) - 1 - 1 = (k : Int) - 1 by omega]
   exact rJ hp hC hs hN hrc hl k0 k (by omega) (by omega)
theorem zi {rc : RC} {b : GBk} {pl : List Int} {h : Int} {s : Int} {N : Nat} (hp : pl.length = N) (hC : 0 ≤ s) (hs : s.toNat < N) (hN : N ≤ 6) (hrc : RcOk rc b pl h s.toNat) {l : List (GBe × Int)} (hl : InvE b pl l) :
  ∃ l', qS rc b pl s h l = some (FF b pl h s.toNat, l') ∧ InvE b pl l' := by
 unfold qS FF
 have := rJ hp hC hs hN hrc hl 1000000 s.toNat (by omega) (Nat.le_refl _)
 rw [gL (by omega) (by omega)]
 rw [show ((s.toNat : Nat) : Int) - 1 = s - 1 by omega] at this
 exact this
theorem HZ {rc : RC} {b : GBk} {pl : List Int} {h : Int} {n : Nat} (hrc : RcOk rc b pl h n) : ∀ (p : List Int) (i : Int) (acc : List Int) (l : List (GBe × Int)), (∀ k ∈ p, 0 ≤ k ∧ k.toNat < n) → acc.length + p.length ≤ 1000 → InvE b pl l →
  ∃ l', la rc b pl h p i acc l = some (.go (acc ++ p.map (fun k => EE b pl h k.toNat), l')) ∧ InvE b pl l'
 | [], i, acc, l, _, _, hl => ⟨l, by simp [la], hl⟩
 | k :: p, i, acc, l, hk, hn, hl => by
  have h1 := hk k (List.mem_cons_self ..)
  obtain ⟨l1, e1, ep⟩ := hrc k l h1.1 h1.2 hl
  simp only [la, e1, Option.bind_some]
  rw [room8 (by simp at hn ⊢; omega), cond_true]
  obtain ⟨l2, e2, gH⟩ := HZ hrc p (i + 1) (acc ++ [EE b pl h k.toNat]) l1 (fun k hk' => hk k (List.mem_cons_of_mem _ hk')) (by simp at hn ⊢; omega) ep
  exact ⟨l2, by rw [e2]; simp, gH⟩
theorem Ia {rc : RC} {b : GBk} {pl : List Int} {h : Int} {n : Nat} (hrc : RcOk rc b pl h n) {p : List Int} (hk : ∀ k ∈ p, 0 ≤ k ∧ k.toNat < n) (hn : p.length ≤ 1000) {l : List (GBe × Int)} (hl : InvE b pl l) :
  ∃ l', pI rc b pl p h l = some (p.map (fun k => EE b pl h k.toNat), l') ∧ InvE b pl l' := by
 obtain ⟨l', e, hl'⟩ := HZ hrc p 0 [] l hk (by simpa using hn) hl
 unfold pI
 rw [fg (by omega), cond_true, e]
 exact ⟨l', rfl, hl'⟩
theorem Ib : ∀ (l : List Int) (a : Int), adjB (a :: l) = true → ∀ m : Int, (∀ k ∈ a :: l, k < m) → (l.length : Int) < m - a
 | [], a, _, m, h => by have := h a (by simp); simp; omega
 | e :: l, a, h, m, hm => by
  have h' : (decide (a < e) && adjB (e :: l)) = true := h
  simp only [Bool.and_eq_true, decide_eq_true_eq] at h'
  have := Ib l e h'.2 m (fun k hk => hm k (List.mem_cons_of_mem _ hk))
  simp only [List.length_cons]
  omega
theorem HOk.few {n : Int} {s : GBs} (h : HOk n s) (hn : n ≤ 6) : s.Needs.length ≤ 6 := by
 cases e : s.Needs with
 | nil => simp
 | cons a l =>
  have h1 := h.ad
  rw [e] at h1
  have := Ib l a h1 n (fun k hk => (h.nd k (by rw [e]; exact hk)).2)
  have h2 := h.nd a (by rw [e]; simp)
  simp only [List.length_cons]
  omega
theorem getS {b : GBk} {s : Int} (h0 : 0 ≤ s) (h1 : s.toNat < b.Strokes.length) : ∃ x, getI b.Strokes s = some x ∧ b.Strokes[s.toNat]? = some x := by
 refine ⟨b.Strokes[s.toNat], ?_, List.getElem?_eq_getElem h1⟩
 unfold getI
 rw [if_pos h0, List.getElem?_eq_getElem h1]
theorem zj {rc : RC} {b : GBk} (hb : BH b) {pl : List Int} (hp : pl.length = b.Strokes.length) {h : Int} {s : Int} (hC : 0 ≤ s) (hs : s.toNat < b.Strokes.length) (hrc : RcOk rc b pl h s.toNat) {l : List (GBe × Int)} (hl : InvE b pl l) :
  ∃ l', qR rc b pl s h l = some (BB b pl h s.toNat, l') ∧ InvE b pl l' := by
 have hns := hb.ns
 obtain ⟨x, e1, e2⟩ := getS hC hs
 have hx := hb.s e2
 have hfew := hx.few (by omega)
 obtain ⟨l1, f1, ep⟩ := zi hp hC hs (by omega) hrc hl
 obtain ⟨l2, f2, gH⟩ := Ia hrc (p := x.Needs) (fun k hk => by have := hx.nd k hk; omega) (by omega) ep
 unfold qR
 simp only [f1, e1, f2, Option.bind_some]
 rw [vd (by simp; omega)]
 simp only [Option.bind_some]
 rw [vd (by simp)]
 refine ⟨l2, ?_, gH⟩
 simp only [Option.bind_some, zh, nF, e2]
 rfl
theorem zk {b : GBk} {pl : List Int} {s : Int} (h0 : 0 ≤ s) (h1 : s.toNat < b.Strokes.length) : qU b pl s = some (dF b 0 s.toNat) := by
 obtain ⟨x, e1, e2⟩ := getS h0 h1
 simp [qU, e1, dF, e2]
theorem LN {b : GBk} {pl : List Int} {s : Int} (h0 : 0 ≤ s) (h1 : s.toNat < b.Strokes.length) : qV b pl s = some (dF b 1 s.toNat) := by
 obtain ⟨x, e1, e2⟩ := getS h0 h1
 simp [qV, e1, dF, e2]
theorem zl {rc : RC} {b : GBk} (hb : BH b) {pl : List Int} (hp : pl.length = b.Strokes.length) {h : Int} (hh : h = 0 ∨ h = 1) {s : Int} (hC : 0 ≤ s) (hs : s.toNat < b.Strokes.length) (hrc : RcOk rc b pl h s.toNat) {l : List (GBe × Int)} (hl : InvE b pl l) :
  ∃ l', qW rc b pl s h l = some (EE b pl h s.toNat, l') ∧ InvE b pl l' := by
 unfold qW
 cases hm : mapHas cR l ⟨s, h⟩ with
 | true =>
  rw [cond_true, hl.has hm]
  exact ⟨l, rfl, hl⟩
 | false =>
  obtain ⟨l1, e1, ep⟩ := zj hb hp hC hs hrc hl
  have h1 := BB_b hb pl h hs
  have h2 := hb.d h s.toNat
  rw [cond_false, e1, Option.bind_some]
  rcases hh with rfl | rfl
  ·rw [zk hC hs]
   simp only [Option.bind_some, beq_self_eq_true, cond_true]
   rw [gL (by omega) (by omega), ← EE_eq hb]
   exact ⟨_, rfl, ep.set s 0⟩
  ·rw [LN hC hs]
   simp only [Option.bind_some, beq_self_eq_true, cond_true, show ((1 : Int) == 0) = false from rfl, cond_false]
   rw [gL (by omega) (by omega), ← EE_eq hb]
   exact ⟨_, rfl, ep.set s 1⟩
theorem rK {b : GBk} (hb : BH b) {pl : List Int} (hp : pl.length = b.Strokes.length) {h : Int} (hh : h = 0 ∨ h = 1) : ∀ (f n : Nat), n ≤ f → n ≤ b.Strokes.length → RcOk (gEnd f) b pl h n
 | 0, n, hn, _ => fun k l h0 h1 hl => absurd h1 (by omega)
 | f + 1, n, hn, hnl => fun k l h0 h1 hl => zl hb hp hh h0 (by omega) (rK hb hp hh f k.toNat (by omega) (by omega)) hl
section
variable {b : GBk} (hb : BH b) {pl : List Int} (hp : pl.length = b.Strokes.length) {h : Int} (hh : h = 0 ∨ h = 1) {l : List (GBe × Int)} (hl : InvE b pl l)
include hb hp hh hl
theorem Ic {p : List Int} (hk : ∀ k ∈ p, 0 ≤ k ∧ k.toNat < b.Strokes.length) (hn : p.length ≤ 1000) : ∃ l', uQ b pl p h l = some (p.map (fun k => EE b pl h k.toNat), l') ∧ InvE b pl l' :=
 Ia (rK hb hp hh 8 b.Strokes.length (by have := hb.ns; omega) (Nat.le_refl _)) hk hn hl
end
section
variable {b : GBk} (hb : BH b) {pl : List Int} (hp : pl.length = b.Strokes.length) {l : List (GBe × Int)} (hl : InvE b pl l)
include hb hp hl
theorem rL {p : List Int} (hk : ∀ k ∈ p, 0 ≤ k ∧ k.toNat < b.Strokes.length) (hn : p.length ≤ 1000) : ∃ l', pL b pl p l = some (⟨mxL (p.map fun k => EE b pl 0 k.toNat), mxL (p.map fun k => EE b pl 1 k.toNat)⟩, l') ∧ InvE b pl l' := by
 obtain ⟨l1, e1, ep⟩ := Ic hb hp (.inl rfl) hl hk hn
 obtain ⟨l2, e2, gH⟩ := Ic hb hp (.inr rfl) ep hk hn
 unfold pL
 simp only [e1, Option.bind_some]
 rw [vd (by simp; omega)]
 simp only [e2, Option.bind_some]
 rw [vd (by simp; omega)]
 exact ⟨l2, rfl, gH⟩
end
def itsF (bd : Int) : List GBs → Int → List Int
 | [], _ => []
 | s :: p, c => if s.Board = bd then c :: itsF bd p (c + 1) else itsF bd p (c + 1)
theorem its_b {bd : Int} : ∀ (p : List GBs) (c : Int), ∀ k ∈ itsF bd p c, c ≤ k ∧ k < c + p.length
 | [], _, _, h => by cases h
 | s :: p, c, k, h => by
  unfold itsF at h
  simp only [List.length_cons]
  split at h
  ·rcases List.mem_cons.1 h with rfl | h
   ·omega
   ·have := its_b p (c + 1) k h; omega
  ·have := its_b p (c + 1) k h; omega
theorem rM {bd : Int} : ∀ (p : List GBs) (c : Int), (itsF bd p c).length ≤ p.length
 | [], _ => Nat.le_refl _
 | s :: p, c => by
  have := rM (bd := bd) p (c + 1)
  unfold itsF
  split
  ·simp only [List.length_cons]; omega
  ·simp only [List.length_cons]; omega
theorem n7 {bd : Int} : ∀ (p : List GBs) (c : Int) (acc : List Int), acc.length + p.length ≤ 1000 → ko bd p c acc = some (.go (acc ++ itsF bd p c))
 | [], _, acc, _ => by simp [ko, itsF]
 | s :: p, c, acc, hn => by
  simp only [List.length_cons] at hn
  simp only [ko, itsF]
  by_cases h : s.Board = bd
  ·rw [show (s.Board == bd) = true by simpa using h, cond_true, room8 (by simp; omega), cond_true, n7 p (c + 1) _ (by simp; omega), if_pos h]
   simp
  ·rw [show (s.Board == bd) = false by simpa using h, cond_false, n7 p (c + 1) _ (by omega), if_neg h]
def DN (b : GBk) (pl : List Int) (bd : Int) : GSpan := ⟨mxL ((itsF bd b.Strokes 0).map fun k => EE b pl 0 k.toNat), mxL ((itsF bd b.Strokes 0).map fun k => EE b pl 1 k.toNat)⟩
theorem zm {b : GBk} (hb : BH b) {pl : List Int} (hp : pl.length = b.Strokes.length) (bd : Int) {l : List (GBe × Int)} (hl : InvE b pl l) : ∃ l', rb b pl bd l = some (DN b pl bd, l') ∧ InvE b pl l' := by
 have hns := hb.ns
 have h1 := rM (bd := bd) b.Strokes 0
 obtain ⟨l', e, hl'⟩ := rL hb hp hl (p := itsF bd b.Strokes 0) (fun k hk => by have := its_b b.Strokes 0 k hk; omega) (by omega)
 unfold rb
 rw [fg (by omega), cond_true, n7 b.Strokes 0 [] (by simp; omega), List.nil_append]
 simp only [lbind, e, Option.bind_some]
 exact ⟨l', rfl, hl'⟩
end Go.V
end
section
namespace Go.V
open Go Go.Proofs
def jC (ai : GBk) (ae : List Int) : List GBs → Int → (List GSpan) → (List (GBe × Int)) → Option (LOut ((List GSpan) × Int) ((List GSpan) × (List (GBe × Int))))
 | [], jD, bL, bw => some (.go (bL, bw))
 | e0 :: p0, jD, bL, bw => Option.bind (pL ai ae ([jD]) bw) (fun r4 => cond (roomOk 16 (List.length (bL ++ [r4.1]))) (jC ai ae p0 (jD + 1) (bL ++ [r4.1]) r4.2) none)
def rN (ai : GBk) (ae : List Int) : Option ((List GSpan) × Int) := Option.bind (nC ai) (fun r1 => cond (r1) (Option.bind (pZ ai ae) (fun r2 => cond (r2) (cond (aC ai.Strokes) (lbind (jC ai ae ai.Strokes 0 ([] : List GSpan) ([] : List (GBe × Int))) (fun r6 => some r6) (fun c5 => some (c5.1, 0)) (fun _ _ => none)) none) (some (([] : List GSpan), 2)))) (some (([] : List GSpan), 2)))
theorem LO (ai : GBk) (ae : List Int) (R : (List GSpan) × Int) (h : rN ai ae = some R) : ah Tryz.prog G0 22 [.agg (cGBk ai), .sl (aa eI ae) (List.length ae) false] (.tree (.tup [.sl (aa au R.1) (List.length R.1) false, .lit (.int .i64 R.2)])) := by
 refine ah.runR mixed Tryz.call22 Tryz.func22 rfl (by simp [Tryz.ntmps22]; kernel_rfl) ?_
 obtain ⟨KF, h, kF, kN⟩ := cA h
 simp only [rN] at h
 obtain ⟨r7, o8, h⟩ := optI h kN
 try simp only [hs] at h
 simp only [vz, mq, mqm, vsi, tyf, mqt, nm, seval]
 refine ktree (args0 := [.agg (cGBk ai)]) (by first | (simp only [nrm, aL, @dk] <;> rfl) | rfl) (by simp only [tre, tytre, mqr, Bool.and_self]) (zn _ _ o8) ?_
 refine bJ (fun tm => tm 1 = .sl (aa eI ae) (List.length ae) false ∧ tm 2 = .ptr 0 0 ∧ tm 10 = .lit (.bool r7) ∧ True) (by refine ⟨?_, ?_, ?_, trivial⟩ <;> first | (simp only [ua, bO, nm, seval] <;> rfl) | rfl) ?_
 rintro tm ⟨e9, aQ, aT, _⟩
 cases bn : (r7)
 ·simp only [bn, hs] at h
  try simp only [vz, mq, mqm, vsi, tyf, mqt, e9, aQ, aT, bn, nm, seval]
  refine cL (x := (.tup [.lit (.slice none 0 0), .lit (.int .i64 2)])) (by first | (simp only [Tryz.results22, resV, resL, resV1, cD, cE, uw, cr, tyf, mqt, bn, nm, seval] <;> rfl) | rfl) ?_
  obtain rfl := kF _ h
  refine fN ?_ ?_
  ·simp only [tre, tytre, mqr, Bool.and_self]
  ·first | (simp only [outV, uw, fY, cr, tyf, mqt, nrm, aL, e9, aQ, aT, bn, nm, seval] <;> rfl) | rfl
 simp only [bn, hs] at h
 obtain ⟨rO, nD, h⟩ := optI h kN
 try simp only [hs] at h
 simp only [vz, mq, mqm, vsi, tyf, mqt, e9, aQ, aT, bn, nm, seval]
 refine ktree (args0 := [.agg (cGBk ai), .sl (aa eI ae) (List.length ae) false]) (by first | (simp only [nrm, aL, @dk] <;> rfl) | rfl) (by simp only [tre, tytre, mqr, Bool.and_self]) (Ie _ _ _ nD) ?_
 refine bJ (fun tm => tm 1 = .sl (aa eI ae) (List.length ae) false ∧ tm 2 = .ptr 0 0 ∧ tm 12 = .lit (.bool false) ∧ tm 15 = .lit (.bool rO) ∧ True) (by refine ⟨e9, aQ, ?_, ?_, trivial⟩ <;> first | (simp only [ua, bO, e9, aQ, aT, bn, nm, seval] <;> rfl) | rfl) ?_
 rintro tm ⟨bt, bE, b5, bF, _⟩
 cases ei : (rO)
 ·simp only [ei, hs] at h
  try simp only [vz, mq, mqm, vsi, tyf, mqt, bn, bt, bE, b5, bF, ei, nm, seval]
  refine cL (x := (.tup [.lit (.slice none 0 0), .lit (.int .i64 2)])) (by first | (simp only [Tryz.results22, resV, resL, resV1, cD, cE, uw, cr, tyf, mqt, bn, ei, nm, seval] <;> rfl) | rfl) ?_
  obtain rfl := kF _ h
  refine fN ?_ ?_
  ·simp only [tre, tytre, mqr, Bool.and_self]
  ·first | (simp only [outV, uw, fY, cr, tyf, mqt, nrm, aL, bn, bt, bE, b5, bF, ei, nm, seval] <;> rfl) | rfl
 simp only [ei, hs] at h
 try simp only [vz, mq, mqm, vsi, tyf, mqt, bn, bt, bE, b5, bF, ei, nm, seval]
 refine kopen ?_
 rw [zo]
 refine ar.run mixed Tryz.call69 Tryz.func69 rfl (by simp [Tryz.ntmps69]; kernel_rfl) ?_
 try simp only [vz, mq, mqm, vsi, tyf, mqt, bn, ei, nm, seval]
 refine cL (x := (.agg ((cGBk ai) ++ [.sl (aa eI ae) (List.length ae) false] ++ [.mp 21]))) (by first | (simp only [Tryz.results69, resV, resL, resV1, cD, cE, uw, cr, tyf, mqt, bn, ei, nm, seval] <;> rfl) | rfl) ?_
 cases gb : (aC ai.Strokes)
 ·simp only [gb, hs] at h
  exact absurd h kN
 simp only [gb, hs] at h
 simp only [vz, mq, mqm, vsi, tyf, mqt, bn, ei, bt, bE, b5, bF, gb, nm, seval]
 obtain ⟨LP, h, LQ, rP, LS, lq⟩ := eN h kN
 obtain ⟨LU, zp, h⟩ := call4 h
 obtain ⟨LV, lr⟩ : ∃ I : Nat → St → Prop, I = (fun m st => ∃ (jv : List GBs) (aY : Int) (bR : List GSpan) (ig : List (GBe × Int)) (iH : VV), m = List.length jv ∧ 0 ≤ aY ∧ List.drop (Int.toNat aY) ai.Strokes = jv ∧ st.df = [] ∧ 29 ≤ st.nx ∧ st.H 21 = some (.map (encM aP cW ig)) ∧ st.H 15 = some (.cells (some 92) ((cGBk ai) ++ [.sl (aa eI ae) (List.length ae) false] ++ [.mp 21])) ∧ st.tm 6 = .ptr 15 0 ∧ st.tm 23 = .lit (.int .i64 (List.length ai.Strokes : Int)) ∧ st.tm 7 = iH ∧ st.tm 24 = .lit (.int .i64 aY) ∧ ((∃ (β : Nat) (el : Option TypeId), iH = .ref β 0 (List.length bR) 2 (List.length bR) ∧ β < st.nx ∧ β ≠ 21 ∧ β ≠ 15 ∧ st.H β = some (.cells el (aa au bR))) ∨ (iH = .lit (.slice none 0 0) ∧ bR = [])) ∧ LP (LU jv aY bR ig)) := ⟨_, rfl⟩
 refine loopK mixed (by kernel_rfl) LV (List.length ai.Strokes) (by rw [lr]; refine ⟨ai.Strokes, 0, ([] : List GSpan), ([] : List (GBe × Int)), .lit (.slice none 0 0), rfl, Int.le_refl _, rfl, rfl, (show 29 ≤ 29 by omega), ?_, ?_, ?_, ?_, ?_, ?_, Or.inr ⟨rfl, rfl⟩, h⟩ <;> first | (simp only [ua, bO, bn, ei, bt, bE, b5, bF, nm, seval] <;> rfl) | rfl) ?_
 rintro m ⟨tm, H, gd, df⟩ hinv
 rw [lr] at hinv
 obtain ⟨jv, aY, bR, ig, iH, rfl, ez, fy, hdf, zq, eR, eT, bK, bY, cl, bk, jE, h⟩ := hinv
 simp only at hdf zq eR eT bK bY cl bk jE
 have fh := fj (m := 29) (b := gd) (by omega)
 subst hdf zp
 rcases jE with ⟨mj, jF, rfl, zr, zt, zu, eJ⟩ | ⟨rfl, rfl⟩
 ·have jG := hY zr
  have jH := ne_f zt
  have jI := ne_f zu
  cases jv with
  | nil =>
   have fk : (decide (aY < (List.length ai.Strokes : Int))) = false := eg ez fy
   simp only [jC, hs, reduceCtorEq] at h
   replace h := rP _ h
   try dsimp only at h
   try simp only [hs] at h
   try simp only [vz, mq, mqm, vsi, tyf, mqt, bn, ei, gb, fh, bK, bY, cl, bk, eR, eT, jG, eJ, jH, jI, fk, nm, seval]
   refine cL (x := (.tup [.ref mj 0 (List.length bR) 2 (List.length bR), .lit (.int .i64 0)])) (by first | (simp only [Tryz.results22, resV, resL, resV1, cD, cE, uw, cr, tyf, mqt, bn, ei, gb, fh, eR, eT, jG, eJ, jH, jI, fk, nm, seval] <;> rfl) | rfl) ?_
   obtain rfl := kF _ h
   refine fN ?_ ?_
   ·simp only [tre, tytre, mqr, Bool.and_self]
   ·first | (simp only [outV, uw, fY, cr, tyf, mqt, nrm, aL, bn, ei, gb, fh, bK, bY, cl, bk, eR, eT, jG, eJ, jH, jI, fk, nm, seval] <;> rfl) | rfl
  | cons dr jv =>
   have rQ : (decide (aY < (List.length ai.Strokes : Int))) = true := eh ez fy
   have nE := cX ez fy
   have rR := dO ez fy gb
   simp only [jC, hs, reduceCtorEq] at h
   obtain ⟨jt, wN, h⟩ := optI h lq
   try simp only [hs] at h
   simp only [vz, mq, mqm, vsi, tyf, mqt, bn, ei, gb, fh, bK, bY, cl, bk, eR, eT, jG, eJ, jH, jI, rQ, (aH nE), rR, nm, seval]
   refine kupdF (args' := [.agg ((cGBk ai) ++ [.sl (aa eI ae) (List.length ae) false] ++ [.mp 21]), .sl (aa eI ([aY])) (List.length ([aY])) false]) (g := (gd + 6)) (el := (some 3)) (cs := aa eI ([aY])) (by first | rfl | assumption | (simp only [aV, aX, bP, fh, eR, eT, jG, eJ, jH, jI, nm, seval] <;> rfl) | (simp only [aV, aX, dp, dL, dv, dw, tyf, mqt, bn, ei, gb, fh, bK, bY, cl, bk, eR, eT, jG, eJ, jH, jI, rQ, (aH nE), rR, nm, seval]; done)) ⟨.same, Frozen.own (el := (some 3)) (cs := aa eI ([aY])) (by first | rfl | assumption | (simp only [aV, aX, bP, fh, eR, eT, jG, eJ, jH, jI, nm, seval] <;> rfl) | (simp only [aV, aX, dp, dL, dv, dw, tyf, mqt, bn, ei, gb, fh, bK, bY, cl, bk, eR, eT, jG, eJ, jH, jI, rQ, (aH nE), rR, nm, seval]; done)) (eI_ok.treeL _) (ff (w := 1) (enc := eI) (fun _ => rfl) _), trivial⟩ (VUpd.at (β := 21) (y := (fun _ => .agg (au jt.1))) (uR _ _ _ _ _ wN) (by omega) (by first | rfl | assumption | (simp only [aV, aX, fh, eR, eT, jG, eJ, jH, jI, nm, seval] <;> rfl)) (by first | rfl | (simp only [nrm, aL, @dk, @fX] <;> rfl) | (simp only [tyf, mqt, List.cons_append, List.nil_append, nrm, aL, @dk, @fX] <;> rfl)) (gF (fun _ => rfl) _)) ?_
   refine gW (fun tm => tm 6 = .ptr 15 0 ∧ tm 23 = .lit (.int .i64 (List.length ai.Strokes : Int)) ∧ tm 24 = .lit (.int .i64 aY) ∧ tm 27 = .ref mj 0 (List.length bR) 2 (List.length bR) ∧ tm 31 = .agg (au jt.1) ∧ True) (by refine ⟨bK, bY, bk, ?_, ?_, trivial⟩ <;> first | (simp only [ua, bO, bn, ei, fh, bK, bY, cl, bk, eR, eT, jG, eJ, jH, jI, rQ, rR, nm, seval] <;> rfl) | rfl) ?_
   rintro tm ⟨gZ, iS, k8, cb, cg, _⟩
   have k9 := And.intro bn (And.intro ei (And.intro gb (And.intro fh (And.intro eR (And.intro eT (And.intro jG (And.intro eJ (And.intro jH (And.intro jI (And.intro rQ rR))))))))))
   cases nG : (roomOk 16 (List.length (bR ++ [jt.1])))
   ·simp only [nG, hs] at h
    exact absurd h lq
   simp only [nG, hs] at h
   simp only [vz, mq, mqm, vsi, tyf, mqt, k9, (aH nE), gZ, iS, k8, cb, cg, nG, nm, seval]
   refine k_app (w := 2) (enc := au) (xs := bR) (ys := ([jt.1])) (el := jF) (gq := (some 35)) (fun _ => rfl) lu lv Tryz.underlying31 (by first | rfl | assumption | (simp only [aV, aX, ij, k9, nm, seval] <;> rfl) | (simp only [aV, aX, dp, dL, dv, dw, tyf, mqt, k9, (aH nE), gZ, iS, k8, cb, cg, nG, nm, seval]; done)) (by first | rfl | assumption | (simp only [aV, aX, ij, k9, nm, seval] <;> rfl) | (simp only [aV, aX, dp, dL, dv, dw, tyf, mqt, k9, (aH nE), gZ, iS, k8, cb, cg, nG, nm, seval]; done)) (Nat.zero_lt_succ _) nG ?_
   simp only [vz, mq, mqm, vsi, tyf, mqt, k9, (aH nE), gZ, iS, k8, cb, cg, nG, nm, seval]
   exact ⟨List.length jv, Nat.lt_succ_self _, by rw [lr]; refine ⟨jv, aY + 1, (bR ++ [jt.1]), jt.2, .ref (gd + 9) 0 (List.length (bR ++ [jt.1])) 2 (List.length (bR ++ [jt.1])), rfl, Int.le_trans ez (Int.le_add_one (Int.le_refl _)), bV ez fy, rfl, (show 29 ≤ gd + 13 by omega), ?_, ?_, gZ, iS, ?_, ?_, Or.inl ⟨gd + 9, (sameEl jF 35), rfl, (by first | omega | (simp only [nm, seval]; done) | (simp only [nm, seval]; omega)), (by first | omega | (intro hh; simp only [k9, reduceCtorEq] at hh)), (by first | omega | (intro hh; simp only [k9, reduceCtorEq] at hh)), ?_⟩, (by first | exact h | (simp only [k9]; exact h))⟩ <;> first | (simp only [ua, bO, k9, gZ, iS, k8, cb, cg, nm, seval] <;> rfl) | rfl⟩
 ·cases jv with
  | nil =>
   have iV : (decide (aY < (List.length ai.Strokes : Int))) = false := eg ez fy
   simp only [jC, hs, reduceCtorEq] at h
   replace h := rP _ h
   try dsimp only at h
   try simp only [hs] at h
   try simp only [vz, mq, mqm, vsi, tyf, mqt, bn, ei, gb, fh, bK, bY, cl, bk, eR, eT, iV, nm, seval]
   refine cL (x := (.tup [.lit (.slice none 0 0), .lit (.int .i64 0)])) (by first | (simp only [Tryz.results22, resV, resL, resV1, cD, cE, uw, cr, tyf, mqt, bn, ei, gb, fh, eR, eT, iV, nm, seval] <;> rfl) | rfl) ?_
   obtain rfl := kF _ h
   refine fN ?_ ?_
   ·simp only [tre, tytre, mqr, Bool.and_self]
   ·first | (simp only [outV, uw, fY, cr, tyf, mqt, nrm, aL, bn, ei, gb, fh, bK, bY, cl, bk, eR, eT, iV, nm, seval] <;> rfl) | rfl
  | cons dr jv =>
   have rS : (decide (aY < (List.length ai.Strokes : Int))) = true := eh ez fy
   have qa := cX ez fy
   have rT := dO ez fy gb
   simp only [jC, hs, reduceCtorEq] at h
   obtain ⟨ml, LW, h⟩ := optI h lq
   try simp only [hs] at h
   simp only [vz, mq, mqm, vsi, tyf, mqt, bn, ei, gb, fh, bK, bY, cl, bk, eR, eT, rS, (aH qa), rT, nm, seval]
   refine kupdF (args' := [.agg ((cGBk ai) ++ [.sl (aa eI ae) (List.length ae) false] ++ [.mp 21]), .sl (aa eI ([aY])) (List.length ([aY])) false]) (g := (gd + 6)) (el := (some 3)) (cs := aa eI ([aY])) (by first | rfl | assumption | (simp only [aV, aX, bP, fh, eR, eT, nm, seval] <;> rfl) | (simp only [aV, aX, dp, dL, dv, dw, tyf, mqt, bn, ei, gb, fh, bK, bY, cl, bk, eR, eT, rS, (aH qa), rT, nm, seval]; done)) ⟨.same, Frozen.own (el := (some 3)) (cs := aa eI ([aY])) (by first | rfl | assumption | (simp only [aV, aX, bP, fh, eR, eT, nm, seval] <;> rfl) | (simp only [aV, aX, dp, dL, dv, dw, tyf, mqt, bn, ei, gb, fh, bK, bY, cl, bk, eR, eT, rS, (aH qa), rT, nm, seval]; done)) (eI_ok.treeL _) (ff (w := 1) (enc := eI) (fun _ => rfl) _), trivial⟩ (VUpd.at (β := 21) (y := (fun _ => .agg (au ml.1))) (uR _ _ _ _ _ LW) (by omega) (by first | rfl | assumption | (simp only [aV, aX, fh, eR, eT, nm, seval] <;> rfl)) (by first | rfl | (simp only [nrm, aL, @dk, @fX] <;> rfl) | (simp only [tyf, mqt, List.cons_append, List.nil_append, nrm, aL, @dk, @fX] <;> rfl)) (gF (fun _ => rfl) _)) ?_
   refine gW (fun tm => tm 6 = .ptr 15 0 ∧ tm 23 = .lit (.int .i64 (List.length ai.Strokes : Int)) ∧ tm 24 = .lit (.int .i64 aY) ∧ tm 27 = .lit (.slice none 0 0) ∧ tm 31 = .agg (au ml.1) ∧ True) (by refine ⟨bK, bY, bk, ?_, ?_, trivial⟩ <;> first | (simp only [ua, bO, bn, ei, fh, bK, bY, cl, bk, eR, eT, rS, rT, nm, seval] <;> rfl) | rfl) ?_
   rintro tm ⟨fO, fP, gf, ik, fl, _⟩
   have mm := And.intro bn (And.intro ei (And.intro gb (And.intro fh (And.intro eR (And.intro eT (And.intro rS rT))))))
   cases qb : (roomOk 16 (List.length (([] : List GSpan) ++ [ml.1])))
   ·simp only [qb, hs] at h
    exact absurd h lq
   simp only [qb, hs] at h
   simp only [vz, mq, mqm, vsi, tyf, mqt, mm, (aH qa), fO, fP, gf, ik, fl, qb, nm, seval]
   refine nk (w := 2) (enc := au) (ys := ([ml.1])) (gq := (some 35)) (fun _ => rfl) lu lv Tryz.underlying31 (by first | rfl | assumption | (simp only [aV, aX, ij, mm, nm, seval] <;> rfl) | (simp only [aV, aX, dp, dL, dv, dw, tyf, mqt, mm, (aH qa), fO, fP, gf, ik, fl, qb, nm, seval]; done)) (Nat.zero_lt_succ _) qb ?_
   simp only [vz, mq, mqm, vsi, tyf, mqt, mm, (aH qa), fO, fP, gf, ik, fl, qb, nm, seval]
   exact ⟨List.length jv, Nat.lt_succ_self _, by rw [lr]; refine ⟨jv, aY + 1, (([] : List GSpan) ++ [ml.1]), ml.2, .ref (gd + 9) 0 (List.length (([] : List GSpan) ++ [ml.1])) 2 (List.length (([] : List GSpan) ++ [ml.1])), rfl, Int.le_trans ez (Int.le_add_one (Int.le_refl _)), bV ez fy, rfl, (show 29 ≤ gd + 13 by omega), ?_, ?_, fO, fP, ?_, ?_, Or.inl ⟨gd + 9, (some 35), rfl, (by first | omega | (simp only [nm, seval]; done) | (simp only [nm, seval]; omega)), (by first | omega | (intro hh; simp only [mm, reduceCtorEq] at hh)), (by first | omega | (intro hh; simp only [mm, reduceCtorEq] at hh)), ?_⟩, (by first | exact h | (simp only [mm]; exact h))⟩ <;> first | (simp only [ua, bO, mm, fO, fP, gf, ik, fl, nm, seval] <;> rfl) | rfl⟩
def rU (ai : GBk) (ae : List Int) (aq : Int) : Option (GSpan × Int) := Option.bind (nC ai) (fun r1 => cond (r1) (Option.bind (pZ ai ae) (fun r2 => cond (r2) (Option.bind (nH ai aq) (fun r3 => cond (r3) (Option.bind (rb ai ae aq ([] : List (GBe × Int))) (fun r4 => some (r4.1, 0))) (some ((GSpan.mk 0 0), 2)))) (some ((GSpan.mk 0 0), 2)))) (some ((GSpan.mk 0 0), 2)))
theorem LX (ai : GBk) (ae : List Int) (aq : Int) (R : GSpan × Int) (h : rU ai ae aq = some R) : ah Tryz.prog G0 23 [.agg (cGBk ai), .sl (aa eI ae) (List.length ae) false, .lit (.int .i64 aq)] (.tree (.tup [.agg (au R.1), .lit (.int .i64 R.2)])) := by
 refine ah.runR mixed Tryz.call23 Tryz.func23 rfl (by simp [Tryz.ntmps23]; kernel_rfl) ?_
 obtain ⟨KF, h, kF, kN⟩ := cA h
 simp only [rU] at h
 obtain ⟨r5, o6, h⟩ := optI h kN
 try simp only [hs] at h
 simp only [vz, mq, mqm, vsi, tyf, mqt, nm, seval]
 refine ktree (args0 := [.agg (cGBk ai)]) (by first | (simp only [nrm, aL, @dk] <;> rfl) | rfl) (by simp only [tre, tytre, mqr, Bool.and_self]) (zn _ _ o6) ?_
 refine bJ (fun tm => tm 1 = .sl (aa eI ae) (List.length ae) false ∧ tm 2 = .lit (.int .i64 aq) ∧ tm 3 = .ptr 0 0 ∧ tm 6 = .ptr 1 0 ∧ tm 9 = .lit (.bool r5) ∧ True) (by refine ⟨?_, ?_, ?_, ?_, ?_, trivial⟩ <;> first | (simp only [ua, bO, nm, seval] <;> rfl) | rfl) ?_
 rintro tm ⟨e7, e8, e9, aQ, aT, _⟩
 cases bn : (r5)
 ·simp only [bn, hs] at h
  try simp only [vz, mq, mqm, vsi, tyf, mqt, e7, e8, e9, aQ, aT, bn, nm, seval]
  refine cL (x := (.tup [.agg ([.lit (.int .i64 0)] ++ [.lit (.int .i64 0)]), .lit (.int .i64 2)])) (by first | (simp only [Tryz.results23, resV, resL, resV1, cD, cE, uw, cr, tyf, mqt, e7, e8, e9, aQ, aT, bn, nm, seval] <;> rfl) | rfl) ?_
  obtain rfl := kF _ h
  refine fN ?_ ?_
  ·simp only [tre, tytre, mqr, Bool.and_self]
  ·first | (simp only [outV, uw, fY, cr, tyf, mqt, nrm, aL, e7, e8, e9, aQ, aT, bn, nm, seval] <;> rfl) | rfl
 simp only [bn, hs] at h
 obtain ⟨rO, nD, h⟩ := optI h kN
 try simp only [hs] at h
 simp only [vz, mq, mqm, vsi, tyf, mqt, e7, e8, e9, aQ, aT, bn, nm, seval]
 refine ktree (args0 := [.agg (cGBk ai), .sl (aa eI ae) (List.length ae) false]) (by first | (simp only [nrm, aL, @dk] <;> rfl) | rfl) (by simp only [tre, tytre, mqr, Bool.and_self]) (Ie _ _ _ nD) ?_
 refine bJ (fun tm => tm 1 = .sl (aa eI ae) (List.length ae) false ∧ tm 2 = .lit (.int .i64 aq) ∧ tm 3 = .ptr 0 0 ∧ tm 6 = .ptr 1 0 ∧ tm 11 = .lit (.bool false) ∧ tm 14 = .lit (.bool rO) ∧ True) (by refine ⟨e7, e8, e9, aQ, ?_, ?_, trivial⟩ <;> first | (simp only [ua, bO, e7, e8, e9, aQ, aT, bn, nm, seval] <;> rfl) | rfl) ?_
 rintro tm ⟨bt, bE, b5, bF, bQ, dr, _⟩
 cases dK : (rO)
 ·simp only [dK, hs] at h
  try simp only [vz, mq, mqm, vsi, tyf, mqt, bn, bt, bE, b5, bF, bQ, dr, dK, nm, seval]
  refine cL (x := (.tup [.agg ([.lit (.int .i64 0)] ++ [.lit (.int .i64 0)]), .lit (.int .i64 2)])) (by first | (simp only [Tryz.results23, resV, resL, resV1, cD, cE, uw, cr, tyf, mqt, bn, bt, bE, b5, bF, bQ, dr, dK, nm, seval] <;> rfl) | rfl) ?_
  obtain rfl := kF _ h
  refine fN ?_ ?_
  ·simp only [tre, tytre, mqr, Bool.and_self]
  ·first | (simp only [outV, uw, fY, cr, tyf, mqt, nrm, aL, bn, bt, bE, b5, bF, bQ, dr, dK, nm, seval] <;> rfl) | rfl
 simp only [dK, hs] at h
 obtain ⟨nI, hD, h⟩ := optI h kN
 try simp only [hs] at h
 simp only [vz, mq, mqm, vsi, tyf, mqt, bn, bt, bE, b5, bF, bQ, dr, dK, nm, seval]
 refine ktree (args0 := [.agg (cGBk ai), .lit (.int .i64 aq)]) (by first | (simp only [nrm, aL, @dk] <;> rfl) | rfl) (by simp only [tre, tytre, mqr, Bool.and_self]) (Ig _ _ _ hD) ?_
 refine bJ (fun tm => tm 1 = .sl (aa eI ae) (List.length ae) false ∧ tm 2 = .lit (.int .i64 aq) ∧ tm 3 = .ptr 0 0 ∧ tm 6 = .ptr 1 0 ∧ tm 17 = .lit (.bool false) ∧ tm 20 = .lit (.bool nI) ∧ True) (by refine ⟨bt, bE, b5, bF, ?_, ?_, trivial⟩ <;> first | (simp only [ua, bO, bn, bt, bE, b5, bF, bQ, dr, dK, nm, seval] <;> rfl) | rfl) ?_
 rintro tm ⟨bK, bY, cl, bk, cM, ca, _⟩
 cases eU : (nI)
 ·simp only [eU, hs] at h
  try simp only [vz, mq, mqm, vsi, tyf, mqt, bn, dK, bK, bY, cl, bk, cM, ca, eU, nm, seval]
  refine cL (x := (.tup [.agg ([.lit (.int .i64 0)] ++ [.lit (.int .i64 0)]), .lit (.int .i64 2)])) (by first | (simp only [Tryz.results23, resV, resL, resV1, cD, cE, uw, cr, tyf, mqt, bn, dK, bK, bY, cl, bk, cM, ca, eU, nm, seval] <;> rfl) | rfl) ?_
  obtain rfl := kF _ h
  refine fN ?_ ?_
  ·simp only [tre, tytre, mqr, Bool.and_self]
  ·first | (simp only [outV, uw, fY, cr, tyf, mqt, nrm, aL, bn, dK, bK, bY, cl, bk, cM, ca, eU, nm, seval] <;> rfl) | rfl
 simp only [eU, hs] at h
 try simp only [vz, mq, mqm, vsi, tyf, mqt, bn, dK, bK, bY, cl, bk, cM, ca, eU, nm, seval]
 refine kopen ?_
 rw [zo]
 refine ar.run mixed Tryz.call69 Tryz.func69 rfl (by simp [Tryz.ntmps69]; kernel_rfl) ?_
 try simp only [vz, mq, mqm, vsi, tyf, mqt, bn, dK, eU, nm, seval]
 refine cL (x := (.agg ((cGBk ai) ++ [.sl (aa eI ae) (List.length ae) false] ++ [.mp 29]))) (by first | (simp only [Tryz.results69, resV, resL, resV1, cD, cE, uw, cr, tyf, mqt, bn, dK, eU, nm, seval] <;> rfl) | rfl) ?_
 obtain ⟨zw, LY, h⟩ := optI h kN
 try simp only [hs] at h
 simp only [vz, mq, mqm, vsi, tyf, mqt, bn, dK, eU, bK, bY, cl, bk, cM, ca, nm, seval]
 refine kupd (VUpd.at (β := 29) (y := (fun _ => .agg (au zw.1))) (KQ _ _ _ _ _ LY) (by omega) (by first | rfl | assumption | (simp only [aV, aX, nm, seval] <;> rfl)) (by first | rfl | (simp only [nrm, aL, @dk, @fX] <;> rfl)) (gF (fun _ => rfl) _)) ?_
 refine gW (fun tm => tm 6 = .ptr 1 0 ∧ tm 28 = .agg (au zw.1) ∧ True) (by refine ⟨bk, ?_, trivial⟩ <;> first | (simp only [ua, bO, bn, dK, eU, bK, bY, cl, bk, cM, ca, nm, seval] <;> rfl) | rfl) ?_
 rintro tm ⟨fw, dM, _⟩
 try simp only [vz, mq, mqm, vsi, tyf, mqt, bn, dK, eU, fw, dM, nm, seval]
 refine cL (x := (.tup [.agg (au zw.1), .lit (.int .i64 0)])) (by first | (simp only [Tryz.results23, resV, resL, resV1, cD, cE, uw, cr, tyf, mqt, bn, dK, eU, fw, dM, nm, seval] <;> rfl) | rfl) ?_
 obtain rfl := kF _ h
 refine fN ?_ ?_
 ·simp only [tre, tytre, mqr, Bool.and_self]
 ·first | (simp only [outV, uw, fY, cr, tyf, mqt, nrm, aL, bn, dK, eU, fw, dM, nm, seval] <;> rfl) | rfl








theorem room16 {n : Nat} (h : n ≤ 1000) : roomOk 16 n = true := by simp [roomOk]; omega
def endS (b : GBk) (pl : List Int) (i : Nat) : GSpan := ⟨EE b pl 0 i, EE b pl 1 i⟩
def endsL (b : GBk) (pl : List Int) : List GSpan := (List.range b.Strokes.length).map (endS b pl)
theorem rV {x : Int} (h : 0 ≤ x) : mxL [x] = x := by show max 0 x = x; omega
theorem rW {b : GBk} (hb : BOk b) {pl : List Int} (hp : pl.length = b.Strokes.length) : ∀ (p : List GBs) (i : Nat) (acc : List GSpan) (l : List (GBe × Int)), i + p.length = b.Strokes.length → acc.length = i → InvE b pl l →
  ∃ l', jC b pl p i acc l = some (.go (acc ++ (List.range' i p.length).map (endS b pl), l'))
 | [], i, acc, l, _, _, _ => ⟨l, by simp [jC]⟩
 | s :: p, i, acc, l, hi, ha, hl => by
  have hns := hb.ns
  simp only [List.length_cons] at hi
  obtain ⟨l1, e1, ep⟩ := rL hb.h hp hl (p := [(i : Int)]) (fun k hk => by rw [List.mem_singleton.1 hk]; omega) (by simp)
  obtain ⟨l2, e2⟩ := rW hb hp p (i + 1) (acc ++ [endS b pl i]) l1 (by omega) (by simp [ha]) ep
  refine ⟨l2, ?_⟩
  simp only [jC, e1, Option.bind_some]
  have h0 := EE_b hb.h pl 0 (s := i) (by omega)
  have h1 := EE_b hb.h pl 1 (s := i) (by omega)
  simp only [List.map_cons, List.map_nil, Int.toNat_natCast]
  rw [rV h0.1, rV h1.1, room16 (by simp; omega), cond_true]
  have : ((i : Int) + 1) = ((i + 1 : Nat) : Int) := by omega
  rw [this]
  show jC b pl p ((i + 1 : Nat) : Int) (acc ++ [endS b pl i]) l1 = _
  rw [e2]
  simp [List.range'_succ]
theorem zx {b : GBk} (h : Len b) (pl : List Int) : rN b pl = some (if benchB b && planB b pl then (endsL b pl, 0) else ([], 2)) := by
 unfold rN
 rw [zy h, Ih h]
 cases hB : benchB b with
 | false => rfl
 | true =>
  cases hP : planB b pl with
  | false => rfl
  | true =>
   have hb := z1.1 hB
   obtain ⟨l', e⟩ := rW hb (z2.1 hP).len b.Strokes 0 [] [] (by simp) rfl InvE.nil
   simp only [Option.bind_some, cond_true, Bool.and_self, if_true]
   rw [fg h.st, cond_true]
   have e' : jC b pl b.Strokes 0 [] [] = _ := e
   rw [e']
   simp [lbind, endsL, List.range_eq_range']
theorem Ii (b : GBk) (pl : List Int) : (endsL b pl).length = b.Strokes.length := by simp [endsL]
theorem z3 {b : GBk} (h : Len b) (pl : List Int) (bd : Int) : rU b pl bd = some (if benchB b && (planB b pl && inB 0 ((b.Boards.length : Int) - 1) bd) then (DN b pl bd, 0) else (⟨0, 0⟩, 2)) := by
 unfold rU
 rw [zy h, Ih h, LZ h]
 cases hB : benchB b with
 | false => rfl
 | true =>
  cases hP : planB b pl with
  | false => rfl
  | true =>
   cases hI : inB 0 ((b.Boards.length : Int) - 1) bd with
   | false => rfl
   | true =>
    obtain ⟨l', e, _⟩ := zm (z1.1 hB).h (z2.1 hP).len bd (InvE.nil (b := b) (pl := pl))
    simp only [Option.bind_some, cond_true, e, Bool.and_self, if_true]
end Go.V
end
section
namespace Go.V
open Go Go.Proofs
def mkOk (b : Nat) (n : Int) : Bool := decide (0 ≤ n) && roomOk b n.toNat
theorem z4 {b : Nat} {n : Int} : mkOk b n = true ↔ 0 ≤ n ∧ n.toNat * b ≤ 140737488355328 := by
 unfold mkOk roomOk
 rw [Bool.and_eq_true, decide_eq_true_eq, decide_eq_true_eq]
theorem Ma {v : Value} (n : Nat) : vzeros #[v] n = List.replicate n (ofVal1 v) := by
 unfold vzeros
 rw [List.eq_replicate_iff]
 refine ⟨by simp, fun x hx => ?_⟩
 obtain ⟨i, _, rfl⟩ := List.mem_map.1 hx
 have : i % (#[v] : Array Value).size = 0 := by simp [Nat.mod_one]
 rw [this]
 rfl
theorem Ij {α : Type} {enc : α → List VV} {z : α} {x : VV} (h : enc z = [x]) : ∀ n : Nat, aa enc (List.replicate n z) = List.replicate n x
 | 0 => rfl
 | n + 1 => by rw [List.replicate_succ, List.replicate_succ, dp, h, Ij h n]; rfl
section
variable {P : Program} {G : Glob} {γ : Nat} {tm : Nat → VV} {H : Nat → Option VObj} {α : Type} {enc : α → List VV} {z : α} {t e b : Nat} {n : Int} {v : Value} {x y : Operand} {d : Option Tmp} {ty : TypeId} {pos : String} {af : Array Edge} {g : Option (Nat × Bool)} {k : VV → VEff → Prop}
theorem k_mkS (ha : appOk P t = some (e, 1, b)) (hz : vzero P e = some #[v]) (hzv : enc z = [ofVal1 v]) (hx : ev G tm x = .lit (.int .i64 n)) (hy : ev G tm y = .lit (.int .i64 n)) (hg : mkOk b n = true)
  (h : k (.ref γ 0 (List.replicate n.toNat z).length 1 (List.replicate n.toNat z).length) (.new (.cells (some e) (aa enc (List.replicate n.toNat z))))) : oeK (vop P ⟨d, .makeSlice t x y, ty, pos, af, g⟩ (ev G tm) H γ) k := by
 obtain ⟨hu, inf, zz, hi, hzz, hs, hb, hC, rF, hzs⟩ := yP ha
 obtain ⟨h0, h1⟩ := z4.1 hg
 have hzc : zz.cells = #[v] := by
  unfold vzero at hz
  rw [hi] at hz
  simp only [Option.bind_some, hzz, Option.map_some, Option.some.injEq] at hz
  exact hz
 have hk : vmakeSlice P t (.lit (.int .i64 n)) (.lit (.int .i64 n)) = some (List.replicate n.toNat (ofVal1 v), n.toNat, 1) := by
  have h2 : (inf.bytes : Int) * n ≤ 140737488355328 := by
   rw [hb]
   have h3 : ((n.toNat * b : Nat) : Int) ≤ ((140737488355328 : Nat) : Int) := Int.ofNat_le.2 h1
   rw [Int.natCast_mul, Int.toNat_of_nonneg h0, Int.mul_comm] at h3
   exact h3
  have hb0' : 0 < inf.bytes := by rw [hb]; exact rF
  unfold vmakeSlice
  rw [hu]
  simp only [hi, hzz]
  rw [hs, hzc, if_pos ⟨h0, Int.le_refl _, Nat.zero_lt_one, hb0', h2, rfl⟩, Nat.mul_one, Ma]
 have he : elemT P t = some e := by simp [elemT, hu]
 rw [Ij hzv, List.length_replicate] at h
 simp only [vop, hx, hy, hk, Option.map_some, he]
 exact h
end
end Go.V
end
section
namespace Go.V
open Go Go.Proofs
def Ghost (st st' : St) : Prop := (∀ β o', st'.H β = some o' → ∃ o, st.H β = some o ∧ FrozenO st.H st'.H o o') ∧ (∀ β, isDef st.H β → isDef st'.H β) ∧
 (∀ t, Frozen st.H st'.H (st.tm t) (st'.tm t)) ∧ st'.nx = st.nx ∧ st'.df = st.df
theorem Ghost.rep {G : Glob} {c : Ctx} {W : World} {st st' : St} {a : Act} (g : Ghost st st') (s : Sim c W) (hr : StRep G c W st a) :
  Ext c W (c.frz st'.H) W ∧ Sim (c.frz st'.H) W ∧ StRep G (c.frz st'.H) W st' a := by
 obtain ⟨ho, hdd, htm, hnx, hdf⟩ := g
 have ho' : ∀ β o', st'.H β = some o' → ∃ o, c.H β = some o ∧ FrozenO c.H st'.H o o' := by rw [hr.H]; exact ho
 have hl : ∀ β, (st'.H β).isSome = true → c.live β := by
  intro β h
  obtain ⟨o', h'⟩ := Option.isSome_iff_exists.1 h
  obtain ⟨o, h1, _⟩ := ho' β o' h'
  simp [Ctx.live, h1]
 have he : Ext c W (c.frz st'.H) W := uY hl
 have ab : Abides c W (c.frz st'.H) W := pV hl
 have hloop : ∀ x s pe tm ps asg bo df, st'.H x = some (.loop s pe tm ps asg bo df) → isDef st'.H df := by
  intro x s1 pe tm ps asg bo df hx
  obtain ⟨o, h1, hf⟩ := ho x _ hx
  rcases hf with rfl | ⟨el, cs, cs', rfl, e, _⟩
  ·obtain ⟨l, fn, _, _, _, hd⟩ := s.obj x _ (show c.H x = _ by rw [hr.H]; exact h1)
   exact hdd df (by rw [← hr.H]; exact hd)
  ·cases e
 refine ⟨he, s.frz ho' hloop, rfl, fun t => xV s hl (by rw [hr.H]; exact htm t) (hr.tm t), ?_, ?_, hr.G.abides ab⟩
 ·rw [hnx]; exact hr.nx
 ·rw [hdf]; exact hr.df.abides ab
theorem VWp.ghost {P : Program} {G : Glob} {n : Nat} {code : Code} {Q : VExit → St → Prop} {st : St} (h : VWp P G n code (fun e s => ∃ s', Ghost s s' ∧ Q e s') st) : VWp P G n code Q st := by
 intro ro c W a hro s hr hsz
 refine wpIn_mono (h ro c W a hro s hr hsz) ?_
 rintro e a' W' ⟨ve, c', st', he, hext, hs', hr', hsz', hu, hle, s2, g, hq⟩
 obtain ⟨e2, h2, r2⟩ := g.rep hs' hr'
 refine ⟨ve, c'.frz s2.H, s2, ?_, hext.trans e2, h2, r2, hsz', fun β hb => hu β hb, by rw [g.2.2.2.1]; exact hle, hq⟩
 cases ve with
 | panic x =>
  obtain ⟨v, e1, hv⟩ := he
  exact ⟨v, e1, Rep.abides (e2.abides hs') _ hv⟩
 | normal => exact he
 | exit id => exact he
 | goto l => exact he
 | ret => exact he
theorem Ghost.refl (st : St) : Ghost st st := ⟨fun β o' h => ⟨o', h, .inl rfl⟩, fun _ h => h, fun _ => .inl rfl, rfl, rfl⟩
section
variable {P : Program} {H : Nat → Option VObj} {γ : Nat} {k : VV → VEff → Prop} {t t2 e e2 β δ cx : Nat} {b : Nat} {el gq : Option TypeId} {cs : List VV} {y : VV}
end
section
variable {P : Program} {H : Nat → Option VObj} {γ : Nat} {k : VV → VEff → Prop} {t t2 e e2 β δ cx : Nat} {b : Nat} {el gq : Option TypeId} {y : VV} {α : Type} {enc : α → List VV} {xs : List α} {a : α}
end
end Go.V
end
section
namespace Go.V
open Go Go.Proofs
def Look (st st' : St) : Prop := st'.nx = st.nx ∧ ∀ (G : Glob) (c : Ctx) (W : World) (a : Act), Sim c W → StRep G c W st a → ∃ c', Ext c W c' W ∧ Sim c' W ∧ StRep G c' W st' a ∧ ∀ β, c'.used β → c.used β
theorem Look.trans {a b c : St} (h1 : Look a b) (h2 : Look b c) : Look a c := by
  refine ⟨h2.1.trans h1.1, fun G x W y s hr => ?_⟩
  obtain ⟨c1, e1, s1, r1, u1⟩ := h1.2 G x W y s hr
  obtain ⟨c2, e2, s2, r2, u2⟩ := h2.2 G c1 W y s1 r1
  exact ⟨c2, e1.trans e2, s2, r2, fun β hb => u1 β (u2 β hb)⟩
theorem Look.ghost {st st' : St} (g : Ghost st st') : Look st st' := by
  refine ⟨g.2.2.2.1, fun G c W a s hr => ?_⟩
  obtain ⟨e2, h2, r2⟩ := g.rep s hr
  exact ⟨c.frz st'.H, e2, h2, r2, fun β hb => hb⟩
theorem rX {c : Ctx} {W : World} {x y : VV} {Z : List VV} (h : ∀ v, Rep c W x v → Rep c W y v) : ∀ (A : List VV) (l : List Value), RepL c W (A ++ x :: Z) l → RepL c W (A ++ y :: Z) l
  | [], _, ⟨u, us, e, h1, h2⟩ => ⟨u, us, e, h _ h1, h2⟩
  | _ :: A, _, ⟨u, us, e, h1, h2⟩ => ⟨u, us, e, h1, rX h A us h2⟩
theorem Look.nil {tm : Nat → VV} {H : Nat → Option VObj} {nx : Nat} {df : List VDef} {β : Nat} {el : Option TypeId} {A Z : List VV} (hβ : H β = some (.cells el (A ++ .lit (.slice none 0 0) :: Z))) :
    Look ⟨tm, H, nx, df⟩ ⟨tm, updH H β (.cells el (A ++ .sl [] 0 false :: Z)), nx, df⟩ := by
  refine ⟨rfl, fun G c W a s hr => ?_⟩
  have hc : c.H β = some (.cells el (A ++ .lit (.slice none 0 0) :: Z)) := by rw [hr.H]; exact hβ
  have hl : c.live β := by simp [Ctx.live, hc]
  have he : Ext c W (c.upd β (.cells el (A ++ .sl [] 0 false :: Z))) W := Ext.upd hl (But.self W _)
  have ab := he.abides s
  have hs : Sim (c.upd β (.cells el (A ++ .sl [] 0 false :: Z))) W := by
    refine Sim.upd s hl (But.self W _) (fun ⟨ds, hd⟩ => by rw [hc] at hd; cases hd) ?_
    obtain ⟨arr, e, a1, a2, a3, a4, a5⟩ := s.obj β _ hc
    refine ⟨arr, e, a1, a2, by simpa using a3, ?_, a5⟩
    have hlen : (A ++ VV.lit (.slice none 0 0) :: Z).length = (A ++ VV.sl [] 0 false :: Z).length := by simp
    rw [hlen] at a4
    refine rX (x := .lit (.slice none 0 0)) (fun v hv => ?_) A _ (RepL.abides ab _ a4)
    have e : v = .slice none 0 0 := hv
    subst e
    exact ⟨none, 0, rfl, Nat.le_refl _, fun h => (by cases h), .inl rfl⟩
  refine ⟨_, he, hs, ⟨?_, fun t => Rep.abides ab _ (hr.tm t), hr.nx, hr.df.abides ab, hr.G.abides ab⟩, fun β hb => hb⟩
  show updH c.H β _ = _
  rw [hr.H]
theorem FrozenL.mid {H H' : Nat → Option VObj} {x y : VV} (h : Frozen H H' x y) (Z : List VV) : ∀ (cs : List VV), FrozenL H H' (cs ++ x :: Z) (cs ++ y :: Z)
  | [] => ⟨h, FrozenL.refl Z⟩
  | c :: cs => ⟨.inl rfl, FrozenL.mid h Z cs⟩
where
  FrozenL.refl : ∀ Z : List VV, FrozenL H H' Z Z
    | [] => trivial
    | _ :: Z => ⟨.inl rfl, FrozenL.refl Z⟩
theorem Ghost.mid {tm : Nat → VV} {H : Nat → Option VObj} {nx : Nat} {df : List VDef} {γ ε n w cp : Nat} {e1 e2 : Option TypeId} {cs ys Z : List VV} (hγ : H γ = some (.cells e1 ys)) (hε : H ε = some (.cells e2 (cs ++ .ref γ 0 n w cp :: Z))) (hne : ε ≠ γ) (ht : treeL ys = true) (hl : ys.length = n * w) :
    Ghost ⟨tm, H, nx, df⟩ ⟨tm, updH (without H γ) ε (.cells e2 (cs ++ .sl ys n false :: Z)), nx, df⟩ := by
  have hg : gone H (updH (without H γ) ε (.cells e2 (cs ++ .sl ys n false :: Z))) γ = some (.cells e1 ys) := by
    unfold gone
    rw [aV, if_neg (Ne.symm hne)]
    simp [without, hγ]
  have hfz : Frozen H (updH (without H γ) ε (.cells e2 (cs ++ .sl ys n false :: Z))) (.ref γ 0 n w cp) (.sl ys n false) := by
    refine .inr (.inr ⟨ys.length + 2, ?_⟩)
    unfold sealV
    have : (VV.ref γ 0 n w cp).tree = false := rfl
    rw [this]
    simp only [Bool.false_eq_true, if_false, hg, Nat.zero_le, if_true, List.drop_zero]
    rw [List.take_of_length_le (by omega), pW ys _ ht (by omega)]
    rfl
  refine ⟨?_, ?_, fun _ => .inl rfl, rfl, rfl⟩
  · intro β o' h
    simp only [aV] at h
    by_cases hb : β = ε
    · subst hb
      rw [if_pos rfl] at h
      cases h
      exact ⟨_, hε, .inr ⟨e2, _, _, rfl, rfl, FrozenL.mid hfz Z cs⟩⟩
    · rw [if_neg hb] at h
      simp only [aX] at h
      split at h
      · cases h
      · exact ⟨o', h, .inl rfl⟩
  · rintro β ⟨ds, h⟩
    refine ⟨ds, ?_⟩
    have h : H β = some (.deferred ds) := h
    show updH (without H γ) ε _ β = _
    have b1 : β ≠ ε := by rintro rfl; rw [hε] at h; cases h
    have b2 : β ≠ γ := by rintro rfl; rw [hγ] at h; cases h
    rw [aV, if_neg b1, aX, if_neg b2]
    exact h
theorem loopKL {P : Program} {G : Glob} (hm : P.follows .mixedOrders = true) {n : Nat} {x : Code} {Q : VExit → St → Prop} {st : St} (ho : codeOk n x = true) (I : Nat → St → Prop) (m : Nat) (h0 : I m st)
    (round : ∀ m st, I m st → CWp P G n x (VExit.then (fun st' => ∃ m', m' < m ∧ ∃ s2, Look st' s2 ∧ I m' s2) Q) st) : CWp P G n (.loop x) Q st := by
  refine VWp.loop I h0 fun m st hI => ?_
  have h1 := kA hm x _ st ho (round m st hI)
  intro ro c W a hro s hr hsz
  refine wpIn_mono (h1 ro c W a hro s hr hsz) ?_
  rintro e a' W' ⟨ve, c', st', he, hext, hs', hr', hsz', hu, hle, hq⟩
  cases ve with
  | normal =>
    obtain ⟨m', hlt, s2, g, Mb⟩ := hq
    obtain ⟨c2, e2, h2, r2, u2⟩ := g.2 G c' W' a' hs' hr'
    exact ⟨.normal, c2, s2, he, hext.trans e2, h2, r2, hsz', fun β hb => hu β (u2 β hb), by rw [g.1]; exact hle, m', hlt, Mb⟩
  | exit id => exact ⟨_, c', st', he, hext, hs', hr', hsz', hu, hle, hq⟩
  | goto l => exact ⟨_, c', st', he, hext, hs', hr', hsz', hu, hle, hq⟩
  | ret => exact ⟨_, c', st', he, hext, hs', hr', hsz', hu, hle, hq⟩
  | panic x => exact ⟨_, c', st', he, hext, hs', hr', hsz', hu, hle, hq⟩
def qc (bm : Int) : List Int → Int → Option (LOut (Bool) (Unit))
 | [], bM => some (.go ())
 | e0 :: p0, bM => cond (e0 == bm) (some (.ret true)) (qc bm p0 (bM + 1))
def rY (cm : List Int) (bm : Int) : Option (Bool) := cond (aC cm) (lbind (qc bm cm 0) (fun r2 => some r2) (fun c1 => some false) (fun _ _ => none)) none
theorem Mc (cm : List Int) (bm : Int) (R : Bool) (h : rY cm bm = some R) : ah Tryz.prog G0 35 [.sl (aa eI cm) (List.length cm) false, .lit (.int .i64 bm)] (.tree (.lit (.bool R))) := by
 refine ah.runR mixed Tryz.call35 Tryz.func35 rfl (by simp [Tryz.ntmps35]; kernel_rfl) ?_
 obtain ⟨KF, h, kF, kN⟩ := cA h
 simp only [rY] at h
 cases g4 : (aC cm)
 ·simp only [g4, hs] at h
  exact absurd h kN
 simp only [g4, hs] at h
 simp only [vz, tyf, g4, nm, seval]
 obtain ⟨K3, h, rZ, lx, z5, nJ⟩ := eN h kN
 obtain ⟨f3, nK, h⟩ := call2 h
 obtain ⟨I3, gx⟩ : ∃ I : Nat → St → Prop, I = (fun m st => ∃ (p3 : List Int) (bB : Int), m = List.length p3 ∧ 0 ≤ bB ∧ List.drop (Int.toNat bB) cm = p3 ∧ st.df = [] ∧ 2 ≤ st.nx ∧ st.tm 0 = .sl (aa eI cm) (List.length cm) false ∧ st.tm 1 = .lit (.int .i64 bm) ∧ st.tm 5 = .lit (.int .i64 bB) ∧ K3 (f3 p3 bB)) := ⟨_, rfl⟩
 refine loopK mixed (by kernel_rfl) I3 (List.length cm) (by rw [gx]; refine ⟨cm, 0, rfl, Int.le_refl _, rfl, rfl, (show 2 ≤ 2 by omega), ?_, ?_, ?_, h⟩ <;> first | (simp only [ua, nm, seval] <;> rfl) | rfl) ?_
 rintro m ⟨tm, H, fm, df⟩ hinv
 rw [gx] at hinv
 obtain ⟨p3, bB, rfl, cH, dt, hdf, nL, e5, e6, e7, h⟩ := hinv
 simp only at hdf nL e5 e6 e7
 have n8 := fj (m := 2) (b := fm) (by omega)
 subst hdf nK
 cases p3 with
 | nil =>
  have d9 : (decide (bB < (List.length cm : Int))) = false := eg cH dt
  simp only [qc, hs, reduceCtorEq] at h
  replace h := lx _ h
  try dsimp only at h
  try simp only [hs] at h
  try simp only [vz, tyf, g4, n8, e5, e6, e7, d9, nm, seval]
  obtain rfl := kF _ h
  exact bc Tryz.results35 rfl
 | cons e3 p3 =>
  have iW : (decide (bB < (List.length cm : Int))) = true := eh cH dt
  have vf := cX cH dt
  have z6 := dO cH dt g4
  simp only [qc, hs, reduceCtorEq] at h
  cases gg : (e3 == bm)
  ·simp only [gg, hs] at h
   simp only [vz, tyf, g4, n8, e5, e6, e7, iW, (aB vf), z6, gg, nm, seval]
   exact ⟨List.length p3, Nat.lt_succ_self _, by rw [gx]; refine ⟨p3, bB + 1, rfl, Int.le_trans cH (Int.le_add_one (Int.le_refl _)), bV cH dt, rfl, (show 2 ≤ fm + 13 by omega), e5, e6, ?_, (by first | exact h | (simp only [iW, gg]; exact h))⟩ <;> first | (simp only [ua, n8, e5, e6, e7, iW, z6, gg, nm, seval] <;> rfl) | rfl⟩
  simp only [gg, hs] at h
  try simp only [vz, tyf, g4, n8, e5, e6, e7, iW, (aB vf), z6, gg, nm, seval]
  replace h := rZ _ h
  try dsimp only at h
  obtain rfl := kF _ h
  exact bc Tryz.results35 rfl
def qd (ai : GBk) (ae : List Int) (bG : Int) (bX : Int) : Option (Bool) := cond (decide (bG < bX)) (Option.bind (getI ae bG) (fun x1 => Option.bind (getI ae bX) (fun x2 => cond (x1 == x2) (some true) (Option.bind (getI ai.Strokes bX) (fun x3 => Option.bind (rY x3.Needs bG) (fun r4 => some r4)))))) (some false)
theorem Md (ai : GBk) (ae : List Int) (bG : Int) (bX : Int) (R : Bool) (h : qd ai ae bG bX = some R) : ah Tryz.prog G0 84 [.agg (cGBk ai), .sl (aa eI ae) (List.length ae) false, .lit (.int .i64 bG), .lit (.int .i64 bX)] (.tree (.lit (.bool R))) := by
 refine ah.runR mixed Tryz.call84 Tryz.func84 rfl (by simp [Tryz.ntmps84]; kernel_rfl) ?_
 obtain ⟨KF, h, kF, kN⟩ := cA h
 simp only [qd] at h
 simp only [vz, tyf, nm, seval]
 refine lp (fun tm => tm 1 = .sl (aa eI ae) (List.length ae) false ∧ tm 2 = .lit (.int .i64 bG) ∧ tm 3 = .lit (.int .i64 bX) ∧ tm 4 = .ptr 0 0 ∧ True) (by refine ⟨?_, ?_, ?_, ?_, trivial⟩ <;> first | (simp only [ua, nm, seval] <;> rfl) | rfl) ?_
 rintro tm ⟨e5, e6, e7, e8, _⟩
 cases d9 : (decide (bG < bX))
 ·simp only [d9, hs] at h
  try simp only [vz, tyf, e5, e6, e7, e8, d9, nm, seval]
  obtain rfl := kF _ h
  exact bc Tryz.results84 rfl
 simp only [d9, hs] at h
 obtain ⟨Me, nM, h⟩ := optI h kN
 try simp only [hs] at h
 obtain ⟨Mf, jw, h⟩ := optI h kN
 try simp only [hs] at h
 cases bH : (Me == Mf)
 ·simp only [bH, hs] at h
  obtain ⟨wI, fM, h⟩ := optI h kN
  try simp only [hs] at h
  obtain ⟨dh, nn, h⟩ := optI h kN
  try simp only [hs] at h
  simp only [vz, tyf, e5, e6, e7, e8, d9, (aB nM), (aB jw), bH, (aH fM), nm, seval]
  refine dktA (Mc _ _ _ nn) ?_
  refine bJ (fun tm => tm 12 = .lit (.bool true) ∧ tm 22 = .lit (.bool false) ∧ tm 30 = .lit (.bool dh) ∧ True) (by refine ⟨?_, ?_, ?_, trivial⟩ <;> first | (simp only [ua, e5, e6, e7, e8, d9, bH, nm, seval] <;> rfl) | rfl) ?_
  rintro tm ⟨bQ, dr, eA, _⟩
  try simp only [vz, tyf, d9, (aB nM), (aB jw), bH, (aH fM), bQ, dr, eA, nm, seval]
  obtain rfl := kF _ h
  exact bc Tryz.results84 rfl
 simp only [bH, hs] at h
 try simp only [vz, tyf, e5, e6, e7, e8, d9, (aB nM), (aB jw), bH, nm, seval]
 obtain rfl := kF _ h
 exact bc Tryz.results84 rfl
end Go.V
end
