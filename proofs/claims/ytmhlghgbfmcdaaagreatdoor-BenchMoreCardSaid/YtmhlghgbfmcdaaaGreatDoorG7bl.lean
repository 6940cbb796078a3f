/- Part of a proof. -/
import Derived.Test.YtmhlghgbfmcdaaaGreatDoorG7bk
set_option linter.all false
set_option maxRecDepth 4000
set_option maxHeartbeats 40000000
section
namespace Go.V
open Go Go.Proofs
theorem Len.of {b : GBk} (h : aM b.Boards = true ∧ aM b.Strokes = true ∧ ∀ y ∈ b.Strokes, aM y.Needs = true) : Len b := ⟨Bo h.1, Bo h.2.1, fun s hs => Bo (h.2.2 s hs)⟩
theorem tK : ∀ (p : List GBs) (c : Int), pj p c = some (.go ()) ∨ pj p c = some (.ret false)
 | [], c => .inl rfl
 | s :: p, c => by
  simp only [pj]
  cases decide (c < 9) with
  | false => exact .inl rfl
  | true =>
   cases decide ((s.Needs.length : Int) > 8) with
   | true => exact .inr rfl
   | false => exact tK p (c + 1)
theorem PW {b : GBk} (h : Len b) : ru b = some false ∨ (ru b = some true ∧ BOk b) := by
 unfold ru wL
 rw [gI h.st, cond_true, Cv h]
 rcases tK b.Strokes 0 with e | e
 ·rw [e]
  simp only [lbind]
  cases h1 : (decide ((b.Boards.length : Int) ≤ 5)) with
  | false => exact .inl rfl
  | true =>
   cases h2 : (decide ((b.Strokes.length : Int) ≤ 8)) with
   | false => exact .inl rfl
   | true =>
    cases h3 : benchB b with
    | false => exact .inl rfl
    | true => exact .inr ⟨rfl, pz.1 h3⟩
 ·rw [e]; exact .inl rfl
theorem BOk.len {b : GBk} (h : BOk b) (hl : ∀ s ∈ b.Strokes, s.Needs.length < 9223372036854775808) : Len b := ⟨by have := h.nb; omega, by have := h.ns; omega, hl⟩
structure HOk (n : Int) (s : GBs) : Prop where
 nd : ∀ k ∈ s.Needs, 0 ≤ k ∧ k < n
 ad : adjB s.Needs = true
 hr : 0 ≤ s.Hours.Low ∧ s.Hours.Low ≤ 15 ∧ 0 ≤ s.Hours.High ∧ s.Hours.High ≤ 15
structure BH (b : GBk) : Prop where
 ns : 1 ≤ b.Strokes.length ∧ b.Strokes.length ≤ 6
 s : ∀ {i : Nat} {s : GBs}, b.Strokes[i]? = some s → HOk i s
theorem BOk.h {b : GBk} (h : BOk b) : BH b := ⟨h.ns, fun hs => by have := h.s hs; have h2 := this.hr; exact ⟨this.nd, this.ad, by omega⟩⟩
def nF (b : GBk) (s : Nat) : List Int := match b.Strokes[s]? with | some x => x.Needs | none => []
def dF (b : GBk) (h : Int) (s : Nat) : Int := match b.Strokes[s]? with | some x => if h = 0 then x.Hours.Low else x.Hours.High | none => 0
def hF (pl : List Int) (s : Nat) : Int := (pl[s]?).getD 0
def EE (b : GBk) (pl : List Int) (h : Int) (s : Nat) : Int := Ed (hF pl) (nF b) (dF b h) s
def BB (b : GBk) (pl : List Int) (h : Int) (s : Nat) : Int := Bg (hF pl) (nF b) (dF b h) s
def FF (b : GBk) (pl : List Int) (h : Int) (s : Nat) : Int := frF (hF pl) (EE b pl h) (hF pl s) s
theorem BH.nd {b : GBk} (h : BH b) : NdOk (nF b) := by
 intro s k hk
 unfold nF at hk
 split at hk
 ·rename_i x hx
  have := (h.s hx).nd k hk
  omega
 ·cases hk
theorem BH.d {b : GBk} (h : BH b) (hr : Int) (s : Nat) : 0 ≤ dF b hr s ∧ dF b hr s ≤ 15 := by
 unfold dF
 split
 ·rename_i x hx
  have := (h.s hx).hr
  split <;> omega
 ·omega
theorem EE_b {b : GBk} (h : BH b) (pl : List Int) (hr : Int) {s : Nat} (hs : s < b.Strokes.length) : 0 ≤ EE b pl hr s ∧ EE b pl hr s ≤ 90 := by
 have h1 := Ed_nn (hd := hF pl) h.nd (fun k => (h.d hr k).1) s
 have h2 := Bt (hd := hF pl) h.nd (h.d hr) s
 have := h.ns
 unfold EE
 omega
theorem EE_eq {b : GBk} (h : BH b) (pl : List Int) (hr : Int) (s : Nat) : EE b pl hr s = BB b pl hr s + dF b hr s := Ed_eq h.nd s
theorem BB_b {b : GBk} (h : BH b) (pl : List Int) (hr : Int) {s : Nat} (hs : s < b.Strokes.length) : 0 ≤ BB b pl hr s ∧ BB b pl hr s ≤ 90 := by
 have h1 := EE_b h pl hr hs
 have h2 := h.d hr s
 have h3 := Bg_nn (hd := hF pl) (nd := nF b) (d := dF b hr) s
 rw [EE_eq h] at h1
 have h3 : 0 ≤ BB b pl hr s := h3
 omega
theorem Eu {b : GBk} (pl : List Int) (hr : Int) (s : Nat) : BB b pl hr s = max (max 0 (FF b pl hr s)) (mxL ((nF b s).map fun k => EE b pl hr k.toNat)) := rfl
def InvE (b : GBk) (pl : List Int) (l : List (Gbe × Int)) : Prop := ∀ p ∈ l, p.2 = EE b pl p.1.hours p.1.stroke.toNat
theorem InvE.nil {b : GBk} {pl : List Int} : InvE b pl [] := fun _ h => by cases h
theorem InvE.has {b : GBk} {pl : List Int} {l : List (Gbe × Int)} (h : InvE b pl l) {k : Gbe} (hk : mapHas cw l k = true) : mapGet cw 0 l k = EE b pl k.hours k.stroke.toNat := by
 unfold mapHas at hk
 unfold mapGet
 cases hi : kIdx cw k (l.map (·.1)) 0 with
 | none => rw [hi] at hk; cases hk
 | some i =>
  obtain ⟨_, e, he, hq⟩ := xc _ _ _ hi
  rw [Nat.sub_zero, List.getElem?_map] at he
  cases hg : l[i]? with
  | none => rw [hg] at he; cases he
  | some p =>
   rw [hg] at he
   simp only [Option.map_some, Option.some.injEq] at he
   have hpe := kJ _ _ hq
   have hv := h p (List.mem_of_getElem? hg)
   rw [he, ← hpe] at hv
   simp only [hg, hv]
theorem tL {K V : Type} {q : K → K → Bool} {k : K} {v : V} : ∀ {l : List (K × V)} {p : K × V}, p ∈ setR q k v l → p ∈ l ∨ p.2 = v ∧ (p.1 = k ∨ q k p.1 = true)
 | [], p, h => by
  simp only [setR, List.mem_singleton] at h
  exact .inr ⟨by rw [h], .inl (by rw [h])⟩
 | a :: l, p, h => by
  unfold setR at h
  split at h
  ·rename_i hq
   rcases List.mem_cons.1 h with rfl | h
   ·exact .inr ⟨rfl, .inl rfl⟩
   ·exact .inl (List.mem_cons_of_mem _ h)
  ·rcases List.mem_cons.1 h with rfl | h
   ·exact .inl (List.mem_cons_self ..)
   ·exact (tL h).imp (List.mem_cons_of_mem _) id
theorem InvE.set {b : GBk} {pl : List Int} {l : List (Gbe × Int)} (h : InvE b pl l) (s hr : Int) : InvE b pl (mapSet cw l ⟨s, hr⟩ (EE b pl hr s.toNat)) := by
 intro p hp
 rw [KB] at hp
 rcases tL hp with hp | ⟨h1, h2⟩
 ·exact h p hp
 ·have e : p.1 = ⟨s, hr⟩ := by
   rcases h2 with h2 | h2
   ·exact h2
   ·exact (kJ _ _ h2).symm
  rw [h1, e]
abbrev RC := GBk → List Int → Int → Int → List (Gbe × Int) → Option (Int × List (Gbe × Int))
def RcOk (rc : RC) (b : GBk) (pl : List Int) (h : Int) (n : Nat) : Prop := ∀ (k : Int) l, 0 ≤ k → k.toNat < n → InvE b pl l → ∃ l', rc b pl k h l = some (EE b pl h k.toNat, l') ∧ InvE b pl l'
theorem room8 {n : Nat} (h : n ≤ 1000) : roomOk 8 n = true := by simp [roomOk]; omega
theorem KS : ∀ (p : List Int) (i c : Int), qJ p i c = some (.go (p.foldl max c))
 | [], _, _ => rfl
 | e :: p, i, c => by
  simp only [qJ, KS p, List.foldl_cons]
  have : (if c < e then e else c) = max c e := by split <;> omega
  rw [this]
theorem tM {l : List Int} (h : l.length < 9223372036854775808) : mg l = some (mxL l) := by
 unfold mg
 rw [gI h, cond_true, KS]
 rfl
theorem getP {pl : List Int} {n : Nat} {s : Int} (hl : pl.length = n) (h0 : 0 ≤ s) (h1 : s.toNat < n) : getI pl s = some (hF pl s.toNat) := by
 unfold getI hF
 rw [if_pos h0, List.getElem?_eq_getElem (by omega)]
 rfl
theorem tN {rc : RC} {b : GBk} {pl : List Int} {h : Int} {s : Int} {N : Nat} (hp : pl.length = N) (fB : 0 ≤ s) (hs : s.toNat < N) (hN : N ≤ 6) (hrc : RcOk rc b pl h s.toNat) {l : List (Gbe × Int)} (hl : InvE b pl l) :
  ∀ (k0 k : Nat), k < k0 → k ≤ s.toNat → ∃ l', lbind (oB rc b pl s h l k0 ((k : Int) - 1)) (fun r => some r) (fun _ => some (0, l)) (fun _ _ => none) = some (frF (hF pl) (EE b pl h) (hF pl s.toNat) k, l') ∧ InvE b pl l'
 | 0, _, hk, _ => absurd hk (Nat.not_lt_zero _)
 | k0 + 1, 0, _, _ => by
  simp only [oB]
  rw [decide_eq_false (by omega), cond_false]
  exact ⟨l, rfl, hl⟩
 | k0 + 1, k + 1, hk, hks => by
  simp only [oB]
  rw [decide_eq_true (by omega), cond_true, getP hp (by omega) (by omega), getP hp fB hs]
  have e : (((k + 1 : Nat) : Int) - 1).toNat = k := by omega
  simp only [Option.bind_some, e]
  unfold frF
  by_cases hh : hF pl k = hF pl s.toNat
  ·obtain ⟨l', e1, hl'⟩ := hrc (((k + 1 : Nat) : Int) - 1) l (by omega) (by omega) hl
   rw [show (hF pl k == hF pl s.toNat) = true by simpa using hh, cond_true, e1, if_pos hh, e]
   exact ⟨l', rfl, hl'⟩
  ·rw [show (hF pl k == hF pl s.toNat) = false by simpa using hh, cond_false, if_neg hh, hS (by omega) (by omega), show ((k + 1 : Nat) : Int) - 1 - 1 = (k : Int) - 1 by omega]
   exact tN hp fB hs hN hrc hl k0 k (by omega) (by omega)
theorem Ev {rc : RC} {b : GBk} {pl : List Int} {h : Int} {s : Int} {N : Nat} (hp : pl.length = N) (fB : 0 ≤ s) (hs : s.toNat < N) (hN : N ≤ 6) (hrc : RcOk rc b pl h s.toNat) {l : List (Gbe × Int)} (hl : InvE b pl l) :
  ∃ l', sB rc b pl s h l = some (FF b pl h s.toNat, l') ∧ InvE b pl l' := by
 unfold sB FF
 have := tN hp fB hs hN hrc hl 1000000 s.toNat (by omega) (Nat.le_refl _)
 rw [hS (by omega) (by omega)]
 rw [show ((s.toNat : Nat) : Int) - 1 = s - 1 by omega] at this
 exact this
theorem KT {rc : RC} {b : GBk} {pl : List Int} {h : Int} {n : Nat} (hrc : RcOk rc b pl h n) : ∀ (p : List Int) (i : Int) (acc : List Int) (l : List (Gbe × Int)), (∀ k ∈ p, 0 ≤ k ∧ k.toNat < n) → acc.length + p.length ≤ 1000 → InvE b pl l →
  ∃ l', mh rc b pl h p i acc l = some (.go (acc ++ p.map (fun k => EE b pl h k.toNat), l')) ∧ InvE b pl l'
 | [], i, acc, l, _, _, hl => ⟨l, by simp [mh], hl⟩
 | k :: p, i, acc, l, hk, hn, hl => by
  have h1 := hk k (List.mem_cons_self ..)
  obtain ⟨l1, e1, cI⟩ := hrc k l h1.1 h1.2 hl
  simp only [mh, e1, Option.bind_some]
  rw [room8 (by simp at hn ⊢; omega), cond_true]
  obtain ⟨l2, e2, dA⟩ := KT hrc p (i + 1) (acc ++ [EE b pl h k.toNat]) l1 (fun k hk' => hk k (List.mem_cons_of_mem _ hk')) (by simp at hn ⊢; omega) cI
  exact ⟨l2, by rw [e2]; simp, dA⟩
theorem KU {rc : RC} {b : GBk} {pl : List Int} {h : Int} {n : Nat} (hrc : RcOk rc b pl h n) {p : List Int} (hk : ∀ k ∈ p, 0 ≤ k ∧ k.toNat < n) (hn : p.length ≤ 1000) {l : List (Gbe × Int)} (hl : InvE b pl l) :
  ∃ l', qL rc b pl p h l = some (p.map (fun k => EE b pl h k.toNat), l') ∧ InvE b pl l' := by
 obtain ⟨l', e, hl'⟩ := KT hrc p 0 [] l hk (by simpa using hn) hl
 unfold qL
 rw [gI (by omega), cond_true, e]
 exact ⟨l', rfl, hl'⟩
theorem tO : ∀ (l : List Int) (a : Int), adjB (a :: l) = true → ∀ m : Int, (∀ k ∈ a :: l, k < m) → (l.length : Int) < m - a
 | [], a, _, m, h => by have := h a (by simp); simp; omega
 | e :: l, a, h, m, hm => by
  have h' : (decide (a < e) && adjB (e :: l)) = true := h
  simp only [Bool.and_eq_true, decide_eq_true_eq] at h'
  have := tO l e h'.2 m (fun k hk => hm k (List.mem_cons_of_mem _ hk))
  simp only [List.length_cons]
  omega
theorem HOk.few {n : Int} {s : GBs} (h : HOk n s) (hn : n ≤ 6) : s.Needs.length ≤ 6 := by
 cases e : s.Needs with
 | nil => simp
 | cons a l =>
  have h1 := h.ad
  rw [e] at h1
  have := tO l a h1 n (fun k hk => (h.nd k (by rw [e]; exact hk)).2)
  have h2 := h.nd a (by rw [e]; simp)
  simp only [List.length_cons]
  omega
theorem getS {b : GBk} {s : Int} (h0 : 0 ≤ s) (h1 : s.toNat < b.Strokes.length) : ∃ x, getI b.Strokes s = some x ∧ b.Strokes[s.toNat]? = some x := by
 refine ⟨b.Strokes[s.toNat], ?_, List.getElem?_eq_getElem h1⟩
 unfold getI
 rw [if_pos h0, List.getElem?_eq_getElem h1]
theorem Ew {rc : RC} {b : GBk} (hb : BH b) {pl : List Int} (hp : pl.length = b.Strokes.length) {h : Int} {s : Int} (fB : 0 ≤ s) (hs : s.toNat < b.Strokes.length) (hrc : RcOk rc b pl h s.toNat) {l : List (Gbe × Int)} (hl : InvE b pl l) :
  ∃ l', sG rc b pl s h l = some (BB b pl h s.toNat, l') ∧ InvE b pl l' := by
 have hns := hb.ns
 obtain ⟨x, e1, e2⟩ := getS fB hs
 have hx := hb.s e2
 have hfew := hx.few (by omega)
 obtain ⟨l1, f1, cI⟩ := Ev hp fB hs (by omega) hrc hl
 obtain ⟨l2, f2, dA⟩ := KU hrc (p := x.Needs) (fun k hk => by have := hx.nd k hk; omega) (by omega) cI
 unfold sG
 simp only [f1, e1, f2, Option.bind_some]
 rw [tM (by simp; omega)]
 simp only [Option.bind_some]
 rw [tM (by simp)]
 refine ⟨l2, ?_, dA⟩
 simp only [Option.bind_some, Eu, nF, e2]
 rfl
theorem Ex {b : GBk} {pl : List Int} {s : Int} (h0 : 0 ≤ s) (h1 : s.toNat < b.Strokes.length) : sJ b pl s = some (dF b 0 s.toNat) := by
 obtain ⟨x, e1, e2⟩ := getS h0 h1
 simp [sJ, e1, dF, e2]
theorem PX {b : GBk} {pl : List Int} {s : Int} (h0 : 0 ≤ s) (h1 : s.toNat < b.Strokes.length) : sK b pl s = some (dF b 1 s.toNat) := by
 obtain ⟨x, e1, e2⟩ := getS h0 h1
 simp [sK, e1, dF, e2]
theorem Ey {rc : RC} {b : GBk} (hb : BH b) {pl : List Int} (hp : pl.length = b.Strokes.length) {h : Int} (hh : h = 0 ∨ h = 1) {s : Int} (fB : 0 ≤ s) (hs : s.toNat < b.Strokes.length) (hrc : RcOk rc b pl h s.toNat) {l : List (Gbe × Int)} (hl : InvE b pl l) :
  ∃ l', sL rc b pl s h l = some (EE b pl h s.toNat, l') ∧ InvE b pl l' := by
 unfold sL
 cases hm : mapHas cw l ⟨s, h⟩ with
 | true =>
  rw [cond_true, hl.has hm]
  exact ⟨l, rfl, hl⟩
 | false =>
  obtain ⟨l1, e1, cI⟩ := Ew hb hp fB hs hrc hl
  have h1 := BB_b hb pl h hs
  have h2 := hb.d h s.toNat
  rw [cond_false, e1, Option.bind_some]
  rcases hh with rfl | rfl
  ·rw [Ex fB hs]
   simp only [Option.bind_some, beq_self_eq_true, cond_true]
   rw [hS (by omega) (by omega), ← EE_eq hb]
   exact ⟨_, rfl, cI.set s 0⟩
  ·rw [PX fB hs]
   simp only [Option.bind_some, beq_self_eq_true, cond_true, show ((1 : Int) == 0) = false from rfl, cond_false]
   rw [hS (by omega) (by omega), ← EE_eq hb]
   exact ⟨_, rfl, cI.set s 1⟩
theorem pE {b : GBk} (hb : BH b) {pl : List Int} (hp : pl.length = b.Strokes.length) {h : Int} (hh : h = 0 ∨ h = 1) : ∀ (f n : Nat), n ≤ f → n ≤ b.Strokes.length → RcOk (gEnd f) b pl h n
 | 0, n, hn, _ => fun k l h0 h1 hl => absurd h1 (by omega)
 | f + 1, n, hn, hnl => fun k l h0 h1 hl => Ey hb hp hh h0 (by omega) (pE hb hp hh f k.toNat (by omega) (by omega)) hl
section
variable {b : GBk} (hb : BH b) {pl : List Int} (hp : pl.length = b.Strokes.length) {h : Int} (hh : h = 0 ∨ h = 1) {l : List (Gbe × Int)} (hl : InvE b pl l)
include hb hp hh hl
theorem Ez {s : Int} (h0 : 0 ≤ s) (h1 : s.toNat < b.Strokes.length) : ∃ l', Bj b pl s h l = some (EE b pl h s.toNat, l') ∧ InvE b pl l' :=
 pE hb hp hh 8 b.Strokes.length (by have := hb.ns; omega) (Nat.le_refl _) s l h0 h1 hl
theorem KV {p : List Int} (hk : ∀ k ∈ p, 0 ≤ k ∧ k.toNat < b.Strokes.length) (hn : p.length ≤ 1000) : ∃ l', wB b pl p h l = some (p.map (fun k => EE b pl h k.toNat), l') ∧ InvE b pl l' :=
 KU (pE hb hp hh 8 b.Strokes.length (by have := hb.ns; omega) (Nat.le_refl _)) hk hn hl
end
section
variable {b : GBk} (hb : BH b) {pl : List Int} (hp : pl.length = b.Strokes.length) {l : List (Gbe × Int)} (hl : InvE b pl l)
include hb hp hl
theorem E0 {p : List Int} (hk : ∀ k ∈ p, 0 ≤ k ∧ k.toNat < b.Strokes.length) (hn : p.length ≤ 1000) : ∃ l', tE b pl p l = some (⟨mxL (p.map fun k => EE b pl 0 k.toNat), mxL (p.map fun k => EE b pl 1 k.toNat)⟩, l') ∧ InvE b pl l' := by
 obtain ⟨l1, e1, cI⟩ := KV hb hp (.inl rfl) hl hk hn
 obtain ⟨l2, e2, dA⟩ := KV hb hp (.inr rfl) cI hk hn
 unfold tE
 simp only [e1, Option.bind_some]
 rw [tM (by simp; omega)]
 simp only [e2, Option.bind_some]
 rw [tM (by simp; omega)]
 exact ⟨l2, rfl, dA⟩
end
theorem tP {b : GBk} (hb : BH b) {pl : List Int} (hp : pl.length = b.Strokes.length) : ∀ (p : List GBs) (i : Nat) (l : List (Gbe × Int)), i + p.length = b.Strokes.length → InvE b pl l →
  ∃ l', oO b pl p i (tkF (EE b pl 1) i) l = some (.go (tkF (EE b pl 1) b.Strokes.length, l')) ∧ InvE b pl l'
 | [], i, l, hi, hl => ⟨l, by simp at hi; subst hi; rfl, hl⟩
 | s :: p, i, l, hi, hl => by
  simp only [List.length_cons] at hi
  obtain ⟨l1, e1, cI⟩ := Ez hb hp (.inr rfl) hl (s := i) (by omega) (by omega)
  simp only [oO, e1, Option.bind_some]
  rw [tM (by simp)]
  obtain ⟨l2, e2, dA⟩ := tP hb hp p (i + 1) l1 (by omega) cI
  refine ⟨l2, ?_, dA⟩
  rw [← e2]
  simp only [Option.bind_some, mxL, List.foldl_cons, List.foldl_nil, Int.toNat_natCast]
  have h1 := oW (EE b pl 1) i
  congr 1
  show max (max 0 (tkF (EE b pl 1) i)) (EE b pl 1 i) = max (tkF (EE b pl 1) i) (EE b pl 1 i)
  rw [Int.max_eq_right h1]
def TK (b : GBk) (pl : List Int) : Int := tkF (EE b pl 1) b.Strokes.length
theorem E1 {b : GBk} (hb : BH b) {pl : List Int} (hp : pl.length = b.Strokes.length) {l : List (Gbe × Int)} (hl : InvE b pl l) : ∃ l', oQ b pl l = some (TK b pl, l') ∧ InvE b pl l' := by
 obtain ⟨l', e, hl'⟩ := tP hb hp b.Strokes 0 l (by simp) hl
 unfold oQ
 rw [gI (by have := hb.ns; omega), cond_true]
 have e' : oO b pl b.Strokes 0 0 l = _ := e
 rw [e']
 exact ⟨l', rfl, hl'⟩
end Go.V
end
section
namespace Go.V
open Go Go.Proofs
theorem an.atR {P : Program} {G : Glob} {x : Option (Option Nat)} {f : FuncId} {args : List VV} {H : Nat → Option VObj} {nx : Nat} {R Rp : VV → (Nat → Option VObj) → Nat → Prop} (h : an P G f args H nx R Rp) : an P (G.at x) f args H nx R Rp := h
def plM (b : GBk) (p : List Int) (δ : Nat) : VV := .agg [.lit (.int .i64 b.Apprentices), .sl (ae eI b.Boards) (List.length b.Boards) false, .sl (ae cGBs b.Strokes) (List.length b.Strokes) false, .sl (ae eI p) (List.length p) false, .mp δ]
theorem m9 {b : GBk} {p : List Int} {δ : Nat} : plM b p δ = .agg [.lit (.int .i64 b.Apprentices), .sl (ae eI b.Boards) (List.length b.Boards) false, .sl (ae cGBs b.Strokes) (List.length b.Strokes) false, .sl (ae eI p) (List.length p) false, .mp δ] := rfl
theorem PY {b : GBk} {p q : List Int} {δ δ' nx : Nat} {H : Nat → Option VObj} {la lb : List (Gbe × Int)} {Ra Rb : Int × List (Gbe × Int)} (ha : oQ b p la = some Ra) (hb : oQ b q lb = some Rb) (h1 : δ < nx) (h2 : δ' < nx) (hne : δ ≠ δ')
    (Hδ : H δ = some (.map (encM aN bM la))) (Hδ' : H δ' = some (.map (encM aN bM lb))) :
    an Tryz.prog G0 114 [plM b p δ, plM b q δ'] H nx (fun x H' nx' => x = .lit (.bool (decide (Ra.1 < Rb.1))) ∧ nx ≤ nx' ∧ H' δ = some (.map (encM aN bM Ra.2)) ∧ H' δ' = some (.map (encM aN bM Rb.2)) ∧ ∀ γ, γ < nx → γ ≠ δ → γ ≠ δ' → H' γ = H γ) (fun _ _ _ => False) := by
  have q1 := gZ h1
  have q2 := gZ h2
  have q3 := ne_f hne
  have q4 := ne_f (Ne.symm hne)
  refine an.run mixed Tryz.call114 Tryz.func114 rfl (by simp [Tryz.ntmps114]; kernel_rfl) ?_
  simp only [m9, vz, mq, mqm, vsi, tyf, mqt, q1, q2, q3, q4, Hδ, Hδ', nm, seval, ua]
  refine md (fun tm => tm 2 = .ptr nx 0 ∧ tm 3 = .ptr (nx + 1) 0) (by refine ⟨?_, ?_⟩ <;> first | (simp only [ua, Nat.add_zero, nm, seval]; done) | rfl) ?_
  rintro tm ⟨e2, e3⟩
  simp only [vz, mq, mqm, vsi, tyf, mqt, q1, q2, q3, q4, Hδ, Hδ', e2, e3, nm, seval, ua]
  refine dkupd (VUpd.at (β := δ) (y := (fun _ => .lit (.int .i64 Ra.1))) (Bk _ _ _ _ ha) (by omega) (by first | rfl | assumption | (simp only [aU, bg, q1, q2, q3, q4, Hδ, Hδ', nm, seval] <;> rfl)) (by first | rfl | (simp only [nrm, tynrm, @cT, @fC] <;> rfl)) (gv (fun _ => rfl) _)) ?_
  refine gD (fun tm => tm 2 = .ptr nx 0 ∧ tm 3 = .ptr (nx + 1) 0 ∧ tm 6 = .lit (.int .i64 Ra.1)) (by refine ⟨?_, ?_, ?_⟩ <;> first | (simp only [ua, bO, q1, q2, q3, q4, e2, e3, nm, seval] <;> rfl) | rfl) ?_
  clear e2 e3 tm
  rintro tm ⟨e2, e3, e6⟩
  simp only [vz, mq, mqm, vsi, tyf, mqt, q1, q2, q3, q4, Hδ, Hδ', e2, e3, e6, nm, seval, ua]
  refine dkupd (VUpd.at (β := δ') (y := (fun _ => .lit (.int .i64 Rb.1))) (Bk _ _ _ _ hb) (by omega) (by first | rfl | assumption | (simp only [aU, bg, q1, q2, q3, q4, Hδ, Hδ', nm, seval] <;> rfl)) (by first | rfl | (simp only [nrm, tynrm, @cT, @fC] <;> rfl)) (gv (fun _ => rfl) _)) ?_
  refine gD (fun tm => tm 2 = .ptr nx 0 ∧ tm 3 = .ptr (nx + 1) 0 ∧ tm 6 = .lit (.int .i64 Ra.1) ∧ tm 8 = .lit (.int .i64 Rb.1)) (by refine ⟨?_, ?_, ?_, ?_⟩ <;> first | (simp only [ua, bO, q1, q2, q3, q4, e2, e3, e6, nm, seval] <;> rfl) | rfl) ?_
  clear e2 e3 e6 tm
  rintro tm ⟨e2, e3, e6, e8⟩
  simp only [vz, mq, mqm, vsi, tyf, mqt, q1, q2, q3, q4, Hδ, Hδ', e2, e3, e6, e8, nm, seval, ua]
  refine jQ ⟨?_, ?_⟩
  · simp only [jR, jS, dQ, jT, and_true, true_and]
    repeat' (first | exact trivial | refine And.intro ?_ ?_ | rw [dQ] | rw [jU] | exact Or.inl (by decide +kernel) | exact Or.inl (by dsimp only; decide +kernel) | (refine Or.inr ⟨?_, ?_⟩ <;> simp; done) | (refine Or.inr ⟨?_, ?_⟩ <;> simp <;> omega) | (refine Or.inr ⟨?_, ?_⟩ <;> simp [VEff.wr] <;> omega))
  simp only [vz, mq, mqm, vsi, tyf, mqt, q1, q2, q3, q4, Hδ, Hδ', e2, e3, e6, e8, nm, seval, ua]
  refine cH (x := .lit (.bool (decide (Ra.1 < Rb.1)))) (by first | (simp only [Tryz.results114, resV, resL, resV1, dh, di, uw, cr, tyf, nm, seval] <;> rfl) | rfl) ?_
  refine ⟨rfl, (show nx ≤ nx + 9 by omega), ?_, ?_, ?_⟩
  · rw [aU, if_neg hne, aU, if_pos rfl]
  · rw [aU, if_pos rfl]
  · intro γ h3 h4 h5
    rw [aU, if_neg h5, aU, if_neg h4, aU, if_neg (by omega), aU, if_neg (by omega)]
def bestP (tk : List Int → Int) : List (List Int) → Option (List Int) → Option (List Int)
  | [], a => a
  | x :: L, none => bestP tk L (some x)
  | x :: L, some r => bestP tk L (if tk x < tk r then some x else some r)
def TakesOk (b : GBk) (L : List (List Int)) (tk : List Int → Int) : Prop := ∀ p ∈ L, ∀ l, InvE b p l → ∃ l', oQ b p l = some (tk p, l') ∧ InvE b p l'
def cPl (b : GBk) (p : List Int) (δ : Nat) : List VV := [.lit (.int .i64 b.Apprentices), .sl (ae eI b.Boards) (List.length b.Boards) false, .sl (ae cGBs b.Strokes) (List.length b.Strokes) false, .sl (ae eI p) (List.length p) false, .mp δ]
theorem pF {b : GBk} {p : List Int} {δ : Nat} : cPl b p δ = [.lit (.int .i64 b.Apprentices), .sl (ae eI b.Boards) (List.length b.Boards) false, .sl (ae cGBs b.Strokes) (List.length b.Strokes) false, .sl (ae eI p) (List.length p) false, .mp δ] := rfl
theorem PZ {b : GBk} {itv : VV} {L : List (List Int)} {tk : List Int → Int} {R : List Int} (hit : IterM Tryz.prog G0 itv (L.map (plV b))) (hT : TakesOk b L tk) (hR : bestP tk L none = some R) (H0 : Nat → Option VObj) (nx : Nat) :
    an Tryz.prog G0 113 [itv, .fn (.func 114) [] []] H0 nx (fun x H' nx' => nx ≤ nx' ∧ (∀ γ, γ < nx → H' γ = H0 γ) ∧ ∃ δ l, x = .tup [plM b R δ, .lit (.bool true)] ∧ nx ≤ δ ∧ δ < nx' ∧ H' δ = some (.map (encM aN bM l)) ∧ InvE b R l) (fun _ _ _ => False) := by
  refine an.run mixed Tryz.call113 Tryz.func113 rfl (by simp [Tryz.ntmps113]; kernel_rfl) ?_
  simp only [vz, mq, mqm, vsi, tyf, mqt, seval, ua, rg, nm]
  refine vW (fun tm => tm 9 = itv ∧ tm 3 = .ptr nx 0 ∧ tm 4 = .ptr (nx + 1) 0 ∧ tm 6 = .ptr (nx + 3) 0 ∧ tm 7 = .ptr (nx + 4) 0) (by refine ⟨?_, ?_, ?_, ?_, ?_⟩ <;> first | (simp only [ua, Nat.add_zero, nm, seval]; done) | rfl) ?_
  rintro tm ⟨e9, e3, e4, e6, e7⟩
  refine Qa hit (by first | (simp only [kn, sN, e9, qO, seval] <;> rfl) | rfl) ?_
  intro LO hLO
  obtain ⟨J, hJ⟩ : ∃ J : Option (List VV) → List (Nat × VObj) → Prop, J = (fun o hp => match o with
    | some l => ∃ (p : List (List Int)) (a : Option (List Int)), l = p.map (plV b) ∧ (∀ q ∈ p, q ∈ L) ∧ bestP tk p a = some R ∧
        ((a = none ∧ hp = [(nx + 7, .deferred (some [])), (nx + 8, LO), (nx, .cells (some 129) [.fn (.func 114) [] []]), (nx + 1, .cells (some 92) [.lit (.int .i64 0), .lit (.slice none 0 0), .lit (.slice none 0 0), .lit (.slice none 0 0), .lit (.map none)]), (nx + 3, .cells (some 92) [.lit (.int .i64 0), .lit (.slice none 0 0), .lit (.slice none 0 0), .lit (.slice none 0 0), .lit (.map none)]), (nx + 4, .cells (some 4) [.lit (.bool false)])]) ∨
         ∃ r δ lr, a = some r ∧ r ∈ L ∧ (nx ≤ δ ∧ δ ≠ nx ∧ δ ≠ nx + 1 ∧ δ ≠ nx + 3 ∧ δ ≠ nx + 4 ∧ δ ≠ nx + 7 ∧ δ ≠ nx + 8) ∧ InvE b r lr ∧ hp = [(nx + 7, .deferred (some [])), (nx + 8, LO), (nx, .cells (some 129) [.fn (.func 114) [] []]), (nx + 1, .cells (some 92) [.lit (.int .i64 0), .lit (.slice none 0 0), .lit (.slice none 0 0), .lit (.slice none 0 0), .lit (.map none)]), (nx + 3, .cells (some 92) (cPl b r δ)), (nx + 4, .cells (some 4) [.lit (.bool true)]), (δ, .map (encM aN bM lr))])
    | none => False) := ⟨_, rfl⟩
  obtain ⟨I, hI⟩ : ∃ I : Inv, I = (fun o Fr H n => (nx + 9 ≤ n ∧ ∀ γ, γ < nx → ¬ Fr γ ∧ H γ = H0 γ) ∧ ownI J o Fr H n) := ⟨_, rfl⟩
  have hst : Stable I := by
    rw [hI]
    rintro o Fr pG H H1 n n1 ⟨⟨h0, h1⟩, h2⟩ h3 h4 h5
    refine ⟨⟨by omega, fun γ hγ => ?_⟩, Qb _ _ _ _ _ _ _ h2 h3 h4 h5⟩
    obtain ⟨k1, k2⟩ := h1 γ hγ
    refine ⟨fun hf => ?_, (h3 γ (by omega) k1).trans k2⟩
    rcases h5 γ hf with hf | hf
    · exact k1 hf
    · omega
  refine ⟨I, hst, ?_, ?_, ?_⟩
  · rintro v rest Fr H n δe hFr hδe hnδ hHδ hi
    rw [hI] at hi
    obtain ⟨⟨xd, hfr⟩, hp, hown, hj⟩ := hi
    rw [hJ] at hj
    obtain ⟨p, a, hl, hpL, hbp, hcase⟩ := hj
    cases p with
    | nil => cases hl
    | cons e p =>
    simp only [List.map_cons, List.cons.injEq, plV, VV.agg.injEq] at hl
    obtain ⟨rfl, rfl⟩ := hl
    have heL := hpL e (List.mem_cons_self ..)
    have hpL' : ∀ q ∈ p, q ∈ L := fun q hq => hpL q (List.mem_cons_of_mem _ hq)
    rcases hcase with ⟨rfl, rfl⟩ | ⟨r, δ, lr, rfl, hrL, hδ9, hinv, rfl⟩
    · obtain ⟨l7, n7, H7⟩ := hown.head
      obtain ⟨l8, n8, H8⟩ := hown.tail.head
      obtain ⟨l0, n0, H0'⟩ := hown.tail.tail.head
      obtain ⟨l1, n1, H1⟩ := hown.tail.tail.tail.head
      obtain ⟨l3, n3, H3⟩ := hown.tail.tail.tail.tail.head
      obtain ⟨l4, n4, H4⟩ := hown.tail.tail.tail.tail.tail.head
      simp only [not_or] at n7 n8 n0 n1 n3 n4
      refine E2 mixed (psl := [10]) hLO H8 E3 rfl (by kernel_rfl) (by kernel_rfl) ?_
      intro LB LD hLB hLD
      refine E4 (fun tm => tm 10 = plM b e δe ∧ tm 3 = .ptr nx 0 ∧ tm 4 = .ptr (nx + 1) 0 ∧ tm 6 = .ptr (nx + 3) 0 ∧ tm 7 = .ptr (nx + 4) 0) (by refine ⟨?_, ?_, ?_, ?_, ?_⟩ <;> first | (simp only [E5, E6, Tryz.ntmps113, e3, e4, e6, e7, seval]; done) | rfl) ?_
      clear e9 e3 e4 e6 e7
      rintro tm ⟨bc, e3, e4, e6, e7⟩
      have nb := mT (a := nx) (m := 9) (b := n) xd
      simp only [m9] at bc
      simp only [vz, mq, mqm, vsi, tyf, mqt, seval, ua, nm, rg, RStart, bc, e3, e4, e6, e7, H8, H0', H1, H3, H4, nb, Bool.not_false]
      simp only [bestP] at hbp
      have hδn : nx ≤ δe := Nat.le_of_not_lt fun hh => (hfr δe hh).1 (.inr rfl)
      have hδe9 : nx ≤ δe ∧ δe ≠ nx ∧ δe ≠ nx + 1 ∧ δe ≠ nx + 3 ∧ δe ≠ nx + 4 ∧ δe ≠ nx + 7 ∧ δe ≠ nx + 8 := ⟨hδn, Ne.symm n0.2, Ne.symm n1.2, Ne.symm n3.2, Ne.symm n4.2, Ne.symm n7.2, Ne.symm n8.2⟩
      refine ⟨by simp only [aU, nb, nm, seval], (show n ≤ n + 13 by omega), fun γ hγ => ?_, ?_⟩
      · have := hFr γ hγ
        have g8 : γ ≠ nx + 8 := fun e => n8.1 (e ▸ hγ)
        have g3 : γ ≠ nx + 3 := fun e => n3.1 (e ▸ hγ)
        have g4 : γ ≠ nx + 4 := fun e => n4.1 (e ▸ hγ)
        simp only [updH]
        repeat rw [if_neg (by first | assumption | omega)]
      · rw [hI]
        simp only [if_true]
        refine ⟨⟨(show nx + 9 ≤ n + 13 by omega), fun γ hγ => ⟨fun hf => (hfr γ hγ).1 (.inl hf), ?_⟩⟩, ?_⟩
        · rw [← (hfr γ hγ).2]
          simp only [updH]
          repeat rw [if_neg (by omega)]
        · refine ⟨[(nx + 7, .deferred (some [])), (nx + 8, LO), (nx, .cells (some 129) [.fn (.func 114) [] []]), (nx + 1, .cells (some 92) [.lit (.int .i64 0), .lit (.slice none 0 0), .lit (.slice none 0 0), .lit (.slice none 0 0), .lit (.map none)]), (nx + 3, .cells (some 92) (cPl b e δe)), (nx + 4, .cells (some 4) [.lit (.bool true)]), (δe, .map (encM aN bM []))], Own.cons (show nx + 7 < n + 13 by omega) n7.1 ?_ (Own.cons (show nx + 8 < n + 13 by omega) n8.1 ?_ (Own.cons (show nx < n + 13 by omega) n0.1 ?_ (Own.cons (show nx + 1 < n + 13 by omega) n1.1 ?_ (Own.cons (show nx + 3 < n + 13 by omega) n3.1 ?_ (Own.cons (show nx + 4 < n + 13 by omega) n4.1 ?_ (Own.cons (show δe < n + 13 by omega) hnδ ?_ Own.nil)))))), ?_⟩
          rotate_right
          · rw [hJ]
            exact ⟨p, some e, rfl, hpL', hbp, .inr ⟨e, δe, [], rfl, heL, hδe9, InvE.nil, rfl⟩⟩
          · simp only [aU, nb, nm, seval, H7]
          · simp only [aU, nb, nm, seval]
          · simp only [aU, nb, nm, seval, H0']
          · simp only [aU, nb, nm, seval, H1]
          · simp only [aU, nb, nm, seval]; rfl
          · simp only [aU, nb, nm, seval]
          · simp only [updH]
            repeat rw [if_neg (by omega)]
            rw [hHδ, bO]
    · obtain ⟨l7, n7, H7⟩ := hown.head
      obtain ⟨l8, n8, H8⟩ := hown.tail.head
      obtain ⟨l0, n0, H0'⟩ := hown.tail.tail.head
      obtain ⟨l1, n1, H1⟩ := hown.tail.tail.tail.head
      obtain ⟨l3, n3, H3⟩ := hown.tail.tail.tail.tail.head
      obtain ⟨l4, n4, H4⟩ := hown.tail.tail.tail.tail.tail.head
      obtain ⟨ld, nd, Hd⟩ := hown.tail.tail.tail.tail.tail.tail.head
      simp only [not_or] at n7 n8 n0 n1 n3 n4 nd
      refine E2 mixed (psl := [10]) hLO H8 E3 rfl (by kernel_rfl) (by kernel_rfl) ?_
      intro LB LD hLB hLD
      refine E4 (fun tm => tm 10 = plM b e δe ∧ tm 3 = .ptr nx 0 ∧ tm 4 = .ptr (nx + 1) 0 ∧ tm 6 = .ptr (nx + 3) 0 ∧ tm 7 = .ptr (nx + 4) 0) (by refine ⟨?_, ?_, ?_, ?_, ?_⟩ <;> first | (simp only [E5, E6, Tryz.ntmps113, e3, e4, e6, e7, seval]; done) | rfl) ?_
      clear e9 e3 e4 e6 e7
      rintro tm ⟨bc, e3, e4, e6, e7⟩
      have nb := mT (a := nx) (m := 9) (b := n) xd
      simp only [m9] at bc
      rw [pF] at H3
      have hδn : nx ≤ δe := Nat.le_of_not_lt fun hh => (hfr δe hh).1 (.inr rfl)
      have hδe9 : nx ≤ δe ∧ δe ≠ nx ∧ δe ≠ nx + 1 ∧ δe ≠ nx + 3 ∧ δe ≠ nx + 4 ∧ δe ≠ nx + 7 ∧ δe ≠ nx + 8 := ⟨hδn, Ne.symm n0.2, Ne.symm n1.2, Ne.symm n3.2, Ne.symm n4.2, Ne.symm n7.2, Ne.symm n8.2⟩
      obtain ⟨le, ee, ie⟩ := hT e heL [] InvE.nil
      obtain ⟨lr', er, ir⟩ := hT r hrL lr hinv
      simp only [bestP] at hbp
      have hδδ : δe ≠ δ := Ne.symm nd.2
      simp only [vz, mq, mqm, vsi, tyf, mqt, seval, ua, nm, rg, RStart, bc, e3, e4, e6, e7, H8, H0', H1, H3, H4, nb, @nD, Bool.not_true]
      refine kopen ?_
      rw [pH]
      generalize hHH : updH (updH (updH H (n + 0) (VObj.cells (some 92) [.lit (.int .i64 0), .lit (.slice none 0 0), .lit (.slice none 0 0), .lit (.slice none 0 0), .lit (.map none)])) (n + 0) (VObj.cells (some 92) [.lit (.int .i64 b.Apprentices), .sl (ae eI b.Boards) (List.length b.Boards) false, .sl (ae cGBs b.Strokes) (List.length b.Strokes) false, .sl (ae eI e) (List.length e) false, .mp δe])) (nx + 8) LB = HH
      have hδe' : HH δe = some (.map (encM aN bM [])) := by
        rw [← hHH]
        simp only [updH]
        repeat rw [if_neg (by omega)]
        rw [hHδ, bO]
      have hδ' : HH δ = some (.map (encM aN bM lr)) := by
        rw [← hHH]
        simp only [updH]
        repeat rw [if_neg (by omega)]
        exact Hd
      refine an.mono (an.atR (PY (b := b) (p := e) (q := r) ee er (show δe < n + 10 by omega) (show δ < n + 10 by omega) hδδ hδe' hδ')) ?_ (fun _ _ _ h => h.elim)
      rintro v H2 n2 ⟨rfl, g1, g2, g3, g4⟩
      have K8 : H2 (nx + 8) = some LB := by
        rw [g4 _ (by omega) (by omega) (by omega), ← hHH]
        simp only [updH]
        simp
      have K7 : H2 (nx + 7) = some (.deferred (some [])) := by
        rw [g4 _ (by omega) (by omega) (by omega), ← hHH]
        simp only [updH]
        repeat rw [if_neg (by omega)]
        exact H7
      have K0 : H2 (nx) = some (.cells (some 129) [.fn (.func 114) [] []]) := by
        rw [g4 _ (by omega) (by omega) (by omega), ← hHH]
        simp only [updH]
        repeat rw [if_neg (by omega)]
        exact H0'
      have K1 : H2 (nx + 1) = some (.cells (some 92) [.lit (.int .i64 0), .lit (.slice none 0 0), .lit (.slice none 0 0), .lit (.slice none 0 0), .lit (.map none)]) := by
        rw [g4 _ (by omega) (by omega) (by omega), ← hHH]
        simp only [updH]
        repeat rw [if_neg (by omega)]
        exact H1
      have K3 : H2 (nx + 3) = some (.cells (some 92) (cPl b r δ)) := by
        rw [g4 _ (by omega) (by omega) (by omega), ← hHH]
        simp only [updH]
        repeat rw [if_neg (by omega)]
        exact H3
      have K4 : H2 (nx + 4) = some (.cells (some 4) [.lit (.bool true)]) := by
        rw [g4 _ (by omega) (by omega) (by omega), ← hHH]
        simp only [updH]
        repeat rw [if_neg (by omega)]
        exact H4
      have Kx : H2 (n + 0) = some (.cells (some 92) (cPl b e δe)) := by
        rw [g4 _ (by omega) (by omega) (by omega), ← hHH]
        simp only [updH]
        rw [if_neg (by omega), if_pos trivial]
        rfl
      have KF : ∀ γ, γ < n → ¬ γ = δe → ¬ γ = δ → ¬ γ = nx + 8 → H2 γ = H γ := by
        intro γ h1 h2 h3 h4
        rw [g4 γ (by omega) h2 h3, ← hHH]
        simp only [updH]
        repeat rw [if_neg (by omega)]
      rw [pF] at Kx K3
      by_cases hlt : tk e < tk r
      · rw [decide_eq_true hlt]
        rw [if_pos hlt] at hbp
        simp only [vz, mq, mqm, vsi, tyf, mqt, seval, ua, nm, rg, e3, e4, e6, e7, K8, K7, K0, K1, K3, K4, Kx, nb]
        refine ⟨by simp only [aU, K8, nm, seval], (show n ≤ n2 + 3 by omega), fun γ hγ => ?_, ?_⟩
        · have h1 := hFr γ hγ
          have g8 : γ ≠ nx + 8 := fun e => n8.1 (e ▸ hγ)
          have g3 : γ ≠ nx + 3 := fun e => n3.1 (e ▸ hγ)
          have g4' : γ ≠ nx + 4 := fun e => n4.1 (e ▸ hγ)
          have gd : γ ≠ δ := fun e => nd.1 (e ▸ hγ)
          have ge : γ ≠ δe := fun e => hnδ (e ▸ hγ)
          simp only [updH]
          repeat rw [if_neg (by first | assumption | omega)]
          exact KF γ h1 ge gd g8
        · rw [hI]
          simp only [if_true]
          refine ⟨⟨(show nx + 9 ≤ n2 + 3 by omega), fun γ hγ => ⟨fun hf => (hfr γ hγ).1 (.inl hf), ?_⟩⟩, ?_⟩
          · rw [← (hfr γ hγ).2]
            simp only [updH]
            repeat rw [if_neg (by omega)]
            exact KF γ (by omega) (by omega) (by omega) (by omega)
          · refine ⟨[(nx + 7, .deferred (some [])), (nx + 8, LO), (nx, .cells (some 129) [.fn (.func 114) [] []]), (nx + 1, .cells (some 92) [.lit (.int .i64 0), .lit (.slice none 0 0), .lit (.slice none 0 0), .lit (.slice none 0 0), .lit (.map none)]), (nx + 3, .cells (some 92) (cPl b e δe)), (nx + 4, .cells (some 4) [.lit (.bool true)]), (δe, .map (encM aN bM le))], Own.cons (show nx + 7 < n2 + 3 by omega) n7.1 ?_ (Own.cons (show nx + 8 < n2 + 3 by omega) n8.1 ?_ (Own.cons (show nx < n2 + 3 by omega) n0.1 ?_ (Own.cons (show nx + 1 < n2 + 3 by omega) n1.1 ?_ (Own.cons (show nx + 3 < n2 + 3 by omega) n3.1 ?_ (Own.cons (show nx + 4 < n2 + 3 by omega) n4.1 ?_ (Own.cons (show δe < n2 + 3 by omega) hnδ ?_ Own.nil)))))), ?_⟩
            rotate_right
            · rw [hJ]
              exact ⟨p, some e, rfl, hpL', hbp, .inr ⟨e, δe, le, rfl, heL, hδe9, ie, rfl⟩⟩
            · simp only [aU, nm, seval, K7]
            · simp only [aU, nm, seval]
            · simp only [aU, nm, seval, K0]
            · simp only [aU, nm, seval, K1]
            · simp only [aU, nm, seval, K3]; rfl
            · simp only [aU, nm, seval, K4]
            · simp only [updH]
              repeat rw [if_neg (by omega)]
              exact g2
      · rw [decide_eq_false hlt]
        rw [if_neg hlt] at hbp
        simp only [vz, mq, mqm, vsi, tyf, mqt, seval, ua, nm, rg, e3, e4, e6, e7, K8, K7, K0, K1, K3, K4, Kx, nb]
        refine ⟨by simp only [aU, K8, nm, seval], (show n ≤ n2 by omega), fun γ hγ => ?_, ?_⟩
        · have h1 := hFr γ hγ
          have g8 : γ ≠ nx + 8 := fun e => n8.1 (e ▸ hγ)
          have g3 : γ ≠ nx + 3 := fun e => n3.1 (e ▸ hγ)
          have g4' : γ ≠ nx + 4 := fun e => n4.1 (e ▸ hγ)
          have gd : γ ≠ δ := fun e => nd.1 (e ▸ hγ)
          have ge : γ ≠ δe := fun e => hnδ (e ▸ hγ)
          simp only [updH]
          repeat rw [if_neg (by first | assumption | omega)]
          exact KF γ h1 ge gd g8
        · rw [hI]
          simp only [if_true]
          refine ⟨⟨(show nx + 9 ≤ n2 by omega), fun γ hγ => ⟨fun hf => (hfr γ hγ).1 (.inl hf), ?_⟩⟩, ?_⟩
          · rw [← (hfr γ hγ).2]
            simp only [updH]
            repeat rw [if_neg (by omega)]
            exact KF γ (by omega) (by omega) (by omega) (by omega)
          · refine ⟨[(nx + 7, .deferred (some [])), (nx + 8, LO), (nx, .cells (some 129) [.fn (.func 114) [] []]), (nx + 1, .cells (some 92) [.lit (.int .i64 0), .lit (.slice none 0 0), .lit (.slice none 0 0), .lit (.slice none 0 0), .lit (.map none)]), (nx + 3, .cells (some 92) (cPl b r δ)), (nx + 4, .cells (some 4) [.lit (.bool true)]), (δ, .map (encM aN bM lr'))], Own.cons (show nx + 7 < n2 by omega) n7.1 ?_ (Own.cons (show nx + 8 < n2 by omega) n8.1 ?_ (Own.cons (show nx < n2 by omega) n0.1 ?_ (Own.cons (show nx + 1 < n2 by omega) n1.1 ?_ (Own.cons (show nx + 3 < n2 by omega) n3.1 ?_ (Own.cons (show nx + 4 < n2 by omega) n4.1 ?_ (Own.cons (show δ < n2 by omega) nd.1 ?_ Own.nil)))))), ?_⟩
            rotate_right
            · rw [hJ]
              exact ⟨p, some r, rfl, hpL', hbp, .inr ⟨r, δ, lr', rfl, hrL, hδ9, ir, rfl⟩⟩
            · simp only [aU, nm, seval, K7]
            · simp only [aU, nm, seval]
            · simp only [aU, nm, seval, K0]
            · simp only [aU, nm, seval, K1]
            · simp only [aU, nm, seval, K3]; rfl
            · simp only [aU, nm, seval, K4]
            · simp only [updH]
              repeat rw [if_neg (by omega)]
              exact g3
  · rw [hI]
    refine ⟨⟨Nat.le_refl _, fun γ hγ => ⟨fun h => h, ?_⟩⟩, ?_⟩
    · simp only [updH]
      repeat rw [if_neg (by omega)]
    · refine ⟨[(nx + 7, .deferred (some [])), (nx + 8, LO), (nx, .cells (some 129) [.fn (.func 114) [] []]), (nx + 1, .cells (some 92) [.lit (.int .i64 0), .lit (.slice none 0 0), .lit (.slice none 0 0), .lit (.slice none 0 0), .lit (.map none)]), (nx + 3, .cells (some 92) [.lit (.int .i64 0), .lit (.slice none 0 0), .lit (.slice none 0 0), .lit (.slice none 0 0), .lit (.map none)]), (nx + 4, .cells (some 4) [.lit (.bool false)])], Own.cons (show nx + 7 < nx + 9 by omega) (fun h => h) ?_ (Own.cons (show nx + 8 < nx + 9 by omega) (fun h => h) ?_ (Own.cons (show nx < nx + 9 by omega) (fun h => h) ?_ (Own.cons (show nx + 1 < nx + 9 by omega) (fun h => h) ?_ (Own.cons (show nx + 3 < nx + 9 by omega) (fun h => h) ?_ (Own.cons (show nx + 4 < nx + 9 by omega) (fun h => h) ?_ Own.nil))))), ?_⟩
      rotate_right
      · rw [hJ]
        exact ⟨L, none, rfl, fun q h => h, hR, .inl ⟨rfl, rfl⟩⟩
      · simp [updH]
      · simp [updH]
      · simp only [updH]
        rw [if_neg (by omega), if_neg (by omega), if_neg (by omega), if_neg (by omega), if_neg (by omega), if_neg (by omega), if_pos (by omega)]
      · simp [updH]
      · simp [updH]
      · simp [updH]
  · rintro H' nx' hh
    have hh : I (some []) noFr H' nx' := by
      rcases hh with h | h
      · exact h
      · rw [hI] at h
        obtain ⟨_, hp, _, hj⟩ := h
        rw [hJ] at hj
        exact hj.elim
    rw [hI] at hh
    obtain ⟨⟨xd, hfr⟩, hp, hown, hj⟩ := hh
    rw [hJ] at hj
    obtain ⟨p, a, hl, hpL, hbp, hcase⟩ := hj
    cases p with
    | cons e p => cases hl
    | nil =>
    simp only [bestP] at hbp
    rcases hcase with ⟨rfl, rfl⟩ | ⟨r, δ, lr, rfl, hrL, hδ9, hinv, rfl⟩
    · cases hbp
    simp only [Option.some.injEq] at hbp
    subst hbp
    obtain ⟨l7, n7, H7⟩ := hown.head
    obtain ⟨l8, n8, H8⟩ := hown.tail.head
    obtain ⟨l0, n0, H0'⟩ := hown.tail.tail.head
    obtain ⟨l1, n1, H1⟩ := hown.tail.tail.tail.head
    obtain ⟨l3, n3, H3⟩ := hown.tail.tail.tail.tail.head
    obtain ⟨l4, n4, H4⟩ := hown.tail.tail.tail.tail.tail.head
    obtain ⟨ld, nd, Hd⟩ := hown.tail.tail.tail.tail.tail.tail.head
    rw [pF] at H3
    refine KW hLO H8 ?_
    intro LX
    have nb := mT (a := nx) (m := 9) (b := nx') xd
    simp only [vz, mq, mqm, vsi, tyf, mqt, seval, ua, nm, rg, e4, e6, e7, H1, H3, H4, nb]
    refine md (fun tm => tm 4 = .ptr (nx + 1) 0 ∧ tm 6 = .ptr (nx + 3) 0 ∧ tm 7 = .ptr (nx + 4) 0) ⟨e4, e6, e7⟩ ?_
    clear e9 e3 e4 e6 e7
    rintro tm ⟨e4, e6, e7⟩
    simp only [vz, mq, mqm, vsi, tyf, mqt, seval, ua, nm, rg, e4, e6, e7, H1, H3, H4, nb]
    refine jQ ⟨?_, ?_⟩
    · simp only [jR, jS, dQ, jT, and_true, true_and]
      repeat' (first | exact trivial | refine And.intro ?_ ?_ | rw [dQ] | rw [jU] | exact Or.inl (by decide +kernel) | exact Or.inl (by dsimp only; decide +kernel) | (refine Or.inr ⟨?_, ?_⟩ <;> simp; done) | (refine Or.inr ⟨?_, ?_⟩ <;> simp <;> omega) | (refine Or.inr ⟨?_, ?_⟩ <;> simp [VEff.wr] <;> omega))
    simp only [vz, mq, mqm, vsi, tyf, mqt, seval, ua, nm, rg, e4, e6, e7, H1, H3, H4, nb]
    refine tQ (by simp only [aU, nm, seval, H7]) ?_
    refine cH (x := .tup [plM b r δ, .lit (.bool true)]) (by first | (simp only [Tryz.results113, resV, resL, resV1, dh, di, uw, cr, tyf, e4, m9, nm, seval] <;> rfl) | (simp only [Tryz.results113, resV, resL, resV1, dh, di, uw, cr, tyf, e4, m9, nm, seval]; done)) ?_
    refine ⟨by omega, fun γ hγ => ?_, δ, lr, rfl, hδ9.1, (show δ < nx' + 4 by omega), ?_, hinv⟩
    · rw [← (hfr γ hγ).2]
      simp only [updH]
      repeat rw [if_neg (by omega)]
    · simp only [updH]
      repeat rw [if_neg (by omega)]
      exact Hd
theorem Qc {b : GBk} {itv : VV} {L : List (List Int)} {tk : List Int → Int} {R : List Int} (hit : IterM Tryz.prog G0 itv (L.map (plV b))) (hT : TakesOk b L tk) (hR : bestP tk L none = some R) (H0 : Nat → Option VObj) (nx : Nat) :
    an Tryz.prog G0 85 [itv] H0 nx (fun x H' nx' => nx ≤ nx' ∧ (∀ γ, γ < nx → H' γ = H0 γ) ∧ ∃ δ l, x = plM b R δ ∧ nx ≤ δ ∧ δ < nx' ∧ H' δ = some (.map (encM aN bM l)) ∧ InvE b R l) (fun _ _ _ => False) := by
  refine an.run mixed Tryz.call85 Tryz.func85 rfl (by simp [Tryz.ntmps85]; kernel_rfl) ?_
  simp only [vz, mq, mqm, vsi, tyf, mqt, seval, ua, rg, nm]
  refine kopen ?_
  rw [pH]
  refine an.mono (PZ hit hT hR _ _) ?_ (fun _ _ _ h => h.elim)
  rintro v H2 n2 ⟨g1, g2, δ, l, rfl, g3, g4, g5, g6⟩
  have nb := mT (a := nx) (m := 8) (b := n2) (by omega)
  have K0 : H2 (nx + 0) = some (.cells (some 92) [.lit (.int .i64 0), .lit (.slice none 0 0), .lit (.slice none 0 0), .lit (.slice none 0 0), .lit (.map none)]) := by
    rw [g2 _ (by omega)]
    simp [updH]
  simp only [m9, vz, mq, mqm, vsi, tyf, mqt, seval, ua, rg, nm, nb, K0]
  refine cH (x := plM b R δ) (by first | (simp only [Tryz.results85, resV, resL, resV1, dh, di, uw, cr, tyf, m9, nm, seval] <;> rfl) | (simp only [Tryz.results85, resV, resL, resV1, dh, di, uw, cr, tyf, m9, nm, seval]; done)) ?_
  refine ⟨by omega, fun γ hγ => ?_, δ, l, rfl, by omega, by omega, ?_, g6⟩
  · simp only [updH]
    repeat rw [if_neg (by omega)]
    rw [g2 γ (by omega)]
    simp only [updH]
    repeat rw [if_neg (by omega)]
  · simp only [updH]
    repeat rw [if_neg (by omega)]
    exact g5
def kK (ak : GBk) (av : List Int) : List GBs → Int → (List GSpan) → (List (Gbe × Int)) → Option (LOut ((List GSpan) × Int) ((List GSpan) × (List (Gbe × Int))))
 | [], kL, ck, bT => some (.go (ck, bT))
 | e0 :: p0, kL, ck, bT => Option.bind (tE ak av ([kL]) bT) (fun r4 => cond (roomOk 16 (List.length (ck ++ [r4.1]))) (kK ak av p0 (kL + 1) (ck ++ [r4.1]) r4.2) none)
def pI (ak : GBk) (av : List Int) : Option ((List GSpan) × Int) := Option.bind (pf ak) (fun r1 => cond (r1) (Option.bind (tv ak av) (fun r2 => cond (r2) (cond (aM ak.Strokes) (lbind (kK ak av ak.Strokes 0 ([] : List GSpan) ([] : List (Gbe × Int))) (fun r6 => some r6) (fun c5 => some (c5.1, 0)) (fun _ _ => none)) none) (some (([] : List GSpan), 2)))) (some (([] : List GSpan), 2)))
theorem E7 (ak : GBk) (av : List Int) (R : (List GSpan) × Int) (h : pI ak av = some R) : aj Tryz.prog G0 22 [.agg (cGBk ak), .sl (ae eI av) (List.length av) false] (.tree (.tup [.sl (ae cGSpan R.1) (List.length R.1) false, .lit (.int .i64 R.2)])) := by
 refine aj.runR mixed Tryz.call22 Tryz.func22 rfl (by simp [Tryz.ntmps22]; kernel_rfl) ?_
 obtain ⟨KF, h, kF, kN⟩ := cJ h
 simp only [pI] at h
 obtain ⟨r7, o8, h⟩ := optI h kN
 try simp only [hs] at h
 simp only [vz, mq, mqm, vsi, tyf, mqt, nm, seval]
 refine ktree (args0 := [.agg (cGBk ak)]) (by first | (simp only [nrm, tynrm, @cT] <;> rfl) | rfl) (by simp only [tre, tytre, mqr, Bool.and_self]) (Kj _ _ o8) ?_
 refine bL (fun tm => tm 1 = .sl (ae eI av) (List.length av) false ∧ tm 2 = .ptr 0 0 ∧ tm 10 = .lit (.bool r7) ∧ True) (by refine ⟨?_, ?_, ?_, trivial⟩ <;> first | (simp only [ua, bO, nm, seval] <;> rfl) | rfl) ?_
 rintro tm ⟨e9, bc, b4, _⟩
 cases bU : (r7)
 ·simp only [bU, hs] at h
  try simp only [vz, mq, mqm, vsi, tyf, mqt, e9, bc, b4, bU, nm, seval]
  refine cH (x := (.tup [.lit (.slice none 0 0), .lit (.int .i64 2)])) (by first | (simp only [Tryz.results22, resV, resL, resV1, dh, di, uw, cr, tyf, mqt, bU, nm, seval] <;> rfl) | rfl) ?_
  obtain rfl := kF _ h
  refine ka ?_ ?_
  ·simp only [tre, tytre, mqr, Bool.and_self]
  ·first | (simp only [outV, uw, jO, cr, tyf, mqt, nrm, tynrm, e9, bc, b4, bU, nm, seval] <;> rfl) | rfl
 simp only [bU, hs] at h
 obtain ⟨mA, Qd, h⟩ := optI h kN
 try simp only [hs] at h
 simp only [vz, mq, mqm, vsi, tyf, mqt, e9, bc, b4, bU, nm, seval]
 refine ktree (args0 := [.agg (cGBk ak), .sl (ae eI av) (List.length av) false]) (by first | (simp only [nrm, tynrm, @cT] <;> rfl) | rfl) (by simp only [tre, tytre, mqr, Bool.and_self]) (OC _ _ _ Qd) ?_
 refine bL (fun tm => tm 1 = .sl (ae eI av) (List.length av) false ∧ tm 2 = .ptr 0 0 ∧ tm 12 = .lit (.bool false) ∧ tm 15 = .lit (.bool mA) ∧ True) (by refine ⟨e9, bc, ?_, ?_, trivial⟩ <;> first | (simp only [ua, bO, e9, bc, b4, bU, nm, seval] <;> rfl) | rfl) ?_
 rintro tm ⟨fI, bC, b6, bV, _⟩
 cases dD : (mA)
 ·simp only [dD, hs] at h
  try simp only [vz, mq, mqm, vsi, tyf, mqt, bU, fI, bC, b6, bV, dD, nm, seval]
  refine cH (x := (.tup [.lit (.slice none 0 0), .lit (.int .i64 2)])) (by first | (simp only [Tryz.results22, resV, resL, resV1, dh, di, uw, cr, tyf, mqt, bU, dD, nm, seval] <;> rfl) | rfl) ?_
  obtain rfl := kF _ h
  refine ka ?_ ?_
  ·simp only [tre, tytre, mqr, Bool.and_self]
  ·first | (simp only [outV, uw, jO, cr, tyf, mqt, nrm, tynrm, bU, fI, bC, b6, bV, dD, nm, seval] <;> rfl) | rfl
 simp only [dD, hs] at h
 try simp only [vz, mq, mqm, vsi, tyf, mqt, bU, fI, bC, b6, bV, dD, nm, seval]
 refine kopen ?_
 rw [pH]
 refine an.run mixed Tryz.call69 Tryz.func69 rfl (by simp [Tryz.ntmps69]; kernel_rfl) ?_
 try simp only [vz, mq, mqm, vsi, tyf, mqt, bU, dD, nm, seval]
 refine cH (x := (.agg ((cGBk ak) ++ [.sl (ae eI av) (List.length av) false] ++ [.mp 21]))) (by first | (simp only [Tryz.results69, resV, resL, resV1, dh, di, uw, cr, tyf, mqt, bU, dD, nm, seval] <;> rfl) | rfl) ?_
 cases fK : (aM ak.Strokes)
 ·simp only [fK, hs] at h
  exact absurd h kN
 simp only [fK, hs] at h
 simp only [vz, mq, mqm, vsi, tyf, mqt, bU, dD, fI, bC, b6, bV, fK, nm, seval]
 obtain ⟨Qe, h, Qf, tR, Qg, mB⟩ := hC h kN
 obtain ⟨Qh, E8, h⟩ := call4 h
 obtain ⟨Qi, mC⟩ : ∃ I : Nat → St → Prop, I = (fun m st => ∃ (jY : List GBs) (aZ : Int) (bP : List GSpan) (iF : List (Gbe × Int)) (ja : VV), m = List.length jY ∧ 0 ≤ aZ ∧ List.drop (Int.toNat aZ) ak.Strokes = jY ∧ st.df = [] ∧ 29 ≤ st.nx ∧ st.H 21 = some (.map (encM aN bM iF)) ∧ st.H 15 = some (.cells (some 92) ((cGBk ak) ++ [.sl (ae eI av) (List.length av) false] ++ [.mp 21])) ∧ st.tm 6 = .ptr 15 0 ∧ st.tm 23 = .lit (.int .i64 (List.length ak.Strokes : Int)) ∧ st.tm 7 = ja ∧ st.tm 24 = .lit (.int .i64 aZ) ∧ ((∃ (β : Nat) (el : Option TypeId), ja = .ref β 0 (List.length bP) 2 (List.length bP) ∧ β < st.nx ∧ β ≠ 21 ∧ β ≠ 15 ∧ st.H β = some (.cells el (ae cGSpan bP))) ∨ (ja = .lit (.slice none 0 0) ∧ bP = [])) ∧ Qe (Qh jY aZ bP iF)) := ⟨_, rfl⟩
 refine loopK mixed (by kernel_rfl) Qi (List.length ak.Strokes) (by rw [mC]; refine ⟨ak.Strokes, 0, ([] : List GSpan), ([] : List (Gbe × Int)), .lit (.slice none 0 0), rfl, Int.le_refl _, rfl, rfl, (show 29 ≤ 29 by omega), ?_, ?_, ?_, ?_, ?_, ?_, Or.inr ⟨rfl, rfl⟩, h⟩ <;> first | (simp only [ua, bO, bU, dD, fI, bC, b6, bV, nm, seval] <;> rfl) | rfl) ?_
 rintro m ⟨tm, H, fL, df⟩ hinv
 rw [mC] at hinv
 obtain ⟨jY, aZ, bP, iF, ja, rfl, dJ, eY, hdf, E9, ed, eg, bR, cg, cC, bm, kM, h⟩ := hinv
 simp only at hdf E9 ed eg bR cg cC bm kM
 have eO := je (m := 29) (b := fL) (by omega)
 subst hdf E8
 rcases kM with ⟨nE, kO, rfl, EA, EB, EC, gx⟩ | ⟨rfl, rfl⟩
 ·have kP := gZ EA
  have kQ := ne_f EB
  have kR := ne_f EC
  cases jY with
  | nil =>
   have eL : (decide (aZ < (List.length ak.Strokes : Int))) = false := gC dJ eY
   simp only [kK, hs, reduceCtorEq] at h
   replace h := tR _ h
   try dsimp only at h
   try simp only [hs] at h
   try simp only [vz, mq, mqm, vsi, tyf, mqt, bU, dD, fK, eO, bR, cg, cC, bm, ed, eg, kP, gx, kQ, kR, eL, nm, seval]
   refine cH (x := (.tup [.ref nE 0 (List.length bP) 2 (List.length bP), .lit (.int .i64 0)])) (by first | (simp only [Tryz.results22, resV, resL, resV1, dh, di, uw, cr, tyf, mqt, bU, dD, fK, eO, ed, eg, kP, gx, kQ, kR, eL, nm, seval] <;> rfl) | rfl) ?_
   obtain rfl := kF _ h
   refine ka ?_ ?_
   ·simp only [tre, tytre, mqr, Bool.and_self]
   ·first | (simp only [outV, uw, jO, cr, tyf, mqt, nrm, tynrm, bU, dD, fK, eO, bR, cg, cC, bm, ed, eg, kP, gx, kQ, kR, eL, nm, seval] <;> rfl) | rfl
  | cons fG jY =>
   have tS : (decide (aZ < (List.length ak.Strokes : Int))) = true := gq dJ eY
   have pJ := dG dJ eY
   have tT := gu dJ eY fK
   simp only [kK, hs, reduceCtorEq] at h
   obtain ⟨nG, Qj, h⟩ := optI h mB
   try simp only [hs] at h
   simp only [vz, mq, mqm, vsi, tyf, mqt, bU, dD, fK, eO, bR, cg, cC, bm, ed, eg, kP, gx, kQ, kR, tS, (aL pJ), tT, nm, seval]
   refine kupdF (args' := [.agg ((cGBk ak) ++ [.sl (ae eI av) (List.length av) false] ++ [.mp 21]), .sl (ae eI ([aZ])) (List.length ([aZ])) false]) (g := (fL + 6)) (el := (some 3)) (cs := ae eI ([aZ])) (by first | rfl | assumption | (simp only [aU, bg, dI, eO, ed, eg, kP, gx, kQ, kR, nm, seval] <;> rfl) | (simp only [aU, bg, iX, jm, iu, iv, tyf, mqt, bU, dD, fK, eO, bR, cg, cC, bm, ed, eg, kP, gx, kQ, kR, tS, (aL pJ), tT, nm, seval]; done)) ⟨.same, Frozen.own (el := (some 3)) (cs := ae eI ([aZ])) (by first | rfl | assumption | (simp only [aU, bg, dI, eO, ed, eg, kP, gx, kQ, kR, nm, seval] <;> rfl) | (simp only [aU, bg, iX, jm, iu, iv, tyf, mqt, bU, dD, fK, eO, bR, cg, cC, bm, ed, eg, kP, gx, kQ, kR, tS, (aL pJ), tT, nm, seval]; done)) (eI_ok.treeL _) (dH (w := 1) (enc := eI) (fun _ => rfl) _), trivial⟩ (VUpd.at (β := 21) (y := (fun _ => .agg (cGSpan nG.1))) (KC _ _ _ _ _ Qj) (by omega) (by first | rfl | assumption | (simp only [aU, bg, eO, ed, eg, kP, gx, kQ, kR, nm, seval] <;> rfl)) (by first | rfl | (simp only [nrm, tynrm, @cT, @fC] <;> rfl) | (simp only [tyf, mqt, List.cons_append, List.nil_append, nrm, tynrm, @cT, @fC] <;> rfl)) (gv (fun _ => rfl) _)) ?_
   refine gD (fun tm => tm 6 = .ptr 15 0 ∧ tm 23 = .lit (.int .i64 (List.length ak.Strokes : Int)) ∧ tm 24 = .lit (.int .i64 aZ) ∧ tm 27 = .ref nE 0 (List.length bP) 2 (List.length bP) ∧ tm 31 = .agg (cGSpan nG.1) ∧ True) (by refine ⟨bR, cg, bm, ?_, ?_, trivial⟩ <;> first | (simp only [ua, bO, bU, dD, eO, bR, cg, cC, bm, ed, eg, kP, gx, kQ, kR, tS, tT, nm, seval] <;> rfl) | rfl) ?_
   rintro tm ⟨iB, lK, lL, fu, dB, _⟩
   have lQ := And.intro bU (And.intro dD (And.intro fK (And.intro eO (And.intro ed (And.intro eg (And.intro kP (And.intro gx (And.intro kQ (And.intro kR (And.intro tS tT))))))))))
   cases pK : (roomOk 16 (List.length (bP ++ [nG.1])))
   ·simp only [pK, hs] at h
    exact absurd h mB
   simp only [pK, hs] at h
   simp only [vz, mq, mqm, vsi, tyf, mqt, lQ, (aL pJ), iB, lK, lL, fu, dB, pK, nm, seval]
   refine k_app (w := 2) (enc := cGSpan) (xs := bP) (ys := ([nG.1])) (el := kO) (jN := (some 35)) (fun _ => rfl) tU tV Tryz.underlying31 (by first | rfl | assumption | (simp only [aU, bg, mD, lQ, nm, seval] <;> rfl) | (simp only [aU, bg, iX, jm, iu, iv, tyf, mqt, lQ, (aL pJ), iB, lK, lL, fu, dB, pK, nm, seval]; done)) (by first | rfl | assumption | (simp only [aU, bg, mD, lQ, nm, seval] <;> rfl) | (simp only [aU, bg, iX, jm, iu, iv, tyf, mqt, lQ, (aL pJ), iB, lK, lL, fu, dB, pK, nm, seval]; done)) (Nat.zero_lt_succ _) pK ?_
   simp only [vz, mq, mqm, vsi, tyf, mqt, lQ, (aL pJ), iB, lK, lL, fu, dB, pK, nm, seval]
   exact ⟨List.length jY, Nat.lt_succ_self _, by rw [mC]; refine ⟨jY, aZ + 1, (bP ++ [nG.1]), nG.2, .ref (fL + 9) 0 (List.length (bP ++ [nG.1])) 2 (List.length (bP ++ [nG.1])), rfl, Int.le_trans dJ (Int.le_add_one (Int.le_refl _)), dj dJ eY, rfl, (show 29 ≤ fL + 13 by omega), ?_, ?_, iB, lK, ?_, ?_, Or.inl ⟨fL + 9, (sameEl kO 35), rfl, (by first | omega | (simp only [nm, seval]; done) | (simp only [nm, seval]; omega)), (by first | omega | (intro hh; simp only [lQ, reduceCtorEq] at hh)), (by first | omega | (intro hh; simp only [lQ, reduceCtorEq] at hh)), ?_⟩, (by first | exact h | (simp only [lQ]; exact h))⟩ <;> first | (simp only [ua, bO, lQ, iB, lK, lL, fu, dB, nm, seval] <;> rfl) | rfl⟩
 ·cases jY with
  | nil =>
   have jt : (decide (aZ < (List.length ak.Strokes : Int))) = false := gC dJ eY
   simp only [kK, hs, reduceCtorEq] at h
   replace h := tR _ h
   try dsimp only at h
   try simp only [hs] at h
   try simp only [vz, mq, mqm, vsi, tyf, mqt, bU, dD, fK, eO, bR, cg, cC, bm, ed, eg, jt, nm, seval]
   refine cH (x := (.tup [.lit (.slice none 0 0), .lit (.int .i64 0)])) (by first | (simp only [Tryz.results22, resV, resL, resV1, dh, di, uw, cr, tyf, mqt, bU, dD, fK, eO, ed, eg, jt, nm, seval] <;> rfl) | rfl) ?_
   obtain rfl := kF _ h
   refine ka ?_ ?_
   ·simp only [tre, tytre, mqr, Bool.and_self]
   ·first | (simp only [outV, uw, jO, cr, tyf, mqt, nrm, tynrm, bU, dD, fK, eO, bR, cg, cC, bm, ed, eg, jt, nm, seval] <;> rfl) | rfl
  | cons fG jY =>
   have tW : (decide (aZ < (List.length ak.Strokes : Int))) = true := gq dJ eY
   have rB := dG dJ eY
   have tX := gu dJ eY fK
   simp only [kK, hs, reduceCtorEq] at h
   obtain ⟨nH, Qk, h⟩ := optI h mB
   try simp only [hs] at h
   simp only [vz, mq, mqm, vsi, tyf, mqt, bU, dD, fK, eO, bR, cg, cC, bm, ed, eg, tW, (aL rB), tX, nm, seval]
   refine kupdF (args' := [.agg ((cGBk ak) ++ [.sl (ae eI av) (List.length av) false] ++ [.mp 21]), .sl (ae eI ([aZ])) (List.length ([aZ])) false]) (g := (fL + 6)) (el := (some 3)) (cs := ae eI ([aZ])) (by first | rfl | assumption | (simp only [aU, bg, dI, eO, ed, eg, nm, seval] <;> rfl) | (simp only [aU, bg, iX, jm, iu, iv, tyf, mqt, bU, dD, fK, eO, bR, cg, cC, bm, ed, eg, tW, (aL rB), tX, nm, seval]; done)) ⟨.same, Frozen.own (el := (some 3)) (cs := ae eI ([aZ])) (by first | rfl | assumption | (simp only [aU, bg, dI, eO, ed, eg, nm, seval] <;> rfl) | (simp only [aU, bg, iX, jm, iu, iv, tyf, mqt, bU, dD, fK, eO, bR, cg, cC, bm, ed, eg, tW, (aL rB), tX, nm, seval]; done)) (eI_ok.treeL _) (dH (w := 1) (enc := eI) (fun _ => rfl) _), trivial⟩ (VUpd.at (β := 21) (y := (fun _ => .agg (cGSpan nH.1))) (KC _ _ _ _ _ Qk) (by omega) (by first | rfl | assumption | (simp only [aU, bg, eO, ed, eg, nm, seval] <;> rfl)) (by first | rfl | (simp only [nrm, tynrm, @cT, @fC] <;> rfl) | (simp only [tyf, mqt, List.cons_append, List.nil_append, nrm, tynrm, @cT, @fC] <;> rfl)) (gv (fun _ => rfl) _)) ?_
   refine gD (fun tm => tm 6 = .ptr 15 0 ∧ tm 23 = .lit (.int .i64 (List.length ak.Strokes : Int)) ∧ tm 24 = .lit (.int .i64 aZ) ∧ tm 27 = .lit (.slice none 0 0) ∧ tm 31 = .agg (cGSpan nH.1) ∧ True) (by refine ⟨bR, cg, bm, ?_, ?_, trivial⟩ <;> first | (simp only [ua, bO, bU, dD, eO, bR, cg, cC, bm, ed, eg, tW, tX, nm, seval] <;> rfl) | rfl) ?_
   rintro tm ⟨m0, dX, eN, gz, g0, _⟩
   have nI := And.intro bU (And.intro dD (And.intro fK (And.intro eO (And.intro ed (And.intro eg (And.intro tW tX))))))
   cases rC : (roomOk 16 (List.length (([] : List GSpan) ++ [nH.1])))
   ·simp only [rC, hs] at h
    exact absurd h mB
   simp only [rC, hs] at h
   simp only [vz, mq, mqm, vsi, tyf, mqt, nI, (aL rB), m0, dX, eN, gz, g0, rC, nm, seval]
   refine me (w := 2) (enc := cGSpan) (ys := ([nH.1])) (jN := (some 35)) (fun _ => rfl) tU tV Tryz.underlying31 (by first | rfl | assumption | (simp only [aU, bg, mD, nI, nm, seval] <;> rfl) | (simp only [aU, bg, iX, jm, iu, iv, tyf, mqt, nI, (aL rB), m0, dX, eN, gz, g0, rC, nm, seval]; done)) (Nat.zero_lt_succ _) rC ?_
   simp only [vz, mq, mqm, vsi, tyf, mqt, nI, (aL rB), m0, dX, eN, gz, g0, rC, nm, seval]
   exact ⟨List.length jY, Nat.lt_succ_self _, by rw [mC]; refine ⟨jY, aZ + 1, (([] : List GSpan) ++ [nH.1]), nH.2, .ref (fL + 9) 0 (List.length (([] : List GSpan) ++ [nH.1])) 2 (List.length (([] : List GSpan) ++ [nH.1])), rfl, Int.le_trans dJ (Int.le_add_one (Int.le_refl _)), dj dJ eY, rfl, (show 29 ≤ fL + 13 by omega), ?_, ?_, m0, dX, ?_, ?_, Or.inl ⟨fL + 9, (some 35), rfl, (by first | omega | (simp only [nm, seval]; done) | (simp only [nm, seval]; omega)), (by first | omega | (intro hh; simp only [nI, reduceCtorEq] at hh)), (by first | omega | (intro hh; simp only [nI, reduceCtorEq] at hh)), ?_⟩, (by first | exact h | (simp only [nI]; exact h))⟩ <;> first | (simp only [ua, bO, nI, m0, dX, eN, gz, g0, nm, seval] <;> rfl) | rfl⟩




theorem setAF {α : Type} {enc : α → List VV} {w : Nat} {xs : List α} {x : α} {i : Int} (o m : Nat) (he : ∀ x, (enc x).length = w) (hm : o + m ≤ w) (h : getI xs i = some x) : (i.toNat * w + o + m ≤ (ae enc xs).length) = True := by
 have h1 := of_eq_true (setA (w := w) (enc := enc) he h)
 exact eq_true (by omega)
theorem Ql (A X B : List VV) (o : Nat) (cs : List VV) (h : o + cs.length ≤ X.length) : overwrite (A ++ (X ++ B)) (A.length + o) cs = A ++ (overwrite X o cs ++ B) := by
 unfold overwrite
 rw [List.take_append, List.take_of_length_le (Nat.le_add_right _ _), show A.length + o - A.length = o by omega, List.take_append_of_le_length (by omega),
  List.drop_append, List.drop_of_length_le (by omega), List.nil_append, show A.length + o + cs.length - A.length = o + cs.length by omega, List.drop_append_of_le_length h]
 simp only [List.append_assoc]
theorem setBF {α : Type} {enc : α → List VV} {w : Nat} {xs : List α} {x : α} {i : Int} (o : Nat) (cs : List VV) (v : α) (he : ∀ x, (enc x).length = w) (hc : o + cs.length ≤ w) (h : getI xs i = some x) (hv : enc v = overwrite (enc x) o cs) : overwrite (ae enc xs) (i.toNat * w + o) cs = ae enc (xs.set i.toNat v) := by
 obtain ⟨h0, h1, h2⟩ := nf h
 have hn : i.toNat < xs.length := by omega
 have e1 : xs = xs.take i.toNat ++ (x :: xs.drop (i.toNat + 1)) := by
  rw [← h2, List.take_append_drop]
 have e2 : xs.set i.toNat v = xs.take i.toNat ++ (v :: xs.drop (i.toNat + 1)) := by
  rw [List.set_eq_take_append_cons_drop, if_pos hn]
 have hl : (xs.take i.toNat).length = i.toNat := by rw [List.length_take]; omega
 have e3 : ae enc xs = ae enc (xs.take i.toNat) ++ (enc x ++ ae enc (xs.drop (i.toNat + 1))) := by
  conv => lhs; rw [e1, qG]
  rfl
 have e4 : (ae enc (xs.take i.toNat)).length = i.toNat * w := by rw [dH he, hl]
 rw [e3, ← e4, Ql _ _ _ _ _ (by rw [he]; exact hc), ← hv, e2, qG]
 rfl




theorem room16 {n : Nat} (h : n ≤ 1000) : roomOk 16 n = true := by simp [roomOk]; omega
theorem room56 {n : Nat} (h : n ≤ 1000) : roomOk 56 n = true := by simp [roomOk]; omega
theorem ED {α : Type} {xs : List α} (h : 1 ≤ xs.length) : neB xs = true := by cases xs with | nil => simp at h | cons a p => rfl
def endS (b : GBk) (pl : List Int) (i : Nat) : GSpan := ⟨EE b pl 0 i, EE b pl 1 i⟩
def endsL (b : GBk) (pl : List Int) : List GSpan := (List.range b.Strokes.length).map (endS b pl)
theorem tY {x : Int} (h : 0 ≤ x) : mxL [x] = x := by show max 0 x = x; omega
theorem tZ {b : GBk} (hb : BOk b) {pl : List Int} (hp : pl.length = b.Strokes.length) : ∀ (p : List GBs) (i : Nat) (acc : List GSpan) (l : List (Gbe × Int)), i + p.length = b.Strokes.length → acc.length = i → InvE b pl l →
  ∃ l', kK b pl p i acc l = some (.go (acc ++ (List.range' i p.length).map (endS b pl), l'))
 | [], i, acc, l, _, _, _ => ⟨l, by simp [kK]⟩
 | s :: p, i, acc, l, hi, ha, hl => by
  have hns := hb.ns
  simp only [List.length_cons] at hi
  obtain ⟨l1, e1, cI⟩ := E0 hb.h hp hl (p := [(i : Int)]) (fun k hk => by rw [List.mem_singleton.1 hk]; omega) (by simp)
  obtain ⟨l2, e2⟩ := tZ hb hp p (i + 1) (acc ++ [endS b pl i]) l1 (by omega) (by simp [ha]) cI
  refine ⟨l2, ?_⟩
  simp only [kK, e1, Option.bind_some]
  have h0 := EE_b hb.h pl 0 (s := i) (by omega)
  have h1 := EE_b hb.h pl 1 (s := i) (by omega)
  simp only [List.map_cons, List.map_nil, Int.toNat_natCast]
  rw [tY h0.1, tY h1.1, room16 (by simp; omega), cond_true]
  have : ((i : Int) + 1) = ((i + 1 : Nat) : Int) := by omega
  rw [this]
  show kK b pl p ((i + 1 : Nat) : Int) (acc ++ [endS b pl i]) l1 = _
  rw [e2]
  simp [List.range'_succ]
theorem pL {b : GBk} (h : Len b) (pl : List Int) : pI b pl = some (if benchB b && planB b pl then (endsL b pl, 0) else ([], 2)) := by
 unfold pI
 rw [Kt h, Cw h]
 cases hB : benchB b with
 | false => rfl
 | true =>
  cases hP : planB b pl with
  | false => rfl
  | true =>
   have hb := pz.1 hB
   obtain ⟨l', e⟩ := tZ hb (p8.1 hP).len b.Strokes 0 [] [] (by simp) rfl InvE.nil
   simp only [Option.bind_some, cond_true, Bool.and_self, if_true]
   rw [gI h.st, cond_true]
   have e' : kK b pl b.Strokes 0 [] [] = _ := e
   rw [e']
   simp [lbind, endsL, List.range_eq_range']
theorem EF (b : GBk) (pl : List Int) : (endsL b pl).length = b.Strokes.length := by simp [endsL]
theorem getEnds {b : GBk} {pl : List Int} {i : Int} (h0 : 0 ≤ i) (h1 : i.toNat < b.Strokes.length) : getI (endsL b pl) i = some (endS b pl i.toNat) := by
 unfold getI endsL
 rw [if_pos h0, List.getElem?_map, List.getElem?_range h1]
 rfl
theorem EE_36 {b : GBk} (hb : BOk b) (pl : List Int) (hr : Int) {s : Nat} (hs : s < b.Strokes.length) : EE b pl hr s ≤ 36 := by
 have h2 := Bt (hd := hF pl) (d := dF b hr) hb.h.nd (m := 6) (fun k => by
  refine ⟨(hb.h.d hr k).1, ?_⟩
  unfold dF
  split
  ·rename_i x hx
   have := (hb.s hx).hr
   split <;> omega
  ·omega) s
 have := hb.ns
 unfold EE
 omega
theorem TK_b {b : GBk} (hb : BOk b) (pl : List Int) : 1 ≤ TK b pl ∧ TK b pl ≤ 36 := by
 have hns := hb.ns
 have h1 : EE b pl 1 0 ≤ TK b pl := oX (by omega)
 have h2 : TK b pl ≤ 36 := oY (by omega) fun k hk => EE_36 hb pl 1 hk
 have h3 := EE_eq hb.h pl 1 0
 have h4 := BB_b hb.h pl 1 (s := 0) (by omega)
 have h5 : 1 ≤ dF b 1 0 := by
  obtain ⟨x, e1, e2⟩ := getS (b := b) (s := 0) (Int.le_refl _) (by simp; omega)
  have e2' : b.Strokes[0]? = some x := e2
  have := (hb.s e2').hr
  unfold dF
  rw [e2']
  simp
  omega
 omega
def itB (b : GBk) : VV := .fn (.func 115) [] [.tp (cGBk b)]
theorem EG (b : GBk) : aj Tryz.prog G0 86 [.agg (cGBk b)] (.tree (itB b)) := by
  refine aj.run mixed Tryz.call86 Tryz.func86 rfl (by simp [Tryz.ntmps86]; kernel_rfl) ?_
  simp only [vz, tyf, seval, ua]
  refine ⟨rfl, .fn (.func 115) [] [.ptr 0 0], by simp [Tryz.results86, resV, resL, resV1, upd], 20, ?_⟩
  have h : treeL (cGBk b) = true := xe
  simp only [lR] at h
  simp [treeL, VV.tree] at h
  simp [sealV, sealL, VV.tree, treeL, updH, h, itB, cGBk]
theorem takesOk {b : GBk} (hb : BH b) {L : List (List Int)} (h : plansO b = some L) : TakesOk b L (TK b) := by
  intro p hp l hl
  refine E1 hb ?_ hl
  unfold plansO at h
  cases hs : (decide (0 < b.Strokes.length) && (decide (b.Strokes.length < 1000) && (decide (0 ≤ b.Apprentices) && decide (b.Apprentices < 1000)))) with
  | false => rw [hs] at h; cases h
  | true =>
  rw [hs, cond_true] at h
  have := EH _ _ _ h p hp
  simpa using this
theorem xf {tk : List Int → Int} {R : List Int} : ∀ {L : List (List Int)} {a : Option (List Int)}, bestP tk L a = some R → R ∈ L ∨ a = some R
  | [], a, h => .inr h
  | x :: L, none, h => by
    simp only [bestP] at h
    rcases xf h with h | h
    · exact .inl (List.mem_cons_of_mem _ h)
    · cases h; exact .inl (List.mem_cons_self ..)
  | x :: L, some r, h => by
    simp only [bestP] at h
    rcases xf h with h | h
    · exact .inl (List.mem_cons_of_mem _ h)
    · split at h
      · cases h; exact .inl (List.mem_cons_self ..)
      · exact .inr h
def nJ (b : GBk) : Option (List Int × Int × Int) := Option.bind (pf b) fun r => cond r (cond (benchB b) (Option.bind (plansO b) fun L => Option.bind (bestP (TK b) L none) fun R => some (R, TK b R, 0)) none) (some ([], 0, 2))
theorem EI (ak : GBk) (R : List Int × Int × Int) (h : nJ ak = some R) : aj Tryz.prog G0 51 [.agg (cGBk ak)] (.tree (.tup [.sl (ae eI R.1) (List.length R.1) false, .lit (.int .i64 R.2.1), .lit (.int .i64 R.2.2)])) := by
  refine aj.runR mixed Tryz.call51 Tryz.func51 rfl (by simp [Tryz.ntmps51]; kernel_rfl) ?_
  unfold nJ at h
  rcases o1 : pf ak with _ | r1
  · rw [o1] at h; cases h
  rw [o1, Option.bind_some] at h
  simp only [vz, mq, mqm, vsi, tyf, mqt, nm, seval]
  refine ktree (args0 := [.agg (cGBk ak)]) (by first | (simp only [nrm, tynrm, @cT] <;> rfl) | rfl) (by simp only [tre, tytre, mqr, Bool.and_self]) (Kj _ _ o1) ?_
  refine bL (fun tm => tm 1 = .ptr 0 0 ∧ tm 7 = .lit (.bool r1)) (by refine ⟨?_, ?_⟩ <;> first | (simp only [ua, bO, nm, seval] <;> rfl) | rfl) ?_
  rintro tm ⟨e1, e7⟩
  cases r1 with
  | false =>
    simp only [cond_false, Option.some.injEq] at h
    subst h
    simp only [vz, mq, mqm, vsi, tyf, mqt, e1, e7, nm, seval]
    refine cH (x := .tup [.lit (.slice none 0 0), .lit (.int .i64 0), .lit (.int .i64 2)]) (by first | (simp only [Tryz.results51, resV, resL, resV1, dh, di, uw, cr, tyf, mqt, nm, seval] <;> rfl) | rfl) ?_
    refine ka ?_ ?_
    · simp only [tre, tytre, mqr, Bool.and_self]
    · first | (simp only [outV, uw, jO, cr, tyf, mqt, nrm, tynrm, nm, seval] <;> rfl) | rfl
  | true =>
    rw [cond_true] at h
    cases hB : benchB ak with
    | false => rw [hB] at h; cases h
    | true =>
    rw [hB, cond_true] at h
    rcases hL : plansO ak with _ | L
    · rw [hL] at h; cases h
    rw [hL, Option.bind_some] at h
    rcases hR : bestP (TK ak) L none with _ | P
    · rw [hR] at h; cases h
    rw [hR, Option.bind_some, Option.some.injEq] at h
    subst h
    have hBH := (pz.1 hB).h
    simp only [vz, mq, mqm, vsi, tyf, mqt, e1, e7, nm, seval]
    refine ktree (args0 := [.agg (cGBk ak)]) (by first | (simp only [nrm, tynrm, @cT] <;> rfl) | rfl) (by simp only [tre, tytre, mqr, Bool.and_self]) (EG _) ?_
    refine bL (fun tm => tm 1 = .ptr 0 0 ∧ tm 10 = itB ak) (by refine ⟨?_, ?_⟩ <;> first | (simp only [ua, bO, e1, nm, seval] <;> rfl) | rfl) ?_
    clear e1 e7 tm
    rintro tm ⟨e1, bc⟩
    simp only [vz, mq, mqm, vsi, tyf, mqt, e1, bc, nm, seval]
    refine kopen ?_
    rw [pH]
    refine an.mono (Qc (Qm hL) (takesOk hBH hL) hR _ _) ?_ (fun _ _ _ h => h.elim)
    rintro v H2 n2 ⟨g1, g2, δ, l, rfl, g3, g4, g5, g6⟩
    simp only [m9, vz, mq, mqm, vsi, tyf, mqt, e1, bc, nm, seval]
    have hBH' := takesOk hBH hL
    have hPL : P ∈ L := (xf hR).resolve_right (by simp)
    obtain ⟨l', et, it⟩ := hBH' P hPL l g6
    have qd := gZ g4
    have q0 : (δ = 10) = False := by simp; omega
    have q1 : (10 = δ) = False := by simp; omega
    refine md (fun tm => tm 5 = .ptr 10 0) (by first | (simp only [ua, nm, seval]; done) | rfl) ?_
    clear e1 bc tm
    rintro tm e5
    simp only [vz, mq, mqm, vsi, tyf, mqt, e5, q0, q1, qd, g5, nm, seval]
    refine dkupd (VUpd.at (β := δ) (y := (fun _ => .lit (.int .i64 (TK ak P)))) (Bk _ _ _ _ et) (by omega) (by first | rfl | assumption | (simp only [aU, bg, q0, q1, g5, nm, seval] <;> rfl)) (by first | rfl | (simp only [nrm, tynrm, @cT, @fC] <;> rfl)) (gv (fun _ => rfl) _)) ?_
    refine gD (fun tm => tm 13 = .sl (ae eI P) (List.length P) false ∧ tm 15 = .lit (.int .i64 (TK ak P))) (by refine ⟨?_, ?_⟩ <;> first | (simp only [ua, bO, e5, nm, seval] <;> rfl) | rfl) ?_
    clear e5 tm
    rintro tm ⟨bN, fI⟩
    simp only [vz, mq, mqm, vsi, tyf, mqt, bN, fI, q0, q1, qd, g5, nm, seval]
    refine jQ ⟨?_, ?_⟩
    · simp only [jR, jS, dQ, jT, and_true, true_and]
      repeat' (first | exact trivial | refine And.intro ?_ ?_ | rw [dQ] | rw [jU] | exact Or.inl (by decide +kernel) | exact Or.inl (by dsimp only; decide +kernel) | (refine Or.inr ⟨?_, ?_⟩ <;> simp; done) | (refine Or.inr ⟨?_, ?_⟩ <;> simp <;> omega) | (refine Or.inr ⟨?_, ?_⟩ <;> simp [VEff.wr] <;> omega))
    simp only [vz, mq, mqm, vsi, tyf, mqt, bN, fI, nm, seval]
    refine cH (x := .tup [.sl (ae eI P) (List.length P) false, .lit (.int .i64 (TK ak P)), .lit (.int .i64 0)]) (by first | (simp only [Tryz.results51, resV, resL, resV1, dh, di, uw, cr, tyf, mqt, bN, fI, nm, seval] <;> rfl) | rfl) ?_
    refine ka ?_ ?_
    · simp only [tre, tytre, mqr, Bool.and_self]
    · first | (simp only [outV, uw, jO, cr, tyf, mqt, nrm, tynrm, nm, seval] <;> rfl) | rfl

theorem BH.with {b : GBk} (h : BH b) (n : Int) : BH ⟨n, b.Boards, b.Strokes⟩ := ⟨h.ns, h.s⟩
def wiB (b : GBk) (n : Int) : GBk := ⟨n, b.Boards, b.Strokes⟩

def mF (b : GBk) (p : List Int) (j : Int) : Bool := j == 0 || !(match b.Strokes[p.length]? with | some s => s.Round | none => true)
def LA (b : GBk) (a : Int) : List (List Int) := listsB (mF b) (a.toNat + 1) b.Strokes.length []
theorem EJ {b : GBk} (hB : BOk b) {a : Int} (h0 : 0 ≤ a) (h3 : a ≤ 3) : plansO (wiB b a) = some (LA b a) := by
 have hn := hB.ns
 unfold plansO
 rw [show (decide (0 < (wiB b a).Strokes.length) && (decide ((wiB b a).Strokes.length < 1000) && (decide (0 ≤ (wiB b a).Apprentices) && decide ((wiB b a).Apprentices < 1000)))) = true by
  show (decide (0 < b.Strokes.length) && (decide (b.Strokes.length < 1000) && (decide (0 ≤ a) && decide (a < 1000)))) = true
  simp only [Bool.and_eq_true, decide_eq_true_eq]
  exact ⟨by omega, by omega, by omega, by omega⟩, cond_true]
 refine KX (ln := b.Strokes.length) (m := mF b) (fun p j h1 h2 h3 h4 => ?_) b.Strokes.length [] (by simp) (by simp)
 have hs : getI (wiB b a).Strokes (p.length : Int) = some b.Strokes[p.length] := by
  unfold getI wiB
  rw [if_pos (by omega), Int.toNat_natCast, List.getElem?_eq_getElem h1]
 unfold xg mF
 rw [Kz hs, List.getElem?_eq_getElem h1]
 rfl
theorem KY {b : GBk} {l : Nat} (hl : 0 < l) : ∀ (k : Nat) (p : List Int), stepsB (mF b) l p (List.replicate k 0) = true
 | 0, _ => rfl
 | k + 1, p => by
  rw [List.replicate_succ]
  simp only [stepsB, Bool.and_eq_true, decide_eq_true_eq]
  exact ⟨⟨Int.le_refl _, by omega⟩, by simp [mF], KY hl k _⟩
theorem EK {b : GBk} {a : Int} : List.replicate b.Strokes.length 0 ∈ LA b a := by
 unfold LA
 rw [wS]
 exact ⟨_, rfl, by simp, KY (by omega) _ _⟩
theorem xh {tk : List Int → Int} : ∀ (L : List (List Int)) (a : Option (List Int)), (L ≠ [] ∨ a ≠ none) → ∃ R, bestP tk L a = some R ∧ (∀ p ∈ L, tk R ≤ tk p) ∧ ∀ r, a = some r → tk R ≤ tk r
 | [], none, h => by rcases h with h | h <;> exact absurd rfl h
 | [], some r, _ => ⟨r, rfl, (fun p hp => by cases hp), fun q hq => by cases hq; exact Int.le_refl _⟩
 | x :: L, none, _ => by
  obtain ⟨R, e, h1, h2⟩ := xh (tk := tk) L (some x) (.inr (by simp))
  refine ⟨R, e, fun p hp => ?_, fun r hr => by cases hr⟩
  rcases List.mem_cons.1 hp with rfl | hp
  ·exact h2 _ rfl
  ·exact h1 p hp
 | x :: L, some r, _ => by
  by_cases hlt : tk x < tk r
  ·obtain ⟨R, e, h1, h2⟩ := xh (tk := tk) L (some x) (.inr (by simp))
   have hx := h2 x rfl
   refine ⟨R, by simp only [bestP]; rw [if_pos hlt]; exact e, fun p hp => ?_, fun q hq => by cases hq; omega⟩
   rcases List.mem_cons.1 hp with rfl | hp
   ·exact hx
   ·exact h1 p hp
  ·obtain ⟨R, e, h1, h2⟩ := xh (tk := tk) L (some r) (.inr (by simp))
   have hx := h2 r rfl
   refine ⟨R, by simp only [bestP]; rw [if_neg hlt]; exact e, fun p hp => ?_, fun q hq => by cases hq; exact hx⟩
   rcases List.mem_cons.1 hp with rfl | hp
   ·omega
   ·exact h1 p hp
def IsB (b : GBk) (a : Int) (R : List Int) : Prop := bestP (TK (wiB b a)) (LA b a) none = some R ∧ R ∈ LA b a ∧ ∀ p ∈ LA b a, TK b R ≤ TK b p
theorem ub (b : GBk) (a : Int) : ∃ R, IsB b a R := by
 obtain ⟨R, e, h1, _⟩ := xh (tk := TK (wiB b a)) (LA b a) none (.inl (List.ne_nil_of_mem EK))
 exact ⟨R, e, (xf e).resolve_right (by simp), h1⟩
theorem BOk.wi {b : GBk} (hB : BOk b) {a : Int} (h0 : 0 ≤ a) (h3 : a ≤ 3) : BOk (wiB b a) := ⟨⟨h0, h3⟩, hB.nb, hB.bo, hB.ns, hB.st⟩
theorem Len.wi {b : GBk} (h : Len b) (a : Int) : Len (wiB b a) := ⟨h.bo, h.st, h.nd⟩
theorem uc {b : GBk} (h : Len b) (hB : BOk b) {a : Int} (h0 : 0 ≤ a) (h3 : a ≤ 3) {R : List Int} (hR : IsB b a R) : nJ (wiB b a) = some (R, TK b R, 0) := by
 unfold nJ
 rw [Kt (h.wi a), pz.2 (hB.wi h0 h3), Option.bind_some, cond_true, cond_true, EJ hB h0 h3, Option.bind_some, hR.1]
 rfl



end Go.V
end
section
namespace Go.V
open Go Go.Proofs
set_option maxRecDepth 4000
set_option maxHeartbeats 4000000
end Go.V
end
section
namespace Go.V
open Go Go.Proofs

end Go.V
end
