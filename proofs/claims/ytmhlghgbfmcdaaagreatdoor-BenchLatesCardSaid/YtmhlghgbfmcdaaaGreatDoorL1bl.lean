/- Part of a proof. -/
import Derived.Test.YtmhlghgbfmcdaaaGreatDoorL1bk
set_option linter.all false
set_option maxRecDepth 4000
set_option maxHeartbeats 40000000
section
namespace Go.V
open Go Go.Proofs
theorem Len.of {b : GBk} (h : au b.Boards = true ∧ au b.Strokes = true ∧ ∀ y ∈ b.Strokes, au y.Needs = true) : Len b := ⟨BQ h.1, BQ h.2.1, fun s hs => BQ (h.2.2 s hs)⟩
theorem vi : ∀ (p : List GBs) (c : Int), qB p c = some (.go ()) ∨ qB p c = some (.ret false)
 | [], c => .inl rfl
 | s :: p, c => by
  simp only [qB]
  cases decide (c < 9) with
  | false => exact .inl rfl
  | true =>
   cases decide ((s.Needs.length : Int) > 8) with
   | true => exact .inr rfl
   | false => exact vi p (c + 1)
theorem BOk.len {b : GBk} (h : BOk b) (hl : ∀ s ∈ b.Strokes, s.Needs.length < 9223372036854775808) : Len b := ⟨by have := h.nb; omega, by have := h.ns; omega, hl⟩
structure HOk (n : Int) (s : GBs) : Prop where
 nd : ∀ k ∈ s.Needs, 0 ≤ k ∧ k < n
 ad : adjB s.Needs = true
 hr : 0 ≤ s.Hours.Low ∧ s.Hours.Low ≤ 15 ∧ 0 ≤ s.Hours.High ∧ s.Hours.High ≤ 15
structure BH (b : GBk) : Prop where
 ns : 1 ≤ b.Strokes.length ∧ b.Strokes.length ≤ 6
 s : ∀ {i : Nat} {s : GBs}, b.Strokes[i]? = some s → HOk i s
theorem BOk.h {b : GBk} (h : BOk b) : BH b := ⟨h.ns, fun hs => by have := h.s hs; have h2 := this.hr; exact ⟨this.nd, this.ad, by omega⟩⟩
def nF (b : GBk) (s : Nat) : List Int := match b.Strokes[s]? with | some x => x.Needs | none => []
def dF (b : GBk) (h : Int) (s : Nat) : Int := match b.Strokes[s]? with | some x => if h = 0 then x.Hours.Low else x.Hours.High | none => 0
def hF (pl : List Int) (s : Nat) : Int := (pl[s]?).getD 0
def EE (b : GBk) (pl : List Int) (h : Int) (s : Nat) : Int := Ed (hF pl) (nF b) (dF b h) s
def BB (b : GBk) (pl : List Int) (h : Int) (s : Nat) : Int := Bg (hF pl) (nF b) (dF b h) s
def FF (b : GBk) (pl : List Int) (h : Int) (s : Nat) : Int := frF (hF pl) (EE b pl h) (hF pl s) s
theorem BH.nd {b : GBk} (h : BH b) : NdOk (nF b) := by
 intro s k hk
 unfold nF at hk
 split at hk
 ·rename_i x hx
  have := (h.s hx).nd k hk
  omega
 ·cases hk
theorem BH.d {b : GBk} (h : BH b) (hr : Int) (s : Nat) : 0 ≤ dF b hr s ∧ dF b hr s ≤ 15 := by
 unfold dF
 split
 ·rename_i x hx
  have := (h.s hx).hr
  split <;> omega
 ·omega
theorem EE_b {b : GBk} (h : BH b) (pl : List Int) (hr : Int) {s : Nat} (hs : s < b.Strokes.length) : 0 ≤ EE b pl hr s ∧ EE b pl hr s ≤ 90 := by
 have h1 := Ed_nn (hd := hF pl) h.nd (fun k => (h.d hr k).1) s
 have h2 := tT (hd := hF pl) h.nd (h.d hr) s
 have := h.ns
 unfold EE
 omega
theorem EE_eq {b : GBk} (h : BH b) (pl : List Int) (hr : Int) (s : Nat) : EE b pl hr s = BB b pl hr s + dF b hr s := Ed_eq h.nd s
theorem BB_b {b : GBk} (h : BH b) (pl : List Int) (hr : Int) {s : Nat} (hs : s < b.Strokes.length) : 0 ≤ BB b pl hr s ∧ BB b pl hr s ≤ 90 := by
 have h1 := EE_b h pl hr hs
 have h2 := h.d hr s
 have h3 := Bg_nn (hd := hF pl) (nd := nF b) (d := dF b hr) s
 rw [EE_eq h] at h1
 have h3 : 0 ≤ BB b pl hr s := h3
 omega
theorem EF {b : GBk} (pl : List Int) (hr : Int) (s : Nat) : BB b pl hr s = max (max 0 (FF b pl hr s)) (mxL ((nF b s).map fun k => EE b pl hr k.toNat)) := rfl
def InvE (b : GBk) (pl : List Int) (l : List (GBe × Int)) : Prop := ∀ p ∈ l, p.2 = EE b pl p.1.hours p.1.stroke.toNat
theorem InvE.nil {b : GBk} {pl : List Int} : InvE b pl [] := fun _ h => by cases h
theorem InvE.has {b : GBk} {pl : List Int} {l : List (GBe × Int)} (h : InvE b pl l) {k : GBe} (hk : mapHas dK l k = true) : mapGet dK 0 l k = EE b pl k.hours k.stroke.toNat := by
 unfold mapHas at hk
 unfold mapGet
 cases hi : kIdx dK k (l.map (·.1)) 0 with
 | none => rw [hi] at hk; cases hk
 | some i =>
  obtain ⟨_, e, he, hq⟩ := wU _ _ _ hi
  rw [Nat.sub_zero, List.getElem?_map] at he
  cases hg : l[i]? with
  | none => rw [hg] at he; cases he
  | some p =>
   rw [hg] at he
   simp only [Option.map_some, Option.some.injEq] at he
   have hpe := lJ _ _ hq
   have hv := h p (List.mem_of_getElem? hg)
   rw [he, ← hpe] at hv
   simp only [hg, hv]
theorem vx {K V : Type} {q : K → K → Bool} {k : K} {v : V} : ∀ {l : List (K × V)} {p : K × V}, p ∈ setR q k v l → p ∈ l ∨ p.2 = v ∧ (p.1 = k ∨ q k p.1 = true)
 | [], p, h => by
  simp only [setR, List.mem_singleton] at h
  exact .inr ⟨by rw [h], .inl (by rw [h])⟩
 | a :: l, p, h => by
  unfold setR at h
  split at h
  ·rename_i hq
   rcases List.mem_cons.1 h with rfl | h
   ·exact .inr ⟨rfl, .inl rfl⟩
   ·exact .inl (List.mem_cons_of_mem _ h)
  ·rcases List.mem_cons.1 h with rfl | h
   ·exact .inl (List.mem_cons_self ..)
   ·exact (vx h).imp (List.mem_cons_of_mem _) id
theorem InvE.set {b : GBk} {pl : List Int} {l : List (GBe × Int)} (h : InvE b pl l) (s hr : Int) : InvE b pl (mapSet dK l ⟨s, hr⟩ (EE b pl hr s.toNat)) := by
 intro p hp
 rw [L1] at hp
 rcases vx hp with hp | ⟨h1, h2⟩
 ·exact h p hp
 ·have e : p.1 = ⟨s, hr⟩ := by
   rcases h2 with h2 | h2
   ·exact h2
   ·exact (lJ _ _ h2).symm
  rw [h1, e]
abbrev RC := GBk → List Int → Int → Int → List (GBe × Int) → Option (Int × List (GBe × Int))
def RcOk (rc : RC) (b : GBk) (pl : List Int) (h : Int) (n : Nat) : Prop := ∀ (k : Int) l, 0 ≤ k → k.toNat < n → InvE b pl l → ∃ l', rc b pl k h l = some (EE b pl h k.toNat, l') ∧ InvE b pl l'
theorem room8 {n : Nat} (h : n ≤ 1000) : aC 8 n = true := by simp [aC]; omega
theorem L2 : ∀ (p : List Int) (i c : Int), s9 p i c = some (.go (p.foldl max c))
 | [], _, _ => rfl
 | e :: p, i, c => by
  simp only [s9, L2 p, List.foldl_cons]
  have : (if c < e then e else c) = max c e := by split <;> omega
  rw [this]
theorem xQ {l : List Int} (h : l.length < 9223372036854775808) : oP l = some (mxL l) := by
 unfold oP
 rw [fA h, cond_true, L2]
 rfl
theorem getP {pl : List Int} {n : Nat} {s : Int} (hl : pl.length = n) (h0 : 0 ≤ s) (h1 : s.toNat < n) : getI pl s = some (hF pl s.toNat) := by
 unfold getI hF
 rw [if_pos h0, List.getElem?_eq_getElem (by omega)]
 rfl
theorem vy {rc : RC} {b : GBk} {pl : List Int} {h : Int} {s : Int} {N : Nat} (hp : pl.length = N) (je : 0 ≤ s) (hs : s.toNat < N) (hN : N ≤ 6) (hrc : RcOk rc b pl h s.toNat) {l : List (GBe × Int)} (hl : InvE b pl l) :
  ∀ (k0 k : Nat), k < k0 → k ≤ s.toNat → ∃ l', lbind (qC rc b pl s h l k0 ((k : Int) - 1)) (fun r => some r) (fun _ => some (0, l)) (fun _ _ => none) = some (frF (hF pl) (EE b pl h) (hF pl s.toNat) k, l') ∧ InvE b pl l'
 | 0, _, hk, _ => absurd hk (Nat.not_lt_zero _)
 | k0 + 1, 0, _, _ => by
  simp only [qC]
  rw [decide_eq_false (by omega), cond_false]
  exact ⟨l, rfl, hl⟩
 | k0 + 1, k + 1, hk, hks => by
  simp only [qC]
  rw [decide_eq_true (by omega), cond_true, getP hp (by omega) (by omega), getP hp je hs]
  have e : (((k + 1 : Nat) : Int) - 1).toNat = k := by omega
  simp only [Option.bind_some, e]
  unfold frF
  by_cases hh : hF pl k = hF pl s.toNat
  ·obtain ⟨l', e1, hl'⟩ := hrc (((k + 1 : Nat) : Int) - 1) l (by omega) (by omega) hl
   rw [show (hF pl k == hF pl s.toNat) = true by simpa using hh, cond_true, e1, if_pos hh, e]
   exact ⟨l', rfl, hl'⟩
  ·rw [show (hF pl k == hF pl s.toNat) = false by simpa using hh, cond_false, if_neg hh, ix (by omega) (by omega), show ((k + 1 : Nat) : Int) - 1 - 1 = (k : Int) - 1 by omega]
   exact vy hp je hs hN hrc hl k0 k (by omega) (by omega)
theorem v3 {rc : RC} {b : GBk} {pl : List Int} {h : Int} {s : Int} {N : Nat} (hp : pl.length = N) (je : 0 ≤ s) (hs : s.toNat < N) (hN : N ≤ 6) (hrc : RcOk rc b pl h s.toNat) {l : List (GBe × Int)} (hl : InvE b pl l) :
  ∃ l', sA rc b pl s h l = some (FF b pl h s.toNat, l') ∧ InvE b pl l' := by
 unfold sA FF
 have := vy hp je hs hN hrc hl 1000000 s.toNat (by omega) (Nat.le_refl _)
 rw [ix (by omega) (by omega)]
 rw [show ((s.toNat : Nat) : Int) - 1 = s - 1 by omega] at this
 exact this
theorem L3 {rc : RC} {b : GBk} {pl : List Int} {h : Int} {n : Nat} (hrc : RcOk rc b pl h n) : ∀ (p : List Int) (i : Int) (acc : List Int) (l : List (GBe × Int)), (∀ k ∈ p, 0 ≤ k ∧ k.toNat < n) → acc.length + p.length ≤ 1000 → InvE b pl l →
  ∃ l', nI rc b pl h p i acc l = some (.go (acc ++ p.map (fun k => EE b pl h k.toNat), l')) ∧ InvE b pl l'
 | [], i, acc, l, _, _, hl => ⟨l, by simp [nI], hl⟩
 | k :: p, i, acc, l, hk, hn, hl => by
  have h1 := hk k (List.mem_cons_self ..)
  obtain ⟨l1, e1, eX⟩ := hrc k l h1.1 h1.2 hl
  simp only [nI, e1, Option.bind_some]
  rw [room8 (by simp at hn ⊢; omega), cond_true]
  obtain ⟨l2, e2, ik⟩ := L3 hrc p (i + 1) (acc ++ [EE b pl h k.toNat]) l1 (fun k hk' => hk k (List.mem_cons_of_mem _ hk')) (by simp at hn ⊢; omega) eX
  exact ⟨l2, by rw [e2]; simp, ik⟩
theorem L4 {rc : RC} {b : GBk} {pl : List Int} {h : Int} {n : Nat} (hrc : RcOk rc b pl h n) {p : List Int} (hk : ∀ k ∈ p, 0 ≤ k ∧ k.toNat < n) (hn : p.length ≤ 1000) {l : List (GBe × Int)} (hl : InvE b pl l) :
  ∃ l', sB rc b pl p h l = some (p.map (fun k => EE b pl h k.toNat), l') ∧ InvE b pl l' := by
 obtain ⟨l', e, hl'⟩ := L3 hrc p 0 [] l hk (by simpa using hn) hl
 unfold sB
 rw [fA (by omega), cond_true, e]
 exact ⟨l', rfl, hl'⟩
theorem L5 : ∀ (l : List Int) (a : Int), adjB (a :: l) = true → ∀ m : Int, (∀ k ∈ a :: l, k < m) → (l.length : Int) < m - a
 | [], a, _, m, h => by have := h a (by simp); simp; omega
 | e :: l, a, h, m, hm => by
  have h' : (decide (a < e) && adjB (e :: l)) = true := h
  simp only [Bool.and_eq_true, decide_eq_true_eq] at h'
  have := L5 l e h'.2 m (fun k hk => hm k (List.mem_cons_of_mem _ hk))
  simp only [List.length_cons]
  omega
theorem HOk.few {n : Int} {s : GBs} (h : HOk n s) (hn : n ≤ 6) : s.Needs.length ≤ 6 := by
 cases e : s.Needs with
 | nil => simp
 | cons a l =>
  have h1 := h.ad
  rw [e] at h1
  have := L5 l a h1 n (fun k hk => (h.nd k (by rw [e]; exact hk)).2)
  have h2 := h.nd a (by rw [e]; simp)
  simp only [List.length_cons]
  omega
theorem getS {b : GBk} {s : Int} (h0 : 0 ≤ s) (h1 : s.toNat < b.Strokes.length) : ∃ x, getI b.Strokes s = some x ∧ b.Strokes[s.toNat]? = some x := by
 refine ⟨b.Strokes[s.toNat], ?_, List.getElem?_eq_getElem h1⟩
 unfold getI
 rw [if_pos h0, List.getElem?_eq_getElem h1]
theorem v5 {rc : RC} {b : GBk} (hb : BH b) {pl : List Int} (hp : pl.length = b.Strokes.length) {h : Int} {s : Int} (je : 0 ≤ s) (hs : s.toNat < b.Strokes.length) (hrc : RcOk rc b pl h s.toNat) {l : List (GBe × Int)} (hl : InvE b pl l) :
  ∃ l', sC rc b pl s h l = some (BB b pl h s.toNat, l') ∧ InvE b pl l' := by
 have hns := hb.ns
 obtain ⟨x, e1, e2⟩ := getS je hs
 have hx := hb.s e2
 have hfew := hx.few (by omega)
 obtain ⟨l1, f1, eX⟩ := v3 hp je hs (by omega) hrc hl
 obtain ⟨l2, f2, ik⟩ := L4 hrc (p := x.Needs) (fun k hk => by have := hx.nd k hk; omega) (by omega) eX
 unfold sC
 simp only [f1, e1, f2, Option.bind_some]
 rw [xQ (by simp; omega)]
 simp only [Option.bind_some]
 rw [xQ (by simp)]
 refine ⟨l2, ?_, ik⟩
 simp only [Option.bind_some, EF, nF, e2]
 rfl
theorem EG {b : GBk} {pl : List Int} {s : Int} (h0 : 0 ≤ s) (h1 : s.toNat < b.Strokes.length) : v7 b pl s = some (dF b 0 s.toNat) := by
 obtain ⟨x, e1, e2⟩ := getS h0 h1
 simp [v7, e1, dF, e2]
theorem P3 {b : GBk} {pl : List Int} {s : Int} (h0 : 0 ≤ s) (h1 : s.toNat < b.Strokes.length) : v8 b pl s = some (dF b 1 s.toNat) := by
 obtain ⟨x, e1, e2⟩ := getS h0 h1
 simp [v8, e1, dF, e2]
theorem EH {rc : RC} {b : GBk} (hb : BH b) {pl : List Int} (hp : pl.length = b.Strokes.length) {h : Int} (hh : h = 0 ∨ h = 1) {s : Int} (je : 0 ≤ s) (hs : s.toNat < b.Strokes.length) (hrc : RcOk rc b pl h s.toNat) {l : List (GBe × Int)} (hl : InvE b pl l) :
  ∃ l', v9 rc b pl s h l = some (EE b pl h s.toNat, l') ∧ InvE b pl l' := by
 unfold v9
 cases hm : mapHas dK l ⟨s, h⟩ with
 | true =>
  rw [cond_true, hl.has hm]
  exact ⟨l, rfl, hl⟩
 | false =>
  obtain ⟨l1, e1, eX⟩ := v5 hb hp je hs hrc hl
  have h1 := BB_b hb pl h hs
  have h2 := hb.d h s.toNat
  rw [cond_false, e1, Option.bind_some]
  rcases hh with rfl | rfl
  ·rw [EG je hs]
   simp only [Option.bind_some, beq_self_eq_true, cond_true]
   rw [ix (by omega) (by omega), ← EE_eq hb]
   exact ⟨_, rfl, eX.set s 0⟩
  ·rw [P3 je hs]
   simp only [Option.bind_some, beq_self_eq_true, cond_true, show ((1 : Int) == 0) = false from rfl, cond_false]
   rw [ix (by omega) (by omega), ← EE_eq hb]
   exact ⟨_, rfl, eX.set s 1⟩
theorem xR {b : GBk} (hb : BH b) {pl : List Int} (hp : pl.length = b.Strokes.length) {h : Int} (hh : h = 0 ∨ h = 1) : ∀ (f n : Nat), n ≤ f → n ≤ b.Strokes.length → RcOk (gEnd f) b pl h n
 | 0, n, hn, _ => fun k l h0 h1 hl => absurd h1 (by omega)
 | f + 1, n, hn, hnl => fun k l h0 h1 hl => EH hb hp hh h0 (by omega) (xR hb hp hh f k.toNat (by omega) (by omega)) hl
section
variable {b : GBk} (hb : BH b) {pl : List Int} (hp : pl.length = b.Strokes.length) {h : Int} (hh : h = 0 ∨ h = 1) {l : List (GBe × Int)} (hl : InvE b pl l)
include hb hp hh hl
theorem EI {s : Int} (h0 : 0 ≤ s) (h1 : s.toNat < b.Strokes.length) : ∃ l', EJ b pl s h l = some (FF b pl h s.toNat, l') ∧ InvE b pl l' :=
 v3 hp h0 h1 hb.ns.2 (xR hb hp hh 8 s.toNat (by have := hb.ns; omega) (by omega)) hl
theorem EK {s : Int} (h0 : 0 ≤ s) (h1 : s.toNat < b.Strokes.length) : ∃ l', EL b pl s h l = some (BB b pl h s.toNat, l') ∧ InvE b pl l' :=
 v5 hb hp h0 h1 (xR hb hp hh 8 s.toNat (by have := hb.ns; omega) (by omega)) hl
theorem L6 {p : List Int} (hk : ∀ k ∈ p, 0 ≤ k ∧ k.toNat < b.Strokes.length) (hn : p.length ≤ 1000) : ∃ l', xS b pl p h l = some (p.map (fun k => EE b pl h k.toNat), l') ∧ InvE b pl l' :=
 L4 (xR hb hp hh 8 b.Strokes.length (by have := hb.ns; omega) (Nat.le_refl _)) hk hn hl
end
section
variable {b : GBk} (hb : BH b) {pl : List Int} (hp : pl.length = b.Strokes.length) {l : List (GBe × Int)} (hl : InvE b pl l)
include hb hp hl
theorem EM {p : List Int} (hk : ∀ k ∈ p, 0 ≤ k ∧ k.toNat < b.Strokes.length) (hn : p.length ≤ 1000) : ∃ l', vA b pl p l = some (⟨mxL (p.map fun k => EE b pl 0 k.toNat), mxL (p.map fun k => EE b pl 1 k.toNat)⟩, l') ∧ InvE b pl l' := by
 obtain ⟨l1, e1, eX⟩ := L6 hb hp (.inl rfl) hl hk hn
 obtain ⟨l2, e2, ik⟩ := L6 hb hp (.inr rfl) eX hk hn
 unfold vA
 simp only [e1, Option.bind_some]
 rw [xQ (by simp; omega)]
 simp only [e2, Option.bind_some]
 rw [xQ (by simp; omega)]
 exact ⟨l2, rfl, ik⟩
theorem EN {s : Int} (h0 : 0 ≤ s) (h1 : s.toNat < b.Strokes.length) : ∃ l', vB b pl s l = some (BB b pl 1 s.toNat - FF b pl 1 s.toNat, l') ∧ InvE b pl l' := by
 obtain ⟨l1, e1, eX⟩ := EK hb hp (.inr rfl) hl h0 h1
 obtain ⟨l2, e2, ik⟩ := EI hb hp (.inr rfl) eX h0 h1
 have h2 := BB_b hb pl 1 h1
 have h3 : 0 ≤ FF b pl 1 s.toNat := pK (fun k => Ed_nn hb.nd (fun k => (hb.d 1 k).1) k) _
 have h4 : FF b pl 1 s.toNat ≤ BB b pl 1 s.toNat := xe _
 unfold vB
 simp only [e1, e2, Option.bind_some]
 rw [ix (by omega) (by omega)]
 exact ⟨l2, rfl, ik⟩
end
def itsF (bd : Int) : List GBs → Int → List Int
 | [], _ => []
 | s :: p, c => if s.Board = bd then c :: itsF bd p (c + 1) else itsF bd p (c + 1)
theorem its_b {bd : Int} : ∀ (p : List GBs) (c : Int), ∀ k ∈ itsF bd p c, c ≤ k ∧ k < c + p.length
 | [], _, _, h => by cases h
 | s :: p, c, k, h => by
  unfold itsF at h
  simp only [List.length_cons]
  split at h
  ·rcases List.mem_cons.1 h with rfl | h
   ·omega
   ·have := its_b p (c + 1) k h; omega
  ·have := its_b p (c + 1) k h; omega
theorem vC {bd : Int} : ∀ (p : List GBs) (c : Int), (itsF bd p c).length ≤ p.length
 | [], _ => Nat.le_refl _
 | s :: p, c => by
  have := vC (bd := bd) p (c + 1)
  unfold itsF
  split
  ·simp only [List.length_cons]; omega
  ·simp only [List.length_cons]; omega
theorem qD {bd : Int} : ∀ (p : List GBs) (c : Int) (acc : List Int), acc.length + p.length ≤ 1000 → mH bd p c acc = some (.go (acc ++ itsF bd p c))
 | [], _, acc, _ => by simp [mH, itsF]
 | s :: p, c, acc, hn => by
  simp only [List.length_cons] at hn
  simp only [mH, itsF]
  by_cases h : s.Board = bd
  ·rw [show (s.Board == bd) = true by simpa using h, cond_true, room8 (by simp; omega), cond_true, qD p (c + 1) _ (by simp; omega), if_pos h]
   simp
  ·rw [show (s.Board == bd) = false by simpa using h, cond_false, qD p (c + 1) _ (by omega), if_neg h]
def DN (b : GBk) (pl : List Int) (bd : Int) : GSpan := ⟨mxL ((itsF bd b.Strokes 0).map fun k => EE b pl 0 k.toNat), mxL ((itsF bd b.Strokes 0).map fun k => EE b pl 1 k.toNat)⟩
theorem EO {b : GBk} (hb : BH b) {pl : List Int} (hp : pl.length = b.Strokes.length) (bd : Int) {l : List (GBe × Int)} (hl : InvE b pl l) : ∃ l', vD b pl bd l = some (DN b pl bd, l') ∧ InvE b pl l' := by
 have hns := hb.ns
 have h1 := vC (bd := bd) b.Strokes 0
 obtain ⟨l', e, hl'⟩ := EM hb hp hl (p := itsF bd b.Strokes 0) (fun k hk => by have := its_b b.Strokes 0 k hk; omega) (by omega)
 unfold vD
 rw [fA (by omega), cond_true, qD b.Strokes 0 [] (by simp; omega), List.nil_append]
 simp only [lbind, e, Option.bind_some]
 exact ⟨l', rfl, hl'⟩
end Go.V
end
section
namespace Go.V
open Go Go.Proofs


def vE (xb : GBk) (xp : List Int) (aO : Int) (l0 : List (GBe × Int)) : Option ((Int) × List (GBe × Int)) := Option.bind (vD xb xp aO l0) (fun r1 => Option.bind (getI xb.Boards aO) (fun x2 => cond (decide (r1.1.Low > x2)) (some (3, r1.2)) (cond (decide (r1.1.High > x2)) (some (2, r1.2)) (some (1, r1.2)))))
theorem L7 (xb : GBk) (xp : List Int) (aO : Int) (l0 : List (GBe × Int)) (R : (Int) × List (GBe × Int)) (h : vE xb xp aO l0 = some R) : VUpd Tryz.prog G0 76 (fun β => [.agg [.lit (.int .i64 xb.Apprentices), .sl (aa eI xb.Boards) (List.length xb.Boards) false, .sl (aa cGBs xb.Strokes) (List.length xb.Strokes) false, .sl (aa eI xp) (List.length xp) false, .mp β], .lit (.int .i64 aO)]) (encM aP cI l0) (encM aP cI R.2) (fun _ => .lit (.int .i64 R.1)) := by
 intro bj nx hlt
 have aQ := gF (β := bj) (nx := nx) hlt
 refine ar.run mixed Tryz.call76 Tryz.func76 rfl (by simp [Tryz.ntmps76]; kernel_rfl) ?_
 obtain ⟨KF, h, kF, kN⟩ := cO h
 simp only [vE] at h
 simp only [vz, mq, mqm, vsi, tyf, mqt, aQ, nm, seval]
 refine mh (fun tm => tm 1 = .lit (.int .i64 aO) ∧ tm 2 = .ptr nx 0 ∧ True) (by refine ⟨?_, ?_, trivial⟩ <;> first | (simp only [ua, bP, aQ, nm, seval] <;> rfl) | rfl) ?_
 rintro tm ⟨e3, e4, _⟩
 obtain ⟨r5, o6, h⟩ := optI h kN
 try simp only [hs] at h
 simp only [vz, mq, mqm, vsi, tyf, mqt, aQ, e3, e4, nm, seval]
 refine dkupd (VUpd.at (β := bj) (y := (fun _ => .agg (aL r5.1))) (P4 _ _ _ _ _ o6) (by omega) (by first | rfl | assumption | (simp only [aS, aT, aQ, nm, seval] <;> rfl)) (by first | rfl | (simp only [nrm, aI, @eh, @gA] <;> rfl)) (g9 (fun _ => rfl) _)) ?_
 refine gW (fun tm => tm 1 = .lit (.int .i64 aO) ∧ tm 2 = .ptr nx 0 ∧ tm 9 = .agg (aL r5.1) ∧ True) (by refine ⟨e3, e4, ?_, trivial⟩ <;> first | (simp only [ua, bP, aQ, e3, e4, nm, seval] <;> rfl) | rfl) ?_
 rintro tm ⟨e7, e8, e9, _⟩
 obtain ⟨xT, iP, h⟩ := optI h kN
 try simp only [hs] at h
 simp only [vz, mq, mqm, vsi, tyf, mqt, aQ, e7, e8, e9, (aj iP), nm, seval]
 refine mz ⟨?_, ?_⟩
 ·simp only [m0, m2, hJ, m3, and_true, true_and]
  repeat' (first | exact trivial | refine And.intro ?_ ?_ | rw [hJ] | rw [m4] | exact Or.inl (by decide +kernel) | exact Or.inl (by dsimp only; decide +kernel) | (refine Or.inr ⟨?_, ?_⟩ <;> simp; done) | (refine Or.inr ⟨?_, ?_⟩ <;> simp <;> omega) | (refine Or.inr ⟨?_, ?_⟩ <;> simp [VEff.wr] <;> omega))
 cases bk : (decide (r5.1.Low > xT))
 ·simp only [bk, hs] at h
  cases fB : (decide (r5.1.High > xT))
  ·simp only [fB, hs] at h
   try simp only [vz, mq, mqm, vsi, tyf, mqt, aQ, e7, e8, e9, (aj iP), bk, fB, nm, seval]
   refine cL (x := (.lit (.int .i64 1))) (by first | (simp only [Tryz.results76, resV, resL, resV1, cF, cE, uw, cr, tyf, mqt, aQ, (aj iP), bk, fB, nm, seval] <;> rfl) | rfl) ?_
   obtain rfl := kF _ h
   refine ⟨(by first | rfl | assumption | (simp only [aS, aT, aQ, nm, seval] <;> rfl)), ?_⟩
   exact sq_of (jw (by first | (simp only [tre, tytre, mqr, Bool.and_self]; done) | rfl) rfl)
  simp only [fB, hs] at h
  try simp only [vz, mq, mqm, vsi, tyf, mqt, aQ, e7, e8, e9, (aj iP), bk, fB, nm, seval]
  refine cL (x := (.lit (.int .i64 2))) (by first | (simp only [Tryz.results76, resV, resL, resV1, cF, cE, uw, cr, tyf, mqt, aQ, (aj iP), bk, fB, nm, seval] <;> rfl) | rfl) ?_
  obtain rfl := kF _ h
  refine ⟨(by first | rfl | assumption | (simp only [aS, aT, aQ, nm, seval] <;> rfl)), ?_⟩
  exact sq_of (jw (by first | (simp only [tre, tytre, mqr, Bool.and_self]; done) | rfl) rfl)
 simp only [bk, hs] at h
 try simp only [vz, mq, mqm, vsi, tyf, mqt, aQ, e7, e8, e9, (aj iP), bk, nm, seval]
 refine cL (x := (.lit (.int .i64 3))) (by first | (simp only [Tryz.results76, resV, resL, resV1, cF, cE, uw, cr, tyf, mqt, aQ, (aj iP), bk, nm, seval] <;> rfl) | rfl) ?_
 obtain rfl := kF _ h
 refine ⟨(by first | rfl | assumption | (simp only [aS, aT, aQ, nm, seval] <;> rfl)), ?_⟩
 exact sq_of (jw (by first | (simp only [tre, tytre, mqr, Bool.and_self]; done) | rfl) rfl)
def mI (ag : GBk) (ae : List Int) : List Int → Int → (List Int) → (List (GBe × Int)) → Option (LOut ((List Int) × Int) ((List Int) × (List (GBe × Int))))
 | [], gg, bt, bx => some (.go (bt, bx))
 | e0 :: p0, gg, bt, bx => Option.bind (vE ag ae gg bx) (fun r4 => cond (aC 8 (List.length (bt ++ [r4.1]))) (mI ag ae p0 (gg + 1) (bt ++ [r4.1]) r4.2) none)
def vm (ag : GBk) (ae : List Int) : Option ((List Int) × Int) := Option.bind (sD ag) (fun r1 => cond (r1) (Option.bind (sE ag ae) (fun r2 => cond (r2) (cond (au ag.Boards) (lbind (mI ag ae ag.Boards 0 ([] : List Int) ([] : List (GBe × Int))) (fun r6 => some r6) (fun c5 => some (c5.1, 0)) (fun _ _ => none)) none) (some (([] : List Int), 2)))) (some (([] : List Int), 2)))
theorem Pm (ag : GBk) (ae : List Int) (R : (List Int) × Int) (h : vm ag ae = some R) : ai Tryz.prog G0 36 [.agg (cGBk ag), .sl (aa eI ae) (List.length ae) false] (.tree (.tup [.sl (aa eI R.1) (List.length R.1) false, .lit (.int .i64 R.2)])) := by
 refine ai.runR mixed Tryz.call36 Tryz.func36 rfl (by simp [Tryz.ntmps36]; kernel_rfl) ?_
 obtain ⟨KF, h, kF, kN⟩ := cO h
 simp only [vm] at h
 obtain ⟨r7, o8, h⟩ := optI h kN
 try simp only [hs] at h
 simp only [vz, mq, mqm, vsi, tyf, mqt, nm, seval]
 refine ktree (args0 := [.agg (cGBk ag)]) (by first | (simp only [nrm, aI, @eh] <;> rfl) | rfl) (by simp only [tre, tytre, mqr, Bool.and_self]) (L8 _ _ o8) ?_
 refine bZ (fun tm => tm 1 = .sl (aa eI ae) (List.length ae) false ∧ tm 2 = .ptr 0 0 ∧ tm 10 = .lit (.bool r7) ∧ True) (by refine ⟨?_, ?_, ?_, trivial⟩ <;> first | (simp only [ua, bP, nm, seval] <;> rfl) | rfl) ?_
 rintro tm ⟨e9, aV, aZ, _⟩
 cases bk : (r7)
 ·simp only [bk, hs] at h
  try simp only [vz, mq, mqm, vsi, tyf, mqt, e9, aV, aZ, bk, nm, seval]
  refine cL (x := (.tup [.lit (.slice none 0 0), .lit (.int .i64 2)])) (by first | (simp only [Tryz.results36, resV, resL, resV1, cF, cE, uw, cr, tyf, mqt, bk, nm, seval] <;> rfl) | rfl) ?_
  obtain rfl := kF _ h
  refine gw ?_ ?_
  ·simp only [tre, tytre, mqr, Bool.and_self]
  ·first | (simp only [outV, uw, gG, cr, tyf, mqt, nrm, aI, e9, aV, aZ, bk, nm, seval] <;> rfl) | rfl
 simp only [bk, hs] at h
 obtain ⟨vF, lK, h⟩ := optI h kN
 try simp only [hs] at h
 simp only [vz, mq, mqm, vsi, tyf, mqt, e9, aV, aZ, bk, nm, seval]
 refine ktree (args0 := [.agg (cGBk ag), .sl (aa eI ae) (List.length ae) false]) (by first | (simp only [nrm, aI, @eh] <;> rfl) | rfl) (by simp only [tre, tytre, mqr, Bool.and_self]) (L9 _ _ _ lK) ?_
 refine bZ (fun tm => tm 1 = .sl (aa eI ae) (List.length ae) false ∧ tm 2 = .ptr 0 0 ∧ tm 12 = .lit (.bool false) ∧ tm 15 = .lit (.bool vF) ∧ True) (by refine ⟨e9, aV, ?_, ?_, trivial⟩ <;> first | (simp only [ua, bP, e9, aV, aZ, bk, nm, seval] <;> rfl) | rfl) ?_
 rintro tm ⟨bn, bX, bR, bN, _⟩
 cases c8 : (vF)
 ·simp only [c8, hs] at h
  try simp only [vz, mq, mqm, vsi, tyf, mqt, bk, bn, bX, bR, bN, c8, nm, seval]
  refine cL (x := (.tup [.lit (.slice none 0 0), .lit (.int .i64 2)])) (by first | (simp only [Tryz.results36, resV, resL, resV1, cF, cE, uw, cr, tyf, mqt, bk, c8, nm, seval] <;> rfl) | rfl) ?_
  obtain rfl := kF _ h
  refine gw ?_ ?_
  ·simp only [tre, tytre, mqr, Bool.and_self]
  ·first | (simp only [outV, uw, gG, cr, tyf, mqt, nrm, aI, bk, bn, bX, bR, bN, c8, nm, seval] <;> rfl) | rfl
 simp only [c8, hs] at h
 try simp only [vz, mq, mqm, vsi, tyf, mqt, bk, bn, bX, bR, bN, c8, nm, seval]
 refine kopen ?_
 rw [Cz]
 refine ar.run mixed Tryz.call69 Tryz.func69 rfl (by simp [Tryz.ntmps69]; kernel_rfl) ?_
 try simp only [vz, mq, mqm, vsi, tyf, mqt, bk, c8, nm, seval]
 refine cL (x := (.agg ((cGBk ag) ++ [.sl (aa eI ae) (List.length ae) false] ++ [.mp 21]))) (by first | (simp only [Tryz.results69, resV, resL, resV1, cF, cE, uw, cr, tyf, mqt, bk, c8, nm, seval] <;> rfl) | rfl) ?_
 cases eC : (au ag.Boards)
 ·simp only [eC, hs] at h
  exact absurd h kN
 simp only [eC, hs] at h
 simp only [vz, mq, mqm, vsi, tyf, mqt, bk, c8, bn, bX, bR, bN, eC, nm, seval]
 obtain ⟨EP, h, ES, lL, ET, im⟩ := eN h kN
 obtain ⟨EU, qE, h⟩ := call4 h
 obtain ⟨EV, iq⟩ : ∃ I : Nat → St → Prop, I = (fun m st => ∃ (fN : List Int) (aU : Int) (ba : List Int) (eD : List (GBe × Int)) (eY : VV), m = List.length fN ∧ 0 ≤ aU ∧ List.drop (Int.toNat aU) ag.Boards = fN ∧ st.df = [] ∧ 29 ≤ st.nx ∧ st.H 21 = some (.map (encM aP cI eD)) ∧ st.H 15 = some (.cells (some 92) ((cGBk ag) ++ [.sl (aa eI ae) (List.length ae) false] ++ [.mp 21])) ∧ st.tm 6 = .ptr 15 0 ∧ st.tm 23 = .lit (.int .i64 (List.length ag.Boards : Int)) ∧ st.tm 7 = eY ∧ st.tm 24 = .lit (.int .i64 aU) ∧ ((∃ (β : Nat) (el : Option TypeId), eY = .ref β 0 (List.length ba) 1 (List.length ba) ∧ β < st.nx ∧ β ≠ 21 ∧ β ≠ 15 ∧ st.H β = some (.cells el (aa eI ba))) ∨ (eY = .lit (.slice none 0 0) ∧ ba = [])) ∧ EP (EU fN aU ba eD)) := ⟨_, rfl⟩
 refine loopK mixed (by kernel_rfl) EV (List.length ag.Boards) (by rw [iq]; refine ⟨ag.Boards, 0, ([] : List Int), ([] : List (GBe × Int)), .lit (.slice none 0 0), rfl, Int.le_refl _, rfl, rfl, (show 29 ≤ 29 by omega), ?_, ?_, ?_, ?_, ?_, ?_, Or.inr ⟨rfl, rfl⟩, h⟩ <;> first | (simp only [ua, bP, bk, c8, bn, bX, bR, bN, nm, seval] <;> rfl) | rfl) ?_
 rintro m ⟨tm, H, eE, df⟩ hinv
 rw [iq] at hinv
 obtain ⟨fN, aU, ba, eD, eY, rfl, cj, cJ, hdf, qF, eF, eG, bK, cg, cn, bp, gh, h⟩ := hinv
 simp only at hdf qF eF eG bK cg cn bp gh
 have eZ := fg (m := 29) (b := eE) (by omega)
 subst hdf qE
 rcases gh with ⟨iS, gi, rfl, qG, qH, qI, fh⟩ | ⟨rfl, rfl⟩
 ·have jE := gF qG
  have jF := ne_f qH
  have jG := ne_f qI
  cases fN with
  | nil =>
   have fD : (decide (aU < (List.length ag.Boards : Int))) = false := dR cj cJ
   simp only [mI, hs, reduceCtorEq] at h
   replace h := lL _ h
   try dsimp only at h
   try simp only [hs] at h
   try simp only [vz, mq, mqm, vsi, tyf, mqt, bk, c8, eC, eZ, bK, cg, cn, bp, eF, eG, jE, fh, jF, jG, fD, nm, seval]
   refine cL (x := (.tup [.ref iS 0 (List.length ba) 1 (List.length ba), .lit (.int .i64 0)])) (by first | (simp only [Tryz.results36, resV, resL, resV1, cF, cE, uw, cr, tyf, mqt, bk, c8, eC, eZ, eF, eG, jE, fh, jF, jG, fD, nm, seval] <;> rfl) | rfl) ?_
   obtain rfl := kF _ h
   refine gw ?_ ?_
   ·simp only [tre, tytre, mqr, Bool.and_self]
   ·first | (simp only [outV, uw, gG, cr, tyf, mqt, nrm, aI, bk, c8, eC, eZ, bK, cg, cn, bp, eF, eG, jE, fh, jF, jG, fD, nm, seval] <;> rfl) | rfl
  | cons dY fN =>
   have qJ : (decide (aU < (List.length ag.Boards : Int))) = true := dQ cj cJ
   have lM := cA cj cJ
   have qK := dN cj cJ eC
   simp only [mI, hs, reduceCtorEq] at h
   obtain ⟨gI, vG, h⟩ := optI h im
   try simp only [hs] at h
   simp only [vz, mq, mqm, vsi, tyf, mqt, bk, c8, eC, eZ, bK, cg, cn, bp, eF, eG, jE, fh, jF, jG, qJ, (aj lM), qK, nm, seval]
   refine kupd (VUpd.at (β := 21) (y := (fun _ => .lit (.int .i64 gI.1))) (L7 _ _ _ _ _ vG) (by omega) (by first | rfl | assumption | (simp only [aS, aT, eZ, eF, eG, jE, fh, jF, jG, nm, seval] <;> rfl)) (by first | rfl | (simp only [nrm, aI, @eh, @gA] <;> rfl)) (g9 (fun _ => rfl) _)) ?_
   refine gW (fun tm => tm 6 = .ptr 15 0 ∧ tm 23 = .lit (.int .i64 (List.length ag.Boards : Int)) ∧ tm 24 = .lit (.int .i64 aU) ∧ tm 27 = .ref iS 0 (List.length ba) 1 (List.length ba) ∧ tm 30 = .lit (.int .i64 gI.1) ∧ True) (by refine ⟨bK, cg, bp, ?_, ?_, trivial⟩ <;> first | (simp only [ua, bP, bk, c8, eZ, bK, cg, cn, bp, eF, eG, jE, fh, jF, jG, qJ, qK, nm, seval] <;> rfl) | rfl) ?_
   rintro tm ⟨cS, bV, ck, bz, b4, _⟩
   have gJ := And.intro bk (And.intro c8 (And.intro eC (And.intro eZ (And.intro eF (And.intro eG (And.intro jE (And.intro fh (And.intro jF (And.intro jG (And.intro qJ qK))))))))))
   cases jH : (aC 8 (List.length (ba ++ [gI.1])))
   ·simp only [jH, hs] at h
    exact absurd h im
   simp only [jH, hs] at h
   simp only [vz, mq, mqm, vsi, tyf, mqt, gJ, (aj lM), cS, bV, ck, bz, b4, jH, nm, seval]
   refine k_app (w := 1) (enc := eI) (xs := ba) (ys := ([gI.1])) (el := gi) (ff := (some 60)) (fun _ => rfl) iH iG Tryz.underlying51 (by first | rfl | assumption | (simp only [aS, aT, fk, gJ, nm, seval] <;> rfl) | (simp only [aS, aT, cP, db, cY, cZ, tyf, mqt, gJ, (aj lM), cS, bV, ck, bz, b4, jH, nm, seval]; done)) (by first | rfl | assumption | (simp only [aS, aT, fk, gJ, nm, seval] <;> rfl) | (simp only [aS, aT, cP, db, cY, cZ, tyf, mqt, gJ, (aj lM), cS, bV, ck, bz, b4, jH, nm, seval]; done)) (Nat.zero_lt_succ _) jH ?_
   simp only [vz, mq, mqm, vsi, tyf, mqt, gJ, (aj lM), cS, bV, ck, bz, b4, jH, nm, seval]
   exact ⟨List.length fN, Nat.lt_succ_self _, by rw [iq]; refine ⟨fN, aU + 1, (ba ++ [gI.1]), gI.2, .ref (eE + 8) 0 (List.length (ba ++ [gI.1])) 1 (List.length (ba ++ [gI.1])), rfl, Int.le_trans cj (Int.le_add_one (Int.le_refl _)), bJ cj cJ, rfl, (show 29 ≤ eE + 12 by omega), ?_, ?_, cS, bV, ?_, ?_, Or.inl ⟨eE + 8, (sameEl gi 60), rfl, (by first | omega | (simp only [nm, seval]; done) | (simp only [nm, seval]; omega)), (by first | omega | (intro hh; simp only [gJ, reduceCtorEq] at hh)), (by first | omega | (intro hh; simp only [gJ, reduceCtorEq] at hh)), ?_⟩, (by first | exact h | (simp only [gJ]; exact h))⟩ <;> first | (simp only [ua, bP, gJ, cS, bV, ck, bz, b4, nm, seval] <;> rfl) | rfl⟩
 ·cases fN with
  | nil =>
   have da : (decide (aU < (List.length ag.Boards : Int))) = false := dR cj cJ
   simp only [mI, hs, reduceCtorEq] at h
   replace h := lL _ h
   try dsimp only at h
   try simp only [hs] at h
   try simp only [vz, mq, mqm, vsi, tyf, mqt, bk, c8, eC, eZ, bK, cg, cn, bp, eF, eG, da, nm, seval]
   refine cL (x := (.tup [.lit (.slice none 0 0), .lit (.int .i64 0)])) (by first | (simp only [Tryz.results36, resV, resL, resV1, cF, cE, uw, cr, tyf, mqt, bk, c8, eC, eZ, eF, eG, da, nm, seval] <;> rfl) | rfl) ?_
   obtain rfl := kF _ h
   refine gw ?_ ?_
   ·simp only [tre, tytre, mqr, Bool.and_self]
   ·first | (simp only [outV, uw, gG, cr, tyf, mqt, nrm, aI, bk, c8, eC, eZ, bK, cg, cn, bp, eF, eG, da, nm, seval] <;> rfl) | rfl
  | cons dY fN =>
   have jR : (decide (aU < (List.length ag.Boards : Int))) = true := dQ cj cJ
   have nJ := cA cj cJ
   have qL := dN cj cJ eC
   simp only [mI, hs, reduceCtorEq] at h
   obtain ⟨iT, EW, h⟩ := optI h im
   try simp only [hs] at h
   simp only [vz, mq, mqm, vsi, tyf, mqt, bk, c8, eC, eZ, bK, cg, cn, bp, eF, eG, jR, (aj nJ), qL, nm, seval]
   refine kupd (VUpd.at (β := 21) (y := (fun _ => .lit (.int .i64 iT.1))) (L7 _ _ _ _ _ EW) (by omega) (by first | rfl | assumption | (simp only [aS, aT, eZ, eF, eG, nm, seval] <;> rfl)) (by first | rfl | (simp only [nrm, aI, @eh, @gA] <;> rfl)) (g9 (fun _ => rfl) _)) ?_
   refine gW (fun tm => tm 6 = .ptr 15 0 ∧ tm 23 = .lit (.int .i64 (List.length ag.Boards : Int)) ∧ tm 24 = .lit (.int .i64 aU) ∧ tm 27 = .lit (.slice none 0 0) ∧ tm 30 = .lit (.int .i64 iT.1) ∧ True) (by refine ⟨bK, cg, bp, ?_, ?_, trivial⟩ <;> first | (simp only [ua, bP, bk, c8, eZ, bK, cg, cn, bp, eF, eG, jR, qL, nm, seval] <;> rfl) | rfl) ?_
   rintro tm ⟨jx, jy, eu, fz, du, _⟩
   have iU := And.intro bk (And.intro c8 (And.intro eC (And.intro eZ (And.intro eF (And.intro eG (And.intro jR qL))))))
   cases k6 : (aC 8 (List.length (([] : List Int) ++ [iT.1])))
   ·simp only [k6, hs] at h
    exact absurd h im
   simp only [k6, hs] at h
   simp only [vz, mq, mqm, vsi, tyf, mqt, iU, (aj nJ), jx, jy, eu, fz, du, k6, nm, seval]
   refine kJ (w := 1) (enc := eI) (ys := ([iT.1])) (ff := (some 60)) (fun _ => rfl) iH iG Tryz.underlying51 (by first | rfl | assumption | (simp only [aS, aT, fk, iU, nm, seval] <;> rfl) | (simp only [aS, aT, cP, db, cY, cZ, tyf, mqt, iU, (aj nJ), jx, jy, eu, fz, du, k6, nm, seval]; done)) (Nat.zero_lt_succ _) k6 ?_
   simp only [vz, mq, mqm, vsi, tyf, mqt, iU, (aj nJ), jx, jy, eu, fz, du, k6, nm, seval]
   exact ⟨List.length fN, Nat.lt_succ_self _, by rw [iq]; refine ⟨fN, aU + 1, (([] : List Int) ++ [iT.1]), iT.2, .ref (eE + 8) 0 (List.length (([] : List Int) ++ [iT.1])) 1 (List.length (([] : List Int) ++ [iT.1])), rfl, Int.le_trans cj (Int.le_add_one (Int.le_refl _)), bJ cj cJ, rfl, (show 29 ≤ eE + 12 by omega), ?_, ?_, jx, jy, ?_, ?_, Or.inl ⟨eE + 8, (some 60), rfl, (by first | omega | (simp only [nm, seval]; done) | (simp only [nm, seval]; omega)), (by first | omega | (intro hh; simp only [iU, reduceCtorEq] at hh)), (by first | omega | (intro hh; simp only [iU, reduceCtorEq] at hh)), ?_⟩, (by first | exact h | (simp only [iU]; exact h))⟩ <;> first | (simp only [ua, bP, iU, jx, jy, eu, fz, du, nm, seval] <;> rfl) | rfl⟩
def lN (ag : GBk) (ae : List Int) : List GBs → Int → (List Int) → (List (GBe × Int)) → Option (LOut ((List Int) × Int) ((List Int) × (List (GBe × Int))))
 | [], gg, bt, bx => some (.go (bt, bx))
 | e0 :: p0, gg, bt, bx => Option.bind (vB ag ae gg bx) (fun r4 => cond (aC 8 (List.length (bt ++ [r4.1]))) (lN ag ae p0 (gg + 1) (bt ++ [r4.1]) r4.2) none)
def vn (ag : GBk) (ae : List Int) : Option ((List Int) × Int) := Option.bind (sD ag) (fun r1 => cond (r1) (Option.bind (sE ag ae) (fun r2 => cond (r2) (cond (au ag.Strokes) (lbind (lN ag ae ag.Strokes 0 ([] : List Int) ([] : List (GBe × Int))) (fun r6 => some r6) (fun c5 => some (c5.1, 0)) (fun _ _ => none)) none) (some (([] : List Int), 2)))) (some (([] : List Int), 2)))
theorem Pn (ag : GBk) (ae : List Int) (R : (List Int) × Int) (h : vn ag ae = some R) : ai Tryz.prog G0 37 [.agg (cGBk ag), .sl (aa eI ae) (List.length ae) false] (.tree (.tup [.sl (aa eI R.1) (List.length R.1) false, .lit (.int .i64 R.2)])) := by
 refine ai.runR mixed Tryz.call37 Tryz.func37 rfl (by simp [Tryz.ntmps37]; kernel_rfl) ?_
 obtain ⟨KF, h, kF, kN⟩ := cO h
 simp only [vn] at h
 obtain ⟨r7, o8, h⟩ := optI h kN
 try simp only [hs] at h
 simp only [vz, mq, mqm, vsi, tyf, mqt, nm, seval]
 refine ktree (args0 := [.agg (cGBk ag)]) (by first | (simp only [nrm, aI, @eh] <;> rfl) | rfl) (by simp only [tre, tytre, mqr, Bool.and_self]) (L8 _ _ o8) ?_
 refine bZ (fun tm => tm 1 = .sl (aa eI ae) (List.length ae) false ∧ tm 2 = .ptr 0 0 ∧ tm 10 = .lit (.bool r7) ∧ True) (by refine ⟨?_, ?_, ?_, trivial⟩ <;> first | (simp only [ua, bP, nm, seval] <;> rfl) | rfl) ?_
 rintro tm ⟨e9, aV, aZ, _⟩
 cases bk : (r7)
 ·simp only [bk, hs] at h
  try simp only [vz, mq, mqm, vsi, tyf, mqt, e9, aV, aZ, bk, nm, seval]
  refine cL (x := (.tup [.lit (.slice none 0 0), .lit (.int .i64 2)])) (by first | (simp only [Tryz.results37, resV, resL, resV1, cF, cE, uw, cr, tyf, mqt, bk, nm, seval] <;> rfl) | rfl) ?_
  obtain rfl := kF _ h
  refine gw ?_ ?_
  ·simp only [tre, tytre, mqr, Bool.and_self]
  ·first | (simp only [outV, uw, gG, cr, tyf, mqt, nrm, aI, e9, aV, aZ, bk, nm, seval] <;> rfl) | rfl
 simp only [bk, hs] at h
 obtain ⟨vF, lK, h⟩ := optI h kN
 try simp only [hs] at h
 simp only [vz, mq, mqm, vsi, tyf, mqt, e9, aV, aZ, bk, nm, seval]
 refine ktree (args0 := [.agg (cGBk ag), .sl (aa eI ae) (List.length ae) false]) (by first | (simp only [nrm, aI, @eh] <;> rfl) | rfl) (by simp only [tre, tytre, mqr, Bool.and_self]) (L9 _ _ _ lK) ?_
 refine bZ (fun tm => tm 1 = .sl (aa eI ae) (List.length ae) false ∧ tm 2 = .ptr 0 0 ∧ tm 12 = .lit (.bool false) ∧ tm 15 = .lit (.bool vF) ∧ True) (by refine ⟨e9, aV, ?_, ?_, trivial⟩ <;> first | (simp only [ua, bP, e9, aV, aZ, bk, nm, seval] <;> rfl) | rfl) ?_
 rintro tm ⟨bn, bX, bR, bN, _⟩
 cases c8 : (vF)
 ·simp only [c8, hs] at h
  try simp only [vz, mq, mqm, vsi, tyf, mqt, bk, bn, bX, bR, bN, c8, nm, seval]
  refine cL (x := (.tup [.lit (.slice none 0 0), .lit (.int .i64 2)])) (by first | (simp only [Tryz.results37, resV, resL, resV1, cF, cE, uw, cr, tyf, mqt, bk, c8, nm, seval] <;> rfl) | rfl) ?_
  obtain rfl := kF _ h
  refine gw ?_ ?_
  ·simp only [tre, tytre, mqr, Bool.and_self]
  ·first | (simp only [outV, uw, gG, cr, tyf, mqt, nrm, aI, bk, bn, bX, bR, bN, c8, nm, seval] <;> rfl) | rfl
 simp only [c8, hs] at h
 try simp only [vz, mq, mqm, vsi, tyf, mqt, bk, bn, bX, bR, bN, c8, nm, seval]
 refine kopen ?_
 rw [Cz]
 refine ar.run mixed Tryz.call69 Tryz.func69 rfl (by simp [Tryz.ntmps69]; kernel_rfl) ?_
 try simp only [vz, mq, mqm, vsi, tyf, mqt, bk, c8, nm, seval]
 refine cL (x := (.agg ((cGBk ag) ++ [.sl (aa eI ae) (List.length ae) false] ++ [.mp 21]))) (by first | (simp only [Tryz.results69, resV, resL, resV1, cF, cE, uw, cr, tyf, mqt, bk, c8, nm, seval] <;> rfl) | rfl) ?_
 cases eC : (au ag.Strokes)
 ·simp only [eC, hs] at h
  exact absurd h kN
 simp only [eC, hs] at h
 simp only [vz, mq, mqm, vsi, tyf, mqt, bk, c8, bn, bX, bR, bN, eC, nm, seval]
 obtain ⟨EP, h, ES, lL, ET, im⟩ := eN h kN
 obtain ⟨EU, qE, h⟩ := call4 h
 obtain ⟨EV, iq⟩ : ∃ I : Nat → St → Prop, I = (fun m st => ∃ (fN : List GBs) (aU : Int) (ba : List Int) (eD : List (GBe × Int)) (eY : VV), m = List.length fN ∧ 0 ≤ aU ∧ List.drop (Int.toNat aU) ag.Strokes = fN ∧ st.df = [] ∧ 29 ≤ st.nx ∧ st.H 21 = some (.map (encM aP cI eD)) ∧ st.H 15 = some (.cells (some 92) ((cGBk ag) ++ [.sl (aa eI ae) (List.length ae) false] ++ [.mp 21])) ∧ st.tm 6 = .ptr 15 0 ∧ st.tm 23 = .lit (.int .i64 (List.length ag.Strokes : Int)) ∧ st.tm 7 = eY ∧ st.tm 24 = .lit (.int .i64 aU) ∧ ((∃ (β : Nat) (el : Option TypeId), eY = .ref β 0 (List.length ba) 1 (List.length ba) ∧ β < st.nx ∧ β ≠ 21 ∧ β ≠ 15 ∧ st.H β = some (.cells el (aa eI ba))) ∨ (eY = .lit (.slice none 0 0) ∧ ba = [])) ∧ EP (EU fN aU ba eD)) := ⟨_, rfl⟩
 refine loopK mixed (by kernel_rfl) EV (List.length ag.Strokes) (by rw [iq]; refine ⟨ag.Strokes, 0, ([] : List Int), ([] : List (GBe × Int)), .lit (.slice none 0 0), rfl, Int.le_refl _, rfl, rfl, (show 29 ≤ 29 by omega), ?_, ?_, ?_, ?_, ?_, ?_, Or.inr ⟨rfl, rfl⟩, h⟩ <;> first | (simp only [ua, bP, bk, c8, bn, bX, bR, bN, nm, seval] <;> rfl) | rfl) ?_
 rintro m ⟨tm, H, eE, df⟩ hinv
 rw [iq] at hinv
 obtain ⟨fN, aU, ba, eD, eY, rfl, cj, cJ, hdf, qF, eF, eG, bK, cg, cn, bp, gh, h⟩ := hinv
 simp only at hdf qF eF eG bK cg cn bp gh
 have eZ := fg (m := 29) (b := eE) (by omega)
 subst hdf qE
 rcases gh with ⟨iS, gi, rfl, qG, qH, qI, fh⟩ | ⟨rfl, rfl⟩
 ·have jE := gF qG
  have jF := ne_f qH
  have jG := ne_f qI
  cases fN with
  | nil =>
   have fD : (decide (aU < (List.length ag.Strokes : Int))) = false := dR cj cJ
   simp only [lN, hs, reduceCtorEq] at h
   replace h := lL _ h
   try dsimp only at h
   try simp only [hs] at h
   try simp only [vz, mq, mqm, vsi, tyf, mqt, bk, c8, eC, eZ, bK, cg, cn, bp, eF, eG, jE, fh, jF, jG, fD, nm, seval]
   refine cL (x := (.tup [.ref iS 0 (List.length ba) 1 (List.length ba), .lit (.int .i64 0)])) (by first | (simp only [Tryz.results37, resV, resL, resV1, cF, cE, uw, cr, tyf, mqt, bk, c8, eC, eZ, eF, eG, jE, fh, jF, jG, fD, nm, seval] <;> rfl) | rfl) ?_
   obtain rfl := kF _ h
   refine gw ?_ ?_
   ·simp only [tre, tytre, mqr, Bool.and_self]
   ·first | (simp only [outV, uw, gG, cr, tyf, mqt, nrm, aI, bk, c8, eC, eZ, bK, cg, cn, bp, eF, eG, jE, fh, jF, jG, fD, nm, seval] <;> rfl) | rfl
  | cons dY fN =>
   have qJ : (decide (aU < (List.length ag.Strokes : Int))) = true := dQ cj cJ
   have lM := cA cj cJ
   have qK := dN cj cJ eC
   simp only [lN, hs, reduceCtorEq] at h
   obtain ⟨gI, vG, h⟩ := optI h im
   try simp only [hs] at h
   simp only [vz, mq, mqm, vsi, tyf, mqt, bk, c8, eC, eZ, bK, cg, cn, bp, eF, eG, jE, fh, jF, jG, qJ, (aJ lM), qK, nm, seval]
   refine kupd (VUpd.at (β := 21) (y := (fun _ => .lit (.int .i64 gI.1))) (LA _ _ _ _ _ vG) (by omega) (by first | rfl | assumption | (simp only [aS, aT, eZ, eF, eG, jE, fh, jF, jG, nm, seval] <;> rfl)) (by first | rfl | (simp only [nrm, aI, @eh, @gA] <;> rfl)) (g9 (fun _ => rfl) _)) ?_
   refine gW (fun tm => tm 6 = .ptr 15 0 ∧ tm 23 = .lit (.int .i64 (List.length ag.Strokes : Int)) ∧ tm 24 = .lit (.int .i64 aU) ∧ tm 27 = .ref iS 0 (List.length ba) 1 (List.length ba) ∧ tm 30 = .lit (.int .i64 gI.1) ∧ True) (by refine ⟨bK, cg, bp, ?_, ?_, trivial⟩ <;> first | (simp only [ua, bP, bk, c8, eZ, bK, cg, cn, bp, eF, eG, jE, fh, jF, jG, qJ, qK, nm, seval] <;> rfl) | rfl) ?_
   rintro tm ⟨cS, bV, ck, bz, b4, _⟩
   have gJ := And.intro bk (And.intro c8 (And.intro eC (And.intro eZ (And.intro eF (And.intro eG (And.intro jE (And.intro fh (And.intro jF (And.intro jG (And.intro qJ qK))))))))))
   cases jH : (aC 8 (List.length (ba ++ [gI.1])))
   ·simp only [jH, hs] at h
    exact absurd h im
   simp only [jH, hs] at h
   simp only [vz, mq, mqm, vsi, tyf, mqt, gJ, (aJ lM), cS, bV, ck, bz, b4, jH, nm, seval]
   refine k_app (w := 1) (enc := eI) (xs := ba) (ys := ([gI.1])) (el := gi) (ff := (some 3)) (fun _ => rfl) eP ei Tryz.underlying22 (by first | rfl | assumption | (simp only [aS, aT, ca, gJ, nm, seval] <;> rfl) | (simp only [aS, aT, cP, db, cY, cZ, tyf, mqt, gJ, (aJ lM), cS, bV, ck, bz, b4, jH, nm, seval]; done)) (by first | rfl | assumption | (simp only [aS, aT, ca, gJ, nm, seval] <;> rfl) | (simp only [aS, aT, cP, db, cY, cZ, tyf, mqt, gJ, (aJ lM), cS, bV, ck, bz, b4, jH, nm, seval]; done)) (Nat.zero_lt_succ _) jH ?_
   simp only [vz, mq, mqm, vsi, tyf, mqt, gJ, (aJ lM), cS, bV, ck, bz, b4, jH, nm, seval]
   exact ⟨List.length fN, Nat.lt_succ_self _, by rw [iq]; refine ⟨fN, aU + 1, (ba ++ [gI.1]), gI.2, .ref (eE + 8) 0 (List.length (ba ++ [gI.1])) 1 (List.length (ba ++ [gI.1])), rfl, Int.le_trans cj (Int.le_add_one (Int.le_refl _)), bJ cj cJ, rfl, (show 29 ≤ eE + 12 by omega), ?_, ?_, cS, bV, ?_, ?_, Or.inl ⟨eE + 8, (sameEl gi 3), rfl, (by first | omega | (simp only [nm, seval]; done) | (simp only [nm, seval]; omega)), (by first | omega | (intro hh; simp only [gJ, reduceCtorEq] at hh)), (by first | omega | (intro hh; simp only [gJ, reduceCtorEq] at hh)), ?_⟩, (by first | exact h | (simp only [gJ]; exact h))⟩ <;> first | (simp only [ua, bP, gJ, cS, bV, ck, bz, b4, nm, seval] <;> rfl) | rfl⟩
 ·cases fN with
  | nil =>
   have da : (decide (aU < (List.length ag.Strokes : Int))) = false := dR cj cJ
   simp only [lN, hs, reduceCtorEq] at h
   replace h := lL _ h
   try dsimp only at h
   try simp only [hs] at h
   try simp only [vz, mq, mqm, vsi, tyf, mqt, bk, c8, eC, eZ, bK, cg, cn, bp, eF, eG, da, nm, seval]
   refine cL (x := (.tup [.lit (.slice none 0 0), .lit (.int .i64 0)])) (by first | (simp only [Tryz.results37, resV, resL, resV1, cF, cE, uw, cr, tyf, mqt, bk, c8, eC, eZ, eF, eG, da, nm, seval] <;> rfl) | rfl) ?_
   obtain rfl := kF _ h
   refine gw ?_ ?_
   ·simp only [tre, tytre, mqr, Bool.and_self]
   ·first | (simp only [outV, uw, gG, cr, tyf, mqt, nrm, aI, bk, c8, eC, eZ, bK, cg, cn, bp, eF, eG, da, nm, seval] <;> rfl) | rfl
  | cons dY fN =>
   have jR : (decide (aU < (List.length ag.Strokes : Int))) = true := dQ cj cJ
   have nJ := cA cj cJ
   have qL := dN cj cJ eC
   simp only [lN, hs, reduceCtorEq] at h
   obtain ⟨iT, EW, h⟩ := optI h im
   try simp only [hs] at h
   simp only [vz, mq, mqm, vsi, tyf, mqt, bk, c8, eC, eZ, bK, cg, cn, bp, eF, eG, jR, (aJ nJ), qL, nm, seval]
   refine kupd (VUpd.at (β := 21) (y := (fun _ => .lit (.int .i64 iT.1))) (LA _ _ _ _ _ EW) (by omega) (by first | rfl | assumption | (simp only [aS, aT, eZ, eF, eG, nm, seval] <;> rfl)) (by first | rfl | (simp only [nrm, aI, @eh, @gA] <;> rfl)) (g9 (fun _ => rfl) _)) ?_
   refine gW (fun tm => tm 6 = .ptr 15 0 ∧ tm 23 = .lit (.int .i64 (List.length ag.Strokes : Int)) ∧ tm 24 = .lit (.int .i64 aU) ∧ tm 27 = .lit (.slice none 0 0) ∧ tm 30 = .lit (.int .i64 iT.1) ∧ True) (by refine ⟨bK, cg, bp, ?_, ?_, trivial⟩ <;> first | (simp only [ua, bP, bk, c8, eZ, bK, cg, cn, bp, eF, eG, jR, qL, nm, seval] <;> rfl) | rfl) ?_
   rintro tm ⟨jx, jy, eu, fz, du, _⟩
   have iU := And.intro bk (And.intro c8 (And.intro eC (And.intro eZ (And.intro eF (And.intro eG (And.intro jR qL))))))
   cases k6 : (aC 8 (List.length (([] : List Int) ++ [iT.1])))
   ·simp only [k6, hs] at h
    exact absurd h im
   simp only [k6, hs] at h
   simp only [vz, mq, mqm, vsi, tyf, mqt, iU, (aJ nJ), jx, jy, eu, fz, du, k6, nm, seval]
   refine kJ (w := 1) (enc := eI) (ys := ([iT.1])) (ff := (some 3)) (fun _ => rfl) eP ei Tryz.underlying22 (by first | rfl | assumption | (simp only [aS, aT, ca, iU, nm, seval] <;> rfl) | (simp only [aS, aT, cP, db, cY, cZ, tyf, mqt, iU, (aJ nJ), jx, jy, eu, fz, du, k6, nm, seval]; done)) (Nat.zero_lt_succ _) k6 ?_
   simp only [vz, mq, mqm, vsi, tyf, mqt, iU, (aJ nJ), jx, jy, eu, fz, du, k6, nm, seval]
   exact ⟨List.length fN, Nat.lt_succ_self _, by rw [iq]; refine ⟨fN, aU + 1, (([] : List Int) ++ [iT.1]), iT.2, .ref (eE + 8) 0 (List.length (([] : List Int) ++ [iT.1])) 1 (List.length (([] : List Int) ++ [iT.1])), rfl, Int.le_trans cj (Int.le_add_one (Int.le_refl _)), bJ cj cJ, rfl, (show 29 ≤ eE + 12 by omega), ?_, ?_, jx, jy, ?_, ?_, Or.inl ⟨eE + 8, (some 3), rfl, (by first | omega | (simp only [nm, seval]; done) | (simp only [nm, seval]; omega)), (by first | omega | (intro hh; simp only [iU, reduceCtorEq] at hh)), (by first | omega | (intro hh; simp only [iU, reduceCtorEq] at hh)), ?_⟩, (by first | exact h | (simp only [iU]; exact h))⟩ <;> first | (simp only [ua, bP, iU, jx, jy, eu, fz, du, nm, seval] <;> rfl) | rfl⟩





theorem room16 {n : Nat} (h : n ≤ 1000) : aC 16 n = true := by simp [aC]; omega
def endS (b : GBk) (pl : List Int) (i : Nat) : GSpan := ⟨EE b pl 0 i, EE b pl 1 i⟩
def endsL (b : GBk) (pl : List Int) : List GSpan := (List.range b.Strokes.length).map (endS b pl)
theorem Er (b : GBk) (pl : List Int) : (endsL b pl).length = b.Strokes.length := by simp [endsL]
def lateW (s : GSpan) (due : Int) : Int := if s.Low > due then 3 else if s.High > due then 2 else 1
def lateL (b : GBk) (pl : List Int) : Nat → List Int → List Int
 | _, [] => []
 | i, d :: p => lateW (DN b pl i) d :: lateL b pl (i + 1) p
theorem Lo {b : GBk} {pl : List Int} : ∀ (i : Nat) (p : List Int), (lateL b pl i p).length = p.length
 | _, [] => rfl
 | i, d :: p => by simp [lateL, Lo (i + 1) p]
theorem vH {b : GBk} (hb : BOk b) {pl : List Int} (hp : pl.length = b.Strokes.length) : ∀ (p : List Int) (i : Nat) (acc : List Int) (l : List (GBe × Int)), b.Boards.drop i = p → acc.length = i → InvE b pl l →
  ∃ l', mI b pl p i acc l = some (.go (acc ++ lateL b pl i p, l'))
 | [], i, acc, l, _, _, _ => ⟨l, by simp [mI, lateL]⟩
 | d :: p, i, acc, l, hi, ha, hl => by
  have hnb := hb.nb
  have hd : b.Boards.drop (i : Int).toNat = d :: p := hi
  have hg := cA (by omega) hd
  have hlt := xd hg
  obtain ⟨l1, e1, eX⟩ := EO hb.h hp (i : Int) hl
  have ew : vE b pl i l = some (lateW (DN b pl i) d, l1) := by
   unfold vE lateW
   simp only [e1, hg, Option.bind_some]
   by_cases h1 : (DN b pl i).Low > d
   ·rw [decide_eq_true h1, cond_true, if_pos h1]
   ·rw [decide_eq_false h1, cond_false, if_neg h1]
    by_cases h2 : (DN b pl i).High > d
    ·rw [decide_eq_true h2, cond_true, if_pos h2]
    ·rw [decide_eq_false h2, cond_false, if_neg h2]
  obtain ⟨l2, e2⟩ := vH hb hp p (i + 1) (acc ++ [lateW (DN b pl i) d]) l1 (by have := bJ (by omega) hd; rw [← this]; congr 1) (by simp [ha]) eX
  refine ⟨l2, ?_⟩
  simp only [mI, ew, Option.bind_some]
  rw [room8 (by simp; omega), cond_true]
  have : ((i : Int) + 1) = ((i + 1 : Nat) : Int) := by omega
  rw [this, e2]
  simp [lateL]
theorem Ez {b : GBk} (h : Len b) (pl : List Int) : vm b pl = some (if benchB b && planB b pl then (lateL b pl 0 b.Boards, 0) else ([], 2)) := by
 unfold vm
 rw [LB h, LC h]
 cases hB : benchB b with
 | false => rfl
 | true =>
  cases hP : planB b pl with
  | false => rfl
  | true =>
   obtain ⟨l', e⟩ := vH (E3.1 hB) (E4.1 hP).len b.Boards 0 [] [] rfl rfl InvE.nil
   simp only [Option.bind_some, cond_true, Bool.and_self, if_true]
   rw [fA h.bo, cond_true]
   have e' : mI b pl b.Boards 0 [] [] = _ := e
   rw [e']
   simp [lbind]
def waitF (b : GBk) (pl : List Int) (i : Nat) : Int := BB b pl 1 i - FF b pl 1 i
def waitsL (b : GBk) (pl : List Int) : List Int := (List.range b.Strokes.length).map (waitF b pl)
theorem vI {b : GBk} (hb : BOk b) {pl : List Int} (hp : pl.length = b.Strokes.length) : ∀ (p : List GBs) (i : Nat) (acc : List Int) (l : List (GBe × Int)), i + p.length = b.Strokes.length → acc.length = i → InvE b pl l →
  ∃ l', lN b pl p i acc l = some (.go (acc ++ (List.range' i p.length).map (waitF b pl), l'))
 | [], i, acc, l, _, _, _ => ⟨l, by simp [lN]⟩
 | s :: p, i, acc, l, hi, ha, hl => by
  have hns := hb.ns
  simp only [List.length_cons] at hi
  obtain ⟨l1, e1, eX⟩ := EN hb.h hp hl (s := (i : Int)) (by omega) (by omega)
  obtain ⟨l2, e2⟩ := vI hb hp p (i + 1) (acc ++ [waitF b pl i]) l1 (by omega) (by simp [ha]) eX
  refine ⟨l2, ?_⟩
  simp only [lN, e1, Option.bind_some]
  rw [room8 (by simp; omega), cond_true]
  have : ((i : Int) + 1) = ((i + 1 : Nat) : Int) := by omega
  rw [this]
  show lN b pl p ((i + 1 : Nat) : Int) (acc ++ [waitF b pl i]) l1 = _
  rw [e2]
  simp [List.range'_succ]
theorem E0 {b : GBk} (h : Len b) (pl : List Int) : vn b pl = some (if benchB b && planB b pl then (waitsL b pl, 0) else ([], 2)) := by
 unfold vn
 rw [LB h, LC h]
 cases hB : benchB b with
 | false => rfl
 | true =>
  cases hP : planB b pl with
  | false => rfl
  | true =>
   obtain ⟨l', e⟩ := vI (E3.1 hB) (E4.1 hP).len b.Strokes 0 [] [] (by simp) rfl InvE.nil
   simp only [Option.bind_some, cond_true, Bool.and_self, if_true]
   rw [fA h.st, cond_true]
   have e' : lN b pl b.Strokes 0 [] [] = _ := e
   rw [e']
   simp [lbind, waitsL, List.range_eq_range']
end Go.V
end
section
namespace Go.V
open Go Go.Proofs
def mkOk (b : Nat) (n : Int) : Bool := decide (0 ≤ n) && aC b n.toNat
theorem EX {b : Nat} {n : Int} : mkOk b n = true ↔ 0 ≤ n ∧ n.toNat * b ≤ 140737488355328 := by
 unfold mkOk aC
 rw [Bool.and_eq_true, decide_eq_true_eq, decide_eq_true_eq]
theorem P5 {v : Value} (n : Nat) : vzeros #[v] n = List.replicate n (ofVal1 v) := by
 unfold vzeros
 rw [List.eq_replicate_iff]
 refine ⟨by simp, fun x hx => ?_⟩
 obtain ⟨i, _, rfl⟩ := List.mem_map.1 hx
 have : i % (#[v] : Array Value).size = 0 := by simp [Nat.mod_one]
 rw [this]
 rfl
theorem LD {α : Type} {enc : α → List VV} {z : α} {x : VV} (h : enc z = [x]) : ∀ n : Nat, aa enc (List.replicate n z) = List.replicate n x
 | 0 => rfl
 | n + 1 => by rw [List.replicate_succ, List.replicate_succ, cP, h, LD h n]; rfl
section
variable {P : Program} {G : Glob} {γ : Nat} {tm : Nat → VV} {H : Nat → Option VObj} {α : Type} {enc : α → List VV} {z : α} {t e b : Nat} {n : Int} {v : Value} {x y : Operand} {d : Option Tmp} {ty : TypeId} {pos : String} {af : Array Edge} {g : Option (Nat × Bool)} {k : VV → VEff → Prop}
theorem k_mkS (ha : appOk P t = some (e, 1, b)) (hz : vzero P e = some #[v]) (hzv : enc z = [ofVal1 v]) (hx : ev G tm x = .lit (.int .i64 n)) (hy : ev G tm y = .lit (.int .i64 n)) (hg : mkOk b n = true)
  (h : k (.ref γ 0 (List.replicate n.toNat z).length 1 (List.replicate n.toNat z).length) (.new (.cells (some e) (aa enc (List.replicate n.toNat z))))) : oeK (vop P ⟨d, .makeSlice t x y, ty, pos, af, g⟩ (ev G tm) H γ) k := by
 obtain ⟨hu, inf, zz, hi, hzz, hs, hb, je, sZ, hzs⟩ := yF ha
 obtain ⟨h0, h1⟩ := EX.1 hg
 have hzc : zz.cells = #[v] := by
  unfold vzero at hz
  rw [hi] at hz
  simp only [Option.bind_some, hzz, Option.map_some, Option.some.injEq] at hz
  exact hz
 have hk : vmakeSlice P t (.lit (.int .i64 n)) (.lit (.int .i64 n)) = some (List.replicate n.toNat (ofVal1 v), n.toNat, 1) := by
  have h2 : (inf.bytes : Int) * n ≤ 140737488355328 := by
   rw [hb]
   have h3 : ((n.toNat * b : Nat) : Int) ≤ ((140737488355328 : Nat) : Int) := Int.ofNat_le.2 h1
   rw [Int.natCast_mul, Int.toNat_of_nonneg h0, Int.mul_comm] at h3
   exact h3
  have hb0' : 0 < inf.bytes := by rw [hb]; exact sZ
  unfold vmakeSlice
  rw [hu]
  simp only [hi, hzz]
  rw [hs, hzc, if_pos ⟨h0, Int.le_refl _, Nat.zero_lt_one, hb0', h2, rfl⟩, Nat.mul_one, P5]
 have he : elemT P t = some e := by simp [elemT, hu]
 rw [LD hzv, List.length_replicate] at h
 simp only [vop, hx, hy, hk, Option.map_some, he]
 exact h
end
end Go.V
end
section
namespace Go.V
open Go Go.Proofs
def Ghost (st st' : St) : Prop := (∀ β o', st'.H β = some o' → ∃ o, st.H β = some o ∧ FrozenO st.H st'.H o o') ∧ (∀ β, isDef st.H β → isDef st'.H β) ∧
 (∀ t, Frozen st.H st'.H (st.tm t) (st'.tm t)) ∧ st'.nx = st.nx ∧ st'.df = st.df
theorem Ghost.rep {G : Glob} {c : Ctx} {W : World} {st st' : St} {a : Act} (g : Ghost st st') (s : Sim c W) (hr : StRep G c W st a) :
  Ext c W (c.frz st'.H) W ∧ Sim (c.frz st'.H) W ∧ StRep G (c.frz st'.H) W st' a := by
 obtain ⟨ho, hdd, htm, hnx, hdf⟩ := g
 have ho' : ∀ β o', st'.H β = some o' → ∃ o, c.H β = some o ∧ FrozenO c.H st'.H o o' := by rw [hr.H]; exact ho
 have hl : ∀ β, (st'.H β).isSome = true → c.live β := by
  intro β h
  obtain ⟨o', h'⟩ := Option.isSome_iff_exists.1 h
  obtain ⟨o, h1, _⟩ := ho' β o' h'
  simp [Ctx.live, h1]
 have he : Ext c W (c.frz st'.H) W := wS hl
 have ab : Abides c W (c.frz st'.H) W := rX hl
 have hloop : ∀ x s pe tm ps asg bo df, st'.H x = some (.loop s pe tm ps asg bo df) → isDef st'.H df := by
  intro x s1 pe tm ps asg bo df hx
  obtain ⟨o, h1, hf⟩ := ho x _ hx
  rcases hf with rfl | ⟨el, cs, cs', rfl, e, _⟩
  ·obtain ⟨l, fn, _, _, _, hd⟩ := s.obj x _ (show c.H x = _ by rw [hr.H]; exact h1)
   exact hdd df (by rw [← hr.H]; exact hd)
  ·cases e
 refine ⟨he, s.frz ho' hloop, rfl, fun t => zj s hl (by rw [hr.H]; exact htm t) (hr.tm t), ?_, ?_, hr.G.abides ab⟩
 ·rw [hnx]; exact hr.nx
 ·rw [hdf]; exact hr.df.abides ab
theorem VWp.ghost {P : Program} {G : Glob} {n : Nat} {code : Code} {Q : VExit → St → Prop} {st : St} (h : VWp P G n code (fun e s => ∃ s', Ghost s s' ∧ Q e s') st) : VWp P G n code Q st := by
 intro ro c W a hro s hr hsz
 refine wpIn_mono (h ro c W a hro s hr hsz) ?_
 rintro e a' W' ⟨ve, c', st', he, hext, hs', hr', hsz', hu, hle, s2, g, hq⟩
 obtain ⟨e2, h2, r2⟩ := g.rep hs' hr'
 refine ⟨ve, c'.frz s2.H, s2, ?_, hext.trans e2, h2, r2, hsz', fun β hb => hu β hb, by rw [g.2.2.2.1]; exact hle, hq⟩
 cases ve with
 | panic x =>
  obtain ⟨v, e1, hv⟩ := he
  exact ⟨v, e1, Rep.abides (e2.abides hs') _ hv⟩
 | normal => exact he
 | exit id => exact he
 | goto l => exact he
 | ret => exact he
theorem Ghost.refl (st : St) : Ghost st st := ⟨fun β o' h => ⟨o', h, .inl rfl⟩, fun _ h => h, fun _ => .inl rfl, rfl, rfl⟩
section
variable {P : Program} {H : Nat → Option VObj} {γ : Nat} {k : VV → VEff → Prop} {t t2 e e2 β δ cx : Nat} {b : Nat} {el ff : Option TypeId} {cs : List VV} {y : VV}
end
section
variable {P : Program} {H : Nat → Option VObj} {γ : Nat} {k : VV → VEff → Prop} {t t2 e e2 β δ cx : Nat} {b : Nat} {el ff : Option TypeId} {y : VV} {α : Type} {enc : α → List VV} {xs : List α} {a : α}
end
end Go.V
end
section
namespace Go.V
open Go Go.Proofs
def Look (st st' : St) : Prop := st'.nx = st.nx ∧ ∀ (G : Glob) (c : Ctx) (W : World) (a : Act), Sim c W → StRep G c W st a → ∃ c', Ext c W c' W ∧ Sim c' W ∧ StRep G c' W st' a ∧ ∀ β, c'.used β → c.used β
theorem Look.trans {a b c : St} (h1 : Look a b) (h2 : Look b c) : Look a c := by
  refine ⟨h2.1.trans h1.1, fun G x W y s hr => ?_⟩
  obtain ⟨c1, e1, s1, r1, u1⟩ := h1.2 G x W y s hr
  obtain ⟨c2, e2, s2, r2, u2⟩ := h2.2 G c1 W y s1 r1
  exact ⟨c2, e1.trans e2, s2, r2, fun β hb => u1 β (u2 β hb)⟩
theorem Look.ghost {st st' : St} (g : Ghost st st') : Look st st' := by
  refine ⟨g.2.2.2.1, fun G c W a s hr => ?_⟩
  obtain ⟨e2, h2, r2⟩ := g.rep s hr
  exact ⟨c.frz st'.H, e2, h2, r2, fun β hb => hb⟩
theorem vJ {c : Ctx} {W : World} {x y : VV} {Z : List VV} (h : ∀ v, Rep c W x v → Rep c W y v) : ∀ (A : List VV) (l : List Value), RepL c W (A ++ x :: Z) l → RepL c W (A ++ y :: Z) l
  | [], _, ⟨u, us, e, h1, h2⟩ => ⟨u, us, e, h _ h1, h2⟩
  | _ :: A, _, ⟨u, us, e, h1, h2⟩ => ⟨u, us, e, h1, vJ h A us h2⟩
theorem Look.nil {tm : Nat → VV} {H : Nat → Option VObj} {nx : Nat} {df : List VDef} {β : Nat} {el : Option TypeId} {A Z : List VV} (hβ : H β = some (.cells el (A ++ .lit (.slice none 0 0) :: Z))) :
    Look ⟨tm, H, nx, df⟩ ⟨tm, updH H β (.cells el (A ++ .sl [] 0 false :: Z)), nx, df⟩ := by
  refine ⟨rfl, fun G c W a s hr => ?_⟩
  have hc : c.H β = some (.cells el (A ++ .lit (.slice none 0 0) :: Z)) := by rw [hr.H]; exact hβ
  have hl : c.live β := by simp [Ctx.live, hc]
  have he : Ext c W (c.upd β (.cells el (A ++ .sl [] 0 false :: Z))) W := Ext.upd hl (But.self W _)
  have ab := he.abides s
  have hs : Sim (c.upd β (.cells el (A ++ .sl [] 0 false :: Z))) W := by
    refine Sim.upd s hl (But.self W _) (fun ⟨ds, hd⟩ => by rw [hc] at hd; cases hd) ?_
    obtain ⟨arr, e, a1, a2, a3, a4, a5⟩ := s.obj β _ hc
    refine ⟨arr, e, a1, a2, by simpa using a3, ?_, a5⟩
    have hlen : (A ++ VV.lit (.slice none 0 0) :: Z).length = (A ++ VV.sl [] 0 false :: Z).length := by simp
    rw [hlen] at a4
    refine vJ (x := .lit (.slice none 0 0)) (fun v hv => ?_) A _ (RepL.abides ab _ a4)
    have e : v = .slice none 0 0 := hv
    subst e
    exact ⟨none, 0, rfl, Nat.le_refl _, fun h => (by cases h), .inl rfl⟩
  refine ⟨_, he, hs, ⟨?_, fun t => Rep.abides ab _ (hr.tm t), hr.nx, hr.df.abides ab, hr.G.abides ab⟩, fun β hb => hb⟩
  show updH c.H β _ = _
  rw [hr.H]
theorem FrozenL.mid {H H' : Nat → Option VObj} {x y : VV} (h : Frozen H H' x y) (Z : List VV) : ∀ (cs : List VV), FrozenL H H' (cs ++ x :: Z) (cs ++ y :: Z)
  | [] => ⟨h, FrozenL.refl Z⟩
  | c :: cs => ⟨.inl rfl, FrozenL.mid h Z cs⟩
where
  FrozenL.refl : ∀ Z : List VV, FrozenL H H' Z Z
    | [] => trivial
    | _ :: Z => ⟨.inl rfl, FrozenL.refl Z⟩
theorem Ghost.mid {tm : Nat → VV} {H : Nat → Option VObj} {nx : Nat} {df : List VDef} {γ ε n w cp : Nat} {e1 e2 : Option TypeId} {cs ys Z : List VV} (hγ : H γ = some (.cells e1 ys)) (hε : H ε = some (.cells e2 (cs ++ .ref γ 0 n w cp :: Z))) (hne : ε ≠ γ) (ht : treeL ys = true) (hl : ys.length = n * w) :
    Ghost ⟨tm, H, nx, df⟩ ⟨tm, updH (without H γ) ε (.cells e2 (cs ++ .sl ys n false :: Z)), nx, df⟩ := by
  have hg : gone H (updH (without H γ) ε (.cells e2 (cs ++ .sl ys n false :: Z))) γ = some (.cells e1 ys) := by
    unfold gone
    rw [aS, if_neg (Ne.symm hne)]
    simp [without, hγ]
  have hfz : Frozen H (updH (without H γ) ε (.cells e2 (cs ++ .sl ys n false :: Z))) (.ref γ 0 n w cp) (.sl ys n false) := by
    refine .inr (.inr ⟨ys.length + 2, ?_⟩)
    unfold sealV
    have : (VV.ref γ 0 n w cp).tree = false := rfl
    rw [this]
    simp only [Bool.false_eq_true, if_false, hg, Nat.zero_le, if_true, List.drop_zero]
    rw [List.take_of_length_le (by omega), rU ys _ ht (by omega)]
    rfl
  refine ⟨?_, ?_, fun _ => .inl rfl, rfl, rfl⟩
  · intro β o' h
    simp only [aS] at h
    by_cases hb : β = ε
    · subst hb
      rw [if_pos rfl] at h
      cases h
      exact ⟨_, hε, .inr ⟨e2, _, _, rfl, rfl, FrozenL.mid hfz Z cs⟩⟩
    · rw [if_neg hb] at h
      simp only [aT] at h
      split at h
      · cases h
      · exact ⟨o', h, .inl rfl⟩
  · rintro β ⟨ds, h⟩
    refine ⟨ds, ?_⟩
    have h : H β = some (.deferred ds) := h
    show updH (without H γ) ε _ β = _
    have b1 : β ≠ ε := by rintro rfl; rw [hε] at h; cases h
    have b2 : β ≠ γ := by rintro rfl; rw [hγ] at h; cases h
    rw [aS, if_neg b1, aT, if_neg b2]
    exact h
theorem loopKL {P : Program} {G : Glob} (hm : P.follows .mixedOrders = true) {n : Nat} {x : Code} {Q : VExit → St → Prop} {st : St} (ho : codeOk n x = true) (I : Nat → St → Prop) (m : Nat) (h0 : I m st)
    (round : ∀ m st, I m st → CWp P G n x (VExit.then (fun st' => ∃ m', m' < m ∧ ∃ s2, Look st' s2 ∧ I m' s2) Q) st) : CWp P G n (.loop x) Q st := by
  refine VWp.loop I h0 fun m st hI => ?_
  have h1 := mJ hm x _ st ho (round m st hI)
  intro ro c W a hro s hr hsz
  refine wpIn_mono (h1 ro c W a hro s hr hsz) ?_
  rintro e a' W' ⟨ve, c', st', he, hext, hs', hr', hsz', hu, hle, hq⟩
  cases ve with
  | normal =>
    obtain ⟨m', hlt, s2, g, P6⟩ := hq
    obtain ⟨c2, e2, h2, r2, u2⟩ := g.2 G c' W' a' hs' hr'
    exact ⟨.normal, c2, s2, he, hext.trans e2, h2, r2, hsz', fun β hb => hu β (u2 β hb), by rw [g.1]; exact hle, m', hlt, P6⟩
  | exit id => exact ⟨_, c', st', he, hext, hs', hr', hsz', hu, hle, hq⟩
  | goto l => exact ⟨_, c', st', he, hext, hs', hr', hsz', hu, hle, hq⟩
  | ret => exact ⟨_, c', st', he, hext, hs', hr', hsz', hu, hle, hq⟩
  | panic x => exact ⟨_, c', st', he, hext, hs', hr', hsz', hu, hle, hq⟩
def sF (bC : Int) : List Int → Int → Option (LOut (Bool) (Unit))
 | [], bL => some (.go ())
 | e0 :: p0, bL => cond (e0 == bC) (some (.ret true)) (sF bC p0 (bL + 1))
def vK (cV : List Int) (bC : Int) : Option (Bool) := cond (au cV) (lbind (sF bC cV 0) (fun r2 => some r2) (fun c1 => some false) (fun _ _ => none)) none
theorem P7 (cV : List Int) (bC : Int) (R : Bool) (h : vK cV bC = some R) : ai Tryz.prog G0 35 [.sl (aa eI cV) (List.length cV) false, .lit (.int .i64 bC)] (.tree (.lit (.bool R))) := by
 refine ai.runR mixed Tryz.call35 Tryz.func35 rfl (by simp [Tryz.ntmps35]; kernel_rfl) ?_
 obtain ⟨KF, h, kF, kN⟩ := cO h
 simp only [vK] at h
 cases g4 : (au cV)
 ·simp only [g4, hs] at h
  exact absurd h kN
 simp only [g4, hs] at h
 simp only [vz, tyf, g4, nm, seval]
 obtain ⟨K3, h, uz, n0, C9, qk⟩ := eN h kN
 obtain ⟨f3, ql, h⟩ := call2 h
 obtain ⟨I3, i9⟩ : ∃ I : Nat → St → Prop, I = (fun m st => ∃ (p3 : List Int) (bT : Int), m = List.length p3 ∧ 0 ≤ bT ∧ List.drop (Int.toNat bT) cV = p3 ∧ st.df = [] ∧ 2 ≤ st.nx ∧ st.tm 0 = .sl (aa eI cV) (List.length cV) false ∧ st.tm 1 = .lit (.int .i64 bC) ∧ st.tm 5 = .lit (.int .i64 bT) ∧ K3 (f3 p3 bT)) := ⟨_, rfl⟩
 refine loopK mixed (by kernel_rfl) I3 (List.length cV) (by rw [i9]; refine ⟨cV, 0, rfl, Int.le_refl _, rfl, rfl, (show 2 ≤ 2 by omega), ?_, ?_, ?_, h⟩ <;> first | (simp only [ua, nm, seval] <;> rfl) | rfl) ?_
 rintro m ⟨tm, H, gy, df⟩ hinv
 rw [i9] at hinv
 obtain ⟨p3, bT, rfl, dt, eK, hdf, qm, e5, e6, e7, h⟩ := hinv
 simp only at hdf qm e5 e6 e7
 have n8 := fg (m := 2) (b := gy) (by omega)
 subst hdf ql
 cases p3 with
 | nil =>
  have d9 : (decide (bT < (List.length cV : Int))) = false := dR dt eK
  simp only [sF, hs, reduceCtorEq] at h
  replace h := n0 _ h
  try dsimp only at h
  try simp only [hs] at h
  try simp only [vz, tyf, g4, n8, e5, e6, e7, d9, nm, seval]
  obtain rfl := kF _ h
  exact bw Tryz.results35 rfl
 | cons e3 p3 =>
  have k7 : (decide (bT < (List.length cV : Int))) = true := dQ dt eK
  have oM := cA dt eK
  have EY := dN dt eK g4
  simp only [sF, hs, reduceCtorEq] at h
  cases fB : (e3 == bC)
  ·simp only [fB, hs] at h
   simp only [vz, tyf, g4, n8, e5, e6, e7, k7, (aj oM), EY, fB, nm, seval]
   exact ⟨List.length p3, Nat.lt_succ_self _, by rw [i9]; refine ⟨p3, bT + 1, rfl, Int.le_trans dt (Int.le_add_one (Int.le_refl _)), bJ dt eK, rfl, (show 2 ≤ gy + 13 by omega), e5, e6, ?_, (by first | exact h | (simp only [k7, fB]; exact h))⟩ <;> first | (simp only [ua, n8, e5, e6, e7, k7, EY, fB, nm, seval] <;> rfl) | rfl⟩
  simp only [fB, hs] at h
  try simp only [vz, tyf, g4, n8, e5, e6, e7, k7, (aj oM), EY, fB, nm, seval]
  replace h := uz _ h
  try dsimp only at h
  obtain rfl := kF _ h
  exact bw Tryz.results35 rfl
def sh (ag : GBk) (ae : List Int) (bW : Int) (cD : Int) : Option (Bool) := cond (decide (bW < cD)) (Option.bind (getI ae bW) (fun x1 => Option.bind (getI ae cD) (fun x2 => cond (x1 == x2) (some true) (Option.bind (getI ag.Strokes cD) (fun x3 => Option.bind (vK x3.Needs bW) (fun r4 => some r4)))))) (some false)
theorem NU (ag : GBk) (ae : List Int) (bW : Int) (cD : Int) (R : Bool) (h : sh ag ae bW cD = some R) : ai Tryz.prog G0 84 [.agg (cGBk ag), .sl (aa eI ae) (List.length ae) false, .lit (.int .i64 bW), .lit (.int .i64 cD)] (.tree (.lit (.bool R))) := by
 refine ai.runR mixed Tryz.call84 Tryz.func84 rfl (by simp [Tryz.ntmps84]; kernel_rfl) ?_
 obtain ⟨KF, h, kF, kN⟩ := cO h
 simp only [sh] at h
 simp only [vz, tyf, nm, seval]
 refine iD (fun tm => tm 1 = .sl (aa eI ae) (List.length ae) false ∧ tm 2 = .lit (.int .i64 bW) ∧ tm 3 = .lit (.int .i64 cD) ∧ tm 4 = .ptr 0 0 ∧ True) (by refine ⟨?_, ?_, ?_, ?_, trivial⟩ <;> first | (simp only [ua, nm, seval] <;> rfl) | rfl) ?_
 rintro tm ⟨e5, e6, e7, e8, _⟩
 cases d9 : (decide (bW < cD))
 ·simp only [d9, hs] at h
  try simp only [vz, tyf, e5, e6, e7, e8, d9, nm, seval]
  obtain rfl := kF _ h
  exact bw Tryz.results84 rfl
 simp only [d9, hs] at h
 obtain ⟨xT, iP, h⟩ := optI h kN
 try simp only [hs] at h
 obtain ⟨P8, mK, h⟩ := optI h kN
 try simp only [hs] at h
 cases bY : (xT == P8)
 ·simp only [bY, hs] at h
  obtain ⟨Cq, hT, h⟩ := optI h kN
  try simp only [hs] at h
  obtain ⟨dJ, n4, h⟩ := optI h kN
  try simp only [hs] at h
  simp only [vz, tyf, e5, e6, e7, e8, d9, (aj iP), (aj mK), bY, (aJ hT), nm, seval]
  refine dktA (P7 _ _ _ n4) ?_
  refine bZ (fun tm => tm 12 = .lit (.bool true) ∧ tm 22 = .lit (.bool false) ∧ tm 30 = .lit (.bool dJ) ∧ True) (by refine ⟨?_, ?_, ?_, trivial⟩ <;> first | (simp only [ua, e5, e6, e7, e8, d9, bY, nm, seval] <;> rfl) | rfl) ?_
  rintro tm ⟨cq, dY, dw, _⟩
  try simp only [vz, tyf, d9, (aj iP), (aj mK), bY, (aJ hT), cq, dY, dw, nm, seval]
  obtain rfl := kF _ h
  exact bw Tryz.results84 rfl
 simp only [bY, hs] at h
 try simp only [vz, tyf, e5, e6, e7, e8, d9, (aj iP), (aj mK), bY, nm, seval]
 obtain rfl := kF _ h
 exact bw Tryz.results84 rfl
end Go.V
end
