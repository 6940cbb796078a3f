/- Part of a proof. -/
import Derived.Test.YtmhlghgbfmcdaaaGreatDoorG3bk
set_option linter.all false
set_option maxRecDepth 4000
set_option maxHeartbeats 40000000
section
namespace Go.V
open Go Go.Proofs IntKind
theorem Len.of {b : GBk} (h : aO b.Boards = true ∧ aO b.Strokes = true ∧ ∀ y ∈ b.Strokes, aO y.Needs = true) : Len b := ⟨Cx h.1, Cx h.2.1, fun s hs => Cx (h.2.2 s hs)⟩
theorem Mv : ∀ (p : List GBs) (c : Int), pg p c = some (.go ()) ∨ pg p c = some (.ret false)
 | [], c => .inl rfl
 | s :: p, c => by
  simp only [pg]
  cases decide (c < 9) with
  | false => exact .inl rfl
  | true =>
   cases decide ((s.Needs.length : Int) > 8) with
   | true => exact .inr rfl
   | false => exact Mv p (c + 1)
theorem BOk.len {b : GBk} (h : BOk b) (hl : ∀ s ∈ b.Strokes, s.Needs.length < 9223372036854775808) : Len b := ⟨by have := h.nb; omega, by have := h.ns; omega, hl⟩
structure HOk (n : Int) (s : GBs) : Prop where
 nd : ∀ k ∈ s.Needs, 0 ≤ k ∧ k < n
 ad : adjB s.Needs = true
 hr : 0 ≤ s.Hours.Low ∧ s.Hours.Low ≤ 15 ∧ 0 ≤ s.Hours.High ∧ s.Hours.High ≤ 15
structure BH (b : GBk) : Prop where
 ns : 1 ≤ b.Strokes.length ∧ b.Strokes.length ≤ 6
 s : ∀ {i : Nat} {s : GBs}, b.Strokes[i]? = some s → HOk i s
theorem BOk.h {b : GBk} (h : BOk b) : BH b := ⟨h.ns, fun hs => by have := h.s hs; have h2 := this.hr; exact ⟨this.nd, this.ad, by omega⟩⟩
def nF (b : GBk) (s : Nat) : List Int := match b.Strokes[s]? with | some x => x.Needs | none => []
def dF (b : GBk) (h : Int) (s : Nat) : Int := match b.Strokes[s]? with | some x => if h = 0 then x.Hours.Low else x.Hours.High | none => 0
def hF (pl : List Int) (s : Nat) : Int := (pl[s]?).getD 0
def EE (b : GBk) (pl : List Int) (h : Int) (s : Nat) : Int := Ed (hF pl) (nF b) (dF b h) s
def BB (b : GBk) (pl : List Int) (h : Int) (s : Nat) : Int := Bg (hF pl) (nF b) (dF b h) s
def FF (b : GBk) (pl : List Int) (h : Int) (s : Nat) : Int := frF (hF pl) (EE b pl h) (hF pl s) s
theorem BH.nd {b : GBk} (h : BH b) : NdOk (nF b) := by
 intro s k hk
 unfold nF at hk
 split at hk
 ·rename_i x hx
  have := (h.s hx).nd k hk
  omega
 ·cases hk
theorem BH.d {b : GBk} (h : BH b) (hr : Int) (s : Nat) : 0 ≤ dF b hr s ∧ dF b hr s ≤ 15 := by
 unfold dF
 split
 ·rename_i x hx
  have := (h.s hx).hr
  split <;> omega
 ·omega
theorem EE_b {b : GBk} (h : BH b) (pl : List Int) (hr : Int) {s : Nat} (hs : s < b.Strokes.length) : 0 ≤ EE b pl hr s ∧ EE b pl hr s ≤ 90 := by
 have h1 := Ed_nn (hd := hF pl) h.nd (fun k => (h.d hr k).1) s
 have h2 := tO (hd := hF pl) h.nd (h.d hr) s
 have := h.ns
 unfold EE
 omega
theorem EE_eq {b : GBk} (h : BH b) (pl : List Int) (hr : Int) (s : Nat) : EE b pl hr s = BB b pl hr s + dF b hr s := Ed_eq h.nd s
theorem BB_b {b : GBk} (h : BH b) (pl : List Int) (hr : Int) {s : Nat} (hs : s < b.Strokes.length) : 0 ≤ BB b pl hr s ∧ BB b pl hr s ≤ 90 := by
 have h1 := EE_b h pl hr hs
 have h2 := h.d hr s
 have h3 := Bg_nn (hd := hF pl) (nd := nF b) (d := dF b hr) s
 rw [EE_eq h] at h1
 have h3 : 0 ≤ BB b pl hr s := h3
 omega
theorem IT {b : GBk} (pl : List Int) (hr : Int) (s : Nat) : BB b pl hr s = max (max 0 (FF b pl hr s)) (mxL ((nF b s).map fun k => EE b pl hr k.toNat)) := rfl
def InvE (b : GBk) (pl : List Int) (l : List (Gbe × Int)) : Prop := ∀ p ∈ l, p.2 = EE b pl p.1.hours p.1.stroke.toNat
theorem InvE.nil {b : GBk} {pl : List Int} : InvE b pl [] := fun _ h => by cases h
theorem InvE.has {b : GBk} {pl : List Int} {l : List (Gbe × Int)} (h : InvE b pl l) {k : Gbe} (hk : mapHas cX l k = true) : mapGet cX 0 l k = EE b pl k.hours k.stroke.toNat := by
 unfold mapHas at hk
 unfold mapGet
 cases hi : kIdx cX k (l.map (·.1)) 0 with
 | none => rw [hi] at hk; cases hk
 | some i =>
  obtain ⟨_, e, he, hq⟩ := xU _ _ _ hi
  rw [Nat.sub_zero, List.getElem?_map] at he
  cases hg : l[i]? with
  | none => rw [hg] at he; cases he
  | some p =>
   rw [hg] at he
   simp only [Option.map_some, Option.some.injEq] at he
   have hpe := jY _ _ hq
   have hv := h p (List.mem_of_getElem? hg)
   rw [he, ← hpe] at hv
   simp only [hg, hv]
theorem vQ {K V : Type} {q : K → K → Bool} {k : K} {v : V} : ∀ {l : List (K × V)} {p : K × V}, p ∈ setR q k v l → p ∈ l ∨ p.2 = v ∧ (p.1 = k ∨ q k p.1 = true)
 | [], p, h => by
  simp only [setR, List.mem_singleton] at h
  exact .inr ⟨by rw [h], .inl (by rw [h])⟩
 | a :: l, p, h => by
  unfold setR at h
  split at h
  ·rename_i hq
   rcases List.mem_cons.1 h with rfl | h
   ·exact .inr ⟨rfl, .inl rfl⟩
   ·exact .inl (List.mem_cons_of_mem _ h)
  ·rcases List.mem_cons.1 h with rfl | h
   ·exact .inl (List.mem_cons_self ..)
   ·exact (vQ h).imp (List.mem_cons_of_mem _) id
theorem InvE.set {b : GBk} {pl : List Int} {l : List (Gbe × Int)} (h : InvE b pl l) (s hr : Int) : InvE b pl (mapSet cX l ⟨s, hr⟩ (EE b pl hr s.toNat)) := by
 intro p hp
 rw [Lw] at hp
 rcases vQ hp with hp | ⟨h1, h2⟩
 ·exact h p hp
 ·have e : p.1 = ⟨s, hr⟩ := by
   rcases h2 with h2 | h2
   ·exact h2
   ·exact (jY _ _ h2).symm
  rw [h1, e]
abbrev RC := GBk → List Int → Int → Int → List (Gbe × Int) → Option (Int × List (Gbe × Int))
def RcOk (rc : RC) (b : GBk) (pl : List Int) (h : Int) (n : Nat) : Prop := ∀ (k : Int) l, 0 ≤ k → k.toNat < n → InvE b pl l → ∃ l', rc b pl k h l = some (EE b pl h k.toNat, l') ∧ InvE b pl l'
theorem room8 {n : Nat} (h : n ≤ 1000) : aE 8 n = true := by simp [aE]; omega
theorem MZ : ∀ (p : List Int) (i c : Int), ri p i c = some (.go (p.foldl max c))
 | [], _, _ => rfl
 | e :: p, i, c => by
  simp only [ri, MZ p, List.foldl_cons]
  have : (if c < e then e else c) = max c e := by split <;> omega
  rw [this]
theorem IU {l : List Int} (h : l.length < 9223372036854775808) : pE l = some (mxL l) := by
 unfold pE
 rw [gA h, cond_true, MZ]
 rfl
theorem getP {pl : List Int} {n : Nat} {s : Int} (hl : pl.length = n) (h0 : 0 ≤ s) (h1 : s.toNat < n) : getI pl s = some (hF pl s.toNat) := by
 unfold getI hF
 rw [if_pos h0, List.getElem?_eq_getElem (by omega)]
 rfl
theorem vR {rc : RC} {b : GBk} {pl : List Int} {h : Int} {s : Int} {N : Nat} (hp : pl.length = N) (eE : 0 ≤ s) (hs : s.toNat < N) (hN : N ≤ 6) (hrc : RcOk rc b pl h s.toNat) {l : List (Gbe × Int)} (hl : InvE b pl l) :
  ∀ (k0 k : Nat), k < k0 → k ≤ s.toNat → ∃ l', lbind (pC rc b pl s h l k0 ((k : Int) - 1)) (fun r => some r) (fun _ => some (0, l)) (fun _ _ => none) = some (frF (hF pl) (EE b pl h) (hF pl s.toNat) k, l') ∧ InvE b pl l'
 | 0, _, hk, _ => absurd hk (Nat.not_lt_zero _)
 | k0 + 1, 0, _, _ => by
  simp only [pC]
  rw [decide_eq_false (by omega), cond_false]
  exact ⟨l, rfl, hl⟩
 | k0 + 1, k + 1, hk, hks => by
  simp only [pC]
  rw [decide_eq_true (by omega), cond_true, getP hp (by omega) (by omega), getP hp eE hs]
  have e : (((k + 1 : Nat) : Int) - 1).toNat = k := by omega
  simp only [Option.bind_some, e]
  unfold frF
  by_cases hh : hF pl k = hF pl s.toNat
  ·obtain ⟨l', e1, hl'⟩ := hrc (((k + 1 : Nat) : Int) - 1) l (by omega) (by omega) hl
   rw [show (hF pl k == hF pl s.toNat) = true by simpa using hh, cond_true, e1, if_pos hh, e]
   exact ⟨l', rfl, hl'⟩
  ·rw [show (hF pl k == hF pl s.toNat) = false by simpa using hh, cond_false, if_neg hh, fk (by omega) (by omega), show ((k + 1 : Nat) : Int) - 1 - 1 = (k : Int) - 1 by omega]
   exact vR hp eE hs hN hrc hl k0 k (by omega) (by omega)
theorem IV {rc : RC} {b : GBk} {pl : List Int} {h : Int} {s : Int} {N : Nat} (hp : pl.length = N) (eE : 0 ≤ s) (hs : s.toNat < N) (hN : N ≤ 6) (hrc : RcOk rc b pl h s.toNat) {l : List (Gbe × Int)} (hl : InvE b pl l) :
  ∃ l', uy rc b pl s h l = some (FF b pl h s.toNat, l') ∧ InvE b pl l' := by
 unfold uy FF
 have := vR hp eE hs hN hrc hl 1000000 s.toNat (by omega) (Nat.le_refl _)
 rw [fk (by omega) (by omega)]
 rw [show ((s.toNat : Nat) : Int) - 1 = s - 1 by omega] at this
 exact this
theorem Na {rc : RC} {b : GBk} {pl : List Int} {h : Int} {n : Nat} (hrc : RcOk rc b pl h n) : ∀ (p : List Int) (i : Int) (acc : List Int) (l : List (Gbe × Int)), (∀ k ∈ p, 0 ≤ k ∧ k.toNat < n) → acc.length + p.length ≤ 1000 → InvE b pl l →
  ∃ l', lY rc b pl h p i acc l = some (.go (acc ++ p.map (fun k => EE b pl h k.toNat), l')) ∧ InvE b pl l'
 | [], i, acc, l, _, _, hl => ⟨l, by simp [lY], hl⟩
 | k :: p, i, acc, l, hk, hn, hl => by
  have h1 := hk k (List.mem_cons_self ..)
  obtain ⟨l1, e1, eG⟩ := hrc k l h1.1 h1.2 hl
  simp only [lY, e1, Option.bind_some]
  rw [room8 (by simp at hn ⊢; omega), cond_true]
  obtain ⟨l2, e2, fu⟩ := Na hrc p (i + 1) (acc ++ [EE b pl h k.toNat]) l1 (fun k hk' => hk k (List.mem_cons_of_mem _ hk')) (by simp at hn ⊢; omega) eG
  exact ⟨l2, by rw [e2]; simp, fu⟩
theorem IW {rc : RC} {b : GBk} {pl : List Int} {h : Int} {n : Nat} (hrc : RcOk rc b pl h n) {p : List Int} (hk : ∀ k ∈ p, 0 ≤ k ∧ k.toNat < n) (hn : p.length ≤ 1000) {l : List (Gbe × Int)} (hl : InvE b pl l) :
  ∃ l', uz rc b pl p h l = some (p.map (fun k => EE b pl h k.toNat), l') ∧ InvE b pl l' := by
 obtain ⟨l', e, hl'⟩ := Na hrc p 0 [] l hk (by simpa using hn) hl
 unfold uz
 rw [gA (by omega), cond_true, e]
 exact ⟨l', rfl, hl'⟩
theorem vS : ∀ (l : List Int) (a : Int), adjB (a :: l) = true → ∀ m : Int, (∀ k ∈ a :: l, k < m) → (l.length : Int) < m - a
 | [], a, _, m, h => by have := h a (by simp); simp; omega
 | e :: l, a, h, m, hm => by
  have h' : (decide (a < e) && adjB (e :: l)) = true := h
  simp only [Bool.and_eq_true, decide_eq_true_eq] at h'
  have := vS l e h'.2 m (fun k hk => hm k (List.mem_cons_of_mem _ hk))
  simp only [List.length_cons]
  omega
theorem HOk.few {n : Int} {s : GBs} (h : HOk n s) (hn : n ≤ 6) : s.Needs.length ≤ 6 := by
 cases e : s.Needs with
 | nil => simp
 | cons a l =>
  have h1 := h.ad
  rw [e] at h1
  have := vS l a h1 n (fun k hk => (h.nd k (by rw [e]; exact hk)).2)
  have h2 := h.nd a (by rw [e]; simp)
  simp only [List.length_cons]
  omega
theorem getS {b : GBk} {s : Int} (h0 : 0 ≤ s) (h1 : s.toNat < b.Strokes.length) : ∃ x, getI b.Strokes s = some x ∧ b.Strokes[s.toNat]? = some x := by
 refine ⟨b.Strokes[s.toNat], ?_, List.getElem?_eq_getElem h1⟩
 unfold getI
 rw [if_pos h0, List.getElem?_eq_getElem h1]
theorem IX {rc : RC} {b : GBk} (hb : BH b) {pl : List Int} (hp : pl.length = b.Strokes.length) {h : Int} {s : Int} (eE : 0 ≤ s) (hs : s.toNat < b.Strokes.length) (hrc : RcOk rc b pl h s.toNat) {l : List (Gbe × Int)} (hl : InvE b pl l) :
  ∃ l', u4 rc b pl s h l = some (BB b pl h s.toNat, l') ∧ InvE b pl l' := by
 have hns := hb.ns
 obtain ⟨x, e1, e2⟩ := getS eE hs
 have hx := hb.s e2
 have hfew := hx.few (by omega)
 obtain ⟨l1, f1, eG⟩ := IV hp eE hs (by omega) hrc hl
 obtain ⟨l2, f2, fu⟩ := IW hrc (p := x.Needs) (fun k hk => by have := hx.nd k hk; omega) (by omega) eG
 unfold u4
 simp only [f1, e1, f2, Option.bind_some]
 rw [IU (by simp; omega)]
 simp only [Option.bind_some]
 rw [IU (by simp)]
 refine ⟨l2, ?_, fu⟩
 simp only [Option.bind_some, IT, nF, e2]
 rfl
theorem IY {b : GBk} {pl : List Int} {s : Int} (h0 : 0 ≤ s) (h1 : s.toNat < b.Strokes.length) : u5 b pl s = some (dF b 0 s.toNat) := by
 obtain ⟨x, e1, e2⟩ := getS h0 h1
 simp [u5, e1, dF, e2]
theorem Su {b : GBk} {pl : List Int} {s : Int} (h0 : 0 ≤ s) (h1 : s.toNat < b.Strokes.length) : u6 b pl s = some (dF b 1 s.toNat) := by
 obtain ⟨x, e1, e2⟩ := getS h0 h1
 simp [u6, e1, dF, e2]
theorem IZ {rc : RC} {b : GBk} (hb : BH b) {pl : List Int} (hp : pl.length = b.Strokes.length) {h : Int} (hh : h = 0 ∨ h = 1) {s : Int} (eE : 0 ≤ s) (hs : s.toNat < b.Strokes.length) (hrc : RcOk rc b pl h s.toNat) {l : List (Gbe × Int)} (hl : InvE b pl l) :
  ∃ l', u7 rc b pl s h l = some (EE b pl h s.toNat, l') ∧ InvE b pl l' := by
 unfold u7
 cases hm : mapHas cX l ⟨s, h⟩ with
 | true =>
  rw [cond_true, hl.has hm]
  exact ⟨l, rfl, hl⟩
 | false =>
  obtain ⟨l1, e1, eG⟩ := IX hb hp eE hs hrc hl
  have h1 := BB_b hb pl h hs
  have h2 := hb.d h s.toNat
  rw [cond_false, e1, Option.bind_some]
  rcases hh with rfl | rfl
  ·rw [IY eE hs]
   simp only [Option.bind_some, beq_self_eq_true, cond_true]
   rw [fk (by omega) (by omega), ← EE_eq hb]
   exact ⟨_, rfl, eG.set s 0⟩
  ·rw [Su eE hs]
   simp only [Option.bind_some, beq_self_eq_true, cond_true, show ((1 : Int) == 0) = false from rfl, cond_false]
   rw [fk (by omega) (by omega), ← EE_eq hb]
   exact ⟨_, rfl, eG.set s 1⟩
theorem vT {b : GBk} (hb : BH b) {pl : List Int} (hp : pl.length = b.Strokes.length) {h : Int} (hh : h = 0 ∨ h = 1) : ∀ (f n : Nat), n ≤ f → n ≤ b.Strokes.length → RcOk (gEnd f) b pl h n
 | 0, n, hn, _ => fun k l h0 h1 hl => absurd h1 (by omega)
 | f + 1, n, hn, hnl => fun k l h0 h1 hl => IZ hb hp hh h0 (by omega) (vT hb hp hh f k.toNat (by omega) (by omega)) hl
section
variable {b : GBk} (hb : BH b) {pl : List Int} (hp : pl.length = b.Strokes.length) {h : Int} (hh : h = 0 ∨ h = 1) {l : List (Gbe × Int)} (hl : InvE b pl l)
include hb hp hh hl
theorem Ja {s : Int} (h0 : 0 ≤ s) (h1 : s.toNat < b.Strokes.length) : ∃ l', DS b pl s h l = some (EE b pl h s.toNat, l') ∧ InvE b pl l' :=
 vT hb hp hh 8 b.Strokes.length (by have := hb.ns; omega) (Nat.le_refl _) s l h0 h1 hl
end
section
variable {b : GBk} (hb : BH b) {pl : List Int} (hp : pl.length = b.Strokes.length) {l : List (Gbe × Int)} (hl : InvE b pl l)
include hb hp hl
end
theorem vU {b : GBk} (hb : BH b) {pl : List Int} (hp : pl.length = b.Strokes.length) : ∀ (p : List GBs) (i : Nat) (l : List (Gbe × Int)), i + p.length = b.Strokes.length → InvE b pl l →
  ∃ l', pK b pl p i (tkF (EE b pl 1) i) l = some (.go (tkF (EE b pl 1) b.Strokes.length, l')) ∧ InvE b pl l'
 | [], i, l, hi, hl => ⟨l, by simp at hi; subst hi; rfl, hl⟩
 | s :: p, i, l, hi, hl => by
  simp only [List.length_cons] at hi
  obtain ⟨l1, e1, eG⟩ := Ja hb hp (.inr rfl) hl (s := i) (by omega) (by omega)
  simp only [pK, e1, Option.bind_some]
  rw [IU (by simp)]
  obtain ⟨l2, e2, fu⟩ := vU hb hp p (i + 1) l1 (by omega) eG
  refine ⟨l2, ?_, fu⟩
  rw [← e2]
  simp only [Option.bind_some, mxL, List.foldl_cons, List.foldl_nil, Int.toNat_natCast]
  have h1 := tP (EE b pl 1) i
  congr 1
  show max (max 0 (tkF (EE b pl 1) i)) (EE b pl 1 i) = max (tkF (EE b pl 1) i) (EE b pl 1 i)
  rw [Int.max_eq_right h1]
def TK (b : GBk) (pl : List Int) : Int := tkF (EE b pl 1) b.Strokes.length
theorem Jb {b : GBk} (hb : BH b) {pl : List Int} (hp : pl.length = b.Strokes.length) {l : List (Gbe × Int)} (hl : InvE b pl l) : ∃ l', pM b pl l = some (TK b pl, l') ∧ InvE b pl l' := by
 obtain ⟨l', e, hl'⟩ := vU hb hp b.Strokes 0 l (by simp) hl
 unfold pM
 rw [gA (by have := hb.ns; omega), cond_true]
 have e' : pK b pl b.Strokes 0 0 l = _ := e
 rw [e']
 exact ⟨l', rfl, hl'⟩
end Go.V
end
section
namespace Go.V
open Go Go.Proofs IntKind
theorem au.atR {P : Program} {G : Glob} {x : Option (Option Nat)} {f : FuncId} {args : List VV} {H : Nat → Option VObj} {nx : Nat} {R Rp : VV → (Nat → Option VObj) → Nat → Prop} (h : au P G f args H nx R Rp) : au P (G.at x) f args H nx R Rp := h
def plM (b : GBk) (p : List Int) (δ : Nat) : VV := .agg [.lit (.int .i64 b.Apprentices), .sl (ae eI b.Boards) (List.length b.Boards) false, .sl (ae cGBs b.Strokes) (List.length b.Strokes) false, .sl (ae eI p) (List.length p) false, .mp δ]
theorem lB {b : GBk} {p : List Int} {δ : Nat} : plM b p δ = .agg [.lit (.int .i64 b.Apprentices), .sl (ae eI b.Boards) (List.length b.Boards) false, .sl (ae cGBs b.Strokes) (List.length b.Strokes) false, .sl (ae eI p) (List.length p) false, .mp δ] := rfl
theorem Sv {b : GBk} {p q : List Int} {δ δ' nx : Nat} {H : Nat → Option VObj} {la lb : List (Gbe × Int)} {Ra Rb : Int × List (Gbe × Int)} (ha : pM b p la = some Ra) (hb : pM b q lb = some Rb) (h1 : δ < nx) (h2 : δ' < nx) (hne : δ ≠ δ')
    (Hδ : H δ = some (.map (encM aZ c9 la))) (Hδ' : H δ' = some (.map (encM aZ c9 lb))) :
    au Tryz.prog G0 114 [plM b p δ, plM b q δ'] H nx (fun x H' nx' => x = .lit (.bool (decide (Ra.1 < Rb.1))) ∧ nx ≤ nx' ∧ H' δ = some (.map (encM aZ c9 Ra.2)) ∧ H' δ' = some (.map (encM aZ c9 Rb.2)) ∧ ∀ γ, γ < nx → γ ≠ δ → γ ≠ δ' → H' γ = H γ) (fun _ _ _ => False) := by
  have q1 := fK h1
  have q2 := fK h2
  have q3 := ne_f hne
  have q4 := ne_f (Ne.symm hne)
  refine au.run mixed Tryz.call114 Tryz.func114 rfl (by simp [Tryz.ntmps114]; kernel_rfl) ?_
  simp only [lB, vz, mq, mqm, vsi, tyf, mqt, q1, q2, q3, q4, Hδ, Hδ', nm, seval, ua]
  refine pI (fun tm => tm 2 = .ptr nx 0 ∧ tm 3 = .ptr (nx + 1) 0) (by refine ⟨?_, ?_⟩ <;> first | (simp only [ua, Nat.add_zero, nm, seval]; done) | rfl) ?_
  rintro tm ⟨e2, e3⟩
  simp only [vz, mq, mqm, vsi, tyf, mqt, q1, q2, q3, q4, Hδ, Hδ', e2, e3, nm, seval, ua]
  refine dkupd (VUpd.at (β := δ) (y := (fun _ => .lit (.int .i64 Ra.1))) (xi _ _ _ _ ha) (by omega) (by first | rfl | assumption | (simp only [aK, bk, q1, q2, q3, q4, Hδ, Hδ', nm, seval] <;> rfl)) (by first | rfl | (simp only [nrm, aN, @fm, @iK] <;> rfl)) (iv (fun _ => rfl) _)) ?_
  refine iL (fun tm => tm 2 = .ptr nx 0 ∧ tm 3 = .ptr (nx + 1) 0 ∧ tm 6 = .lit (.int .i64 Ra.1)) (by refine ⟨?_, ?_, ?_⟩ <;> first | (simp only [ua, cI, q1, q2, q3, q4, e2, e3, nm, seval] <;> rfl) | rfl) ?_
  clear e2 e3 tm
  rintro tm ⟨e2, e3, e6⟩
  simp only [vz, mq, mqm, vsi, tyf, mqt, q1, q2, q3, q4, Hδ, Hδ', e2, e3, e6, nm, seval, ua]
  refine dkupd (VUpd.at (β := δ') (y := (fun _ => .lit (.int .i64 Rb.1))) (xi _ _ _ _ hb) (by omega) (by first | rfl | assumption | (simp only [aK, bk, q1, q2, q3, q4, Hδ, Hδ', nm, seval] <;> rfl)) (by first | rfl | (simp only [nrm, aN, @fm, @iK] <;> rfl)) (iv (fun _ => rfl) _)) ?_
  refine iL (fun tm => tm 2 = .ptr nx 0 ∧ tm 3 = .ptr (nx + 1) 0 ∧ tm 6 = .lit (.int .i64 Ra.1) ∧ tm 8 = .lit (.int .i64 Rb.1)) (by refine ⟨?_, ?_, ?_, ?_⟩ <;> first | (simp only [ua, cI, q1, q2, q3, q4, e2, e3, e6, nm, seval] <;> rfl) | rfl) ?_
  clear e2 e3 e6 tm
  rintro tm ⟨e2, e3, e6, e8⟩
  simp only [vz, mq, mqm, vsi, tyf, mqt, q1, q2, q3, q4, Hδ, Hδ', e2, e3, e6, e8, nm, seval, ua]
  refine kD ⟨?_, ?_⟩
  · simp only [kE, kG, fU, kH, and_true, true_and]
    repeat' (first | exact trivial | refine And.intro ?_ ?_ | rw [fU] | rw [kI] | exact Or.inl (by decide +kernel) | exact Or.inl (by dsimp only; decide +kernel) | (refine Or.inr ⟨?_, ?_⟩ <;> simp; done) | (refine Or.inr ⟨?_, ?_⟩ <;> simp <;> omega) | (refine Or.inr ⟨?_, ?_⟩ <;> simp [VEff.wr] <;> omega))
  simp only [vz, mq, mqm, vsi, tyf, mqt, q1, q2, q3, q4, Hδ, Hδ', e2, e3, e6, e8, nm, seval, ua]
  refine cn (x := .lit (.bool (decide (Ra.1 < Rb.1)))) (by first | (simp only [Tryz.results114, resV, resL, aR, cw, cv, uw, cr, tyf, nm, seval] <;> rfl) | rfl) ?_
  refine ⟨rfl, (show nx ≤ nx + 9 by omega), ?_, ?_, ?_⟩
  · rw [aK, if_neg hne, aK, if_pos rfl]
  · rw [aK, if_pos rfl]
  · intro γ h3 h4 h5
    rw [aK, if_neg h5, aK, if_neg h4, aK, if_neg (by omega), aK, if_neg (by omega)]
def bestP (tk : List Int → Int) : List (List Int) → Option (List Int) → Option (List Int)
  | [], a => a
  | x :: L, none => bestP tk L (some x)
  | x :: L, some r => bestP tk L (if tk x < tk r then some x else some r)
def TakesOk (b : GBk) (L : List (List Int)) (tk : List Int → Int) : Prop := ∀ p ∈ L, ∀ l, InvE b p l → ∃ l', pM b p l = some (tk p, l') ∧ InvE b p l'
def cPl (b : GBk) (p : List Int) (δ : Nat) : List VV := [.lit (.int .i64 b.Apprentices), .sl (ae eI b.Boards) (List.length b.Boards) false, .sl (ae cGBs b.Strokes) (List.length b.Strokes) false, .sl (ae eI p) (List.length p) false, .mp δ]
theorem qu {b : GBk} {p : List Int} {δ : Nat} : cPl b p δ = [.lit (.int .i64 b.Apprentices), .sl (ae eI b.Boards) (List.length b.Boards) false, .sl (ae cGBs b.Strokes) (List.length b.Strokes) false, .sl (ae eI p) (List.length p) false, .mp δ] := rfl
theorem Sw {b : GBk} {itv : VV} {L : List (List Int)} {tk : List Int → Int} {R : List Int} (hit : IterM Tryz.prog G0 itv (L.map (plV b))) (hT : TakesOk b L tk) (hR : bestP tk L none = some R) (H0 : Nat → Option VObj) (nx : Nat) :
    au Tryz.prog G0 113 [itv, .fn (.func 114) [] []] H0 nx (fun x H' nx' => nx ≤ nx' ∧ (∀ γ, γ < nx → H' γ = H0 γ) ∧ ∃ δ l, x = .tup [plM b R δ, .lit (.bool true)] ∧ nx ≤ δ ∧ δ < nx' ∧ H' δ = some (.map (encM aZ c9 l)) ∧ InvE b R l) (fun _ _ _ => False) := by
  refine au.run mixed Tryz.call113 Tryz.func113 rfl (by simp [Tryz.ntmps113]; kernel_rfl) ?_
  simp only [vz, mq, mqm, vsi, tyf, mqt, seval, ua, rg, nm]
  refine wj (fun tm => tm 9 = itv ∧ tm 3 = .ptr nx 0 ∧ tm 4 = .ptr (nx + 1) 0 ∧ tm 6 = .ptr (nx + 3) 0 ∧ tm 7 = .ptr (nx + 4) 0) (by refine ⟨?_, ?_, ?_, ?_, ?_⟩ <;> first | (simp only [ua, Nat.add_zero, nm, seval]; done) | rfl) ?_
  rintro tm ⟨e9, e3, e4, e6, e7⟩
  refine LF hit (by first | (simp only [kV, kW, e9, jM, seval] <;> rfl) | rfl) ?_
  intro LO hLO
  obtain ⟨J, hJ⟩ : ∃ J : Option (List VV) → List (Nat × VObj) → Prop, J = (fun o hp => match o with
    | some l => ∃ (p : List (List Int)) (a : Option (List Int)), l = p.map (plV b) ∧ (∀ q ∈ p, q ∈ L) ∧ bestP tk p a = some R ∧
        ((a = none ∧ hp = [(nx + 7, .deferred (some [])), (nx + 8, LO), (nx, .cells (some 129) [.fn (.func 114) [] []]), (nx + 1, .cells (some 92) [.lit (.int .i64 0), .lit (.slice none 0 0), .lit (.slice none 0 0), .lit (.slice none 0 0), .lit (.map none)]), (nx + 3, .cells (some 92) [.lit (.int .i64 0), .lit (.slice none 0 0), .lit (.slice none 0 0), .lit (.slice none 0 0), .lit (.map none)]), (nx + 4, .cells (some 4) [.lit (.bool false)])]) ∨
         ∃ r δ lr, a = some r ∧ r ∈ L ∧ (nx ≤ δ ∧ δ ≠ nx ∧ δ ≠ nx + 1 ∧ δ ≠ nx + 3 ∧ δ ≠ nx + 4 ∧ δ ≠ nx + 7 ∧ δ ≠ nx + 8) ∧ InvE b r lr ∧ hp = [(nx + 7, .deferred (some [])), (nx + 8, LO), (nx, .cells (some 129) [.fn (.func 114) [] []]), (nx + 1, .cells (some 92) [.lit (.int .i64 0), .lit (.slice none 0 0), .lit (.slice none 0 0), .lit (.slice none 0 0), .lit (.map none)]), (nx + 3, .cells (some 92) (cPl b r δ)), (nx + 4, .cells (some 4) [.lit (.bool true)]), (δ, .map (encM aZ c9 lr))])
    | none => False) := ⟨_, rfl⟩
  obtain ⟨I, hI⟩ : ∃ I : Inv, I = (fun o Fr H n => (nx + 9 ≤ n ∧ ∀ γ, γ < nx → ¬ Fr γ ∧ H γ = H0 γ) ∧ ownI J o Fr H n) := ⟨_, rfl⟩
  have hst : Stable I := by
    rw [hI]
    rintro o Fr nW H H1 n n1 ⟨⟨h0, h1⟩, h2⟩ h3 h4 h5
    refine ⟨⟨by omega, fun γ hγ => ?_⟩, Nb _ _ _ _ _ _ _ h2 h3 h4 h5⟩
    obtain ⟨k1, k2⟩ := h1 γ hγ
    refine ⟨fun hf => ?_, (h3 γ (by omega) k1).trans k2⟩
    rcases h5 γ hf with hf | hf
    · exact k1 hf
    · omega
  refine ⟨I, hst, ?_, ?_, ?_⟩
  · rintro v rest Fr H n δe hFr hδe hnδ hHδ hi
    rw [hI] at hi
    obtain ⟨⟨j5, hfr⟩, hp, hown, hj⟩ := hi
    rw [hJ] at hj
    obtain ⟨p, a, hl, hpL, hbp, hcase⟩ := hj
    cases p with
    | nil => cases hl
    | cons e p =>
    simp only [List.map_cons, List.cons.injEq, plV, VV.agg.injEq] at hl
    obtain ⟨rfl, rfl⟩ := hl
    have heL := hpL e (List.mem_cons_self ..)
    have hpL' : ∀ q ∈ p, q ∈ L := fun q hq => hpL q (List.mem_cons_of_mem _ hq)
    rcases hcase with ⟨rfl, rfl⟩ | ⟨r, δ, lr, rfl, hrL, hδ9, hinv, rfl⟩
    · obtain ⟨l7, n7, H7⟩ := hown.head
      obtain ⟨l8, n8, H8⟩ := hown.tail.head
      obtain ⟨l0, n0, H0'⟩ := hown.tail.tail.head
      obtain ⟨l1, n1, H1⟩ := hown.tail.tail.tail.head
      obtain ⟨l3, n3, H3⟩ := hown.tail.tail.tail.tail.head
      obtain ⟨l4, n4, H4⟩ := hown.tail.tail.tail.tail.tail.head
      simp only [not_or] at n7 n8 n0 n1 n3 n4
      refine xa mixed (psl := [10]) hLO H8 xb rfl (by kernel_rfl) (by kernel_rfl) ?_
      intro LB LD hLB hLD
      refine xc (fun tm => tm 10 = plM b e δe ∧ tm 3 = .ptr nx 0 ∧ tm 4 = .ptr (nx + 1) 0 ∧ tm 6 = .ptr (nx + 3) 0 ∧ tm 7 = .ptr (nx + 4) 0) (by refine ⟨?_, ?_, ?_, ?_, ?_⟩ <;> first | (simp only [xd, xe, Tryz.ntmps113, e3, e4, e6, e7, seval]; done) | rfl) ?_
      clear e9 e3 e4 e6 e7
      rintro tm ⟨bB, e3, e4, e6, e7⟩
      have nb := jz (a := nx) (m := 9) (b := n) j5
      simp only [lB] at bB
      simp only [vz, mq, mqm, vsi, tyf, mqt, seval, ua, nm, rg, RStart, bB, e3, e4, e6, e7, H8, H0', H1, H3, H4, nb, Bool.not_false]
      simp only [bestP] at hbp
      have hδn : nx ≤ δe := Nat.le_of_not_lt fun hh => (hfr δe hh).1 (.inr rfl)
      have hδe9 : nx ≤ δe ∧ δe ≠ nx ∧ δe ≠ nx + 1 ∧ δe ≠ nx + 3 ∧ δe ≠ nx + 4 ∧ δe ≠ nx + 7 ∧ δe ≠ nx + 8 := ⟨hδn, Ne.symm n0.2, Ne.symm n1.2, Ne.symm n3.2, Ne.symm n4.2, Ne.symm n7.2, Ne.symm n8.2⟩
      refine ⟨by simp only [aK, nb, nm, seval], (show n ≤ n + 13 by omega), fun γ hγ => ?_, ?_⟩
      · have := hFr γ hγ
        have g8 : γ ≠ nx + 8 := fun e => n8.1 (e ▸ hγ)
        have g3 : γ ≠ nx + 3 := fun e => n3.1 (e ▸ hγ)
        have g4 : γ ≠ nx + 4 := fun e => n4.1 (e ▸ hγ)
        simp only [updH]
        repeat rw [if_neg (by first | assumption | omega)]
      · rw [hI]
        simp only [if_true]
        refine ⟨⟨(show nx + 9 ≤ n + 13 by omega), fun γ hγ => ⟨fun hf => (hfr γ hγ).1 (.inl hf), ?_⟩⟩, ?_⟩
        · rw [← (hfr γ hγ).2]
          simp only [updH]
          repeat rw [if_neg (by omega)]
        · refine ⟨[(nx + 7, .deferred (some [])), (nx + 8, LO), (nx, .cells (some 129) [.fn (.func 114) [] []]), (nx + 1, .cells (some 92) [.lit (.int .i64 0), .lit (.slice none 0 0), .lit (.slice none 0 0), .lit (.slice none 0 0), .lit (.map none)]), (nx + 3, .cells (some 92) (cPl b e δe)), (nx + 4, .cells (some 4) [.lit (.bool true)]), (δe, .map (encM aZ c9 []))], Own.cons (show nx + 7 < n + 13 by omega) n7.1 ?_ (Own.cons (show nx + 8 < n + 13 by omega) n8.1 ?_ (Own.cons (show nx < n + 13 by omega) n0.1 ?_ (Own.cons (show nx + 1 < n + 13 by omega) n1.1 ?_ (Own.cons (show nx + 3 < n + 13 by omega) n3.1 ?_ (Own.cons (show nx + 4 < n + 13 by omega) n4.1 ?_ (Own.cons (show δe < n + 13 by omega) hnδ ?_ Own.nil)))))), ?_⟩
          rotate_right
          · rw [hJ]
            exact ⟨p, some e, rfl, hpL', hbp, .inr ⟨e, δe, [], rfl, heL, hδe9, InvE.nil, rfl⟩⟩
          · simp only [aK, nb, nm, seval, H7]
          · simp only [aK, nb, nm, seval]
          · simp only [aK, nb, nm, seval, H0']
          · simp only [aK, nb, nm, seval, H1]
          · simp only [aK, nb, nm, seval]; rfl
          · simp only [aK, nb, nm, seval]
          · simp only [updH]
            repeat rw [if_neg (by omega)]
            rw [hHδ, cI]
    · obtain ⟨l7, n7, H7⟩ := hown.head
      obtain ⟨l8, n8, H8⟩ := hown.tail.head
      obtain ⟨l0, n0, H0'⟩ := hown.tail.tail.head
      obtain ⟨l1, n1, H1⟩ := hown.tail.tail.tail.head
      obtain ⟨l3, n3, H3⟩ := hown.tail.tail.tail.tail.head
      obtain ⟨l4, n4, H4⟩ := hown.tail.tail.tail.tail.tail.head
      obtain ⟨ld, nd, Hd⟩ := hown.tail.tail.tail.tail.tail.tail.head
      simp only [not_or] at n7 n8 n0 n1 n3 n4 nd
      refine xa mixed (psl := [10]) hLO H8 xb rfl (by kernel_rfl) (by kernel_rfl) ?_
      intro LB LD hLB hLD
      refine xc (fun tm => tm 10 = plM b e δe ∧ tm 3 = .ptr nx 0 ∧ tm 4 = .ptr (nx + 1) 0 ∧ tm 6 = .ptr (nx + 3) 0 ∧ tm 7 = .ptr (nx + 4) 0) (by refine ⟨?_, ?_, ?_, ?_, ?_⟩ <;> first | (simp only [xd, xe, Tryz.ntmps113, e3, e4, e6, e7, seval]; done) | rfl) ?_
      clear e9 e3 e4 e6 e7
      rintro tm ⟨bB, e3, e4, e6, e7⟩
      have nb := jz (a := nx) (m := 9) (b := n) j5
      simp only [lB] at bB
      rw [qu] at H3
      have hδn : nx ≤ δe := Nat.le_of_not_lt fun hh => (hfr δe hh).1 (.inr rfl)
      have hδe9 : nx ≤ δe ∧ δe ≠ nx ∧ δe ≠ nx + 1 ∧ δe ≠ nx + 3 ∧ δe ≠ nx + 4 ∧ δe ≠ nx + 7 ∧ δe ≠ nx + 8 := ⟨hδn, Ne.symm n0.2, Ne.symm n1.2, Ne.symm n3.2, Ne.symm n4.2, Ne.symm n7.2, Ne.symm n8.2⟩
      obtain ⟨le, ee, ie⟩ := hT e heL [] InvE.nil
      obtain ⟨lr', er, ir⟩ := hT r hrL lr hinv
      simp only [bestP] at hbp
      have hδδ : δe ≠ δ := Ne.symm nd.2
      simp only [vz, mq, mqm, vsi, tyf, mqt, seval, ua, nm, rg, RStart, bB, e3, e4, e6, e7, H8, H0', H1, H3, H4, nb, @mC, Bool.not_true]
      refine kopen ?_
      rw [ou]
      generalize hHH : updH (updH (updH H (n + 0) (VObj.cells (some 92) [.lit (.int .i64 0), .lit (.slice none 0 0), .lit (.slice none 0 0), .lit (.slice none 0 0), .lit (.map none)])) (n + 0) (VObj.cells (some 92) [.lit (.int .i64 b.Apprentices), .sl (ae eI b.Boards) (List.length b.Boards) false, .sl (ae cGBs b.Strokes) (List.length b.Strokes) false, .sl (ae eI e) (List.length e) false, .mp δe])) (nx + 8) LB = HH
      have hδe' : HH δe = some (.map (encM aZ c9 [])) := by
        rw [← hHH]
        simp only [updH]
        repeat rw [if_neg (by omega)]
        rw [hHδ, cI]
      have hδ' : HH δ = some (.map (encM aZ c9 lr)) := by
        rw [← hHH]
        simp only [updH]
        repeat rw [if_neg (by omega)]
        exact Hd
      refine au.mono (au.atR (Sv (b := b) (p := e) (q := r) ee er (show δe < n + 10 by omega) (show δ < n + 10 by omega) hδδ hδe' hδ')) ?_ (fun _ _ _ h => h.elim)
      rintro v H2 n2 ⟨rfl, g1, g2, g3, g4⟩
      have K8 : H2 (nx + 8) = some LB := by
        rw [g4 _ (by omega) (by omega) (by omega), ← hHH]
        simp only [updH]
        simp
      have K7 : H2 (nx + 7) = some (.deferred (some [])) := by
        rw [g4 _ (by omega) (by omega) (by omega), ← hHH]
        simp only [updH]
        repeat rw [if_neg (by omega)]
        exact H7
      have K0 : H2 (nx) = some (.cells (some 129) [.fn (.func 114) [] []]) := by
        rw [g4 _ (by omega) (by omega) (by omega), ← hHH]
        simp only [updH]
        repeat rw [if_neg (by omega)]
        exact H0'
      have K1 : H2 (nx + 1) = some (.cells (some 92) [.lit (.int .i64 0), .lit (.slice none 0 0), .lit (.slice none 0 0), .lit (.slice none 0 0), .lit (.map none)]) := by
        rw [g4 _ (by omega) (by omega) (by omega), ← hHH]
        simp only [updH]
        repeat rw [if_neg (by omega)]
        exact H1
      have K3 : H2 (nx + 3) = some (.cells (some 92) (cPl b r δ)) := by
        rw [g4 _ (by omega) (by omega) (by omega), ← hHH]
        simp only [updH]
        repeat rw [if_neg (by omega)]
        exact H3
      have K4 : H2 (nx + 4) = some (.cells (some 4) [.lit (.bool true)]) := by
        rw [g4 _ (by omega) (by omega) (by omega), ← hHH]
        simp only [updH]
        repeat rw [if_neg (by omega)]
        exact H4
      have Kx : H2 (n + 0) = some (.cells (some 92) (cPl b e δe)) := by
        rw [g4 _ (by omega) (by omega) (by omega), ← hHH]
        simp only [updH]
        rw [if_neg (by omega), if_pos trivial]
        rfl
      have KF : ∀ γ, γ < n → ¬ γ = δe → ¬ γ = δ → ¬ γ = nx + 8 → H2 γ = H γ := by
        intro γ h1 h2 h3 h4
        rw [g4 γ (by omega) h2 h3, ← hHH]
        simp only [updH]
        repeat rw [if_neg (by omega)]
      rw [qu] at Kx K3
      by_cases hlt : tk e < tk r
      · rw [decide_eq_true hlt]
        rw [if_pos hlt] at hbp
        simp only [vz, mq, mqm, vsi, tyf, mqt, seval, ua, nm, rg, e3, e4, e6, e7, K8, K7, K0, K1, K3, K4, Kx, nb]
        refine ⟨by simp only [aK, K8, nm, seval], (show n ≤ n2 + 3 by omega), fun γ hγ => ?_, ?_⟩
        · have h1 := hFr γ hγ
          have g8 : γ ≠ nx + 8 := fun e => n8.1 (e ▸ hγ)
          have g3 : γ ≠ nx + 3 := fun e => n3.1 (e ▸ hγ)
          have g4' : γ ≠ nx + 4 := fun e => n4.1 (e ▸ hγ)
          have gd : γ ≠ δ := fun e => nd.1 (e ▸ hγ)
          have ge : γ ≠ δe := fun e => hnδ (e ▸ hγ)
          simp only [updH]
          repeat rw [if_neg (by first | assumption | omega)]
          exact KF γ h1 ge gd g8
        · rw [hI]
          simp only [if_true]
          refine ⟨⟨(show nx + 9 ≤ n2 + 3 by omega), fun γ hγ => ⟨fun hf => (hfr γ hγ).1 (.inl hf), ?_⟩⟩, ?_⟩
          · rw [← (hfr γ hγ).2]
            simp only [updH]
            repeat rw [if_neg (by omega)]
            exact KF γ (by omega) (by omega) (by omega) (by omega)
          · refine ⟨[(nx + 7, .deferred (some [])), (nx + 8, LO), (nx, .cells (some 129) [.fn (.func 114) [] []]), (nx + 1, .cells (some 92) [.lit (.int .i64 0), .lit (.slice none 0 0), .lit (.slice none 0 0), .lit (.slice none 0 0), .lit (.map none)]), (nx + 3, .cells (some 92) (cPl b e δe)), (nx + 4, .cells (some 4) [.lit (.bool true)]), (δe, .map (encM aZ c9 le))], Own.cons (show nx + 7 < n2 + 3 by omega) n7.1 ?_ (Own.cons (show nx + 8 < n2 + 3 by omega) n8.1 ?_ (Own.cons (show nx < n2 + 3 by omega) n0.1 ?_ (Own.cons (show nx + 1 < n2 + 3 by omega) n1.1 ?_ (Own.cons (show nx + 3 < n2 + 3 by omega) n3.1 ?_ (Own.cons (show nx + 4 < n2 + 3 by omega) n4.1 ?_ (Own.cons (show δe < n2 + 3 by omega) hnδ ?_ Own.nil)))))), ?_⟩
            rotate_right
            · rw [hJ]
              exact ⟨p, some e, rfl, hpL', hbp, .inr ⟨e, δe, le, rfl, heL, hδe9, ie, rfl⟩⟩
            · simp only [aK, nm, seval, K7]
            · simp only [aK, nm, seval]
            · simp only [aK, nm, seval, K0]
            · simp only [aK, nm, seval, K1]
            · simp only [aK, nm, seval, K3]; rfl
            · simp only [aK, nm, seval, K4]
            · simp only [updH]
              repeat rw [if_neg (by omega)]
              exact g2
      · rw [decide_eq_false hlt]
        rw [if_neg hlt] at hbp
        simp only [vz, mq, mqm, vsi, tyf, mqt, seval, ua, nm, rg, e3, e4, e6, e7, K8, K7, K0, K1, K3, K4, Kx, nb]
        refine ⟨by simp only [aK, K8, nm, seval], (show n ≤ n2 by omega), fun γ hγ => ?_, ?_⟩
        · have h1 := hFr γ hγ
          have g8 : γ ≠ nx + 8 := fun e => n8.1 (e ▸ hγ)
          have g3 : γ ≠ nx + 3 := fun e => n3.1 (e ▸ hγ)
          have g4' : γ ≠ nx + 4 := fun e => n4.1 (e ▸ hγ)
          have gd : γ ≠ δ := fun e => nd.1 (e ▸ hγ)
          have ge : γ ≠ δe := fun e => hnδ (e ▸ hγ)
          simp only [updH]
          repeat rw [if_neg (by first | assumption | omega)]
          exact KF γ h1 ge gd g8
        · rw [hI]
          simp only [if_true]
          refine ⟨⟨(show nx + 9 ≤ n2 by omega), fun γ hγ => ⟨fun hf => (hfr γ hγ).1 (.inl hf), ?_⟩⟩, ?_⟩
          · rw [← (hfr γ hγ).2]
            simp only [updH]
            repeat rw [if_neg (by omega)]
            exact KF γ (by omega) (by omega) (by omega) (by omega)
          · refine ⟨[(nx + 7, .deferred (some [])), (nx + 8, LO), (nx, .cells (some 129) [.fn (.func 114) [] []]), (nx + 1, .cells (some 92) [.lit (.int .i64 0), .lit (.slice none 0 0), .lit (.slice none 0 0), .lit (.slice none 0 0), .lit (.map none)]), (nx + 3, .cells (some 92) (cPl b r δ)), (nx + 4, .cells (some 4) [.lit (.bool true)]), (δ, .map (encM aZ c9 lr'))], Own.cons (show nx + 7 < n2 by omega) n7.1 ?_ (Own.cons (show nx + 8 < n2 by omega) n8.1 ?_ (Own.cons (show nx < n2 by omega) n0.1 ?_ (Own.cons (show nx + 1 < n2 by omega) n1.1 ?_ (Own.cons (show nx + 3 < n2 by omega) n3.1 ?_ (Own.cons (show nx + 4 < n2 by omega) n4.1 ?_ (Own.cons (show δ < n2 by omega) nd.1 ?_ Own.nil)))))), ?_⟩
            rotate_right
            · rw [hJ]
              exact ⟨p, some r, rfl, hpL', hbp, .inr ⟨r, δ, lr', rfl, hrL, hδ9, ir, rfl⟩⟩
            · simp only [aK, nm, seval, K7]
            · simp only [aK, nm, seval]
            · simp only [aK, nm, seval, K0]
            · simp only [aK, nm, seval, K1]
            · simp only [aK, nm, seval, K3]; rfl
            · simp only [aK, nm, seval, K4]
            · simp only [updH]
              repeat rw [if_neg (by omega)]
              exact g3
  · rw [hI]
    refine ⟨⟨Nat.le_refl _, fun γ hγ => ⟨fun h => h, ?_⟩⟩, ?_⟩
    · simp only [updH]
      repeat rw [if_neg (by omega)]
    · refine ⟨[(nx + 7, .deferred (some [])), (nx + 8, LO), (nx, .cells (some 129) [.fn (.func 114) [] []]), (nx + 1, .cells (some 92) [.lit (.int .i64 0), .lit (.slice none 0 0), .lit (.slice none 0 0), .lit (.slice none 0 0), .lit (.map none)]), (nx + 3, .cells (some 92) [.lit (.int .i64 0), .lit (.slice none 0 0), .lit (.slice none 0 0), .lit (.slice none 0 0), .lit (.map none)]), (nx + 4, .cells (some 4) [.lit (.bool false)])], Own.cons (show nx + 7 < nx + 9 by omega) (fun h => h) ?_ (Own.cons (show nx + 8 < nx + 9 by omega) (fun h => h) ?_ (Own.cons (show nx < nx + 9 by omega) (fun h => h) ?_ (Own.cons (show nx + 1 < nx + 9 by omega) (fun h => h) ?_ (Own.cons (show nx + 3 < nx + 9 by omega) (fun h => h) ?_ (Own.cons (show nx + 4 < nx + 9 by omega) (fun h => h) ?_ Own.nil))))), ?_⟩
      rotate_right
      · rw [hJ]
        exact ⟨L, none, rfl, fun q h => h, hR, .inl ⟨rfl, rfl⟩⟩
      · simp [updH]
      · simp [updH]
      · simp only [updH]
        rw [if_neg (by omega), if_neg (by omega), if_neg (by omega), if_neg (by omega), if_neg (by omega), if_neg (by omega), if_pos (by omega)]
      · simp [updH]
      · simp [updH]
      · simp [updH]
  · rintro H' nx' hh
    have hh : I (some []) noFr H' nx' := by
      rcases hh with h | h
      · exact h
      · rw [hI] at h
        obtain ⟨_, hp, _, hj⟩ := h
        rw [hJ] at hj
        exact hj.elim
    rw [hI] at hh
    obtain ⟨⟨j5, hfr⟩, hp, hown, hj⟩ := hh
    rw [hJ] at hj
    obtain ⟨p, a, hl, hpL, hbp, hcase⟩ := hj
    cases p with
    | cons e p => cases hl
    | nil =>
    simp only [bestP] at hbp
    rcases hcase with ⟨rfl, rfl⟩ | ⟨r, δ, lr, rfl, hrL, hδ9, hinv, rfl⟩
    · cases hbp
    simp only [Option.some.injEq] at hbp
    subst hbp
    obtain ⟨l7, n7, H7⟩ := hown.head
    obtain ⟨l8, n8, H8⟩ := hown.tail.head
    obtain ⟨l0, n0, H0'⟩ := hown.tail.tail.head
    obtain ⟨l1, n1, H1⟩ := hown.tail.tail.tail.head
    obtain ⟨l3, n3, H3⟩ := hown.tail.tail.tail.tail.head
    obtain ⟨l4, n4, H4⟩ := hown.tail.tail.tail.tail.tail.head
    obtain ⟨ld, nd, Hd⟩ := hown.tail.tail.tail.tail.tail.tail.head
    rw [qu] at H3
    refine DE hLO H8 ?_
    intro LX
    have nb := jz (a := nx) (m := 9) (b := nx') j5
    simp only [vz, mq, mqm, vsi, tyf, mqt, seval, ua, nm, rg, e4, e6, e7, H1, H3, H4, nb]
    refine pI (fun tm => tm 4 = .ptr (nx + 1) 0 ∧ tm 6 = .ptr (nx + 3) 0 ∧ tm 7 = .ptr (nx + 4) 0) ⟨e4, e6, e7⟩ ?_
    clear e9 e3 e4 e6 e7
    rintro tm ⟨e4, e6, e7⟩
    simp only [vz, mq, mqm, vsi, tyf, mqt, seval, ua, nm, rg, e4, e6, e7, H1, H3, H4, nb]
    refine kD ⟨?_, ?_⟩
    · simp only [kE, kG, fU, kH, and_true, true_and]
      repeat' (first | exact trivial | refine And.intro ?_ ?_ | rw [fU] | rw [kI] | exact Or.inl (by decide +kernel) | exact Or.inl (by dsimp only; decide +kernel) | (refine Or.inr ⟨?_, ?_⟩ <;> simp; done) | (refine Or.inr ⟨?_, ?_⟩ <;> simp <;> omega) | (refine Or.inr ⟨?_, ?_⟩ <;> simp [VEff.wr] <;> omega))
    simp only [vz, mq, mqm, vsi, tyf, mqt, seval, ua, nm, rg, e4, e6, e7, H1, H3, H4, nb]
    refine DG (by simp only [aK, nm, seval, H7]) ?_
    refine cn (x := .tup [plM b r δ, .lit (.bool true)]) (by first | (simp only [Tryz.results113, resV, resL, aR, cw, cv, uw, cr, tyf, e4, lB, nm, seval] <;> rfl) | (simp only [Tryz.results113, resV, resL, aR, cw, cv, uw, cr, tyf, e4, lB, nm, seval]; done)) ?_
    refine ⟨by omega, fun γ hγ => ?_, δ, lr, rfl, hδ9.1, (show δ < nx' + 4 by omega), ?_, hinv⟩
    · rw [← (hfr γ hγ).2]
      simp only [updH]
      repeat rw [if_neg (by omega)]
    · simp only [updH]
      repeat rw [if_neg (by omega)]
      exact Hd
theorem Sx {b : GBk} {itv : VV} {L : List (List Int)} {tk : List Int → Int} {R : List Int} (hit : IterM Tryz.prog G0 itv (L.map (plV b))) (hT : TakesOk b L tk) (hR : bestP tk L none = some R) (H0 : Nat → Option VObj) (nx : Nat) :
    au Tryz.prog G0 85 [itv] H0 nx (fun x H' nx' => nx ≤ nx' ∧ (∀ γ, γ < nx → H' γ = H0 γ) ∧ ∃ δ l, x = plM b R δ ∧ nx ≤ δ ∧ δ < nx' ∧ H' δ = some (.map (encM aZ c9 l)) ∧ InvE b R l) (fun _ _ _ => False) := by
  refine au.run mixed Tryz.call85 Tryz.func85 rfl (by simp [Tryz.ntmps85]; kernel_rfl) ?_
  simp only [vz, mq, mqm, vsi, tyf, mqt, seval, ua, rg, nm]
  refine kopen ?_
  rw [ou]
  refine au.mono (Sw hit hT hR _ _) ?_ (fun _ _ _ h => h.elim)
  rintro v H2 n2 ⟨g1, g2, δ, l, rfl, g3, g4, g5, g6⟩
  have nb := jz (a := nx) (m := 8) (b := n2) (by omega)
  have K0 : H2 (nx + 0) = some (.cells (some 92) [.lit (.int .i64 0), .lit (.slice none 0 0), .lit (.slice none 0 0), .lit (.slice none 0 0), .lit (.map none)]) := by
    rw [g2 _ (by omega)]
    simp [updH]
  simp only [lB, vz, mq, mqm, vsi, tyf, mqt, seval, ua, rg, nm, nb, K0]
  refine cn (x := plM b R δ) (by first | (simp only [Tryz.results85, resV, resL, aR, cw, cv, uw, cr, tyf, lB, nm, seval] <;> rfl) | (simp only [Tryz.results85, resV, resL, aR, cw, cv, uw, cr, tyf, lB, nm, seval]; done)) ?_
  refine ⟨by omega, fun γ hγ => ?_, δ, l, rfl, by omega, by omega, ?_, g6⟩
  · simp only [updH]
    repeat rw [if_neg (by omega)]
    rw [g2 γ (by omega)]
    simp only [updH]
    repeat rw [if_neg (by omega)]
  · simp only [updH]
    repeat rw [if_neg (by omega)]
    exact g5











def itB (b : GBk) : VV := .fn (.func 115) [] [.tp (cGBk b)]
theorem vV (b : GBk) : ak Tryz.prog G0 86 [.agg (cGBk b)] (.tree (itB b)) := by
  refine ak.run mixed Tryz.call86 Tryz.func86 rfl (by simp [Tryz.ntmps86]; kernel_rfl) ?_
  simp only [vz, tyf, seval, ua]
  refine ⟨rfl, .fn (.func 115) [] [.ptr 0 0], by simp [Tryz.results86, resV, resL, aR, upd], 20, ?_⟩
  have h : treeL (cGBk b) = true := wZ
  simp only [kA] at h
  simp [treeL, VV.tree] at h
  simp [sealV, sealL, VV.tree, treeL, updH, h, itB, cGBk]
theorem takesOk {b : GBk} (hb : BH b) {L : List (List Int)} (h : plansO b = some L) : TakesOk b L (TK b) := by
  intro p hp l hl
  refine Jb hb ?_ hl
  unfold plansO at h
  cases hs : (decide (0 < b.Strokes.length) && (decide (b.Strokes.length < 1000) && (decide (0 ≤ b.Apprentices) && decide (b.Apprentices < 1000)))) with
  | false => rw [hs] at h; cases h
  | true =>
  rw [hs, cond_true] at h
  have := Az _ _ _ h p hp
  simpa using this
theorem xV {tk : List Int → Int} {R : List Int} : ∀ {L : List (List Int)} {a : Option (List Int)}, bestP tk L a = some R → R ∈ L ∨ a = some R
  | [], a, h => .inr h
  | x :: L, none, h => by
    simp only [bestP] at h
    rcases xV h with h | h
    · exact .inl (List.mem_cons_of_mem _ h)
    · cases h; exact .inl (List.mem_cons_self ..)
  | x :: L, some r, h => by
    simp only [bestP] at h
    rcases xV h with h | h
    · exact .inl (List.mem_cons_of_mem _ h)
    · split at h
      · cases h; exact .inl (List.mem_cons_self ..)
      · exact .inr h
def xW (al : GBk) (ba : Int) : Option (GBk) := some (GBk.mk ba al.Boards al.Strokes)
theorem Nc (al : GBk) (ba : Int) (R : GBk) (h : xW al ba = some R) : ak Tryz.prog G0 94 [.agg (cGBk al), .lit (.int .i64 ba)] (.tree (.agg (cGBk R))) := by
 refine ak.runR mixed Tryz.call94 Tryz.func94 rfl (by simp [Tryz.ntmps94]; kernel_rfl) ?_
 obtain ⟨KF, h, kF, kN⟩ := cV h
 simp only [xW] at h
 try simp only [vz, tyf, nm, seval]
 refine cn (x := (.agg ([.lit (.int .i64 ba)] ++ [.sl (ae eI al.Boards) (List.length al.Boards) false] ++ [.sl (ae cGBs al.Strokes) (List.length al.Strokes) false]))) (by first | (simp only [Tryz.results94, resV, resL, aR, cw, cv, uw, cr, tyf, nm, seval] <;> rfl) | rfl) ?_
 obtain rfl := kF _ h
 refine eJ ?_ ?_
 ·simp only [tre, tytre, Bool.and_self]
 ·first | (simp only [outV, uw, eD, cr, tyf, nrm, aN, nm, seval] <;> rfl) | rfl
theorem BH.with {b : GBk} (h : BH b) (n : Int) : BH ⟨n, b.Boards, b.Strokes⟩ := ⟨h.ns, h.s⟩
def mh (b : GBk) : Option (Int × Int) := Option.bind (pf b) fun r => cond r (cond (benchB b) (cond (b.Apprentices == 3) (some (0, 3)) (Option.bind (plansO ⟨i64.wrap (b.Apprentices + 1), b.Boards, b.Strokes⟩) fun L => Option.bind (bestP (TK ⟨i64.wrap (b.Apprentices + 1), b.Boards, b.Strokes⟩) L none) fun R => some (TK ⟨i64.wrap (b.Apprentices + 1), b.Boards, b.Strokes⟩ R, 0))) none) (some (0, 2))
theorem PX (al : GBk) (R : Int × Int) (h : mh al = some R) : ak Tryz.prog G0 60 [.agg (cGBk al)] (.tree (.tup [.lit (.int .i64 R.1), .lit (.int .i64 R.2)])) := by
  refine ak.runR mixed Tryz.call60 Tryz.func60 rfl (by simp [Tryz.ntmps60]; kernel_rfl) ?_
  unfold mh at h
  rcases o1 : pf al with _ | r1
  · rw [o1] at h; cases h
  rw [o1, Option.bind_some] at h
  simp only [vz, mq, mqm, vsi, tyf, mqt, nm, seval]
  refine ktree (args0 := [.agg (cGBk al)]) (by first | (simp only [nrm, aN, @fm] <;> rfl) | rfl) (by simp only [tre, tytre, mqr, Bool.and_self]) (Lh _ _ o1) ?_
  refine bS (fun tm => tm 1 = .ptr 0 0 ∧ tm 5 = .lit (.bool r1)) (by refine ⟨?_, ?_⟩ <;> first | (simp only [ua, cI, nm, seval] <;> rfl) | rfl) ?_
  rintro tm ⟨e1, e5⟩
  cases r1 with
  | false =>
    simp only [cond_false, Option.some.injEq] at h
    subst h
    simp only [vz, mq, mqm, vsi, tyf, mqt, e1, e5, nm, seval]
    refine cn (x := .tup [.lit (.int .i64 0), .lit (.int .i64 2)]) (by first | (simp only [Tryz.results60, resV, resL, aR, cw, cv, uw, cr, tyf, mqt, nm, seval] <;> rfl) | rfl) ?_
    refine eJ ?_ ?_
    · simp only [tre, tytre, mqr, Bool.and_self]
    · first | (simp only [outV, uw, eD, cr, tyf, mqt, nrm, aN, nm, seval] <;> rfl) | rfl
  | true =>
    rw [cond_true] at h
    cases hB : benchB al with
    | false => rw [hB] at h; cases h
    | true =>
    rw [hB, cond_true] at h
    cases hA : (al.Apprentices == 3) with
    | true =>
      rw [hA, cond_true, Option.some.injEq] at h
      subst h
      simp only [vz, mq, mqm, vsi, tyf, mqt, e1, e5, hA, nm, seval]
      refine cn (x := .tup [.lit (.int .i64 0), .lit (.int .i64 3)]) (by first | (simp only [Tryz.results60, resV, resL, aR, cw, cv, uw, cr, tyf, mqt, nm, seval] <;> rfl) | rfl) ?_
      refine eJ ?_ ?_
      · simp only [tre, tytre, mqr, Bool.and_self]
      · first | (simp only [outV, uw, eD, cr, tyf, mqt, nrm, aN, nm, seval] <;> rfl) | rfl
    | false =>
    rw [hA, cond_false] at h
    obtain ⟨w, hw⟩ : ∃ w : GBk, w = ⟨i64.wrap (al.Apprentices + 1), al.Boards, al.Strokes⟩ := ⟨_, rfl⟩
    rw [← hw] at h
    rcases hL : plansO w with _ | L
    · rw [hL] at h; cases h
    rw [hL, Option.bind_some] at h
    rcases hR : bestP (TK w) L none with _ | P
    · rw [hR] at h; cases h
    rw [hR, Option.bind_some, Option.some.injEq] at h
    subst h
    have hBH : BH w := by rw [hw]; exact (wV.1 hB).h.with _
    have ow : xW al (i64.wrap (al.Apprentices + 1)) = some w := by rw [hw]; rfl
    simp only [vz, mq, mqm, vsi, tyf, mqt, e1, e5, hA, nm, seval]
    refine ktree (args0 := [.agg (cGBk al), .lit (.int .i64 (i64.wrap (al.Apprentices + 1)))]) (by first | (simp only [nrm, aN, @fm] <;> rfl) | rfl) (by simp only [tre, tytre, mqr, Bool.and_self]) (Nc _ _ _ ow) ?_
    refine bS (fun tm => tm 14 = .agg (cGBk w)) (by first | (simp only [ua, cI, e1, nm, seval] <;> rfl) | rfl) ?_
    clear e1 e5 tm
    rintro tm bC
    simp only [vz, mq, mqm, vsi, tyf, mqt, bC, nm, seval]
    refine ktree (args0 := [.agg (cGBk w)]) (by first | (simp only [nrm, aN, @fm] <;> rfl) | rfl) (by simp only [tre, tytre, mqr, Bool.and_self]) (vV _) ?_
    refine bS (fun tm => tm 15 = itB w) (by first | (simp only [ua, cI, nm, seval] <;> rfl) | rfl) ?_
    clear bC tm
    rintro tm cH
    simp only [vz, mq, mqm, vsi, tyf, mqt, cH, nm, seval]
    refine kopen ?_
    rw [ou]
    refine au.mono (Sx (LH hL) (takesOk hBH hL) hR _ _) ?_ (fun _ _ _ h => h.elim)
    rintro v H2 n2 ⟨g1, g2, δ, l, rfl, g3, g4, g5, g6⟩
    have hPL : P ∈ L := (xV hR).resolve_right (by simp)
    obtain ⟨l', et, it⟩ := takesOk hBH hL P hPL l g6
    simp only [lB, vz, mq, mqm, vsi, tyf, mqt, cH, nm, seval]
    refine kupd (VUpd.at (β := δ) (y := (fun _ => .lit (.int .i64 (TK w P)))) (xi _ _ _ _ et) (by omega) (by first | rfl | assumption | (simp only [aK, bk, g5, nm, seval] <;> rfl)) (by first | rfl | (simp only [nrm, aN, @fm, @iK] <;> rfl)) (iv (fun _ => rfl) _)) ?_
    refine iL (fun tm => tm 17 = .lit (.int .i64 (TK w P))) (by first | (simp only [ua, cI, nm, seval] <;> rfl) | rfl) ?_
    clear cH tm
    rintro tm cq
    simp only [vz, mq, mqm, vsi, tyf, mqt, cq, nm, seval]
    refine cn (x := .tup [.lit (.int .i64 (TK w P)), .lit (.int .i64 0)]) (by first | (simp only [Tryz.results60, resV, resL, aR, cw, cv, uw, cr, tyf, mqt, nm, seval] <;> rfl) | rfl) ?_
    refine eJ ?_ ?_
    · simp only [tre, tytre, mqr, Bool.and_self]
    · first | (simp only [outV, uw, eD, cr, tyf, mqt, nrm, aN, nm, seval] <;> rfl) | rfl
theorem Jc {P : Program} {G : Glob} {fn : Func} {R Rp : VV → (Nat → Option VObj) → Nat → Prop} {tm : Nat → VV} {nx : Nat} : ∀ (ds : List Nat) (H : Nat → Option VObj), ds.Nodup → (∀ d ∈ ds, H d = some (.deferred (some []))) → (∀ H2, (∀ γ, γ ∉ ds → H2 γ = H γ) → OpenPostD P G fn R Rp .ret ⟨tm, H2, nx, []⟩) → OpenPostD P G fn R Rp .ret ⟨tm, H, nx, ds.map VDef.coll⟩
  | [], H, _, _, h => h H fun _ _ => rfl
  | d :: ds, H, hn, hd, h => by
    rw [List.nodup_cons] at hn
    refine DG (hd d (List.mem_cons_self ..)) (Jc ds _ hn.2 (fun e he => ?_) fun H2 h2 => h H2 fun γ hγ => ?_)
    · have hne : e ≠ d := fun hh => hn.1 (hh ▸ he)
      simp only [updH]
      rw [if_neg hne]
      exact hd e (List.mem_cons_of_mem _ he)
    · simp only [List.mem_cons, not_or] at hγ
      rw [h2 γ hγ.2]
      simp only [updH]
      rw [if_neg hγ.1]
def wiB (b : GBk) (n : Int) : GBk := ⟨n, b.Boards, b.Strokes⟩
def m9 (b : GBk) (h : Int) : Nat → Int → Option Int
  | 0, i => none
  | k + 1, i => cond (decide (i ≤ 3)) (Option.bind (plansO (wiB b i)) fun L => cond (L.any fun p => decide (TK (wiB b i) p ≤ h)) (some i) (m9 b h k (i64.wrap (i + 1)))) (some i)
def rv (b : GBk) (h : Int) : Option (Int × Bool) := cond (benchB b) (Option.bind (m9 b h 5 0) fun r => some (r, decide (r ≤ 3))) none
theorem PW (al : GBk) (aF : Int) (R : Int × Bool) (h : rv al aF = some R) : ak Tryz.prog G0 96 [.agg (cGBk al), .lit (.int .i64 aF)] (.tree (.tup [.lit (.int .i64 R.1), .lit (.bool R.2)])) := by
  refine ak.runR mixed Tryz.call96 Tryz.func96 rfl (by simp [Tryz.ntmps96]; kernel_rfl) ?_
  unfold rv at h
  cases hB : benchB al with
  | false => rw [hB] at h; cases h
  | true =>
  rw [hB, cond_true] at h
  rcases hf : m9 al aF 5 0 with _ | r
  · rw [hf] at h; cases h
  rw [hf, Option.bind_some, Option.some.injEq] at h
  subst h
  simp only [vz, mq, mqm, vsi, tyf, mqt, nm, seval]
  refine Fv mixed (by kernel_rfl) ?_
  simp only [vz, mq, mqm, vsi, tyf, mqt, nm, seval]
  obtain ⟨IA, hIA⟩ : ∃ I : Nat → St → Prop, I = (fun m st => ∃ (i : Int) (ds : List Nat), 0 ≤ i ∧ i ≤ 4 ∧ m9 al aF m i = some r ∧ st.df = ds.map VDef.coll ∧ ds.Nodup ∧ (∀ d ∈ ds, 2 ≤ d ∧ d < st.nx ∧ st.H d = some (.deferred (some []))) ∧ 5 ≤ st.nx ∧ st.H 0 = some (.cells (some 25) (cGBk al)) ∧ st.H 1 = some (.cells (some 3) [.lit (.int .i64 aF)]) ∧ st.tm 2 = .ptr 0 0 ∧ st.tm 3 = .ptr 1 0 ∧ st.tm 6 = .lit (.int .i64 i)) := ⟨_, rfl⟩
  refine loopK mixed (by kernel_rfl) IA 5 (by rw [hIA]; refine ⟨0, [], Int.le_refl _, by omega, hf, rfl, List.nodup_nil, (fun d hd => by cases hd), (show 5 ≤ 5 by omega), ?_, ?_, ?_, ?_, ?_⟩ <;> first | (simp only [ua, nm, seval] <;> rfl) | rfl) ?_
  rintro m ⟨tm, H, nx, df⟩ hinv
  rw [hIA] at hinv
  obtain ⟨i, ds, wy, oZ, hg, hdf, hnd, hds, hnx, H0, H1, e2, e3, e6⟩ := hinv
  simp only at hdf hds hnx H0 H1 e2 e3 e6
  subst hdf
  have n0 := eR (m := 5) (b := nx) hnx
  cases m with
  | zero => cases hg
  | succ m =>
  simp only [m9] at hg
  cases hd : decide (i ≤ 3) with
  | false =>
    rw [hd, cond_false, Option.some.injEq] at hg
    subst hg
    simp only [vz, mq, mqm, vsi, tyf, mqt, e2, e3, e6, H0, H1, n0, hd, nm, seval]
    refine Jc ds H hnd (fun d hd => (hds d hd).2.2) fun H2 h2 => ?_
    refine cn (x := .tup [.lit (.int .i64 i), .lit (.bool false)]) (by first | (simp only [Tryz.results96, resV, resL, aR, cw, cv, uw, cr, tyf, mqt, nm, seval] <;> rfl) | rfl) ?_
    refine eJ ?_ ?_
    · simp only [tre, tytre, mqr, Bool.and_self]
    · first | (simp only [outV, uw, eD, cr, tyf, mqt, nrm, aN, nm, seval] <;> rfl) | rfl
  | true =>
    rw [hd, cond_true] at hg
    rcases hL : plansO (wiB al i) with _ | L
    · rw [hL] at hg; cases hg
    rw [hL, Option.bind_some] at hg
    have hBH : BH (wiB al i) := (wV.1 hB).h.with _
    have hT := takesOk hBH hL
    have ow : xW al i = some (wiB al i) := rfl
    simp only [vz, mq, mqm, vsi, tyf, mqt, e2, e3, e6, H0, H1, n0, hd, nm, seval]
    refine ktree (args0 := [.agg (cGBk al), .lit (.int .i64 i)]) (by first | (simp only [nrm, aN, @fm] <;> rfl) | rfl) (by simp only [tre, tytre, mqr, Bool.and_self]) (Nc _ _ _ ow) ?_
    refine bS (fun tm => tm 2 = .ptr 0 0 ∧ tm 3 = .ptr 1 0 ∧ tm 6 = .lit (.int .i64 i) ∧ tm 14 = .agg (cGBk (wiB al i))) (by refine ⟨?_, ?_, ?_, ?_⟩ <;> first | (simp only [ua, cI, e2, e3, e6, nm, seval] <;> rfl) | rfl) ?_
    clear e2 e3 e6 tm
    rintro tm ⟨e2, e3, e6, bC⟩
    simp only [vz, mq, mqm, vsi, tyf, mqt, e2, e3, e6, bC, nm, seval]
    refine ktree (args0 := [.agg (cGBk (wiB al i))]) (by first | (simp only [nrm, aN, @fm] <;> rfl) | rfl) (by simp only [tre, tytre, mqr, Bool.and_self]) (vV _) ?_
    refine bS (fun tm => tm 2 = .ptr 0 0 ∧ tm 3 = .ptr 1 0 ∧ tm 6 = .lit (.int .i64 i) ∧ tm 15 = itB (wiB al i)) (by refine ⟨?_, ?_, ?_, ?_⟩ <;> first | (simp only [ua, cI, e2, e3, e6, nm, seval] <;> rfl) | rfl) ?_
    clear e2 e3 e6 bC tm
    rintro tm ⟨e2, e3, e6, cH⟩
    simp only [vz, mq, mqm, vsi, tyf, mqt, e2, e3, e6, cH, nm, seval]
    refine LF (LH hL) (by first | (simp only [kV, kW, cH, jM, seval] <;> rfl) | rfl) ?_
    intro LO hLO
    obtain ⟨w, hw⟩ : ∃ w : GBk, w = wiB al i := ⟨_, rfl⟩
    rw [← hw] at hL hBH hT ow hg cH ⊢
    obtain ⟨J, hJ⟩ : ∃ J : Option (List VV) → List (Nat × VObj) → Prop, J = (fun o hp => match o with
      | some l => ∃ (p : List (List Int)), l = p.map (plV w) ∧ (∀ q ∈ p, q ∈ L) ∧ (L.any fun p => decide (TK w p ≤ aF)) = (p.any fun p => decide (TK w p ≤ aF)) ∧ hp = [(nx + 6, .deferred (some [])), (nx + 7, LO)]
      | none => ∃ LD : Code → VObj, (∃ tml ps az bo d, LD = fun c => VObj.loop .done (some c) tml ps az bo d) ∧ (L.any fun p => decide (TK w p ≤ aF)) = true ∧ hp = [(nx + 6, .deferred (some [])), (nx + 7, LD (.exit 0))]) := ⟨_, rfl⟩
    obtain ⟨I, hI⟩ : ∃ I : Inv, I = (fun o Fr H' n => (nx + 8 ≤ n ∧ ∀ γ, γ < nx → ¬ Fr γ ∧ H' γ = H γ) ∧ ownI J o Fr H' n) := ⟨_, rfl⟩
    have hst : Stable I := by
      rw [hI]
      rintro o Fr nW H2 H3 n n1 ⟨⟨h0, h1⟩, h2⟩ h3 h4 h5
      refine ⟨⟨by omega, fun γ hγ => ?_⟩, Nb _ _ _ _ _ _ _ h2 h3 h4 h5⟩
      obtain ⟨k1, k2⟩ := h1 γ hγ
      refine ⟨fun hf => ?_, (h3 γ (by omega) k1).trans k2⟩
      rcases h5 γ hf with hf | hf
      · exact k1 hf
      · omega
    refine ⟨I, hst, ?_, ?_, ?_⟩
    · rintro v rest Fr H' n δe hFr hδe hnδ hHδ hi
      rw [hI] at hi
      obtain ⟨⟨j5, hfr⟩, hp, hown, hj⟩ := hi
      rw [hJ] at hj
      obtain ⟨p, hl, hpL, hany, rfl⟩ := hj
      cases p with
      | nil => cases hl
      | cons e p =>
      simp only [List.map_cons, List.cons.injEq, plV, VV.agg.injEq] at hl
      obtain ⟨rfl, rfl⟩ := hl
      have heL := hpL e (List.mem_cons_self ..)
      have hpL' : ∀ q ∈ p, q ∈ L := fun q hq => hpL q (List.mem_cons_of_mem _ hq)
      obtain ⟨l6, n6, H6⟩ := hown.head
      obtain ⟨l7, n7, H7⟩ := hown.tail.head
      simp only [not_or] at n6 n7
      have hδn : nx ≤ δe := Nat.le_of_not_lt fun hh => (hfr δe hh).1 (.inr rfl)
      obtain ⟨le, ee, ie⟩ := hT e heL [] InvE.nil
      refine xa mixed (psl := [16]) hLO H7 xb rfl (by kernel_rfl) (by kernel_rfl) ?_
      intro LB LD hLB hLD
      refine xc (fun tm => tm 16 = plM w e δe ∧ tm 3 = .ptr 1 0) (by refine ⟨?_, ?_⟩ <;> first | (simp only [xd, xe, Tryz.ntmps96, e2, e3, e6, seval]; done) | rfl) ?_
      clear e2 e3 e6 cH
      rintro tm ⟨bF, e3⟩
      have nb := jz (a := nx) (m := 8) (b := n) j5
      have rX := eR (m := 5) (b := n) (by omega)
      have H1' : H' 1 = some (.cells (some 3) [.lit (.int .i64 aF)]) := (hfr 1 (by omega)).2.trans H1
      have rY : (nx + 7 = 1) = False := by simp
      have rZ : (1 = nx + 7) = False := by simp
      simp only [lB] at bF
      simp only [vz, mq, mqm, vsi, tyf, mqt, seval, ua, nm, rg, RStart, bF, e3, H7, H1', nb, rX, rZ, rY]
      refine pI (fun tm => tm 7 = .ptr (n + 0) 0 ∧ tm 3 = .ptr 1 0) (by refine ⟨?_, ?_⟩ <;> first | (simp only [ua, e3, Nat.add_zero, nm, seval]; done) | rfl) ?_
      clear bF e3 tm
      rintro tm ⟨e7, e3⟩
      have qd := fK hδe
      have vW : (δe = 1) = False := by simp; omega
      have vX : (1 = δe) = False := by simp; omega
      have qv := ne_f (Ne.symm n7.2)
      simp only [vz, mq, mqm, vsi, tyf, mqt, seval, ua, nm, rg, e7, e3, H7, H1', nb, rX, rZ, rY, qd, vW, vX, qv, hHδ]
      refine dkupd (VUpd.at (β := δe) (y := (fun _ => .lit (.int .i64 (TK w e)))) (xi _ _ _ _ ee) (by omega) (by first | rfl | assumption | (simp only [aK, bk, H7, H1', nb, rX, rZ, rY, qd, vW, vX, qv, hHδ, cI, nm, seval] <;> rfl)) (by first | rfl | (simp only [nrm, aN, @fm, @iK] <;> rfl)) (iv (fun _ => rfl) _)) ?_
      refine iL (fun tm => tm 3 = .ptr 1 0 ∧ tm 18 = .lit (.int .i64 (TK w e))) (by refine ⟨?_, ?_⟩ <;> first | (simp only [ua, cI, e3, nm, seval] <;> rfl) | rfl) ?_
      clear e7 e3 tm
      rintro tm ⟨e3, db⟩
      simp only [vz, mq, mqm, vsi, tyf, mqt, seval, ua, nm, rg, e3, db, H7, H1', nb, rX, rZ, rY, qd, vW, vX, qv, hHδ]
      refine kD ⟨?_, ?_⟩
      · simp only [kE, kG, fU, kH, and_true, true_and]
        repeat' (first | exact trivial | refine And.intro ?_ ?_ | rw [fU] | rw [kI] | exact Or.inl (by decide +kernel) | exact Or.inl (by dsimp only; decide +kernel) | (refine Or.inr ⟨?_, ?_⟩ <;> simp; done) | (refine Or.inr ⟨?_, ?_⟩ <;> simp <;> omega) | (refine Or.inr ⟨?_, ?_⟩ <;> simp [VEff.wr] <;> omega))
      cases ht : decide (TK w e ≤ aF) with
      | true =>
        simp only [vz, mq, mqm, vsi, tyf, mqt, seval, ua, nm, rg, e3, db, ht, H7, H1', nb, rX, rZ, rY, qd, vW, vX, qv, hHδ]
        refine ⟨by simp only [aK, nb, qv, nm, seval], (show n ≤ n + 6 by omega), fun γ hγ => ?_, ?_⟩
        · have h1 := hFr γ hγ
          have g7 : γ ≠ nx + 7 := fun e => n7.1 (e ▸ hγ)
          have ge : γ ≠ δe := fun e => hnδ (e ▸ hγ)
          simp only [updH]
          repeat rw [if_neg (by first | assumption | omega)]
        · rw [hI]
          simp only [Bool.false_eq_true, if_false]
          refine ⟨⟨(show nx + 8 ≤ n + 6 by omega), fun γ hγ => ⟨fun hf => (hfr γ hγ).1 (.inl hf), ?_⟩⟩, ?_⟩
          · rw [← (hfr γ hγ).2]
            simp only [updH]
            repeat rw [if_neg (by omega)]
          · refine ⟨[(nx + 6, .deferred (some [])), (nx + 7, LD (.exit 0))], Own.cons (show nx + 6 < n + 6 by omega) n6.1 ?_ (Own.cons (show nx + 7 < n + 6 by omega) n7.1 ?_ Own.nil), ?_⟩
            rotate_right
            · rw [hJ]
              exact ⟨LD, ⟨_, _, _, _, _, hLD⟩, by rw [hany, List.any_cons, ht]; rfl, rfl⟩
            · simp only [updH]
              repeat rw [if_neg (by omega)]
              exact H6
            · simp only [updH]
              rw [if_pos trivial]
      | false =>
        simp only [vz, mq, mqm, vsi, tyf, mqt, seval, ua, nm, rg, e3, db, ht, H7, H1', nb, rX, rZ, rY, qd, vW, vX, qv, hHδ]
        refine ⟨by simp only [aK, nb, qv, nm, seval], (show n ≤ n + 6 by omega), fun γ hγ => ?_, ?_⟩
        · have h1 := hFr γ hγ
          have g7 : γ ≠ nx + 7 := fun e => n7.1 (e ▸ hγ)
          have ge : γ ≠ δe := fun e => hnδ (e ▸ hγ)
          simp only [updH]
          repeat rw [if_neg (by first | assumption | omega)]
        · rw [hI]
          simp only [if_true]
          refine ⟨⟨(show nx + 8 ≤ n + 6 by omega), fun γ hγ => ⟨fun hf => (hfr γ hγ).1 (.inl hf), ?_⟩⟩, ?_⟩
          · rw [← (hfr γ hγ).2]
            simp only [updH]
            repeat rw [if_neg (by omega)]
          · refine ⟨[(nx + 6, .deferred (some [])), (nx + 7, LO)], Own.cons (show nx + 6 < n + 6 by omega) n6.1 ?_ (Own.cons (show nx + 7 < n + 6 by omega) n7.1 ?_ Own.nil), ?_⟩
            rotate_right
            · rw [hJ]
              exact ⟨p, rfl, hpL', by rw [hany, List.any_cons, ht]; rfl, rfl⟩
            · simp only [updH]
              repeat rw [if_neg (by omega)]
              exact H6
            · simp only [updH]
              rw [if_pos trivial]
    · rw [hI]
      refine ⟨⟨Nat.le_refl _, fun γ hγ => ⟨fun h => h, ?_⟩⟩, ?_⟩
      · simp only [updH]
        repeat rw [if_neg (by omega)]
      · refine ⟨[(nx + 6, .deferred (some [])), (nx + 7, LO)], Own.cons (show nx + 6 < nx + 8 by omega) (fun h => h) ?_ (Own.cons (show nx + 7 < nx + 8 by omega) (fun h => h) ?_ Own.nil), ?_⟩
        rotate_right
        · rw [hJ]
          exact ⟨L, rfl, fun q h => h, rfl, rfl⟩
        · simp [updH]
        · simp [updH]
    · rintro H'' n hh
      rw [hI] at hh
      rcases hh with ⟨⟨j5, hfr⟩, hp, hown, hj⟩ | ⟨⟨j5, hfr⟩, hp, hown, hj⟩
      · rw [hJ] at hj
        obtain ⟨p, hl, hpL, hany, rfl⟩ := hj
        cases p with
        | cons e p => cases hl
        | nil =>
        obtain ⟨l6, n6, H6⟩ := hown.head
        obtain ⟨l7, n7, H7⟩ := hown.tail.head
        have hg' : m9 al aF m (i64.wrap (i + 1)) = some r := by
          rw [hany] at hg
          exact hg
        have cu := of_decide_eq_true hd
        have hwr : i64.wrap (i + 1) = i + 1 := fk (by omega) (by omega)
        rw [hwr] at hg'
        refine DE hLO H7 ?_
        intro LX
        simp only [vz, mq, mqm, vsi, tyf, mqt, seval, ua, nm, rg, e2, e3, e6, hwr]
        have hmem : ∀ d ∈ (nx + 6) :: ds, 2 ≤ d ∧ d < n ∧ updH H'' (nx + 7) LX d = some (.deferred (some [])) := by
          intro d hd
          rcases List.mem_cons.1 hd with rfl | hd
          · refine ⟨by omega, by omega, ?_⟩
            rw [aK, if_neg (by omega)]
            exact H6
          · obtain ⟨k1, k2, k3⟩ := hds d hd
            refine ⟨k1, by omega, ?_⟩
            rw [aK, if_neg (by omega), (hfr d k2).2]
            exact k3
        have qw : ((nx + 6) :: ds).Nodup := List.nodup_cons.2 ⟨fun hh => by have := (hds _ hh).2.1; omega, hnd⟩
        exact ⟨m, Nat.lt_succ_self _, by
          rw [hIA]
          refine ⟨i + 1, (nx + 6) :: ds, by omega, by omega, hg', rfl, qw, fun d hd => ?_, (by dsimp only; omega), ?_, ?_, ?_, ?_, ?_⟩
          · obtain ⟨k1, k2, k3⟩ := hmem d hd
            exact ⟨k1, (by dsimp only; omega), k3⟩
          · dsimp only
            rw [aK, if_neg (by omega), (hfr 0 (by omega)).2]
            exact H0
          · dsimp only
            rw [aK, if_neg (by omega), (hfr 1 (by omega)).2]
            exact H1
          all_goals first | (simp only [ua, e2, e3, e6, nm, seval] <;> rfl) | (simp only [ua, e2, e3, e6, nm, seval]; done) | rfl⟩
      · rw [hJ] at hj
        obtain ⟨LD, ⟨tml, ps, az, bo, d, hLD⟩, hany, rfl⟩ := hj
        obtain ⟨l6, n6, H6⟩ := hown.head
        obtain ⟨l7, n7, H7⟩ := hown.tail.head
        rw [hany, cond_true, Option.some.injEq] at hg
        subst hg
        refine Sy hLD H7 ?_
        intro LX
        simp only [vz, mq, mqm, vsi, tyf, mqt, seval, ua, nm, rg, e2, e3, e6, hd]
        have hmem : ∀ d ∈ (nx + 6) :: ds, 2 ≤ d ∧ d < n ∧ updH H'' (nx + 7) LX d = some (.deferred (some [])) := by
          intro d hd
          rcases List.mem_cons.1 hd with rfl | hd
          · refine ⟨by omega, by omega, ?_⟩
            rw [aK, if_neg (by omega)]
            exact H6
          · obtain ⟨k1, k2, k3⟩ := hds d hd
            refine ⟨k1, by omega, ?_⟩
            rw [aK, if_neg (by omega), (hfr d k2).2]
            exact k3
        have qw : ((nx + 6) :: ds).Nodup := List.nodup_cons.2 ⟨fun hh => by have := (hds _ hh).2.1; omega, hnd⟩
        refine Jc ((nx + 6) :: ds) _ qw (fun d hd => (hmem d hd).2.2) fun H2 h2 => ?_
        refine cn (x := .tup [.lit (.int .i64 i), .lit (.bool true)]) (by first | (simp only [Tryz.results96, resV, resL, aR, cw, cv, uw, cr, tyf, mqt, nm, seval] <;> rfl) | rfl) ?_
        refine eJ ?_ ?_
        · simp only [tre, tytre, mqr, Bool.and_self]
        · first | (simp only [outV, uw, eD, cr, tyf, mqt, nrm, aN, nm, seval] <;> rfl) | rfl
def rq (al : GBk) (ba : Int) : Option (GBk) := some (GBk.mk ba al.Boards al.Strokes)
theorem LU (al : GBk) (ba : Int) (R : GBk) (h : rq al ba = some R) : ak Tryz.prog G0 62 [.agg (cGBk al), .lit (.int .i64 ba)] (.tree (.agg (cGBk R))) := by
 refine ak.runR mixed Tryz.call62 Tryz.func62 rfl (by simp [Tryz.ntmps62]; kernel_rfl) ?_
 obtain ⟨KF, h, kF, kN⟩ := cV h
 simp only [rq] at h
 try simp only [vz, tyf, nm, seval]
 refine cn (x := (.agg ([.lit (.int .i64 ba)] ++ [.sl (ae eI al.Boards) (List.length al.Boards) false] ++ [.sl (ae cGBs al.Strokes) (List.length al.Strokes) false]))) (by first | (simp only [Tryz.results62, resV, resL, aR, cw, cv, uw, cr, tyf, nm, seval] <;> rfl) | rfl) ?_
 obtain rfl := kF _ h
 refine eJ ?_ ?_
 ·simp only [tre, tytre, Bool.and_self]
 ·first | (simp only [outV, uw, eD, cr, tyf, nrm, aN, nm, seval] <;> rfl) | rfl
def mF (b : GBk) (p : List Int) (j : Int) : Bool := j == 0 || !(match b.Strokes[p.length]? with | some s => s.Round | none => true)
def LA (b : GBk) (a : Int) : List (List Int) := listsB (mF b) (a.toNat + 1) b.Strokes.length []
theorem Nd {b : GBk} (hB : BOk b) {a : Int} (h0 : 0 ≤ a) (h3 : a ≤ 3) : plansO (wiB b a) = some (LA b a) := by
 have hn := hB.ns
 unfold plansO
 rw [show (decide (0 < (wiB b a).Strokes.length) && (decide ((wiB b a).Strokes.length < 1000) && (decide (0 ≤ (wiB b a).Apprentices) && decide ((wiB b a).Apprentices < 1000)))) = true by
  show (decide (0 < b.Strokes.length) && (decide (b.Strokes.length < 1000) && (decide (0 ≤ a) && decide (a < 1000)))) = true
  simp only [Bool.and_eq_true, decide_eq_true_eq]
  exact ⟨by omega, by omega, by omega, by omega⟩, cond_true]
 refine Nf (ln := b.Strokes.length) (m := mF b) (fun p j h1 h2 h3 h4 => ?_) b.Strokes.length [] (by simp) (by simp)
 have hs : getI (wiB b a).Strokes (p.length : Int) = some b.Strokes[p.length] := by
  unfold getI wiB
  rw [if_pos (by omega), Int.toNat_natCast, List.getElem?_eq_getElem h1]
 unfold wY mF
 rw [CZ hs, List.getElem?_eq_getElem h1]
 rfl
theorem Ng {b : GBk} {l : Nat} (hl : 0 < l) : ∀ (k : Nat) (p : List Int), stepsB (mF b) l p (List.replicate k 0) = true
 | 0, _ => rfl
 | k + 1, p => by
  rw [List.replicate_succ]
  simp only [stepsB, Bool.and_eq_true, decide_eq_true_eq]
  exact ⟨⟨Int.le_refl _, by omega⟩, by simp [mF], Ng hl k _⟩
theorem Jd {b : GBk} {a : Int} : List.replicate b.Strokes.length 0 ∈ LA b a := by
 unfold LA
 rw [Da]
 exact ⟨_, rfl, by simp, Ng (by omega) _ _⟩
theorem xX {tk : List Int → Int} : ∀ (L : List (List Int)) (a : Option (List Int)), (L ≠ [] ∨ a ≠ none) → ∃ R, bestP tk L a = some R ∧ (∀ p ∈ L, tk R ≤ tk p) ∧ ∀ r, a = some r → tk R ≤ tk r
 | [], none, h => by rcases h with h | h <;> exact absurd rfl h
 | [], some r, _ => ⟨r, rfl, (fun p hp => by cases hp), fun q hq => by cases hq; exact Int.le_refl _⟩
 | x :: L, none, _ => by
  obtain ⟨R, e, h1, h2⟩ := xX (tk := tk) L (some x) (.inr (by simp))
  refine ⟨R, e, fun p hp => ?_, fun r hr => by cases hr⟩
  rcases List.mem_cons.1 hp with rfl | hp
  ·exact h2 _ rfl
  ·exact h1 p hp
 | x :: L, some r, _ => by
  by_cases hlt : tk x < tk r
  ·obtain ⟨R, e, h1, h2⟩ := xX (tk := tk) L (some x) (.inr (by simp))
   have hx := h2 x rfl
   refine ⟨R, by simp only [bestP]; rw [if_pos hlt]; exact e, fun p hp => ?_, fun q hq => by cases hq; omega⟩
   rcases List.mem_cons.1 hp with rfl | hp
   ·exact hx
   ·exact h1 p hp
  ·obtain ⟨R, e, h1, h2⟩ := xX (tk := tk) L (some r) (.inr (by simp))
   have hx := h2 r rfl
   refine ⟨R, by simp only [bestP]; rw [if_neg hlt]; exact e, fun p hp => ?_, fun q hq => by cases hq; exact hx⟩
   rcases List.mem_cons.1 hp with rfl | hp
   ·omega
   ·exact h1 p hp
def IsB (b : GBk) (a : Int) (R : List Int) : Prop := bestP (TK (wiB b a)) (LA b a) none = some R ∧ R ∈ LA b a ∧ ∀ p ∈ LA b a, TK b R ≤ TK b p
theorem uQ (b : GBk) (a : Int) : ∃ R, IsB b a R := by
 obtain ⟨R, e, h1, _⟩ := xX (tk := TK (wiB b a)) (LA b a) none (.inl (List.ne_nil_of_mem Jd))
 exact ⟨R, e, (xV e).resolve_right (by simp), h1⟩
theorem BOk.wi {b : GBk} (hB : BOk b) {a : Int} (h0 : 0 ≤ a) (h3 : a ≤ 3) : BOk (wiB b a) := ⟨⟨h0, h3⟩, hB.nb, hB.bo, hB.ns, hB.st⟩
theorem Len.wi {b : GBk} (h : Len b) (a : Int) : Len (wiB b a) := ⟨h.bo, h.st, h.nd⟩
theorem Fj {b : GBk} (h : Len b) (hB : BOk b) {a : Int} (h0 : 0 ≤ a) (h3 : a < 3) {R : List Int} (hR : IsB b (a + 1) R) : mh (wiB b a) = some (TK b R, 0) := by
 unfold mh
 rw [ue (h.wi a), wV.2 (hB.wi h0 (by omega)), Option.bind_some, cond_true, cond_true]
 have e1 : ((wiB b a).Apprentices == 3) = false := by
  show (a == 3) = false
  simp; omega
 have e2 : (⟨i64.wrap ((wiB b a).Apprentices + 1), (wiB b a).Boards, (wiB b a).Strokes⟩ : GBk) = wiB b (a + 1) := by
  show (⟨i64.wrap (a + 1), b.Boards, b.Strokes⟩ : GBk) = _
  rw [fk (by omega) (by omega)]
  rfl
 rw [e1, cond_false, e2, Nd hB (by omega) (by omega), Option.bind_some, hR.1]
 rfl
theorem Fi {b : GBk} (hB : BOk b) (h : Int) : ∀ (k : Nat) (i : Int), 0 ≤ i → i + k = 4 → ∃ r, m9 b h (k + 1) i = some r ∧ i ≤ r ∧ r ≤ 4 ∧ (∀ j, i ≤ j → j < r → ∀ p ∈ LA b j, ¬ TK b p ≤ h) ∧ (r ≤ 3 → ∃ p ∈ LA b r, TK b p ≤ h)
 | 0, i, h0, hk => by
  refine ⟨i, ?_, Int.le_refl _, by omega, fun j h1 h2 => by omega, fun h => by omega⟩
  rw [m9, decide_eq_false (by omega), cond_false]
 | k + 1, i, h0, hk => by
  rw [m9, decide_eq_true (by omega), cond_true, Nd hB h0 (by omega), Option.bind_some]
  cases ha : (LA b i).any fun p => decide (TK (wiB b i) p ≤ h) with
  | true =>
   rw [cond_true]
   obtain ⟨p, hp, ht⟩ := List.any_eq_true.1 ha
   exact ⟨i, rfl, Int.le_refl _, by omega, fun j h1 h2 => by omega, fun _ => ⟨p, hp, of_decide_eq_true ht⟩⟩
  | false =>
   rw [cond_false, fk (by omega) (by omega)]
   obtain ⟨r, e, h1, h2, h3, h4⟩ := Fi hB h k (i + 1) (by omega) (by omega)
   refine ⟨r, e, by omega, h2, fun j Tu Sz p hp => ?_, h4⟩
   by_cases hji : j = i
   ·subst hji
    have := List.any_eq_false.1 ha p hp
    exact fun hh => this (decide_eq_true hh)
   ·exact h3 j (by omega) Sz p hp



end Go.V
end
section
namespace Go.V
open Go Go.Proofs IntKind
set_option maxRecDepth 4000
set_option maxHeartbeats 4000000
end Go.V
end
section
namespace Go.V
open Go Go.Proofs IntKind

theorem xn {tk : List Int → Int} {R : List Int} : ∀ (L : List (List Int)) (a : Option (List Int)), bestP tk L a = some R → (a = some R ∧ ∀ p ∈ L, tk R ≤ tk p) ∨ (∃ L1 L2, L = L1 ++ R :: L2 ∧ (∀ p ∈ L1, tk R < tk p) ∧ (∀ p ∈ L2, tk R ≤ tk p) ∧ ∀ r, a = some r → tk R < tk r)
 | [], a, h => .inl ⟨h, fun p hp => by cases hp⟩
 | x :: L, none, h => by
  simp only [bestP] at h
  rcases xn L _ h with ⟨h1, h2⟩ | ⟨L1, L2, rfl, h1, h2, h3⟩
  ·cases h1
   exact .inr ⟨[], L, rfl, (fun p hp => by cases hp), h2, (fun r hr => by cases hr)⟩
  ·refine .inr ⟨x :: L1, L2, rfl, fun p hp => ?_, h2, fun r hr => by cases hr⟩
   rcases List.mem_cons.1 hp with rfl | hp
   ·exact h3 _ rfl
   ·exact h1 p hp
 | x :: L, some r, h => by
  simp only [bestP] at h
  by_cases hlt : tk x < tk r
  ·rw [if_pos hlt] at h
   rcases xn L _ h with ⟨h1, h2⟩ | ⟨L1, L2, rfl, h1, h2, h3⟩
   ·cases h1
    exact .inr ⟨[], L, rfl, (fun p hp => by cases hp), h2, (fun q hq => by cases hq; exact hlt)⟩
   ·have hx := h3 x rfl
    refine .inr ⟨x :: L1, L2, rfl, fun p hp => ?_, h2, fun q hq => by cases hq; omega⟩
    rcases List.mem_cons.1 hp with rfl | hp
    ·exact hx
    ·exact h1 p hp
  ·rw [if_neg hlt] at h
   rcases xn L _ h with ⟨h1, h2⟩ | ⟨L1, L2, rfl, h1, h2, h3⟩
   ·cases h1
    refine .inl ⟨rfl, fun p hp => ?_⟩
    rcases List.mem_cons.1 hp with rfl | hp
    ·omega
    ·exact h2 p hp
   ·have hr := h3 r rfl
    refine .inr ⟨x :: L1, L2, rfl, fun p hp => ?_, h2, fun q hq => by cases hq; exact hr⟩
    rcases List.mem_cons.1 hp with rfl | hp
    ·omega
    ·exact h1 p hp
theorem Fk (b : GBk) : wiB b b.Apprentices = b := rfl



end Go.V
end
