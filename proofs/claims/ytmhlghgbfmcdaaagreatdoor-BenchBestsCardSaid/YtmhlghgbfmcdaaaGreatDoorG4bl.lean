/- Part of a proof. -/
import Derived.Test.YtmhlghgbfmcdaaaGreatDoorG4bk
set_option linter.all false
set_option maxRecDepth 4000
set_option maxHeartbeats 40000000
section
namespace Go.V
open Go Go.Proofs
theorem Len.of {b : GBk} (h : aK b.Boards = true ∧ aK b.Strokes = true ∧ ∀ y ∈ b.Strokes, aK y.Needs = true) : Len b := ⟨yw h.1, yw h.2.1, fun s hs => yw (h.2.2 s hs)⟩
theorem rU : ∀ (p : List GBs) (c : Int), nL p c = some (.go ()) ∨ nL p c = some (.ret false)
 | [], c => .inl rfl
 | s :: p, c => by
  simp only [nL]
  cases decide (c < 9) with
  | false => exact .inl rfl
  | true =>
   cases decide ((s.Needs.length : Int) > 8) with
   | true => exact .inr rfl
   | false => exact rU p (c + 1)
theorem BOk.len {b : GBk} (h : BOk b) (hl : ∀ s ∈ b.Strokes, s.Needs.length < 9223372036854775808) : Len b := ⟨by have := h.nb; omega, by have := h.ns; omega, hl⟩
structure HOk (n : Int) (s : GBs) : Prop where
 nd : ∀ k ∈ s.Needs, 0 ≤ k ∧ k < n
 ad : adjB s.Needs = true
 hr : 0 ≤ s.Hours.Low ∧ s.Hours.Low ≤ 15 ∧ 0 ≤ s.Hours.High ∧ s.Hours.High ≤ 15
structure BH (b : GBk) : Prop where
 ns : 1 ≤ b.Strokes.length ∧ b.Strokes.length ≤ 6
 s : ∀ {i : Nat} {s : GBs}, b.Strokes[i]? = some s → HOk i s
theorem BOk.h {b : GBk} (h : BOk b) : BH b := ⟨h.ns, fun hs => by have := h.s hs; have h2 := this.hr; exact ⟨this.nd, this.ad, by omega⟩⟩
def nF (b : GBk) (s : Nat) : List Int := match b.Strokes[s]? with | some x => x.Needs | none => []
def dF (b : GBk) (h : Int) (s : Nat) : Int := match b.Strokes[s]? with | some x => if h = 0 then x.Hours.Low else x.Hours.High | none => 0
def hF (pl : List Int) (s : Nat) : Int := (pl[s]?).getD 0
def EE (b : GBk) (pl : List Int) (h : Int) (s : Nat) : Int := Ed (hF pl) (nF b) (dF b h) s
def BB (b : GBk) (pl : List Int) (h : Int) (s : Nat) : Int := Bg (hF pl) (nF b) (dF b h) s
def FF (b : GBk) (pl : List Int) (h : Int) (s : Nat) : Int := frF (hF pl) (EE b pl h) (hF pl s) s
theorem BH.nd {b : GBk} (h : BH b) : NdOk (nF b) := by
 intro s k hk
 unfold nF at hk
 split at hk
 ·rename_i x hx
  have := (h.s hx).nd k hk
  omega
 ·cases hk
theorem BH.d {b : GBk} (h : BH b) (hr : Int) (s : Nat) : 0 ≤ dF b hr s ∧ dF b hr s ≤ 15 := by
 unfold dF
 split
 ·rename_i x hx
  have := (h.s hx).hr
  split <;> omega
 ·omega
theorem EE_b {b : GBk} (h : BH b) (pl : List Int) (hr : Int) {s : Nat} (hs : s < b.Strokes.length) : 0 ≤ EE b pl hr s ∧ EE b pl hr s ≤ 90 := by
 have h1 := Ed_nn (hd := hF pl) h.nd (fun k => (h.d hr k).1) s
 have h2 := rK (hd := hF pl) h.nd (h.d hr) s
 have := h.ns
 unfold EE
 omega
theorem EE_eq {b : GBk} (h : BH b) (pl : List Int) (hr : Int) (s : Nat) : EE b pl hr s = BB b pl hr s + dF b hr s := Ed_eq h.nd s
theorem BB_b {b : GBk} (h : BH b) (pl : List Int) (hr : Int) {s : Nat} (hs : s < b.Strokes.length) : 0 ≤ BB b pl hr s ∧ BB b pl hr s ≤ 90 := by
 have h1 := EE_b h pl hr hs
 have h2 := h.d hr s
 have h3 := Bg_nn (hd := hF pl) (nd := nF b) (d := dF b hr) s
 rw [EE_eq h] at h1
 have h3 : 0 ≤ BB b pl hr s := h3
 omega
theorem yx {b : GBk} (pl : List Int) (hr : Int) (s : Nat) : BB b pl hr s = max (max 0 (FF b pl hr s)) (mxL ((nF b s).map fun k => EE b pl hr k.toNat)) := rfl
def InvE (b : GBk) (pl : List Int) (l : List (Gbe × Int)) : Prop := ∀ p ∈ l, p.2 = EE b pl p.1.hours p.1.stroke.toNat
theorem InvE.nil {b : GBk} {pl : List Int} : InvE b pl [] := fun _ h => by cases h
theorem InvE.has {b : GBk} {pl : List Int} {l : List (Gbe × Int)} (h : InvE b pl l) {k : Gbe} (hk : mapHas cM l k = true) : mapGet cM 0 l k = EE b pl k.hours k.stroke.toNat := by
 unfold mapHas at hk
 unfold mapGet
 cases hi : kIdx cM k (l.map (·.1)) 0 with
 | none => rw [hi] at hk; cases hk
 | some i =>
  obtain ⟨_, e, he, hq⟩ := vY _ _ _ hi
  rw [Nat.sub_zero, List.getElem?_map] at he
  cases hg : l[i]? with
  | none => rw [hg] at he; cases he
  | some p =>
   rw [hg] at he
   simp only [Option.map_some, Option.some.injEq] at he
   have hpe := j3 _ _ hq
   have hv := h p (List.mem_of_getElem? hg)
   rw [he, ← hpe] at hv
   simp only [hg, hv]
theorem sa {K V : Type} {q : K → K → Bool} {k : K} {v : V} : ∀ {l : List (K × V)} {p : K × V}, p ∈ setR q k v l → p ∈ l ∨ p.2 = v ∧ (p.1 = k ∨ q k p.1 = true)
 | [], p, h => by
  simp only [setR, List.mem_singleton] at h
  exact .inr ⟨by rw [h], .inl (by rw [h])⟩
 | a :: l, p, h => by
  unfold setR at h
  split at h
  ·rename_i hq
   rcases List.mem_cons.1 h with rfl | h
   ·exact .inr ⟨rfl, .inl rfl⟩
   ·exact .inl (List.mem_cons_of_mem _ h)
  ·rcases List.mem_cons.1 h with rfl | h
   ·exact .inl (List.mem_cons_self ..)
   ·exact (sa h).imp (List.mem_cons_of_mem _) id
theorem InvE.set {b : GBk} {pl : List Int} {l : List (Gbe × Int)} (h : InvE b pl l) (s hr : Int) : InvE b pl (mapSet cM l ⟨s, hr⟩ (EE b pl hr s.toNat)) := by
 intro p hp
 rw [JI] at hp
 rcases sa hp with hp | ⟨h1, h2⟩
 ·exact h p hp
 ·have e : p.1 = ⟨s, hr⟩ := by
   rcases h2 with h2 | h2
   ·exact h2
   ·exact (j3 _ _ h2).symm
  rw [h1, e]
abbrev RC := GBk → List Int → Int → Int → List (Gbe × Int) → Option (Int × List (Gbe × Int))
def RcOk (rc : RC) (b : GBk) (pl : List Int) (h : Int) (n : Nat) : Prop := ∀ (k : Int) l, 0 ≤ k → k.toNat < n → InvE b pl l → ∃ l', rc b pl k h l = some (EE b pl h k.toNat, l') ∧ InvE b pl l'
theorem room8 {n : Nat} (h : n ≤ 1000) : aE 8 n = true := by simp [aE]; omega
theorem JJ : ∀ (p : List Int) (i c : Int), pW p i c = some (.go (p.foldl max c))
 | [], _, _ => rfl
 | e :: p, i, c => by
  simp only [pW, JJ p, List.foldl_cons]
  have : (if c < e then e else c) = max c e := by split <;> omega
  rw [this]
theorem yy {l : List Int} (h : l.length < 9223372036854775808) : nM l = some (mxL l) := by
 unfold nM
 rw [gj h, cond_true, JJ]
 rfl
theorem getP {pl : List Int} {n : Nat} {s : Int} (hl : pl.length = n) (h0 : 0 ≤ s) (h1 : s.toNat < n) : getI pl s = some (hF pl s.toNat) := by
 unfold getI hF
 rw [if_pos h0, List.getElem?_eq_getElem (by omega)]
 rfl
theorem sb {rc : RC} {b : GBk} {pl : List Int} {h : Int} {s : Int} {N : Nat} (hp : pl.length = N) (ep : 0 ≤ s) (hs : s.toNat < N) (hN : N ≤ 6) (hrc : RcOk rc b pl h s.toNat) {l : List (Gbe × Int)} (hl : InvE b pl l) :
  ∀ (k0 k : Nat), k < k0 → k ≤ s.toNat → ∃ l', lbind (nN rc b pl s h l k0 ((k : Int) - 1)) (fun r => some r) (fun _ => some (0, l)) (fun _ _ => none) = some (frF (hF pl) (EE b pl h) (hF pl s.toNat) k, l') ∧ InvE b pl l'
 | 0, _, hk, _ => absurd hk (Nat.not_lt_zero _)
 | k0 + 1, 0, _, _ => by
  simp only [nN]
  rw [decide_eq_false (by omega), cond_false]
  exact ⟨l, rfl, hl⟩
 | k0 + 1, k + 1, hk, hks => by
  simp only [nN]
  rw [decide_eq_true (by omega), cond_true, getP hp (by omega) (by omega), getP hp ep hs]
  have e : (((k + 1 : Nat) : Int) - 1).toNat = k := by omega
  simp only [Option.bind_some, e]
  unfold frF
  by_cases hh : hF pl k = hF pl s.toNat
  ·obtain ⟨l', e1, hl'⟩ := hrc (((k + 1 : Nat) : Int) - 1) l (by omega) (by omega) hl
   rw [show (hF pl k == hF pl s.toNat) = true by simpa using hh, cond_true, e1, if_pos hh, e]
   exact ⟨l', rfl, hl'⟩
  ·rw [show (hF pl k == hF pl s.toNat) = false by simpa using hh, cond_false, if_neg hh, gz (by omega) (by omega), show ((k + 1 : Nat) : Int) - 1 - 1 = (k : Int) - 1 by omega]
   exact sb hp ep hs hN hrc hl k0 k (by omega) (by omega)
theorem yz {rc : RC} {b : GBk} {pl : List Int} {h : Int} {s : Int} {N : Nat} (hp : pl.length = N) (ep : 0 ≤ s) (hs : s.toNat < N) (hN : N ≤ 6) (hrc : RcOk rc b pl h s.toNat) {l : List (Gbe × Int)} (hl : InvE b pl l) :
  ∃ l', sc rc b pl s h l = some (FF b pl h s.toNat, l') ∧ InvE b pl l' := by
 unfold sc FF
 have := sb hp ep hs hN hrc hl 1000000 s.toNat (by omega) (Nat.le_refl _)
 rw [gz (by omega) (by omega)]
 rw [show ((s.toNat : Nat) : Int) - 1 = s - 1 by omega] at this
 exact this
theorem JK {rc : RC} {b : GBk} {pl : List Int} {h : Int} {n : Nat} (hrc : RcOk rc b pl h n) : ∀ (p : List Int) (i : Int) (acc : List Int) (l : List (Gbe × Int)), (∀ k ∈ p, 0 ≤ k ∧ k.toNat < n) → acc.length + p.length ≤ 1000 → InvE b pl l →
  ∃ l', lp rc b pl h p i acc l = some (.go (acc ++ p.map (fun k => EE b pl h k.toNat), l')) ∧ InvE b pl l'
 | [], i, acc, l, _, _, hl => ⟨l, by simp [lp], hl⟩
 | k :: p, i, acc, l, hk, hn, hl => by
  have h1 := hk k (List.mem_cons_self ..)
  obtain ⟨l1, e1, eK⟩ := hrc k l h1.1 h1.2 hl
  simp only [lp, e1, Option.bind_some]
  rw [room8 (by simp at hn ⊢; omega), cond_true]
  obtain ⟨l2, e2, fj⟩ := JK hrc p (i + 1) (acc ++ [EE b pl h k.toNat]) l1 (fun k hk' => hk k (List.mem_cons_of_mem _ hk')) (by simp at hn ⊢; omega) eK
  exact ⟨l2, by rw [e2]; simp, fj⟩
theorem y6 {rc : RC} {b : GBk} {pl : List Int} {h : Int} {n : Nat} (hrc : RcOk rc b pl h n) {p : List Int} (hk : ∀ k ∈ p, 0 ≤ k ∧ k.toNat < n) (hn : p.length ≤ 1000) {l : List (Gbe × Int)} (hl : InvE b pl l) :
  ∃ l', sd rc b pl p h l = some (p.map (fun k => EE b pl h k.toNat), l') ∧ InvE b pl l' := by
 obtain ⟨l', e, hl'⟩ := JK hrc p 0 [] l hk (by simpa using hn) hl
 unfold sd
 rw [gj (by omega), cond_true, e]
 exact ⟨l', rfl, hl'⟩
theorem se : ∀ (l : List Int) (a : Int), adjB (a :: l) = true → ∀ m : Int, (∀ k ∈ a :: l, k < m) → (l.length : Int) < m - a
 | [], a, _, m, h => by have := h a (by simp); simp; omega
 | e :: l, a, h, m, hm => by
  have h' : (decide (a < e) && adjB (e :: l)) = true := h
  simp only [Bool.and_eq_true, decide_eq_true_eq] at h'
  have := se l e h'.2 m (fun k hk => hm k (List.mem_cons_of_mem _ hk))
  simp only [List.length_cons]
  omega
theorem HOk.few {n : Int} {s : GBs} (h : HOk n s) (hn : n ≤ 6) : s.Needs.length ≤ 6 := by
 cases e : s.Needs with
 | nil => simp
 | cons a l =>
  have h1 := h.ad
  rw [e] at h1
  have := se l a h1 n (fun k hk => (h.nd k (by rw [e]; exact hk)).2)
  have h2 := h.nd a (by rw [e]; simp)
  simp only [List.length_cons]
  omega
theorem getS {b : GBk} {s : Int} (h0 : 0 ≤ s) (h1 : s.toNat < b.Strokes.length) : ∃ x, getI b.Strokes s = some x ∧ b.Strokes[s.toNat]? = some x := by
 refine ⟨b.Strokes[s.toNat], ?_, List.getElem?_eq_getElem h1⟩
 unfold getI
 rw [if_pos h0, List.getElem?_eq_getElem h1]
theorem y7 {rc : RC} {b : GBk} (hb : BH b) {pl : List Int} (hp : pl.length = b.Strokes.length) {h : Int} {s : Int} (ep : 0 ≤ s) (hs : s.toNat < b.Strokes.length) (hrc : RcOk rc b pl h s.toNat) {l : List (Gbe × Int)} (hl : InvE b pl l) :
  ∃ l', sf rc b pl s h l = some (BB b pl h s.toNat, l') ∧ InvE b pl l' := by
 have hns := hb.ns
 obtain ⟨x, e1, e2⟩ := getS ep hs
 have hx := hb.s e2
 have hfew := hx.few (by omega)
 obtain ⟨l1, f1, eK⟩ := yz hp ep hs (by omega) hrc hl
 obtain ⟨l2, f2, fj⟩ := y6 hrc (p := x.Needs) (fun k hk => by have := hx.nd k hk; omega) (by omega) eK
 unfold sf
 simp only [f1, e1, f2, Option.bind_some]
 rw [yy (by simp; omega)]
 simp only [Option.bind_some]
 rw [yy (by simp)]
 refine ⟨l2, ?_, fj⟩
 simp only [Option.bind_some, yx, nF, e2]
 rfl
theorem y8 {b : GBk} {pl : List Int} {s : Int} (h0 : 0 ≤ s) (h1 : s.toNat < b.Strokes.length) : sg b pl s = some (dF b 0 s.toNat) := by
 obtain ⟨x, e1, e2⟩ := getS h0 h1
 simp [sg, e1, dF, e2]
theorem N3 {b : GBk} {pl : List Int} {s : Int} (h0 : 0 ≤ s) (h1 : s.toNat < b.Strokes.length) : sh b pl s = some (dF b 1 s.toNat) := by
 obtain ⟨x, e1, e2⟩ := getS h0 h1
 simp [sh, e1, dF, e2]
theorem y9 {rc : RC} {b : GBk} (hb : BH b) {pl : List Int} (hp : pl.length = b.Strokes.length) {h : Int} (hh : h = 0 ∨ h = 1) {s : Int} (ep : 0 ≤ s) (hs : s.toNat < b.Strokes.length) (hrc : RcOk rc b pl h s.toNat) {l : List (Gbe × Int)} (hl : InvE b pl l) :
  ∃ l', si rc b pl s h l = some (EE b pl h s.toNat, l') ∧ InvE b pl l' := by
 unfold si
 cases hm : mapHas cM l ⟨s, h⟩ with
 | true =>
  rw [cond_true, hl.has hm]
  exact ⟨l, rfl, hl⟩
 | false =>
  obtain ⟨l1, e1, eK⟩ := y7 hb hp ep hs hrc hl
  have h1 := BB_b hb pl h hs
  have h2 := hb.d h s.toNat
  rw [cond_false, e1, Option.bind_some]
  rcases hh with rfl | rfl
  ·rw [y8 ep hs]
   simp only [Option.bind_some, beq_self_eq_true, cond_true]
   rw [gz (by omega) (by omega), ← EE_eq hb]
   exact ⟨_, rfl, eK.set s 0⟩
  ·rw [N3 ep hs]
   simp only [Option.bind_some, beq_self_eq_true, cond_true, show ((1 : Int) == 0) = false from rfl, cond_false]
   rw [gz (by omega) (by omega), ← EE_eq hb]
   exact ⟨_, rfl, eK.set s 1⟩
theorem sj {b : GBk} (hb : BH b) {pl : List Int} (hp : pl.length = b.Strokes.length) {h : Int} (hh : h = 0 ∨ h = 1) : ∀ (f n : Nat), n ≤ f → n ≤ b.Strokes.length → RcOk (gEnd f) b pl h n
 | 0, n, hn, _ => fun k l h0 h1 hl => absurd h1 (by omega)
 | f + 1, n, hn, hnl => fun k l h0 h1 hl => y9 hb hp hh h0 (by omega) (sj hb hp hh f k.toNat (by omega) (by omega)) hl
section
variable {b : GBk} (hb : BH b) {pl : List Int} (hp : pl.length = b.Strokes.length) {h : Int} (hh : h = 0 ∨ h = 1) {l : List (Gbe × Int)} (hl : InvE b pl l)
include hb hp hh hl
theorem yA {s : Int} (h0 : 0 ≤ s) (h1 : s.toNat < b.Strokes.length) : ∃ l', yB b pl s h l = some (EE b pl h s.toNat, l') ∧ InvE b pl l' :=
 sj hb hp hh 8 b.Strokes.length (by have := hb.ns; omega) (Nat.le_refl _) s l h0 h1 hl
end
section
variable {b : GBk} (hb : BH b) {pl : List Int} (hp : pl.length = b.Strokes.length) {l : List (Gbe × Int)} (hl : InvE b pl l)
include hb hp hl
end
theorem sk {b : GBk} (hb : BH b) {pl : List Int} (hp : pl.length = b.Strokes.length) : ∀ (p : List GBs) (i : Nat) (l : List (Gbe × Int)), i + p.length = b.Strokes.length → InvE b pl l →
  ∃ l', nO b pl p i (tkF (EE b pl 1) i) l = some (.go (tkF (EE b pl 1) b.Strokes.length, l')) ∧ InvE b pl l'
 | [], i, l, hi, hl => ⟨l, by simp at hi; subst hi; rfl, hl⟩
 | s :: p, i, l, hi, hl => by
  simp only [List.length_cons] at hi
  obtain ⟨l1, e1, eK⟩ := yA hb hp (.inr rfl) hl (s := i) (by omega) (by omega)
  simp only [nO, e1, Option.bind_some]
  rw [yy (by simp)]
  obtain ⟨l2, e2, fj⟩ := sk hb hp p (i + 1) l1 (by omega) eK
  refine ⟨l2, ?_, fj⟩
  rw [← e2]
  simp only [Option.bind_some, mxL, List.foldl_cons, List.foldl_nil, Int.toNat_natCast]
  have h1 := sm (EE b pl 1) i
  congr 1
  show max (max 0 (tkF (EE b pl 1) i)) (EE b pl 1 i) = max (tkF (EE b pl 1) i) (EE b pl 1 i)
  rw [Int.max_eq_right h1]
def TK (b : GBk) (pl : List Int) : Int := tkF (EE b pl 1) b.Strokes.length
theorem sn {b : GBk} (hb : BH b) {pl : List Int} (hp : pl.length = b.Strokes.length) {l : List (Gbe × Int)} (hl : InvE b pl l) : ∃ l', mm b pl l = some (TK b pl, l') ∧ InvE b pl l' := by
 obtain ⟨l', e, hl'⟩ := sk hb hp b.Strokes 0 l (by simp) hl
 unfold mm
 rw [gj (by have := hb.ns; omega), cond_true]
 have e' : nO b pl b.Strokes 0 0 l = _ := e
 rw [e']
 exact ⟨l', rfl, hl'⟩
end Go.V
end
section
namespace Go.V
open Go Go.Proofs
theorem aq.atR {P : Program} {G : Glob} {x : Option (Option Nat)} {f : FuncId} {args : List VV} {H : Nat → Option VObj} {nx : Nat} {R Rp : VV → (Nat → Option VObj) → Nat → Prop} (h : aq P G f args H nx R Rp) : aq P (G.at x) f args H nx R Rp := h
def plM (b : GBk) (p : List Int) (δ : Nat) : VV := .agg [.lit (.int .i64 b.Apprentices), .sl (ae eI b.Boards) (List.length b.Boards) false, .sl (ae cGBs b.Strokes) (List.length b.Strokes) false, .sl (ae eI p) (List.length p) false, .mp δ]
theorem j4 {b : GBk} {p : List Int} {δ : Nat} : plM b p δ = .agg [.lit (.int .i64 b.Apprentices), .sl (ae eI b.Boards) (List.length b.Boards) false, .sl (ae cGBs b.Strokes) (List.length b.Strokes) false, .sl (ae eI p) (List.length p) false, .mp δ] := rfl
theorem N4 {b : GBk} {p q : List Int} {δ δ' nx : Nat} {H : Nat → Option VObj} {la lb : List (Gbe × Int)} {Ra Rb : Int × List (Gbe × Int)} (ha : mm b p la = some Ra) (hb : mm b q lb = some Rb) (h1 : δ < nx) (h2 : δ' < nx) (hne : δ ≠ δ')
    (Hδ : H δ = some (.map (encM aP bR la))) (Hδ' : H δ' = some (.map (encM aP bR lb))) :
    aq Tryz.prog G0 114 [plM b p δ, plM b q δ'] H nx (fun x H' nx' => x = .lit (.bool (decide (Ra.1 < Rb.1))) ∧ nx ≤ nx' ∧ H' δ = some (.map (encM aP bR Ra.2)) ∧ H' δ' = some (.map (encM aP bR Rb.2)) ∧ ∀ γ, γ < nx → γ ≠ δ → γ ≠ δ' → H' γ = H γ) (fun _ _ _ => False) := by
  have q1 := fb h1
  have q2 := fb h2
  have q3 := ne_f hne
  have q4 := ne_f (Ne.symm hne)
  refine aq.run mixed Tryz.call114 Tryz.func114 rfl (by simp [Tryz.ntmps114]; kernel_rfl) ?_
  simp only [j4, vz, mq, mqm, vsi, tyf, mqt, q1, q2, q3, q4, Hδ, Hδ', nm, seval, ua]
  refine mn (fun tm => tm 2 = .ptr nx 0 ∧ tm 3 = .ptr (nx + 1) 0) (by refine ⟨?_, ?_⟩ <;> first | (simp only [ua, Nat.add_zero, nm, seval]; done) | rfl) ?_
  rintro tm ⟨e2, e3⟩
  simp only [vz, mq, mqm, vsi, tyf, mqt, q1, q2, q3, q4, Hδ, Hδ', e2, e3, nm, seval, ua]
  refine dkupd (VUpd.at (β := δ) (y := (fun _ => .lit (.int .i64 Ra.1))) (so _ _ _ _ ha) (by omega) (by first | rfl | assumption | (simp only [aF, ba, q1, q2, q3, q4, Hδ, Hδ', nm, seval] <;> rfl)) (by first | rfl | (simp only [nrm, aW, @eu, @gZ] <;> rfl)) (gH (fun _ => rfl) _)) ?_
  refine h9 (fun tm => tm 2 = .ptr nx 0 ∧ tm 3 = .ptr (nx + 1) 0 ∧ tm 6 = .lit (.int .i64 Ra.1)) (by refine ⟨?_, ?_, ?_⟩ <;> first | (simp only [ua, cg, q1, q2, q3, q4, e2, e3, nm, seval] <;> rfl) | rfl) ?_
  clear e2 e3 tm
  rintro tm ⟨e2, e3, e6⟩
  simp only [vz, mq, mqm, vsi, tyf, mqt, q1, q2, q3, q4, Hδ, Hδ', e2, e3, e6, nm, seval, ua]
  refine dkupd (VUpd.at (β := δ') (y := (fun _ => .lit (.int .i64 Rb.1))) (so _ _ _ _ hb) (by omega) (by first | rfl | assumption | (simp only [aF, ba, q1, q2, q3, q4, Hδ, Hδ', nm, seval] <;> rfl)) (by first | rfl | (simp only [nrm, aW, @eu, @gZ] <;> rfl)) (gH (fun _ => rfl) _)) ?_
  refine h9 (fun tm => tm 2 = .ptr nx 0 ∧ tm 3 = .ptr (nx + 1) 0 ∧ tm 6 = .lit (.int .i64 Ra.1) ∧ tm 8 = .lit (.int .i64 Rb.1)) (by refine ⟨?_, ?_, ?_, ?_⟩ <;> first | (simp only [ua, cg, q1, q2, q3, q4, e2, e3, e6, nm, seval] <;> rfl) | rfl) ?_
  clear e2 e3 e6 tm
  rintro tm ⟨e2, e3, e6, e8⟩
  simp only [vz, mq, mqm, vsi, tyf, mqt, q1, q2, q3, q4, Hδ, Hδ', e2, e3, e6, e8, nm, seval, ua]
  refine j5 ⟨?_, ?_⟩
  · simp only [j6, j7, fw, j8, and_true, true_and]
    repeat' (first | exact trivial | refine And.intro ?_ ?_ | rw [fw] | rw [j9] | exact Or.inl (by decide +kernel) | exact Or.inl (by dsimp only; decide +kernel) | (refine Or.inr ⟨?_, ?_⟩ <;> simp; done) | (refine Or.inr ⟨?_, ?_⟩ <;> simp <;> omega) | (refine Or.inr ⟨?_, ?_⟩ <;> simp [VEff.wr] <;> omega))
  simp only [vz, mq, mqm, vsi, tyf, mqt, q1, q2, q3, q4, Hδ, Hδ', e2, e3, e6, e8, nm, seval, ua]
  refine c9 (x := .lit (.bool (decide (Ra.1 < Rb.1)))) (by first | (simp only [Tryz.results114, resV, resL, resV1, cI, cJ, uw, cr, tyf, nm, seval] <;> rfl) | rfl) ?_
  refine ⟨rfl, (show nx ≤ nx + 9 by omega), ?_, ?_, ?_⟩
  · rw [aF, if_neg hne, aF, if_pos rfl]
  · rw [aF, if_pos rfl]
  · intro γ h3 h4 h5
    rw [aF, if_neg h5, aF, if_neg h4, aF, if_neg (by omega), aF, if_neg (by omega)]
def bestP (tk : List Int → Int) : List (List Int) → Option (List Int) → Option (List Int)
  | [], a => a
  | x :: L, none => bestP tk L (some x)
  | x :: L, some r => bestP tk L (if tk x < tk r then some x else some r)
def TakesOk (b : GBk) (L : List (List Int)) (tk : List Int → Int) : Prop := ∀ p ∈ L, ∀ l, InvE b p l → ∃ l', mm b p l = some (tk p, l') ∧ InvE b p l'
def cPl (b : GBk) (p : List Int) (δ : Nat) : List VV := [.lit (.int .i64 b.Apprentices), .sl (ae eI b.Boards) (List.length b.Boards) false, .sl (ae cGBs b.Strokes) (List.length b.Strokes) false, .sl (ae eI p) (List.length p) false, .mp δ]
theorem lu {b : GBk} {p : List Int} {δ : Nat} : cPl b p δ = [.lit (.int .i64 b.Apprentices), .sl (ae eI b.Boards) (List.length b.Boards) false, .sl (ae cGBs b.Strokes) (List.length b.Strokes) false, .sl (ae eI p) (List.length p) false, .mp δ] := rfl
theorem N5 {b : GBk} {itv : VV} {L : List (List Int)} {tk : List Int → Int} {R : List Int} (hit : IterM Tryz.prog G0 itv (L.map (plV b))) (hT : TakesOk b L tk) (hR : bestP tk L none = some R) (H0 : Nat → Option VObj) (nx : Nat) :
    aq Tryz.prog G0 113 [itv, .fn (.func 114) [] []] H0 nx (fun x H' nx' => nx ≤ nx' ∧ (∀ γ, γ < nx → H' γ = H0 γ) ∧ ∃ δ l, x = .tup [plM b R δ, .lit (.bool true)] ∧ nx ≤ δ ∧ δ < nx' ∧ H' δ = some (.map (encM aP bR l)) ∧ InvE b R l) (fun _ _ _ => False) := by
  refine aq.run mixed Tryz.call113 Tryz.func113 rfl (by simp [Tryz.ntmps113]; kernel_rfl) ?_
  simp only [vz, mq, mqm, vsi, tyf, mqt, seval, ua, rg, nm]
  refine sq (fun tm => tm 9 = itv ∧ tm 3 = .ptr nx 0 ∧ tm 4 = .ptr (nx + 1) 0 ∧ tm 6 = .ptr (nx + 3) 0 ∧ tm 7 = .ptr (nx + 4) 0) (by refine ⟨?_, ?_, ?_, ?_, ?_⟩ <;> first | (simp only [ua, Nat.add_zero, nm, seval]; done) | rfl) ?_
  rintro tm ⟨e9, e3, e4, e6, e7⟩
  refine JL hit (by first | (simp only [jA, jB, e9, jj, seval] <;> rfl) | rfl) ?_
  intro LO hLO
  obtain ⟨J, hJ⟩ : ∃ J : Option (List VV) → List (Nat × VObj) → Prop, J = (fun o hp => match o with
    | some l => ∃ (p : List (List Int)) (a : Option (List Int)), l = p.map (plV b) ∧ (∀ q ∈ p, q ∈ L) ∧ bestP tk p a = some R ∧
        ((a = none ∧ hp = [(nx + 7, .deferred (some [])), (nx + 8, LO), (nx, .cells (some 129) [.fn (.func 114) [] []]), (nx + 1, .cells (some 92) [.lit (.int .i64 0), .lit (.slice none 0 0), .lit (.slice none 0 0), .lit (.slice none 0 0), .lit (.map none)]), (nx + 3, .cells (some 92) [.lit (.int .i64 0), .lit (.slice none 0 0), .lit (.slice none 0 0), .lit (.slice none 0 0), .lit (.map none)]), (nx + 4, .cells (some 4) [.lit (.bool false)])]) ∨
         ∃ r δ lr, a = some r ∧ r ∈ L ∧ (nx ≤ δ ∧ δ ≠ nx ∧ δ ≠ nx + 1 ∧ δ ≠ nx + 3 ∧ δ ≠ nx + 4 ∧ δ ≠ nx + 7 ∧ δ ≠ nx + 8) ∧ InvE b r lr ∧ hp = [(nx + 7, .deferred (some [])), (nx + 8, LO), (nx, .cells (some 129) [.fn (.func 114) [] []]), (nx + 1, .cells (some 92) [.lit (.int .i64 0), .lit (.slice none 0 0), .lit (.slice none 0 0), .lit (.slice none 0 0), .lit (.map none)]), (nx + 3, .cells (some 92) (cPl b r δ)), (nx + 4, .cells (some 4) [.lit (.bool true)]), (δ, .map (encM aP bR lr))])
    | none => False) := ⟨_, rfl⟩
  obtain ⟨I, hI⟩ : ∃ I : Inv, I = (fun o Fr H n => (nx + 9 ≤ n ∧ ∀ γ, γ < nx → ¬ Fr γ ∧ H γ = H0 γ) ∧ ownI J o Fr H n) := ⟨_, rfl⟩
  have hst : Stable I := by
    rw [hI]
    rintro o Fr nP H H1 n n1 ⟨⟨h0, h1⟩, h2⟩ h3 h4 h5
    refine ⟨⟨by omega, fun γ hγ => ?_⟩, JM _ _ _ _ _ _ _ h2 h3 h4 h5⟩
    obtain ⟨k1, k2⟩ := h1 γ hγ
    refine ⟨fun hf => ?_, (h3 γ (by omega) k1).trans k2⟩
    rcases h5 γ hf with hf | hf
    · exact k1 hf
    · omega
  refine ⟨I, hst, ?_, ?_, ?_⟩
  · rintro v rest Fr H n δe hFr hδe hnδ hHδ hi
    rw [hI] at hi
    obtain ⟨⟨mo, hfr⟩, hp, hown, hj⟩ := hi
    rw [hJ] at hj
    obtain ⟨p, a, hl, hpL, hbp, hcase⟩ := hj
    cases p with
    | nil => cases hl
    | cons e p =>
    simp only [List.map_cons, List.cons.injEq, plV, VV.agg.injEq] at hl
    obtain ⟨rfl, rfl⟩ := hl
    have heL := hpL e (List.mem_cons_self ..)
    have hpL' : ∀ q ∈ p, q ∈ L := fun q hq => hpL q (List.mem_cons_of_mem _ hq)
    rcases hcase with ⟨rfl, rfl⟩ | ⟨r, δ, lr, rfl, hrL, hδ9, hinv, rfl⟩
    · obtain ⟨l7, n7, H7⟩ := hown.head
      obtain ⟨l8, n8, H8⟩ := hown.tail.head
      obtain ⟨l0, n0, H0'⟩ := hown.tail.tail.head
      obtain ⟨l1, n1, H1⟩ := hown.tail.tail.tail.head
      obtain ⟨l3, n3, H3⟩ := hown.tail.tail.tail.tail.head
      obtain ⟨l4, n4, H4⟩ := hown.tail.tail.tail.tail.tail.head
      simp only [not_or] at n7 n8 n0 n1 n3 n4
      refine ss mixed (psl := [10]) hLO H8 su rfl (by kernel_rfl) (by kernel_rfl) ?_
      intro LB LD hLB hLD
      refine sv (fun tm => tm 10 = plM b e δe ∧ tm 3 = .ptr nx 0 ∧ tm 4 = .ptr (nx + 1) 0 ∧ tm 6 = .ptr (nx + 3) 0 ∧ tm 7 = .ptr (nx + 4) 0) (by refine ⟨?_, ?_, ?_, ?_, ?_⟩ <;> first | (simp only [sw, sx, Tryz.ntmps113, e3, e4, e6, e7, seval]; done) | rfl) ?_
      clear e9 e3 e4 e6 e7
      rintro tm ⟨b6, e3, e4, e6, e7⟩
      have nb := jk (a := nx) (m := 9) (b := n) mo
      simp only [j4] at b6
      simp only [vz, mq, mqm, vsi, tyf, mqt, seval, ua, nm, rg, RStart, b6, e3, e4, e6, e7, H8, H0', H1, H3, H4, nb, Bool.not_false]
      simp only [bestP] at hbp
      have hδn : nx ≤ δe := Nat.le_of_not_lt fun hh => (hfr δe hh).1 (.inr rfl)
      have hδe9 : nx ≤ δe ∧ δe ≠ nx ∧ δe ≠ nx + 1 ∧ δe ≠ nx + 3 ∧ δe ≠ nx + 4 ∧ δe ≠ nx + 7 ∧ δe ≠ nx + 8 := ⟨hδn, Ne.symm n0.2, Ne.symm n1.2, Ne.symm n3.2, Ne.symm n4.2, Ne.symm n7.2, Ne.symm n8.2⟩
      refine ⟨by simp only [aF, nb, nm, seval], (show n ≤ n + 13 by omega), fun γ hγ => ?_, ?_⟩
      · have := hFr γ hγ
        have g8 : γ ≠ nx + 8 := fun e => n8.1 (e ▸ hγ)
        have g3 : γ ≠ nx + 3 := fun e => n3.1 (e ▸ hγ)
        have g4 : γ ≠ nx + 4 := fun e => n4.1 (e ▸ hγ)
        simp only [updH]
        repeat rw [if_neg (by first | assumption | omega)]
      · rw [hI]
        simp only [if_true]
        refine ⟨⟨(show nx + 9 ≤ n + 13 by omega), fun γ hγ => ⟨fun hf => (hfr γ hγ).1 (.inl hf), ?_⟩⟩, ?_⟩
        · rw [← (hfr γ hγ).2]
          simp only [updH]
          repeat rw [if_neg (by omega)]
        · refine ⟨[(nx + 7, .deferred (some [])), (nx + 8, LO), (nx, .cells (some 129) [.fn (.func 114) [] []]), (nx + 1, .cells (some 92) [.lit (.int .i64 0), .lit (.slice none 0 0), .lit (.slice none 0 0), .lit (.slice none 0 0), .lit (.map none)]), (nx + 3, .cells (some 92) (cPl b e δe)), (nx + 4, .cells (some 4) [.lit (.bool true)]), (δe, .map (encM aP bR []))], Own.cons (show nx + 7 < n + 13 by omega) n7.1 ?_ (Own.cons (show nx + 8 < n + 13 by omega) n8.1 ?_ (Own.cons (show nx < n + 13 by omega) n0.1 ?_ (Own.cons (show nx + 1 < n + 13 by omega) n1.1 ?_ (Own.cons (show nx + 3 < n + 13 by omega) n3.1 ?_ (Own.cons (show nx + 4 < n + 13 by omega) n4.1 ?_ (Own.cons (show δe < n + 13 by omega) hnδ ?_ Own.nil)))))), ?_⟩
          rotate_right
          · rw [hJ]
            exact ⟨p, some e, rfl, hpL', hbp, .inr ⟨e, δe, [], rfl, heL, hδe9, InvE.nil, rfl⟩⟩
          · simp only [aF, nb, nm, seval, H7]
          · simp only [aF, nb, nm, seval]
          · simp only [aF, nb, nm, seval, H0']
          · simp only [aF, nb, nm, seval, H1]
          · simp only [aF, nb, nm, seval]; rfl
          · simp only [aF, nb, nm, seval]
          · simp only [updH]
            repeat rw [if_neg (by omega)]
            rw [hHδ, cg]
    · obtain ⟨l7, n7, H7⟩ := hown.head
      obtain ⟨l8, n8, H8⟩ := hown.tail.head
      obtain ⟨l0, n0, H0'⟩ := hown.tail.tail.head
      obtain ⟨l1, n1, H1⟩ := hown.tail.tail.tail.head
      obtain ⟨l3, n3, H3⟩ := hown.tail.tail.tail.tail.head
      obtain ⟨l4, n4, H4⟩ := hown.tail.tail.tail.tail.tail.head
      obtain ⟨ld, nd, Hd⟩ := hown.tail.tail.tail.tail.tail.tail.head
      simp only [not_or] at n7 n8 n0 n1 n3 n4 nd
      refine ss mixed (psl := [10]) hLO H8 su rfl (by kernel_rfl) (by kernel_rfl) ?_
      intro LB LD hLB hLD
      refine sv (fun tm => tm 10 = plM b e δe ∧ tm 3 = .ptr nx 0 ∧ tm 4 = .ptr (nx + 1) 0 ∧ tm 6 = .ptr (nx + 3) 0 ∧ tm 7 = .ptr (nx + 4) 0) (by refine ⟨?_, ?_, ?_, ?_, ?_⟩ <;> first | (simp only [sw, sx, Tryz.ntmps113, e3, e4, e6, e7, seval]; done) | rfl) ?_
      clear e9 e3 e4 e6 e7
      rintro tm ⟨b6, e3, e4, e6, e7⟩
      have nb := jk (a := nx) (m := 9) (b := n) mo
      simp only [j4] at b6
      rw [lu] at H3
      have hδn : nx ≤ δe := Nat.le_of_not_lt fun hh => (hfr δe hh).1 (.inr rfl)
      have hδe9 : nx ≤ δe ∧ δe ≠ nx ∧ δe ≠ nx + 1 ∧ δe ≠ nx + 3 ∧ δe ≠ nx + 4 ∧ δe ≠ nx + 7 ∧ δe ≠ nx + 8 := ⟨hδn, Ne.symm n0.2, Ne.symm n1.2, Ne.symm n3.2, Ne.symm n4.2, Ne.symm n7.2, Ne.symm n8.2⟩
      obtain ⟨le, ee, ie⟩ := hT e heL [] InvE.nil
      obtain ⟨lr', er, ir⟩ := hT r hrL lr hinv
      simp only [bestP] at hbp
      have hδδ : δe ≠ δ := Ne.symm nd.2
      simp only [vz, mq, mqm, vsi, tyf, mqt, seval, ua, nm, rg, RStart, b6, e3, e4, e6, e7, H8, H0', H1, H3, H4, nb, @mr, Bool.not_true]
      refine kopen ?_
      rw [lv]
      generalize hHH : updH (updH (updH H (n + 0) (VObj.cells (some 92) [.lit (.int .i64 0), .lit (.slice none 0 0), .lit (.slice none 0 0), .lit (.slice none 0 0), .lit (.map none)])) (n + 0) (VObj.cells (some 92) [.lit (.int .i64 b.Apprentices), .sl (ae eI b.Boards) (List.length b.Boards) false, .sl (ae cGBs b.Strokes) (List.length b.Strokes) false, .sl (ae eI e) (List.length e) false, .mp δe])) (nx + 8) LB = HH
      have hδe' : HH δe = some (.map (encM aP bR [])) := by
        rw [← hHH]
        simp only [updH]
        repeat rw [if_neg (by omega)]
        rw [hHδ, cg]
      have hδ' : HH δ = some (.map (encM aP bR lr)) := by
        rw [← hHH]
        simp only [updH]
        repeat rw [if_neg (by omega)]
        exact Hd
      refine aq.mono (aq.atR (N4 (b := b) (p := e) (q := r) ee er (show δe < n + 10 by omega) (show δ < n + 10 by omega) hδδ hδe' hδ')) ?_ (fun _ _ _ h => h.elim)
      rintro v H2 n2 ⟨rfl, g1, g2, g3, g4⟩
      have K8 : H2 (nx + 8) = some LB := by
        rw [g4 _ (by omega) (by omega) (by omega), ← hHH]
        simp only [updH]
        simp
      have K7 : H2 (nx + 7) = some (.deferred (some [])) := by
        rw [g4 _ (by omega) (by omega) (by omega), ← hHH]
        simp only [updH]
        repeat rw [if_neg (by omega)]
        exact H7
      have K0 : H2 (nx) = some (.cells (some 129) [.fn (.func 114) [] []]) := by
        rw [g4 _ (by omega) (by omega) (by omega), ← hHH]
        simp only [updH]
        repeat rw [if_neg (by omega)]
        exact H0'
      have K1 : H2 (nx + 1) = some (.cells (some 92) [.lit (.int .i64 0), .lit (.slice none 0 0), .lit (.slice none 0 0), .lit (.slice none 0 0), .lit (.map none)]) := by
        rw [g4 _ (by omega) (by omega) (by omega), ← hHH]
        simp only [updH]
        repeat rw [if_neg (by omega)]
        exact H1
      have K3 : H2 (nx + 3) = some (.cells (some 92) (cPl b r δ)) := by
        rw [g4 _ (by omega) (by omega) (by omega), ← hHH]
        simp only [updH]
        repeat rw [if_neg (by omega)]
        exact H3
      have K4 : H2 (nx + 4) = some (.cells (some 4) [.lit (.bool true)]) := by
        rw [g4 _ (by omega) (by omega) (by omega), ← hHH]
        simp only [updH]
        repeat rw [if_neg (by omega)]
        exact H4
      have Kx : H2 (n + 0) = some (.cells (some 92) (cPl b e δe)) := by
        rw [g4 _ (by omega) (by omega) (by omega), ← hHH]
        simp only [updH]
        rw [if_neg (by omega), if_pos trivial]
        rfl
      have KF : ∀ γ, γ < n → ¬ γ = δe → ¬ γ = δ → ¬ γ = nx + 8 → H2 γ = H γ := by
        intro γ h1 h2 h3 h4
        rw [g4 γ (by omega) h2 h3, ← hHH]
        simp only [updH]
        repeat rw [if_neg (by omega)]
      rw [lu] at Kx K3
      by_cases hlt : tk e < tk r
      · rw [decide_eq_true hlt]
        rw [if_pos hlt] at hbp
        simp only [vz, mq, mqm, vsi, tyf, mqt, seval, ua, nm, rg, e3, e4, e6, e7, K8, K7, K0, K1, K3, K4, Kx, nb]
        refine ⟨by simp only [aF, K8, nm, seval], (show n ≤ n2 + 3 by omega), fun γ hγ => ?_, ?_⟩
        · have h1 := hFr γ hγ
          have g8 : γ ≠ nx + 8 := fun e => n8.1 (e ▸ hγ)
          have g3 : γ ≠ nx + 3 := fun e => n3.1 (e ▸ hγ)
          have g4' : γ ≠ nx + 4 := fun e => n4.1 (e ▸ hγ)
          have gd : γ ≠ δ := fun e => nd.1 (e ▸ hγ)
          have ge : γ ≠ δe := fun e => hnδ (e ▸ hγ)
          simp only [updH]
          repeat rw [if_neg (by first | assumption | omega)]
          exact KF γ h1 ge gd g8
        · rw [hI]
          simp only [if_true]
          refine ⟨⟨(show nx + 9 ≤ n2 + 3 by omega), fun γ hγ => ⟨fun hf => (hfr γ hγ).1 (.inl hf), ?_⟩⟩, ?_⟩
          · rw [← (hfr γ hγ).2]
            simp only [updH]
            repeat rw [if_neg (by omega)]
            exact KF γ (by omega) (by omega) (by omega) (by omega)
          · refine ⟨[(nx + 7, .deferred (some [])), (nx + 8, LO), (nx, .cells (some 129) [.fn (.func 114) [] []]), (nx + 1, .cells (some 92) [.lit (.int .i64 0), .lit (.slice none 0 0), .lit (.slice none 0 0), .lit (.slice none 0 0), .lit (.map none)]), (nx + 3, .cells (some 92) (cPl b e δe)), (nx + 4, .cells (some 4) [.lit (.bool true)]), (δe, .map (encM aP bR le))], Own.cons (show nx + 7 < n2 + 3 by omega) n7.1 ?_ (Own.cons (show nx + 8 < n2 + 3 by omega) n8.1 ?_ (Own.cons (show nx < n2 + 3 by omega) n0.1 ?_ (Own.cons (show nx + 1 < n2 + 3 by omega) n1.1 ?_ (Own.cons (show nx + 3 < n2 + 3 by omega) n3.1 ?_ (Own.cons (show nx + 4 < n2 + 3 by omega) n4.1 ?_ (Own.cons (show δe < n2 + 3 by omega) hnδ ?_ Own.nil)))))), ?_⟩
            rotate_right
            · rw [hJ]
              exact ⟨p, some e, rfl, hpL', hbp, .inr ⟨e, δe, le, rfl, heL, hδe9, ie, rfl⟩⟩
            · simp only [aF, nm, seval, K7]
            · simp only [aF, nm, seval]
            · simp only [aF, nm, seval, K0]
            · simp only [aF, nm, seval, K1]
            · simp only [aF, nm, seval, K3]; rfl
            · simp only [aF, nm, seval, K4]
            · simp only [updH]
              repeat rw [if_neg (by omega)]
              exact g2
      · rw [decide_eq_false hlt]
        rw [if_neg hlt] at hbp
        simp only [vz, mq, mqm, vsi, tyf, mqt, seval, ua, nm, rg, e3, e4, e6, e7, K8, K7, K0, K1, K3, K4, Kx, nb]
        refine ⟨by simp only [aF, K8, nm, seval], (show n ≤ n2 by omega), fun γ hγ => ?_, ?_⟩
        · have h1 := hFr γ hγ
          have g8 : γ ≠ nx + 8 := fun e => n8.1 (e ▸ hγ)
          have g3 : γ ≠ nx + 3 := fun e => n3.1 (e ▸ hγ)
          have g4' : γ ≠ nx + 4 := fun e => n4.1 (e ▸ hγ)
          have gd : γ ≠ δ := fun e => nd.1 (e ▸ hγ)
          have ge : γ ≠ δe := fun e => hnδ (e ▸ hγ)
          simp only [updH]
          repeat rw [if_neg (by first | assumption | omega)]
          exact KF γ h1 ge gd g8
        · rw [hI]
          simp only [if_true]
          refine ⟨⟨(show nx + 9 ≤ n2 by omega), fun γ hγ => ⟨fun hf => (hfr γ hγ).1 (.inl hf), ?_⟩⟩, ?_⟩
          · rw [← (hfr γ hγ).2]
            simp only [updH]
            repeat rw [if_neg (by omega)]
            exact KF γ (by omega) (by omega) (by omega) (by omega)
          · refine ⟨[(nx + 7, .deferred (some [])), (nx + 8, LO), (nx, .cells (some 129) [.fn (.func 114) [] []]), (nx + 1, .cells (some 92) [.lit (.int .i64 0), .lit (.slice none 0 0), .lit (.slice none 0 0), .lit (.slice none 0 0), .lit (.map none)]), (nx + 3, .cells (some 92) (cPl b r δ)), (nx + 4, .cells (some 4) [.lit (.bool true)]), (δ, .map (encM aP bR lr'))], Own.cons (show nx + 7 < n2 by omega) n7.1 ?_ (Own.cons (show nx + 8 < n2 by omega) n8.1 ?_ (Own.cons (show nx < n2 by omega) n0.1 ?_ (Own.cons (show nx + 1 < n2 by omega) n1.1 ?_ (Own.cons (show nx + 3 < n2 by omega) n3.1 ?_ (Own.cons (show nx + 4 < n2 by omega) n4.1 ?_ (Own.cons (show δ < n2 by omega) nd.1 ?_ Own.nil)))))), ?_⟩
            rotate_right
            · rw [hJ]
              exact ⟨p, some r, rfl, hpL', hbp, .inr ⟨r, δ, lr', rfl, hrL, hδ9, ir, rfl⟩⟩
            · simp only [aF, nm, seval, K7]
            · simp only [aF, nm, seval]
            · simp only [aF, nm, seval, K0]
            · simp only [aF, nm, seval, K1]
            · simp only [aF, nm, seval, K3]; rfl
            · simp only [aF, nm, seval, K4]
            · simp only [updH]
              repeat rw [if_neg (by omega)]
              exact g3
  · rw [hI]
    refine ⟨⟨Nat.le_refl _, fun γ hγ => ⟨fun h => h, ?_⟩⟩, ?_⟩
    · simp only [updH]
      repeat rw [if_neg (by omega)]
    · refine ⟨[(nx + 7, .deferred (some [])), (nx + 8, LO), (nx, .cells (some 129) [.fn (.func 114) [] []]), (nx + 1, .cells (some 92) [.lit (.int .i64 0), .lit (.slice none 0 0), .lit (.slice none 0 0), .lit (.slice none 0 0), .lit (.map none)]), (nx + 3, .cells (some 92) [.lit (.int .i64 0), .lit (.slice none 0 0), .lit (.slice none 0 0), .lit (.slice none 0 0), .lit (.map none)]), (nx + 4, .cells (some 4) [.lit (.bool false)])], Own.cons (show nx + 7 < nx + 9 by omega) (fun h => h) ?_ (Own.cons (show nx + 8 < nx + 9 by omega) (fun h => h) ?_ (Own.cons (show nx < nx + 9 by omega) (fun h => h) ?_ (Own.cons (show nx + 1 < nx + 9 by omega) (fun h => h) ?_ (Own.cons (show nx + 3 < nx + 9 by omega) (fun h => h) ?_ (Own.cons (show nx + 4 < nx + 9 by omega) (fun h => h) ?_ Own.nil))))), ?_⟩
      rotate_right
      · rw [hJ]
        exact ⟨L, none, rfl, fun q h => h, hR, .inl ⟨rfl, rfl⟩⟩
      · simp [updH]
      · simp [updH]
      · simp only [updH]
        rw [if_neg (by omega), if_neg (by omega), if_neg (by omega), if_neg (by omega), if_neg (by omega), if_neg (by omega), if_pos (by omega)]
      · simp [updH]
      · simp [updH]
      · simp [updH]
  · rintro H' nx' hh
    have hh : I (some []) noFr H' nx' := by
      rcases hh with h | h
      · exact h
      · rw [hI] at h
        obtain ⟨_, hp, _, hj⟩ := h
        rw [hJ] at hj
        exact hj.elim
    rw [hI] at hh
    obtain ⟨⟨mo, hfr⟩, hp, hown, hj⟩ := hh
    rw [hJ] at hj
    obtain ⟨p, a, hl, hpL, hbp, hcase⟩ := hj
    cases p with
    | cons e p => cases hl
    | nil =>
    simp only [bestP] at hbp
    rcases hcase with ⟨rfl, rfl⟩ | ⟨r, δ, lr, rfl, hrL, hδ9, hinv, rfl⟩
    · cases hbp
    simp only [Option.some.injEq] at hbp
    subst hbp
    obtain ⟨l7, n7, H7⟩ := hown.head
    obtain ⟨l8, n8, H8⟩ := hown.tail.head
    obtain ⟨l0, n0, H0'⟩ := hown.tail.tail.head
    obtain ⟨l1, n1, H1⟩ := hown.tail.tail.tail.head
    obtain ⟨l3, n3, H3⟩ := hown.tail.tail.tail.tail.head
    obtain ⟨l4, n4, H4⟩ := hown.tail.tail.tail.tail.tail.head
    obtain ⟨ld, nd, Hd⟩ := hown.tail.tail.tail.tail.tail.tail.head
    rw [lu] at H3
    refine vZ hLO H8 ?_
    intro LX
    have nb := jk (a := nx) (m := 9) (b := nx') mo
    simp only [vz, mq, mqm, vsi, tyf, mqt, seval, ua, nm, rg, e4, e6, e7, H1, H3, H4, nb]
    refine mn (fun tm => tm 4 = .ptr (nx + 1) 0 ∧ tm 6 = .ptr (nx + 3) 0 ∧ tm 7 = .ptr (nx + 4) 0) ⟨e4, e6, e7⟩ ?_
    clear e9 e3 e4 e6 e7
    rintro tm ⟨e4, e6, e7⟩
    simp only [vz, mq, mqm, vsi, tyf, mqt, seval, ua, nm, rg, e4, e6, e7, H1, H3, H4, nb]
    refine j5 ⟨?_, ?_⟩
    · simp only [j6, j7, fw, j8, and_true, true_and]
      repeat' (first | exact trivial | refine And.intro ?_ ?_ | rw [fw] | rw [j9] | exact Or.inl (by decide +kernel) | exact Or.inl (by dsimp only; decide +kernel) | (refine Or.inr ⟨?_, ?_⟩ <;> simp; done) | (refine Or.inr ⟨?_, ?_⟩ <;> simp <;> omega) | (refine Or.inr ⟨?_, ?_⟩ <;> simp [VEff.wr] <;> omega))
    simp only [vz, mq, mqm, vsi, tyf, mqt, seval, ua, nm, rg, e4, e6, e7, H1, H3, H4, nb]
    refine wa (by simp only [aF, nm, seval, H7]) ?_
    refine c9 (x := .tup [plM b r δ, .lit (.bool true)]) (by first | (simp only [Tryz.results113, resV, resL, resV1, cI, cJ, uw, cr, tyf, e4, j4, nm, seval] <;> rfl) | (simp only [Tryz.results113, resV, resL, resV1, cI, cJ, uw, cr, tyf, e4, j4, nm, seval]; done)) ?_
    refine ⟨by omega, fun γ hγ => ?_, δ, lr, rfl, hδ9.1, (show δ < nx' + 4 by omega), ?_, hinv⟩
    · rw [← (hfr γ hγ).2]
      simp only [updH]
      repeat rw [if_neg (by omega)]
    · simp only [updH]
      repeat rw [if_neg (by omega)]
      exact Hd
theorem JN {b : GBk} {itv : VV} {L : List (List Int)} {tk : List Int → Int} {R : List Int} (hit : IterM Tryz.prog G0 itv (L.map (plV b))) (hT : TakesOk b L tk) (hR : bestP tk L none = some R) (H0 : Nat → Option VObj) (nx : Nat) :
    aq Tryz.prog G0 85 [itv] H0 nx (fun x H' nx' => nx ≤ nx' ∧ (∀ γ, γ < nx → H' γ = H0 γ) ∧ ∃ δ l, x = plM b R δ ∧ nx ≤ δ ∧ δ < nx' ∧ H' δ = some (.map (encM aP bR l)) ∧ InvE b R l) (fun _ _ _ => False) := by
  refine aq.run mixed Tryz.call85 Tryz.func85 rfl (by simp [Tryz.ntmps85]; kernel_rfl) ?_
  simp only [vz, mq, mqm, vsi, tyf, mqt, seval, ua, rg, nm]
  refine kopen ?_
  rw [lv]
  refine aq.mono (N5 hit hT hR _ _) ?_ (fun _ _ _ h => h.elim)
  rintro v H2 n2 ⟨g1, g2, δ, l, rfl, g3, g4, g5, g6⟩
  have nb := jk (a := nx) (m := 8) (b := n2) (by omega)
  have K0 : H2 (nx + 0) = some (.cells (some 92) [.lit (.int .i64 0), .lit (.slice none 0 0), .lit (.slice none 0 0), .lit (.slice none 0 0), .lit (.map none)]) := by
    rw [g2 _ (by omega)]
    simp [updH]
  simp only [j4, vz, mq, mqm, vsi, tyf, mqt, seval, ua, rg, nm, nb, K0]
  refine c9 (x := plM b R δ) (by first | (simp only [Tryz.results85, resV, resL, resV1, cI, cJ, uw, cr, tyf, j4, nm, seval] <;> rfl) | (simp only [Tryz.results85, resV, resL, resV1, cI, cJ, uw, cr, tyf, j4, nm, seval]; done)) ?_
  refine ⟨by omega, fun γ hγ => ?_, δ, l, rfl, by omega, by omega, ?_, g6⟩
  · simp only [updH]
    repeat rw [if_neg (by omega)]
    rw [g2 γ (by omega)]
    simp only [updH]
    repeat rw [if_neg (by omega)]
  · simp only [updH]
    repeat rw [if_neg (by omega)]
    exact g5











def itB (b : GBk) : VV := .fn (.func 115) [] [.tp (cGBk b)]
theorem yC (b : GBk) : aj Tryz.prog G0 86 [.agg (cGBk b)] (.tree (itB b)) := by
  refine aj.run mixed Tryz.call86 Tryz.func86 rfl (by simp [Tryz.ntmps86]; kernel_rfl) ?_
  simp only [vz, tyf, seval, ua]
  refine ⟨rfl, .fn (.func 115) [] [.ptr 0 0], by simp [Tryz.results86, resV, resL, resV1, upd], 20, ?_⟩
  have h : treeL (cGBk b) = true := pX
  simp only [k8] at h
  simp [treeL, VV.tree] at h
  simp [sealV, sealL, VV.tree, treeL, updH, h, itB, cGBk]
theorem takesOk {b : GBk} (hb : BH b) {L : List (List Int)} (h : plansO b = some L) : TakesOk b L (TK b) := by
  intro p hp l hl
  refine sn hb ?_ hl
  unfold plansO at h
  cases hs : (decide (0 < b.Strokes.length) && (decide (b.Strokes.length < 1000) && (decide (0 ≤ b.Apprentices) && decide (b.Apprentices < 1000)))) with
  | false => rw [hs] at h; cases h
  | true =>
  rw [hs, cond_true] at h
  have := wb _ _ _ h p hp
  simpa using this
theorem sy {tk : List Int → Int} {R : List Int} : ∀ {L : List (List Int)} {a : Option (List Int)}, bestP tk L a = some R → R ∈ L ∨ a = some R
  | [], a, h => .inr h
  | x :: L, none, h => by
    simp only [bestP] at h
    rcases sy h with h | h
    · exact .inl (List.mem_cons_of_mem _ h)
    · cases h; exact .inl (List.mem_cons_self ..)
  | x :: L, some r, h => by
    simp only [bestP] at h
    rcases sy h with h | h
    · exact .inl (List.mem_cons_of_mem _ h)
    · split at h
      · cases h; exact .inl (List.mem_cons_self ..)
      · exact .inr h
def n5 (b : GBk) : Option (List Int × Int × Int) := Option.bind (mu b) fun r => cond r (cond (benchB b) (Option.bind (plansO b) fun L => Option.bind (bestP (TK b) L none) fun R => some (R, TK b R, 0)) none) (some ([], 0, 2))
theorem Nl (an : GBk) (R : List Int × Int × Int) (h : n5 an = some R) : aj Tryz.prog G0 51 [.agg (cGBk an)] (.tree (.tup [.sl (ae eI R.1) (List.length R.1) false, .lit (.int .i64 R.2.1), .lit (.int .i64 R.2.2)])) := by
  refine aj.runR mixed Tryz.call51 Tryz.func51 rfl (by simp [Tryz.ntmps51]; kernel_rfl) ?_
  unfold n5 at h
  rcases o1 : mu an with _ | r1
  · rw [o1] at h; cases h
  rw [o1, Option.bind_some] at h
  simp only [vz, mq, mqm, vsi, tyf, mqt, nm, seval]
  refine ktree (args0 := [.agg (cGBk an)]) (by first | (simp only [nrm, aW, @eu] <;> rfl) | rfl) (by simp only [tre, tytre, mqr, Bool.and_self]) (JO _ _ o1) ?_
  refine bY (fun tm => tm 1 = .ptr 0 0 ∧ tm 7 = .lit (.bool r1)) (by refine ⟨?_, ?_⟩ <;> first | (simp only [ua, cg, nm, seval] <;> rfl) | rfl) ?_
  rintro tm ⟨e1, e7⟩
  cases r1 with
  | false =>
    simp only [cond_false, Option.some.injEq] at h
    subst h
    simp only [vz, mq, mqm, vsi, tyf, mqt, e1, e7, nm, seval]
    refine c9 (x := .tup [.lit (.slice none 0 0), .lit (.int .i64 0), .lit (.int .i64 2)]) (by first | (simp only [Tryz.results51, resV, resL, resV1, cI, cJ, uw, cr, tyf, mqt, nm, seval] <;> rfl) | rfl) ?_
    refine gY ?_ ?_
    · simp only [tre, tytre, mqr, Bool.and_self]
    · first | (simp only [outV, uw, gF, cr, tyf, mqt, nrm, aW, nm, seval] <;> rfl) | rfl
  | true =>
    rw [cond_true] at h
    cases hB : benchB an with
    | false => rw [hB] at h; cases h
    | true =>
    rw [hB, cond_true] at h
    rcases hL : plansO an with _ | L
    · rw [hL] at h; cases h
    rw [hL, Option.bind_some] at h
    rcases hR : bestP (TK an) L none with _ | P
    · rw [hR] at h; cases h
    rw [hR, Option.bind_some, Option.some.injEq] at h
    subst h
    have hBH := (vQ.1 hB).h
    simp only [vz, mq, mqm, vsi, tyf, mqt, e1, e7, nm, seval]
    refine ktree (args0 := [.agg (cGBk an)]) (by first | (simp only [nrm, aW, @eu] <;> rfl) | rfl) (by simp only [tre, tytre, mqr, Bool.and_self]) (yC _) ?_
    refine bY (fun tm => tm 1 = .ptr 0 0 ∧ tm 10 = itB an) (by refine ⟨?_, ?_⟩ <;> first | (simp only [ua, cg, e1, nm, seval] <;> rfl) | rfl) ?_
    clear e1 e7 tm
    rintro tm ⟨e1, b6⟩
    simp only [vz, mq, mqm, vsi, tyf, mqt, e1, b6, nm, seval]
    refine kopen ?_
    rw [lv]
    refine aq.mono (JN (yD hL) (takesOk hBH hL) hR _ _) ?_ (fun _ _ _ h => h.elim)
    rintro v H2 n2 ⟨g1, g2, δ, l, rfl, g3, g4, g5, g6⟩
    simp only [j4, vz, mq, mqm, vsi, tyf, mqt, e1, b6, nm, seval]
    have hBH' := takesOk hBH hL
    have hPL : P ∈ L := (sy hR).resolve_right (by simp)
    obtain ⟨l', et, it⟩ := hBH' P hPL l g6
    have qd := fb g4
    have q0 : (δ = 10) = False := by simp; omega
    have q1 : (10 = δ) = False := by simp; omega
    refine mn (fun tm => tm 5 = .ptr 10 0) (by first | (simp only [ua, nm, seval]; done) | rfl) ?_
    clear e1 b6 tm
    rintro tm e5
    simp only [vz, mq, mqm, vsi, tyf, mqt, e5, q0, q1, qd, g5, nm, seval]
    refine dkupd (VUpd.at (β := δ) (y := (fun _ => .lit (.int .i64 (TK an P)))) (so _ _ _ _ et) (by omega) (by first | rfl | assumption | (simp only [aF, ba, q0, q1, g5, nm, seval] <;> rfl)) (by first | rfl | (simp only [nrm, aW, @eu, @gZ] <;> rfl)) (gH (fun _ => rfl) _)) ?_
    refine h9 (fun tm => tm 13 = .sl (ae eI P) (List.length P) false ∧ tm 15 = .lit (.int .i64 (TK an P))) (by refine ⟨?_, ?_⟩ <;> first | (simp only [ua, cg, e5, nm, seval] <;> rfl) | rfl) ?_
    clear e5 tm
    rintro tm ⟨bw, dw⟩
    simp only [vz, mq, mqm, vsi, tyf, mqt, bw, dw, q0, q1, qd, g5, nm, seval]
    refine j5 ⟨?_, ?_⟩
    · simp only [j6, j7, fw, j8, and_true, true_and]
      repeat' (first | exact trivial | refine And.intro ?_ ?_ | rw [fw] | rw [j9] | exact Or.inl (by decide +kernel) | exact Or.inl (by dsimp only; decide +kernel) | (refine Or.inr ⟨?_, ?_⟩ <;> simp; done) | (refine Or.inr ⟨?_, ?_⟩ <;> simp <;> omega) | (refine Or.inr ⟨?_, ?_⟩ <;> simp [VEff.wr] <;> omega))
    simp only [vz, mq, mqm, vsi, tyf, mqt, bw, dw, nm, seval]
    refine c9 (x := .tup [.sl (ae eI P) (List.length P) false, .lit (.int .i64 (TK an P)), .lit (.int .i64 0)]) (by first | (simp only [Tryz.results51, resV, resL, resV1, cI, cJ, uw, cr, tyf, mqt, bw, dw, nm, seval] <;> rfl) | rfl) ?_
    refine gY ?_ ?_
    · simp only [tre, tytre, mqr, Bool.and_self]
    · first | (simp only [outV, uw, gF, cr, tyf, mqt, nrm, aW, nm, seval] <;> rfl) | rfl

theorem BH.with {b : GBk} (h : BH b) (n : Int) : BH ⟨n, b.Boards, b.Strokes⟩ := ⟨h.ns, h.s⟩
def wiB (b : GBk) (n : Int) : GBk := ⟨n, b.Boards, b.Strokes⟩

def mF (b : GBk) (p : List Int) (j : Int) : Bool := j == 0 || !(match b.Strokes[p.length]? with | some s => s.Round | none => true)
def LA (b : GBk) (a : Int) : List (List Int) := listsB (mF b) (a.toNat + 1) b.Strokes.length []
theorem JA {b : GBk} (hB : BOk b) {a : Int} (h0 : 0 ≤ a) (h3 : a ≤ 3) : plansO (wiB b a) = some (LA b a) := by
 have hn := hB.ns
 unfold plansO
 rw [show (decide (0 < (wiB b a).Strokes.length) && (decide ((wiB b a).Strokes.length < 1000) && (decide (0 ≤ (wiB b a).Apprentices) && decide ((wiB b a).Apprentices < 1000)))) = true by
  show (decide (0 < b.Strokes.length) && (decide (b.Strokes.length < 1000) && (decide (0 ≤ a) && decide (a < 1000)))) = true
  simp only [Bool.and_eq_true, decide_eq_true_eq]
  exact ⟨by omega, by omega, by omega, by omega⟩, cond_true]
 refine JP (ln := b.Strokes.length) (m := mF b) (fun p j h1 h2 h3 h4 => ?_) b.Strokes.length [] (by simp) (by simp)
 have hs : getI (wiB b a).Strokes (p.length : Int) = some b.Strokes[p.length] := by
  unfold getI wiB
  rw [if_pos (by omega), Int.toNat_natCast, List.getElem?_eq_getElem h1]
 unfold wc mF
 rw [yE hs, List.getElem?_eq_getElem h1]
 rfl
theorem JQ {b : GBk} {l : Nat} (hl : 0 < l) : ∀ (k : Nat) (p : List Int), stepsB (mF b) l p (List.replicate k 0) = true
 | 0, _ => rfl
 | k + 1, p => by
  rw [List.replicate_succ]
  simp only [stepsB, Bool.and_eq_true, decide_eq_true_eq]
  exact ⟨⟨Int.le_refl _, by omega⟩, by simp [mF], JQ hl k _⟩
theorem yF {b : GBk} {a : Int} : List.replicate b.Strokes.length 0 ∈ LA b a := by
 unfold LA
 rw [yG]
 exact ⟨_, rfl, by simp, JQ (by omega) _ _⟩
theorem we {tk : List Int → Int} : ∀ (L : List (List Int)) (a : Option (List Int)), (L ≠ [] ∨ a ≠ none) → ∃ R, bestP tk L a = some R ∧ (∀ p ∈ L, tk R ≤ tk p) ∧ ∀ r, a = some r → tk R ≤ tk r
 | [], none, h => by rcases h with h | h <;> exact absurd rfl h
 | [], some r, _ => ⟨r, rfl, (fun p hp => by cases hp), fun q hq => by cases hq; exact Int.le_refl _⟩
 | x :: L, none, _ => by
  obtain ⟨R, e, h1, h2⟩ := we (tk := tk) L (some x) (.inr (by simp))
  refine ⟨R, e, fun p hp => ?_, fun r hr => by cases hr⟩
  rcases List.mem_cons.1 hp with rfl | hp
  ·exact h2 _ rfl
  ·exact h1 p hp
 | x :: L, some r, _ => by
  by_cases hlt : tk x < tk r
  ·obtain ⟨R, e, h1, h2⟩ := we (tk := tk) L (some x) (.inr (by simp))
   have hx := h2 x rfl
   refine ⟨R, by simp only [bestP]; rw [if_pos hlt]; exact e, fun p hp => ?_, fun q hq => by cases hq; omega⟩
   rcases List.mem_cons.1 hp with rfl | hp
   ·exact hx
   ·exact h1 p hp
  ·obtain ⟨R, e, h1, h2⟩ := we (tk := tk) L (some r) (.inr (by simp))
   have hx := h2 r rfl
   refine ⟨R, by simp only [bestP]; rw [if_neg hlt]; exact e, fun p hp => ?_, fun q hq => by cases hq; exact hx⟩
   rcases List.mem_cons.1 hp with rfl | hp
   ·omega
   ·exact h1 p hp
def IsB (b : GBk) (a : Int) (R : List Int) : Prop := bestP (TK (wiB b a)) (LA b a) none = some R ∧ R ∈ LA b a ∧ ∀ p ∈ LA b a, TK b R ≤ TK b p
theorem xW (b : GBk) (a : Int) : ∃ R, IsB b a R := by
 obtain ⟨R, e, h1, _⟩ := we (tk := TK (wiB b a)) (LA b a) none (.inl (List.ne_nil_of_mem yF))
 exact ⟨R, e, (sy e).resolve_right (by simp), h1⟩
theorem BOk.wi {b : GBk} (hB : BOk b) {a : Int} (h0 : 0 ≤ a) (h3 : a ≤ 3) : BOk (wiB b a) := ⟨⟨h0, h3⟩, hB.nb, hB.bo, hB.ns, hB.st⟩
theorem Len.wi {b : GBk} (h : Len b) (a : Int) : Len (wiB b a) := ⟨h.bo, h.st, h.nd⟩
theorem xX {b : GBk} (h : Len b) (hB : BOk b) {a : Int} (h0 : 0 ≤ a) (h3 : a ≤ 3) {R : List Int} (hR : IsB b a R) : n5 (wiB b a) = some (R, TK b R, 0) := by
 unfold n5
 rw [vP (h.wi a), vQ.2 (hB.wi h0 h3), Option.bind_some, cond_true, cond_true, JA hB h0 h3, Option.bind_some, hR.1]
 rfl
def RoundsX (P : Program) (G : Glob) (β : Nat) (I : Inv) : Prop := ∀ x rest (Fr : Nat → Prop) (H : Nat → Option VObj) (nx δ : Nat) (es : List (Value × VV)), (∀ γ, Fr γ → γ < nx) → δ < nx → ¬ Fr δ → H δ = some (.map es) → I (some (.agg x :: rest)) (fun γ => Fr γ ∨ γ = δ) H nx →
 Yields P G β (.agg (x ++ [.mp δ])) H nx (fun b H' nx' => nx ≤ nx' ∧ (∀ γ, Fr γ → H' γ = H γ) ∧ I (if b then some rest else none) Fr H' nx')
def IterX (P : Program) (G : Glob) (g : VV) (L : List VV) : Prop := ∃ f first captured, g = .fn (.func f) first captured ∧ ∀ (β : Nat) (I : Inv), Stable I → RoundsX P G β I → ∀ (H : Nat → Option VObj) (nx : Nat), β < nx → I (some L) noFr H nx →
 aq P G f (first ++ [.yl β] ++ captured) H nx (fun _ H' nx' => I (some []) noFr H' nx' ∨ I none noFr H' nx') (fun _ _ _ => False)
theorem N6 {P : Program} {G : Glob} {n : Nat} {Q : VExit → St → Prop} {tm : Nat → VV} {H : Nat → Option VObj} {nx : Nat} {df : List VDef} {g : Operand} {ps : Array Tmp} {az bo : Code} {itv : VV} {L : List VV} (hit : IterX P G itv L) (hg : ev (G.at (some none)) tm g = itv)
  (h : ∀ LO, LO = VObj.loop .ready none (tmL n tm) ps az bo nx → ∃ I : Inv, Stable I ∧ RoundsX P G (nx + 1) I ∧ I (some L) noFr (updH (updH H nx (.deferred (some []))) (nx + 1) LO) (nx + 2) ∧
   ∀ H' nx', I (some []) noFr H' nx' ∨ I none noFr H' nx' → RangeEnd P (G.at (some none)) n Q ⟨tm, H, nx, df⟩ H' nx') : CWp P (G.at (some none)) n (.rangeFunc g ps az bo) Q ⟨tm, H, nx, df⟩ := by
 obtain ⟨f, first, captured, rfl, hv⟩ := hit
 refine yH hg fun LO hL => ?_
 obtain ⟨I, hs, hr, h0, he⟩ := h LO hL
 exact aq.mono (hv (nx + 1) I hs hr _ _ (Nat.lt_succ_self _) h0) (fun _ H' nx' hh => he H' nx' hh) (fun _ _ _ hh => hh.elim)


end Go.V
end
section
namespace Go.V
open Go Go.Proofs
set_option maxRecDepth 4000
set_option maxHeartbeats 4000000
end Go.V
end
section
namespace Go.V
open Go Go.Proofs

theorem wg {tk : List Int → Int} {R : List Int} : ∀ (L : List (List Int)) (a : Option (List Int)), bestP tk L a = some R → (a = some R ∧ ∀ p ∈ L, tk R ≤ tk p) ∨ (∃ L1 L2, L = L1 ++ R :: L2 ∧ (∀ p ∈ L1, tk R < tk p) ∧ (∀ p ∈ L2, tk R ≤ tk p) ∧ ∀ r, a = some r → tk R < tk r)
 | [], a, h => .inl ⟨h, fun p hp => by cases hp⟩
 | x :: L, none, h => by
  simp only [bestP] at h
  rcases wg L _ h with ⟨h1, h2⟩ | ⟨L1, L2, rfl, h1, h2, h3⟩
  ·cases h1
   exact .inr ⟨[], L, rfl, (fun p hp => by cases hp), h2, (fun r hr => by cases hr)⟩
  ·refine .inr ⟨x :: L1, L2, rfl, fun p hp => ?_, h2, fun r hr => by cases hr⟩
   rcases List.mem_cons.1 hp with rfl | hp
   ·exact h3 _ rfl
   ·exact h1 p hp
 | x :: L, some r, h => by
  simp only [bestP] at h
  by_cases hlt : tk x < tk r
  ·rw [if_pos hlt] at h
   rcases wg L _ h with ⟨h1, h2⟩ | ⟨L1, L2, rfl, h1, h2, h3⟩
   ·cases h1
    exact .inr ⟨[], L, rfl, (fun p hp => by cases hp), h2, (fun q hq => by cases hq; exact hlt)⟩
   ·have hx := h3 x rfl
    refine .inr ⟨x :: L1, L2, rfl, fun p hp => ?_, h2, fun q hq => by cases hq; omega⟩
    rcases List.mem_cons.1 hp with rfl | hp
    ·exact hx
    ·exact h1 p hp
  ·rw [if_neg hlt] at h
   rcases wg L _ h with ⟨h1, h2⟩ | ⟨L1, L2, rfl, h1, h2, h3⟩
   ·cases h1
    refine .inl ⟨rfl, fun p hp => ?_⟩
    rcases List.mem_cons.1 hp with rfl | hp
    ·omega
    ·exact h2 p hp
   ·have hr := h3 r rfl
    refine .inr ⟨x :: L1, L2, rfl, fun p hp => ?_, h2, fun q hq => by cases hq; exact hr⟩
    rcases List.mem_cons.1 hp with rfl | hp
    ·omega
    ·exact h1 p hp
theorem xY (b : GBk) : wiB b b.Apprentices = b := rfl



def mfB (b : GBk) (pl : List Int) (ch : List Int) (s : Nat) : Bool := match ch.getLast? with
 | none => BB b pl 1 s == 0
 | some a => (BB b pl 1 s == EE b pl 1 a.toNat) && (decide (a ∈ nF b s) || hF pl s == hF pl a.toNat)
structure ChOk (b : GBk) (ch : List Int) (k : Nat) : Prop where
 st : ∀ x ∈ ch, 0 ≤ x ∧ x.toNat < b.Strokes.length
 e : ch = [] → b.Strokes.length + 1 ≤ k
 l : ∀ a, ch.getLast? = some a → b.Strokes.length ≤ a.toNat + k
 n : ch.length ≤ 100
theorem ChOk.pos {b : GBk} {ch : List Int} {k : Nat} (h : ChOk b ch k) : 0 < k := by
 cases hl : ch.getLast? with
 | none => have := h.e (List.getLast?_eq_none_iff.1 hl); omega
 | some a =>
  have h1 := h.l a hl
  have h2 := h.st a (List.mem_of_getLast? hl)
  omega
theorem mf_lt {b : GBk} (hb : BH b) (hd : ∀ s, s < b.Strokes.length → 1 ≤ dF b 1 s) {pl ch : List Int} {a : Int} (ha : ch.getLast? = some a) (h0 : 0 ≤ a) (h1 : a.toNat < b.Strokes.length) {s : Nat} (hs : s < b.Strokes.length) (h : mfB b pl ch s = true) : a.toNat < s := by
 unfold mfB at h
 rw [ha] at h
 simp only [Bool.and_eq_true, beq_iff_eq, Bool.or_eq_true, decide_eq_true_eq] at h
 obtain ⟨hE, hw⟩ := h
 rcases hw with hw | hw
 ·exact (hb.nd s a hw).2
 ·refine Nat.lt_of_not_le fun hle => ?_
  have e1 := EE_eq hb pl 1 a.toNat
  have e2 := EE_eq hb pl 1 s
  have d1 := hd a.toNat h1
  have d2 := hd s hs
  by_cases e : s = a.toNat
  ·subst e; omega
  ·have : EE b pl 1 s ≤ BB b pl 1 a.toNat := rM hb.nd (fun k => (hb.d 1 k).1) (by omega) hw
   omega
theorem ChOk.next {b : GBk} (hb : BH b) (hd : ∀ s, s < b.Strokes.length → 1 ≤ dF b 1 s) {pl ch : List Int} {k : Nat} (h : ChOk b ch (k + 1)) (hn : ch.length ≤ 50) {s : Nat} (hs : s < b.Strokes.length) (hm : mfB b pl ch s = true) : ChOk b (ch ++ [(s : Int)]) k := by
 refine ⟨fun x hx => ?_, fun e => by simp at e, fun a ha => ?_, by simp; omega⟩
 ·rcases List.mem_append.1 hx with hx | hx
  ·exact h.st x hx
  ·rw [List.mem_singleton.1 hx]; omega
 ·rw [List.getLast?_concat] at ha
  cases ha
  cases hg : ch.getLast? with
  | none => have := h.e (List.getLast?_eq_none_iff.1 hg); simp; omega
  | some a =>
   have ha := h.st a (List.mem_of_getLast? hg)
   have h1 := h.l a hg
   have h2 := mf_lt hb hd hg ha.1 ha.2 hs hm
   simp; omega
end Go.V
end
section
namespace Go.V
open Go Go.Proofs
def mkOk (b : Nat) (n : Int) : Bool := decide (0 ≤ n) && aE b n.toNat
theorem yh {b : Nat} {n : Int} : mkOk b n = true ↔ 0 ≤ n ∧ n.toNat * b ≤ 140737488355328 := by
 unfold mkOk aE
 rw [Bool.and_eq_true, decide_eq_true_eq, decide_eq_true_eq]
theorem N7 {v : Value} (n : Nat) : vzeros #[v] n = List.replicate n (ofVal1 v) := by
 unfold vzeros
 rw [List.eq_replicate_iff]
 refine ⟨by simp, fun x hx => ?_⟩
 obtain ⟨i, _, rfl⟩ := List.mem_map.1 hx
 have : i % (#[v] : Array Value).size = 0 := by simp [Nat.mod_one]
 rw [this]
 rfl
theorem JR {α : Type} {enc : α → List VV} {z : α} {x : VV} (h : enc z = [x]) : ∀ n : Nat, ae enc (List.replicate n z) = List.replicate n x
 | 0 => rfl
 | n + 1 => by rw [List.replicate_succ, List.replicate_succ, fx, h, JR h n]; rfl
section
variable {P : Program} {G : Glob} {γ : Nat} {tm : Nat → VV} {H : Nat → Option VObj} {α : Type} {enc : α → List VV} {z : α} {t e b : Nat} {n : Int} {v : Value} {x y : Operand} {d : Option Tmp} {ty : TypeId} {pos : String} {af : Array Edge} {g : Option (Nat × Bool)} {k : VV → VEff → Prop}
theorem k_mkS (ha : appOk P t = some (e, 1, b)) (hz : vzero P e = some #[v]) (hzv : enc z = [ofVal1 v]) (hx : ev G tm x = .lit (.int .i64 n)) (hy : ev G tm y = .lit (.int .i64 n)) (hg : mkOk b n = true)
  (h : k (.ref γ 0 (List.replicate n.toNat z).length 1 (List.replicate n.toNat z).length) (.new (.cells (some e) (ae enc (List.replicate n.toNat z))))) : oeK (vop P ⟨d, .makeSlice t x y, ty, pos, af, g⟩ (ev G tm) H γ) k := by
 obtain ⟨hu, inf, zz, hi, hzz, hs, hb, ep, ia, hzs⟩ := mw ha
 obtain ⟨h0, h1⟩ := yh.1 hg
 have hzc : zz.cells = #[v] := by
  unfold vzero at hz
  rw [hi] at hz
  simp only [Option.bind_some, hzz, Option.map_some, Option.some.injEq] at hz
  exact hz
 have hk : vmakeSlice P t (.lit (.int .i64 n)) (.lit (.int .i64 n)) = some (List.replicate n.toNat (ofVal1 v), n.toNat, 1) := by
  have h2 : (inf.bytes : Int) * n ≤ 140737488355328 := by
   rw [hb]
   have h3 : ((n.toNat * b : Nat) : Int) ≤ ((140737488355328 : Nat) : Int) := Int.ofNat_le.2 h1
   rw [Int.natCast_mul, Int.toNat_of_nonneg h0, Int.mul_comm] at h3
   exact h3
  have hb0' : 0 < inf.bytes := by rw [hb]; exact ia
  unfold vmakeSlice
  rw [hu]
  simp only [hi, hzz]
  rw [hs, hzc, if_pos ⟨h0, Int.le_refl _, Nat.zero_lt_one, hb0', h2, rfl⟩, Nat.mul_one, N7]
 have he : elemT P t = some e := by simp [elemT, hu]
 rw [JR hzv, List.length_replicate] at h
 simp only [vop, hx, hy, hk, Option.map_some, he]
 exact h
end
end Go.V
end
section
namespace Go.V
open Go Go.Proofs
def Ghost (st st' : St) : Prop := (∀ β o', st'.H β = some o' → ∃ o, st.H β = some o ∧ FrozenO st.H st'.H o o') ∧ (∀ β, isDef st.H β → isDef st'.H β) ∧
 (∀ t, Frozen st.H st'.H (st.tm t) (st'.tm t)) ∧ st'.nx = st.nx ∧ st'.df = st.df
theorem Ghost.rep {G : Glob} {c : Ctx} {W : World} {st st' : St} {a : Act} (g : Ghost st st') (s : Sim c W) (hr : StRep G c W st a) :
  Ext c W (c.frz st'.H) W ∧ Sim (c.frz st'.H) W ∧ StRep G (c.frz st'.H) W st' a := by
 obtain ⟨ho, hdd, htm, hnx, hdf⟩ := g
 have ho' : ∀ β o', st'.H β = some o' → ∃ o, c.H β = some o ∧ FrozenO c.H st'.H o o' := by rw [hr.H]; exact ho
 have hl : ∀ β, (st'.H β).isSome = true → c.live β := by
  intro β h
  obtain ⟨o', h'⟩ := Option.isSome_iff_exists.1 h
  obtain ⟨o, h1, _⟩ := ho' β o' h'
  simp [Ctx.live, h1]
 have he : Ext c W (c.frz st'.H) W := s5 hl
 have ab : Abides c W (c.frz st'.H) W := nQ hl
 have hloop : ∀ x s pe tm ps asg bo df, st'.H x = some (.loop s pe tm ps asg bo df) → isDef st'.H df := by
  intro x s1 pe tm ps asg bo df hx
  obtain ⟨o, h1, hf⟩ := ho x _ hx
  rcases hf with rfl | ⟨el, cs, cs', rfl, e, _⟩
  ·obtain ⟨l, fn, _, _, _, hd⟩ := s.obj x _ (show c.H x = _ by rw [hr.H]; exact h1)
   exact hdd df (by rw [← hr.H]; exact hd)
  ·cases e
 refine ⟨he, s.frz ho' hloop, rfl, fun t => yI s hl (by rw [hr.H]; exact htm t) (hr.tm t), ?_, ?_, hr.G.abides ab⟩
 ·rw [hnx]; exact hr.nx
 ·rw [hdf]; exact hr.df.abides ab
theorem VWp.ghost {P : Program} {G : Glob} {n : Nat} {code : Code} {Q : VExit → St → Prop} {st : St} (h : VWp P G n code (fun e s => ∃ s', Ghost s s' ∧ Q e s') st) : VWp P G n code Q st := by
 intro ro c W a hro s hr hsz
 refine wpIn_mono (h ro c W a hro s hr hsz) ?_
 rintro e a' W' ⟨ve, c', st', he, hext, hs', hr', hsz', hu, hle, s2, g, hq⟩
 obtain ⟨e2, h2, r2⟩ := g.rep hs' hr'
 refine ⟨ve, c'.frz s2.H, s2, ?_, hext.trans e2, h2, r2, hsz', fun β hb => hu β hb, by rw [g.2.2.2.1]; exact hle, hq⟩
 cases ve with
 | panic x =>
  obtain ⟨v, e1, hv⟩ := he
  exact ⟨v, e1, Rep.abides (e2.abides hs') _ hv⟩
 | normal => exact he
 | exit id => exact he
 | goto l => exact he
 | ret => exact he
theorem Ghost.refl (st : St) : Ghost st st := ⟨fun β o' h => ⟨o', h, .inl rfl⟩, fun _ h => h, fun _ => .inl rfl, rfl, rfl⟩
theorem FrozenL.snoc {H H' : Nat → Option VObj} {x y : VV} (h : Frozen H H' x y) : ∀ (cs : List VV), FrozenL H H' (cs ++ [x]) (cs ++ [y])
 | [] => ⟨h, trivial⟩
 | c :: cs => ⟨.inl rfl, FrozenL.snoc h cs⟩
theorem Ghost.snoc {tm : Nat → VV} {H : Nat → Option VObj} {nx : Nat} {df : List VDef} {γ ε n w cp : Nat} {e1 e2 : Option TypeId} {cs ys : List VV} (hγ : H γ = some (.cells e1 ys)) (hε : H ε = some (.cells e2 (cs ++ [.ref γ 0 n w cp]))) (hne : ε ≠ γ) (ht : treeL ys = true) (hl : ys.length = n * w) :
  Ghost ⟨tm, H, nx, df⟩ ⟨tm, updH (without H γ) ε (.cells e2 (cs ++ [.sl ys n false])), nx, df⟩ := by
 have hg : gone H (updH (without H γ) ε (.cells e2 (cs ++ [.sl ys n false]))) γ = some (.cells e1 ys) := by
  unfold gone
  rw [aF, if_neg (Ne.symm hne)]
  simp [without, hγ]
 have hfz : Frozen H (updH (without H γ) ε (.cells e2 (cs ++ [.sl ys n false]))) (.ref γ 0 n w cp) (.sl ys n false) := by
  refine .inr (.inr ⟨ys.length + 2, ?_⟩)
  unfold sealV
  have : (VV.ref γ 0 n w cp).tree = false := rfl
  rw [this]
  simp only [Bool.false_eq_true, if_false, hg, Nat.zero_le, if_true, List.drop_zero]
  rw [List.take_of_length_le (by omega), lx ys _ ht (by omega)]
  rfl
 refine ⟨?_, ?_, fun _ => .inl rfl, rfl, rfl⟩
 ·intro β o' h
  simp only [aF] at h
  by_cases hb : β = ε
  ·subst hb
   rw [if_pos rfl] at h
   cases h
   exact ⟨_, hε, .inr ⟨e2, _, _, rfl, rfl, FrozenL.snoc hfz cs⟩⟩
  ·rw [if_neg hb] at h
   simp only [ba] at h
   split at h
   ·cases h
   ·exact ⟨o', h, .inl rfl⟩
 ·rintro β ⟨ds, h⟩
  refine ⟨ds, ?_⟩
  have h : H β = some (.deferred ds) := h
  show updH (without H γ) ε _ β = _
  have b1 : β ≠ ε := by rintro rfl; rw [hε] at h; cases h
  have b2 : β ≠ γ := by rintro rfl; rw [hγ] at h; cases h
  rw [aF, if_neg b1, ba, if_neg b2]
  exact h
section
variable {P : Program} {H : Nat → Option VObj} {γ : Nat} {k : VV → VEff → Prop} {t t2 e e2 β δ cx : Nat} {b : Nat} {el dz : Option TypeId} {cs : List VV} {y : VV}
theorem yJ (ha : appOk P t = some (e, 1, b)) (dr : P.underlying t2 = some (.slice e2)) (hb : H β = some (.cells el cs)) (hd : H δ = some (.cells dz [y])) (hy : y.leaf = true) (hr : aE b (cs.length + 1) = true)
  (h : k (.ref γ 0 (cs.length + 1) 1 (cs.length + 1)) (.mv β (sameEl el e) (cs ++ [y]))) : oeK (aQ P H γ t t2 (.ref β 0 cs.length 1 cs.length) (.ref δ 0 1 1 cx)) k := by
 obtain ⟨hu, inf, z, hi, hz, jC, rfl, ep, ia, hzs⟩ := mw ha
 have hr' : (cs.length + 1) * inf.bytes ≤ 140737488355328 := by simpa [aE] using hr
 have key : aQ P H γ t t2 (.ref β 0 cs.length 1 cs.length) (.ref δ 0 1 1 cx) = some (.ref γ 0 (cs.length + 1) 1 (cs.length + 1), .mv β (sameEl el e) (cs ++ [y])) := by
  simp only [aQ, nilS, vappend1, hu, dr, hi, hz, srcV, sls, hd, Nat.zero_le, if_true, List.drop_zero, ep, ia, hzs, hb]
  simp [jC, hy, hr']
 rw [key]
 exact h
theorem rZ (ha : appOk P t = some (e, 1, b)) (dr : P.underlying t2 = some (.slice e2)) (hd : H δ = some (.cells dz [y])) (hy : y.leaf = true) (hr : aE b 1 = true)
  (h : k (.ref γ 0 1 1 1) (.new (.cells (some e) [y]))) : oeK (aQ P H γ t t2 (.lit (.slice none 0 0)) (.ref δ 0 1 1 cx)) k := by
 obtain ⟨hu, inf, z, hi, hz, jC, rfl, ep, ia, hzs⟩ := mw ha
 have hr' : inf.bytes ≤ 140737488355328 := by simpa [aE] using hr
 have key : aQ P H γ t t2 (.lit (.slice none 0 0)) (.ref δ 0 1 1 cx) = some (.ref γ 0 1 1 1, .new (.cells (some e) [y])) := by
  simp only [aQ, nilS, vappend1, hu, dr, hi, hz, srcV, sls, hd, Nat.zero_le, if_true, List.drop_zero, ep, ia, hzs]
  simp [jC, hy, hr']
 rw [key]
 exact h
end
theorem Ghost.snocL {tm : Nat → VV} {H : Nat → Option VObj} {nx : Nat} {df : List VDef} {γ ε cp : Nat} {e1 e2 : Option TypeId} {xs : List (List Int)} {ys : List Int} (hγ : H γ = some (.cells e1 (ae eI ys))) (hε : H ε = some (.cells e2 (ae (eSl eI) xs ++ [.ref γ 0 ys.length 1 cp]))) (hne : ε ≠ γ) :
  Ghost ⟨tm, H, nx, df⟩ ⟨tm, updH (without H γ) ε (.cells e2 (ae (eSl eI) (xs ++ [ys]))), nx, df⟩ := by
 rw [my]
 exact Ghost.snoc hγ hε hne (eI_ok.treeL _) (ez (w := 1) (enc := eI) (fun _ => rfl) _)
section
variable {P : Program} {H : Nat → Option VObj} {γ : Nat} {k : VV → VEff → Prop} {t t2 e e2 β δ cx : Nat} {b : Nat} {el dz : Option TypeId} {y : VV} {α : Type} {enc : α → List VV} {xs : List α} {a : α}
theorem rY (he : ∀ x, (enc x).length = 1) (ha : appOk P t = some (e, 1, b)) (dr : P.underlying t2 = some (.slice e2)) (hb : H β = some (.cells el (ae enc xs))) (hd : H δ = some (.cells dz [y])) (hy : y.leaf = true) (hr : aE b (xs ++ [a]).length = true)
  (h : k (.ref γ 0 (xs ++ [a]).length 1 (xs ++ [a]).length) (.mv β (sameEl el e) (ae enc xs ++ [y]))) : oeK (aQ P H γ t t2 (.ref β 0 xs.length 1 xs.length) (.ref δ 0 1 1 cx)) k := by
 have hl : (ae enc xs).length = xs.length := by rw [ez he]; omega
 have h2 : (xs ++ [a]).length = (ae enc xs).length + 1 := by simp [hl]
 rw [← hl]
 rw [h2] at hr h
 exact yJ ha dr hb hd hy hr h
end
theorem loopKG {P : Program} {G : Glob} (hm : P.follows .mixedOrders = true) {n : Nat} {x : Code} {Q : VExit → St → Prop} {st : St} (ho : codeOk n x = true) (I : Nat → St → Prop) (m : Nat) (h0 : I m st)
  (round : ∀ m st, I m st → CWp P G n x (VExit.then (fun st' => ∃ m', m' < m ∧ ∃ s2, Ghost st' s2 ∧ I m' s2) Q) st) : CWp P G n (.loop x) Q st := by
 refine VWp.loop I h0 fun m st hI => ?_
 have h1 := iK hm x _ st ho (round m st hI)
 intro ro c W a hro s hr hsz
 refine wpIn_mono (h1 ro c W a hro s hr hsz) ?_
 rintro e a' W' ⟨ve, c', st', he, hext, hs', hr', hsz', hu, hle, hq⟩
 cases ve with
 | normal =>
  obtain ⟨m', hlt, s2, g, k7⟩ := hq
  obtain ⟨e2, h2, r2⟩ := g.rep hs' hr'
  exact ⟨.normal, c'.frz s2.H, s2, he, hext.trans e2, h2, r2, hsz', fun β hb => hu β hb, by rw [g.2.2.2.1]; exact hle, m', hlt, k7⟩
 | exit id => exact ⟨_, c', st', he, hext, hs', hr', hsz', hu, hle, hq⟩
 | goto l => exact ⟨_, c', st', he, hext, hs', hr', hsz', hu, hle, hq⟩
 | ret => exact ⟨_, c', st', he, hext, hs', hr', hsz', hu, hle, hq⟩
 | panic x => exact ⟨_, c', st', he, hext, hs', hr', hsz', hu, hle, hq⟩
end Go.V
end
section
namespace Go.V
open Go Go.Proofs
def Look (st st' : St) : Prop := st'.nx = st.nx ∧ ∀ (G : Glob) (c : Ctx) (W : World) (a : Act), Sim c W → StRep G c W st a → ∃ c', Ext c W c' W ∧ Sim c' W ∧ StRep G c' W st' a ∧ ∀ β, c'.used β → c.used β
theorem Look.trans {a b c : St} (h1 : Look a b) (h2 : Look b c) : Look a c := by
  refine ⟨h2.1.trans h1.1, fun G x W y s hr => ?_⟩
  obtain ⟨c1, e1, s1, r1, u1⟩ := h1.2 G x W y s hr
  obtain ⟨c2, e2, s2, r2, u2⟩ := h2.2 G c1 W y s1 r1
  exact ⟨c2, e1.trans e2, s2, r2, fun β hb => u1 β (u2 β hb)⟩
theorem Look.ghost {st st' : St} (g : Ghost st st') : Look st st' := by
  refine ⟨g.2.2.2.1, fun G c W a s hr => ?_⟩
  obtain ⟨e2, h2, r2⟩ := g.rep s hr
  exact ⟨c.frz st'.H, e2, h2, r2, fun β hb => hb⟩
theorem s6 {c : Ctx} {W : World} {x y : VV} {Z : List VV} (h : ∀ v, Rep c W x v → Rep c W y v) : ∀ (A : List VV) (l : List Value), RepL c W (A ++ x :: Z) l → RepL c W (A ++ y :: Z) l
  | [], _, ⟨u, us, e, h1, h2⟩ => ⟨u, us, e, h _ h1, h2⟩
  | _ :: A, _, ⟨u, us, e, h1, h2⟩ => ⟨u, us, e, h1, s6 h A us h2⟩
theorem Look.nil {tm : Nat → VV} {H : Nat → Option VObj} {nx : Nat} {df : List VDef} {β : Nat} {el : Option TypeId} {A Z : List VV} (hβ : H β = some (.cells el (A ++ .lit (.slice none 0 0) :: Z))) :
    Look ⟨tm, H, nx, df⟩ ⟨tm, updH H β (.cells el (A ++ .sl [] 0 false :: Z)), nx, df⟩ := by
  refine ⟨rfl, fun G c W a s hr => ?_⟩
  have hc : c.H β = some (.cells el (A ++ .lit (.slice none 0 0) :: Z)) := by rw [hr.H]; exact hβ
  have hl : c.live β := by simp [Ctx.live, hc]
  have he : Ext c W (c.upd β (.cells el (A ++ .sl [] 0 false :: Z))) W := Ext.upd hl (But.self W _)
  have ab := he.abides s
  have hs : Sim (c.upd β (.cells el (A ++ .sl [] 0 false :: Z))) W := by
    refine Sim.upd s hl (But.self W _) (fun ⟨ds, hd⟩ => by rw [hc] at hd; cases hd) ?_
    obtain ⟨arr, e, a1, a2, a3, a4, a5⟩ := s.obj β _ hc
    refine ⟨arr, e, a1, a2, by simpa using a3, ?_, a5⟩
    have hlen : (A ++ VV.lit (.slice none 0 0) :: Z).length = (A ++ VV.sl [] 0 false :: Z).length := by simp
    rw [hlen] at a4
    refine s6 (x := .lit (.slice none 0 0)) (fun v hv => ?_) A _ (RepL.abides ab _ a4)
    have e : v = .slice none 0 0 := hv
    subst e
    exact ⟨none, 0, rfl, Nat.le_refl _, fun h => (by cases h), .inl rfl⟩
  refine ⟨_, he, hs, ⟨?_, fun t => Rep.abides ab _ (hr.tm t), hr.nx, hr.df.abides ab, hr.G.abides ab⟩, fun β hb => hb⟩
  show updH c.H β _ = _
  rw [hr.H]
theorem FrozenL.mid {H H' : Nat → Option VObj} {x y : VV} (h : Frozen H H' x y) (Z : List VV) : ∀ (cs : List VV), FrozenL H H' (cs ++ x :: Z) (cs ++ y :: Z)
  | [] => ⟨h, FrozenL.refl Z⟩
  | c :: cs => ⟨.inl rfl, FrozenL.mid h Z cs⟩
where
  FrozenL.refl : ∀ Z : List VV, FrozenL H H' Z Z
    | [] => trivial
    | _ :: Z => ⟨.inl rfl, FrozenL.refl Z⟩
theorem Ghost.mid {tm : Nat → VV} {H : Nat → Option VObj} {nx : Nat} {df : List VDef} {γ ε n w cp : Nat} {e1 e2 : Option TypeId} {cs ys Z : List VV} (hγ : H γ = some (.cells e1 ys)) (hε : H ε = some (.cells e2 (cs ++ .ref γ 0 n w cp :: Z))) (hne : ε ≠ γ) (ht : treeL ys = true) (hl : ys.length = n * w) :
    Ghost ⟨tm, H, nx, df⟩ ⟨tm, updH (without H γ) ε (.cells e2 (cs ++ .sl ys n false :: Z)), nx, df⟩ := by
  have hg : gone H (updH (without H γ) ε (.cells e2 (cs ++ .sl ys n false :: Z))) γ = some (.cells e1 ys) := by
    unfold gone
    rw [aF, if_neg (Ne.symm hne)]
    simp [without, hγ]
  have hfz : Frozen H (updH (without H γ) ε (.cells e2 (cs ++ .sl ys n false :: Z))) (.ref γ 0 n w cp) (.sl ys n false) := by
    refine .inr (.inr ⟨ys.length + 2, ?_⟩)
    unfold sealV
    have : (VV.ref γ 0 n w cp).tree = false := rfl
    rw [this]
    simp only [Bool.false_eq_true, if_false, hg, Nat.zero_le, if_true, List.drop_zero]
    rw [List.take_of_length_le (by omega), lx ys _ ht (by omega)]
    rfl
  refine ⟨?_, ?_, fun _ => .inl rfl, rfl, rfl⟩
  · intro β o' h
    simp only [aF] at h
    by_cases hb : β = ε
    · subst hb
      rw [if_pos rfl] at h
      cases h
      exact ⟨_, hε, .inr ⟨e2, _, _, rfl, rfl, FrozenL.mid hfz Z cs⟩⟩
    · rw [if_neg hb] at h
      simp only [ba] at h
      split at h
      · cases h
      · exact ⟨o', h, .inl rfl⟩
  · rintro β ⟨ds, h⟩
    refine ⟨ds, ?_⟩
    have h : H β = some (.deferred ds) := h
    show updH (without H γ) ε _ β = _
    have b1 : β ≠ ε := by rintro rfl; rw [hε] at h; cases h
    have b2 : β ≠ γ := by rintro rfl; rw [hγ] at h; cases h
    rw [aF, if_neg b1, ba, if_neg b2]
    exact h
theorem loopKL {P : Program} {G : Glob} (hm : P.follows .mixedOrders = true) {n : Nat} {x : Code} {Q : VExit → St → Prop} {st : St} (ho : codeOk n x = true) (I : Nat → St → Prop) (m : Nat) (h0 : I m st)
    (round : ∀ m st, I m st → CWp P G n x (VExit.then (fun st' => ∃ m', m' < m ∧ ∃ s2, Look st' s2 ∧ I m' s2) Q) st) : CWp P G n (.loop x) Q st := by
  refine VWp.loop I h0 fun m st hI => ?_
  have h1 := iK hm x _ st ho (round m st hI)
  intro ro c W a hro s hr hsz
  refine wpIn_mono (h1 ro c W a hro s hr hsz) ?_
  rintro e a' W' ⟨ve, c', st', he, hext, hs', hr', hsz', hu, hle, hq⟩
  cases ve with
  | normal =>
    obtain ⟨m', hlt, s2, g, k7⟩ := hq
    obtain ⟨c2, e2, h2, r2, u2⟩ := g.2 G c' W' a' hs' hr'
    exact ⟨.normal, c2, s2, he, hext.trans e2, h2, r2, hsz', fun β hb => hu β (u2 β hb), by rw [g.1]; exact hle, m', hlt, k7⟩
  | exit id => exact ⟨_, c', st', he, hext, hs', hr', hsz', hu, hle, hq⟩
  | goto l => exact ⟨_, c', st', he, hext, hs', hr', hsz', hu, hle, hq⟩
  | ret => exact ⟨_, c', st', he, hext, hs', hr', hsz', hu, hle, hq⟩
  | panic x => exact ⟨_, c', st', he, hext, hs', hr', hsz', hu, hle, hq⟩
end Go.V
end
