/- Part of a proof. -/
import Derived.Test.YtmhlghgbfmcdaaaGreatDoorD1bi
set_option linter.all false
set_option maxRecDepth 4000
set_option maxHeartbeats 40000000
section
namespace Go.V
open Go Go.Proofs IntKind
def ru (ah : GBk) (b7 : Int) : Option (Bool) := Option.bind (ic b7 0 (i64.wrap ((List.length ah.Boards : Int) - 1))) (fun r1 => some r1)
theorem M4 (ah : GBk) (b7 : Int) (R : Bool) (h : ru ah b7 = some R) : ai Tryz.prog G0 28 [.agg (cGBk ah), .lit (.int .i64 b7)] (.tree (.lit (.bool R))) := by
 refine ai.runR mixed Tryz.call28 Tryz.func28 rfl (by simp [Tryz.ntmps28]; kernel_rfl) ?_
 obtain ⟨KF, h, kF, kN⟩ := cy h
 simp only [ru] at h
 obtain ⟨r2, o3, h⟩ := optI h kN
 try simp only [hs] at h
 simp only [vz, tyf, nm, seval]
 refine ktA (jA _ _ _ _ o3) ?_
 refine bF (fun tm => tm 10 = .lit (.bool r2) ∧ True) (by refine ⟨?_, trivial⟩ <;> first | (simp only [ua, nm, seval] <;> rfl) | rfl) ?_
 rintro tm ⟨e4, _⟩
 try simp only [vz, tyf, e4, nm, seval]
 obtain rfl := kF _ h
 exact bh Tryz.results28 rfl

theorem tC (a n b : Int) : kY a n b = some (inB a b n) := csome _ _
theorem ov (n a b : Int) : ic n a b = some (inB a b n) := csome _ _
theorem H4 (a b : Int) : ∀ (p : List Int) (c : Int), nN a b p c = goB (p.all (inB a b))
 | [], _ => rfl
 | e :: p, c => by simp only [nN, tC, Option.bind_some, H4 a b p, List.all_cons, mn]
theorem DZ {l : List Int} (hl : l.length < 9223372036854775808) (a b : Int) : mr a l b = some (l.all (inB a b)) := by
 unfold mr
 rw [gp hl, cond_true, H4, kX]
 exact csome _ _ ▸ by cases l.all (inB a b) <;> rfl
def adjB : List Int → Bool
 | a :: b :: l => decide (a < b) && adjB (b :: l)
 | _ => true
theorem H9 {ns : List Int} (hn : ns.length < 9223372036854775808) : ∀ (p : List Int) (c a : Int), 1 ≤ c → ns.drop (c - 1).toNat = a :: p → nP ns p c = goB (adjB (a :: p))
 | [], _, _, _, _ => rfl
 | e :: p, c, a, hc, hd => by
  have h1 := cO (by omega) hd
  have hb := (sT h1).2
  have h2 := cA (by omega) hd
  simp only [nP]
  rw [gu (by omega) (by omega), h1, Option.bind_some, H9 hn p (c + 1) e (by omega) (by rw [← h2]; congr 1; omega)]
  have ea : adjB (a :: e :: p) = (decide (a < e) && adjB (e :: p)) := rfl
  rw [ea, mn]
  by_cases h : e ≤ a
  ·rw [decide_eq_true h, decide_eq_false (Int.not_lt.2 h)]; rfl
  ·rw [decide_eq_false h, decide_eq_true (Int.not_le.1 h)]; rfl
theorem Ea {l : List Int} (hl : l.length < 9223372036854775808) (a b : Int) : qD a l b = some (adjB l && l.all (inB a b)) := by
 unfold qD
 have hle : leB 0 1 = true := by decide
 rw [gp hl, cond_true, hle, cond_true, DZ hl]
 cases l with
 | nil => rfl
 | cons x p =>
  have := H9 hl p 1 x (Int.le_refl _) rfl
  simp only [Int.reduceToNat, List.drop_succ_cons, List.drop_zero]
  rw [this, kX, Option.bind_some]
  cases adjB (x :: p) <;> rfl
def strokeB (nb : Nat) (n : Int) (s : GBs) : Bool := inB 0 ((nb : Int) - 1) s.Board && ((inB 1 6 s.Hours.Low && inB s.Hours.Low 6 s.Hours.High) && (s.Needs.all (inB 0 (n - 1)) && adjB s.Needs))
def strokesB (nb : Nat) : Int → List GBs → Bool
 | _, [] => true
 | c, s :: l => strokeB nb c s && strokesB nb (c + 1) l
def benchB (b : GBk) : Bool := inB 0 3 b.Apprentices && ((inB 1 3 b.Boards.length && b.Boards.all (inB 0 60)) && (inB 1 6 b.Strokes.length && strokesB b.Boards.length 0 b.Strokes))
structure Len (b : GBk) : Prop where
 bo : b.Boards.length < 9223372036854775808
 st : b.Strokes.length < 9223372036854775808
 nd : ∀ s ∈ b.Strokes, s.Needs.length < 9223372036854775808
theorem Eb (a b : Int) (x : GSpan) : qC a x b = some (inB a b x.Low && inB x.Low b x.High) := by
 unfold qC inB
 by_cases h1 : a ≤ x.Low <;> by_cases h2 : x.Low ≤ x.High <;> by_cases h3 : x.High ≤ b <;> by_cases h4 : x.Low ≤ b <;> simp [h1, h2, h3, h4] <;> omega
theorem HA {b : GBk} (hb : b.Boards.length < 9223372036854775808) : ∀ (p : List GBs) (c : Int), 0 ≤ c → c + p.length < 9223372036854775808 → (∀ s ∈ p, s.Needs.length < 9223372036854775808) → nT b p c = goB (strokesB b.Boards.length c p)
 | [], _, _, _, _ => rfl
 | s :: p, c, h0, h1, h2 => by
  simp only [List.length_cons] at h1
  have hs := h2 s (List.mem_cons_self ..)
  simp only [nT, lJ, tC, Option.bind_some, Eb]
  rw [gu (by omega) (by omega), gu (by omega) (by omega), Ea hs, HA hb p (c + 1) (by omega) (by omega) (fun s hs => h2 s (List.mem_cons_of_mem _ hs))]
  simp only [strokesB, strokeB, mn, Option.bind_some]
  cases inB 0 ((b.Boards.length : Int) - 1) s.Board <;> cases inB 1 6 s.Hours.Low <;> cases inB s.Hours.Low 6 s.Hours.High <;> cases s.Needs.all (inB 0 (c - 1)) <;> cases adjB s.Needs <;> rfl
theorem tz {b : GBk} (h : Len b) : kK b = some (benchB b) := by
 unfold kK benchB sU sW
 simp only [tC, Option.bind_some, DZ h.bo]
 rw [gp h.st, cond_true, HA h.bo b.Strokes 0 (Int.le_refl _) (by have := h.st; omega) h.nd, kX]
 cases inB 0 3 b.Apprentices <;> cases inB 1 3 (b.Boards.length : Int) <;> cases b.Boards.all (inB 0 60) <;> cases inB 1 6 (b.Strokes.length : Int) <;> cases strokesB b.Boards.length 0 b.Strokes <;> rfl
def adjF (a : Option Int) : List Int → Bool
 | [] => true
 | e :: l => (match a with | some x => decide (x < e) | none => true) && adjF (some e) l
theorem HB : ∀ (l : List Int) (a : Int), adjF (some a) l = adjB (a :: l)
 | [], _ => rfl
 | e :: l, a => by unfold adjF adjB; rw [HB l e]
theorem Ec (l : List Int) : adjF none l = adjB l := by
 cases l with
 | nil => rfl
 | cons e l => unfold adjF; rw [HB l e]; rfl
theorem HC {n : Int} (hn : -9223372036854775807 ≤ n) (BU : n < 9223372036854775808) {s : GBs} (hl : s.Needs.length < 9223372036854775808) : ∀ (p : List Int) (c : Int) (a : Option Int), 0 ≤ c → s.Needs.drop c.toNat = p → (c = 0 ∧ a = none ∨ 0 < c ∧ getI s.Needs (c - 1) = a ∧ a ≠ none) →
  m8 n s p c = goB (p.all (inB 0 (n - 1)) && adjF a p)
 | [], _, _, _, _, _ => rfl
 | e :: p, c, a, h0, hd, ha => by
  have h1 := cO h0 hd
  have hb := (sT h1).2
  simp only [m8, ov, Option.bind_some]
  rw [gu (by omega) (by omega), HC hn BU hl p (c + 1) (some e) (by omega) (cA h0 hd) (.inr ⟨by omega, by rw [show c + 1 - 1 = c by omega]; exact h1, by simp⟩)]
  simp only [List.all_cons, adjF]
  rcases ha with ⟨rfl, rfl⟩ | ⟨hc, ha, hne⟩
  ·cases inB 0 (n - 1) e <;> cases p.all (inB 0 (n - 1)) <;> cases adjF (some e) p <;> rfl
  ·rw [gu (by omega) (by omega), ha, decide_eq_true (show c > 0 from hc)]
   cases a with
   | none => exact absurd rfl hne
   | some x =>
    simp only [cond_true, Option.bind_some]
    by_cases h : e ≤ x
    ·rw [decide_eq_true h, decide_eq_false (Int.not_lt.2 h)]
     cases inB 0 (n - 1) e <;> simp [goB]
    ·rw [decide_eq_false h, decide_eq_true (Int.not_le.1 h)]
     cases inB 0 (n - 1) e <;> cases p.all (inB 0 (n - 1)) <;> cases adjF (some e) p <;> rfl
theorem Ee {b : GBk} (h : Len b) {n : Int} {s : GBs} (hs : getI b.Strokes n = some s) : qK b n = some (strokeB b.Boards.length n s) := by
 have hb := sT hs
 have hst := h.st
 have hl := h.nd s (Au hs)
 have hbo := h.bo
 unfold qK strokeB
 simp only [hs, Option.bind_some, ov]
 rw [gu (by omega) (by omega), gp hl, cond_true, HC (by omega) (by omega) hl s.Needs 0 none (Int.le_refl _) rfl (.inl ⟨rfl, rfl⟩), kX, Ec]
 cases inB 0 ((b.Boards.length : Int) - 1) s.Board <;> cases inB 1 6 s.Hours.Low <;> cases inB s.Hours.Low 6 s.Hours.High <;> cases s.Needs.all (inB 0 (n - 1)) <;> cases adjB s.Needs <;> rfl
theorem HD : ∀ (p : List Int) (c : Int), oc p c = goB (p.all (inB 0 60))
 | [], _ => rfl
 | e :: p, c => by simp only [oc, ov, Option.bind_some, HD p, List.all_cons, mn]
theorem HE {b : GBk} (h : Len b) : ∀ (p : List GBs) (c : Int), 0 ≤ c → b.Strokes.drop c.toNat = p → oa b p c = goB (strokesB b.Boards.length c p)
 | [], _, _, _ => rfl
 | s :: p, c, h0, hd => by
  simp only [oa, Ee h (cO h0 hd), Option.bind_some, HE h p (c + 1) (by omega) (cA h0 hd), strokesB, mn]
theorem tQ {b : GBk} (h : Len b) : qO b = some (benchB b) := by
 unfold qO benchB
 simp only [ov, Option.bind_some]
 rw [gp h.bo, gp h.st, HD, HE h b.Strokes 0 (Int.le_refl _) rfl, kX, kX]
 cases inB 0 3 b.Apprentices <;> cases inB 1 3 (b.Boards.length : Int) <;> cases b.Boards.all (inB 0 60) <;> cases inB 1 6 (b.Strokes.length : Int) <;> cases strokesB b.Boards.length 0 b.Strokes <;> rfl
def planL (a : Int) : List GBs → List Int → Bool
 | s :: ss, h :: hs => (inB 0 a h && (h == 0 || !s.Round)) && planL a ss hs
 | _, _ => true
def planB (b : GBk) (pl : List Int) : Bool := decide (pl.length = b.Strokes.length) && planL b.Apprentices b.Strokes pl
def mayL : List GBs → List Int → Bool
 | s :: ss, h :: hs => (h == 0 || !s.Round) && mayL ss hs
 | _, _ => true
theorem rS {a : Int} : ∀ (ss : List GBs) (hs : List Int), hs.length = ss.length → planL a ss hs = (hs.all (inB 0 a) && mayL ss hs)
 | [], [], _ => rfl
 | s :: ss, h :: hs, e => by
  simp only [planL, mayL, List.all_cons, rS ss hs (by simpa using e)]
  cases inB 0 a h <;> cases hs.all (inB 0 a) <;> cases (h == 0 || !s.Round) <;> simp
theorem Ef {b : GBk} {n h : Int} {s : GBs} (hs : getI b.Strokes n = some s) : qG b n h = some (h == 0 || !s.Round) := by
 unfold qG
 cases h == 0 <;> simp [hs]
theorem HF {b : GBk} : ∀ (p : List Int) (c : Int) (ss : List GBs), 0 ≤ c → b.Strokes.drop c.toNat = ss → p.length = ss.length → nX b p c = goB (mayL ss p)
 | [], _, [], _, _, _ => rfl
 | h :: p, c, s :: ss, h0, hd, hl => by
  simp only [nX, Ef (cO h0 hd), Option.bind_some, HF p (c + 1) ss (by omega) (cA h0 hd) (by simpa using hl), mayL, mn]
theorem t0 {b : GBk} (h : Len b) (pl : List Int) : kL b pl = some (planB b pl) := by
 have hst := h.st
 unfold kL planB
 by_cases e : pl.length = b.Strokes.length
 ·have e1 : ((pl.length : Int) != (b.Strokes.length : Int)) = false := by simp [e]
  rw [e1, cond_false, DZ (by omega), decide_eq_true e, rS _ _ e, Option.bind_some, gp (by omega), cond_true, HF pl 0 b.Strokes (Int.le_refl _) rfl e, kX]
  cases pl.all (inB 0 b.Apprentices) <;> cases mayL b.Strokes pl <;> rfl
 ·have e1 : ((pl.length : Int) != (b.Strokes.length : Int)) = true := by simp; omega
  rw [e1, cond_true, decide_eq_false e]; rfl
theorem HG {b : GBk} : ∀ (p : List Int) (c : Int) (ss : List GBs), 0 ≤ c → b.Strokes.drop c.toNat = ss → p.length = ss.length → mH b p c = goB (planL b.Apprentices ss p)
 | [], _, [], _, _, _ => rfl
 | h :: p, c, s :: ss, h0, hd, hl => by
  simp only [mH, ov, cO h0 hd, Option.bind_some, HG p (c + 1) ss (by omega) (cA h0 hd) (by simpa using hl), planL, mn]
  have e : (h != 0) = !(h == 0) := rfl
  rw [e]
  cases inB 0 b.Apprentices h <;> cases s.Round <;> cases h == 0 <;> rfl
theorem CK {b : GBk} (h : Len b) (pl : List Int) : qS b pl = some (planB b pl) := by
 have hst := h.st
 unfold qS planB
 by_cases e : pl.length = b.Strokes.length
 ·have e1 : ((pl.length : Int) != (b.Strokes.length : Int)) = false := by simp [e]
  rw [e1, cond_false, decide_eq_true e, gp (by omega), cond_true, HG pl 0 b.Strokes (Int.le_refl _) rfl e, kX]
  cases planL b.Apprentices b.Strokes pl <;> rfl
 ·have e1 : ((pl.length : Int) != (b.Strokes.length : Int)) = true := by simp; omega
  rw [e1, cond_true, decide_eq_false e]; rfl
theorem CL {b : GBk} (h : Len b) (n : Int) : ru b n = some (inB 0 ((b.Boards.length : Int) - 1) n) := by
 have := h.bo
 unfold ru
 rw [ov, Option.bind_some, gu (by omega) (by omega)]
theorem Mw {b : GBk} (h : Len b) (n : Int) : lJ b n = some (inB 0 ((b.Boards.length : Int) - 1) n) := by
 have := h.bo
 unfold lJ
 rw [tC, Option.bind_some, gu (by omega) (by omega)]
structure BOk (b : GBk) : Prop where
 ap : 0 ≤ b.Apprentices ∧ b.Apprentices ≤ 3
 nb : 1 ≤ b.Boards.length ∧ b.Boards.length ≤ 3
 bo : ∀ x ∈ b.Boards, 0 ≤ x ∧ x ≤ 60
 ns : 1 ≤ b.Strokes.length ∧ b.Strokes.length ≤ 6
 st : ∀ (i : Nat) s, b.Strokes[i]? = some s → strokeB b.Boards.length i s = true
theorem HH {nb : Nat} : ∀ (p : List GBs) (c : Int), strokesB nb c p = true ↔ ∀ (i : Nat) s, p[i]? = some s → strokeB nb (c + i) s = true
 | [], c => by simp [strokesB]
 | s :: p, c => by
  simp only [strokesB, Bool.and_eq_true, HH p]
  constructor
  ·rintro ⟨h1, h2⟩ i x hx
   cases i with
   | zero => simp at hx; subst hx; simpa using h1
   | succ i => have := h2 i x (by simpa using hx); rw [show c + (i + 1 : Nat) = c + 1 + i by omega]; exact this
  ·intro h
   refine ⟨by have := h 0 s rfl; simpa using this, fun i x hx => ?_⟩
   have := h (i + 1) x (by simpa using hx)
   rw [show c + (i + 1 : Nat) = c + 1 + i by omega] at this
   exact this
theorem n3 {b : GBk} : benchB b = true ↔ BOk b := by
 unfold benchB
 simp only [Bool.and_eq_true, sS, List.all_eq_true, HH]
 constructor
 ·rintro ⟨h1, ⟨h2, h3⟩, h4, h5⟩
  exact ⟨h1, by omega, h3, by omega, fun i s hs => by have := h5 i s hs; simpa using this⟩
 ·rintro ⟨h1, h2, h3, h4, h5⟩
  exact ⟨h1, ⟨by omega, h3⟩, by omega, fun i s hs => by have := h5 i s hs; simpa using this⟩
structure SOk (nb : Nat) (n : Int) (s : GBs) : Prop where
 bo : 0 ≤ s.Board ∧ s.Board < nb
 hr : 1 ≤ s.Hours.Low ∧ s.Hours.Low ≤ s.Hours.High ∧ s.Hours.High ≤ 6
 nd : ∀ k ∈ s.Needs, 0 ≤ k ∧ k < n
 ad : adjB s.Needs = true
theorem N1 {nb : Nat} {n : Int} {s : GBs} : strokeB nb n s = true ↔ SOk nb n s := by
 unfold strokeB
 simp only [Bool.and_eq_true, sS, List.all_eq_true]
 constructor
 ·rintro ⟨h1, ⟨h2, h3⟩, h4, h5⟩
  exact ⟨by omega, by omega, fun k hk => by have := h4 k hk; omega, h5⟩
 ·rintro ⟨h1, h2, h3, h4⟩
  exact ⟨by omega, ⟨by omega, by omega⟩, fun k hk => by have := h3 k hk; omega, h4⟩
theorem BOk.s {b : GBk} (h : BOk b) {i : Nat} {s : GBs} (hs : b.Strokes[i]? = some s) : SOk b.Boards.length i s := N1.1 (h.st i s hs)
structure POk (b : GBk) (pl : List Int) : Prop where
 len : pl.length = b.Strokes.length
 may : ∀ (i : Nat) s h, b.Strokes[i]? = some s → pl[i]? = some h → (0 ≤ h ∧ h ≤ b.Apprentices) ∧ (h = 0 ∨ s.Round = false)
theorem Eg {a : Int} : ∀ (ss : List GBs) (hs : List Int), hs.length = ss.length → (planL a ss hs = true ↔ ∀ (i : Nat) s h, ss[i]? = some s → hs[i]? = some h → (0 ≤ h ∧ h ≤ a) ∧ (h = 0 ∨ s.Round = false))
 | [], [], _ => by simp [planL]
 | s :: ss, h :: hs, e => by
  simp only [planL, Bool.and_eq_true, Eg ss hs (by simpa using e), sS, Bool.or_eq_true, beq_iff_eq, Bool.not_eq_true']
  constructor
  ·rintro ⟨h1, h2⟩ i x y hx hy
   cases i with
   | zero => simp at hx hy; subst hx hy; exact h1
   | succ i => exact h2 i x y (by simpa using hx) (by simpa using hy)
  ·intro hh
   exact ⟨hh 0 s h rfl rfl, fun i x y hx hy => hh (i + 1) x y (by simpa using hx) (by simpa using hy)⟩
theorem rj {b : GBk} {pl : List Int} : planB b pl = true ↔ POk b pl := by
 unfold planB
 simp only [Bool.and_eq_true, decide_eq_true_eq]
 constructor
 ·rintro ⟨h1, h2⟩; exact ⟨h1, (Eg _ _ h1).1 h2⟩
 ·rintro ⟨h1, h2⟩; exact ⟨h1, (Eg _ _ h1).2 h2⟩
def aN (k : GBe) : Value := .agg ⟨[.int .i64 k.stroke, .int .i64 k.hours]⟩
def cm (a b : GBe) : Bool := ((a.stroke == b.stroke) && ((a.hours == b.hours) && true))
def bM (n : Int) : VV := .lit (.int .i64 n)
theorem lz (a b : GBe) : ar Tryz.prog (Op.equal 152 (aN a) (aN b)) = some (cm a b) := by
 unfold Op.equal
 exact zL 5 152 _ _ _ (by kernel_rfl) 9995
theorem l5 (b : Bool) (k : GBe) : ar Tryz.prog (Instr.checkKey b 10000 152 (aN k)) = some () := by
 cases b <;> kernel_rfl
theorem iE (a b : GBe) (h : cm a b = true) : a = b := by
 obtain ⟨astroke, ahours⟩ := a
 obtain ⟨bstroke, bhours⟩ := b
 simp only [cm, Bool.and_true, Bool.and_eq_true, beq_iff_eq] at h
 simp only [h]
theorem rT (a : GBe) : Instr.sameBits 10000 (aN a) (aN a) = true := by
 simp [aN, Instr.sameBits]
theorem N2 : ((Tryz.prog.info? 3).bind (·.zero)).map ofVal2 = some (bM 0) := by kernel_rfl
theorem l6 (k : GBe) : VV.val? (.agg [.lit (.int .i64 k.stroke), .lit (.int .i64 k.hours)]) = some (aN k) := rfl
theorem rU {β : Nat} (l : List (GBe × Int)) (k : GBe) (H : Nat → Option VObj) (hb : H β = some (.map (encM aN bM l))) : vlookup Tryz.prog H 90 (.mp β) (.agg [.lit (.int .i64 k.stroke), .lit (.int .i64 k.hours)]) true = some (.tup [.lit (.int .i64 (mapGet cm 0 l k)), .lit (.bool (mapHas cm l k))]) :=
 Jm Tryz.underlying90 Tryz.underlying152 lz l5 N2 (l6 k) hb
theorem rV {β : Nat} (l : List (GBe × Int)) (k : GBe) (n : Int) (H : Nat → Option VObj) (hb : H β = some (.map (encM aN bM l))) : vmapUpdate Tryz.prog H 90 (.mp β) (.agg [.lit (.int .i64 k.stroke), .lit (.int .i64 k.hours)]) (.lit (.int .i64 n)) = some (.upd β (.map (encM aN bM (mapSet cm l k n)))) :=
 Ja Tryz.underlying90 Tryz.underlying152 lz l5 iE rT (l6 k) hb
theorem Eh {c : VV} {cs : List VV} : vload Tryz.prog 90 (c :: cs) = some c := by
 have h1 : aggT Tryz.prog 90 = some false := by kernel_rfl
 simp [vload, vpart, h1]
theorem Ei : szT Tryz.prog 90 = some 1 := by kernel_rfl
theorem rW : vzl Tryz.prog 90 = some [.lit (.map none)] := by kernel_rfl
def mqr := And.intro (And.intro @vL @vM) True.intro
def mqt := And.intro (And.intro @Eh @Ei) @rW
def lG (rc : GBk → (List Int) → Int → Int → (List (GBe × Int)) → Option ((Int) × List (GBe × Int))) (xb : GBk) (xp : List Int) (xs : Int) (xh : Int) (l0 : List (GBe × Int)) : Nat → Int → Option (LOut ((Int) × List (GBe × Int)) (Int))
 | 0, _ => none
 | k0 + 1, bx => cond (decide (bx ≥ 0)) (Option.bind (getI xp bx) (fun x1 => Option.bind (getI xp xs) (fun x2 => cond (x1 == x2) (Option.bind (rc xb xp bx xh l0) (fun r3 => some (.ret (r3.1, r3.2)))) (lG rc xb xp xs xh l0 k0 (i64.wrap (bx - 1)))))) (some (.go bx))
def n5 (rc : GBk → (List Int) → Int → Int → (List (GBe × Int)) → Option ((Int) × List (GBe × Int))) (xb : GBk) (xp : List Int) (xs : Int) (xh : Int) (l0 : List (GBe × Int)) : Option ((Int) × List (GBe × Int)) := lbind (lG rc xb xp xs xh l0 1000000 (i64.wrap (xs - 1))) (fun r5 => some r5) (fun c4 => some (0, l0)) (fun _ _ => none)
theorem HI (rc : GBk → (List Int) → Int → Int → (List (GBe × Int)) → Option ((Int) × List (GBe × Int))) (rc_ok : ∀ (xb : GBk) (xp : List Int) (xs : Int) (xh : Int) (l0 : List (GBe × Int)) (R : (Int) × List (GBe × Int)), rc xb xp xs xh l0 = some R → VUpd Tryz.prog G0 118 (fun β => [.agg [.lit (.int .i64 xb.Apprentices), .sl (aa eI xb.Boards) (List.length xb.Boards) false, .sl (aa cGBs xb.Strokes) (List.length xb.Strokes) false, .sl (aa eI xp) (List.length xp) false, .mp β], .lit (.int .i64 xs), .lit (.int .i64 xh)]) (encM aN bM l0) (encM aN bM R.2) (fun _ => .lit (.int .i64 R.1))) (xb : GBk) (xp : List Int) (xs : Int) (xh : Int) (l0 : List (GBe × Int)) (R : (Int) × List (GBe × Int)) (h : n5 rc xb xp xs xh l0 = some R) : VUpd Tryz.prog G0 108 (fun β => [.agg [.lit (.int .i64 xb.Apprentices), .sl (aa eI xb.Boards) (List.length xb.Boards) false, .sl (aa cGBs xb.Strokes) (List.length xb.Strokes) false, .sl (aa eI xp) (List.length xp) false, .mp β], .lit (.int .i64 xs), .lit (.int .i64 xh)]) (encM aN bM l0) (encM aN bM R.2) (fun _ => .lit (.int .i64 R.1)) := by
 intro ba nx hlt
 have aS := gb (β := ba) (nx := nx) hlt
 refine an.run mixed Tryz.call108 Tryz.func108 rfl (by simp [Tryz.ntmps108]; kernel_rfl) ?_
 obtain ⟨KF, h, kF, kN⟩ := cy h
 simp only [n5] at h
 simp only [vz, mq, mqm, vsi, tyf, mqt, aS, nm, seval]
 obtain ⟨K6, h, tl, Bi, L5, mI⟩ := fO h kN
 obtain ⟨f6, Bj, h⟩ := call2 h
 obtain ⟨I6, ln⟩ : ∃ I : Nat → St → Prop, I = (fun m st => ∃ (p6 : Nat) (ix : Int), p6 = m ∧ st.df = [] ∧ nx + 5 ≤ st.nx ∧ st.H ba = some (.map (encM aN bM l0)) ∧ st.H nx = some (.cells (some 92) ((cGBk xb) ++ [.sl (aa eI xp) (List.length xp) false] ++ [.mp ba])) ∧ st.tm 1 = .lit (.int .i64 xs) ∧ st.tm 2 = .lit (.int .i64 xh) ∧ st.tm 3 = .ptr nx 0 ∧ st.tm 7 = .lit (.int .i64 ix) ∧ K6 (f6 p6 ix)) := ⟨_, rfl⟩
 refine loopK mixed (by kernel_rfl) I6 1000000 (by rw [ln]; refine ⟨1000000, i64.wrap (xs - 1), rfl, rfl, (show nx + 5 ≤ nx + 5 by omega), ?_, ?_, ?_, ?_, ?_, ?_, h⟩ <;> first | (simp only [ua, bm, aS, nm, seval] <;> rfl) | rfl) ?_
 rintro m ⟨tm, H, mJ, df⟩ hinv
 rw [ln] at hinv
 obtain ⟨p6, ix, rfl, hdf, Bk, H7, H8, e9, aW, aY, bu, h⟩ := hinv
 simp only at hdf Bk H7 H8 e9 aW aY bu
 have ng := sb (a := nx) (m := 5) (b := mJ) (by omega)
 have nh := gb (β := ba) (nx := mJ) (by omega)
 subst hdf Bj
 cases p6 with
 | zero =>
  simp only [lG, hs, reduceCtorEq] at h
  exact absurd h mI
 | succ p6 =>
  simp only [lG, hs, reduceCtorEq] at h
  cases ib : (decide (ix ≥ 0))
  ·simp only [ib, hs] at h
   replace h := Bi _ h
   try dsimp only at h
   try simp only [hs] at h
   try simp only [vz, mq, mqm, vsi, tyf, mqt, aS, ng, nh, e9, aW, aY, bu, H7, H8, ib, nm, seval]
   refine bT (x := (.lit (.int .i64 0))) (by first | (simp only [Tryz.results108, resV, resL, resV1, bU, bV, uw, cr, tyf, mqt, aS, ng, nh, H7, H8, ib, nm, seval] <;> rfl) | rfl) ?_
   obtain rfl := kF _ h
   refine ⟨(by first | rfl | assumption | (simp only [bc, bf, aS, ng, nh, H7, H8, nm, seval] <;> rfl)), ?_⟩
   exact sq_of (gn (by simp only [tre, aO, mqr, Bool.and_self]) rfl)
  simp only [ib, hs] at h
  simp only [vz, mq, mqm, vsi, tyf, mqt, aS, ng, nh, e9, aW, aY, bu, H7, H8, ib, nm, seval]
  refine nI (fun tm => tm 1 = .lit (.int .i64 xs) ∧ tm 2 = .lit (.int .i64 xh) ∧ tm 3 = .ptr nx 0 ∧ tm 7 = .lit (.int .i64 ix) ∧ True) (by refine ⟨e9, aW, aY, bu, trivial⟩ <;> first | (simp only [ua, bm, aS, ng, nh, e9, aW, aY, bu, H7, H8, ib, nm, seval] <;> rfl) | rfl) ?_
  rintro tm ⟨bI, b2, bl, bG, _⟩
  obtain ⟨N3, lq, h⟩ := optI h mI
  try simp only [hs] at h
  obtain ⟨N4, gN, h⟩ := optI h mI
  try simp only [hs] at h
  cases iW : (N3 == N4)
  ·simp only [iW, hs] at h
   have Ej := And.intro aS (And.intro ng (And.intro nh (And.intro H7 (And.intro H8 (And.intro ib iW)))))
   simp only [vz, mq, mqm, vsi, tyf, mqt, Ej, bI, b2, bl, bG, (aE lq), (aE gN), nm, seval]
   exact ⟨p6, Nat.lt_succ_self _, by rw [ln]; refine ⟨p6, i64.wrap (ix - 1), rfl, rfl, (show nx + 5 ≤ mJ + 16 by omega), ?_, ?_, bI, b2, bl, ?_, (by first | exact h | (simp only [Ej]; exact h))⟩ <;> first | (simp only [ua, bm, Ej, bI, b2, bl, bG, nm, seval] <;> rfl) | rfl⟩
  simp only [iW, hs] at h
  have ow := And.intro aS (And.intro ng (And.intro nh (And.intro H7 (And.intro H8 (And.intro ib iW)))))
  obtain ⟨Ek, N5, h⟩ := optI h mI
  try simp only [hs] at h
  simp only [vz, mq, mqm, vsi, tyf, mqt, ow, bI, b2, bl, bG, (aE lq), (aE gN), nm, seval]
  refine kupd (VUpd.at (β := ba) (y := (fun _ => .lit (.int .i64 Ek.1))) (rc_ok _ _ _ _ _ _ N5) (by omega) (by first | rfl | assumption | (simp only [bc, bf, ow, nm, seval] <;> rfl)) (by first | rfl | (simp only [nrm, aB, @bP, @dA] <;> rfl)) (dQ (fun _ => rfl) _)) ?_
  refine ec (fun tm => tm 28 = .lit (.int .i64 Ek.1) ∧ True) (by refine ⟨?_, trivial⟩ <;> first | (simp only [ua, bm, ow, bI, b2, bl, bG, nm, seval] <;> rfl) | rfl) ?_
  rintro tm ⟨bX, _⟩
  try simp only [vz, mq, mqm, vsi, tyf, mqt, ow, (aE lq), (aE gN), bX, nm, seval]
  refine bT (x := (.lit (.int .i64 Ek.1))) (by first | (simp only [Tryz.results108, resV, resL, resV1, bU, bV, uw, cr, tyf, mqt, ow, (aE lq), (aE gN), nm, seval] <;> rfl) | rfl) ?_
  replace h := tl _ h
  try dsimp only at h
  obtain rfl := kF _ h
  refine ⟨(by first | rfl | assumption | (simp only [bc, bf, ow, nm, seval] <;> rfl)), ?_⟩
  exact sq_of (gn (by simp only [tre, aO, mqr, Bool.and_self]) rfl)
def n4  : List Int → Int → Int → Option (LOut (Int) (Int))
 | [], rX, eA => some (.go eA)
 | e0 :: p0, rX, eA => n4 p0 (rX + 1) (if eA < e0 then e0 else eA)
def kJ (aZ : List Int) : Option (Int) := cond (aI aZ) (lbind (n4 aZ 0 0) (fun r2 => some r2) (fun c1 => some c1) (fun _ _ => none)) none
theorem tD (aZ : List Int) (R : Int) (h : kJ aZ = some R) : ai Tryz.prog G0 105 [.sl (aa eI aZ) (List.length aZ) false] (.tree (.lit (.int .i64 R))) := by
 refine ai.runR mixed Tryz.call105 Tryz.func105 rfl (by simp [Tryz.ntmps105]; kernel_rfl) ?_
 obtain ⟨KF, h, kF, kN⟩ := cy h
 simp only [kJ] at h
 cases g4 : (aI aZ)
 ·simp only [g4, hs] at h
  exact absurd h kN
 simp only [g4, hs] at h
 simp only [vz, tyf, g4, nm, seval]
 obtain ⟨K3, h, Gp, ta, Ld, Le⟩ := fO h kN
 obtain ⟨f3, AM, h⟩ := call3 h
 obtain ⟨I3, m6⟩ : ∃ I : Nat → St → Prop, I = (fun m st => ∃ (p3 : List Int) (ga : Int) (c9 : Int), m = List.length p3 ∧ 0 ≤ ga ∧ List.drop (Int.toNat ga) aZ = p3 ∧ st.df = [] ∧ 5 ≤ st.nx ∧ st.tm 6 = .sl (aa eI aZ) (List.length aZ) false ∧ st.tm 7 = .lit (.int .i64 (List.length aZ : Int)) ∧ st.tm 3 = .lit (.int .i64 c9) ∧ st.tm 8 = .lit (.int .i64 ga) ∧ K3 (f3 p3 ga c9)) := ⟨_, rfl⟩
 refine loopK mixed (by kernel_rfl) I3 (List.length aZ) (by rw [m6]; refine ⟨aZ, 0, 0, rfl, Int.le_refl _, rfl, rfl, (show 5 ≤ 5 by omega), ?_, ?_, ?_, ?_, h⟩ <;> first | (simp only [ua, nm, seval] <;> rfl) | rfl) ?_
 rintro m ⟨tm, H, qJ, df⟩ hinv
 rw [m6] at hinv
 obtain ⟨p3, ga, c9, rfl, ia, je, hdf, AN, e5, e6, e7, e8, h⟩ := hinv
 simp only at hdf AN e5 e6 e7 e8
 have n9 := gM (m := 5) (b := qJ) (by omega)
 subst hdf AM
 cases p3 with
 | nil =>
  have lg : (decide (ga < (List.length aZ : Int))) = false := eM ia je
  simp only [n4, hs, reduceCtorEq] at h
  replace h := ta _ h
  try dsimp only at h
  try simp only [hs] at h
  try simp only [vz, tyf, g4, n9, e5, e6, e7, e8, lg, nm, seval]
  refine bT (x := (.lit (.int .i64 c9))) (by first | (simp only [Tryz.results105, resV, resL, resV1, bU, bV, uw, cr, tyf, g4, n9, lg, nm, seval] <;> rfl) | rfl) ?_
  obtain rfl := kF _ h
  refine fh ?_ ?_
  ·simp only [tre, aO, Bool.and_self]
  ·first | (simp only [outV, uw, fv, cr, tyf, nrm, aB, g4, n9, e5, e6, e7, e8, lg, nm, seval] <;> rfl) | rfl
 | cons e3 p3 =>
  have fA : (decide (ga < (List.length aZ : Int))) = true := eO ia je
  have nY := cO ia je
  have m7 := eP ia je g4
  simp only [n4, hs, reduceCtorEq] at h
  simp only [vz, tyf, g4, n9, e5, e6, e7, e8, fA, (aE nY), m7, nm, seval]
  exact ⟨List.length p3, Nat.lt_succ_self _, by rw [m6]; refine ⟨p3, ga + 1, (if c9 < e3 then e3 else c9), rfl, Int.le_trans ia (Int.le_add_one (Int.le_refl _)), cA ia je, rfl, (show 5 ≤ qJ + 10 by omega), e5, e6, ?_, ?_, (by first | exact h | (simp only [fA]; exact h))⟩ <;> first | (simp only [ua, n9, e5, e6, e7, e8, fA, m7, nm, seval] <;> rfl) | rfl⟩
def jO (rc : GBk → (List Int) → Int → Int → (List (GBe × Int)) → Option ((Int) × List (GBe × Int))) (xb : GBk) (xp : List Int) (xh : Int) : List Int → Int → (List Int) → (List (GBe × Int)) → Option (LOut ((List Int) × List (GBe × Int)) ((List Int) × (List (GBe × Int))))
 | [], d6, bx, bH => some (.go (bx, bH))
 | e0 :: p0, d6, bx, bH => Option.bind (rc xb xp e0 xh bH) (fun r2 => cond (roomOk 8 (List.length (bx ++ [r2.1]))) (jO rc xb xp xh p0 (d6 + 1) (bx ++ [r2.1]) r2.2) none)
def n6 (rc : GBk → (List Int) → Int → Int → (List (GBe × Int)) → Option ((Int) × List (GBe × Int))) (xb : GBk) (xp : List Int) (xss : List Int) (xh : Int) (l0 : List (GBe × Int)) : Option ((List Int) × List (GBe × Int)) := cond (aI xss) (lbind (jO rc xb xp xh xss 0 ([] : List Int) l0) (fun r4 => some r4) (fun c3 => some (c3.1, c3.2)) (fun _ _ => none)) none
theorem HJ (rc : GBk → (List Int) → Int → Int → (List (GBe × Int)) → Option ((Int) × List (GBe × Int))) (rc_ok : ∀ (xb : GBk) (xp : List Int) (xs : Int) (xh : Int) (l0 : List (GBe × Int)) (R : (Int) × List (GBe × Int)), rc xb xp xs xh l0 = some R → VUpd Tryz.prog G0 118 (fun β => [.agg [.lit (.int .i64 xb.Apprentices), .sl (aa eI xb.Boards) (List.length xb.Boards) false, .sl (aa cGBs xb.Strokes) (List.length xb.Strokes) false, .sl (aa eI xp) (List.length xp) false, .mp β], .lit (.int .i64 xs), .lit (.int .i64 xh)]) (encM aN bM l0) (encM aN bM R.2) (fun _ => .lit (.int .i64 R.1))) (xb : GBk) (xp : List Int) (xss : List Int) (xh : Int) (l0 : List (GBe × Int)) (R : (List Int) × List (GBe × Int)) (h : n6 rc xb xp xss xh l0 = some R) : VUpd Tryz.prog G0 106 (fun β => [.agg [.lit (.int .i64 xb.Apprentices), .sl (aa eI xb.Boards) (List.length xb.Boards) false, .sl (aa cGBs xb.Strokes) (List.length xb.Strokes) false, .sl (aa eI xp) (List.length xp) false, .mp β], .sl (aa eI xss) (List.length xss) false, .lit (.int .i64 xh)]) (encM aN bM l0) (encM aN bM R.2) (fun _ => .sl (aa eI R.1) (List.length R.1) false) := by
 intro ba nx hlt
 have aS := gb (β := ba) (nx := nx) hlt
 refine an.run mixed Tryz.call106 Tryz.func106 rfl (by simp [Tryz.ntmps106]; kernel_rfl) ?_
 obtain ⟨KF, h, kF, kN⟩ := cy h
 simp only [n6] at h
 cases g6 : (aI xss)
 ·simp only [g6, hs] at h
  exact absurd h kN
 simp only [g6, hs] at h
 simp only [vz, mq, mqm, vsi, tyf, mqt, aS, g6, nm, seval]
 obtain ⟨K5, h, Gl, sV, KO, nQ⟩ := fO h kN
 obtain ⟨f5, AA, h⟩ := call4 h
 obtain ⟨I5, la⟩ : ∃ I : Nat → St → Prop, I = (fun m st => ∃ (p5 : List Int) (bS : Int) (bD : List Int) (jy : List (GBe × Int)) (kD : VV), m = List.length p5 ∧ 0 ≤ bS ∧ List.drop (Int.toNat bS) xss = p5 ∧ st.df = [] ∧ nx + 6 ≤ st.nx ∧ st.H ba = some (.map (encM aN bM jy)) ∧ st.H nx = some (.cells (some 92) ((cGBk xb) ++ [.sl (aa eI xp) (List.length xp) false] ++ [.mp ba])) ∧ st.tm 2 = .lit (.int .i64 xh) ∧ st.tm 3 = .ptr nx 0 ∧ st.tm 10 = .sl (aa eI xss) (List.length xss) false ∧ st.tm 11 = .lit (.int .i64 (List.length xss : Int)) ∧ st.tm 7 = kD ∧ st.tm 12 = .lit (.int .i64 bS) ∧ ((∃ (β : Nat) (el : Option TypeId), kD = .ref β 0 (List.length bD) 1 (List.length bD) ∧ β < st.nx ∧ β ≠ ba ∧ β ≠ nx ∧ st.H β = some (.cells el (aa eI bD))) ∨ (kD = .lit (.slice none 0 0) ∧ bD = [])) ∧ K5 (f5 p5 bS bD jy)) := ⟨_, rfl⟩
 refine loopK mixed (by kernel_rfl) I5 (List.length xss) (by rw [la]; refine ⟨xss, 0, ([] : List Int), l0, .lit (.slice none 0 0), rfl, Int.le_refl _, rfl, rfl, (show nx + 6 ≤ nx + 6 by omega), ?_, ?_, ?_, ?_, ?_, ?_, ?_, ?_, Or.inr ⟨rfl, rfl⟩, h⟩ <;> first | (simp only [ua, bm, aS, nm, seval] <;> rfl) | rfl) ?_
 rintro m ⟨tm, H, iX, df⟩ hinv
 rw [la] at hinv
 obtain ⟨p5, bS, bD, jy, kD, rfl, f9, gh, hdf, AB, H7, H8, e9, aW, aY, bu, br, bL, l7, h⟩ := hinv
 simp only at hdf AB H7 H8 e9 aW aY bu br bL l7
 have gm := sb (a := nx) (m := 6) (b := iX) (by omega)
 have c8 := gb (β := ba) (nx := iX) (by omega)
 subst hdf AA
 rcases l7 with ⟨rY, l8, rfl, El, lC, lD, kE⟩ | ⟨rfl, rfl⟩
 ·have kG := gb El
  have ff := ne_f lC
  have fg := ne_f lD
  cases p5 with
  | nil =>
   have da : (decide (bS < (List.length xss : Int))) = false := eM f9 gh
   simp only [jO, hs, reduceCtorEq] at h
   replace h := sV _ h
   try dsimp only at h
   try simp only [hs] at h
   try simp only [vz, mq, mqm, vsi, tyf, mqt, aS, g6, gm, c8, e9, aW, aY, bu, br, bL, H7, H8, kG, kE, ff, fg, da, nm, seval]
   refine bT (x := (.ref rY 0 (List.length bD) 1 (List.length bD))) (by first | (simp only [Tryz.results106, resV, resL, resV1, bU, bV, uw, cr, tyf, mqt, aS, g6, gm, c8, H7, H8, kG, kE, ff, fg, da, nm, seval] <;> rfl) | rfl) ?_
   obtain rfl := kF _ h
   refine ⟨(by first | rfl | assumption | (simp only [bc, bf, aS, gm, c8, H7, H8, kG, kE, ff, fg, nm, seval] <;> rfl)), ?_⟩
   exact vZ (by first | rfl | assumption | (simp only [bc, bf, aS, gm, c8, H7, H8, kG, kE, ff, fg, nm, seval] <;> rfl)) (by first | rfl | assumption | (simp only [bc, bf, aS, gm, c8, H7, H8, kG, kE, ff, fg, nm, seval] <;> rfl)) eI_ok (fun _ => rfl)
  | cons e5 p5 =>
   have m3 : (decide (bS < (List.length xss : Int))) = true := eO f9 gh
   have kf := cO f9 gh
   have m4 := eP f9 gh g6
   simp only [jO, hs, reduceCtorEq] at h
   obtain ⟨fX, m5, h⟩ := optI h nQ
   try simp only [hs] at h
   simp only [vz, mq, mqm, vsi, tyf, mqt, aS, g6, gm, c8, e9, aW, aY, bu, br, bL, H7, H8, kG, kE, ff, fg, m3, (aE kf), m4, nm, seval]
   refine kupd (VUpd.at (β := ba) (y := (fun _ => .lit (.int .i64 fX.1))) (rc_ok _ _ _ _ _ _ m5) (by omega) (by first | rfl | assumption | (simp only [bc, bf, aS, gm, c8, H7, H8, kG, kE, ff, fg, nm, seval] <;> rfl)) (by first | rfl | (simp only [nrm, aB, @bP, @dA] <;> rfl)) (dQ (fun _ => rfl) _)) ?_
   refine ec (fun tm => tm 2 = .lit (.int .i64 xh) ∧ tm 3 = .ptr nx 0 ∧ tm 10 = .sl (aa eI xss) (List.length xss) false ∧ tm 11 = .lit (.int .i64 (List.length xss : Int)) ∧ tm 12 = .lit (.int .i64 bS) ∧ tm 16 = .ref rY 0 (List.length bD) 1 (List.length bD) ∧ tm 20 = .lit (.int .i64 fX.1) ∧ True) (by refine ⟨e9, aW, aY, bu, bL, ?_, ?_, trivial⟩ <;> first | (simp only [ua, bm, aS, gm, c8, e9, aW, aY, bu, br, bL, H7, H8, kG, kE, ff, fg, m3, m4, nm, seval] <;> rfl) | rfl) ?_
   rintro tm ⟨aX, ck, bX, db, dc, kd, gv, _⟩
   have dR := And.intro aS (And.intro g6 (And.intro gm (And.intro c8 (And.intro H7 (And.intro H8 (And.intro kG (And.intro kE (And.intro ff (And.intro fg (And.intro m3 m4))))))))))
   cases ed : (roomOk 8 (List.length (bD ++ [fX.1])))
   ·simp only [ed, hs] at h
    exact absurd h nQ
   simp only [ed, hs] at h
   simp only [vz, mq, mqm, vsi, tyf, mqt, dR, (aE kf), aX, ck, bX, db, dc, kd, gv, ed, nm, seval]
   refine k_app (w := 1) (enc := eI) (xs := bD) (ys := ([fX.1])) (el := l8) (i0 := (some 3)) (fun _ => rfl) gY gZ Tryz.underlying22 (by first | rfl | assumption | (simp only [bc, bf, cl, dR, nm, seval] <;> rfl) | (simp only [bc, bf, eJ, eN, dY, dZ, tyf, mqt, dR, (aE kf), aX, ck, bX, db, dc, kd, gv, ed, nm, seval]; done)) (by first | rfl | assumption | (simp only [bc, bf, cl, dR, nm, seval] <;> rfl) | (simp only [bc, bf, eJ, eN, dY, dZ, tyf, mqt, dR, (aE kf), aX, ck, bX, db, dc, kd, gv, ed, nm, seval]; done)) (Nat.zero_lt_succ _) ed ?_
   simp only [vz, mq, mqm, vsi, tyf, mqt, dR, (aE kf), aX, ck, bX, db, dc, kd, gv, ed, nm, seval]
   exact ⟨List.length p5, Nat.lt_succ_self _, by rw [la]; refine ⟨p5, bS + 1, (bD ++ [fX.1]), fX.2, .ref (iX + 10) 0 (List.length (bD ++ [fX.1])) 1 (List.length (bD ++ [fX.1])), rfl, Int.le_trans f9 (Int.le_add_one (Int.le_refl _)), cA f9 gh, rfl, (show nx + 6 ≤ iX + 14 by omega), ?_, ?_, aX, ck, bX, db, ?_, ?_, Or.inl ⟨iX + 10, (sameEl l8 3), rfl, (by first | omega | (simp only [nm, seval]; done) | (simp only [nm, seval]; omega)), (by first | omega | (intro hh; simp only [dR, reduceCtorEq] at hh)), (by first | omega | (intro hh; simp only [dR, reduceCtorEq] at hh)), ?_⟩, (by first | exact h | (simp only [dR]; exact h))⟩ <;> first | (simp only [ua, bm, dR, aX, ck, bX, db, dc, kd, gv, nm, seval] <;> rfl) | rfl⟩
 ·cases p5 with
  | nil =>
   have nn : (decide (bS < (List.length xss : Int))) = false := eM f9 gh
   simp only [jO, hs, reduceCtorEq] at h
   replace h := sV _ h
   try dsimp only at h
   try simp only [hs] at h
   try simp only [vz, mq, mqm, vsi, tyf, mqt, aS, g6, gm, c8, e9, aW, aY, bu, br, bL, H7, H8, nn, nm, seval]
   refine bT (x := (.lit (.slice none 0 0))) (by first | (simp only [Tryz.results106, resV, resL, resV1, bU, bV, uw, cr, tyf, mqt, aS, g6, gm, c8, H7, H8, nn, nm, seval] <;> rfl) | rfl) ?_
   obtain rfl := kF _ h
   refine ⟨(by first | rfl | assumption | (simp only [bc, bf, aS, gm, c8, H7, H8, nm, seval] <;> rfl)), ?_⟩
   exact sq_of vX
  | cons e5 p5 =>
   have Em : (decide (bS < (List.length xss : Int))) = true := eO f9 gh
   have tE := cO f9 gh
   have Eo := eP f9 gh g6
   simp only [jO, hs, reduceCtorEq] at h
   obtain ⟨l9, lh, h⟩ := optI h nQ
   try simp only [hs] at h
   simp only [vz, mq, mqm, vsi, tyf, mqt, aS, g6, gm, c8, e9, aW, aY, bu, br, bL, H7, H8, Em, (aE tE), Eo, nm, seval]
   refine kupd (VUpd.at (β := ba) (y := (fun _ => .lit (.int .i64 l9.1))) (rc_ok _ _ _ _ _ _ lh) (by omega) (by first | rfl | assumption | (simp only [bc, bf, aS, gm, c8, H7, H8, nm, seval] <;> rfl)) (by first | rfl | (simp only [nrm, aB, @bP, @dA] <;> rfl)) (dQ (fun _ => rfl) _)) ?_
   refine ec (fun tm => tm 2 = .lit (.int .i64 xh) ∧ tm 3 = .ptr nx 0 ∧ tm 10 = .sl (aa eI xss) (List.length xss) false ∧ tm 11 = .lit (.int .i64 (List.length xss : Int)) ∧ tm 12 = .lit (.int .i64 bS) ∧ tm 16 = .lit (.slice none 0 0) ∧ tm 20 = .lit (.int .i64 l9.1) ∧ True) (by refine ⟨e9, aW, aY, bu, bL, ?_, ?_, trivial⟩ <;> first | (simp only [ua, bm, aS, gm, c8, e9, aW, aY, bu, br, bL, H7, H8, Em, Eo, nm, seval] <;> rfl) | rfl) ?_
   rintro tm ⟨cD, cE, ez, fC, gT, fD, dH, _⟩
   have lA := And.intro aS (And.intro g6 (And.intro gm (And.intro c8 (And.intro H7 (And.intro H8 (And.intro Em Eo))))))
   cases oy : (roomOk 8 (List.length (([] : List Int) ++ [l9.1])))
   ·simp only [oy, hs] at h
    exact absurd h nQ
   simp only [oy, hs] at h
   simp only [vz, mq, mqm, vsi, tyf, mqt, lA, (aE tE), cD, cE, ez, fC, gT, fD, dH, oy, nm, seval]
   refine o0 (w := 1) (enc := eI) (ys := ([l9.1])) (i0 := (some 3)) (fun _ => rfl) gY gZ Tryz.underlying22 (by first | rfl | assumption | (simp only [bc, bf, cl, lA, nm, seval] <;> rfl) | (simp only [bc, bf, eJ, eN, dY, dZ, tyf, mqt, lA, (aE tE), cD, cE, ez, fC, gT, fD, dH, oy, nm, seval]; done)) (Nat.zero_lt_succ _) oy ?_
   simp only [vz, mq, mqm, vsi, tyf, mqt, lA, (aE tE), cD, cE, ez, fC, gT, fD, dH, oy, nm, seval]
   exact ⟨List.length p5, Nat.lt_succ_self _, by rw [la]; refine ⟨p5, bS + 1, (([] : List Int) ++ [l9.1]), l9.2, .ref (iX + 10) 0 (List.length (([] : List Int) ++ [l9.1])) 1 (List.length (([] : List Int) ++ [l9.1])), rfl, Int.le_trans f9 (Int.le_add_one (Int.le_refl _)), cA f9 gh, rfl, (show nx + 6 ≤ iX + 14 by omega), ?_, ?_, cD, cE, ez, fC, ?_, ?_, Or.inl ⟨iX + 10, (some 3), rfl, (by first | omega | (simp only [nm, seval]; done) | (simp only [nm, seval]; omega)), (by first | omega | (intro hh; simp only [lA, reduceCtorEq] at hh)), (by first | omega | (intro hh; simp only [lA, reduceCtorEq] at hh)), ?_⟩, (by first | exact h | (simp only [lA]; exact h))⟩ <;> first | (simp only [ua, bm, lA, cD, cE, ez, fC, gT, fD, dH, nm, seval] <;> rfl) | rfl⟩
def n7 (rc : GBk → (List Int) → Int → Int → (List (GBe × Int)) → Option ((Int) × List (GBe × Int))) (xb : GBk) (xp : List Int) (xs : Int) (xh : Int) (l0 : List (GBe × Int)) : Option ((Int) × List (GBe × Int)) := Option.bind (n5 rc xb xp xs xh l0) (fun r1 => Option.bind (getI xb.Strokes xs) (fun x2 => Option.bind (n6 rc xb xp x2.Needs xh r1.2) (fun r3 => Option.bind (kJ r3.1) (fun r4 => Option.bind (kJ ([r1.1, r4])) (fun r5 => some (r5, r3.2))))))
theorem Ep (rc : GBk → (List Int) → Int → Int → (List (GBe × Int)) → Option ((Int) × List (GBe × Int))) (rc_ok : ∀ (xb : GBk) (xp : List Int) (xs : Int) (xh : Int) (l0 : List (GBe × Int)) (R : (Int) × List (GBe × Int)), rc xb xp xs xh l0 = some R → VUpd Tryz.prog G0 118 (fun β => [.agg [.lit (.int .i64 xb.Apprentices), .sl (aa eI xb.Boards) (List.length xb.Boards) false, .sl (aa cGBs xb.Strokes) (List.length xb.Strokes) false, .sl (aa eI xp) (List.length xp) false, .mp β], .lit (.int .i64 xs), .lit (.int .i64 xh)]) (encM aN bM l0) (encM aN bM R.2) (fun _ => .lit (.int .i64 R.1))) (xb : GBk) (xp : List Int) (xs : Int) (xh : Int) (l0 : List (GBe × Int)) (R : (Int) × List (GBe × Int)) (h : n7 rc xb xp xs xh l0 = some R) : VUpd Tryz.prog G0 107 (fun β => [.agg [.lit (.int .i64 xb.Apprentices), .sl (aa eI xb.Boards) (List.length xb.Boards) false, .sl (aa cGBs xb.Strokes) (List.length xb.Strokes) false, .sl (aa eI xp) (List.length xp) false, .mp β], .lit (.int .i64 xs), .lit (.int .i64 xh)]) (encM aN bM l0) (encM aN bM R.2) (fun _ => .lit (.int .i64 R.1)) := by
 intro ba nx hlt
 have aS := gb (β := ba) (nx := nx) hlt
 refine an.run mixed Tryz.call107 Tryz.func107 rfl (by simp [Tryz.ntmps107]; kernel_rfl) ?_
 obtain ⟨KF, h, kF, kN⟩ := cy h
 simp only [n7] at h
 simp only [vz, mq, mqm, vsi, tyf, mqt, aS, nm, seval]
 refine nt (fun tm => tm 1 = .lit (.int .i64 xs) ∧ tm 2 = .lit (.int .i64 xh) ∧ tm 3 = .ptr nx 0 ∧ True) (by refine ⟨?_, ?_, ?_, trivial⟩ <;> first | (simp only [ua, bm, aS, nm, seval] <;> rfl) | rfl) ?_
 rintro tm ⟨e6, e7, e8, _⟩
 obtain ⟨r9, fM, h⟩ := optI h kN
 try simp only [hs] at h
 simp only [vz, mq, mqm, vsi, tyf, mqt, aS, e6, e7, e8, nm, seval]
 refine dkupd (VUpd.at (β := ba) (y := (fun _ => .lit (.int .i64 r9.1))) (HI rc rc_ok _ _ _ _ _ _ fM) (by omega) (by first | rfl | assumption | (simp only [bc, bf, aS, nm, seval] <;> rfl)) (by first | rfl | (simp only [nrm, aB, @bP, @dA] <;> rfl)) (dQ (fun _ => rfl) _)) ?_
 refine ec (fun tm => tm 1 = .lit (.int .i64 xs) ∧ tm 2 = .lit (.int .i64 xh) ∧ tm 3 = .ptr nx 0 ∧ tm 10 = .lit (.int .i64 r9.1) ∧ True) (by refine ⟨e6, e7, e8, ?_, trivial⟩ <;> first | (simp only [ua, bm, aS, e6, e7, e8, nm, seval] <;> rfl) | rfl) ?_
 rintro tm ⟨aY, bu, br, bL, _⟩
 obtain ⟨NO, fW, h⟩ := optI h kN
 try simp only [hs] at h
 obtain ⟨kh, AP, h⟩ := optI h kN
 try simp only [hs] at h
 simp only [vz, mq, mqm, vsi, tyf, mqt, aS, aY, bu, br, bL, (aM fW), nm, seval]
 refine dkupd (VUpd.at (β := ba) (y := (fun _ => .sl (aa eI kh.1) (List.length kh.1) false)) (HJ rc rc_ok _ _ _ _ _ _ AP) (by omega) (by first | rfl | assumption | (simp only [bc, bf, aS, nm, seval] <;> rfl)) (by first | rfl | (simp only [nrm, aB, @bP, @dA] <;> rfl)) (dQ (fun _ => rfl) _)) ?_
 refine ec (fun tm => tm 10 = .lit (.int .i64 r9.1) ∧ tm 20 = .sl (aa eI kh.1) (List.length kh.1) false ∧ True) (by refine ⟨bL, ?_, trivial⟩ <;> first | (simp only [ua, bm, aS, aY, bu, br, bL, nm, seval] <;> rfl) | rfl) ?_
 rintro tm ⟨bG, cu, _⟩
 obtain ⟨qP, AV, h⟩ := optI h kN
 try simp only [hs] at h
 simp only [vz, mq, mqm, vsi, tyf, mqt, aS, (aM fW), bG, cu, nm, seval]
 refine dktree (args0 := [.sl (aa eI kh.1) (List.length kh.1) false]) (by first | (simp only [nrm, aB, @bP] <;> rfl) | rfl) (by simp only [tre, aO, mqr, Bool.and_self]) (tD _ _ AV) ?_
 refine bF (fun tm => tm 10 = .lit (.int .i64 r9.1) ∧ tm 21 = .lit (.int .i64 qP) ∧ True) (by refine ⟨bG, ?_, trivial⟩ <;> first | (simp only [ua, bm, aS, bG, cu, nm, seval] <;> rfl) | rfl) ?_
 rintro tm ⟨cN, bp, _⟩
 obtain ⟨fX, m5, h⟩ := optI h kN
 try simp only [hs] at h
 simp only [vz, mq, mqm, vsi, tyf, mqt, aS, (aM fW), cN, bp, nm, seval]
 refine dkseen1 (w := 1) (enc := eI) (xs := ([r9.1, qP])) (el := (some 3)) ⟨eI_ok.tree, eI_ok.norm⟩ (fun _ => rfl) (by simp only [List.length_cons, List.length_nil]; decide) (by simp only [bc, bf, cl, aS, nm, seval] <;> rfl) (tD _ _ m5) (by first | rfl | simp only [VV.flat, flatL, Bool.and_self]) ?_
 refine bF (fun tm => tm 23 = .lit (.int .i64 fX) ∧ True) (by refine ⟨?_, trivial⟩ <;> first | (simp only [ua, bm, aS, cN, bp, nm, seval] <;> rfl) | rfl) ?_
 rintro tm ⟨aX, _⟩
 simp only [vz, mq, mqm, vsi, tyf, mqt, aS, (aM fW), aX, nm, seval]
 refine nv ⟨?_, ?_⟩
 ·simp only [nw, ny, i5, nz, and_true, true_and]
  repeat' (first | exact trivial | refine And.intro ?_ ?_ | rw [i5] | rw [n0] | exact Or.inl (by decide +kernel) | exact Or.inl (by dsimp only; decide +kernel) | (refine Or.inr ⟨?_, ?_⟩ <;> simp; done) | (refine Or.inr ⟨?_, ?_⟩ <;> simp <;> omega) | (refine Or.inr ⟨?_, ?_⟩ <;> simp [VEff.wr] <;> omega))
 try simp only [vz, mq, mqm, vsi, tyf, mqt, aS, (aM fW), aX, nm, seval]
 refine bT (x := (.lit (.int .i64 fX))) (by first | (simp only [Tryz.results107, resV, resL, resV1, bU, bV, uw, cr, tyf, mqt, aS, (aM fW), nm, seval] <;> rfl) | rfl) ?_
 obtain rfl := kF _ h
 refine ⟨(by first | rfl | assumption | (simp only [bc, bf, aS, nm, seval] <;> rfl)), ?_⟩
 exact sq_of (gn (by simp only [tre, aO, mqr, Bool.and_self]) rfl)
def oE (xb : GBk) (xp : List Int) (xs : Int) : Option (Int) := Option.bind (getI xb.Strokes xs) (fun x1 => some x1.Hours.Low)
theorem N6 (xb : GBk) (xp : List Int) (xs : Int) (b : Nat) (R : Int) (h : oE xb xp xs = some R) : ai Tryz.prog G0 139 [.agg [.lit (.int .i64 xb.Apprentices), .sl (aa eI xb.Boards) (List.length xb.Boards) false, .sl (aa cGBs xb.Strokes) (List.length xb.Strokes) false, .sl (aa eI xp) (List.length xp) false, .lit (.map (some b))], .lit (.int .i64 xs)] (.tree (.lit (.int .i64 R))) := by
 refine ai.runR mixed Tryz.call139 Tryz.func139 rfl (by simp [Tryz.ntmps139]; kernel_rfl) ?_
 obtain ⟨KF, h, kF, kN⟩ := cy h
 simp only [oE] at h
 obtain ⟨x2, o3, h⟩ := optI h kN
 try simp only [hs] at h
 try simp only [vz, vsi, tyf, (aM o3), nm, seval]
 refine bT (x := (.lit (.int .i64 x2.Hours.Low))) (by first | (simp only [Tryz.results139, resV, resL, resV1, bU, bV, uw, cr, tyf, (aM o3), nm, seval] <;> rfl) | rfl) ?_
 obtain rfl := kF _ h
 refine fh ?_ ?_
 ·simp only [tre, aO, Bool.and_self]
 ·first | (simp only [outV, uw, fv, cr, tyf, nrm, aB, (aM o3), nm, seval] <;> rfl) | rfl
def oF (xb : GBk) (xp : List Int) (xs : Int) : Option (Int) := Option.bind (getI xb.Strokes xs) (fun x1 => some x1.Hours.High)
theorem N7 (xb : GBk) (xp : List Int) (xs : Int) (b : Nat) (R : Int) (h : oF xb xp xs = some R) : ai Tryz.prog G0 140 [.agg [.lit (.int .i64 xb.Apprentices), .sl (aa eI xb.Boards) (List.length xb.Boards) false, .sl (aa cGBs xb.Strokes) (List.length xb.Strokes) false, .sl (aa eI xp) (List.length xp) false, .lit (.map (some b))], .lit (.int .i64 xs)] (.tree (.lit (.int .i64 R))) := by
 refine ai.runR mixed Tryz.call140 Tryz.func140 rfl (by simp [Tryz.ntmps140]; kernel_rfl) ?_
 obtain ⟨KF, h, kF, kN⟩ := cy h
 simp only [oF] at h
 obtain ⟨x2, o3, h⟩ := optI h kN
 try simp only [hs] at h
 try simp only [vz, vsi, tyf, (aM o3), nm, seval]
 refine bT (x := (.lit (.int .i64 x2.Hours.High))) (by first | (simp only [Tryz.results140, resV, resL, resV1, bU, bV, uw, cr, tyf, (aM o3), nm, seval] <;> rfl) | rfl) ?_
 obtain rfl := kF _ h
 refine fh ?_ ?_
 ·simp only [tre, aO, Bool.and_self]
 ·first | (simp only [outV, uw, fv, cr, tyf, nrm, aB, (aM o3), nm, seval] <;> rfl) | rfl
def oG (rc : GBk → (List Int) → Int → Int → (List (GBe × Int)) → Option ((Int) × List (GBe × Int))) (xb : GBk) (xp : List Int) (xs : Int) (xh : Int) (l0 : List (GBe × Int)) : Option ((Int) × List (GBe × Int)) := cond (mapHas cm l0 (GBe.mk xs xh)) (some (mapGet cm 0 l0 (GBe.mk xs xh), l0)) (Option.bind (n7 rc xb xp xs xh l0) (fun r1 => cond (xh == 0) (Option.bind (oE xb xp xs) (fun r2 => some (i64.wrap (r1.1 + r2), mapSet cm r1.2 (GBe.mk xs xh) (i64.wrap (r1.1 + r2))))) (cond (xh == 1) (Option.bind (oF xb xp xs) (fun r2 => some (i64.wrap (r1.1 + r2), mapSet cm r1.2 (GBe.mk xs xh) (i64.wrap (r1.1 + r2))))) none)))
theorem N8 (rc : GBk → (List Int) → Int → Int → (List (GBe × Int)) → Option ((Int) × List (GBe × Int))) (rc_ok : ∀ (xb : GBk) (xp : List Int) (xs : Int) (xh : Int) (l0 : List (GBe × Int)) (R : (Int) × List (GBe × Int)), rc xb xp xs xh l0 = some R → VUpd Tryz.prog G0 118 (fun β => [.agg [.lit (.int .i64 xb.Apprentices), .sl (aa eI xb.Boards) (List.length xb.Boards) false, .sl (aa cGBs xb.Strokes) (List.length xb.Strokes) false, .sl (aa eI xp) (List.length xp) false, .mp β], .lit (.int .i64 xs), .lit (.int .i64 xh)]) (encM aN bM l0) (encM aN bM R.2) (fun _ => .lit (.int .i64 R.1))) (xb : GBk) (xp : List Int) (xs : Int) (xh : Int) (l0 : List (GBe × Int)) (R : (Int) × List (GBe × Int)) (h : oG rc xb xp xs xh l0 = some R) : VUpd Tryz.prog G0 118 (fun β => [.agg [.lit (.int .i64 xb.Apprentices), .sl (aa eI xb.Boards) (List.length xb.Boards) false, .sl (aa cGBs xb.Strokes) (List.length xb.Strokes) false, .sl (aa eI xp) (List.length xp) false, .mp β], .lit (.int .i64 xs), .lit (.int .i64 xh)]) (encM aN bM l0) (encM aN bM R.2) (fun _ => .lit (.int .i64 R.1)) := by
 intro ba nx hlt
 have aS := gb (β := ba) (nx := nx) hlt
 refine an.run mixed Tryz.call118 Tryz.func118 rfl (by simp [Tryz.ntmps118]; kernel_rfl) ?_
 obtain ⟨KF, h, kF, kN⟩ := cy h
 simp only [oG] at h
 have w2 := fun H => rU (β := ba) l0 (GBe.mk xs xh) H
 try simp only [bm] at w2
 cases d3 : (mapHas cm l0 (GBe.mk xs xh))
 ·simp only [d3, hs] at h
  obtain ⟨r4, o5, h⟩ := optI h kN
  try simp only [hs] at h
  have hk : (xh == 0) = true ∨ ((xh == 0) = false ∧ (xh == 1) = true) := by
   cases c0 : (xh == 0)
   ·cases c1 : (xh == 1)
    ·simp only [c0, c1, hs] at h
     exact absurd h kN
    exact .inr ⟨rfl, rfl⟩
   exact .inl rfl
  rcases hk with c0 | ⟨c0, c1⟩
  ·obtain rfl : xh = 0 := by simpa using c0
   simp only [c0, hs] at h
   simp only [vz, mq, mqm, vsi, tyf, mqt, aS, w2, d3, nm, seval]
   refine nt (fun tm => tm 1 = .lit (.int .i64 xs) ∧ tm 2 = .lit (.int .i64 0) ∧ tm 3 = .ptr nx 0 ∧ tm 7 = .ptr (nx + 5) 0 ∧ tm 10 = .ptr (nx + 19) 0 ∧ True) (by refine ⟨?_, ?_, ?_, ?_, ?_, trivial⟩ <;> first | (simp only [ua, bm, aS, w2, d3, nm, seval] <;> rfl) | rfl) ?_
   rintro tm ⟨e1, e2, e3, e4, aW, _⟩
   simp only [vz, mq, mqm, vsi, tyf, mqt, aS, w2, d3, e1, e2, e3, e4, aW, nm, seval]
   refine dkupd (VUpd.at (β := ba) (y := (fun _ => .lit (.int .i64 r4.1))) (Ep rc rc_ok _ _ _ _ _ _ o5) (by omega) (by first | rfl | assumption | (simp only [bc, bf, aS, nm, seval] <;> rfl)) (by first | rfl | (simp only [nrm, aB, @bP, @dA] <;> rfl)) (dQ (fun _ => rfl) _)) ?_
   refine ec (fun tm => tm 1 = .lit (.int .i64 xs) ∧ tm 2 = .lit (.int .i64 0) ∧ tm 3 = .ptr nx 0 ∧ tm 7 = .ptr (nx + 5) 0 ∧ tm 10 = .ptr (nx + 19) 0 ∧ tm 27 = .lit (.int .i64 r4.1) ∧ True) (by refine ⟨e1, e2, e3, e4, aW, ?_, trivial⟩ <;> first | (simp only [ua, bm, aS, e1, e2, e3, e4, aW, nm, seval] <;> rfl) | rfl) ?_
   rintro tm ⟨e1, e2, e3, e4, aW, aX, _⟩
   obtain ⟨r8, o9, h⟩ := optI h kN
   try simp only [hs] at h
   simp only [vz, mq, mqm, vsi, tyf, mqt, aS, w2, d3, e1, e2, e3, e4, aW, aX, nm, seval]
   refine dkupd (VUpd.at (β := ba) (y := (fun _ => .lit (.int .i64 r8))) (VUpd.of_lit (A := fun β => [.agg [.lit (.int .i64 xb.Apprentices), .sl (aa eI xb.Boards) (List.length xb.Boards) false, .sl (aa cGBs xb.Strokes) (List.length xb.Strokes) false, .sl (aa eI xp) (List.length xp) false, .mp β], .lit (.int .i64 xs)]) (x := fun _ => .lit (.int .i64 r8)) (es := encM aN bM r4.2) (A0 := fun _ b => [.agg [.lit (.int .i64 xb.Apprentices), .sl (aa eI xb.Boards) (List.length xb.Boards) false, .sl (aa cGBs xb.Strokes) (List.length xb.Strokes) false, .sl (aa eI xp) (List.length xp) false, .lit (.map (some b))], .lit (.int .i64 xs)]) (fun β b => by simp only [List.map_cons, List.map_nil, vlt, if_true, nrm, aB, @bP, tyf, mqt] <;> rfl) (fun β b => by simp only [List.map_cons, List.map_nil, vlt, if_true, tre, aO, tyf, mqt, Bool.and_self]) (fun β b => rfl) (fun β b => N6 xb xp xs b r8 o9) (fun _ _ _ _ _ => gn (by simp only [tre, aO, mqr, Bool.and_self]) rfl)) (by omega) (by first | rfl | assumption | (simp only [bc, bf, aS, nm, seval] <;> rfl)) (by first | rfl | (simp only [nrm, aB, @bP, @dA] <;> rfl)) (dQ (fun _ => rfl) _)) ?_
   refine ec (fun tm => tm 1 = .lit (.int .i64 xs) ∧ tm 2 = .lit (.int .i64 0) ∧ tm 3 = .ptr nx 0 ∧ tm 7 = .ptr (nx + 5) 0 ∧ tm 27 = .lit (.int .i64 r4.1) ∧ tm 33 = .lit (.int .i64 r8) ∧ True) (by refine ⟨e1, e2, e3, e4, aX, ?_, trivial⟩ <;> first | (simp only [ua, bm, aS, e1, e2, e3, e4, aW, aX, nm, seval] <;> rfl) | rfl) ?_
   rintro tm ⟨e1, e2, e3, e4, aX, gv, _⟩
   simp only [vz, mq, mqm, vsi, tyf, mqt, aS, w2, d3, e1, e2, e3, e4, aX, gv, nm, seval]
   refine nv ⟨?_, ?_⟩
   ·simp only [nw, ny, i5, nz, and_true, true_and]
    repeat' (first | exact trivial | refine And.intro ?_ ?_ | rw [i5] | rw [n0] | exact Or.inl (by decide +kernel) | exact Or.inl (by dsimp only; decide +kernel) | (refine Or.inr ⟨?_, ?_⟩ <;> simp; done) | (refine Or.inr ⟨?_, ?_⟩ <;> simp <;> omega) | (refine Or.inr ⟨?_, ?_⟩ <;> simp [VEff.wr] <;> omega) | (refine Or.inr ⟨?_, ?_⟩ <;> simp [rdV, rdO, topName, Op.operands, lL, lM, uK, sq, VEff.wr] <;> omega))
   have w9 := fun H => rV (β := ba) r4.2 (GBe.mk xs 0) (i64.wrap (r4.1 + r8)) H
   try simp only [bm] at w9
   try simp only [vz, mq, mqm, vsi, tyf, mqt, aS, d3, e1, e2, e3, e4, aX, gv, w9, nm, seval]
   refine bT (x := (.lit (.int .i64 (i64.wrap (r4.1 + r8))))) (by first | (simp only [Tryz.results118, resV, resL, resV1, bU, bV, uw, cr, tyf, mqt, aS, d3, w9, nm, seval] <;> rfl) | rfl) ?_
   obtain rfl := kF _ h
   refine ⟨(by first | rfl | assumption | (simp only [bc, bf, aS, nm, seval] <;> rfl)), ?_⟩
   exact sq_of (gn (by simp only [tre, aO, mqr, Bool.and_self]) rfl)
  obtain rfl : xh = 1 := by simpa using c1
  simp only [c0, c1, hs] at h
  simp only [vz, mq, mqm, vsi, tyf, mqt, aS, w2, d3, nm, seval]
  refine nt (fun tm => tm 1 = .lit (.int .i64 xs) ∧ tm 2 = .lit (.int .i64 1) ∧ tm 3 = .ptr nx 0 ∧ tm 7 = .ptr (nx + 5) 0 ∧ tm 10 = .ptr (nx + 19) 0 ∧ True) (by refine ⟨?_, ?_, ?_, ?_, ?_, trivial⟩ <;> first | (simp only [ua, bm, aS, w2, d3, nm, seval] <;> rfl) | rfl) ?_
  rintro tm ⟨e1, e2, e3, e4, aW, _⟩
  simp only [vz, mq, mqm, vsi, tyf, mqt, aS, w2, d3, e1, e2, e3, e4, aW, nm, seval]
  refine dkupd (VUpd.at (β := ba) (y := (fun _ => .lit (.int .i64 r4.1))) (Ep rc rc_ok _ _ _ _ _ _ o5) (by omega) (by first | rfl | assumption | (simp only [bc, bf, aS, nm, seval] <;> rfl)) (by first | rfl | (simp only [nrm, aB, @bP, @dA] <;> rfl)) (dQ (fun _ => rfl) _)) ?_
  refine ec (fun tm => tm 1 = .lit (.int .i64 xs) ∧ tm 2 = .lit (.int .i64 1) ∧ tm 3 = .ptr nx 0 ∧ tm 7 = .ptr (nx + 5) 0 ∧ tm 10 = .ptr (nx + 19) 0 ∧ tm 27 = .lit (.int .i64 r4.1) ∧ True) (by refine ⟨e1, e2, e3, e4, aW, ?_, trivial⟩ <;> first | (simp only [ua, bm, aS, e1, e2, e3, e4, aW, nm, seval] <;> rfl) | rfl) ?_
  rintro tm ⟨e1, e2, e3, e4, aW, aX, _⟩
  obtain ⟨r8, o9, h⟩ := optI h kN
  try simp only [hs] at h
  simp only [vz, mq, mqm, vsi, tyf, mqt, aS, w2, d3, e1, e2, e3, e4, aW, aX, nm, seval]
  refine dkupd (VUpd.at (β := ba) (y := (fun _ => .lit (.int .i64 r8))) (VUpd.of_lit (A := fun β => [.agg [.lit (.int .i64 xb.Apprentices), .sl (aa eI xb.Boards) (List.length xb.Boards) false, .sl (aa cGBs xb.Strokes) (List.length xb.Strokes) false, .sl (aa eI xp) (List.length xp) false, .mp β], .lit (.int .i64 xs)]) (x := fun _ => .lit (.int .i64 r8)) (es := encM aN bM r4.2) (A0 := fun _ b => [.agg [.lit (.int .i64 xb.Apprentices), .sl (aa eI xb.Boards) (List.length xb.Boards) false, .sl (aa cGBs xb.Strokes) (List.length xb.Strokes) false, .sl (aa eI xp) (List.length xp) false, .lit (.map (some b))], .lit (.int .i64 xs)]) (fun β b => by simp only [List.map_cons, List.map_nil, vlt, if_true, nrm, aB, @bP, tyf, mqt] <;> rfl) (fun β b => by simp only [List.map_cons, List.map_nil, vlt, if_true, tre, aO, tyf, mqt, Bool.and_self]) (fun β b => rfl) (fun β b => N7 xb xp xs b r8 o9) (fun _ _ _ _ _ => gn (by simp only [tre, aO, mqr, Bool.and_self]) rfl)) (by omega) (by first | rfl | assumption | (simp only [bc, bf, aS, nm, seval] <;> rfl)) (by first | rfl | (simp only [nrm, aB, @bP, @dA] <;> rfl)) (dQ (fun _ => rfl) _)) ?_
  refine ec (fun tm => tm 1 = .lit (.int .i64 xs) ∧ tm 2 = .lit (.int .i64 1) ∧ tm 3 = .ptr nx 0 ∧ tm 7 = .ptr (nx + 5) 0 ∧ tm 27 = .lit (.int .i64 r4.1) ∧ tm 33 = .lit (.int .i64 r8) ∧ True) (by refine ⟨e1, e2, e3, e4, aX, ?_, trivial⟩ <;> first | (simp only [ua, bm, aS, e1, e2, e3, e4, aW, aX, nm, seval] <;> rfl) | rfl) ?_
  rintro tm ⟨e1, e2, e3, e4, aX, gv, _⟩
  simp only [vz, mq, mqm, vsi, tyf, mqt, aS, w2, d3, e1, e2, e3, e4, aX, gv, nm, seval]
  refine nv ⟨?_, ?_⟩
  ·simp only [nw, ny, i5, nz, and_true, true_and]
   repeat' (first | exact trivial | refine And.intro ?_ ?_ | rw [i5] | rw [n0] | exact Or.inl (by decide +kernel) | exact Or.inl (by dsimp only; decide +kernel) | (refine Or.inr ⟨?_, ?_⟩ <;> simp; done) | (refine Or.inr ⟨?_, ?_⟩ <;> simp <;> omega) | (refine Or.inr ⟨?_, ?_⟩ <;> simp [VEff.wr] <;> omega) | (refine Or.inr ⟨?_, ?_⟩ <;> simp [rdV, rdO, topName, Op.operands, lL, lM, uK, sq, VEff.wr] <;> omega))
  have w9 := fun H => rV (β := ba) r4.2 (GBe.mk xs 1) (i64.wrap (r4.1 + r8)) H
  try simp only [bm] at w9
  try simp only [vz, mq, mqm, vsi, tyf, mqt, aS, d3, e1, e2, e3, e4, aX, gv, w9, nm, seval]
  refine bT (x := (.lit (.int .i64 (i64.wrap (r4.1 + r8))))) (by first | (simp only [Tryz.results118, resV, resL, resV1, bU, bV, uw, cr, tyf, mqt, aS, d3, w9, nm, seval] <;> rfl) | rfl) ?_
  obtain rfl := kF _ h
  refine ⟨(by first | rfl | assumption | (simp only [bc, bf, aS, nm, seval] <;> rfl)), ?_⟩
  exact sq_of (gn (by simp only [tre, aO, mqr, Bool.and_self]) rfl)
 simp only [d3, hs] at h
 try simp only [vz, mq, mqm, vsi, tyf, mqt, aS, w2, d3, nm, seval]
 refine bT (x := (.lit (.int .i64 (mapGet cm 0 l0 (GBe.mk xs xh))))) (by first | (simp only [Tryz.results118, resV, resL, resV1, bU, bV, uw, cr, tyf, mqt, aS, w2, d3, nm, seval] <;> rfl) | rfl) ?_
 obtain rfl := kF _ h
 refine ⟨(by first | rfl | assumption | (simp only [bc, bf, aS, nm, seval] <;> rfl)), ?_⟩
 exact sq_of (gn (by simp only [tre, aO, mqr, Bool.and_self]) rfl)
def gEnd : Nat → GBk → (List Int) → Int → Int → (List (GBe × Int)) → Option ((Int) × List (GBe × Int))
 | 0 => fun _ _ _ _ _ => none
 | n + 1 => oG (gEnd n)
theorem tF : ∀ (n : Nat) (xb : GBk) (xp : List Int) (xs : Int) (xh : Int) (l0 : List (GBe × Int)) (R : (Int) × List (GBe × Int)), gEnd n xb xp xs xh l0 = some R → VUpd Tryz.prog G0 118 (fun β => [.agg [.lit (.int .i64 xb.Apprentices), .sl (aa eI xb.Boards) (List.length xb.Boards) false, .sl (aa cGBs xb.Strokes) (List.length xb.Strokes) false, .sl (aa eI xp) (List.length xp) false, .mp β], .lit (.int .i64 xs), .lit (.int .i64 xh)]) (encM aN bM l0) (encM aN bM R.2) (fun _ => .lit (.int .i64 R.1))
 | 0, _, _, _, _, _, _, h => by cases h
 | n + 1, xb, xp, xs, xh, l0, R, h => N8 (gEnd n) (tF n) xb xp xs xh l0 R h
def tO (xb : GBk) (xp : List Int) (xs : Int) (xh : Int) (l0 : List (GBe × Int)) : Option ((Int) × List (GBe × Int)) := n5 (gEnd 8) xb xp xs xh l0
theorem HP (xb : GBk) (xp : List Int) (xs : Int) (xh : Int) (l0 : List (GBe × Int)) (R : (Int) × List (GBe × Int)) (h : tO xb xp xs xh l0 = some R) : VUpd Tryz.prog G0 108 (fun β => [.agg [.lit (.int .i64 xb.Apprentices), .sl (aa eI xb.Boards) (List.length xb.Boards) false, .sl (aa cGBs xb.Strokes) (List.length xb.Strokes) false, .sl (aa eI xp) (List.length xp) false, .mp β], .lit (.int .i64 xs), .lit (.int .i64 xh)]) (encM aN bM l0) (encM aN bM R.2) (fun _ => .lit (.int .i64 R.1)) := HI (gEnd 8) (tF 8) xb xp xs xh l0 R h
def tN (xb : GBk) (xp : List Int) (xs : Int) (xh : Int) (l0 : List (GBe × Int)) : Option ((Int) × List (GBe × Int)) := n7 (gEnd 8) xb xp xs xh l0
theorem HO (xb : GBk) (xp : List Int) (xs : Int) (xh : Int) (l0 : List (GBe × Int)) (R : (Int) × List (GBe × Int)) (h : tN xb xp xs xh l0 = some R) : VUpd Tryz.prog G0 107 (fun β => [.agg [.lit (.int .i64 xb.Apprentices), .sl (aa eI xb.Boards) (List.length xb.Boards) false, .sl (aa cGBs xb.Strokes) (List.length xb.Strokes) false, .sl (aa eI xp) (List.length xp) false, .mp β], .lit (.int .i64 xs), .lit (.int .i64 xh)]) (encM aN bM l0) (encM aN bM R.2) (fun _ => .lit (.int .i64 R.1)) := Ep (gEnd 8) (tF 8) xb xp xs xh l0 R h
def si (xb : GBk) (xp : List Int) (xss : List Int) (xh : Int) (l0 : List (GBe × Int)) : Option ((List Int) × List (GBe × Int)) := n6 (gEnd 8) xb xp xss xh l0
theorem HK (xb : GBk) (xp : List Int) (xss : List Int) (xh : Int) (l0 : List (GBe × Int)) (R : (List Int) × List (GBe × Int)) (h : si xb xp xss xh l0 = some R) : VUpd Tryz.prog G0 106 (fun β => [.agg [.lit (.int .i64 xb.Apprentices), .sl (aa eI xb.Boards) (List.length xb.Boards) false, .sl (aa cGBs xb.Strokes) (List.length xb.Strokes) false, .sl (aa eI xp) (List.length xp) false, .mp β], .sl (aa eI xss) (List.length xss) false, .lit (.int .i64 xh)]) (encM aN bM l0) (encM aN bM R.2) (fun _ => .sl (aa eI R.1) (List.length R.1) false) := HJ (gEnd 8) (tF 8) xb xp xss xh l0 R h
end Go.V
end
section
namespace Go.V
open Go Go.Proofs IntKind
section
variable {K V : Type} {q : K → K → Bool} {z : V}
def setR (q : K → K → Bool) (k : K) (v : V) : List (K × V) → List (K × V)
 | [] => [(k, v)]
 | e :: l => if q k e.1 then (k, v) :: l else e :: setR q k v l
theorem HL (k : K) : ∀ (es : List K) (i : Nat), kIdx q k es (i + 1) = (kIdx q k es i).map (· + 1)
 | [], _ => rfl
 | e :: es, i => by
  unfold kIdx
  cases q k e with
  | true => rfl
  | false => exact HL k es (i + 1)
theorem E0 (k : K) (v : V) : ∀ l : List (K × V), mapSet q l k v = setR q k v l
 | [] => rfl
 | e :: l => by
  have ih := E0 k v l
  unfold mapSet at ih ⊢
  rw [List.map_cons]
  unfold kIdx setR
  cases hq : q k e.1 with
  | true => rfl
  | false =>
   simp only [cond_false, Bool.false_eq_true, if_false]
   rw [HL]
   cases h : kIdx q k (l.map (·.1)) 0 with
   | none => rw [h] at ih; simpa using ih
   | some i => rw [h] at ih; simpa using ih
end
end Go.V
end
section
namespace Go.V
open Go Go.Proofs IntKind
def nj (xb : GBk) (xp : List Int) (xss : List Int) (l0 : List (GBe × Int)) : Option ((GSpan) × List (GBe × Int)) := Option.bind (si xb xp xss 0 l0) (fun r1 => Option.bind (kJ r1.1) (fun r2 => Option.bind (si xb xp xss 1 r1.2) (fun r3 => Option.bind (kJ r3.1) (fun r4 => some ((GSpan.mk r2 r4), r3.2)))))
theorem sc (xb : GBk) (xp : List Int) (xss : List Int) (l0 : List (GBe × Int)) (R : (GSpan) × List (GBe × Int)) (h : nj xb xp xss l0 = some R) : VUpd Tryz.prog G0 70 (fun β => [.agg [.lit (.int .i64 xb.Apprentices), .sl (aa eI xb.Boards) (List.length xb.Boards) false, .sl (aa cGBs xb.Strokes) (List.length xb.Strokes) false, .sl (aa eI xp) (List.length xp) false, .mp β], .sl (aa eI xss) (List.length xss) false]) (encM aN bM l0) (encM aN bM R.2) (fun _ => .agg (aP R.1)) := by
 intro ba nx hlt
 have aS := gb (β := ba) (nx := nx) hlt
 refine an.run mixed Tryz.call70 Tryz.func70 rfl (by simp [Tryz.ntmps70]; kernel_rfl) ?_
 obtain ⟨KF, h, kF, kN⟩ := cy h
 simp only [nj] at h
 simp only [vz, mq, mqm, vsi, tyf, mqt, aS, nm, seval]
 refine nt (fun tm => tm 1 = .sl (aa eI xss) (List.length xss) false ∧ tm 2 = .ptr nx 0 ∧ tm 4 = .ptr (nx + 1) 0 ∧ True) (by refine ⟨?_, ?_, ?_, trivial⟩ <;> first | (simp only [ua, bm, aS, nm, seval] <;> rfl) | rfl) ?_
 rintro tm ⟨e5, e6, e7, _⟩
 obtain ⟨r8, o9, h⟩ := optI h kN
 try simp only [hs] at h
 simp only [vz, mq, mqm, vsi, tyf, mqt, aS, e5, e6, e7, nm, seval]
 refine dkupd (VUpd.at (β := ba) (y := (fun _ => .sl (aa eI r8.1) (List.length r8.1) false)) (HK _ _ _ _ _ _ o9) (by omega) (by first | rfl | assumption | (simp only [bc, bf, aS, nm, seval] <;> rfl)) (by first | rfl | (simp only [nrm, aB, @bP, @dA] <;> rfl)) (dQ (fun _ => rfl) _)) ?_
 refine ec (fun tm => tm 1 = .sl (aa eI xss) (List.length xss) false ∧ tm 2 = .ptr nx 0 ∧ tm 4 = .ptr (nx + 1) 0 ∧ tm 7 = .sl (aa eI r8.1) (List.length r8.1) false ∧ True) (by refine ⟨e5, e6, e7, ?_, trivial⟩ <;> first | (simp only [ua, bm, aS, e5, e6, e7, nm, seval] <;> rfl) | rfl) ?_
 rintro tm ⟨aW, aY, bu, br, _⟩
 obtain ⟨nR, mu, h⟩ := optI h kN
 try simp only [hs] at h
 simp only [vz, mq, mqm, vsi, tyf, mqt, aS, aW, aY, bu, br, nm, seval]
 refine dktree (args0 := [.sl (aa eI r8.1) (List.length r8.1) false]) (by first | (simp only [nrm, aB, @bP] <;> rfl) | rfl) (by simp only [tre, aO, mqr, Bool.and_self]) (tD _ _ mu) ?_
 refine bF (fun tm => tm 1 = .sl (aa eI xss) (List.length xss) false ∧ tm 2 = .ptr nx 0 ∧ tm 4 = .ptr (nx + 1) 0 ∧ tm 8 = .lit (.int .i64 nR) ∧ True) (by refine ⟨aW, aY, bu, ?_, trivial⟩ <;> first | (simp only [ua, bm, aS, aW, aY, bu, br, nm, seval] <;> rfl) | rfl) ?_
 rintro tm ⟨bI, b2, bl, bG, _⟩
 obtain ⟨km, lq, h⟩ := optI h kN
 try simp only [hs] at h
 simp only [vz, mq, mqm, vsi, tyf, mqt, aS, bI, b2, bl, bG, nm, seval]
 refine dkupd (VUpd.at (β := ba) (y := (fun _ => .sl (aa eI km.1) (List.length km.1) false)) (HK _ _ _ _ _ _ lq) (by omega) (by first | rfl | assumption | (simp only [bc, bf, aS, nm, seval] <;> rfl)) (by first | rfl | (simp only [nrm, aB, @bP, @dA] <;> rfl)) (dQ (fun _ => rfl) _)) ?_
 refine ec (fun tm => tm 4 = .ptr (nx + 1) 0 ∧ tm 8 = .lit (.int .i64 nR) ∧ tm 11 = .sl (aa eI km.1) (List.length km.1) false ∧ True) (by refine ⟨bl, bG, ?_, trivial⟩ <;> first | (simp only [ua, bm, aS, bI, b2, bl, bG, nm, seval] <;> rfl) | rfl) ?_
 rintro tm ⟨cH, cN, bp, _⟩
 obtain ⟨fX, m5, h⟩ := optI h kN
 try simp only [hs] at h
 simp only [vz, mq, mqm, vsi, tyf, mqt, aS, cH, cN, bp, nm, seval]
 refine dktree (args0 := [.sl (aa eI km.1) (List.length km.1) false]) (by first | (simp only [nrm, aB, @bP] <;> rfl) | rfl) (by simp only [tre, aO, mqr, Bool.and_self]) (tD _ _ m5) ?_
 refine bF (fun tm => tm 4 = .ptr (nx + 1) 0 ∧ tm 8 = .lit (.int .i64 nR) ∧ tm 12 = .lit (.int .i64 fX) ∧ True) (by refine ⟨cH, cN, ?_, trivial⟩ <;> first | (simp only [ua, bm, aS, cH, cN, bp, nm, seval] <;> rfl) | rfl) ?_
 rintro tm ⟨aX, ck, bX, _⟩
 simp only [vz, mq, mqm, vsi, tyf, mqt, aS, aX, ck, bX, nm, seval]
 refine nv ⟨?_, ?_⟩
 ·simp only [nw, ny, i5, nz, and_true, true_and]
  repeat' (first | exact trivial | refine And.intro ?_ ?_ | rw [i5] | rw [n0] | exact Or.inl (by decide +kernel) | exact Or.inl (by dsimp only; decide +kernel) | (refine Or.inr ⟨?_, ?_⟩ <;> simp; done) | (refine Or.inr ⟨?_, ?_⟩ <;> simp <;> omega) | (refine Or.inr ⟨?_, ?_⟩ <;> simp [VEff.wr] <;> omega))
 try simp only [vz, mq, mqm, vsi, tyf, mqt, aS, aX, ck, bX, nm, seval]
 refine bT (x := (.agg ([.lit (.int .i64 nR)] ++ [.lit (.int .i64 fX)]))) (by first | (simp only [Tryz.results70, resV, resL, resV1, bU, bV, uw, cr, tyf, mqt, aS, aX, ck, bX, nm, seval] <;> rfl) | rfl) ?_
 obtain rfl := kF _ h
 refine ⟨(by first | rfl | assumption | (simp only [bc, bf, aS, nm, seval] <;> rfl)), ?_⟩
 exact sq_of (gn (by first | (simp only [tre, aO, mqr, Bool.and_self]; done) | rfl) rfl)

theorem kupdF {P : Program} {G : Glob} {H : Nat → Option VObj} {f : FuncId} {args args' cs : List VV} {el : Option TypeId} {y : VV} {d : Option Tmp} {γ β g : Nat} {tm : Nat → VV} {nx : Nat} {df : List VDef} {K : St → Prop} {Qp : VV → St → Prop} {es' : List (Value × VV)} (hγ : H g = some (.cells el cs)) (ha : FrozenL H (without H g) args args')
  (hu : UpdC P G f args' (without H g) nx β es' y) (h : fin d γ tm (without H g) nx df K y (.upd β (.map es'))) : callK P G f args ⟨tm, H, nx, df⟩ d γ K Qp := by
 refine .inr (.inr ?_)
 unfold openK
 refine an.mono (an.freeze1 hγ ha hu.open) ?_ (fun _ _ _ h => h.elim)
 rintro v H2 Jn ⟨rfl, rfl, rfl⟩
 rw [← dJ (K := K)] at h
 cases d <;> exact h
end Go.V
end
