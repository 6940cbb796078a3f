/- Part of a proof. -/
import Derived.Test.YtlkognggeadanaaGreatDoorIbi
set_option linter.all false
set_option maxRecDepth 4000
set_option maxHeartbeats 40000000
section
namespace Go.V
open Go Go.Proofs IntKind
def wc  : List GLw → Int → Option (LOut (Bool) (Unit))
 | [], dr => some (.go ())
 | e0 :: p0, dr => cond (decide (dr < 6)) (cond (decide ((List.length e0.Signs : Int) > 8)) (some (.ret false)) (cond (decide ((List.length e0.Cuts : Int) > 8)) (some (.ret false)) (wc p0 (dr + 1)))) (some (.go ()))
def yH (ag : GLs) : Option (Bool) := cond (lenOk ag.Words) (lbind (wc ag.Words 0) (fun r2 => some r2) (fun c1 => cond (decide ((List.length ag.Widths : Int) ≤ 8)) (cond (decide ((List.length ag.Pairs : Int) ≤ 8)) (some (decide ((List.length ag.Words : Int) ≤ 6))) (some false)) (some false)) (fun _ _ => none)) none
theorem Uw (ag : GLs) (R : Bool) (h : yH ag = some R) : ad Tryz.prog G0 17 [.agg (cGLs ag)] (.tree (.lit (.bool R))) := by
 refine ad.runR mixed Tryz.call17 Tryz.func17 rfl (by simp [Tryz.ntmps17]; kernel_rfl) ?_
 obtain ⟨KF, h, kF, kN⟩ := ec h
 simp only [yH] at h
 cases g4 : (lenOk ag.Words)
 ·simp only [g4, hs] at h
  exact absurd h kN
 simp only [g4, hs] at h
 simp only [vz, tyf, g4, nm, seval]
 obtain ⟨K3, h, sO, rv, GO, GP⟩ := gS h kN
 obtain ⟨f3, sP, h⟩ := call2 h
 obtain ⟨I3, ld⟩ : ∃ I : Nat → St → Prop, I = (fun m st => ∃ (p3 : List GLw) (fH : Int), m = List.length p3 ∧ 0 ≤ fH ∧ List.drop (Int.toNat fH) ag.Words = p3 ∧ st.df = [] ∧ 3 ≤ st.nx ∧ st.H 0 = some (.cells (some 28) (cGLs ag)) ∧ st.tm 1 = .ptr 0 0 ∧ st.tm 3 = .lit (.int .i64 fH) ∧ K3 (f3 p3 fH)) := ⟨_, rfl⟩
 refine loopK mixed (by kernel_rfl) I3 (List.length ag.Words) (by rw [ld]; refine ⟨ag.Words, 0, rfl, qZf _, rfl, rfl, (show 3 ≤ 3 by omega), ?_, ?_, ?_, h⟩ <;> first | (simp only [ua, nm, seval] <;> rfl) | rfl) ?_
 rintro m ⟨tm, H, nV, df⟩ hinv
 rw [ld] at hinv
 obtain ⟨p3, fH, rfl, gj, ic, hdf, sQ, H5, e6, e7, h⟩ := hinv
 simp only at hdf sQ H5 e6 e7
 have n8 := gT (m := 3) (b := nV) (by omega)
 subst hdf sP
 cases p3 with
 | nil =>
  have d9 : (decide (fH < (List.length ag.Words : Int))) = false := fA gj ic
  simp only [wc, hs, reduceCtorEq] at h
  replace h := rv _ h
  try dsimp only at h
  try simp only [hs] at h
  cases dc : (decide ((List.length ag.Widths : Int) ≤ 8))
  ·simp only [dc, hs] at h
   try simp only [vz, tyf, g4, n8, e6, e7, H5, d9, dc, nm, seval]
   obtain rfl := kF _ h
   exact bz Tryz.results17 rfl
  simp only [dc, hs] at h
  cases iE : (decide ((List.length ag.Pairs : Int) ≤ 8))
  ·simp only [iE, hs] at h
   try simp only [vz, tyf, g4, n8, e6, e7, H5, d9, dc, iE, nm, seval]
   obtain rfl := kF _ h
   exact bz Tryz.results17 rfl
  simp only [iE, hs] at h
  try simp only [vz, tyf, g4, n8, e6, e7, H5, d9, dc, iE, nm, seval]
  obtain rfl := kF _ h
  exact bz Tryz.results17 rfl
 | cons e3 p3 =>
  have jh : (decide (fH < (List.length ag.Words : Int))) = true := fB gj ic
  have we := dU gj ic
  have Cv := fC gj ic g4
  simp only [wc, hs, reduceCtorEq] at h
  cases db : (decide (fH < 6))
  ·simp only [db, hs] at h
   replace h := rv _ h
   try dsimp only at h
   try simp only [hs] at h
   cases gh : (decide ((List.length ag.Widths : Int) ≤ 8))
   ·simp only [gh, hs] at h
    have Wo := And.intro g4 (And.intro n8 (And.intro H5 (And.intro jh (And.intro Cv (And.intro db gh)))))
    try simp only [vz, tyf, Wo, e6, e7, (aE we), nm, seval]
    obtain rfl := kF _ h
    exact bz Tryz.results17 rfl
   simp only [gh, hs] at h
   have RE := And.intro g4 (And.intro n8 (And.intro H5 (And.intro jh (And.intro Cv (And.intro db gh)))))
   cases eU : (decide ((List.length ag.Pairs : Int) ≤ 8))
   ·simp only [eU, hs] at h
    try simp only [vz, tyf, RE, e6, e7, (aE we), eU, nm, seval]
    obtain rfl := kF _ h
    exact bz Tryz.results17 rfl
   simp only [eU, hs] at h
   try simp only [vz, tyf, RE, e6, e7, (aE we), eU, nm, seval]
   obtain rfl := kF _ h
   exact bz Tryz.results17 rfl
  simp only [db, hs] at h
  cases nB : (decide ((List.length e3.Signs : Int) > 8))
  ·simp only [nB, hs] at h
   have Cw := And.intro g4 (And.intro n8 (And.intro H5 (And.intro jh (And.intro Cv (And.intro db nB)))))
   cases wg : (decide ((List.length e3.Cuts : Int) > 8))
   ·simp only [wg, hs] at h
    simp only [vz, tyf, Cw, e6, e7, (aE we), wg, nm, seval]
    exact ⟨List.length p3, qZc _, by rw [ld]; refine ⟨p3, fH + 1, rfl, Int.le_trans gj (Int.le_add_one (qZf _)), bY gj ic, rfl, (show 3 ≤ nV + 30 by omega), ?_, e6, ?_, (by first | exact h | (simp only [Cw, wg]; exact h))⟩ <;> first | (simp only [ua, Cw, e6, e7, wg, nm, seval] <;> rfl) | rfl⟩
   simp only [wg, hs] at h
   try simp only [vz, tyf, Cw, e6, e7, (aE we), wg, nm, seval]
   replace h := sO _ h
   try dsimp only at h
   obtain rfl := kF _ h
   exact bz Tryz.results17 rfl
  simp only [nB, hs] at h
  have yk := And.intro g4 (And.intro n8 (And.intro H5 (And.intro jh (And.intro Cv (And.intro db nB)))))
  try simp only [vz, tyf, yk, e6, e7, (aE we), nm, seval]
  replace h := sO _ h
  try dsimp only at h
  obtain rfl := kF _ h
  exact bz Tryz.results17 rfl







theorem uv (a n b : Int) : m5 a n b = some (inB a b n) := by
 unfold m5 inB
 cases decide (a ≤ n) <;> rfl
theorem in_eq (n a b : Int) : lj n a b = some (inB a b n) := by
 unfold lj inB
 show cond (decide (a ≤ n)) _ _ = _
 cases decide (a ≤ n) <;> rfl
def spanB (m : Int) (x : GSpan) : Bool := decide (0 ≤ x.Low) && (decide (x.Low ≤ x.High) && decide (x.High ≤ m))
theorem NY (x : GSpan) (m : Int) : sR 0 x m = some (spanB m x) := by
 unfold sR spanB
 cases decide (0 ≤ x.Low) <;> cases decide (x.Low ≤ x.High) <;> rfl
theorem ux (x : GSpan) (m : Int) : td x m = some (spanB m x) := by
 unfold td
 simp only [in_eq, Option.bind_some]
 by_cases h1 : 0 ≤ x.Low <;> by_cases h2 : x.Low ≤ x.High <;> by_cases h3 : x.High ≤ m <;> by_cases h4 : x.Low ≤ m <;> simp [inB, spanB, h1, h2, h3, h4] <;> omega
theorem RF (a b : Int) : ∀ (p : List Int) (i : Int), vZ a b p i = goB (p.all (inB a b))
 | [], _ => rfl
 | e :: p, i => by
  simp only [vZ, mm, cnot, cand, uv, Option.bind_some, RF a b p, List.all_cons]
theorem NZ (a b : Int) (xs : List Int) (h : lenOk xs = true) : sV a xs b = some (xs.all (inB a b)) := by
 simp only [sV, h, cond_true, RF]
 cases xs.all (inB a b) <;> rfl
def incr : Int → List Int → Bool
 | _, [] => true
 | q, e :: p => !decide (e ≤ q) && incr e p
def incrL : List Int → Bool
 | [] => true
 | e :: p => incr e p
theorem Cx {α : Type} {xs p : List α} {q : α} {i : Int} (h0 : 1 ≤ i) (hi : i < 9223372036854775808) (h : xs.drop (i - 1).toNat = q :: p) : getI xs (i64.wrap (i - 1)) = some q := by
 rw [lY (by omega) (by omega)]
 exact dU (by omega) h
theorem Cy {α : Type} {xs p : List α} {n : Nat} (h : xs.drop n = p) : n + p.length ≤ xs.length ∨ p = [] := by
 subst h
 by_cases hn : n ≤ xs.length
 ·left; simp; omega
 ·right; exact List.drop_eq_nil_of_le (by omega)
theorem RG (xs : List Int) (hl : lenOk xs = true) : ∀ (p : List Int) (q i : Int), 1 ≤ i → xs.drop (i - 1).toNat = q :: p → vf xs p i = goB (incr q p)
 | [], _, _, _, _ => rfl
 | e :: p, q, i, h0, h => by
  have hb := Cu hl
  have hle := Cy h
  simp only [List.length_cons] at hle
  have hi : i < 9223372036854775808 := by
   rcases hle with hle | hle
   ·omega
   ·cases hle
  have hn : xs.drop (i + 1 - 1).toNat = e :: p := by
   have := bY (i := i - 1) (by omega) h
   rwa [show i - 1 + 1 = i + 1 - 1 by omega] at this
  simp only [vf, mm, cnot, cand, Cx h0 hi h, Option.bind_some, RG xs hl p e (i + 1) (by omega) hn, incr]
theorem RH (a b : Int) (xs : List Int) (h : lenOk xs = true) : vg a xs b = some (incrL xs && xs.all (inB a b)) := by
 have h1 : leB 0 1 = true := rfl
 simp only [vg, h, h1, cond_true, NZ a b xs h]
 cases xs with
 | nil => rfl
 | cons e p =>
  have := RG (e :: p) h p e 1 (by omega) (by rfl)
  rw [show List.drop (Int.toNat 1) (e :: p) = p from rfl, this]
  simp only [incrL]
  cases incr e p <;> rfl
def cutsB (hi : Int) : Option Int → List Int → Bool
 | _, [] => true
 | none, e :: p => inB 1 hi e && cutsB hi (some e) p
 | some q, e :: p => inB 1 hi e && (!decide (e ≤ q) && cutsB hi (some e) p)
theorem RI (hi : Int) : ∀ (p : List Int) (q : Int), cutsB hi (some q) p = (incr q p && p.all (inB 1 hi))
 | [], _ => rfl
 | e :: p, q => by
  simp only [cutsB, RI hi p e, incr, List.all_cons]
  cases h1 : inB 1 hi e <;> cases h2 : decide (e ≤ q) <;> cases h3 : incr e p <;> simp [h1, h2, h3]
theorem Oa (hi : Int) : ∀ (p : List Int), cutsB hi none p = (incrL p && p.all (inB 1 hi))
 | [] => rfl
 | e :: p => by
  simp only [cutsB, RI, incrL, List.all_cons]
  cases h1 : inB 1 hi e <;> cases h2 : incr e p <;> simp [h1, h2]
theorem RJ (w : GLw) (hl : lenOk w.Cuts = true) : ∀ (p : List Int) (q : Int) (i : Int), 1 ≤ i → w.Cuts.drop (i - 1).toNat = q :: p →
  qh w p i = goB (cutsB (i64.wrap ((w.Signs.length : Int) - 1)) (some q) p)
 | [], _, _, _, _ => rfl
 | e :: p, q, i, h0, h => by
  have hb := Cu hl
  have hle := Cy h
  simp only [List.length_cons] at hle
  have hi : i < 9223372036854775808 := by
   rcases hle with hle | hle
   ·omega
   ·cases hle
  have hn : w.Cuts.drop (i + 1 - 1).toNat = e :: p := by
   have := bY (i := i - 1) (by omega) h
   rwa [show i - 1 + 1 = i + 1 - 1 by omega] at this
  have hp : decide (i > 0) = true := by simp; omega
  simp only [qh, mm, cnot, cand, in_eq, Cx h0 hi h, hp, Option.bind_some, RJ w hl p e (i + 1) (by omega) hn, cutsB, cond_true]
theorem Ob (w : GLw) (hl : lenOk w.Cuts = true) : qh w w.Cuts 0 = goB (cutsB (i64.wrap ((w.Signs.length : Int) - 1)) none w.Cuts) := by
 generalize hc : w.Cuts = cs
 cases cs with
 | nil => rfl
 | cons e p =>
  have := RJ w hl p e (0 + 1) (by omega) (by rw [hc]; rfl)
  simp only [qh, mm, cnot, cand, in_eq, Option.bind_some, this, cutsB, show decide ((0 : Int) > 0) = false from rfl, cond_false]
theorem uy (s : GLs) (n : Int) : tc s n = some (inB 0 (i64.wrap ((s.Widths.length : Int) - 1)) n) := by
 simp only [tc, in_eq, Option.bind_some]
theorem RK (s : GLs) : ∀ (p : List Int) (i : Int), vn s p i = goB (p.all (inB 0 (i64.wrap ((s.Widths.length : Int) - 1))))
 | [], _ => rfl
 | e :: p, i => by
  simp only [vn, mm, cnot, cand, uy, Option.bind_some, RK s p, List.all_cons]
def wordB (n : Int) (w : GLw) : Bool := inB 1 6 w.Signs.length && (w.Signs.all (inB 0 n) && (incrL w.Cuts && w.Cuts.all (inB 1 (i64.wrap ((w.Signs.length : Int) - 1)))))
theorem Oc (s : GLs) (w : GLw) (h1 : lenOk w.Signs = true) (h2 : lenOk w.Cuts = true) : xD s w = some (wordB (i64.wrap ((s.Widths.length : Int) - 1)) w) := by
 simp only [xD, h1, h2, cond_true, RK, Ob w h2, in_eq, Option.bind_some, Oa, wordB]
 cases w.Signs.all _ <;> cases (incrL w.Cuts && w.Cuts.all _) <;> cases inB 1 6 _ <;> rfl
def Fine (w : GLw) : Prop := lenOk w.Signs = true ∧ lenOk w.Cuts = true
theorem RL (s : GLs) : ∀ (p : List GLw) (i : Int), (∀ w ∈ p, Fine w) → vu s p i = goB (p.all (wordB (i64.wrap ((s.Widths.length : Int) - 1))))
 | [], _, _ => rfl
 | e :: p, i, h => by
  have he := h e (qZb ..)
  simp only [vu, mm, cnot, cand, Oc s e he.1 he.2, Option.bind_some, RL s p (i + 1) (fun w hw => h w (qZa _ hw)), List.all_cons]
theorem RM (n : Int) : ∀ (p : List GLw) (i : Int), (∀ w ∈ p, Fine w) → vk n p i = goB (p.all (wordB (i64.wrap (n - 1))))
 | [], _, _ => rfl
 | e :: p, i, h => by
  have he := h e (qZb ..)
  simp only [vk, mm, cnot, cand, uv, NZ _ _ _ he.1, RH _ _ _ he.2, Option.bind_some, RM n p (i + 1) (fun w hw => h w (qZa _ hw)), List.all_cons, wordB]
theorem RN : ∀ (p : List Int) (i : Int), vv p i = goB (p.all (inB 1 20))
 | [], _ => rfl
 | e :: p, i => by
  simp only [vv, mm, cnot, cand, in_eq, Option.bind_some, RN p, List.all_cons]
def sgn (a b : Int) : Int := if a < b then -1 else if a > b then 1 else 0
theorem QQ (a b : Int) : ru a b = some (sgn a b) := by
 unfold ru xp sgn
 by_cases h1 : a < b <;> by_cases h2 : a > b <;> simp [h1, h2]
def pairGe (a b : GLp) : Bool := cond (decide (a.Left > b.Left)) true (cond (a.Left == b.Left) (decide (a.Right ≥ b.Right)) false)
theorem or_eq (a b : Int) : va [a, b] = some (if a = 0 then b else a) := by
 have e : (fun x : Int => x != 0) a = !decide (a = 0) := by by_cases h : a = 0 <;> simp [h]
 have e' : (b != 0) = !decide (b = 0) := by by_cases h : b = 0 <;> simp [h]
 simp only [] at e
 by_cases h : a = 0 <;> by_cases h' : b = 0 <;> simp [va, xq, lenOk, lbind, e, e', h, h']
theorem Wp (a b : GLp) : ∃ r, xr a b = some r ∧ decide (r ≥ 0) = pairGe a b := by
 refine ⟨_, by simp only [xr, QQ, or_eq, Option.bind_some]; rfl, ?_⟩
 unfold sgn pairGe
 by_cases h1 : a.Left < b.Left
 ·have : ¬ a.Left > b.Left := by omega
  have h3 : ¬ a.Left = b.Left := by omega
  simp [h1, this, h3]
 ·by_cases h2 : a.Left > b.Left
  ·simp [h1, h2]
  ·have h3 : a.Left = b.Left := by omega
   by_cases h4 : a.Right < b.Right
   ·have : ¬ a.Right ≥ b.Right := by omega
    simp [h3, h4]
   ·by_cases h5 : a.Right > b.Right
    ·simp [h3, h4, h5]; omega
    ·simp [h3, h4, h5]; omega
def pairB (m : Int) (e : GLp) : Bool := inB 0 m e.Left && (inB 0 m e.Right && spanB 9 e.Space)
def pairsG (m : Int) : Option GLp → List GLp → Bool
 | _, [] => true
 | none, e :: p => pairB m e && pairsG m (some e) p
 | some q, e :: p => pairB m e && (!pairGe q e && pairsG m (some e) p)
theorem RO (s : GLs) (hl : lenOk s.Pairs = true) : ∀ (p : List GLp) (q : GLp) (i : Int), 1 ≤ i → s.Pairs.drop (i - 1).toNat = q :: p →
  pL s p i = goB (pairsG (i64.wrap ((s.Widths.length : Int) - 1)) (some q) p)
 | [], _, _, _, _ => rfl
 | e :: p, q, i, h0, h => by
  have hb := Cu hl
  have hle := Cy h
  simp only [List.length_cons] at hle
  have hi : i < 9223372036854775808 := by
   rcases hle with hle | hle
   ·omega
   ·cases hle
  have hn : s.Pairs.drop (i + 1 - 1).toNat = e :: p := by
   have := bY (i := i - 1) (by omega) h
   rwa [show i - 1 + 1 = i + 1 - 1 by omega] at this
  have hp : decide (i > 0) = true := by simp; omega
  simp only [pL, mm, cnot, uy, ux, Cx h0 hi h, hp, Option.bind_some, RO s hl p e (i + 1) (by omega) hn, pairsG, pairB, cand, cond_true, pairGe]
  cases decide (q.Left > e.Left) <;> cases (q.Left == e.Left) <;> rfl
theorem Wq (s : GLs) (hl : lenOk s.Pairs = true) : pL s s.Pairs 0 = goB (pairsG (i64.wrap ((s.Widths.length : Int) - 1)) none s.Pairs) := by
 generalize hc : s.Pairs = cs
 cases cs with
 | nil => rfl
 | cons e p =>
  have := RO s hl p e (0 + 1) (by omega) (by rw [hc]; rfl)
  simp only [pL, mm, cnot, cand, uy, ux, Option.bind_some, this, pairsG, pairB, show decide ((0 : Int) > 0) = false from rfl, cond_false]
theorem RP (xs : List GLp) (n : Int) (hl : lenOk xs = true) : ∀ (p : List GLp) (q : GLp) (i : Int), 1 ≤ i → xs.drop (i - 1).toNat = q :: p →
  qd xs n p i = goB (pairsG (i64.wrap (n - 1)) (some q) p)
 | [], _, _, _, _ => rfl
 | e :: p, q, i, h0, h => by
  have hb := Cu hl
  have hle := Cy h
  simp only [List.length_cons] at hle
  have hi : i < 9223372036854775808 := by
   rcases hle with hle | hle
   ·omega
   ·cases hle
  have hn : xs.drop (i + 1 - 1).toNat = e :: p := by
   have := bY (i := i - 1) (by omega) h
   rwa [show i - 1 + 1 = i + 1 - 1 by omega] at this
  have hp : decide (i > 0) = true := by simp; omega
  obtain ⟨r, hr, hr'⟩ := Wp q e
  simp only [qd, mm, cnot, uv, NY, Cx h0 hi h, hp, hr, hr', Option.bind_some, RP xs n hl p e (i + 1) (by omega) hn, pairsG, pairB, cand, cond_true]
theorem Wr (xs : List GLp) (n : Int) (hl : lenOk xs = true) : qd xs n xs 0 = goB (pairsG (i64.wrap (n - 1)) none xs) := by
 cases xs with
 | nil => rfl
 | cons e p =>
  have := RP (e :: p) n hl p e (0 + 1) (by omega) rfl
  simp only [qd, mm, cnot, cand, uv, NY, Option.bind_some, this, pairsG, pairB, show decide ((0 : Int) > 0) = false from rfl, cond_false]
def FineS (s : GLs) : Prop := lenOk s.Widths = true ∧ lenOk s.Pairs = true ∧ lenOk s.Words = true ∧ ∀ w ∈ s.Words, Fine w
def sheetB (s : GLs) : Bool :=
 inB 1 6 s.Widths.length && s.Widths.all (inB 1 20) &&
 (decide ((s.Pairs.length : Int) ≤ 6) && pairsG (i64.wrap ((s.Widths.length : Int) - 1)) none s.Pairs) &&
 spanB 9 s.Other && spanB 20 s.Gap && inB 1 20 s.Hyphen &&
 (inB 1 4 s.Words.length && s.Words.all (wordB (i64.wrap ((s.Widths.length : Int) - 1)))) &&
 inB 1 400 s.Wide && inB 1 3 s.Rows
theorem Od (n : Int) : rE n = some (inB 1 400 n) := by
 simp only [rE, in_eq, Option.bind_some]
theorem Oe (s : GLs) (h : lenOk s.Pairs = true) : xH s = some (decide ((s.Pairs.length : Int) ≤ 6) && pairsG (i64.wrap ((s.Widths.length : Int) - 1)) none s.Pairs) := by
 simp only [xH, h, cond_true, Wq s h, vY, csome]
 rw [Bool.and_comm]
theorem Of (xs : List GLp) (n : Int) (h : lenOk xs = true) : xt xs n = some (decide ((xs.length : Int) ≤ 6) && pairsG (i64.wrap (n - 1)) none xs) := by
 simp only [xt, h, cond_true, Wr xs n h, vY]
 by_cases hn : (xs.length : Int) ≤ 6
 ·have : ¬ (xs.length : Int) > 6 := by omega
  simp only [hn, this, decide_true, decide_false, cond_false, Bool.true_and]
  cases pairsG _ _ xs <;> rfl
 ·have : (xs.length : Int) > 6 := by omega
  simp only [hn, this, decide_true, decide_false, cond_true, Bool.false_and]
theorem Jq (s : GLs) (h : FineS s) : xK s = some (sheetB s) := by
 obtain ⟨h1, h2, h3, h4⟩ := h
 simp only [xK, h1, h3, cond_true, RN, RL s _ _ h4, vY, in_eq, ux, Od, Oe s h2, Option.bind_some, csome, sheetB, ← Bool.and_assoc]
 congr 1
 simp only [Bool.and_assoc]
 cases s.Widths.all _ <;> cases s.Words.all _ <;> simp [Bool.and_comm, Bool.and_left_comm]
theorem Ws (xs : List Int) (h : lenOk xs = true) : xB xs = some (inB 1 6 xs.length && xs.all (inB 1 20)) := by
 simp only [xB, uv, NZ _ _ _ h, Option.bind_some, csome]
theorem Og (xs : List GLw) (n : Int) (h : lenOk xs = true) (hw : ∀ w ∈ xs, Fine w) : xz xs n = some (inB 1 4 xs.length && xs.all (wordB (i64.wrap (n - 1)))) := by
 simp only [xz, uv, Option.bind_some, h, cond_true, RM n xs 0 hw, vY, csome, Bool.and_true]
theorem Ja (s : GLs) (h : FineS s) : rC s = some (sheetB s) := by
 obtain ⟨h1, h2, h3, h4⟩ := h
 simp only [rC, Ws _ h1, Of _ _ h2, Og _ _ h3 h4, uv, NY, Option.bind_some, csome, sheetB, Bool.and_assoc]
def Cz (ag : GLs) : List Int → Int → Option (LOut (Bool) (Unit))
 | [], ke => some (.go ())
 | e0 :: p0, ke => Option.bind (getI ag.Words e0) (fun x2 => cond (x2.Free) (Cz ag p0 (ke + 1)) (some (.ret false)))
def Oh (ag : GLs) (bp : List Int) : Option (Bool) := cond (decide ((List.length bp : Int) ≥ (List.length ag.Words : Int))) (some false) (Option.bind (vg 0 bp (i64.wrap ((List.length ag.Words : Int) - 1))) (fun r1 => cond (r1) (cond (lenOk bp) (lbind (Cz ag bp 0) (fun r4 => some r4) (fun c3 => some true) (fun _ _ => none)) none) (some false)))
def wh (dS : Int) : List Int → Int → Option (LOut (Int) (Unit))
 | [], gi => some (.go ())
 | e0 :: p0, gi => cond (dS == e0) (some (.ret gi)) (wh dS p0 (gi + 1))
def C0 (ag : List Int) (dS : Int) : Option (Int) := cond (lenOk ag) (lbind (wh dS ag 0) (fun r2 => some r2) (fun c1 => some (-1)) (fun _ _ => none)) none
theorem Wt (ag : List Int) (dS : Int) (R : Int) (h : C0 ag dS = some R) : ad Tryz.prog G0 151 [.sl (aa eI ag) (List.length ag) false, .lit (.int .i64 dS)] (.tree (.lit (.int .i64 R))) := by
 refine ad.runR mixed Tryz.call151 Tryz.func151 rfl (by simp [Tryz.ntmps151]; kernel_rfl) ?_
 obtain ⟨KF, h, kF, kN⟩ := ec h
 simp only [C0] at h
 cases g4 : (lenOk ag)
 ·simp only [g4, hs] at h
  exact absurd h kN
 simp only [g4, hs] at h
 simp only [vz, tyf, g4, nm, seval]
 obtain ⟨K3, h, sO, rv, GO, GP⟩ := gS h kN
 obtain ⟨f3, sP, h⟩ := call2 h
 obtain ⟨I3, ld⟩ : ∃ I : Nat → St → Prop, I = (fun m st => ∃ (p3 : List Int) (cy : Int), m = List.length p3 ∧ 0 ≤ cy ∧ List.drop (Int.toNat cy) ag = p3 ∧ st.df = [] ∧ 4 ≤ st.nx ∧ st.tm 0 = .sl (aa eI ag) (List.length ag) false ∧ st.tm 1 = .lit (.int .i64 dS) ∧ st.tm 7 = .lit (.int .i64 (List.length ag : Int)) ∧ st.tm 8 = .lit (.int .i64 cy) ∧ K3 (f3 p3 cy)) := ⟨_, rfl⟩
 refine loopK mixed (by kernel_rfl) I3 (List.length ag) (by rw [ld]; refine ⟨ag, 0, rfl, qZf _, rfl, rfl, (show 4 ≤ 4 by omega), ?_, ?_, ?_, ?_, h⟩ <;> first | (simp only [ua, nm, seval] <;> rfl) | rfl) ?_
 rintro m ⟨tm, H, nV, df⟩ hinv
 rw [ld] at hinv
 obtain ⟨p3, cy, rfl, gj, ic, hdf, sQ, e5, e6, e7, e8, h⟩ := hinv
 simp only at hdf sQ e5 e6 e7 e8
 have n9 := gT (m := 4) (b := nV) (by omega)
 subst hdf sP
 cases p3 with
 | nil =>
  have dc : (decide (cy < (List.length ag : Int))) = false := fA gj ic
  simp only [wh, hs, reduceCtorEq] at h
  replace h := rv _ h
  try dsimp only at h
  try simp only [hs] at h
  try simp only [vz, tyf, g4, n9, e5, e6, e7, e8, dc, nm, seval]
  refine cG (x := (.lit (.int .i64 (-1)))) (by first | (simp only [Tryz.results151, resV, resL, aD, cX, cW, uw, cr, tyf, g4, n9, dc, nm, seval] <;> rfl) | rfl) ?_
  obtain rfl := kF _ h
  refine cY ?_ ?_
  ·simp only [tre, ar, Bool.and_self]
  ·first | (simp only [outV, uw, eu, cr, tyf, nrm, au, g4, n9, e5, e6, e7, e8, dc, nm, seval] <;> rfl) | rfl
 | cons e3 p3 =>
  have iE : (decide (cy < (List.length ag : Int))) = true := fB gj ic
  have m4 := dU gj ic
  have lQ := fC gj ic g4
  simp only [wh, hs, reduceCtorEq] at h
  cases bE : (dS == e3)
  ·simp only [bE, hs] at h
   simp only [vz, tyf, g4, n9, e5, e6, e7, e8, iE, (aC m4), lQ, bE, nm, seval]
   exact ⟨List.length p3, qZc _, by rw [ld]; refine ⟨p3, cy + 1, rfl, Int.le_trans gj (Int.le_add_one (qZf _)), bY gj ic, rfl, (show 4 ≤ nV + 11 by omega), e5, e6, e7, ?_, (by first | exact h | (simp only [iE, bE]; exact h))⟩ <;> first | (simp only [ua, n9, e5, e6, e7, e8, iE, lQ, bE, nm, seval] <;> rfl) | rfl⟩
  simp only [bE, hs] at h
  try simp only [vz, tyf, g4, n9, e5, e6, e7, e8, iE, (aC m4), lQ, bE, nm, seval]
  refine cG (x := (.lit (.int .i64 cy))) (by first | (simp only [Tryz.results151, resV, resL, aD, cX, cW, uw, cr, tyf, g4, n9, iE, (aC m4), lQ, bE, nm, seval] <;> rfl) | rfl) ?_
  replace h := sO _ h
  try dsimp only at h
  obtain rfl := kF _ h
  refine cY ?_ ?_
  ·simp only [tre, ar, Bool.and_self]
  ·first | (simp only [outV, uw, eu, cr, tyf, nrm, au, g4, n9, e5, e6, e7, e8, iE, (aC m4), lQ, bE, nm, seval] <;> rfl) | rfl
def vS (ag : List Int) (dS : Int) : Option (Bool) := Option.bind (C0 ag dS) (fun r1 => some (decide (r1 ≥ 0)))
theorem Cf (ag : List Int) (dS : Int) (R : Bool) (h : vS ag dS = some R) : ad Tryz.prog G0 117 [.sl (aa eI ag) (List.length ag) false, .lit (.int .i64 dS)] (.tree (.lit (.bool R))) := by
 refine ad.runR mixed Tryz.call117 Tryz.func117 rfl (by simp [Tryz.ntmps117]; kernel_rfl) ?_
 obtain ⟨KF, h, kF, kN⟩ := ec h
 simp only [vS] at h
 obtain ⟨r2, o3, h⟩ := optI h kN
 try simp only [hs] at h
 simp only [vz, tyf, nm, seval]
 refine ktA (Wt _ _ _ o3) ?_
 refine bC (fun tm => tm 7 = .lit (.int .i64 r2) ∧ True) (by refine ⟨?_, trivial⟩ <;> first | (simp only [ua, nm, seval] <;> rfl) | rfl) ?_
 rintro tm ⟨e4, _⟩
 try simp only [vz, tyf, e4, nm, seval]
 obtain rfl := kF _ h
 exact bz Tryz.results117 rfl
def nr (bV : Int) : List Int → Int → (List GLe) → Option (LOut (List GLe) ((List GLe)))
 | [], sj, qX => some (.go qX)
 | e1 :: p1, sj, qX => cond (aB 16 (List.length (qX ++ [(GLe.mk bV e1)]))) (nr bV p1 (sj + 1) (qX ++ [(GLe.mk bV e1)])) none
def pU (bp : List Int) : List GLw → Int → (List GLe) → Option (LOut (List GLe) ((List GLe)))
 | [], bV, fG => some (.go fG)
 | e0 :: p0, bV, fG => Option.bind (vS bp bV) (fun r1 => cond (r1) (pU bp p0 (bV + 1) fG) (cond (lenOk e0.Cuts) (lbind (nr bV e0.Cuts 0 fG) (fun r3 => some (.ret r3)) (fun c2 => cond (aB 16 (List.length (c2 ++ [(GLe.mk bV (List.length e0.Signs : Int))]))) (pU bp p0 (bV + 1) (c2 ++ [(GLe.mk bV (List.length e0.Signs : Int))])) none) (fun _ _ => none)) none))
def uz (ag : GLs) (bp : List Int) : Option (List GLe) := cond (lenOk ag.Words) (lbind (pU bp ag.Words 0 ([] : List GLe)) (fun r5 => some r5) (fun c4 => some c4) (fun _ _ => none)) none
theorem Wu (ag : GLs) (bp : List Int) (R : List GLe) (h : uz ag bp = some R) : ad Tryz.prog G0 116 [.agg (cGLs ag), .sl (aa eI bp) (List.length bp) false] (.tree (.sl (aa cGLe R) (List.length R) false)) := by
 refine ad.runR mixed Tryz.call116 Tryz.func116 rfl (by simp [Tryz.ntmps116]; kernel_rfl) ?_
 obtain ⟨KF, h, kF, kN⟩ := ec h
 simp only [uz] at h
 cases g7 : (lenOk ag.Words)
 ·simp only [g7, hs] at h
  exact absurd h kN
 simp only [g7, hs] at h
 simp only [vz, tyf, g7, nm, seval]
 obtain ⟨K6, h, Iu, t4, Qr, iU⟩ := gS h kN
 obtain ⟨f6, yj, h⟩ := call3 h
 obtain ⟨I6, iV⟩ : ∃ I : Nat → St → Prop, I = (fun m st => ∃ (p6 : List GLw) (aG : Int) (bw : List GLe) (j0 : VV), m = List.length p6 ∧ 0 ≤ aG ∧ List.drop (Int.toNat aG) ag.Words = p6 ∧ st.df = [] ∧ 7 ≤ st.nx ∧ st.H 0 = some (.cells (some 28) (cGLs ag)) ∧ st.tm 1 = .sl (aa eI bp) (List.length bp) false ∧ st.tm 2 = .ptr 0 0 ∧ st.tm 11 = .lit (.int .i64 (List.length ag.Words : Int)) ∧ st.tm 5 = j0 ∧ st.tm 12 = .lit (.int .i64 aG) ∧ ((∃ (β : Nat) (el : Option TypeId), j0 = .ref β 0 (List.length bw) 2 (List.length bw) ∧ β < st.nx ∧ β ≠ 0 ∧ st.H β = some (.cells el (aa cGLe bw))) ∨ (j0 = .lit (.slice none 0 0) ∧ bw = [])) ∧ K6 (f6 p6 aG bw)) := ⟨_, rfl⟩
 refine loopK mixed (by kernel_rfl) I6 (List.length ag.Words) (by rw [iV]; refine ⟨ag.Words, 0, ([] : List GLe), .lit (.slice none 0 0), rfl, qZf _, rfl, rfl, (show 7 ≤ 7 by omega), ?_, ?_, ?_, ?_, ?_, ?_, Or.inr ⟨rfl, rfl⟩, h⟩ <;> first | (simp only [ua, nm, seval] <;> rfl) | rfl) ?_
 rintro m ⟨tm, H, eh, df⟩ hinv
 rw [iV] at hinv
 obtain ⟨p6, aG, bw, j0, rfl, cZ, eJ, hdf, pO, H8, e9, bg, bj, bD, bt, ka, h⟩ := hinv
 simp only at hdf pO H8 e9 bg bj bD bt ka
 have ct := gT (m := 7) (b := eh) (by omega)
 subst hdf yj
 rcases ka with ⟨ir, gP, rfl, Oi, t5, wj⟩ | ⟨rfl, rfl⟩
 ·have wm := t6 Oi
  have ma := ne_f t5
  cases p6 with
  | nil =>
   have dv : (decide (aG < (List.length ag.Words : Int))) = false := fA cZ eJ
   simp only [pU, hs, reduceCtorEq] at h
   replace h := t4 _ h
   try dsimp only at h
   try simp only [hs] at h
   try simp only [vz, tyf, g7, ct, e9, bg, bj, bD, bt, H8, wm, wj, ma, dv, nm, seval]
   refine cG (x := (.ref ir 0 (List.length bw) 2 (List.length bw))) (by first | (simp only [Tryz.results116, resV, resL, aD, cX, cW, uw, cr, tyf, g7, ct, H8, wm, wj, ma, dv, nm, seval] <;> rfl) | rfl) ?_
   obtain rfl := kF _ h
   refine cY ?_ ?_
   ·simp only [tre, ar, Bool.and_self]
   ·first | (simp only [outV, uw, eu, cr, tyf, nrm, au, g7, ct, e9, bg, bj, bD, bt, H8, wm, wj, ma, dv, nm, seval] <;> rfl) | rfl
  | cons e6 p6 =>
   have eU : (decide (aG < (List.length ag.Words : Int))) = true := fB cZ eJ
   have iS := dU cZ eJ
   have Oj := fC cZ eJ g7
   simp only [pU, hs, reduceCtorEq] at h
   obtain ⟨yh, kM, h⟩ := optI h iU
   try simp only [hs] at h
   simp only [vz, tyf, g7, ct, e9, bg, bj, bD, bt, H8, wm, wj, ma, eU, (aE iS), Oj, nm, seval]
   refine ktA (Cf _ _ _ kM) ?_
   refine bC (fun tm => tm 1 = .sl (aa eI bp) (List.length bp) false ∧ tm 2 = .ptr 0 0 ∧ tm 5 = .ref ir 0 (List.length bw) 2 (List.length bw) ∧ tm 6 = .lit (.int .i64 aG) ∧ tm 11 = .lit (.int .i64 (List.length ag.Words : Int)) ∧ tm 12 = .lit (.int .i64 aG) ∧ tm 17 = .lit (.bool yh) ∧ True) (by refine ⟨e9, bg, bD, ?_, bj, bt, ?_, trivial⟩ <;> first | (simp only [ua, ct, e9, bg, bj, bD, bt, H8, wm, wj, ma, eU, Oj, nm, seval] <;> rfl) | rfl) ?_
   rintro tm ⟨dV, dW, dT, eZ, fE, dM, bu, _⟩
   have dq := And.intro g7 (And.intro ct (And.intro H8 (And.intro wm (And.intro wj (And.intro ma (And.intro eU Oj))))))
   cases fT : (yh)
   ·simp only [fT, hs] at h
    cases jE : (lenOk e6.Cuts)
    ·simp only [jE, hs] at h
     exact absurd h iU
    simp only [jE, hs] at h
    simp only [vz, tyf, dq, (aE iS), dV, dW, dT, eZ, fE, dM, bu, fT, jE, nm, seval]
    obtain ⟨Wv, h, Ww, AB, Wx, AD⟩ := gS h iU
    obtain ⟨Wy, Ok, h⟩ := call3 h
    obtain ⟨Wz, qY⟩ : ∃ I : Nat → St → Prop, I = (fun m st => ∃ (nK : List Int) (dk : Int) (cR : List GLe) (mn : VV), m = List.length nK ∧ 0 ≤ dk ∧ List.drop (Int.toNat dk) e6.Cuts = nK ∧ st.df = [] ∧ eh + 14 ≤ st.nx ∧ st.H 0 = some (.cells (some 28) (cGLs ag)) ∧ st.tm 1 = .sl (aa eI bp) (List.length bp) false ∧ st.tm 2 = .ptr 0 0 ∧ st.tm 6 = .lit (.int .i64 aG) ∧ st.tm 11 = .lit (.int .i64 (List.length ag.Words : Int)) ∧ st.tm 12 = .lit (.int .i64 aG) ∧ st.tm 23 = .sl (aa eI e6.Cuts) (List.length e6.Cuts) false ∧ st.tm 24 = .lit (.int .i64 (List.length e6.Cuts : Int)) ∧ st.tm 5 = mn ∧ st.tm 25 = .lit (.int .i64 dk) ∧ ((∃ (β : Nat) (el : Option TypeId), mn = .ref β 0 (List.length cR) 2 (List.length cR) ∧ β < st.nx ∧ β ≠ 0 ∧ st.H β = some (.cells el (aa cGLe cR))) ∨ (mn = .lit (.slice none 0 0) ∧ cR = [])) ∧ Wv (Wy nK dk cR)) := ⟨_, rfl⟩
    refine loopK mixed (by kernel_rfl) Wz (List.length e6.Cuts) (by rw [qY]; refine ⟨e6.Cuts, 0, bw, .ref ir 0 (List.length bw) 2 (List.length bw), rfl, qZf _, rfl, rfl, (show eh + 14 ≤ eh + 14 by omega), ?_, dV, dW, eZ, fE, dM, ?_, ?_, ?_, ?_, Or.inl ⟨ir, gP, rfl, (by first | omega | (simp only [nm, seval]; done) | (simp only [nm, seval]; omega)), (by first | omega | (intro hh; simp only [dq, reduceCtorEq] at hh)), ?_⟩, h⟩ <;> first | (simp only [ua, dq, dV, dW, dT, eZ, fE, dM, bu, fT, nm, seval] <;> rfl) | rfl) ?_
    rintro m ⟨tm, H, fU, df⟩ hinv
    rw [qY] at hinv
    obtain ⟨nK, dk, cR, mn, rfl, gW, jc, hdf, Ol, dY, cL, cz, bL, bJ, bF, bG, bx, ca, cT, ph, h⟩ := hinv
    simp only at hdf Ol dY cL cz bL bJ bF bG bx ca cT ph
    have dQ := gT (m := 7) (b := fU) (by omega)
    have gf := qk (a := eh) (m := 14) (b := fU) (by omega)
    subst hdf Ok
    rcases ph with ⟨RQ, jF, rfl, tY, tZ, mo⟩ | ⟨rfl, rfl⟩
    ·have iv := t6 tY
     have iw := ne_f tZ
     cases nK with
     | nil =>
      have mA : (decide (dk < (List.length e6.Cuts : Int))) = false := fA gW jc
      simp only [nr, hs, reduceCtorEq] at h
      replace h := AB _ h
      try dsimp only at h
      try simp only [hs] at h
      cases u4 : (aB 16 (List.length (cR ++ [(GLe.mk aG (List.length e6.Signs : Int))])))
      ·simp only [u4, hs] at h
       exact absurd h iU
      simp only [u4, hs] at h
      simp only [vz, tyf, dq, (aE iS), fT, jE, dQ, gf, cL, cz, bL, bJ, bF, bG, bx, ca, cT, dY, iv, mo, iw, mA, u4, nm, seval]
      refine k_app (w := 2) (enc := cGLe) (xs := cR) (ys := ([(GLe.mk aG (List.length e6.Signs : Int))])) (el := jF) (fz := (some 100)) (fun _ => rfl) fJ fI Tryz.underlying29 (by first | rfl | assumption | (simp only [bl, bI, gG, dq, dQ, gf, dY, iv, mo, iw, nm, seval] <;> rfl) | (simp only [bl, bI, eY, eQ, eW, eX, tyf, dq, (aE iS), fT, jE, dQ, gf, cL, cz, bL, bJ, bF, bG, bx, ca, cT, dY, iv, mo, iw, mA, u4, nm, seval]; done)) (by first | rfl | assumption | (simp only [bl, bI, gG, dq, dQ, gf, dY, iv, mo, iw, nm, seval] <;> rfl) | (simp only [bl, bI, eY, eQ, eW, eX, tyf, dq, (aE iS), fT, jE, dQ, gf, cL, cz, bL, bJ, bF, bG, bx, ca, cT, dY, iv, mo, iw, mA, u4, nm, seval]; done)) (Nat.zero_lt_succ _) u4 ?_
      simp only [vz, tyf, dq, (aE iS), fT, jE, dQ, gf, cL, cz, bL, bJ, bF, bG, bx, ca, cT, dY, iv, mo, iw, mA, u4, nm, seval]
      exact ⟨List.length p6, qZc _, by rw [iV]; refine ⟨p6, aG + 1, (cR ++ [(GLe.mk aG (List.length e6.Signs : Int))]), .ref (fU + 12) 0 (List.length (cR ++ [(GLe.mk aG (List.length e6.Signs : Int))])) 2 (List.length (cR ++ [(GLe.mk aG (List.length e6.Signs : Int))])), rfl, Int.le_trans cZ (Int.le_add_one (qZf _)), bY cZ eJ, rfl, (show 7 ≤ fU + 16 by omega), ?_, cL, cz, bJ, ?_, ?_, Or.inl ⟨fU + 12, (sameEl jF 100), rfl, (by first | omega | (simp only [nm, seval]; done) | (simp only [nm, seval]; omega)), (by first | omega | (intro hh; simp only [dq, dQ, gf, iv, iw, reduceCtorEq] at hh)), ?_⟩, (by first | exact h | (simp only [dq, fT, mA]; exact h))⟩ <;> first | (simp only [ua, dq, fT, dQ, gf, cL, cz, bL, bJ, bF, bG, bx, ca, cT, dY, iv, mo, iw, mA, nm, seval] <;> rfl) | rfl⟩
     | cons fx nK =>
      have oB : (decide (dk < (List.length e6.Cuts : Int))) = true := fB gW jc
      have C1 := dU gW jc
      have AE := fC gW jc jE
      simp only [nr, hs, reduceCtorEq] at h
      cases u5 : (aB 16 (List.length (cR ++ [(GLe.mk aG fx)])))
      ·simp only [u5, hs] at h
       exact absurd h AD
      simp only [u5, hs] at h
      simp only [vz, tyf, dq, (aE iS), fT, jE, dQ, gf, cL, cz, bL, bJ, bF, bG, bx, ca, cT, dY, iv, mo, iw, oB, (aC C1), AE, u5, nm, seval]
      refine k_app (w := 2) (enc := cGLe) (xs := cR) (ys := ([(GLe.mk aG fx)])) (el := jF) (fz := (some 100)) (fun _ => rfl) fJ fI Tryz.underlying29 (by first | rfl | assumption | (simp only [bl, bI, gG, dq, dQ, gf, dY, iv, mo, iw, nm, seval] <;> rfl) | (simp only [bl, bI, eY, eQ, eW, eX, tyf, dq, (aE iS), fT, jE, dQ, gf, cL, cz, bL, bJ, bF, bG, bx, ca, cT, dY, iv, mo, iw, oB, (aC C1), AE, u5, nm, seval]; done)) (by first | rfl | assumption | (simp only [bl, bI, gG, dq, dQ, gf, dY, iv, mo, iw, nm, seval] <;> rfl) | (simp only [bl, bI, eY, eQ, eW, eX, tyf, dq, (aE iS), fT, jE, dQ, gf, cL, cz, bL, bJ, bF, bG, bx, ca, cT, dY, iv, mo, iw, oB, (aC C1), AE, u5, nm, seval]; done)) (Nat.zero_lt_succ _) u5 ?_
      simp only [vz, tyf, dq, (aE iS), fT, jE, dQ, gf, cL, cz, bL, bJ, bF, bG, bx, ca, cT, dY, iv, mo, iw, oB, (aC C1), AE, u5, nm, seval]
      exact ⟨List.length nK, qZc _, by rw [qY]; refine ⟨nK, dk + 1, (cR ++ [(GLe.mk aG fx)]), .ref (fU + 9) 0 (List.length (cR ++ [(GLe.mk aG fx)])) 2 (List.length (cR ++ [(GLe.mk aG fx)])), rfl, Int.le_trans gW (Int.le_add_one (qZf _)), bY gW jc, rfl, (show eh + 14 ≤ fU + 13 by omega), ?_, cL, cz, bL, bJ, bF, bG, bx, ?_, ?_, Or.inl ⟨fU + 9, (sameEl jF 100), rfl, (by first | omega | (simp only [nm, seval]; done) | (simp only [nm, seval]; omega)), (by first | omega | (intro hh; simp only [dq, dQ, gf, iv, iw, reduceCtorEq] at hh)), ?_⟩, (by first | exact h | (simp only [dq, fT, oB]; exact h))⟩ <;> first | (simp only [ua, dq, fT, dQ, gf, cL, cz, bL, bJ, bF, bG, bx, ca, cT, dY, iv, mo, iw, oB, AE, nm, seval] <;> rfl) | rfl⟩
    ·cases nK with
     | nil =>
      have iZ : (decide (dk < (List.length e6.Cuts : Int))) = false := fA gW jc
      simp only [nr, hs, reduceCtorEq] at h
      replace h := AB _ h
      try dsimp only at h
      try simp only [hs] at h
      cases wo : (aB 16 (List.length (([] : List GLe) ++ [(GLe.mk aG (List.length e6.Signs : Int))])))
      ·simp only [wo, hs] at h
       exact absurd h iU
      simp only [wo, hs] at h
      simp only [vz, tyf, dq, (aE iS), fT, jE, dQ, gf, cL, cz, bL, bJ, bF, bG, bx, ca, cT, dY, iZ, wo, nm, seval]
      refine nE (w := 2) (enc := cGLe) (ys := ([(GLe.mk aG (List.length e6.Signs : Int))])) (fz := (some 100)) (fun _ => rfl) fJ fI Tryz.underlying29 (by first | rfl | assumption | (simp only [bl, bI, gG, dq, dQ, gf, dY, nm, seval] <;> rfl) | (simp only [bl, bI, eY, eQ, eW, eX, tyf, dq, (aE iS), fT, jE, dQ, gf, cL, cz, bL, bJ, bF, bG, bx, ca, cT, dY, iZ, wo, nm, seval]; done)) (Nat.zero_lt_succ _) wo ?_
      simp only [vz, tyf, dq, (aE iS), fT, jE, dQ, gf, cL, cz, bL, bJ, bF, bG, bx, ca, cT, dY, iZ, wo, nm, seval]
      exact ⟨List.length p6, qZc _, by rw [iV]; refine ⟨p6, aG + 1, (([] : List GLe) ++ [(GLe.mk aG (List.length e6.Signs : Int))]), .ref (fU + 12) 0 (List.length (([] : List GLe) ++ [(GLe.mk aG (List.length e6.Signs : Int))])) 2 (List.length (([] : List GLe) ++ [(GLe.mk aG (List.length e6.Signs : Int))])), rfl, Int.le_trans cZ (Int.le_add_one (qZf _)), bY cZ eJ, rfl, (show 7 ≤ fU + 16 by omega), ?_, cL, cz, bJ, ?_, ?_, Or.inl ⟨fU + 12, (some 100), rfl, (by first | omega | (simp only [nm, seval]; done) | (simp only [nm, seval]; omega)), (by first | omega | (intro hh; simp only [dq, dQ, gf, reduceCtorEq] at hh)), ?_⟩, (by first | exact h | (simp only [dq, fT, iZ]; exact h))⟩ <;> first | (simp only [ua, dq, fT, dQ, gf, cL, cz, bL, bJ, bF, bG, bx, ca, cT, dY, iZ, nm, seval] <;> rfl) | rfl⟩
     | cons fx nK =>
      have im : (decide (dk < (List.length e6.Cuts : Int))) = true := fB gW jc
      have ln := dU gW jc
      have kQ := fC gW jc jE
      simp only [nr, hs, reduceCtorEq] at h
      cases wq : (aB 16 (List.length (([] : List GLe) ++ [(GLe.mk aG fx)])))
      ·simp only [wq, hs] at h
       exact absurd h AD
      simp only [wq, hs] at h
      simp only [vz, tyf, dq, (aE iS), fT, jE, dQ, gf, cL, cz, bL, bJ, bF, bG, bx, ca, cT, dY, im, (aC ln), kQ, wq, nm, seval]
      refine nE (w := 2) (enc := cGLe) (ys := ([(GLe.mk aG fx)])) (fz := (some 100)) (fun _ => rfl) fJ fI Tryz.underlying29 (by first | rfl | assumption | (simp only [bl, bI, gG, dq, dQ, gf, dY, nm, seval] <;> rfl) | (simp only [bl, bI, eY, eQ, eW, eX, tyf, dq, (aE iS), fT, jE, dQ, gf, cL, cz, bL, bJ, bF, bG, bx, ca, cT, dY, im, (aC ln), kQ, wq, nm, seval]; done)) (Nat.zero_lt_succ _) wq ?_
      simp only [vz, tyf, dq, (aE iS), fT, jE, dQ, gf, cL, cz, bL, bJ, bF, bG, bx, ca, cT, dY, im, (aC ln), kQ, wq, nm, seval]
      exact ⟨List.length nK, qZc _, by rw [qY]; refine ⟨nK, dk + 1, (([] : List GLe) ++ [(GLe.mk aG fx)]), .ref (fU + 9) 0 (List.length (([] : List GLe) ++ [(GLe.mk aG fx)])) 2 (List.length (([] : List GLe) ++ [(GLe.mk aG fx)])), rfl, Int.le_trans gW (Int.le_add_one (qZf _)), bY gW jc, rfl, (show eh + 14 ≤ fU + 13 by omega), ?_, cL, cz, bL, bJ, bF, bG, bx, ?_, ?_, Or.inl ⟨fU + 9, (some 100), rfl, (by first | omega | (simp only [nm, seval]; done) | (simp only [nm, seval]; omega)), (by first | omega | (intro hh; simp only [dq, dQ, gf, reduceCtorEq] at hh)), ?_⟩, (by first | exact h | (simp only [dq, fT, im]; exact h))⟩ <;> first | (simp only [ua, dq, fT, dQ, gf, cL, cz, bL, bJ, bF, bG, bx, ca, cT, dY, im, kQ, nm, seval] <;> rfl) | rfl⟩
   simp only [fT, hs] at h
   simp only [vz, tyf, dq, (aE iS), dV, dW, dT, eZ, fE, dM, bu, fT, nm, seval]
   exact ⟨List.length p6, qZc _, by rw [iV]; refine ⟨p6, aG + 1, bw, .ref ir 0 (List.length bw) 2 (List.length bw), rfl, Int.le_trans cZ (Int.le_add_one (qZf _)), bY cZ eJ, rfl, (show 7 ≤ eh + 8 by omega), ?_, dV, dW, fE, ?_, ?_, Or.inl ⟨ir, gP, rfl, (by first | omega | (simp only [nm, seval]; done) | (simp only [nm, seval]; omega)), (by first | omega | (intro hh; simp only [dq, reduceCtorEq] at hh)), ?_⟩, (by first | exact h | (simp only [dq, fT]; exact h))⟩ <;> first | (simp only [ua, dq, dV, dW, dT, eZ, fE, dM, bu, fT, nm, seval] <;> rfl) | rfl⟩
 ·cases p6 with
  | nil =>
   have Om : (decide (aG < (List.length ag.Words : Int))) = false := fA cZ eJ
   simp only [pU, hs, reduceCtorEq] at h
   replace h := t4 _ h
   try dsimp only at h
   try simp only [hs] at h
   try simp only [vz, tyf, g7, ct, e9, bg, bj, bD, bt, H8, Om, nm, seval]
   refine cG (x := (.lit (.slice none 0 0))) (by first | (simp only [Tryz.results116, resV, resL, aD, cX, cW, uw, cr, tyf, g7, ct, H8, Om, nm, seval] <;> rfl) | rfl) ?_
   obtain rfl := kF _ h
   refine cY ?_ ?_
   ·simp only [tre, ar, Bool.and_self]
   ·first | (simp only [outV, uw, eu, cr, tyf, nrm, au, g7, ct, e9, bg, bj, bD, bt, H8, Om, nm, seval] <;> rfl) | rfl
  | cons e6 p6 =>
   have fV : (decide (aG < (List.length ag.Words : Int))) = true := fB cZ eJ
   have ky := dU cZ eJ
   have hX := fC cZ eJ g7
   simp only [pU, hs, reduceCtorEq] at h
   obtain ⟨RT, xv, h⟩ := optI h iU
   try simp only [hs] at h
   simp only [vz, tyf, g7, ct, e9, bg, bj, bD, bt, H8, fV, (aE ky), hX, nm, seval]
   refine ktA (Cf _ _ _ xv) ?_
   refine bC (fun tm => tm 1 = .sl (aa eI bp) (List.length bp) false ∧ tm 2 = .ptr 0 0 ∧ tm 5 = .lit (.slice none 0 0) ∧ tm 6 = .lit (.int .i64 aG) ∧ tm 11 = .lit (.int .i64 (List.length ag.Words : Int)) ∧ tm 12 = .lit (.int .i64 aG) ∧ tm 17 = .lit (.bool RT) ∧ True) (by refine ⟨e9, bg, bD, ?_, bj, bt, ?_, trivial⟩ <;> first | (simp only [ua, ct, e9, bg, bj, bD, bt, H8, fV, hX, nm, seval] <;> rfl) | rfl) ?_
   rintro tm ⟨pP, pQ, eG, lS, jg, lh, fZ, _⟩
   cases fW : (RT)
   ·simp only [fW, hs] at h
    cases jG : (lenOk e6.Cuts)
    ·simp only [jG, hs] at h
     exact absurd h iU
    simp only [jG, hs] at h
    simp only [vz, tyf, g7, ct, H8, fV, (aE ky), hX, pP, pQ, eG, lS, jg, lh, fZ, fW, jG, nm, seval]
    obtain ⟨W6, h, W7, AF, W8, AG⟩ := gS h iU
    obtain ⟨W9, On, h⟩ := call3 h
    obtain ⟨WA, qZ⟩ : ∃ I : Nat → St → Prop, I = (fun m st => ∃ (nL : List Int) (dm : Int) (cS : List GLe) (mr : VV), m = List.length nL ∧ 0 ≤ dm ∧ List.drop (Int.toNat dm) e6.Cuts = nL ∧ st.df = [] ∧ eh + 14 ≤ st.nx ∧ st.H 0 = some (.cells (some 28) (cGLs ag)) ∧ st.tm 1 = .sl (aa eI bp) (List.length bp) false ∧ st.tm 2 = .ptr 0 0 ∧ st.tm 6 = .lit (.int .i64 aG) ∧ st.tm 11 = .lit (.int .i64 (List.length ag.Words : Int)) ∧ st.tm 12 = .lit (.int .i64 aG) ∧ st.tm 23 = .sl (aa eI e6.Cuts) (List.length e6.Cuts) false ∧ st.tm 24 = .lit (.int .i64 (List.length e6.Cuts : Int)) ∧ st.tm 5 = mr ∧ st.tm 25 = .lit (.int .i64 dm) ∧ ((∃ (β : Nat) (el : Option TypeId), mr = .ref β 0 (List.length cS) 2 (List.length cS) ∧ β < st.nx ∧ β ≠ 0 ∧ st.H β = some (.cells el (aa cGLe cS))) ∨ (mr = .lit (.slice none 0 0) ∧ cS = [])) ∧ W6 (W9 nL dm cS)) := ⟨_, rfl⟩
    refine loopK mixed (by kernel_rfl) WA (List.length e6.Cuts) (by rw [qZ]; refine ⟨e6.Cuts, 0, ([] : List GLe), .lit (.slice none 0 0), rfl, qZf _, rfl, rfl, (show eh + 14 ≤ eh + 14 by omega), ?_, pP, pQ, lS, jg, lh, ?_, ?_, ?_, ?_, Or.inr ⟨rfl, rfl⟩, h⟩ <;> first | (simp only [ua, ct, H8, fV, hX, pP, pQ, eG, lS, jg, lh, fZ, fW, nm, seval] <;> rfl) | rfl) ?_
    rintro m ⟨tm, H, fX, df⟩ hinv
    rw [qZ] at hinv
    obtain ⟨nL, dm, cS, mr, rfl, gX, jd, hdf, Oo, gY, bO, bP, bN, bM, cN, cU, cV, cK, cM, pj, h⟩ := hinv
    simp only at hdf Oo gY bO bP bN bM cN cU cV cK cM pj
    have gg := gT (m := 7) (b := fX) (by omega)
    have dL := qk (a := eh) (m := 14) (b := fX) (by omega)
    subst hdf On
    rcases pj with ⟨RU, jH, rfl, Oq, Ot, mu⟩ | ⟨rfl, rfl⟩
    ·have kT := t6 Oq
     have kU := ne_f Ot
     cases nL with
     | nil =>
      have wu : (decide (dm < (List.length e6.Cuts : Int))) = false := fA gX jd
      simp only [nr, hs, reduceCtorEq] at h
      replace h := AF _ h
      try dsimp only at h
      try simp only [hs] at h
      cases u6 : (aB 16 (List.length (cS ++ [(GLe.mk aG (List.length e6.Signs : Int))])))
      ·simp only [u6, hs] at h
       exact absurd h iU
      simp only [u6, hs] at h
      simp only [vz, tyf, g7, ct, fV, (aE ky), hX, fW, jG, gg, dL, bO, bP, bN, bM, cN, cU, cV, cK, cM, gY, kT, mu, kU, wu, u6, nm, seval]
      refine k_app (w := 2) (enc := cGLe) (xs := cS) (ys := ([(GLe.mk aG (List.length e6.Signs : Int))])) (el := jH) (fz := (some 100)) (fun _ => rfl) fJ fI Tryz.underlying29 (by first | rfl | assumption | (simp only [bl, bI, gG, ct, gg, dL, gY, kT, mu, kU, nm, seval] <;> rfl) | (simp only [bl, bI, eY, eQ, eW, eX, tyf, g7, ct, fV, (aE ky), hX, fW, jG, gg, dL, bO, bP, bN, bM, cN, cU, cV, cK, cM, gY, kT, mu, kU, wu, u6, nm, seval]; done)) (by first | rfl | assumption | (simp only [bl, bI, gG, ct, gg, dL, gY, kT, mu, kU, nm, seval] <;> rfl) | (simp only [bl, bI, eY, eQ, eW, eX, tyf, g7, ct, fV, (aE ky), hX, fW, jG, gg, dL, bO, bP, bN, bM, cN, cU, cV, cK, cM, gY, kT, mu, kU, wu, u6, nm, seval]; done)) (Nat.zero_lt_succ _) u6 ?_
      simp only [vz, tyf, g7, ct, fV, (aE ky), hX, fW, jG, gg, dL, bO, bP, bN, bM, cN, cU, cV, cK, cM, gY, kT, mu, kU, wu, u6, nm, seval]
      exact ⟨List.length p6, qZc _, by rw [iV]; refine ⟨p6, aG + 1, (cS ++ [(GLe.mk aG (List.length e6.Signs : Int))]), .ref (fX + 12) 0 (List.length (cS ++ [(GLe.mk aG (List.length e6.Signs : Int))])) 2 (List.length (cS ++ [(GLe.mk aG (List.length e6.Signs : Int))])), rfl, Int.le_trans cZ (Int.le_add_one (qZf _)), bY cZ eJ, rfl, (show 7 ≤ fX + 16 by omega), ?_, bO, bP, bM, ?_, ?_, Or.inl ⟨fX + 12, (sameEl jH 100), rfl, (by first | omega | (simp only [nm, seval]; done) | (simp only [nm, seval]; omega)), (by first | omega | (intro hh; simp only [ct, gg, dL, kT, kU, reduceCtorEq] at hh)), ?_⟩, (by first | exact h | (simp only [fV, fW, wu]; exact h))⟩ <;> first | (simp only [ua, ct, fV, hX, fW, gg, dL, bO, bP, bN, bM, cN, cU, cV, cK, cM, gY, kT, mu, kU, wu, nm, seval] <;> rfl) | rfl⟩
     | cons eT nL =>
      have wv : (decide (dm < (List.length e6.Cuts : Int))) = true := fB gX jd
      have C2 := dU gX jd
      have AH := fC gX jd jG
      simp only [nr, hs, reduceCtorEq] at h
      cases u7 : (aB 16 (List.length (cS ++ [(GLe.mk aG eT)])))
      ·simp only [u7, hs] at h
       exact absurd h AG
      simp only [u7, hs] at h
      simp only [vz, tyf, g7, ct, fV, (aE ky), hX, fW, jG, gg, dL, bO, bP, bN, bM, cN, cU, cV, cK, cM, gY, kT, mu, kU, wv, (aC C2), AH, u7, nm, seval]
      refine k_app (w := 2) (enc := cGLe) (xs := cS) (ys := ([(GLe.mk aG eT)])) (el := jH) (fz := (some 100)) (fun _ => rfl) fJ fI Tryz.underlying29 (by first | rfl | assumption | (simp only [bl, bI, gG, ct, gg, dL, gY, kT, mu, kU, nm, seval] <;> rfl) | (simp only [bl, bI, eY, eQ, eW, eX, tyf, g7, ct, fV, (aE ky), hX, fW, jG, gg, dL, bO, bP, bN, bM, cN, cU, cV, cK, cM, gY, kT, mu, kU, wv, (aC C2), AH, u7, nm, seval]; done)) (by first | rfl | assumption | (simp only [bl, bI, gG, ct, gg, dL, gY, kT, mu, kU, nm, seval] <;> rfl) | (simp only [bl, bI, eY, eQ, eW, eX, tyf, g7, ct, fV, (aE ky), hX, fW, jG, gg, dL, bO, bP, bN, bM, cN, cU, cV, cK, cM, gY, kT, mu, kU, wv, (aC C2), AH, u7, nm, seval]; done)) (Nat.zero_lt_succ _) u7 ?_
      simp only [vz, tyf, g7, ct, fV, (aE ky), hX, fW, jG, gg, dL, bO, bP, bN, bM, cN, cU, cV, cK, cM, gY, kT, mu, kU, wv, (aC C2), AH, u7, nm, seval]
      exact ⟨List.length nL, qZc _, by rw [qZ]; refine ⟨nL, dm + 1, (cS ++ [(GLe.mk aG eT)]), .ref (fX + 9) 0 (List.length (cS ++ [(GLe.mk aG eT)])) 2 (List.length (cS ++ [(GLe.mk aG eT)])), rfl, Int.le_trans gX (Int.le_add_one (qZf _)), bY gX jd, rfl, (show eh + 14 ≤ fX + 13 by omega), ?_, bO, bP, bN, bM, cN, cU, cV, ?_, ?_, Or.inl ⟨fX + 9, (sameEl jH 100), rfl, (by first | omega | (simp only [nm, seval]; done) | (simp only [nm, seval]; omega)), (by first | omega | (intro hh; simp only [ct, gg, dL, kT, kU, reduceCtorEq] at hh)), ?_⟩, (by first | exact h | (simp only [fV, fW, wv]; exact h))⟩ <;> first | (simp only [ua, ct, fV, hX, fW, gg, dL, bO, bP, bN, bM, cN, cU, cV, cK, cM, gY, kT, mu, kU, wv, AH, nm, seval] <;> rfl) | rfl⟩
    ·cases nL with
     | nil =>
      have qQ : (decide (dm < (List.length e6.Cuts : Int))) = false := fA gX jd
      simp only [nr, hs, reduceCtorEq] at h
      replace h := AF _ h
      try dsimp only at h
      try simp only [hs] at h
      cases nt : (aB 16 (List.length (([] : List GLe) ++ [(GLe.mk aG (List.length e6.Signs : Int))])))
      ·simp only [nt, hs] at h
       exact absurd h iU
      simp only [nt, hs] at h
      simp only [vz, tyf, g7, ct, fV, (aE ky), hX, fW, jG, gg, dL, bO, bP, bN, bM, cN, cU, cV, cK, cM, gY, qQ, nt, nm, seval]
      refine nE (w := 2) (enc := cGLe) (ys := ([(GLe.mk aG (List.length e6.Signs : Int))])) (fz := (some 100)) (fun _ => rfl) fJ fI Tryz.underlying29 (by first | rfl | assumption | (simp only [bl, bI, gG, ct, gg, dL, gY, nm, seval] <;> rfl) | (simp only [bl, bI, eY, eQ, eW, eX, tyf, g7, ct, fV, (aE ky), hX, fW, jG, gg, dL, bO, bP, bN, bM, cN, cU, cV, cK, cM, gY, qQ, nt, nm, seval]; done)) (Nat.zero_lt_succ _) nt ?_
      simp only [vz, tyf, g7, ct, fV, (aE ky), hX, fW, jG, gg, dL, bO, bP, bN, bM, cN, cU, cV, cK, cM, gY, qQ, nt, nm, seval]
      exact ⟨List.length p6, qZc _, by rw [iV]; refine ⟨p6, aG + 1, (([] : List GLe) ++ [(GLe.mk aG (List.length e6.Signs : Int))]), .ref (fX + 12) 0 (List.length (([] : List GLe) ++ [(GLe.mk aG (List.length e6.Signs : Int))])) 2 (List.length (([] : List GLe) ++ [(GLe.mk aG (List.length e6.Signs : Int))])), rfl, Int.le_trans cZ (Int.le_add_one (qZf _)), bY cZ eJ, rfl, (show 7 ≤ fX + 16 by omega), ?_, bO, bP, bM, ?_, ?_, Or.inl ⟨fX + 12, (some 100), rfl, (by first | omega | (simp only [nm, seval]; done) | (simp only [nm, seval]; omega)), (by first | omega | (intro hh; simp only [ct, gg, dL, reduceCtorEq] at hh)), ?_⟩, (by first | exact h | (simp only [fV, fW, qQ]; exact h))⟩ <;> first | (simp only [ua, ct, fV, hX, fW, gg, dL, bO, bP, bN, bM, cN, cU, cV, cK, cM, gY, qQ, nm, seval] <;> rfl) | rfl⟩
     | cons eT nL =>
      have pk : (decide (dm < (List.length e6.Cuts : Int))) = true := fB gX jd
      have u9 := dU gX jd
      have ra := fC gX jd jG
      simp only [nr, hs, reduceCtorEq] at h
      cases nu : (aB 16 (List.length (([] : List GLe) ++ [(GLe.mk aG eT)])))
      ·simp only [nu, hs] at h
       exact absurd h AG
      simp only [nu, hs] at h
      simp only [vz, tyf, g7, ct, fV, (aE ky), hX, fW, jG, gg, dL, bO, bP, bN, bM, cN, cU, cV, cK, cM, gY, pk, (aC u9), ra, nu, nm, seval]
      refine nE (w := 2) (enc := cGLe) (ys := ([(GLe.mk aG eT)])) (fz := (some 100)) (fun _ => rfl) fJ fI Tryz.underlying29 (by first | rfl | assumption | (simp only [bl, bI, gG, ct, gg, dL, gY, nm, seval] <;> rfl) | (simp only [bl, bI, eY, eQ, eW, eX, tyf, g7, ct, fV, (aE ky), hX, fW, jG, gg, dL, bO, bP, bN, bM, cN, cU, cV, cK, cM, gY, pk, (aC u9), ra, nu, nm, seval]; done)) (Nat.zero_lt_succ _) nu ?_
      simp only [vz, tyf, g7, ct, fV, (aE ky), hX, fW, jG, gg, dL, bO, bP, bN, bM, cN, cU, cV, cK, cM, gY, pk, (aC u9), ra, nu, nm, seval]
      exact ⟨List.length nL, qZc _, by rw [qZ]; refine ⟨nL, dm + 1, (([] : List GLe) ++ [(GLe.mk aG eT)]), .ref (fX + 9) 0 (List.length (([] : List GLe) ++ [(GLe.mk aG eT)])) 2 (List.length (([] : List GLe) ++ [(GLe.mk aG eT)])), rfl, Int.le_trans gX (Int.le_add_one (qZf _)), bY gX jd, rfl, (show eh + 14 ≤ fX + 13 by omega), ?_, bO, bP, bN, bM, cN, cU, cV, ?_, ?_, Or.inl ⟨fX + 9, (some 100), rfl, (by first | omega | (simp only [nm, seval]; done) | (simp only [nm, seval]; omega)), (by first | omega | (intro hh; simp only [ct, gg, dL, reduceCtorEq] at hh)), ?_⟩, (by first | exact h | (simp only [fV, fW, pk]; exact h))⟩ <;> first | (simp only [ua, ct, fV, hX, fW, gg, dL, bO, bP, bN, bM, cN, cU, cV, cK, cM, gY, pk, ra, nm, seval] <;> rfl) | rfl⟩
   simp only [fW, hs] at h
   simp only [vz, tyf, g7, ct, H8, fV, (aE ky), hX, pP, pQ, eG, lS, jg, lh, fZ, fW, nm, seval]
   exact ⟨List.length p6, qZc _, by rw [iV]; refine ⟨p6, aG + 1, ([] : List GLe), .lit (.slice none 0 0), rfl, Int.le_trans cZ (Int.le_add_one (qZf _)), bY cZ eJ, rfl, (show 7 ≤ eh + 8 by omega), ?_, pP, pQ, jg, ?_, ?_, Or.inr ⟨rfl, rfl⟩, (by first | exact h | (simp only [fV, fW]; exact h))⟩ <;> first | (simp only [ua, ct, H8, fV, hX, pP, pQ, eG, lS, jg, lh, fZ, fW, nm, seval] <;> rfl) | rfl⟩
def tV (dS : GLe) : List GLe → Int → Option (LOut (Int) (Unit))
 | [], gi => some (.go ())
 | e0 :: p0, gi => cond (dS.Word == e0.Word && (dS.Letters == e0.Letters)) (some (.ret gi)) (tV dS p0 (gi + 1))
def QV (ag : List GLe) (dS : GLe) : Option (Int) := cond (lenOk ag) (lbind (tV dS ag 0) (fun r2 => some r2) (fun c1 => some (-1)) (fun _ _ => none)) none
def ze  : List GLe → Int → (List GLe) → Option (LOut (Bool) ((List GLe)))
 | [], sk, pn => some (.go pn)
 | e0 :: p0, sk, pn => Option.bind (QV pn e0) (fun r1 => cond (decide (r1 < 0)) (some (.ret false)) (Option.bind (sliceO pn (i64.wrap (r1 + 1)) (List.length pn : Int)) (fun s2 => ze p0 (sk + 1) s2)))
def Kk (mw : List GLe) (kz : List GLe) : Option (Bool) := cond (lenOk mw) (lbind (ze mw 0 kz) (fun r4 => some r4) (fun c3 => some ((List.length c3 : Int) == 0)) (fun _ _ => none)) none
def Ko (ag : GLs) (bZ : GLx) : Option (Bool) := Option.bind (Oh ag bZ.Out) (fun r1 => cond (r1) (Option.bind (uz ag bZ.Out) (fun r2 => Option.bind (Kk bZ.Ends r2) (fun r3 => some r3))) (some false))
theorem AI (n : Int) : ∀ (p : List Int) (i : Int), 0 ≤ i → ∃ r, wh n p i = some r ∧ ((p.contains n = true ∧ ∃ j, r = .ret j ∧ 0 ≤ j) ∨ (p.contains n = false ∧ r = .go ()))
 | [], _, _ => ⟨_, rfl, .inr ⟨rfl, rfl⟩⟩
 | e :: p, i, hi => by
  simp only [wh, List.contains_cons]
  cases h : (n == e) with
  | true => exact ⟨_, rfl, .inl ⟨by simp, i, rfl, hi⟩⟩
  | false =>
   obtain ⟨r, h1, h2⟩ := AI n p (i + 1) (by omega)
   exact ⟨r, h1, by simpa using h2⟩
theorem Qi (l : List Int) (n : Int) (h : lenOk l = true) : vS l n = some (l.contains n) := by
 obtain ⟨r, h1, h2⟩ := AI n l 0 (by omega)
 simp only [vS, C0, h, cond_true, h1]
 rcases h2 with ⟨h2, j, rfl, hj⟩ | ⟨h2, rfl⟩
 ·simp only [HP, Option.bind_some, h2]
  rw [decide_eq_true (show j ≥ 0 from hj)]
 ·simp only [og, Option.bind_some, h2]
  rfl
def freeB (s : GLs) (i : Int) : Bool := match getI s.Words i with | some w => w.Free | none => false
def outB (s : GLs) (out : List Int) : Bool := decide ((out.length : Int) < s.Words.length) && ((incrL out && out.all (inB 0 ((s.Words.length : Int) - 1))) && out.all (freeB s))
theorem Ou {s : GLs} {i : Int} (h : inB 0 ((s.Words.length : Int) - 1) i = true) : ∃ w, getI s.Words i = some w ∧ w ∈ s.Words := by
 rw [sa] at h
 exact RB h.1 (by omega)
theorem AJ (s : GLs) : ∀ (p : List Int) (i : Int), p.all (inB 0 ((s.Words.length : Int) - 1)) = true → Cz s p i = goB (p.all (freeB s))
 | [], _, _ => rfl
 | e :: p, i, h => by
  simp only [List.all_cons, Bool.and_eq_true] at h
  obtain ⟨w, hw, _⟩ := Ou h.1
  have hf : freeB s e = w.Free := by simp [freeB, hw]
  simp only [Cz, hw, Option.bind_some, AJ s p (i + 1) h.2, List.all_cons, hf, mm]
theorem Kp (s : GLs) (out : List Int) (hl : lenOk out = true) (hw : (s.Words.length : Int) < 1000) : Oh s out = some (outB s out) := by
 unfold Oh outB
 by_cases h : (out.length : Int) < s.Words.length
 ·rw [decide_eq_false (show ¬ ((out.length : Int) ≥ s.Words.length) by omega), decide_eq_true h, cond_false, lY (by omega) (by omega), RH _ _ _ hl, Option.bind_some]
  cases hb : (incrL out && out.all (inB 0 ((s.Words.length : Int) - 1))) with
  | false => rfl
  | true =>
   have h2 := (Bool.and_eq_true _ _ ▸ hb).2
   simp only [cond_true, hl, AJ s out 0 h2, vY, Bool.true_and]
   cases out.all (freeB s) <;> rfl
 ·rw [decide_eq_true (show ((out.length : Int) ≥ s.Words.length) by omega), decide_eq_false h]
  rfl
structure Sh (s : GLs) : Prop where
 nwid : 1 ≤ s.Widths.length ∧ s.Widths.length ≤ 6
 wid : ∀ x ∈ s.Widths, 1 ≤ x ∧ x ≤ 20
 npair : s.Pairs.length ≤ 6
 pair : ∀ p ∈ s.Pairs, 0 ≤ p.Left ∧ 0 ≤ p.Right ∧ 0 ≤ p.Space.Low ∧ p.Space.Low ≤ p.Space.High ∧ p.Space.High ≤ 9
 other : 0 ≤ s.Other.Low ∧ s.Other.Low ≤ s.Other.High ∧ s.Other.High ≤ 9
 gap : 0 ≤ s.Gap.Low ∧ s.Gap.Low ≤ s.Gap.High ∧ s.Gap.High ≤ 20
 hyp : 1 ≤ s.Hyphen ∧ s.Hyphen ≤ 20
 nw : 1 ≤ s.Words.length ∧ s.Words.length ≤ 4
 wlen : ∀ w ∈ s.Words, 1 ≤ w.Signs.length ∧ w.Signs.length ≤ 6
 wsign : ∀ w ∈ s.Words, ∀ c ∈ w.Signs, 0 ≤ c ∧ c < s.Widths.length
 wcut : ∀ w ∈ s.Words, incrL w.Cuts = true ∧ (∀ c ∈ w.Cuts, 1 ≤ c ∧ c < w.Signs.length) ∧ w.Cuts.length ≤ 5
 wide : 1 ≤ s.Wide ∧ s.Wide ≤ 400
 rows : 1 ≤ s.Rows ∧ s.Rows ≤ 3
theorem AK {hi : Int} : ∀ (p : List Int) (q : Int), incr q p = true → p.all (inB 1 hi) = true → q ≤ hi → q + p.length ≤ hi
 | [], q, _, _, h => by simpa using h
 | e :: p, q, h1, h2, h3 => by
  simp only [incr, Bool.and_eq_true, Bool.not_eq_true', decide_eq_false_iff_not] at h1
  simp only [List.all_cons, Bool.and_eq_true, sa] at h2
  have := AK p e h1.2 h2.2 h2.1.2
  simp only [List.length_cons]
  omega
theorem Ov {m : Int} : ∀ (p : List GLp) (q : Option GLp), pairsG m q p = true → ∀ x ∈ p, pairB m x = true
 | [], _, _, x, hx => by cases hx
 | e :: p, none, h, x, hx => by
  simp only [pairsG, Bool.and_eq_true] at h
  rcases List.mem_cons.1 hx with rfl | hx
  ·exact h.1
  ·exact Ov p _ h.2 x hx
 | e :: p, some q, h, x, hx => by
  simp only [pairsG, Bool.and_eq_true] at h
  rcases List.mem_cons.1 hx with rfl | hx
  ·exact h.1
  ·exact Ov p _ h.2.2 x hx
theorem sh_of {s : GLs} (h : sheetB s = true) : Sh s := by
 unfold sheetB at h
 simp only [Bool.and_eq_true, sa, List.all_eq_true, decide_eq_true_eq] at h
 obtain ⟨⟨⟨⟨⟨⟨⟨⟨⟨h1, h1'⟩, h2⟩, h3, h3'⟩, h4⟩, h5⟩, h6⟩, h7, h7'⟩, h8⟩, h9⟩ := h
 have hw : i64.wrap ((s.Widths.length : Int) - 1) = (s.Widths.length : Int) - 1 := lY (by omega) (by omega)
 rw [hw] at h3' h7'
 have hsp : ∀ {m : Int} {x : GSpan}, spanB m x = true → 0 ≤ x.Low ∧ x.Low ≤ x.High ∧ x.High ≤ m := by
  intro m x h
  simpa [spanB] using h
 have hwd : ∀ w ∈ s.Words, (1 ≤ w.Signs.length ∧ w.Signs.length ≤ 6) ∧ (∀ c ∈ w.Signs, 0 ≤ c ∧ c < s.Widths.length) ∧ incrL w.Cuts = true ∧ (w.Cuts.all (inB 1 ((w.Signs.length : Int) - 1)) = true) := by
  intro w hw
  have := h7' w hw
  simp only [wordB, Bool.and_eq_true, sa] at this
  obtain ⟨a, b, c, d⟩ := this
  rw [lY (by omega) (by omega)] at d
  refine ⟨by omega, fun x hx => ?_, c, d⟩
  have := List.all_eq_true.1 b x hx
  rw [sa] at this
  omega
 refine ⟨by omega, h2, by omega, fun p hp => ?_, hsp h4, hsp h5, h6, by omega, fun w hw => (hwd w hw).1, fun w hw => (hwd w hw).2.1, fun w hw => ?_, h8, h9⟩
 ·have := Ov _ _ h3' p hp
  simp only [pairB, Bool.and_eq_true, sa] at this
  have h := hsp this.2.2
  omega
 ·obtain ⟨⟨a, a'⟩, b, c, d⟩ := hwd w hw
  have d' : ∀ x ∈ w.Cuts, 1 ≤ x ∧ x < w.Signs.length := by
   intro x hx
   have := List.all_eq_true.1 d x hx
   rw [sa] at this
   omega
  refine ⟨c, d', ?_⟩
  cases hc : w.Cuts with
  | nil => simp
  | cons e p =>
   rw [hc] at c d d'
   have h1 := d' e (qZb ..)
   simp only [List.all_cons, Bool.and_eq_true] at d
   have := AK p e c d.2 (by omega)
   simp only [List.length_cons]
   omega
def befE (a b : GLe) : Prop := a.Word < b.Word ∨ a.Word = b.Word ∧ a.Letters < b.Letters
theorem nG {a : GLe} : ¬ befE a a := by unfold befE; omega
theorem tw {a b c : GLe} (h : befE a b) (k : befE b c) : befE a c := by unfold befE at *; omega
def posW (i : Int) (w : GLw) : List GLe := w.Cuts.map (GLe.mk i) ++ [GLe.mk i (w.Signs.length : Int)]
def possL (out : List Int) : List GLw → Int → List GLe
 | [], _ => []
 | w :: ws, i => cond (out.contains i) (possL out ws (i + 1)) (posW i w ++ possL out ws (i + 1))
theorem roomOk16 {n : Nat} (h : n ≤ 1000) : aB 16 n = true := by simp [aB]; omega
theorem AM (i : Int) : ∀ (p : List Int) (c : Int) (acc : List GLe), acc.length + p.length ≤ 1000 → nr i p c acc = some (.go (acc ++ p.map (GLe.mk i)))
 | [], _, acc, _ => by simp [nr]
 | e :: p, c, acc, h => by
  simp only [List.length_cons] at h
  simp only [nr]
  rw [roomOk16 (by simp; omega), cond_true, AM i p (c + 1) _ (by simp; omega)]
  simp
theorem QX (out : List Int) : ∀ (ws : List GLw) (i : Int), (∀ w ∈ ws, w.Cuts.length ≤ 5) → (possL out ws i).length ≤ 6 * ws.length
 | [], _, _ => by simp [possL]
 | w :: ws, i, h => by
  have h1 := QX out ws (i + 1) fun x hx => h x (qZa _ hx)
  have h2 := h w (qZb ..)
  unfold possL
  cases out.contains i <;> simp [posW] <;> omega
theorem uA (out : List Int) (hl : lenOk out = true) : ∀ (ws : List GLw) (i : Int) (acc : List GLe), (∀ w ∈ ws, w.Cuts.length ≤ 5) → acc.length + 6 * ws.length ≤ 1000 → pU out ws i acc = some (.go (acc ++ possL out ws i))
 | [], _, acc, _, _ => by simp [pU, possL]
 | w :: ws, i, acc, h, hn => by
  have h1 : ∀ x ∈ ws, x.Cuts.length ≤ 5 := fun x hx => h x (qZa _ hx)
  have h2 := h w (qZb ..)
  simp only [List.length_cons] at hn
  simp only [pU, Qi _ _ hl, Option.bind_some, possL]
  cases out.contains i with
  | true => simp only [cond_true]; exact uA out hl ws (i + 1) acc h1 (by omega)
  | false =>
   simp only [cond_false]
   rw [nF (by omega), cond_true, AM i w.Cuts 0 acc (by omega), og, roomOk16 (by simp; omega), cond_true, uA out hl ws (i + 1) _ h1 (by simp; omega)]
   simp [posW]
theorem za {s : GLs} (h : Sh s) (out : List Int) (hl : lenOk out = true) : uz s out = some (possL out s.Words 0) := by
 simp only [uz]
 have := h.nw
 rw [nF (by omega), cond_true, uA out hl s.Words 0 [] (fun w hw => (h.wcut w hw).2.2) (by simp; omega), List.nil_append]
 rfl
theorem tW : ∀ (p : List Int) (q : Int), incr q p = true → (q :: p).Pairwise (· < ·)
 | [], q, _ => List.pairwise_singleton _ _
 | e :: p, q, h => by
  simp only [incr, Bool.and_eq_true, Bool.not_eq_true', decide_eq_false_iff_not] at h
  have ih := tW p e h.2
  rw [List.pairwise_cons]
  refine ⟨fun x hx => ?_, ih⟩
  rcases List.mem_cons.1 hx with rfl | hx
  ·omega
  ·have := (List.pairwise_cons.1 ih).1 x hx
   omega
theorem Ow : ∀ (p : List Int), incrL p = true → p.Pairwise (· < ·)
 | [], _ => List.Pairwise.nil
 | e :: p, h => tW p e h
theorem yc {i : Int} {w : GLw} {e : GLe} : e ∈ posW i w ↔ e.Word = i ∧ (e.Letters ∈ w.Cuts ∨ e.Letters = w.Signs.length) := by
 obtain ⟨a, b⟩ := e
 simp only [posW, List.mem_append, List.mem_map, List.mem_singleton, GLe.mk.injEq]
 constructor
 ·rintro (⟨c, hc, rfl, rfl⟩ | ⟨rfl, rfl⟩)
  ·exact ⟨rfl, .inl hc⟩
  ·exact ⟨rfl, .inr rfl⟩
 ·rintro ⟨rfl, h | rfl⟩
  ·exact .inl ⟨b, h, rfl, rfl⟩
  ·exact .inr ⟨rfl, rfl⟩
theorem BT (out : List Int) : ∀ (ws : List GLw) (i : Int) (e : GLe), e ∈ possL out ws i ↔ ∃ k : Nat, ∃ w, ws[k]? = some w ∧ out.contains (i + k) = false ∧ e ∈ posW (i + k) w
 | [], i, e => by simp [possL]
 | w :: ws, i, e => by
  have ih := BT out ws (i + 1) e
  have hsh : (∃ k : Nat, ∃ x, (w :: ws)[k]? = some x ∧ out.contains (i + k) = false ∧ e ∈ posW (i + k) x) ↔ (out.contains i = false ∧ e ∈ posW i w) ∨ ∃ k : Nat, ∃ x, ws[k]? = some x ∧ out.contains (i + 1 + k) = false ∧ e ∈ posW (i + 1 + k) x := by
   constructor
   ·rintro ⟨k, x, h1, h2, h3⟩
    cases k with
    | zero =>
     simp only [List.getElem?_cons_zero, Option.some.injEq] at h1
     subst h1
     simp only [Int.natCast_zero, Int.add_zero] at h2 h3
     exact .inl ⟨h2, h3⟩
    | succ k =>
     have e1 : i + ((k + 1 : Nat) : Int) = i + 1 + k := by omega
     rw [e1] at h2 h3
     exact .inr ⟨k, x, by simpa using h1, h2, h3⟩
   ·rintro (⟨h2, h3⟩ | ⟨k, x, h1, h2, h3⟩)
    ·exact ⟨0, w, rfl, by simpa using h2, by simpa using h3⟩
    ·have e1 : i + ((k + 1 : Nat) : Int) = i + 1 + k := by omega
     exact ⟨k + 1, x, by simpa using h1, by rw [e1]; exact h2, by rw [e1]; exact h3⟩
  rw [hsh]
  unfold possL
  cases hc : out.contains i with
  | true => simp only [cond_true]; rw [ih]; simp
  | false => simp only [cond_false, List.mem_append, ih]; simp
theorem Ox {i : Int} {w : GLw} (h : incrL w.Cuts = true) (h2 : ∀ c ∈ w.Cuts, 1 ≤ c ∧ c < (w.Signs.length : Int)) : (posW i w).Pairwise befE := by
 unfold posW
 rw [List.pairwise_append]
 refine ⟨?_, List.pairwise_singleton _ _, ?_⟩
 ·rw [List.pairwise_map]
  exact (Ow _ h).imp fun h => .inr ⟨rfl, h⟩
 ·intro a ha b hb
  obtain ⟨c, hc, rfl⟩ := List.mem_map.1 ha
  rw [List.mem_singleton.1 hb]
  exact .inr ⟨rfl, (h2 c hc).2⟩
theorem zf (out : List Int) : ∀ (ws : List GLw) (i : Int), (∀ w ∈ ws, incrL w.Cuts = true ∧ ∀ c ∈ w.Cuts, 1 ≤ c ∧ c < (w.Signs.length : Int)) → (possL out ws i).Pairwise befE
 | [], _, _ => List.Pairwise.nil
 | w :: ws, i, h => by
  have ih := zf out ws (i + 1) fun x hx => h x (qZa _ hx)
  have hw := h w (qZb ..)
  unfold possL
  cases out.contains i with
  | true => exact ih
  | false =>
   simp only [cond_false]
   rw [List.pairwise_append]
   refine ⟨Ox hw.1 hw.2, ih, fun a ha b hb => ?_⟩
   obtain ⟨ha, _⟩ := yc.1 ha
   obtain ⟨k, x, _, _, hb⟩ := (BT out ws (i + 1) b).1 hb
   obtain ⟨hb, _⟩ := yc.1 hb
   left
   omega
end Go.V
end
