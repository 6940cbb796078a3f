/- Part of a proof. -/
import Derived.Test.YtclkbhbhohdgbaaGreatDoorE2aq
import Derived.Test.YtclkbhbhohdgbaaGreatDoorE2au
set_option linter.all false
noncomputable section
namespace Go.V
open Go
def callish (o : Oper) : Bool := match o.op with
 | .call k => match k.callee with
  | .value _ => true
  | _ => false
 | .panic _ => true
 | _ => false
def allB (ms : List Nat) : Nat → Nat → Bool
 | 0, _ => true
 | j + 1, i => befQ ms j i && allB ms j i
def allA (ms : List Nat) (i : Nat) : Nat → Nat → Bool
 | 0, _ => true
 | m + 1, j => befQ ms i j && allA ms i m (j + 1)
def isBar (ops : Array Oper) (i : Nat) : Bool := allB (masks ops) i i && allA (masks ops) i (ops.size - (i + 1)) (i + 1)
theorem JK {ms : List Nat} : ∀ {k i : Nat}, allB ms k i = true → ∀ j, j < k → befQ ms j i = true
 | 0, _, _, j, h => by omega
 | k + 1, i, h, j, hj => by
  simp only [allB, Bool.and_eq_true] at h
  by_cases e : j = k
  ·subst e; exact h.1
  ·exact JK h.2 j (by omega)
theorem JL {ms : List Nat} {i : Nat} : ∀ {m k : Nat}, allA ms i m k = true → ∀ j, k ≤ j → j < k + m → befQ ms i j = true
 | 0, _, _, j, h1, h2 => by omega
 | m + 1, k, h, j, h1, h2 => by
  simp only [allA, Bool.and_eq_true] at h
  by_cases e : j = k
  ·subst e; exact h.1
  ·exact JL h.2 j (by omega) (by omega)
def segQ (ops : Array Oper) : Nat → List Oper → List Oper → List (List Oper × Oper) × List Oper
 | _, [], acc => ([], acc.reverse)
 | i, o :: l, acc => match callish o && isBar ops i with
  | true => match segQ ops (i + 1) l [] with
   | (segs, last) => ((acc.reverse, o) :: segs, last)
  | false => segQ ops (i + 1) l (o :: acc)
inductive Segs (ops : Array Oper) : Nat → List (List Oper × Oper) → List Oper → Prop
 | last {i : Nat} {l : List Oper} : (∀ k o, l[k]? = some o → ops[i + k]? = some o) → i + l.length = ops.size → Segs ops i [] l
 | cons {i : Nat} {l last : List Oper} {b : Oper} {rest : List (List Oper × Oper)} : (∀ k o, l[k]? = some o → ops[i + k]? = some o) → ops[i + l.length]? = some b → isBar ops (i + l.length) = true → Segs ops (i + l.length + 1) rest last → Segs ops i ((l, b) :: rest) last
theorem Dw {ops : Array Oper} : ∀ (l : List Oper) (i : Nat) (acc : List Oper), acc.length ≤ i → (∀ k o, acc.reverse[k]? = some o → ops[i - acc.length + k]? = some o) → (∀ k o, l[k]? = some o → ops[i + k]? = some o) → i + l.length = ops.size →
  Segs ops (i - acc.length) (segQ ops i l acc).1 (segQ ops i l acc).2
 | [], i, acc, hle, hacc, hl, hsz => by
  refine .last hacc ?_
  show i - acc.length + acc.reverse.length = ops.size
  simp at hsz ⊢
  omega
 | o :: l, i, acc, hle, hacc, hl, hsz => by
  have hl' : ∀ k o, l[k]? = some o → ops[i + 1 + k]? = some o := fun k o' hk => by have := hl (k + 1) o' (by simpa using hk); rw [show i + 1 + k = i + (k + 1) by omega]; exact this
  have ho : ops[i]? = some o := by have := hl 0 o (by simp); simpa using this
  have hsz' : i + 1 + l.length = ops.size := by simp at hsz; omega
  unfold segQ
  cases hb : callish o && isBar ops i with
  | true =>
   simp only [Bool.and_eq_true] at hb
   have ih := Dw l (i + 1) [] (by simp) (fun k o' hk => by simp at hk) hl' hsz'
   simp only [List.length_nil, Nat.sub_zero] at ih
   have e : i - acc.length + acc.reverse.length = i := by simp; omega
   exact .cons hacc (by rw [e]; exact ho) (by rw [e]; exact hb.2) (by rw [e]; exact ih)
  | false =>
   have ih := Dw l (i + 1) (o :: acc) (by simp; omega) (fun k o' hk => by
    simp only [List.reverse_cons] at hk
    have e : i + 1 - (o :: acc).length = i - acc.length := by simp
    rw [e]
    by_cases hk' : k < acc.reverse.length
    ·rw [List.getElem?_append_left hk'] at hk
     exact hacc k o' hk
    ·rw [List.getElem?_append_right (by omega)] at hk
     have Dc : k - acc.reverse.length = 0 := by
      rcases Nat.eq_zero_or_pos (k - acc.reverse.length) with h | h
      ·exact h
      ·rw [List.getElem?_eq_none (show [o].length ≤ _ from h)] at hk; cases hk
     rw [Dc] at hk
     simp at hk
     subst hk
     have : i - acc.length + k = i := by simp only [List.length_reverse] at Dc hk'; omega
     rw [this]; exact ho) hl' hsz'
   have e : i + 1 - (o :: acc).length = i - acc.length := by simp
   rw [e] at ih
   exact ih
def runS (P : Program) (G : Gb) (run : RunR) (cf : aI) (ro : Option Nat) (ops : Array Oper) (aa : Nat) (last : List Oper) (segs : List (List Oper × Oper)) : Nat → RS → ER :=
 List.rec (motive := fun _ => Nat → RS → ER) (fun i s => drawA P G cf ops aa last i [] [] s)
  (fun p _ ih i s => thenQ (drawA P G cf ops aa p.1 i [] [] s) (fun s1 => SR.rec (motive := fun _ => ER) (fun s2 => ih (Nat.succ (Nat.add i p.1.length)) s2) (fun x s2 => .mk (.panic x) s2) (fun w => .no w) (stepA P G run cf ro ops (Nat.add aa (Nat.add i p.1.length)) p.2 s1 (guardA ops s1.tm p.2)))) segs
variable {P : Program} {ro : Option Nat} {s : RS} {e : Vx}
theorem Tj {G : Gb} {cf : aI} (hcf : CallOk P (G.at (some ro)) cf) {ops : Array Oper} (hap : apartOk ops = true) {aa : Nat} {l : List Oper} {i : Nat} {s' : RS} (hl : ∀ k o, l[k]? = some o → ops[i + k]? = some o)
  (h : drawA P G cf ops aa l i [] [] s = .mk e s') : e = .normal ∧ ∃ tr, QSteps P (G.at (some ro)) ops aa (List.range' i l.length) s.st s'.st tr ∧ TraceOk ops tr := by
 have h1 := Ak P G (some ro) cf ops aa l i [] s
 rw [show wrT [] = [] from rfl, show someT [] = [] from rfl, h] at h1
 rw [xZ] at h1
 obtain ⟨he, tr, hq, ht⟩ := JM hcf l i [] [] s s' e hl (fun p hp => by cases hp) trivial h1.symm
 refine ⟨he, tr, hq, Al hap tr ?_ (by simpa using ht)⟩
 rw [hq.fst]
 exact List.pairwise_lt_range'
theorem Tk {P : Program} {G : Gb} {run : RunR} {cf : aI} (aN : RunOk P G run) (hcf : CallOk P G cf) {ro : Option Nat} {n : Nat} {ops : Array Oper} (hd : dstsOk n ops = true) (hap : apartOk ops = true) {aa : Nat} {last : List Oper} {Q : Vx → St → Prop} : ∀ (segs : List (List Oper × Oper)) (i : Nat) (s s' : RS) (e : Vx), Segs ops i segs last →
  runS P G run cf ro ops aa last segs i s = .mk e s' → Q e s'.st → ∃ isegs ilast, VDraw P (G.at (some ro)) n ops aa Q isegs ilast s.st ∧ barOk ops isegs ilast = true ∧ flat isegs ilast = List.range' i (ops.size - i)
 | [], i, s, s', e, hs, h, hq => by
  cases hs with
  | last hl hsz =>
   obtain ⟨he, tr, h1, h2⟩ := Tj (ro := ro) hcf hap hl h
   subst he
   refine ⟨[], List.range' i last.length, ⟨s'.st, tr, h1, h2, hq⟩, rfl, ?_⟩
   show List.range' i last.length = _
   congr 1
   omega
 | (l, b) :: rest, i, s, s', e, hs, h, hq => by
  cases hs with
  | cons hl hb hbar hrest =>
   have hlt : i + l.length < ops.size := (Array.getElem?_eq_some_iff.1 hb).1
   simp only [isBar, Bool.and_eq_true] at hbar
   have hbef : ∀ j, j < i + l.length → aK ops ops.size j (i + l.length) = true := fun j hj => uY hlt (JK hbar.1 j hj)
   have haft : ∀ j, i + l.length + 1 ≤ j → j < ops.size → aK ops ops.size (i + l.length) j = true := fun j h1 h2 => uY h2 (JL hbar.2 j h1 (by omega))
   have h' : thenQ (drawA P G cf ops aa l i [] [] s) (fun s1 => SR.rec (motive := fun _ => ER) (fun s2 => runS P G run cf ro ops aa last rest (i + l.length + 1) s2) (fun x s2 => .mk (.panic x) s2) (fun w => .no w) (stepA P G run cf ro ops (aa + (i + l.length)) b s1 (guardA ops s1.tm b))) = .mk e s' := h
   cases hda : drawA P G cf ops aa l i [] [] s with
   | no w => rw [hda] at h'; cases h'
   | mk e1 s1 =>
    obtain ⟨he, tr, h1, h2⟩ := Tj (ro := ro) hcf hap hl hda
    subst he
    rw [hda] at h'
    have h'' : SR.rec (motive := fun _ => ER) (fun s2 => runS P G run cf ro ops aa last rest (i + l.length + 1) s2) (fun x s2 => .mk (.panic x) s2) (fun w => .no w) (stepA P G run cf ro ops (aa + (i + l.length)) b s1 (guardA ops s1.tm b)) = .mk e s' := h'
    rw [JN, Ej] at h''
    have rng : List.range' i l.length ++ (i + l.length) :: List.range' (i + l.length + 1) (ops.size - (i + l.length + 1)) = List.range' i (ops.size - i) := by
     have e1 : ops.size - i = l.length + (1 + (ops.size - (i + l.length + 1))) := by omega
     rw [e1, ← List.range'_append_1, Nat.add_comm 1 (ops.size - (i + l.length + 1)), List.range'_succ]
    cases hst : aT P (G.at (some ro)) run cf ro ops (aa + (i + l.length)) b s1 with
    | no w => rw [hst] at h''; cases h''
    | pan x s2 =>
     rw [hst] at h''
     cases h''
     refine ⟨[(List.range' i l.length, i + l.length)], List.range' (i + l.length + 1) (ops.size - (i + l.length + 1)), ⟨s1.st, tr, h1, h2, ?_⟩, ?_, rng⟩
     ·refine Am (G := G) aN hcf hb hd (fun s3 h3 => ?_) (fun y s3 h3 => ?_) (fun w h3 => ?_)
      ·rw [hst] at h3; cases h3
      ·rw [hst] at h3; cases h3; exact hq
      ·rw [hst] at h3; cases h3
     ·simp only [barOk, Bool.and_true, Bool.and_eq_true, List.all_eq_true, flat]
      refine ⟨fun j hj => ?_, fun j hj => ?_⟩
      ·have := List.mem_range'_1.1 hj
       exact hbef j (by omega)
      ·have := List.mem_range'_1.1 hj
       exact haft j (by omega) (by omega)
    | ok s2 =>
     rw [hst] at h''
     obtain ⟨isegs, ilast, g1, g2, g3⟩ := Tk aN hcf hd hap rest (i + l.length + 1) s2 s' e hrest h'' hq
     refine ⟨(List.range' i l.length, i + l.length) :: isegs, ilast, ⟨s1.st, tr, h1, h2, ?_⟩, ?_, ?_⟩
     ·refine Am (G := G) aN hcf hb hd (fun s3 h3 => ?_) (fun y s3 h3 => ?_) (fun w h3 => ?_)
      ·rw [hst] at h3; cases h3; exact g1
      ·rw [hst] at h3; cases h3
      ·rw [hst] at h3; cases h3
     ·simp only [barOk, Bool.and_eq_true, List.all_eq_true]
      refine ⟨⟨fun j hj => ?_, fun j hj => ?_⟩, g2⟩
      ·have := List.mem_range'_1.1 hj
       exact hbef j (by omega)
      ·rw [g3] at hj
       have := List.mem_range'_1.1 hj
       exact haft j (by omega) (by omega)
     ·show List.range' i l.length ++ (i + l.length) :: flat isegs ilast = _
      rw [g3]
      exact rng
def runSO (P : Program) (G : Gb) (run : RunR) (cf : aI) (ro : Option Nat) (ops : Array Oper) (aa : Nat) (last : List Oper) (segs : List (List Oper × Oper)) : Nat → RS → ER :=
 List.rec (motive := fun _ => Nat → RS → ER) (fun i s => drawO P (G.at (some ro)) cf ops aa i last [] s)
  (fun p _ ih i s => thenQ (drawO P (G.at (some ro)) cf ops aa i p.1 [] s) (fun s1 => SR.rec (motive := fun _ => ER) (fun s2 => ih (Nat.succ (Nat.add i p.1.length)) s2) (fun x s2 => .mk (.panic x) s2) (fun w => .no w) (stepA P G run cf ro ops (Nat.add aa (Nat.add i p.1.length)) p.2 s1 (guardA ops s1.tm p.2)))) segs
theorem Tl {P : Program} {G : Gb} {run : RunR} {cf : aI} (aN : RunOk P G run) (hcf : CallOk P G cf) {ro : Option Nat} {n : Nat} {ops : Array Oper} (hd : dstsOk n ops = true) (hap : apartOk ops = true) {aa : Nat} {last : List Oper} {Q : Vx → St → Prop} : ∀ (segs : List (List Oper × Oper)) (i : Nat) (s s' : RS) (e : Vx), Segs ops i segs last →
  runSO P G run cf ro ops aa last segs i s = .mk e s' → Q e s'.st → ∃ isegs ilast, OVDraw P (G.at (some ro)) n ops aa Q isegs ilast s.st ∧ barOk ops isegs ilast = true ∧ flat isegs ilast = List.range' i (ops.size - i)
 | [], i, s, s', e, hs, h, hq => by
  cases hs with
  | last hl hsz =>
   obtain ⟨he, tr, h1, h2⟩ := Sf (G := G.at (some ro)) hcf hap hl h
   subst he
   refine ⟨[], List.range' i last.length, ⟨s'.st, tr, h1, h2, hq⟩, rfl, ?_⟩
   show List.range' i last.length = _
   congr 1
   omega
 | (l, b) :: rest, i, s, s', e, hs, h, hq => by
  cases hs with
  | cons hl hb hbar hrest =>
   have hlt : i + l.length < ops.size := (Array.getElem?_eq_some_iff.1 hb).1
   simp only [isBar, Bool.and_eq_true] at hbar
   have hbef : ∀ j, j < i + l.length → aK ops ops.size j (i + l.length) = true := fun j hj => uY hlt (JK hbar.1 j hj)
   have haft : ∀ j, i + l.length + 1 ≤ j → j < ops.size → aK ops ops.size (i + l.length) j = true := fun j h1 h2 => uY h2 (JL hbar.2 j h1 (by omega))
   have h' : thenQ (drawO P (G.at (some ro)) cf ops aa i l [] s) (fun s1 => SR.rec (motive := fun _ => ER) (fun s2 => runSO P G run cf ro ops aa last rest (i + l.length + 1) s2) (fun x s2 => .mk (.panic x) s2) (fun w => .no w) (stepA P G run cf ro ops (aa + (i + l.length)) b s1 (guardA ops s1.tm b))) = .mk e s' := h
   cases hda : drawO P (G.at (some ro)) cf ops aa i l [] s with
   | no w => rw [hda] at h'; cases h'
   | mk e1 s1 =>
    obtain ⟨he, tr, h1, h2⟩ := Sf (G := G.at (some ro)) hcf hap hl hda
    subst he
    rw [hda] at h'
    have h'' : SR.rec (motive := fun _ => ER) (fun s2 => runSO P G run cf ro ops aa last rest (i + l.length + 1) s2) (fun x s2 => .mk (.panic x) s2) (fun w => .no w) (stepA P G run cf ro ops (aa + (i + l.length)) b s1 (guardA ops s1.tm b)) = .mk e s' := h'
    rw [JN, Ej] at h''
    have rng : List.range' i l.length ++ (i + l.length) :: List.range' (i + l.length + 1) (ops.size - (i + l.length + 1)) = List.range' i (ops.size - i) := by
     have e1 : ops.size - i = l.length + (1 + (ops.size - (i + l.length + 1))) := by omega
     rw [e1, ← List.range'_append_1, Nat.add_comm 1 (ops.size - (i + l.length + 1)), List.range'_succ]
    cases hst : aT P (G.at (some ro)) run cf ro ops (aa + (i + l.length)) b s1 with
    | no w => rw [hst] at h''; cases h''
    | pan x s2 =>
     rw [hst] at h''
     cases h''
     refine ⟨[(List.range' i l.length, i + l.length)], List.range' (i + l.length + 1) (ops.size - (i + l.length + 1)), ⟨s1.st, tr, h1, h2, ?_⟩, ?_, rng⟩
     ·refine Am (G := G) aN hcf hb hd (fun s3 h3 => ?_) (fun y s3 h3 => ?_) (fun w h3 => ?_)
      ·rw [hst] at h3; cases h3
      ·rw [hst] at h3; cases h3; exact hq
      ·rw [hst] at h3; cases h3
     ·simp only [barOk, Bool.and_true, Bool.and_eq_true, List.all_eq_true, flat]
      refine ⟨fun j hj => ?_, fun j hj => ?_⟩
      ·have := List.mem_range'_1.1 hj
       exact hbef j (by omega)
      ·have := List.mem_range'_1.1 hj
       exact haft j (by omega) (by omega)
    | ok s2 =>
     rw [hst] at h''
     obtain ⟨isegs, ilast, g1, g2, g3⟩ := Tl aN hcf hd hap rest (i + l.length + 1) s2 s' e hrest h'' hq
     refine ⟨(List.range' i l.length, i + l.length) :: isegs, ilast, ⟨s1.st, tr, h1, h2, ?_⟩, ?_, ?_⟩
     ·refine Am (G := G) aN hcf hb hd (fun s3 h3 => ?_) (fun y s3 h3 => ?_) (fun w h3 => ?_)
      ·rw [hst] at h3; cases h3; exact g1
      ·rw [hst] at h3; cases h3
      ·rw [hst] at h3; cases h3
     ·simp only [barOk, Bool.and_eq_true, List.all_eq_true]
      refine ⟨⟨fun j hj => ?_, fun j hj => ?_⟩, g2⟩
      ·have := List.mem_range'_1.1 hj
       exact hbef j (by omega)
      ·rw [g3] at hj
       have := List.mem_range'_1.1 hj
       exact haft j (by omega) (by omega)
     ·show List.range' i l.length ++ (i + l.length) :: flat isegs ilast = _
      rw [g3]
      exact rng
def orR (r : ER) (again : ER) : ER := ER.rec (motive := fun _ => ER) (fun e s => .mk e s) (fun w => ER.rec (motive := fun _ => ER) (fun e s => .mk e s) (fun _ => .no w) again) r
theorem An {r again : ER} (h : orR r again = .mk e s) : r = .mk e s ∨ again = .mk e s := by
 cases r with
 | mk e1 s1 => exact .inl h
 | no w =>
  cases again with
  | mk e1 s1 => exact .inr h
  | no w' => cases h
def regB (P : Program) (G : Gb) (run : RunR) (cf : aI) (ro : Option Nat) (n : Nat) (code : Code) (ops : Array Oper) (s : RS) (draw : Bool) : ER :=
 Bool.rec (motive := fun _ => ER) (.no (.code code))
  (Bool.rec (motive := fun _ => ER) (seqA P G run cf ro ops s.nx ops.toList 0 (RS.mk s.tm s.H (Nat.add s.nx ops.size) s.df))
   (orR (Prod.rec (motive := fun _ => ER) (fun segs last => runS P G run cf ro ops s.nx last segs 0 (RS.mk s.tm s.H (Nat.add s.nx ops.size) s.df)) (segQ ops 0 ops.toList [])) (orR (drawO P (G.at (some ro)) cf ops s.nx 0 ops.toList [] (RS.mk s.tm s.H (Nat.add s.nx ops.size) s.df)) (Prod.rec (motive := fun _ => ER) (fun segs last => runSO P G run cf ro ops s.nx last segs 0 (RS.mk s.tm s.H (Nat.add s.nx ops.size) s.df)) (segQ ops 0 ops.toList [])))) draw) (regQ n ops draw)
def ccB (P : Program) (G : Gb) (code : Code) : CC := match code with
 | .region _ ops draw => .mk (fun _ run cf ro n s => regB P G run cf ro n code ops s draw)
 | code => cc P G code
theorem JO {G : Gb} (hm : P.follows .mixedOrders = true) {k : Nat} {run : RunR} {cf : aI} (ih : RunOk P G run) (hcf : CallOk P G cf) {n : Nat} {code : Code} {s' : RS} 
  (h : bodyA k run cf ro n s (ccB P G code) = .mk e s') {Q : Vx → St → Prop} (hq : Q e s'.st) : VWp P (G.at (some ro)) n code Q s.st := by
 have hcf' : CallOk P (G.at (some ro)) cf := hcf
 cases code with
 | skip => cases h; exact VWp.skip hq
 | label l => cases h; exact VWp.label hq
 | exit id => cases h; exact VWp.exit hq
 | ret => cases h; exact VWp.ret hq
 | goto l => cases h
 | refuse w => cases h
 | seq a b =>
  have h' : thenQ (run ro n a s) (fun s' => run ro n b s') = .mk e s' := h
  cases hs : run ro n a s with
  | no w => rw [hs] at h'; cases h'
  | mk e1 s1 =>
   rw [hs] at h'
   cases e1 with
   | normal => exact VWp.seq (ih ro n a s .normal s1 hs _ (ih ro n b s1 e s' h' Q hq))
   | exit id => cases h'; exact VWp.seq (ih ro n a s _ _ hs _ hq)
   | goto l => cases h'; exact VWp.seq (ih ro n a s _ _ hs _ hq)
   | ret => cases h'; exact VWp.seq (ih ro n a s _ _ hs _ hq)
   | panic x => cases h'; exact VWp.seq (ih ro n a s _ _ hs _ hq)
 | cond c a b =>
  have h' : condQ (ρQ G s.tm c) (.cond c a b) (run ro n a s) (run ro n b s) = .mk e s' := h
  unfold condQ at h'
  cases hb : boolQ (ρQ G s.tm c) with
  | none => rw [hb] at h'; cases h'
  | some t =>
   rw [hb] at h'
   have hv := xV hb
   rw [← ρQ_at G (some ro), ρQ_eq] at hv
   refine VWp.cond (t := t) hv ?_
   cases t with
   | true => exact ih ro n a s e s' h' Q hq
   | false => exact ih ro n b s e s' h' Q hq
 | block id a =>
  have h' : blockQ (run ro n a s) id = .mk e s' := h
  cases hs : run ro n a s with
  | no w => rw [hs] at h'; cases h'
  | mk e1 s1 =>
   rw [hs] at h'
   refine VWp.block (ih ro n a s e1 s1 hs _ ?_)
   cases e1 with
   | normal => cases h'; exact hq
   | goto l => cases h'; exact hq
   | ret => cases h'; exact hq
   | panic x => cases h'; exact hq
   | exit id' =>
    have h'' : Bool.rec (motive := fun _ => ER) (.mk (.exit id') s1) (.mk .normal s1) (Nat.beq id' id) = .mk e s' := h'
    show (if id' = id then _ else _)
    by_cases hid : id' = id
    ·have hb : Nat.beq id' id = true := by simpa using hid
     rw [hb] at h''
     cases h''
     rw [if_pos hid]; exact hq
    ·have hb : Nat.beq id' id = false := by cases hq : Nat.beq id' id with | false => rfl | true => exact absurd (by simpa using hq) hid
     rw [hb] at h''
     cases h''
     rw [if_neg hid]; exact hq
 | loop a =>
  have h' : loopQ (run ro n a) k s = .mk e s' := h
  rw [ya] at h'
  exact VWp.loopRounds k (Tm (fun s e s' hs Q hq => ih ro n a s e s' hs Q hq) k s s' e h' hq (Ao k s s' e h'))
 | scope a =>
  have h' : scopeQ (run ro n a s) (.scope a) = .mk e s' := h
  cases hs : run ro n a s with
  | no w => rw [hs] at h'; cases h'
  | mk e1 s1 =>
   rw [hs] at h'
   cases e1 with
   | goto l => cases h'
   | normal => cases h'; exact VWp.scope (ih ro n a s _ _ hs _ hq)
   | exit id => cases h'; exact VWp.scope (ih ro n a s _ _ hs _ hq)
   | ret => cases h'; exact VWp.scope (ih ro n a s _ _ hs _ hq)
   | panic x => cases h'; exact VWp.scope (ih ro n a s _ _ hs _ hq)
 | region id ops draw =>
  have h' : regB P G run cf ro n (.region id ops draw) ops s draw = .mk e s' := h
  unfold regB at h'
  cases hreg : regQ n ops draw with
  | false => rw [hreg] at h'; cases h'
  | true =>
   rw [hreg] at h'
   cases draw with
   | false =>
    have h'' : seqA P G run cf ro ops s.nx ops.toList 0 (RS.mk s.tm s.H (s.nx + ops.size) s.df) = .mk e s' := h'
    rw [Ap, xY] at h''
    refine VWp.region ?_
    have := Tn (G := G) ih hcf (n := n) (Aq hreg) (Q := Q) ops.toList 0 { s with nx := s.nx + ops.size } s' e (fun k => by simp) h'' hq
    rw [List.range_eq_range']
    rw [Array.length_toList] at this
    exact this
   | true =>
    have hreg2 := hreg
    simp only [regQ, Bool.and_eq_true] at hreg2
    have h1 := Ar hreg2.1.1
    have h2 := Aq hreg2.1.2
    have h3 := To hreg2.2
    have h0 : orR (runS P G run cf ro ops s.nx (segQ ops 0 ops.toList []).2 (segQ ops 0 ops.toList []).1 0 (RS.mk s.tm s.H (s.nx + ops.size) s.df)) (orR (drawO P (G.at (some ro)) cf ops s.nx 0 ops.toList [] (RS.mk s.tm s.H (s.nx + ops.size) s.df)) (runSO P G run cf ro ops s.nx (segQ ops 0 ops.toList []).2 (segQ ops 0 ops.toList []).1 0 (RS.mk s.tm s.H (s.nx + ops.size) s.df))) = .mk e s' := h'
    rcases An h0 with h'' | h''
    ·have hseg := Dw (ops := ops) ops.toList 0 [] (by simp) (fun k o hk => by simp at hk) (fun k o hk => by simpa using hk) (by simp)
     simp only [List.length_nil, Nat.sub_zero] at hseg
     obtain ⟨isegs, ilast, g1, g2, g3⟩ := Tk (Q := Q) ih hcf h2 h3 _ 0 { s with nx := s.nx + ops.size } s' e hseg h'' hq
     refine VWp.regionDraw hm isegs ilast ?_ g1
     simp only [h1, h2, g2, Bool.true_and, decide_eq_true_eq]
     rw [g3, List.range_eq_range']
     rfl
    ·rcases An h'' with h'' | h''
     ·have JP : CallOk P (G.at (some ro)) cf := hcf
      have := X5 (G := G.at (some ro)) hm JP (n := n) (id := id) h1 h2 h3 h'' hq
      exact this
     ·have hseg := Dw (ops := ops) ops.toList 0 [] (by simp) (fun k o hk => by simp at hk) (fun k o hk => by simpa using hk) (by simp)
      simp only [List.length_nil, Nat.sub_zero] at hseg
      obtain ⟨isegs, ilast, g1, g2, g3⟩ := Tl (Q := Q) ih hcf h2 h3 _ 0 { s with nx := s.nx + ops.size } s' e hseg h'' hq
      refine VWp.regionOVDraw hm isegs ilast ?_ g1
      simp only [h1, h2, g2, Bool.true_and, decide_eq_true_eq]
      rw [g3, List.range_eq_range']
      rfl
 | rangeFunc g ps as bo =>
  have h' : rangeCQ G run cf ro n (.rangeFunc g ps as bo) g ps as bo s = .mk e s' := h
  cases ro with
  | some β => cases h'
  | none =>
   simp only [rangeCQ, ρQ_eq] at h'
   unfold rangeFQ at h'
   split at h'
   ·rename_i f first captured hg
    exact V9 hcf (fun c s e s' hs Q hq => ih none n c s e s' hs Q hq) hg h' hq
   ·cases h'
end Go.V
end
