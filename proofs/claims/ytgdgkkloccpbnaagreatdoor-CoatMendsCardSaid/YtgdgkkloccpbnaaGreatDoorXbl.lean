/- Part of a proof: a logic of values by content, lifted functions, what follows. -/
import Derived.Test.YtgdgkkloccpbnaaGreatDoorXbk
import Derived.Test.YtgdgkkloccpbnaaGreatDoorXbi
set_option linter.all false
set_option maxRecDepth 4000
set_option maxHeartbeats 40000000
section
namespace Go.V
open Go
structure VP (d : List GSpan) (cs : List GCoatCoat) (p : List Int) : Prop where
 dk : DOk d
 c : 1 ≤ cs.length ∧ cs.length ≤ 5
 l : p.length = cs.length
 u : upB p = true
 r : ∀ x ∈ p, 0 ≤ x ∧ x ≤ (d.length : Int) - 1
theorem VP.of {s : GCoatSheet} {p : List Int} (h1 : sheetB s = true) (h2 : planB s p = true) : VP s.Dry s.Coats p := by
 unfold sheetB incB at h1
 unfold planB incB at h2
 simp only [Bool.and_eq_true, zkg, List.all_eq_true, decide_eq_true_eq] at h1 h2
 refine ⟨⟨h1.1.2, by omega⟩, by omega, h2.1.1, h2.1.2.1, fun x hx => ?_⟩
 have := h2.1.2.2 x hx
 unfold dayB at this
 exact zkg.1 this
def worstW (d : List GSpan) (cs : List GCoatCoat) (p : List Int) : Option (Int × Int) := failW (SI (lowsL d)) (SI (highsL d)) d.length p cs 0
def sumsOf (s : GCoatSheet) : Gcoatsums := ⟨s, preL (lowsL s.Dry) 0 (s.Dry.length + 1), preL (highsL s.Dry) 0 (s.Dry.length + 1)⟩
theorem zwj {s : GCoatSheet} (h : DOk s.Dry) : zdq s = some (sumsOf s) := zafg h
def sureB (d : List GSpan) (cs : List GCoatCoat) (p : List Int) : Bool := (worstW d cs p).isNone
theorem zais : ∀ (p : List GSpan) (c : Int) (a : List Int), a.length + p.length ≤ 500 → zci p c a = some (.go (a ++ lowsL p))
 | [], _, a, _ => by simp [zci, lowsL]
 | e :: p, c, a, h1 => by
  simp only [List.length_cons] at h1
  simp only [zci]
  rw [zhe (by simp; omega), cond_true, zais p (c + 1) _ (by simp; omega)]
  simp [lowsL]
theorem zaby : ∀ (p : List GSpan) (c : Int) (a : List Int), a.length + p.length ≤ 500 → zbz p c a = some (.go (a ++ highsL p))
 | [], _, a, _ => by simp [zbz, highsL]
 | e :: p, c, a, h1 => by
  simp only [List.length_cons] at h1
  simp only [zbz]
  rw [zhe (by simp; omega), cond_true, zaby p (c + 1) _ (by simp; omega)]
  simp [highsL]
theorem zaqw {s : GCoatSheet} (h : DOk s.Dry) : zfr s = some (lowsL s.Dry) := by
 have := h.l
 unfold zfr
 rw [zet (by omega), zais _ _ _ (by simp; omega)]
 rfl
theorem zali {s : GCoatSheet} (h : DOk s.Dry) : zfd s = some (highsL s.Dry) := by
 have := h.l
 unfold zfd
 rw [zet (by omega), zaby _ _ _ (by simp; omega)]
 rfl
theorem zabn {w : List Int} (hw : WOk w) : ∀ (k : Nat) (c acc : Int), 0 ≤ c → c + k ≤ w.length → 0 ≤ acc → acc + 24 * k ≤ 500 → zbw w k c acc = some (.go (acc + (SI w (c + k) - SI w c)))
 | 0, c, acc, _, _, _, _ => by simp [zbw]
 | k + 1, c, acc, h0, h1, h2, h3 => by
  obtain ⟨v, hv, hm⟩ := zaid (xs := w) h0 (by omega)
  have hb := hw.v v hm
  obtain ⟨_, _, hd⟩ := zjb hv
  have hS := zaoc h0 hd
  simp only [zbw, hv, Option.bind_some]
  rw [wrap_eq (by omega) (by omega), zabn hw k (c + 1) (acc + v) (by omega) (by omega) (by omega) (by omega)]
  congr 2
  rw [show c + 1 + (k : Int) = c + ((k + 1 : Nat) : Int) by omega]
  omega
theorem zack : ∀ (p : List Int) (c acc : Int), (∀ v ∈ p, 0 ≤ v ∧ v ≤ 24) → 0 ≤ acc → acc + 24 * p.length < 9223372036854775808 → zbu p c acc = some (.go (acc + p.sum))
 | [], _, _, _, _, _ => by simp [zbu]
 | e :: p, c, acc, h, h0, h1 => by
  have h2 := h e (by simp)
  simp only [List.length_cons] at h1
  simp only [zbu]
  rw [wrap_eq (by omega) (by omega), zack p (c + 1) (acc + e) (fun v hv => h v (by simp [hv])) (by omega) (by omega), List.sum_cons]
  congr 2
  omega
theorem zapo {a : Int} {p : List Int} {n : Int} (h : upB (a :: p) = true) (hn : a ≤ n) : a ≤ p.headD n := by
 cases p with
 | nil => exact hn
 | cons b p =>
  rw [zil, Bool.and_eq_true, decide_eq_true_eq] at h
  show a ≤ b
  omega
theorem zaps {a : Int} {p : List Int} (h : upB (a :: p) = true) : upB p = true := by
 cases p with
 | nil => rfl
 | cons b p => rw [zil, Bool.and_eq_true] at h; exact h.2
theorem zaiy : ∀ {p : List Int} (c : Nat), upB p = true → upB (p.drop c) = true
 | [], _, _ => by simp [upB]
 | _ :: _, 0, h => h
 | a :: p, c + 1, h => zaiy (p := p) c (zaps h)
section
variable {d : List GSpan} {cs0 : List GCoatCoat} {pl : List Int} (h : VP d cs0 pl) {w : List Int} (hw : WOk w) (hl : w.length = d.length)
include h hw hl in
theorem zadv {p : List Int} {c a : Int} (h0 : 0 ≤ c) (hp : pl.drop c.toNat = a :: p) : zdp pl c w = some (SI w (p.headD d.length) - SI w a) := by
 have hc := h.c
 have hL := h.l
 have hdl := h.dk.l
 have hlen := zng hp
 have hm : a ∈ pl := List.mem_of_mem_drop (i := c.toNat) (by rw [hp]; simp)
 have ha := h.r a hm
 have hup : upB (a :: p) = true := by rw [← hp]; exact zaiy _ h.u
 have hb := zapo (n := d.length) hup (by omega)
 have hSa := SI_bd hw a
 unfold zdp
 rw [wrap_eq (by omega) (by omega), zad h0 hp]
 simp only [Option.bind_some]
 cases p with
 | nil =>
  simp only [List.length_nil] at hlen
  rw [decide_eq_false (by omega), zet (by omega), show leB 0 a = true from decide_eq_true (by omega)]
  have hsum := zakt (w.drop a.toNat) (fun v hv => hw.v v (List.mem_of_mem_drop hv))
  have hwl := hw.l
  rw [zack _ _ _ (fun v hv => hw.v v (List.mem_of_mem_drop hv)) (Int.le_refl _) (by rw [List.length_drop]; omega), zaow]
  show some (0 + (w.sum - SI w a)) = some (SI w (d.length : Int) - SI w a)
  rw [zasg (n := (d.length : Int)) (by omega)]
  congr 1
  omega
 | cons b p =>
  have hm2 : b ∈ pl := List.mem_of_mem_drop (i := c.toNat) (by rw [hp]; simp)
  have hb2 := h.r b hm2
  have hb' : a ≤ b := hb
  simp only [List.length_cons] at hlen
  have hwl := hw.l
  rw [decide_eq_true (by omega), zad (by omega) (zac h0 hp)]
  simp only [cond_true, Option.bind_some]
  rw [show boundOk b = true by simp [boundOk]; omega, show loOk a = true by simp [loOk]; omega]
  rw [zabn hw _ _ _ (by omega) (by omega) (Int.le_refl _) (by omega)]
  show some (0 + (SI w (a + ((b - a).toNat : Int)) - SI w a)) = some (SI w b - SI w a)
  rw [show a + ((b - a).toNat : Int) = b by omega]
  congr 1
  omega
include h hw hl in
theorem zajp {s : GCoatSheet} (hs : s.Coats = cs0) {p : List Int} {cs : List GCoatCoat} {k : GCoatCoat} {c a : Int} (h0 : 0 ≤ c) (hp : pl.drop c.toNat = a :: p) (hk : cs0.drop c.toNat = k :: cs) : zfi s pl c w = some (decide (SI w (p.headD d.length) - SI w a < k.Need)) := by
 unfold zfi
 rw [zadv h hw hl h0 hp, hs, zad h0 hk]
 rfl
include h hw hl in
theorem zajc {s : GCoatSheet} (hs : s.Coats = cs0) {p : List Int} {cs : List GCoatCoat} {k : GCoatCoat} {c a : Int} (h0 : 0 ≤ c) (hp : pl.drop c.toNat = a :: p) (hk : cs0.drop c.toNat = k :: cs) : zff s pl c w = some (!p.isEmpty && decide (SI w (p.headD d.length) - SI w a > k.Peel)) := by
 have hc := h.c
 have hL := h.l
 have hlen := zng hp
 unfold zff
 rw [zadv h hw hl h0 hp, hs, zad h0 hk, wrap_eq (by omega) (by omega)]
 cases p with
 | nil =>
  simp only [List.length_nil] at hlen
  rw [decide_eq_false (by omega)]; rfl
 | cons b p =>
  simp only [List.length_cons] at hlen
  rw [decide_eq_true (by omega)]; rfl
end
theorem zxp {pl : List Int} {s : GCoatSheet} (h : VP s.Dry s.Coats pl) : ∀ (p : List Int) (cs : List GCoatCoat) (c : Int), 0 ≤ c → pl.drop c.toNat = p → s.Coats.drop c.toNat = cs → p.length = cs.length →
  zdj s pl p c = match failW (SI (lowsL s.Dry)) (SI (highsL s.Dry)) s.Dry.length p cs c with | some r => some (.ret (r.1, r.2, true)) | none => some (.go ())
 | [], [], _, _, _, _, _ => rfl
 | a :: p, [], _, _, _, _, hl => by simp at hl
 | [], _ :: _, _, _, _, _, hl => by simp at hl
 | a :: p, k :: cs, c, h0, hp, hk, hll => by
  simp only [zdj, zaqw h.dk, zali h.dk, Option.bind_some, zajp h h.dk.low (by simp [lowsL]) rfl h0 hp hk, zajc h h.dk.high (by simp [highsL]) rfl h0 hp hk, failW]
  rw [zxp h p cs (c + 1) (by omega) (zac h0 hp) (zac h0 hk) (by simpa using hll)]
  cases decide (SI (lowsL s.Dry) (p.headD s.Dry.length) - SI (lowsL s.Dry) a < k.Need) <;> cases (!p.isEmpty && decide (SI (highsL s.Dry) (p.headD s.Dry.length) - SI (highsL s.Dry) a > k.Peel)) <;> rfl
theorem VP.pl {d : List GSpan} {cs : List GCoatCoat} {p : List Int} (h : VP d cs p) : lenOk p = true := by
 have := h.c; have := h.l
 exact zet (by omega)
theorem zagi {pl : List Int} {s : GCoatSheet} (h : VP s.Dry s.Coats pl) : zfc s pl = some (match worstW s.Dry s.Coats pl with | some r => (r.1, r.2, true) | none => (0, 0, false)) := by
 unfold zfc worstW
 rw [h.pl, zxp h pl s.Coats 0 (Int.le_refl _) rfl rfl h.l]
 cases failW (SI (lowsL s.Dry)) (SI (highsL s.Dry)) s.Dry.length pl s.Coats 0 <;> rfl
theorem zaac {pl : List Int} {s : GCoatSheet} (h : VP s.Dry s.Coats pl) : zdr s pl = some (sureB s.Dry s.Coats pl) := by
 unfold zdr sureB
 rw [zagi h]
 cases worstW s.Dry s.Coats pl <;> rfl
def ptS (v : Int) : GSpan := ⟨v, v⟩
theorem DOk.pt {w : List Int} (h : WOk w) (h1 : 1 ≤ w.length) : DOk (w.map ptS) := ⟨fun x hx => by
 obtain ⟨v, hv, rfl⟩ := List.mem_map.1 hx
 have := h.v v hv
 exact zug.2 ⟨this.1, Int.le_refl _, this.2⟩, by simp; exact ⟨h1, h.l⟩⟩
end Go.V
end
section
set_option linter.unusedVariables false
set_option linter.defProp false
namespace Go.V
open Go
section
variable {P : Program} {H : Nat → Option VObj} {t : TypeId} {x y : Operand} {k : IntKind} {a b : Int}
end
end Go.V
end
section
set_option linter.unusedVariables false
namespace Go.V
open Go
def pairOk (ops : Array Oper) (p q : Nat × List Nat × List Nat) : Prop := isBefore ops ops.size p.1 q.1 = true ∨ (Indep p q ∧ ∀ o o', ops[p.1]? = some o → ops[q.1]? = some o' → o.apart ops o' = true)
section
variable {P : Program} {G : Glob} {ops : Array Oper} {base : Nat} {Q : VExit → St → Prop} {n : Nat}
theorem QSteps.snoc {m : Nat} {o : Oper} {rd wr : List Nat} {s2 : St} (ho : ops[m]? = some o) : ∀ {l : List Nat} {st s1 : St} {tr : Tr}, QSteps P G ops base l st s1 tr → QStep P G ops base m o s1 s2 rd wr → QSteps P G ops base (l ++ [m]) st s2 (tr ++ [(m, rd, wr)])
 | _, _, _, _, .nil, h => .cons ho h .nil
 | _, _, _, _, .cons ho' hq hs, h => .cons ho' hq (QSteps.snoc ho hs h)
theorem zut {tr : Tr} {q : Nat × List Nat × List Nat} (h : TraceOk ops tr) (h' : ∀ p ∈ tr, pairOk ops p q) : TraceOk ops (tr ++ [q]) := by
 unfold TraceOk
 rw [List.pairwise_append]
 refine ⟨h, List.pairwise_singleton _ _, fun p hp r hr => ?_⟩
 rw [List.mem_singleton.1 hr]
 exact h' p hp
def vbar (P : Program) (G : Glob) (n : Nat) (ops : Array Oper) (base : Nat) (Q : VExit → St → Prop) (b : Nat) (Nx : List Nat → St → Prop) : Nat → List Nat → St → Tr → Prop
 | 0, fl, st, _ => fl = [] ∧ SStep P G n ops base b st (Nx fl) (fun x s => Q (.panic x) s)
 | k + 1, fl, st, tr => SStep P G n ops base b st (Nx fl) (fun x s => Q (.panic x) s) ∧ ∀ m ∈ fl, (∀ i ∈ fl, isBefore ops ops.size i m = false) →
   ∃ o s1 rd wr, ops[m]? = some o ∧ QStep P G ops base m o st s1 rd wr ∧ (∀ p ∈ tr, pairOk ops p (m, rd, wr)) ∧ vbar P G n ops base Q b Nx k (fl.erase m) s1 (tr ++ [(m, rd, wr)])
theorem zus {b : Nat} {Nx : List Nat → St → Prop} : ∀ (k : Nat) {fl : List Nat} {st : St} {tr tr' : Tr}, vbar P G n ops base Q b Nx k fl st tr → (∀ p ∈ tr', p ∈ tr) → vbar P G n ops base Q b Nx k fl st tr'
 | 0, _, _, _, _, h, _ => h
 | k + 1, _, _, _, _, h, hs => ⟨h.1, fun m hm hb => by
   obtain ⟨o, s1, rd, wr, h1, h2, h3, h4⟩ := h.2 m hm hb
   refine ⟨o, s1, rd, wr, h1, h2, fun p hp => h3 p (hs p hp), zus k h4 fun p hp => ?_⟩
   rcases List.mem_append.1 hp with hp | hp
   ·exact List.mem_append_left _ (hs p hp)
   ·exact List.mem_append_right _ hp⟩
theorem zadr {b : Nat} {Nx : List Nat → St → Prop} {k : Nat} {fl : List Nat} {st : St} {tr : Tr} (h : vbar P G n ops base Q b Nx k fl st tr) : SStep P G n ops base b st (Nx fl) (fun x s => Q (.panic x) s) := by
 cases k with
 | zero => exact h.2
 | succ k => exact h.1
def VF (P : Program) (G : Glob) (n : Nat) (ops : Array Oper) (base : Nat) (Q : VExit → St → Prop) : List (List Nat × Nat) → List Nat → List Nat → St → Prop
 | [], last, fl, st => ∃ lst st' tr, lst.Perm (fl ++ last) ∧ QSteps P G ops base lst st st' tr ∧ TraceOk ops tr ∧ Q .normal st'
 | (l, b) :: rest, last, fl, st => ∃ st' tr k, QSteps P G ops base l st st' tr ∧ TraceOk ops tr ∧ vbar P G n ops base Q b (VF P G n ops base Q rest last) k fl st' tr
theorem Left.perm {listed : Array Bool} {l l' : List Nat} (h : Left ops listed l) (hp : l'.Perm l) : Left ops listed l' :=
 ⟨h.1, hp.nodup_iff.2 h.2.1, fun i => (hp.mem_iff).trans (h.2.2 i)⟩
theorem zajh {ro : Option Nat} {nx0 : Nat} {c0 : Ctx} {W0 : World} (hback : backOk ops = true) (hdst : dstsOk n ops = true) :
  ∀ (fuel : Nat) (segs : List (List Nat × Nat)) (last fl : List Nat) (listed : Array Bool) (st : St) (c : Ctx) (W : World) (a : Act),
  VF P G n ops base Q segs last fl st → Left ops listed (fl ++ flat segs last) → (fl ++ flat segs last).length ≤ fuel → Closed ops listed → barOk ops segs last = true → base + ops.size ≤ st.nx → nx0 ≤ base →
  RoOk G c ro → Sim c W → StRep G c W st a → a.tmps.size = n → (∀ i ∈ fl ++ flat segs last, ¬ c.used (base + i)) → Ext c0 W0 c W → (∀ β, c.used β → c0.used β ∨ nx0 ≤ β) →
  wpAnyIn (Fw ro) 0 P .any ops (Lift G n nx0 c0 W0 Q) fuel listed a W := by
 intro fuel
 induction fuel with
 | zero =>
  intro segs last fl listed st c W a h hleft hlen hcl hbar hb hn hro s hr hs hf he hu
  cases segs with
  | cons p rest => obtain ⟨l, b⟩ := p; simp [flat] at hlen
  | nil =>
   obtain ⟨lst, st', tr, hp, hq, htr, hQ⟩ := h
   simp only [flat] at hleft hlen hf
   exact zla hback hdst 0 [] lst listed st c W a ⟨st', tr, hq, htr, hQ⟩ (hleft.perm hp) (by simp only [flat]; rw [hp.length_eq]; exact hlen) hcl rfl hb hn hro s hr hs (fun i hi => hf i (hp.mem_iff.1 hi)) he hu
 | succ fuel ih =>
  intro segs last fl listed st c W a h hleft hlen hcl hbar hb hn hro s hr hs hf he hu
  cases segs with
  | nil =>
   obtain ⟨lst, st', tr, hp, hq, htr, hQ⟩ := h
   simp only [flat] at hleft hlen hf
   exact zla hback hdst (fuel + 1) [] lst listed st c W a ⟨st', tr, hq, htr, hQ⟩ (hleft.perm hp) (by simp only [flat]; rw [hp.length_eq]; exact hlen) hcl rfl hb hn hro s hr hs (fun i hi => hf i (hp.mem_iff.1 hi)) he hu
  | cons p rest =>
   obtain ⟨l, b⟩ := p
   refine ⟨fun hrd => ?_, fun j hj => ?_⟩
   ·have hnil := zig hback hleft hrd
    simp [flat] at hnil
   ·have hjl := zit hleft hj
    obtain ⟨hjlt, _, hpre⟩ := zka hj
    have hjlt' : j < listed.size := by rw [hleft.1]; exact hjlt
    have hno : ∀ i ∈ fl ++ flat ((l, b) :: rest) last, isBefore ops ops.size i j = false := by
     intro i hi
     cases hbf : isBefore ops ops.size i j with
     | false => rfl
     | true =>
      have h1 := zgw hcl _ _ _ hpre hbf
      rw [hleft.unlisted hi] at h1
      cases h1
    have hcl' := hcl.set hpre hjlt'
    have hnd := hleft.2.1
    have hlt : ∀ i ∈ fl ++ flat ((l, b) :: rest) last, i < ops.size := fun i hi => ((hleft.2.2 i).1 hi).1
    obtain ⟨st', tr, k, hq, htr, hB⟩ := h
    have quiet : ∀ (o : Oper) (rd wr : List Nat) (s1 : St) (l' fl' : List Nat), ops[j]? = some o → QStep P G ops base j o st s1 rd wr → VF P G n ops base Q ((l', b) :: rest) last fl' s1 → fl' ++ flat ((l', b) :: rest) last = (fl ++ flat ((l, b) :: rest) last).erase j → barOk ops ((l', b) :: rest) last = true →
      wpOpIn (Fw ro) 0 P ops (Lift G n nx0 c0 W0 Q) j (wpAnyIn (Fw ro) 0 P .any ops (Lift G n nx0 c0 W0 Q) fuel (listed.setIfInBounds j true)) a W := by
     intro o rd wr s1 l' fl' ho hqj hd' hflat hbar'
     refine zhf ho hqj s hr (by rw [hs]; exact zdk hdst ho) (hf j hjl) (by omega) ?_
     intro a' W' c' he' hs' hr' hsz hu'
     refine ih ((l', b) :: rest) last fl' _ s1 c' W' a' hd' (by rw [hflat]; exact hleft.set hjl) ?_ hcl' hbar' (by rw [hqj.nx]; exact hb) hn (hro.ext he') hs' hr' (hsz.trans hs) ?_ (he.trans he') ?_
     ·rw [hflat, List.length_erase_of_mem hjl]; omega
     ·intro i hi hbad
      rw [hflat, hnd.mem_erase_iff] at hi
      rcases hu' _ hbad with h | h
      ·exact hf i hi.2 h
      ·exact hi.1 (by omega)
     ·intro β hβ
      rcases hu' β hβ with h | h
      ·exact hu β h
      ·right; omega
    simp only [barOk, Bool.and_eq_true, List.all_eq_true] at hbar
    by_cases hjf : j ∈ fl
    ·have hdis := List.nodup_append.1 hnd
     have hjn : j ∉ l := fun hm => hdis.2.2 j hjf j (by simp [flat, hm]) rfl
     cases k with
     | zero => rw [hB.1] at hjf; cases hjf
     | succ k =>
      obtain ⟨o, sm, rd, wr, ho, hqm, hpo, hB'⟩ := hB.2 j hjf (fun i hi => hno i (List.mem_append_left _ hi))
      obtain ⟨o2, rd2, wr2, s1, tr2, ho2, hqj, hqs, htr2, hsub, _⟩ := (hq.snoc ho hqm).pull (j := j) (by simp) (zut htr hpo) (fun i hi => by
       rcases List.mem_append.1 hi with hi | hi
       ·exact hno i (by simp [flat, hi])
       ·rw [List.mem_singleton.1 hi]; exact hno j hjl)
      have el : (l ++ [j]).erase j = l := by rw [List.erase_append_right _ hjn, List.erase_cons_head, List.append_nil]
      rw [el] at hqs
      refine quiet o2 rd2 wr2 s1 l (fl.erase j) ho2 hqj ⟨sm, tr2, k, hqs, htr2, zus k hB' hsub⟩ (List.erase_append_left _ hjf).symm ?_
      simp only [barOk, Bool.and_eq_true, List.all_eq_true]
      exact hbar
    ·have hjl2 : j ∈ flat ((l, b) :: rest) last := by
      rcases List.mem_append.1 hjl with h | h
      ·exact absurd h hjf
      ·exact h
     by_cases hjm : j ∈ l
     ·obtain ⟨o2, rd2, wr2, s1, tr2, ho2, hqj, hqs, htr2, hsub, _⟩ := hq.pull hjm htr (fun i hi => hno i (by simp [flat, hi]))
      refine quiet o2 rd2 wr2 s1 (l.erase j) fl ho2 hqj ⟨st', tr2, k, hqs, htr2, zus k hB hsub⟩ ?_ ?_
      ·rw [List.erase_append_right _ hjf]
       simp only [flat]
       rw [List.erase_append_left _ hjm]
      ·simp only [barOk, Bool.and_eq_true, List.all_eq_true]
       exact ⟨⟨fun i hi => hbar.1.1 i (List.mem_of_mem_erase hi), hbar.1.2⟩, hbar.2⟩
     ·simp only [flat] at hjl2
      have hjb : j = b := by
       rcases List.mem_append.1 hjl2 with h | h
       ·exact absurd h hjm
       ·rcases List.mem_cons.1 h with h | h
        ·exact h
        ·have h1 := hbar.1.2 j h
         rw [hno b (by simp [flat])] at h1; cases h1
      subst hjb
      have hlnil : l = [] := by
       cases l with
       | nil => rfl
       | cons i l' =>
        have h1 := hbar.1.1 i (List.mem_cons_self ..)
        rw [hno i (by simp [flat])] at h1; cases h1
      subst hlnil
      cases hq
      have hst := zadr hB
      simp only [flat, List.nil_append] at hf hlt hnd hleft hlen hjl
      refine hst ro c W a _ _ hro s hr hs (hf j hjl) (by omega) ?_ ?_
      ·intro a' W' c' s1 he' hs' hr' hsz hu' hnx hk
       have her : (fl ++ j :: flat rest last).erase j = fl ++ flat rest last := by rw [List.erase_append_right _ hjf, List.erase_cons_head]
       have hmem : ∀ i ∈ fl ++ flat rest last, i ∈ fl ++ j :: flat rest last := by
        intro i hi
        rcases List.mem_append.1 hi with hi | hi
        ·exact List.mem_append_left _ hi
        ·exact List.mem_append_right _ (List.mem_cons_of_mem _ hi)
       refine ih rest last fl _ s1 c' W' a' hk (by have := hleft.set hjl; rwa [her] at this) (by simp at hlen ⊢; omega) hcl' hbar.2 (by omega) hn (hro.ext he') hs' hr' hsz ?_ (he.trans he') ?_
       ·intro i hi hbad
        have hi' := hlt i (hmem i hi)
        rcases hu' _ hbad with h | h | h
        ·exact hf i (hmem i hi) h
        ·have : i = j := by omega
         rw [← her, hnd.mem_erase_iff] at hi
         exact hi.1 this
        ·omega
       ·intro β hβ
        rcases hu' β hβ with h | h | h
        ·exact hu β h
        ·right; omega
        ·right; omega
      ·intro a' W' c' s1 x v he' hs' hr' hsz hu' hnx hv hq
       refine ⟨.panic x, c', s1, ⟨v, rfl, hv⟩, he.trans he', hs', hr', hsz, fun β hβ => ?_, by omega, hq⟩
       rcases hu' β hβ with h | h | h
       ·exact hu β h
       ·right; omega
       ·right; omega
end
end Go.V
namespace Go.V
open Go
theorem VWp.regionFloat {P : Program} {G : Glob} {n id : Nat} {ops : Array Oper} {Q : VExit → St → Prop} {st : St} (hm : P.follows .mixedOrders = true) (segs : List (List Nat × Nat)) (last fl : List Nat)
  (hback : backOk ops = true) (hdst : dstsOk n ops = true) (hbar : barOk ops segs last = true) (hnd : (fl ++ flat segs last).Nodup) (hlen : (fl ++ flat segs last).length ≤ ops.size) (hmem : ∀ i, i ∈ fl ++ flat segs last ↔ i < ops.size)
  (h : VF P G n ops st.nx Q segs last fl { st with nx := st.nx + ops.size }) : VWp P G n (.region id ops true) Q st := by
 intro ro c W a hro s hr hs
 refine wpIn_region_any hm (zajh hback hdst ops.size segs last fl _ _ c W.drew a h ?_ hlen ?_ hbar (Nat.le_refl _) (Nat.le_refl _) (hro.ext (Ext.drew c W)) s.drew ?_ hs ?_ (Ext.drew c W) (fun _ h => .inl h))
 ·refine ⟨by simp, hnd, fun i => ?_⟩
  rw [hmem i]
  constructor
  ·intro hi; exact ⟨hi, by simp [hi]⟩
  ·intro hi; exact hi.1
 ·intro j hj
  exfalso
  by_cases hlt : j < ops.size
  ·simp [hlt] at hj
  ·simp [hlt] at hj
 ·have ab : Abides c W c W.drew := zer rfl
  exact ⟨hr.H, fun t => Rep.abides ab _ (hr.tm t), fun β hb => Nat.lt_of_lt_of_le (hr.nx β hb) (Nat.le_add_right _ _), hr.df.abides ab, hr.G.abides ab⟩
 ·intro i _ hb
  have := hr.nx _ hb
  omega
def flR (P : Program) (G : Glob) (ops : Array Oper) (base : Nat) : Nat → List Oper → List Bool → Tr → (Tr → St → Prop) → St → Prop
 | i, o :: l, true :: mk, tr, K, st => dstepK P G ops (base + i) o st fun rd wr s => flR P G ops base (i + 1) l mk ((i, rd, wr) :: tr) K s
 | i, _ :: l, false :: mk, tr, K, st => flR P G ops base (i + 1) l mk tr K st
 | _, _, _, tr, K, st => K tr st
def idxM : Nat → List Bool → List Nat
 | _, [] => []
 | i, true :: mk => i :: idxM (i + 1) mk
 | i, false :: mk => idxM (i + 1) mk
theorem zabv : ∀ {mk : List Bool} {i j : Nat}, j ∈ idxM i mk → i ≤ j
 | [], _, _, h => by cases h
 | true :: mk, i, j, h => by
  rcases List.mem_cons.1 h with rfl | h
  ·exact Nat.le_refl _
  ·exact Nat.le_of_succ_le (zabv h)
 | false :: mk, i, j, h => Nat.le_of_succ_le (zabv (mk := mk) h)
theorem zld : ∀ (mk : List Bool) (i : Nat), (idxM i mk).Pairwise (· < ·)
 | [], _ => List.Pairwise.nil
 | true :: mk, i => List.pairwise_cons.2 ⟨fun j hj => zabv hj, zld mk (i + 1)⟩
 | false :: mk, i => zld mk (i + 1)
section
variable {P : Program} {G : Glob} {ops : Array Oper} {base : Nat} {Q : VExit → St → Prop} {n : Nat}
theorem zjf : ∀ (l : List Oper) (mk : List Bool) (i : Nat) (tr : Tr) (K : Tr → St → Prop) (st : St), (∀ k o, l[k]? = some o → ops[i + k]? = some o) → mk.length ≤ l.length → flR P G ops base i l mk tr K st →
  ∃ st' tr', QSteps P G ops base (idxM i mk) st st' tr' ∧ K (tr'.reverse ++ tr) st'
 | l, [], i, tr, K, st, _, _, h => ⟨st, [], .nil, by cases l <;> exact h⟩
 | [], _ :: _, _, _, _, _, _, hl, _ => by simp at hl
 | o :: l, true :: mk, i, tr, K, st, ho, hl, h => by
  obtain ⟨rd, wr, s1, hq, hk⟩ := zho h
  obtain ⟨st', tr', hqs, hK⟩ := zjf l mk (i + 1) _ K s1 (fun k o' hk' => by have := ho (k + 1) o' (by simpa using hk'); rw [show i + 1 + k = i + (k + 1) by omega]; exact this) (by simpa using hl) hk
  exact ⟨st', (i, rd, wr) :: tr', .cons (by have := ho 0 o rfl; simpa using this) hq hqs, by simpa using hK⟩
 | o :: l, false :: mk, i, tr, K, st, ho, hl, h =>
  zjf l mk (i + 1) tr K st (fun k o' hk' => by have := ho (k + 1) o' (by simpa using hk'); rw [show i + 1 + k = i + (k + 1) by omega]; exact this) (by simpa using hl) h
def flB (P : Program) (G : Glob) (ops : Array Oper) (base : Nat) (Q : VExit → St → Prop) (l : List Oper) (b : Nat) (K : St → Prop) (st : St) : Prop := match l.drop b with
 | o :: _ => stepK P G ops (base + b) o st K (fun x s => Q (.panic x) s)
 | [] => False
def flD (P : Program) (G : Glob) (ops : Array Oper) (base : Nat) (l : List Oper) (m : Nat) (st : St) (K : List Nat → List Nat → St → Prop) : Prop := match l.drop m with
 | o :: _ => dstepK P G ops (base + m) o st K
 | [] => False
def flGo (P : Program) (G : Glob) (ops : Array Oper) (base : Nat) (Q : VExit → St → Prop) (l : List Oper) (m : Nat) (mE mL : List Bool) : List (List Bool × Nat) → Bool → St → Prop
 | [], true, st => flR P G ops base 0 l mL [] (fun tr s => traceR ops tr ∧ Q .normal s) st
 | [], false, st => flR P G ops base 0 l mE [] (fun tr s => traceR ops tr ∧ Q .normal s) st
 | (mk, b) :: rest, false, st => flR P G ops base 0 l mk [] (fun tr s => traceR ops tr ∧ flB P G ops base Q l b (flGo P G ops base Q l m mE mL rest false) s) st
 | (mk, b) :: rest, true, st => flR P G ops base 0 l mk [] (fun tr s => traceR ops tr ∧ (flB P G ops base Q l b (flGo P G ops base Q l m mE mL rest true) s ∧
   flD P G ops base l m s (fun rd wr s' => hitK ops m rd wr tr ∧ flB P G ops base Q l b (flGo P G ops base Q l m mE mL rest false) s'))) st
def segsI (segs : List (List Bool × Nat)) : List (List Nat × Nat) := segs.map fun p => (idxM 0 p.1, p.2)
def apartM (ops : Array Oper) (m : Nat) (segs : List (List Bool × Nat)) : Bool := segs.all fun p => (idxM 0 p.1).all fun i => isBefore ops ops.size i m || (match ops[i]?, ops[m]? with
 | some o, some o' => o.apart ops o'
 | _, _ => true)
def shortM (k : Nat) (segs : List (List Bool × Nat)) : Bool := segs.all fun p => decide (p.1.length ≤ k)
theorem zqp {l : List Oper} {b : Nat} {K : St → Prop} {st : St} (hl : ∀ (k : Nat) (o : Oper), l[k]? = some o → ops[k]? = some o) (hd : dstsOk n ops = true) (h : flB P G ops base Q l b K st) : SStep P G n ops base b st K (fun x s => Q (.panic x) s) := by
 unfold flB at h
 cases e : l.drop b with
 | nil => rw [e] at h; exact h.elim
 | cons o l2 =>
  rw [e] at h
  have ho : l[b]? = some o := by
   have : (l.drop b)[0]? = some o := by rw [e]; rfl
   simpa using this
  exact zlf (hl b o ho) hd h
theorem zahf {l : List Oper} {m : Nat} {K : List Nat → List Nat → St → Prop} {st : St} (hl : ∀ (k : Nat) (o : Oper), l[k]? = some o → ops[k]? = some o) (h : flD P G ops base l m st K) : ∃ o rd wr st', ops[m]? = some o ∧ QStep P G ops base m o st st' rd wr ∧ K rd wr st' := by
 unfold flD at h
 cases e : l.drop m with
 | nil => rw [e] at h; exact h.elim
 | cons o l2 =>
  rw [e] at h
  have ho : l[m]? = some o := by
   have : (l.drop m)[0]? = some o := by rw [e]; rfl
   simpa using this
  obtain ⟨rd, wr, st', h1, h2⟩ := zho h
  exact ⟨o, rd, wr, st', hl m o ho, h1, h2⟩
theorem zand {l : List Oper} {m : Nat} {mE mL : List Bool} (hl : ∀ (k : Nat) (o : Oper), l[k]? = some o → ops[k]? = some o) (hd : dstsOk n ops = true) (hap : apartOk ops = true) (hE : mE.length ≤ l.length) (hL : mL.length ≤ l.length) (hp : (idxM 0 mL).Perm (m :: idxM 0 mE)) :
  ∀ (segs : List (List Bool × Nat)) (pend : Bool) (st : St), apartM ops m segs = true → shortM l.length segs = true → flGo P G ops base Q l m mE mL segs pend st → VF P G n ops base Q (segsI segs) (idxM 0 mE) (if pend then [m] else []) st := by
 have hl0 : ∀ (k : Nat) (o : Oper), l[k]? = some o → ops[0 + k]? = some o := fun k o h => by rw [Nat.zero_add]; exact hl k o h
 have tok : ∀ {mk : List Bool} {st st' : St} {tr : Tr}, QSteps P G ops base (idxM 0 mk) st st' tr → traceR ops (tr.reverse ++ []) → TraceOk ops tr := by
  intro mk st st' tr hq h
  refine zfz hap tr ?_ (by simpa using zjr h)
  rw [hq.fst]
  exact zld mk 0
 intro segs
 induction segs with
 | nil =>
  intro pend st _ _ h
  cases pend with
  | true =>
   obtain ⟨st', tr, hq, ht, hQ⟩ := zjf l mL 0 [] _ st hl0 hL h
   exact ⟨_, st', tr, hp, hq, tok hq ht, hQ⟩
  | false =>
   obtain ⟨st', tr, hq, ht, hQ⟩ := zjf l mE 0 [] _ st hl0 hE h
   exact ⟨_, st', tr, List.Perm.refl _, hq, tok hq ht, hQ⟩
 | cons p rest ih =>
  obtain ⟨mk, b⟩ := p
  intro pend st ha hs h
  unfold apartM at ha
  unfold shortM at hs
  simp only [List.all_cons, Bool.and_eq_true] at ha hs
  have hmk : mk.length ≤ l.length := of_decide_eq_true hs.1
  cases pend with
  | false =>
   obtain ⟨st', tr, hq, ht, hB⟩ := zjf l mk 0 [] _ st hl0 hmk h
   exact ⟨st', tr, 0, hq, tok hq ht, rfl, (zqp hl hd hB).mono (fun s hs' => ih false s ha.2 hs.2 hs') (fun _ _ h => h)⟩
  | true =>
   obtain ⟨st', tr, hq, ht, hB, hD⟩ := zjf l mk 0 [] _ st hl0 hmk h
   refine ⟨st', tr, 1, hq, tok hq ht, (zqp hl hd hB).mono (fun s hs' => ih true s ha.2 hs.2 hs') (fun _ _ h => h), fun m' hm' _ => ?_⟩
   have em : m' = m := by simpa using hm'
   subst em
   obtain ⟨o, rd, wr, s1, ho, hqm, hk, hB2⟩ := zahf hl hD
   refine ⟨o, s1, rd, wr, ho, hqm, fun p hp' => ?_, by simp, (zqp hl hd hB2).mono (fun s hs' => ?_) (fun _ _ h => h)⟩
   ·rcases zun hk p (by simpa using hp') with hb | hi
    ·exact .inl hb
    ·cases hbb : isBefore ops ops.size p.1 m' with
     | true => exact .inl hbb
     | false =>
      refine .inr ⟨hi, fun o1 o2 h1 h2 => ?_⟩
      have hpm : p.1 ∈ idxM 0 mk := by rw [← hq.fst]; exact List.mem_map_of_mem hp'
      have := (List.all_eq_true.1 ha.1) p.1 hpm
      simpa [hbb, h1, h2] using this
   ·have := ih false s ha.2 hs.2 hs'
    show VF P G n ops base Q (segsI rest) (idxM 0 mE) ([m'].erase m') s
    rw [List.erase_cons_head]
    exact this
def floatOk (n : Nat) (ops : Array Oper) (m : Nat) (segs : List (List Bool × Nat)) (mE mL : List Bool) : Bool :=
 backOk ops && dstsOk n ops && barOk ops (segsI segs) (idxM 0 mE) && apartOk ops && apartM ops m segs && shortM ops.size segs && decide (mE.length ≤ ops.size) && decide (mL.length ≤ ops.size) && decide ((idxM 0 mL).Perm (m :: idxM 0 mE)) &&
 decide ((m :: flat (segsI segs) (idxM 0 mE)).Nodup) && decide ((m :: flat (segsI segs) (idxM 0 mE)).length ≤ ops.size) && ((m :: flat (segsI segs) (idxM 0 mE)).all fun i => decide (i < ops.size)) && ((List.range ops.size).all fun i => decide (i ∈ m :: flat (segsI segs) (idxM 0 mE)))
theorem zmc (hm : P.follows .mixedOrders = true) {id : Nat} {l : List Oper} {tm : Nat → VV} {H : Nat → Option VObj} {nx : Nat} {df : List VDef}
  (m : Nat) (segs : List (List Bool × Nat)) (mE mL : List Bool) (hstat : floatOk n ⟨l⟩ m segs mE mL = true) (h : flGo P G ⟨l⟩ nx Q l m mE mL segs true ⟨tm, H, nx + l.length, df⟩) : CWp P G n (.region id ⟨l⟩ true) Q ⟨tm, H, nx, df⟩ := by
 unfold floatOk at hstat
 simp only [Bool.and_eq_true, decide_eq_true_eq, List.all_eq_true, List.mem_range] at hstat
 obtain ⟨⟨⟨⟨⟨⟨⟨⟨⟨⟨⟨⟨h1, h2⟩, h3⟩, h4⟩, h5⟩, h6⟩, h7⟩, h8⟩, h9⟩, h10⟩, h11⟩, h12⟩, h13⟩ := hstat
 refine .inr (VWp.regionFloat hm (segsI segs) (idxM 0 mE) [m] h1 h2 h3 h10 h11 (fun i => ⟨fun hi => h12 i hi, fun hi => h13 i hi⟩) ?_)
 have := zand (P := P) (G := G) (base := nx) (Q := Q) (n := n) (ops := ⟨l⟩) (l := l) (fun k o ho => by simpa using ho) h2 h4 h7 h8 h9 segs true _ h5 h6 h
 simpa using this
end
section
variable {P : Program} {G : Glob} {ops : Array Oper} {base : Nat} {Q : VExit → St → Prop} {n : Nat} {i m b : Nat} {o : Oper} {l l2 : List Oper} {mk mE mL : List Bool} {tr : Tr} {K : Tr → St → Prop} {tm : Nat → VV} {H : Nat → Option VObj} {nx : Nat} {df : List VDef} {st : St} {rest : List (List Bool × Nat)}
theorem flR_t : flR P G ops base i (o :: l) (true :: mk) tr K ⟨tm, H, nx, df⟩ = dstepK P G ops (base + i) o ⟨tm, H, nx, df⟩ fun rd wr s => flR P G ops base (i + 1) l mk ((i, rd, wr) :: tr) K s := rfl
theorem flR_f : flR P G ops base i (o :: l) (false :: mk) tr K ⟨tm, H, nx, df⟩ = flR P G ops base (i + 1) l mk tr K ⟨tm, H, nx, df⟩ := rfl
theorem zbs (h : K tr st) : flR P G ops base i [] [] tr K st := h
theorem zjj {K : St → Prop} (ho : l.drop b = o :: l2) (h : stepK P G ops (base + b) o st K (fun x s => Q (.panic x) s)) : flB P G ops base Q l b K st := by unfold flB; rw [ho]; exact h
theorem zsi {K : List Nat → List Nat → St → Prop} (ho : l.drop m = o :: l2) (h : dstepK P G ops (base + m) o st K) : flD P G ops base l m st K := by unfold flD; rw [ho]; exact h
theorem zge (h : flR P G ops base 0 l mL [] (fun tr s => traceR ops tr ∧ Q .normal s) st) : flGo P G ops base Q l m mE mL [] true st := h
theorem zgd (h : flR P G ops base 0 l mE [] (fun tr s => traceR ops tr ∧ Q .normal s) st) : flGo P G ops base Q l m mE mL [] false st := h
theorem zmd (h : flR P G ops base 0 l mk [] (fun tr s => traceR ops tr ∧ (flB P G ops base Q l b (flGo P G ops base Q l m mE mL rest true) s ∧
   flD P G ops base l m s (fun rd wr s' => hitK ops m rd wr tr ∧ flB P G ops base Q l b (flGo P G ops base Q l m mE mL rest false) s'))) st) : flGo P G ops base Q l m mE mL ((mk, b) :: rest) true st := h
end
end Go.V
namespace Go.V
set_option linter.defProp false
def flr := And.intro @flR_t @flR_f
end Go.V
end
section
set_option linter.unusedVariables false
namespace Go.V
open Go
def gone (H H' : Nat → Option VObj) : Nat → Option VObj := fun β => if (H' β).isSome then none else H β
theorem SubHeap.gone (H H' : Nat → Option VObj) : SubHeap (gone H H') H := fun x o h => by
 unfold Go.V.gone at h
 split at h
 ·cases h
 ·exact h
def Frozen (H H' : Nat → Option VObj) (x y : VV) : Prop := y = x ∨ y = .any ∨ ∃ n, sealV (gone H H') n x = some y
def FrozenL (H H' : Nat → Option VObj) : List VV → List VV → Prop
 | [], [] => True
 | x :: xs, y :: ys => Frozen H H' x y ∧ FrozenL H H' xs ys
 | _, _ => False
def FrozenO (H H' : Nat → Option VObj) (o o' : VObj) : Prop := o' = o ∨ ∃ el cs cs', o = .cells el cs ∧ o' = .cells el cs' ∧ FrozenL H H' cs cs'
def Ctx.frz (c : Ctx) (H' : Nat → Option VObj) : Ctx := { c with H := H', A := fun b => c.A b ∨ ∃ β, c.live β ∧ (H' β).isSome = false ∧ c.φ β = b }
section
variable {c : Ctx} {W : World} {H' : Nat → Option VObj}
theorem zhc (hl : ∀ β, (H' β).isSome = true → c.live β) : Abides c W (c.frz H') W := ⟨fun _ h => .inl h, fun _ _ => rfl, fun _ h => h, fun β _ h => hl β h, fun _ _ _ => rfl, fun _ _ _ => rfl⟩
theorem zwt (hl : ∀ β, (H' β).isSome = true → c.live β) : Ext c W (c.frz H') W where
 A _ h := .inl h
 newA b h := h.imp id fun ⟨β, h1, _, e⟩ => .inr ⟨β, h1, e⟩
 used _ h := h
 live β _ h := hl β h
 φ _ _ _ := rfl
 room _ _ _ := rfl
 keep _ _ _ := rfl
 old x h _ := ⟨x, hl x h, rfl⟩
 size := Nat.le_refl _
 os := rfl
 tape := rfl
 output := rfl
theorem zsj (s : Sim c W) (hl : ∀ β, (H' β).isSome = true → c.live β) {x y : VV} {v : Value} (h : Frozen c.H H' x y) (hr : Rep c W x v) : Rep (c.frz H') W y v := by
 rcases h with rfl | rfl | ⟨n, hn⟩
 ·exact Rep.abides (zhc hl) _ hr
 ·unfold Rep; trivial
 ·have h1 := (zhn s (SubHeap.gone c.H H') n).1 x v y hn hr
  refine Rep.abides (zcg fun b hb => ?_) _ h1
  rcases hb with hb | ⟨β, hβ, e⟩
  ·exact .inl hb
  ·refine .inr ⟨β, ?_, ?_, e⟩
   ·unfold Go.V.gone at hβ
    split at hβ
    ·cases hβ
    ·exact hβ
   ·cases h0 : (H' β).isSome with
    | false => rfl
    | true => unfold Go.V.gone at hβ; rw [h0] at hβ; cases hβ
theorem zgy (s : Sim c W) (hl : ∀ β, (H' β).isSome = true → c.live β) : ∀ {xs ys : List VV} {l : List Value}, FrozenL c.H H' xs ys → RepL c W xs l → RepL (c.frz H') W ys l
 | [], [], _, _, h => h
 | _ :: _, _ :: _, _, ⟨h1, h2⟩, ⟨u, us, e, r1, r2⟩ => ⟨u, us, e, zsj s hl h1 r1, zgy s hl h2 r2⟩
 | [], _ :: _, _, h, _ => h.elim
 | _ :: _, [], _, h, _ => h.elim
theorem FrozenL.length {H H' : Nat → Option VObj} : ∀ {xs ys : List VV}, FrozenL H H' xs ys → ys.length = xs.length
 | [], [], _ => rfl
 | _ :: _, _ :: _, h => by simp [FrozenL.length h.2]
 | [], _ :: _, h => h.elim
 | _ :: _, [], h => h.elim
theorem Sim.frz (s : Sim c W) (ho : ∀ β o', H' β = some o' → ∃ o, c.H β = some o ∧ FrozenO c.H H' o o') (hloop : ∀ x st pe tm ps asg bo df, H' x = some (.loop st pe tm ps asg bo df) → isDef H' df) : Sim (c.frz H') W := by
 have hl : ∀ β, (H' β).isSome = true → c.live β := by
  intro β h
  obtain ⟨o', h'⟩ := Option.isSome_iff_exists.1 h
  obtain ⟨o, h1, _⟩ := ho β o' h'
  simp [Ctx.live, h1]
 have ab : Abides c W (c.frz H') W := zhc hl
 refine ⟨fun x h => s.used x (hl x h), fun x ox hx => ?_, fun x h => s.lt x (hl x h), fun x h => ?_, fun x y hx hy e => s.inj x y (hl x hx) (hl y hy) e, fun b hb => ?_⟩
 ·have hx0 : H' x = some ox := hx
  obtain ⟨o, h1, hf⟩ := ho x ox hx0
  rcases hf with rfl | ⟨el, cs, cs', rfl, rfl, hcs⟩
  ·refine (s.obj x _ h1).abides ab (s.used x (hl x (by simp [hx0]))) (by simp [Ctx.live, Ctx.frz, hx0]) rfl ?_
   intro st pe tm ps asg bo df e'
   subst e'
   exact hloop x st pe tm ps asg bo df hx0
  ·obtain ⟨arr, e, a1, a2, a3, a4, a5⟩ := s.obj x _ h1
   exact ⟨arr, e, a1, a2, by rw [hcs.length]; exact a3, by rw [hcs.length]; exact zgy s hl hcs a4, a5⟩
 ·rintro (hA | ⟨β, h1, hn, e⟩)
  ·exact s.notA x (hl x h) hA
  ·have := s.inj β x h1 (hl x h) e
   subst this
   have h' : (H' β).isSome = true := h
   rw [h'] at hn; cases hn
 ·rcases hb with hA | ⟨β, h1, _, e⟩
  ·exact s.ltA b hA
  ·rw [← e]; exact s.lt β h1
end
theorem VWp.freeze {P : Program} {G : Glob} {n : Nat} {code : Code} {Q : VExit → St → Prop} {st : St} (H' : Nat → Option VObj) (tm' : Nat → VV) (ho : ∀ β o', H' β = some o' → ∃ o, st.H β = some o ∧ FrozenO st.H H' o o') (hloop : ∀ x s pe tm ps asg bo df, H' x = some (.loop s pe tm ps asg bo df) → isDef H' df)
  (htm : ∀ t, Frozen st.H H' (st.tm t) (tm' t)) (h : VWp P G n code Q ⟨tm', H', st.nx, st.df⟩) : VWp P G n code Q st := by
 intro ro c W a hro s hr hsz
 have ho' : ∀ β o', H' β = some o' → ∃ o, c.H β = some o ∧ FrozenO c.H H' o o' := by rw [hr.H]; exact ho
 have hl : ∀ β, (H' β).isSome = true → c.live β := by
  intro β h
  obtain ⟨o', h'⟩ := Option.isSome_iff_exists.1 h
  obtain ⟨o, h1, _⟩ := ho' β o' h'
  simp [Ctx.live, h1]
 have he : Ext c W (c.frz H') W := zwt hl
 have ab : Abides c W (c.frz H') W := zhc hl
 refine wpIn_mono (h ro (c.frz H') W a (hro.ext he) (s.frz ho' hloop) ⟨rfl, fun t => ?_, hr.nx, hr.df.abides ab, hr.G.abides ab⟩ hsz) fun _ _ _ hl => hl.of_ext he (fun β hb => .inl hb) (Nat.le_refl _)
 exact zsj s hl (by rw [hr.H]; exact htm t) (hr.tm t)
theorem zaqc {P : Program} {G : Glob} (hm : P.follows .mixedOrders = true) {n : Nat} {x y : Code} {Q : VExit → St → Prop} {st : St} (ho : codeOk n x = true) (h : CWp P G n x (VExit.then (VWp P G n y Q) Q) st) : VWp P G n (.seq x y) Q st := VWp.seq (zei hm x _ st ho h)
theorem zaqo {P : Program} {G : Glob} (hm : P.follows .mixedOrders = true) {n : Nat} {x : Code} {Q : VExit → St → Prop} {st : St} (ho : codeOk n x = true) (h : CWp P G n x Q st) : VWp P G n x Q st := zei hm x _ st ho h
theorem VOpen.runW {P : Program} {G : Glob} {f : FuncId} {fn : Func} {code : Code} {args : List VV} {H : Nat → Option VObj} {nx : Nat} {R Rp : VV → (Nat → Option VObj) → Nat → Prop}
  (hc : Callable P f) (hf : P.funcs[f]? = some fn) (hb : fn.body = some code) (hst : decide (args.length ≤ fn.ntmps) = true)
  (h : VWp P (G.at (some none)) fn.ntmps code (OpenPostD P G fn R Rp) { tm := argsTm args, H, nx, df := [] }) : VOpen P G f args H nx R Rp :=
 VOpen.of_bodyD hc hf hb (of_decide_eq_true hst) h
theorem VPure.runRW {P : Program} {G : Glob} {f : FuncId} {fn : Func} {code : Code} {args : List VV} {r : PRes} (hc : Callable P f) (hf : P.funcs[f]? = some fn) (hb : fn.body = some code)
  (hst : decide (args.length ≤ fn.ntmps) = true) (h : VWp P (G.at (some none)) fn.ntmps code (OpenPostD P G fn (RR r) (RPn r)) { tm := argsTm args, H := fun _ => none, nx := 0, df := [] }) : VPure P G f args r :=
 VPure.of_openR (VOpen.runW hc hf hb hst h)
end Go.V
end
section
set_option linter.unusedVariables false
namespace Go.V
open Go
theorem VOpen.freeze {P : Program} {G : Glob} {f : FuncId} {args args' : List VV} {H : Nat → Option VObj} {nx : Nat} {R Rp : VV → (Nat → Option VObj) → Nat → Prop} (H' : Nat → Option VObj) (ho : ∀ β o', H' β = some o' → ∃ o, H β = some o ∧ FrozenO H H' o o')
  (hloop : ∀ x s pe tm ps asg bo df, H' x = some (.loop s pe tm ps asg bo df) → isDef H' df) (ha : FrozenL H H' args args') (h : VOpen P G f args' H' nx R Rp) : VOpen P G f args H nx R Rp := by
 refine ⟨h.1, fun c W vs s hH hnx hG hargs => ?_⟩
 have ho' : ∀ β o', H' β = some o' → ∃ o, c.H β = some o ∧ FrozenO c.H H' o o' := by rw [hH]; exact ho
 have hl : ∀ β, (H' β).isSome = true → c.live β := by
  intro β h
  obtain ⟨o', h'⟩ := Option.isSome_iff_exists.1 h
  obtain ⟨o, h1, _⟩ := ho' β o' h'
  simp [Ctx.live, h1]
 have he : Ext c W (c.frz H') W := zwt hl
 have ab : Abides c W (c.frz H') W := zhc hl
 refine (h.2 (c.frz H') W vs (s.frz ho' hloop) rfl hnx (hG.abides ab) (zgy s hl (by rw [hH]; exact ha) hargs)).mono ?_
 rintro e W' ⟨c', H1, nx', g1, g2, g3, g4, g5, g6, g7⟩
 exact ⟨c', H1, nx', he.trans g1, g2, g3, g4, g5, g6, g7⟩
def Yields (P : Program) (G : Glob) (β : Nat) (x : VV) (H : Nat → Option VObj) (nx : Nat) (Post : Bool → (Nat → Option VObj) → Nat → Prop) : Prop :=
 ∀ (r : Option (Option Nat)) (o : Oper) (st : St) (K : St → Prop), st.H = H → st.nx = nx → (∀ b H' nx', Post b H' nx' → K ⟨(match o.dst with | some d => upd st.tm d (.lit (.bool b)) | none => st.tm), H', nx', st.df⟩) → yieldK P (G.at r) o β [x] st K
theorem Yields.mono {P : Program} {G : Glob} {β : Nat} {x : VV} {H : Nat → Option VObj} {nx : Nat} {Post Post' : Bool → (Nat → Option VObj) → Nat → Prop} (h : Yields P G β x H nx Post) (hp : ∀ b H' nx', Post b H' nx' → Post' b H' nx') : Yields P G β x H nx Post' :=
 fun r o st K h1 h2 hk => h r o st K h1 h2 fun b H' nx' hp' => hk b H' nx' (hp b H' nx' hp')
abbrev Inv := Option (List VV) → (Nat → Prop) → (Nat → Option VObj) → Nat → Prop
def Stable (I : Inv) : Prop := ∀ o (Fr Fr1 : Nat → Prop) (H H1 : Nat → Option VObj) (nx nx1 : Nat), I o Fr H nx → (∀ γ, γ < nx → ¬ Fr γ → H1 γ = H γ) → nx ≤ nx1 → (∀ γ, Fr1 γ → Fr γ ∨ (nx ≤ γ ∧ γ < nx1)) → I o Fr1 H1 nx1
def Rounds (P : Program) (G : Glob) (β : Nat) (I : Inv) : Prop := ∀ x rest (Fr : Nat → Prop) (H : Nat → Option VObj) (nx : Nat), (∀ γ, Fr γ → γ < nx) → I (some (x :: rest)) Fr H nx →
 Yields P G β x H nx (fun b H' nx' => nx ≤ nx' ∧ (∀ γ, Fr γ → H' γ = H γ) ∧ I (if b then some rest else none) Fr H' nx')
def noFr : Nat → Prop := fun _ => False
def Iter (P : Program) (G : Glob) (g : VV) (L : List VV) : Prop := ∃ f first captured, g = .fn (.func f) first captured ∧ ∀ (β : Nat) (I : Inv), Stable I → Rounds P G β I → ∀ (H : Nat → Option VObj) (nx : Nat), β < nx → I (some L) noFr H nx →
 VOpen P G f (first ++ [.yl β] ++ captured) H nx (fun _ H' nx' => I (some []) noFr H' nx' ∨ I none noFr H' nx') (fun _ _ _ => False)
def Own (hp : List (Nat × VObj)) (Fr : Nat → Prop) (H : Nat → Option VObj) (nx : Nat) : Prop := ∀ p ∈ hp, p.1 < nx ∧ ¬ Fr p.1 ∧ H p.1 = some p.2
theorem Own.stable {hp : List (Nat × VObj)} {Fr Fr1 : Nat → Prop} {H H1 : Nat → Option VObj} {nx nx1 : Nat} (h : Own hp Fr H nx) (h1 : ∀ γ, γ < nx → ¬ Fr γ → H1 γ = H γ) (h2 : nx ≤ nx1) (h3 : ∀ γ, Fr1 γ → Fr γ ∨ (nx ≤ γ ∧ γ < nx1)) : Own hp Fr1 H1 nx1 := by
 intro p hp
 obtain ⟨a, b, c⟩ := h p hp
 refine ⟨Nat.lt_of_lt_of_le a h2, fun hf => ?_, by rw [h1 p.1 a b]; exact c⟩
 rcases h3 p.1 hf with hf | hf
 ·exact b hf
 ·omega
theorem Own.nil {Fr : Nat → Prop} {H : Nat → Option VObj} {nx : Nat} : Own [] Fr H nx := fun _ h => by cases h
theorem Own.cons {p : Nat} {o : VObj} {hp : List (Nat × VObj)} {Fr : Nat → Prop} {H : Nat → Option VObj} {nx : Nat} (h1 : p < nx) (h2 : ¬ Fr p) (h3 : H p = some o) (h : Own hp Fr H nx) : Own ((p, o) :: hp) Fr H nx := by
 intro q hq
 rcases List.mem_cons.1 hq with rfl | hq
 ·exact ⟨h1, h2, h3⟩
 ·exact h q hq
theorem Own.head {p : Nat} {o : VObj} {hp : List (Nat × VObj)} {Fr : Nat → Prop} {H : Nat → Option VObj} {nx : Nat} (h : Own ((p, o) :: hp) Fr H nx) : p < nx ∧ ¬ Fr p ∧ H p = some o := h (p, o) (List.mem_cons_self ..)
theorem Own.tail {p : Nat} {o : VObj} {hp : List (Nat × VObj)} {Fr : Nat → Prop} {H : Nat → Option VObj} {nx : Nat} (h : Own ((p, o) :: hp) Fr H nx) : Own hp Fr H nx := fun q hq => h q (List.mem_cons_of_mem _ hq)
def ownI (J : Option (List VV) → List (Nat × VObj) → Prop) : Inv := fun o Fr H nx => ∃ hp, Own hp Fr H nx ∧ J o hp
theorem zzt {J : Option (List VV) → List (Nat × VObj) → Prop} : Stable (ownI J) := fun _ _ _ _ _ _ _ ⟨hp, h, hj⟩ h1 h2 h3 => ⟨hp, h.stable h1 h2 h3, hj⟩
def ownI2 (I : Inv) (J : Option (List VV) → Option (List VV) → List (Nat × VObj) → Prop) : Inv := fun o Fr H nx => ∃ hp o', Own hp Fr H nx ∧ J o o' hp ∧ I o' (fun γ => Fr γ ∨ ∃ p ∈ hp, p.1 = γ) H nx
theorem zvd {I : Inv} (hs : Stable I) {J : Option (List VV) → Option (List VV) → List (Nat × VObj) → Prop} : Stable (ownI2 I J) := by
 rintro o Fr Fr1 H H1 nx nx1 ⟨hp, o', h, hj, hi⟩ h1 h2 h3
 refine ⟨hp, o', h.stable h1 h2 h3, hj, hs _ _ _ _ _ _ _ hi (fun γ hlt hn => h1 γ hlt fun hf => hn (.inl hf)) h2 ?_⟩
 rintro γ (hf | hf)
 ·rcases h3 γ hf with hf | hf
  ·exact .inl (.inl hf)
  ·exact .inr hf
 ·exact .inl (.inr hf)
section
variable {P : Program} {G : Glob} {n : Nat} {Q : VExit → St → Prop} {tm : Nat → VV} {H : Nat → Option VObj} {nx : Nat} {df : List VDef} {g : Operand} {ps : Array Tmp} {az bo : Code}
def RPost (β : Nat) (LB LO : VObj) (LD : Code → VObj) (Post : Bool → (Nat → Option VObj) → Nat → Prop) : VExit → St → Prop
 | .normal, s => s.H β = some LB ∧ Post true (updH s.H β LO) s.nx
 | .ret, s => s.H β = some LB ∧ Post false (updH s.H β (LD .ret)) s.nx
 | .exit id, s => s.H β = some LB ∧ Post false (updH s.H β (LD (.exit id))) s.nx
 | _, _ => False
def RStart (P : Program) (G : Glob) (n β : Nat) (LB LO : VObj) (LD : Code → VObj) (bo : Code) (Post : Bool → (Nat → Option VObj) → Nat → Prop) : VExit → St → Prop
 | .normal, s => s.H β = some LO ∧ CWp P (G.at (some (some β))) n bo (RPost β LB LO LD Post) { s with H := updH s.H β LB }
 | _, _ => False
theorem zpk (hm : P.follows .mixedOrders = true) {β : Nat} {x : VV} {Post : Bool → (Nat → Option VObj) → Nat → Prop} {LO : VObj} {tml : List VV} {d : Nat} {psl : List Tmp} (hL : LO = VObj.loop .ready none tml ⟨psl⟩ az bo d) (hβ : H β = some LO) (hn : tml.length = n) (ha : psl.length = 1)
  (h1 : codeOk n az = true) (h2 : codeOk n bo = true)
  (h : ∀ LB LD, LB = VObj.loop .busy none tml ⟨psl⟩ az bo d → LD = (fun c => VObj.loop .done (some c) tml ⟨psl⟩ az bo d) →
   CWp P (G.at (some (some β))) n az (RStart P G n β LB LO LD bo Post) ⟨argsTm (roundTm tml psl [x]), H, nx, []⟩) : Yields P G β x H nx Post := by
 intro r o st K e1 e2 hk
 subst e1 e2
 replace hk : ∀ b H' nx', Post b H' nx' → K { st.put o.dst (.lit (.bool b)) with H := H', nx := nx' } := by
  intro b H' nx' hp
  have := hk b H' nx' hp
  obtain ⟨d, op, ty, pos, af, gd⟩ := o
  cases d <;> exact this
 refine zacu hm hL hβ hn (by simp [ha]) h1 h2 fun LB LD hB hD => ?_
 refine CWp.mono az _ ?_ (h LB LD hB hD)
 intro e s hs
 cases e with
 | normal =>
  refine ⟨hs.1, CWp.mono bo _ ?_ hs.2⟩
  intro e s2 hs2
  cases e with
  | normal => exact ⟨hs2.1, hk _ _ _ hs2.2⟩
  | ret => exact ⟨hs2.1, hk _ _ _ hs2.2⟩
  | exit id => exact ⟨hs2.1, hk _ _ _ hs2.2⟩
  | goto l => exact hs2.elim
  | panic x => exact hs2.elim
 | _ => exact hs.elim
theorem zsy {itv : VV} {L : List VV} (hit : Iter P G itv L) (hg : ev (G.at (some none)) tm g = itv)
  (h : ∀ LO, LO = VObj.loop .ready none (tmL n tm) ps az bo nx → ∃ I : Inv, Stable I ∧ Rounds P G (nx + 1) I ∧ I (some L) noFr (updH (updH H nx (.deferred (some []))) (nx + 1) LO) (nx + 2) ∧
   ∀ H' nx', I (some []) noFr H' nx' ∨ I none noFr H' nx' → RangeEnd P (G.at (some none)) n Q ⟨tm, H, nx, df⟩ H' nx') : CWp P (G.at (some none)) n (.rangeFunc g ps az bo) Q ⟨tm, H, nx, df⟩ := by
 obtain ⟨f, first, captured, rfl, hv⟩ := hit
 refine zabu hg fun LO hL => ?_
 obtain ⟨I, hs, hr, h0, he⟩ := h LO hL
 exact VOpen.mono (hv (nx + 1) I hs hr _ _ (Nat.lt_succ_self _) h0) (fun _ H' nx' hh => he H' nx' hh) (fun _ _ _ hh => hh.elim)
end
end Go.V
end
