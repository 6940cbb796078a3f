/- Part of a proof: a logic of values by content, lifted functions, what follows. -/
import Derived.Test.YtgdgkkloccpbnaaGreatDoorVbk
set_option linter.all false
section
set_option linter.unusedVariables false
namespace Go.V
open Go
def pairOk (ops : Array Oper) (p q : Nat × List Nat × List Nat) : Prop := isBefore ops ops.size p.1 q.1 = true ∨ (Indep p q ∧ ∀ o o', ops[p.1]? = some o → ops[q.1]? = some o' → o.apart ops o' = true)
section
variable {P : Program} {G : Glob} {ops : Array Oper} {base : Nat} {Q : VExit → St → Prop} {n : Nat}
theorem QSteps.snoc {m : Nat} {o : Oper} {rd wr : List Nat} {s2 : St} (ho : ops[m]? = some o) : ∀ {l : List Nat} {st s1 : St} {tr : Tr}, QSteps P G ops base l st s1 tr → QStep P G ops base m o s1 s2 rd wr → QSteps P G ops base (l ++ [m]) st s2 (tr ++ [(m, rd, wr)])
 | _, _, _, _, .nil, h => .cons ho h .nil
 | _, _, _, _, .cons ho' hq hs, h => .cons ho' hq (QSteps.snoc ho hs h)
theorem traceOk_snoc {tr : Tr} {q : Nat × List Nat × List Nat} (h : TraceOk ops tr) (h' : ∀ p ∈ tr, pairOk ops p q) : TraceOk ops (tr ++ [q]) := by
 unfold TraceOk
 rw [List.pairwise_append]
 refine ⟨h, List.pairwise_singleton _ _, fun p hp r hr => ?_⟩
 rw [List.mem_singleton.1 hr]
 exact h' p hp
def vbar (P : Program) (G : Glob) (n : Nat) (ops : Array Oper) (base : Nat) (Q : VExit → St → Prop) (b : Nat) (Nx : List Nat → St → Prop) : Nat → List Nat → St → Tr → Prop
 | 0, fl, st, _ => fl = [] ∧ SStep P G n ops base b st (Nx fl) (fun x s => Q (.panic x) s)
 | k + 1, fl, st, tr => SStep P G n ops base b st (Nx fl) (fun x s => Q (.panic x) s) ∧ ∀ m ∈ fl, (∀ i ∈ fl, isBefore ops ops.size i m = false) →
   ∃ o s1 rd wr, ops[m]? = some o ∧ QStep P G ops base m o st s1 rd wr ∧ (∀ p ∈ tr, pairOk ops p (m, rd, wr)) ∧ vbar P G n ops base Q b Nx k (fl.erase m) s1 (tr ++ [(m, rd, wr)])
theorem vbar_sub {b : Nat} {Nx : List Nat → St → Prop} : ∀ (k : Nat) {fl : List Nat} {st : St} {tr tr' : Tr}, vbar P G n ops base Q b Nx k fl st tr → (∀ p ∈ tr', p ∈ tr) → vbar P G n ops base Q b Nx k fl st tr'
 | 0, _, _, _, _, h, _ => h
 | k + 1, _, _, _, _, h, hs => ⟨h.1, fun m hm hb => by
   obtain ⟨o, s1, rd, wr, h1, h2, h3, h4⟩ := h.2 m hm hb
   refine ⟨o, s1, rd, wr, h1, h2, fun p hp => h3 p (hs p hp), vbar_sub k h4 fun p hp => ?_⟩
   rcases List.mem_append.1 hp with hp | hp
   ·exact List.mem_append_left _ (hs p hp)
   ·exact List.mem_append_right _ hp⟩
theorem vbar_sstep {b : Nat} {Nx : List Nat → St → Prop} {k : Nat} {fl : List Nat} {st : St} {tr : Tr} (h : vbar P G n ops base Q b Nx k fl st tr) : SStep P G n ops base b st (Nx fl) (fun x s => Q (.panic x) s) := by
 cases k with
 | zero => exact h.2
 | succ k => exact h.1
def VF (P : Program) (G : Glob) (n : Nat) (ops : Array Oper) (base : Nat) (Q : VExit → St → Prop) : List (List Nat × Nat) → List Nat → List Nat → St → Prop
 | [], last, fl, st => ∃ lst st' tr, lst.Perm (fl ++ last) ∧ QSteps P G ops base lst st st' tr ∧ TraceOk ops tr ∧ Q .normal st'
 | (l, b) :: rest, last, fl, st => ∃ st' tr k, QSteps P G ops base l st st' tr ∧ TraceOk ops tr ∧ vbar P G n ops base Q b (VF P G n ops base Q rest last) k fl st' tr
theorem Left.perm {listed : Array Bool} {l l' : List Nat} (h : Left ops listed l) (hp : l'.Perm l) : Left ops listed l' :=
 ⟨h.1, hp.nodup_iff.2 h.2.1, fun i => (hp.mem_iff).trans (h.2.2 i)⟩
theorem vf_sound {ro : Option Nat} {nx0 : Nat} {c0 : Ctx} {W0 : World} (hback : backOk ops = true) (hdst : dstsOk n ops = true) :
  ∀ (fuel : Nat) (segs : List (List Nat × Nat)) (last fl : List Nat) (listed : Array Bool) (st : St) (c : Ctx) (W : World) (a : Act),
  VF P G n ops base Q segs last fl st → Left ops listed (fl ++ flat segs last) → (fl ++ flat segs last).length ≤ fuel → Closed ops listed → barOk ops segs last = true → base + ops.size ≤ st.nx → nx0 ≤ base →
  RoOk G c ro → Sim c W → StRep G c W st a → a.tmps.size = n → (∀ i ∈ fl ++ flat segs last, ¬ c.used (base + i)) → Ext c0 W0 c W → (∀ β, c.used β → c0.used β ∨ nx0 ≤ β) →
  wpAnyIn (Fw ro) 0 P .any ops (Lift G n nx0 c0 W0 Q) fuel listed a W := by
 intro fuel
 induction fuel with
 | zero =>
  intro segs last fl listed st c W a h hleft hlen hcl hbar hb hn hro s hr hs hf he hu
  cases segs with
  | cons p rest => obtain ⟨l, b⟩ := p; simp [flat] at hlen
  | nil =>
   obtain ⟨lst, st', tr, hp, hq, htr, hQ⟩ := h
   simp only [flat] at hleft hlen hf
   exact vdraw_sound hback hdst 0 [] lst listed st c W a ⟨st', tr, hq, htr, hQ⟩ (hleft.perm hp) (by simp only [flat]; rw [hp.length_eq]; exact hlen) hcl rfl hb hn hro s hr hs (fun i hi => hf i (hp.mem_iff.1 hi)) he hu
 | succ fuel ih =>
  intro segs last fl listed st c W a h hleft hlen hcl hbar hb hn hro s hr hs hf he hu
  cases segs with
  | nil =>
   obtain ⟨lst, st', tr, hp, hq, htr, hQ⟩ := h
   simp only [flat] at hleft hlen hf
   exact vdraw_sound hback hdst (fuel + 1) [] lst listed st c W a ⟨st', tr, hq, htr, hQ⟩ (hleft.perm hp) (by simp only [flat]; rw [hp.length_eq]; exact hlen) hcl rfl hb hn hro s hr hs (fun i hi => hf i (hp.mem_iff.1 hi)) he hu
  | cons p rest =>
   obtain ⟨l, b⟩ := p
   refine ⟨fun hrd => ?_, fun j hj => ?_⟩
   ·have hnil := ready_of_left hback hleft hrd
    simp [flat] at hnil
   ·have hjl := ready_left hleft hj
    obtain ⟨hjlt, _, hpre⟩ := ready_spec hj
    have hjlt' : j < listed.size := by rw [hleft.1]; exact hjlt
    have hno : ∀ i ∈ fl ++ flat ((l, b) :: rest) last, isBefore ops ops.size i j = false := by
     intro i hi
     cases hbf : isBefore ops ops.size i j with
     | false => rfl
     | true =>
      have h1 := before_listed hcl _ _ _ hpre hbf
      rw [hleft.unlisted hi] at h1
      cases h1
    have hcl' := hcl.set hpre hjlt'
    have hnd := hleft.2.1
    have hlt : ∀ i ∈ fl ++ flat ((l, b) :: rest) last, i < ops.size := fun i hi => ((hleft.2.2 i).1 hi).1
    obtain ⟨st', tr, k, hq, htr, hB⟩ := h
    have quiet : ∀ (o : Oper) (rd wr : List Nat) (s1 : St) (l' fl' : List Nat), ops[j]? = some o → QStep P G ops base j o st s1 rd wr → VF P G n ops base Q ((l', b) :: rest) last fl' s1 → fl' ++ flat ((l', b) :: rest) last = (fl ++ flat ((l, b) :: rest) last).erase j → barOk ops ((l', b) :: rest) last = true →
      wpOpIn (Fw ro) 0 P ops (Lift G n nx0 c0 W0 Q) j (wpAnyIn (Fw ro) 0 P .any ops (Lift G n nx0 c0 W0 Q) fuel (listed.setIfInBounds j true)) a W := by
     intro o rd wr s1 l' fl' ho hqj hd' hflat hbar'
     refine qstep_sound ho hqj s hr (by rw [hs]; exact dstsOk_spec hdst ho) (hf j hjl) (by omega) ?_
     intro a' W' c' he' hs' hr' hsz hu'
     refine ih ((l', b) :: rest) last fl' _ s1 c' W' a' hd' (by rw [hflat]; exact hleft.set hjl) ?_ hcl' hbar' (by rw [hqj.nx]; exact hb) hn (hro.ext he') hs' hr' (hsz.trans hs) ?_ (he.trans he') ?_
     ·rw [hflat, List.length_erase_of_mem hjl]; omega
     ·intro i hi hbad
      rw [hflat, hnd.mem_erase_iff] at hi
      rcases hu' _ hbad with h | h
      ·exact hf i hi.2 h
      ·exact hi.1 (by omega)
     ·intro β hβ
      rcases hu' β hβ with h | h
      ·exact hu β h
      ·right; omega
    simp only [barOk, Bool.and_eq_true, List.all_eq_true] at hbar
    by_cases hjf : j ∈ fl
    ·have hdis := List.nodup_append.1 hnd
     have hjn : j ∉ l := fun hm => hdis.2.2 j hjf j (by simp [flat, hm]) rfl
     cases k with
     | zero => rw [hB.1] at hjf; cases hjf
     | succ k =>
      obtain ⟨o, sm, rd, wr, ho, hqm, hpo, hB'⟩ := hB.2 j hjf (fun i hi => hno i (List.mem_append_left _ hi))
      obtain ⟨o2, rd2, wr2, s1, tr2, ho2, hqj, hqs, htr2, hsub, _⟩ := (hq.snoc ho hqm).pull (j := j) (by simp) (traceOk_snoc htr hpo) (fun i hi => by
       rcases List.mem_append.1 hi with hi | hi
       ·exact hno i (by simp [flat, hi])
       ·rw [List.mem_singleton.1 hi]; exact hno j hjl)
      have el : (l ++ [j]).erase j = l := by rw [List.erase_append_right _ hjn, List.erase_cons_head, List.append_nil]
      rw [el] at hqs
      refine quiet o2 rd2 wr2 s1 l (fl.erase j) ho2 hqj ⟨sm, tr2, k, hqs, htr2, vbar_sub k hB' hsub⟩ (List.erase_append_left _ hjf).symm ?_
      simp only [barOk, Bool.and_eq_true, List.all_eq_true]
      exact hbar
    ·have hjl2 : j ∈ flat ((l, b) :: rest) last := by
      rcases List.mem_append.1 hjl with h | h
      ·exact absurd h hjf
      ·exact h
     by_cases hjm : j ∈ l
     ·obtain ⟨o2, rd2, wr2, s1, tr2, ho2, hqj, hqs, htr2, hsub, _⟩ := hq.pull hjm htr (fun i hi => hno i (by simp [flat, hi]))
      refine quiet o2 rd2 wr2 s1 (l.erase j) fl ho2 hqj ⟨st', tr2, k, hqs, htr2, vbar_sub k hB hsub⟩ ?_ ?_
      ·rw [List.erase_append_right _ hjf]
       simp only [flat]
       rw [List.erase_append_left _ hjm]
      ·simp only [barOk, Bool.and_eq_true, List.all_eq_true]
       exact ⟨⟨fun i hi => hbar.1.1 i (List.mem_of_mem_erase hi), hbar.1.2⟩, hbar.2⟩
     ·simp only [flat] at hjl2
      have hjb : j = b := by
       rcases List.mem_append.1 hjl2 with h | h
       ·exact absurd h hjm
       ·rcases List.mem_cons.1 h with h | h
        ·exact h
        ·have h1 := hbar.1.2 j h
         rw [hno b (by simp [flat])] at h1; cases h1
      subst hjb
      have hlnil : l = [] := by
       cases l with
       | nil => rfl
       | cons i l' =>
        have h1 := hbar.1.1 i (List.mem_cons_self ..)
        rw [hno i (by simp [flat])] at h1; cases h1
      subst hlnil
      cases hq
      have hst := vbar_sstep hB
      simp only [flat, List.nil_append] at hf hlt hnd hleft hlen hjl
      refine hst ro c W a _ _ hro s hr hs (hf j hjl) (by omega) ?_ ?_
      ·intro a' W' c' s1 he' hs' hr' hsz hu' hnx hk
       have her : (fl ++ j :: flat rest last).erase j = fl ++ flat rest last := by rw [List.erase_append_right _ hjf, List.erase_cons_head]
       have hmem : ∀ i ∈ fl ++ flat rest last, i ∈ fl ++ j :: flat rest last := by
        intro i hi
        rcases List.mem_append.1 hi with hi | hi
        ·exact List.mem_append_left _ hi
        ·exact List.mem_append_right _ (List.mem_cons_of_mem _ hi)
       refine ih rest last fl _ s1 c' W' a' hk (by have := hleft.set hjl; rwa [her] at this) (by simp at hlen ⊢; omega) hcl' hbar.2 (by omega) hn (hro.ext he') hs' hr' hsz ?_ (he.trans he') ?_
       ·intro i hi hbad
        have hi' := hlt i (hmem i hi)
        rcases hu' _ hbad with h | h | h
        ·exact hf i (hmem i hi) h
        ·have : i = j := by omega
         rw [← her, hnd.mem_erase_iff] at hi
         exact hi.1 this
        ·omega
       ·intro β hβ
        rcases hu' β hβ with h | h | h
        ·exact hu β h
        ·right; omega
        ·right; omega
      ·intro a' W' c' s1 x v he' hs' hr' hsz hu' hnx hv hq
       refine ⟨.panic x, c', s1, ⟨v, rfl, hv⟩, he.trans he', hs', hr', hsz, fun β hβ => ?_, by omega, hq⟩
       rcases hu' β hβ with h | h | h
       ·exact hu β h
       ·right; omega
       ·right; omega
end
end Go.V
namespace Go.V
open Go
theorem VWp.regionFloat {P : Program} {G : Glob} {n id : Nat} {ops : Array Oper} {Q : VExit → St → Prop} {st : St} (hm : P.follows .mixedOrders = true) (segs : List (List Nat × Nat)) (last fl : List Nat)
  (hback : backOk ops = true) (hdst : dstsOk n ops = true) (hbar : barOk ops segs last = true) (hnd : (fl ++ flat segs last).Nodup) (hlen : (fl ++ flat segs last).length ≤ ops.size) (hmem : ∀ i, i ∈ fl ++ flat segs last ↔ i < ops.size)
  (h : VF P G n ops st.nx Q segs last fl { st with nx := st.nx + ops.size }) : VWp P G n (.region id ops true) Q st := by
 intro ro c W a hro s hr hs
 refine wpIn_region_any hm (vf_sound hback hdst ops.size segs last fl _ _ c W.drew a h ?_ hlen ?_ hbar (Nat.le_refl _) (Nat.le_refl _) (hro.ext (Ext.drew c W)) s.drew ?_ hs ?_ (Ext.drew c W) (fun _ h => .inl h))
 ·refine ⟨by simp, hnd, fun i => ?_⟩
  rw [hmem i]
  constructor
  ·intro hi; exact ⟨hi, by simp [hi]⟩
  ·intro hi; exact hi.1
 ·intro j hj
  exfalso
  by_cases hlt : j < ops.size
  ·simp [hlt] at hj
  ·simp [hlt] at hj
 ·have ab : Abides c W c W.drew := abides_of_heap rfl
  exact ⟨hr.H, fun t => Rep.abides ab _ (hr.tm t), fun β hb => Nat.lt_of_lt_of_le (hr.nx β hb) (Nat.le_add_right _ _), hr.df.abides ab, hr.G.abides ab⟩
 ·intro i _ hb
  have := hr.nx _ hb
  omega
def flR (P : Program) (G : Glob) (ops : Array Oper) (base : Nat) : Nat → List Oper → List Bool → Tr → (Tr → St → Prop) → St → Prop
 | i, o :: l, true :: mk, tr, K, st => dstepK P G ops (base + i) o st fun rd wr s => flR P G ops base (i + 1) l mk ((i, rd, wr) :: tr) K s
 | i, _ :: l, false :: mk, tr, K, st => flR P G ops base (i + 1) l mk tr K st
 | _, _, _, tr, K, st => K tr st
def idxM : Nat → List Bool → List Nat
 | _, [] => []
 | i, true :: mk => i :: idxM (i + 1) mk
 | i, false :: mk => idxM (i + 1) mk
theorem idxM_ge : ∀ {mk : List Bool} {i j : Nat}, j ∈ idxM i mk → i ≤ j
 | [], _, _, h => by cases h
 | true :: mk, i, j, h => by
  rcases List.mem_cons.1 h with rfl | h
  ·exact Nat.le_refl _
  ·exact Nat.le_of_succ_le (idxM_ge h)
 | false :: mk, i, j, h => Nat.le_of_succ_le (idxM_ge (mk := mk) h)
theorem idxM_sorted : ∀ (mk : List Bool) (i : Nat), (idxM i mk).Pairwise (· < ·)
 | [], _ => List.Pairwise.nil
 | true :: mk, i => List.pairwise_cons.2 ⟨fun j hj => idxM_ge hj, idxM_sorted mk (i + 1)⟩
 | false :: mk, i => idxM_sorted mk (i + 1)
section
variable {P : Program} {G : Glob} {ops : Array Oper} {base : Nat} {Q : VExit → St → Prop} {n : Nat}
theorem flR_sound : ∀ (l : List Oper) (mk : List Bool) (i : Nat) (tr : Tr) (K : Tr → St → Prop) (st : St), (∀ k o, l[k]? = some o → ops[i + k]? = some o) → mk.length ≤ l.length → flR P G ops base i l mk tr K st →
  ∃ st' tr', QSteps P G ops base (idxM i mk) st st' tr' ∧ K (tr'.reverse ++ tr) st'
 | l, [], i, tr, K, st, _, _, h => ⟨st, [], .nil, by cases l <;> exact h⟩
 | [], _ :: _, _, _, _, _, _, hl, _ => by simp at hl
 | o :: l, true :: mk, i, tr, K, st, ho, hl, h => by
  obtain ⟨rd, wr, s1, hq, hk⟩ := dstepK_sound h
  obtain ⟨st', tr', hqs, hK⟩ := flR_sound l mk (i + 1) _ K s1 (fun k o' hk' => by have := ho (k + 1) o' (by simpa using hk'); rw [show i + 1 + k = i + (k + 1) by omega]; exact this) (by simpa using hl) hk
  exact ⟨st', (i, rd, wr) :: tr', .cons (by have := ho 0 o rfl; simpa using this) hq hqs, by simpa using hK⟩
 | o :: l, false :: mk, i, tr, K, st, ho, hl, h =>
  flR_sound l mk (i + 1) tr K st (fun k o' hk' => by have := ho (k + 1) o' (by simpa using hk'); rw [show i + 1 + k = i + (k + 1) by omega]; exact this) (by simpa using hl) h
def flB (P : Program) (G : Glob) (ops : Array Oper) (base : Nat) (Q : VExit → St → Prop) (l : List Oper) (b : Nat) (K : St → Prop) (st : St) : Prop := match l.drop b with
 | o :: _ => stepK P G ops (base + b) o st K (fun x s => Q (.panic x) s)
 | [] => False
def flD (P : Program) (G : Glob) (ops : Array Oper) (base : Nat) (l : List Oper) (m : Nat) (st : St) (K : List Nat → List Nat → St → Prop) : Prop := match l.drop m with
 | o :: _ => dstepK P G ops (base + m) o st K
 | [] => False
def flGo (P : Program) (G : Glob) (ops : Array Oper) (base : Nat) (Q : VExit → St → Prop) (l : List Oper) (m : Nat) (mE mL : List Bool) : List (List Bool × Nat) → Bool → St → Prop
 | [], true, st => flR P G ops base 0 l mL [] (fun tr s => traceR ops tr ∧ Q .normal s) st
 | [], false, st => flR P G ops base 0 l mE [] (fun tr s => traceR ops tr ∧ Q .normal s) st
 | (mk, b) :: rest, false, st => flR P G ops base 0 l mk [] (fun tr s => traceR ops tr ∧ flB P G ops base Q l b (flGo P G ops base Q l m mE mL rest false) s) st
 | (mk, b) :: rest, true, st => flR P G ops base 0 l mk [] (fun tr s => traceR ops tr ∧ (flB P G ops base Q l b (flGo P G ops base Q l m mE mL rest true) s ∧
   flD P G ops base l m s (fun rd wr s' => hitK ops m rd wr tr ∧ flB P G ops base Q l b (flGo P G ops base Q l m mE mL rest false) s'))) st
def segsI (segs : List (List Bool × Nat)) : List (List Nat × Nat) := segs.map fun p => (idxM 0 p.1, p.2)
def apartM (ops : Array Oper) (m : Nat) (segs : List (List Bool × Nat)) : Bool := segs.all fun p => (idxM 0 p.1).all fun i => isBefore ops ops.size i m || (match ops[i]?, ops[m]? with
 | some o, some o' => o.apart ops o'
 | _, _ => true)
def shortM (k : Nat) (segs : List (List Bool × Nat)) : Bool := segs.all fun p => decide (p.1.length ≤ k)
theorem flB_sound {l : List Oper} {b : Nat} {K : St → Prop} {st : St} (hl : ∀ (k : Nat) (o : Oper), l[k]? = some o → ops[k]? = some o) (hd : dstsOk n ops = true) (h : flB P G ops base Q l b K st) : SStep P G n ops base b st K (fun x s => Q (.panic x) s) := by
 unfold flB at h
 cases e : l.drop b with
 | nil => rw [e] at h; exact h.elim
 | cons o l2 =>
  rw [e] at h
  have ho : l[b]? = some o := by
   have : (l.drop b)[0]? = some o := by rw [e]; rfl
   simpa using this
  exact stepK_sound (hl b o ho) hd h
theorem flD_sound {l : List Oper} {m : Nat} {K : List Nat → List Nat → St → Prop} {st : St} (hl : ∀ (k : Nat) (o : Oper), l[k]? = some o → ops[k]? = some o) (h : flD P G ops base l m st K) : ∃ o rd wr st', ops[m]? = some o ∧ QStep P G ops base m o st st' rd wr ∧ K rd wr st' := by
 unfold flD at h
 cases e : l.drop m with
 | nil => rw [e] at h; exact h.elim
 | cons o l2 =>
  rw [e] at h
  have ho : l[m]? = some o := by
   have : (l.drop m)[0]? = some o := by rw [e]; rfl
   simpa using this
  obtain ⟨rd, wr, st', h1, h2⟩ := dstepK_sound h
  exact ⟨o, rd, wr, st', hl m o ho, h1, h2⟩
theorem flGo_vf {l : List Oper} {m : Nat} {mE mL : List Bool} (hl : ∀ (k : Nat) (o : Oper), l[k]? = some o → ops[k]? = some o) (hd : dstsOk n ops = true) (hap : apartOk ops = true) (hE : mE.length ≤ l.length) (hL : mL.length ≤ l.length) (hp : (idxM 0 mL).Perm (m :: idxM 0 mE)) :
  ∀ (segs : List (List Bool × Nat)) (pend : Bool) (st : St), apartM ops m segs = true → shortM l.length segs = true → flGo P G ops base Q l m mE mL segs pend st → VF P G n ops base Q (segsI segs) (idxM 0 mE) (if pend then [m] else []) st := by
 have hl0 : ∀ (k : Nat) (o : Oper), l[k]? = some o → ops[0 + k]? = some o := fun k o h => by rw [Nat.zero_add]; exact hl k o h
 have tok : ∀ {mk : List Bool} {st st' : St} {tr : Tr}, QSteps P G ops base (idxM 0 mk) st st' tr → traceR ops (tr.reverse ++ []) → TraceOk ops tr := by
  intro mk st st' tr hq h
  refine traceK_sound hap tr ?_ (by simpa using traceR_sound h)
  rw [hq.fst]
  exact idxM_sorted mk 0
 intro segs
 induction segs with
 | nil =>
  intro pend st _ _ h
  cases pend with
  | true =>
   obtain ⟨st', tr, hq, ht, hQ⟩ := flR_sound l mL 0 [] _ st hl0 hL h
   exact ⟨_, st', tr, hp, hq, tok hq ht, hQ⟩
  | false =>
   obtain ⟨st', tr, hq, ht, hQ⟩ := flR_sound l mE 0 [] _ st hl0 hE h
   exact ⟨_, st', tr, List.Perm.refl _, hq, tok hq ht, hQ⟩
 | cons p rest ih =>
  obtain ⟨mk, b⟩ := p
  intro pend st ha hs h
  unfold apartM at ha
  unfold shortM at hs
  simp only [List.all_cons, Bool.and_eq_true] at ha hs
  have hmk : mk.length ≤ l.length := of_decide_eq_true hs.1
  cases pend with
  | false =>
   obtain ⟨st', tr, hq, ht, hB⟩ := flR_sound l mk 0 [] _ st hl0 hmk h
   exact ⟨st', tr, 0, hq, tok hq ht, rfl, (flB_sound hl hd hB).mono (fun s hs' => ih false s ha.2 hs.2 hs') (fun _ _ h => h)⟩
  | true =>
   obtain ⟨st', tr, hq, ht, hB, hD⟩ := flR_sound l mk 0 [] _ st hl0 hmk h
   refine ⟨st', tr, 1, hq, tok hq ht, (flB_sound hl hd hB).mono (fun s hs' => ih true s ha.2 hs.2 hs') (fun _ _ h => h), fun m' hm' _ => ?_⟩
   have em : m' = m := by simpa using hm'
   subst em
   obtain ⟨o, rd, wr, s1, ho, hqm, hk, hB2⟩ := flD_sound hl hD
   refine ⟨o, s1, rd, wr, ho, hqm, fun p hp' => ?_, by simp, (flB_sound hl hd hB2).mono (fun s hs' => ?_) (fun _ _ h => h)⟩
   ·rcases hitK_all hk p (by simpa using hp') with hb | hi
    ·exact .inl hb
    ·cases hbb : isBefore ops ops.size p.1 m' with
     | true => exact .inl hbb
     | false =>
      refine .inr ⟨hi, fun o1 o2 h1 h2 => ?_⟩
      have hpm : p.1 ∈ idxM 0 mk := by rw [← hq.fst]; exact List.mem_map_of_mem hp'
      have := (List.all_eq_true.1 ha.1) p.1 hpm
      simpa [hbb, h1, h2] using this
   ·have := ih false s ha.2 hs.2 hs'
    show VF P G n ops base Q (segsI rest) (idxM 0 mE) ([m'].erase m') s
    rw [List.erase_cons_head]
    exact this
def floatOk (n : Nat) (ops : Array Oper) (m : Nat) (segs : List (List Bool × Nat)) (mE mL : List Bool) : Bool :=
 backOk ops && dstsOk n ops && barOk ops (segsI segs) (idxM 0 mE) && apartOk ops && apartM ops m segs && shortM ops.size segs && decide (mE.length ≤ ops.size) && decide (mL.length ≤ ops.size) && decide ((idxM 0 mL).Perm (m :: idxM 0 mE)) &&
 decide ((m :: flat (segsI segs) (idxM 0 mE)).Nodup) && decide ((m :: flat (segsI segs) (idxM 0 mE)).length ≤ ops.size) && ((m :: flat (segsI segs) (idxM 0 mE)).all fun i => decide (i < ops.size)) && ((List.range ops.size).all fun i => decide (i ∈ m :: flat (segsI segs) (idxM 0 mE)))
theorem cwp_drawF (hm : P.follows .mixedOrders = true) {id : Nat} {l : List Oper} {tm : Nat → VV} {H : Nat → Option VObj} {nx : Nat} {df : List VDef}
  (m : Nat) (segs : List (List Bool × Nat)) (mE mL : List Bool) (hstat : floatOk n ⟨l⟩ m segs mE mL = true) (h : flGo P G ⟨l⟩ nx Q l m mE mL segs true ⟨tm, H, nx + l.length, df⟩) : CWp P G n (.region id ⟨l⟩ true) Q ⟨tm, H, nx, df⟩ := by
 unfold floatOk at hstat
 simp only [Bool.and_eq_true, decide_eq_true_eq, List.all_eq_true, List.mem_range] at hstat
 obtain ⟨⟨⟨⟨⟨⟨⟨⟨⟨⟨⟨⟨h1, h2⟩, h3⟩, h4⟩, h5⟩, h6⟩, h7⟩, h8⟩, h9⟩, h10⟩, h11⟩, h12⟩, h13⟩ := hstat
 refine .inr (VWp.regionFloat hm (segsI segs) (idxM 0 mE) [m] h1 h2 h3 h10 h11 (fun i => ⟨fun hi => h12 i hi, fun hi => h13 i hi⟩) ?_)
 have := flGo_vf (P := P) (G := G) (base := nx) (Q := Q) (n := n) (ops := ⟨l⟩) (l := l) (fun k o ho => by simpa using ho) h2 h4 h7 h8 h9 segs true _ h5 h6 h
 simpa using this
end
section
variable {P : Program} {G : Glob} {ops : Array Oper} {base : Nat} {Q : VExit → St → Prop} {n : Nat} {i m b : Nat} {o : Oper} {l l2 : List Oper} {mk mE mL : List Bool} {tr : Tr} {K : Tr → St → Prop} {tm : Nat → VV} {H : Nat → Option VObj} {nx : Nat} {df : List VDef} {st : St} {rest : List (List Bool × Nat)}
theorem flR_t : flR P G ops base i (o :: l) (true :: mk) tr K ⟨tm, H, nx, df⟩ = dstepK P G ops (base + i) o ⟨tm, H, nx, df⟩ fun rd wr s => flR P G ops base (i + 1) l mk ((i, rd, wr) :: tr) K s := rfl
theorem flR_f : flR P G ops base i (o :: l) (false :: mk) tr K ⟨tm, H, nx, df⟩ = flR P G ops base (i + 1) l mk tr K ⟨tm, H, nx, df⟩ := rfl
theorem flR_end (h : K tr st) : flR P G ops base i [] [] tr K st := h
theorem flB_go {K : St → Prop} (ho : l.drop b = o :: l2) (h : stepK P G ops (base + b) o st K (fun x s => Q (.panic x) s)) : flB P G ops base Q l b K st := by unfold flB; rw [ho]; exact h
theorem flD_go {K : List Nat → List Nat → St → Prop} (ho : l.drop m = o :: l2) (h : dstepK P G ops (base + m) o st K) : flD P G ops base l m st K := by unfold flD; rw [ho]; exact h
theorem flGo_lastL (h : flR P G ops base 0 l mL [] (fun tr s => traceR ops tr ∧ Q .normal s) st) : flGo P G ops base Q l m mE mL [] true st := h
theorem flGo_lastE (h : flR P G ops base 0 l mE [] (fun tr s => traceR ops tr ∧ Q .normal s) st) : flGo P G ops base Q l m mE mL [] false st := h
theorem flGo_segL (h : flR P G ops base 0 l mk [] (fun tr s => traceR ops tr ∧ (flB P G ops base Q l b (flGo P G ops base Q l m mE mL rest true) s ∧
   flD P G ops base l m s (fun rd wr s' => hitK ops m rd wr tr ∧ flB P G ops base Q l b (flGo P G ops base Q l m mE mL rest false) s'))) st) : flGo P G ops base Q l m mE mL ((mk, b) :: rest) true st := h
end
end Go.V
namespace Go.V
set_option linter.defProp false
def flr := And.intro @flR_t @flR_f
end Go.V
end
section
set_option linter.unusedVariables false
namespace Go.V
open Go
def gone (H H' : Nat → Option VObj) : Nat → Option VObj := fun β => if (H' β).isSome then none else H β
theorem SubHeap.gone (H H' : Nat → Option VObj) : SubHeap (gone H H') H := fun x o h => by
 unfold Go.V.gone at h
 split at h
 ·cases h
 ·exact h
def Frozen (H H' : Nat → Option VObj) (x y : VV) : Prop := y = x ∨ y = .any ∨ ∃ n, sealV (gone H H') n x = some y
def FrozenL (H H' : Nat → Option VObj) : List VV → List VV → Prop
 | [], [] => True
 | x :: xs, y :: ys => Frozen H H' x y ∧ FrozenL H H' xs ys
 | _, _ => False
def FrozenO (H H' : Nat → Option VObj) (o o' : VObj) : Prop := o' = o ∨ ∃ el cs cs', o = .cells el cs ∧ o' = .cells el cs' ∧ FrozenL H H' cs cs'
def Ctx.frz (c : Ctx) (H' : Nat → Option VObj) : Ctx := { c with H := H', A := fun b => c.A b ∨ ∃ β, c.live β ∧ (H' β).isSome = false ∧ c.φ β = b }
section
variable {c : Ctx} {W : World} {H' : Nat → Option VObj}
theorem abides_frz (hl : ∀ β, (H' β).isSome = true → c.live β) : Abides c W (c.frz H') W := ⟨fun _ h => .inl h, fun _ _ => rfl, fun _ h => h, fun β _ h => hl β h, fun _ _ _ => rfl, fun _ _ _ => rfl⟩
theorem ext_frz (hl : ∀ β, (H' β).isSome = true → c.live β) : Ext c W (c.frz H') W where
 A _ h := .inl h
 newA b h := h.imp id fun ⟨β, h1, _, e⟩ => .inr ⟨β, h1, e⟩
 used _ h := h
 live β _ h := hl β h
 φ _ _ _ := rfl
 room _ _ _ := rfl
 keep _ _ _ := rfl
 old x h _ := ⟨x, hl x h, rfl⟩
 size := Nat.le_refl _
 os := rfl
 tape := rfl
 output := rfl
theorem frozen_rep (s : Sim c W) (hl : ∀ β, (H' β).isSome = true → c.live β) {x y : VV} {v : Value} (h : Frozen c.H H' x y) (hr : Rep c W x v) : Rep (c.frz H') W y v := by
 rcases h with rfl | rfl | ⟨n, hn⟩
 ·exact Rep.abides (abides_frz hl) _ hr
 ·unfold Rep; trivial
 ·have h1 := (seal_rep s (SubHeap.gone c.H H') n).1 x v y hn hr
  refine Rep.abides (abides_of_p fun b hb => ?_) _ h1
  rcases hb with hb | ⟨β, hβ, e⟩
  ·exact .inl hb
  ·refine .inr ⟨β, ?_, ?_, e⟩
   ·unfold Go.V.gone at hβ
    split at hβ
    ·cases hβ
    ·exact hβ
   ·cases h0 : (H' β).isSome with
    | false => rfl
    | true => unfold Go.V.gone at hβ; rw [h0] at hβ; cases hβ
theorem frozenL_rep (s : Sim c W) (hl : ∀ β, (H' β).isSome = true → c.live β) : ∀ {xs ys : List VV} {l : List Value}, FrozenL c.H H' xs ys → RepL c W xs l → RepL (c.frz H') W ys l
 | [], [], _, _, h => h
 | _ :: _, _ :: _, _, ⟨h1, h2⟩, ⟨u, us, e, r1, r2⟩ => ⟨u, us, e, frozen_rep s hl h1 r1, frozenL_rep s hl h2 r2⟩
 | [], _ :: _, _, h, _ => h.elim
 | _ :: _, [], _, h, _ => h.elim
theorem FrozenL.length {H H' : Nat → Option VObj} : ∀ {xs ys : List VV}, FrozenL H H' xs ys → ys.length = xs.length
 | [], [], _ => rfl
 | _ :: _, _ :: _, h => by simp [FrozenL.length h.2]
 | [], _ :: _, h => h.elim
 | _ :: _, [], h => h.elim
theorem Sim.frz (s : Sim c W) (ho : ∀ β o', H' β = some o' → ∃ o, c.H β = some o ∧ FrozenO c.H H' o o') (hloop : ∀ x st pe tm ps asg bo df, H' x = some (.loop st pe tm ps asg bo df) → isDef H' df) : Sim (c.frz H') W := by
 have hl : ∀ β, (H' β).isSome = true → c.live β := by
  intro β h
  obtain ⟨o', h'⟩ := Option.isSome_iff_exists.1 h
  obtain ⟨o, h1, _⟩ := ho β o' h'
  simp [Ctx.live, h1]
 have ab : Abides c W (c.frz H') W := abides_frz hl
 refine ⟨fun x h => s.used x (hl x h), fun x ox hx => ?_, fun x h => s.lt x (hl x h), fun x h => ?_, fun x y hx hy e => s.inj x y (hl x hx) (hl y hy) e, fun b hb => ?_⟩
 ·have hx0 : H' x = some ox := hx
  obtain ⟨o, h1, hf⟩ := ho x ox hx0
  rcases hf with rfl | ⟨el, cs, cs', rfl, rfl, hcs⟩
  ·refine (s.obj x _ h1).abides ab (s.used x (hl x (by simp [hx0]))) (by simp [Ctx.live, Ctx.frz, hx0]) rfl ?_
   intro st pe tm ps asg bo df e'
   subst e'
   exact hloop x st pe tm ps asg bo df hx0
  ·obtain ⟨arr, e, a1, a2, a3, a4, a5⟩ := s.obj x _ h1
   exact ⟨arr, e, a1, a2, by rw [hcs.length]; exact a3, by rw [hcs.length]; exact frozenL_rep s hl hcs a4, a5⟩
 ·rintro (hA | ⟨β, h1, hn, e⟩)
  ·exact s.notA x (hl x h) hA
  ·have := s.inj β x h1 (hl x h) e
   subst this
   have h' : (H' β).isSome = true := h
   rw [h'] at hn; cases hn
 ·rcases hb with hA | ⟨β, h1, _, e⟩
  ·exact s.ltA b hA
  ·rw [← e]; exact s.lt β h1
end
theorem VWp.freeze {P : Program} {G : Glob} {n : Nat} {code : Code} {Q : VExit → St → Prop} {st : St} (H' : Nat → Option VObj) (tm' : Nat → VV) (ho : ∀ β o', H' β = some o' → ∃ o, st.H β = some o ∧ FrozenO st.H H' o o') (hloop : ∀ x s pe tm ps asg bo df, H' x = some (.loop s pe tm ps asg bo df) → isDef H' df)
  (htm : ∀ t, Frozen st.H H' (st.tm t) (tm' t)) (h : VWp P G n code Q ⟨tm', H', st.nx, st.df⟩) : VWp P G n code Q st := by
 intro ro c W a hro s hr hsz
 have ho' : ∀ β o', H' β = some o' → ∃ o, c.H β = some o ∧ FrozenO c.H H' o o' := by rw [hr.H]; exact ho
 have hl : ∀ β, (H' β).isSome = true → c.live β := by
  intro β h
  obtain ⟨o', h'⟩ := Option.isSome_iff_exists.1 h
  obtain ⟨o, h1, _⟩ := ho' β o' h'
  simp [Ctx.live, h1]
 have he : Ext c W (c.frz H') W := ext_frz hl
 have ab : Abides c W (c.frz H') W := abides_frz hl
 refine wpIn_mono (h ro (c.frz H') W a (hro.ext he) (s.frz ho' hloop) ⟨rfl, fun t => ?_, hr.nx, hr.df.abides ab, hr.G.abides ab⟩ hsz) fun _ _ _ hl => hl.of_ext he (fun β hb => .inl hb) (Nat.le_refl _)
 exact frozen_rep s hl (by rw [hr.H]; exact htm t) (hr.tm t)
theorem vwp_seq {P : Program} {G : Glob} (hm : P.follows .mixedOrders = true) {n : Nat} {x y : Code} {Q : VExit → St → Prop} {st : St} (ho : codeOk n x = true) (h : CWp P G n x (VExit.then (VWp P G n y Q) Q) st) : VWp P G n (.seq x y) Q st := VWp.seq (CWp_sound hm x _ st ho h)
theorem vwp_end {P : Program} {G : Glob} (hm : P.follows .mixedOrders = true) {n : Nat} {x : Code} {Q : VExit → St → Prop} {st : St} (ho : codeOk n x = true) (h : CWp P G n x Q st) : VWp P G n x Q st := CWp_sound hm x _ st ho h
theorem VOpen.runW {P : Program} {G : Glob} {f : FuncId} {fn : Func} {code : Code} {args : List VV} {H : Nat → Option VObj} {nx : Nat} {R Rp : VV → (Nat → Option VObj) → Nat → Prop}
  (hc : Callable P f) (hf : P.funcs[f]? = some fn) (hb : fn.body = some code) (hst : decide (args.length ≤ fn.ntmps) = true)
  (h : VWp P (G.at (some none)) fn.ntmps code (OpenPostD P G fn R Rp) { tm := argsTm args, H, nx, df := [] }) : VOpen P G f args H nx R Rp :=
 VOpen.of_bodyD hc hf hb (of_decide_eq_true hst) h
theorem VPure.runRW {P : Program} {G : Glob} {f : FuncId} {fn : Func} {code : Code} {args : List VV} {r : PRes} (hc : Callable P f) (hf : P.funcs[f]? = some fn) (hb : fn.body = some code)
  (hst : decide (args.length ≤ fn.ntmps) = true) (h : VWp P (G.at (some none)) fn.ntmps code (OpenPostD P G fn (RR r) (RPn r)) { tm := argsTm args, H := fun _ => none, nx := 0, df := [] }) : VPure P G f args r :=
 VPure.of_openR (VOpen.runW hc hf hb hst h)
end Go.V
end
section
set_option linter.unusedVariables false
namespace Go.V
open Go
theorem VOpen.freeze {P : Program} {G : Glob} {f : FuncId} {args args' : List VV} {H : Nat → Option VObj} {nx : Nat} {R Rp : VV → (Nat → Option VObj) → Nat → Prop} (H' : Nat → Option VObj) (ho : ∀ β o', H' β = some o' → ∃ o, H β = some o ∧ FrozenO H H' o o')
  (hloop : ∀ x s pe tm ps asg bo df, H' x = some (.loop s pe tm ps asg bo df) → isDef H' df) (ha : FrozenL H H' args args') (h : VOpen P G f args' H' nx R Rp) : VOpen P G f args H nx R Rp := by
 refine ⟨h.1, fun c W vs s hH hnx hG hargs => ?_⟩
 have ho' : ∀ β o', H' β = some o' → ∃ o, c.H β = some o ∧ FrozenO c.H H' o o' := by rw [hH]; exact ho
 have hl : ∀ β, (H' β).isSome = true → c.live β := by
  intro β h
  obtain ⟨o', h'⟩ := Option.isSome_iff_exists.1 h
  obtain ⟨o, h1, _⟩ := ho' β o' h'
  simp [Ctx.live, h1]
 have he : Ext c W (c.frz H') W := ext_frz hl
 have ab : Abides c W (c.frz H') W := abides_frz hl
 refine (h.2 (c.frz H') W vs (s.frz ho' hloop) rfl hnx (hG.abides ab) (frozenL_rep s hl (by rw [hH]; exact ha) hargs)).mono ?_
 rintro e W' ⟨c', H1, nx', g1, g2, g3, g4, g5, g6, g7⟩
 exact ⟨c', H1, nx', he.trans g1, g2, g3, g4, g5, g6, g7⟩
def Yields (P : Program) (G : Glob) (β : Nat) (x : VV) (H : Nat → Option VObj) (nx : Nat) (Post : Bool → (Nat → Option VObj) → Nat → Prop) : Prop :=
 ∀ (r : Option (Option Nat)) (o : Oper) (st : St) (K : St → Prop), st.H = H → st.nx = nx → (∀ b H' nx', Post b H' nx' → K ⟨(match o.dst with | some d => upd st.tm d (.lit (.bool b)) | none => st.tm), H', nx', st.df⟩) → yieldK P (G.at r) o β [x] st K
theorem Yields.mono {P : Program} {G : Glob} {β : Nat} {x : VV} {H : Nat → Option VObj} {nx : Nat} {Post Post' : Bool → (Nat → Option VObj) → Nat → Prop} (h : Yields P G β x H nx Post) (hp : ∀ b H' nx', Post b H' nx' → Post' b H' nx') : Yields P G β x H nx Post' :=
 fun r o st K h1 h2 hk => h r o st K h1 h2 fun b H' nx' hp' => hk b H' nx' (hp b H' nx' hp')
abbrev Inv := Option (List VV) → (Nat → Prop) → (Nat → Option VObj) → Nat → Prop
def Stable (I : Inv) : Prop := ∀ o (Fr Fr1 : Nat → Prop) (H H1 : Nat → Option VObj) (nx nx1 : Nat), I o Fr H nx → (∀ γ, γ < nx → ¬ Fr γ → H1 γ = H γ) → nx ≤ nx1 → (∀ γ, Fr1 γ → Fr γ ∨ (nx ≤ γ ∧ γ < nx1)) → I o Fr1 H1 nx1
def Rounds (P : Program) (G : Glob) (β : Nat) (I : Inv) : Prop := ∀ x rest (Fr : Nat → Prop) (H : Nat → Option VObj) (nx : Nat), (∀ γ, Fr γ → γ < nx) → I (some (x :: rest)) Fr H nx →
 Yields P G β x H nx (fun b H' nx' => nx ≤ nx' ∧ (∀ γ, Fr γ → H' γ = H γ) ∧ I (if b then some rest else none) Fr H' nx')
def noFr : Nat → Prop := fun _ => False
def Iter (P : Program) (G : Glob) (g : VV) (L : List VV) : Prop := ∃ f first captured, g = .fn (.func f) first captured ∧ ∀ (β : Nat) (I : Inv), Stable I → Rounds P G β I → ∀ (H : Nat → Option VObj) (nx : Nat), β < nx → I (some L) noFr H nx →
 VOpen P G f (first ++ [.yl β] ++ captured) H nx (fun _ H' nx' => I (some []) noFr H' nx' ∨ I none noFr H' nx') (fun _ _ _ => False)
def Own (hp : List (Nat × VObj)) (Fr : Nat → Prop) (H : Nat → Option VObj) (nx : Nat) : Prop := ∀ p ∈ hp, p.1 < nx ∧ ¬ Fr p.1 ∧ H p.1 = some p.2
theorem Own.stable {hp : List (Nat × VObj)} {Fr Fr1 : Nat → Prop} {H H1 : Nat → Option VObj} {nx nx1 : Nat} (h : Own hp Fr H nx) (h1 : ∀ γ, γ < nx → ¬ Fr γ → H1 γ = H γ) (h2 : nx ≤ nx1) (h3 : ∀ γ, Fr1 γ → Fr γ ∨ (nx ≤ γ ∧ γ < nx1)) : Own hp Fr1 H1 nx1 := by
 intro p hp
 obtain ⟨a, b, c⟩ := h p hp
 refine ⟨Nat.lt_of_lt_of_le a h2, fun hf => ?_, by rw [h1 p.1 a b]; exact c⟩
 rcases h3 p.1 hf with hf | hf
 ·exact b hf
 ·omega
theorem Own.nil {Fr : Nat → Prop} {H : Nat → Option VObj} {nx : Nat} : Own [] Fr H nx := fun _ h => by cases h
theorem Own.cons {p : Nat} {o : VObj} {hp : List (Nat × VObj)} {Fr : Nat → Prop} {H : Nat → Option VObj} {nx : Nat} (h1 : p < nx) (h2 : ¬ Fr p) (h3 : H p = some o) (h : Own hp Fr H nx) : Own ((p, o) :: hp) Fr H nx := by
 intro q hq
 rcases List.mem_cons.1 hq with rfl | hq
 ·exact ⟨h1, h2, h3⟩
 ·exact h q hq
theorem Own.head {p : Nat} {o : VObj} {hp : List (Nat × VObj)} {Fr : Nat → Prop} {H : Nat → Option VObj} {nx : Nat} (h : Own ((p, o) :: hp) Fr H nx) : p < nx ∧ ¬ Fr p ∧ H p = some o := h (p, o) (List.mem_cons_self ..)
theorem Own.tail {p : Nat} {o : VObj} {hp : List (Nat × VObj)} {Fr : Nat → Prop} {H : Nat → Option VObj} {nx : Nat} (h : Own ((p, o) :: hp) Fr H nx) : Own hp Fr H nx := fun q hq => h q (List.mem_cons_of_mem _ hq)
def ownI (J : Option (List VV) → List (Nat × VObj) → Prop) : Inv := fun o Fr H nx => ∃ hp, Own hp Fr H nx ∧ J o hp
theorem ownI_stable {J : Option (List VV) → List (Nat × VObj) → Prop} : Stable (ownI J) := fun _ _ _ _ _ _ _ ⟨hp, h, hj⟩ h1 h2 h3 => ⟨hp, h.stable h1 h2 h3, hj⟩
section
variable {P : Program} {G : Glob} {n : Nat} {Q : VExit → St → Prop} {tm : Nat → VV} {H : Nat → Option VObj} {nx : Nat} {df : List VDef} {g : Operand} {ps : Array Tmp} {az bo : Code}
def RPost (β : Nat) (LB LO : VObj) (LD : Code → VObj) (Post : Bool → (Nat → Option VObj) → Nat → Prop) : VExit → St → Prop
 | .normal, s => s.H β = some LB ∧ Post true (updH s.H β LO) s.nx
 | .ret, s => s.H β = some LB ∧ Post false (updH s.H β (LD .ret)) s.nx
 | .exit id, s => s.H β = some LB ∧ Post false (updH s.H β (LD (.exit id))) s.nx
 | _, _ => False
def RStart (P : Program) (G : Glob) (n β : Nat) (LB LO : VObj) (LD : Code → VObj) (bo : Code) (Post : Bool → (Nat → Option VObj) → Nat → Prop) : VExit → St → Prop
 | .normal, s => s.H β = some LO ∧ CWp P (G.at (some (some β))) n bo (RPost β LB LO LD Post) { s with H := updH s.H β LB }
 | _, _ => False
theorem yields_open (hm : P.follows .mixedOrders = true) {β : Nat} {x : VV} {Post : Bool → (Nat → Option VObj) → Nat → Prop} {LO : VObj} {tml : List VV} {d : Nat} {psl : List Tmp} (hL : LO = VObj.loop .ready none tml ⟨psl⟩ az bo d) (hβ : H β = some LO) (hn : tml.length = n) (ha : psl.length = 1)
  (h1 : codeOk n az = true) (h2 : codeOk n bo = true)
  (h : ∀ LB LD, LB = VObj.loop .busy none tml ⟨psl⟩ az bo d → LD = (fun c => VObj.loop .done (some c) tml ⟨psl⟩ az bo d) →
   CWp P (G.at (some (some β))) n az (RStart P G n β LB LO LD bo Post) ⟨argsTm (roundTm tml psl [x]), H, nx, []⟩) : Yields P G β x H nx Post := by
 intro r o st K e1 e2 hk
 subst e1 e2
 replace hk : ∀ b H' nx', Post b H' nx' → K { st.put o.dst (.lit (.bool b)) with H := H', nx := nx' } := by
  intro b H' nx' hp
  have := hk b H' nx' hp
  obtain ⟨d, op, ty, pos, af, gd⟩ := o
  cases d <;> exact this
 refine yield_open hm hL hβ hn (by simp [ha]) h1 h2 fun LB LD hB hD => ?_
 refine CWp.mono az _ ?_ (h LB LD hB hD)
 intro e s hs
 cases e with
 | normal =>
  refine ⟨hs.1, CWp.mono bo _ ?_ hs.2⟩
  intro e s2 hs2
  cases e with
  | normal => exact ⟨hs2.1, hk _ _ _ hs2.2⟩
  | ret => exact ⟨hs2.1, hk _ _ _ hs2.2⟩
  | exit id => exact ⟨hs2.1, hk _ _ _ hs2.2⟩
  | goto l => exact hs2.elim
  | panic x => exact hs2.elim
 | _ => exact hs.elim
theorem range_iter {itv : VV} {L : List VV} (hit : Iter P G itv L) (hg : ev (G.at (some none)) tm g = itv)
  (h : ∀ LO, LO = VObj.loop .ready none (tmL n tm) ps az bo nx → ∃ I : Inv, Stable I ∧ Rounds P G (nx + 1) I ∧ I (some L) noFr (updH (updH H nx (.deferred (some []))) (nx + 1) LO) (nx + 2) ∧
   ∀ H' nx', I (some []) noFr H' nx' ∨ I none noFr H' nx' → RangeEnd P (G.at (some none)) n Q ⟨tm, H, nx, df⟩ H' nx') : CWp P (G.at (some none)) n (.rangeFunc g ps az bo) Q ⟨tm, H, nx, df⟩ := by
 obtain ⟨f, first, captured, rfl, hv⟩ := hit
 refine range_open hg fun LO hL => ?_
 obtain ⟨I, hs, hr, h0, he⟩ := h LO hL
 exact VOpen.mono (hv (nx + 1) I hs hr _ _ (Nat.lt_succ_self _) h0) (fun _ H' nx' hh => he H' nx' hh) (fun _ _ _ hh => hh.elim)
end
end Go.V
end
section
set_option linter.unusedVariables false
namespace Go.V
open Go
theorem VOpen.freeze1 {P : Program} {G : Glob} {f : FuncId} {args args' : List VV} {H : Nat → Option VObj} {nx γ : Nat} {el : Option TypeId} {cs : List VV} {R Rp : VV → (Nat → Option VObj) → Nat → Prop} (hγ : H γ = some (.cells el cs))
  (ha : FrozenL H (without H γ) args args') (h : VOpen P G f args' (without H γ) nx R Rp) : VOpen P G f args H nx R Rp := by
 refine ⟨h.1, fun c W vs s hH hnx hG hargs => ?_⟩
 subst hH
 have ho' : ∀ β o', without c.H γ β = some o' → ∃ o, c.H β = some o ∧ FrozenO c.H (without c.H γ) o o' := fun β o' hb => ⟨o', SubHeap.without _ _ β o' hb, .inl rfl⟩
 have hl : ∀ β, (without c.H γ β).isSome = true → c.live β := by
  intro β h
  obtain ⟨o', h'⟩ := Option.isSome_iff_exists.1 h
  obtain ⟨o, h1, _⟩ := ho' β o' h'
  simp [Ctx.live, h1]
 have he : Ext c W (c.frz (without c.H γ)) W := ext_frz hl
 have ab : Abides c W (c.frz (without c.H γ)) W := abides_frz hl
 have hloop : ∀ x st pe tm ps asg bo df, without c.H γ x = some (.loop st pe tm ps asg bo df) → isDef (without c.H γ) df := by
  intro x st pe tm ps asg bo df hx
  obtain ⟨l, fn, _, _, _, hd⟩ := s.obj x _ (SubHeap.without _ _ x _ hx)
  exact hd.without hγ
 refine (h.2 (c.frz (without c.H γ)) W vs (s.frz ho' hloop) rfl hnx (hG.abides ab) (frozenL_rep s hl ha hargs)).mono ?_
 rintro e W' ⟨c', H1, nx', g1, g2, g3, g4, g5, g6, g7⟩
 exact ⟨c', H1, nx', he.trans g1, g2, g3, g4, g5, g6, g7⟩
theorem Frozen.same {H H' : Nat → Option VObj} {x : VV} : Frozen H H' x x := .inl rfl
theorem FrozenL.same {H H' : Nat → Option VObj} : ∀ {xs : List VV}, FrozenL H H' xs xs
 | [] => trivial
 | _ :: _ => ⟨.same, .same⟩
theorem Frozen.own {H : Nat → Option VObj} {γ n w cp : Nat} {el : Option TypeId} {cs : List VV} (hγ : H γ = some (.cells el cs)) (ht : treeL cs = true) (hl : cs.length = n * w) : Frozen H (without H γ) (.ref γ 0 n w cp) (.sl cs n false) := by
 refine .inr (.inr ⟨cs.length + 2, ?_⟩)
 have hg : gone H (without H γ) γ = some (.cells el cs) := by simp [gone, without, hγ]
 unfold sealV
 have : (VV.ref γ 0 n w cp).tree = false := rfl
 rw [this]
 simp only [Bool.false_eq_true, if_false, hg, Nat.zero_le, if_true, List.drop_zero]
 rw [List.take_of_length_le (by omega), seal_tree cs _ ht (by omega)]
 rfl
theorem VPure.weaken {P : Program} {G : Glob} {f : FuncId} {args args' : List VV} {r : PRes} (hw : ∀ c W vs, RepL c W args vs → RepL c W args' vs) (h : VPure P G f args' r) : VPure P G f args r :=
 ⟨h.1, fun A W vs h1 h2 h3 => h.2 A W vs h1 h2 (hw _ W vs h3)⟩
theorem rep_nil {c : Ctx} {W : World} {v : Value} (h : Rep c W (.lit (.slice none 0 0)) v) : Rep c W (.sl [] 0 false) v := by
 have e : v = .slice none 0 0 := h
 subst e
 exact ⟨none, 0, rfl, Nat.le_refl _, fun h => by simp at h, .inl rfl⟩
def vx {α : Type} (enc : α → List VV) : List α → VV
 | [] => .lit (.slice none 0 0)
 | l => .sl (cellsL enc l) l.length false
theorem rep_vx {α : Type} {enc : α → List VV} {c : Ctx} {W : World} {v : Value} : ∀ {l : List α}, Rep c W (vx enc l) v → Rep c W (.sl (cellsL enc l) l.length false) v
 | [], h => rep_nil h
 | _ :: _, h => h
theorem vx_cons {α : Type} {enc : α → List VV} {l : List α} (h : l ≠ []) : vx enc l = .sl (cellsL enc l) l.length false := by cases l with
 | nil => exact absurd rfl h
 | cons a l => rfl
def listsB (may : List Int → Int → Bool) (lim : Nat) : Nat → List Int → List (List Int)
 | 0, p => [p]
 | d + 1, p => (List.range' 0 lim).flatMap fun i : Nat => if may p (i : Int) then listsB may lim d (p ++ [(i : Int)]) else []
end Go.V
namespace Go.V
theorem tree_vx {α : Type} {enc : α → List VV} (he : EncOk enc) : ∀ {l : List α}, (vx enc l).tree = true
 | [] => rfl
 | a :: l => he.treeL (a :: l)
end Go.V
namespace Go.V
def lessN (H : Nat → Option VObj) (ns : List Nat) : Nat → Option VObj := fun γ => if γ ∈ ns then none else H γ
theorem lessN_sub {H : Nat → Option VObj} {ns : List Nat} : SubHeap (lessN H ns) H := fun x o h => by
 unfold lessN at h
 split at h
 ·cases h
 ·exact h
theorem VOpen.freezeN {P : Program} {G : Glob} {f : FuncId} {args args' : List VV} {H : Nat → Option VObj} {nx : Nat} {R Rp : VV → (Nat → Option VObj) → Nat → Prop} (ns : List Nat) (hns : ∀ γ ∈ ns, ∃ el cs, H γ = some (.cells el cs))
  (ha : FrozenL H (lessN H ns) args args') (h : VOpen P G f args' (lessN H ns) nx R Rp) : VOpen P G f args H nx R Rp := by
 refine ⟨h.1, fun c W vs s hH hnx hG hargs => ?_⟩
 subst hH
 have ho' : ∀ β o', lessN c.H ns β = some o' → ∃ o, c.H β = some o ∧ FrozenO c.H (lessN c.H ns) o o' := fun β o' hb => ⟨o', lessN_sub β o' hb, .inl rfl⟩
 have hl : ∀ β, (lessN c.H ns β).isSome = true → c.live β := by
  intro β h
  obtain ⟨o', h'⟩ := Option.isSome_iff_exists.1 h
  obtain ⟨o, h1, _⟩ := ho' β o' h'
  simp [Ctx.live, h1]
 have he : Ext c W (c.frz (lessN c.H ns)) W := ext_frz hl
 have ab : Abides c W (c.frz (lessN c.H ns)) W := abides_frz hl
 have hloop : ∀ x st pe tm ps asg bo df, lessN c.H ns x = some (.loop st pe tm ps asg bo df) → isDef (lessN c.H ns) df := by
  intro x st pe tm ps asg bo df hx
  obtain ⟨l, fn, _, _, _, ds, hd⟩ := s.obj x _ (lessN_sub x _ hx)
  refine ⟨ds, ?_⟩
  unfold lessN
  split
  ·rename_i hm
   obtain ⟨el, cs, hc⟩ := hns df hm
   rw [hc] at hd; cases hd
  ·exact hd
 refine (h.2 (c.frz (lessN c.H ns)) W vs (s.frz ho' hloop) rfl hnx (hG.abides ab) (frozenL_rep s hl ha hargs)).mono ?_
 rintro e W' ⟨c', H1, nx', g1, g2, g3, g4, g5, g6, g7⟩
 exact ⟨c', H1, nx', he.trans g1, g2, g3, g4, g5, g6, g7⟩
theorem VOpen.of_pure {P : Program} {G : Glob} {f : FuncId} {args : List VV} {x : VV} {H : Nat → Option VObj} {nx : Nat} (h : VPure P G f args (.tree x)) (ht : treeL args = true) : VOpen P G f args H nx (fun y H' nx' => y = x ∧ H' = H ∧ nx' = nx) (fun _ _ _ => False) := by
 refine ⟨h.1, fun c W vs s hH hnx hG ha => (h.2 c.A W vs s.ltA (fun g cs hg => hG.tree g cs hg) (repL_tree ht ha)).mono ?_⟩
 rintro e W' ⟨A', h1, h2, h3, hb, v, rfl, hx⟩
 exact ⟨c.more A', H, nx, Ext.more h1 h2 hb, Sim.more s h1 h2 h3 hb, hH, fun β hb => .inl hb, hnx, Nat.le_refl _, .inl ⟨x, v, rfl, Rep.abides (abides_of_p (fun _ h => h)) _ hx, rfl, rfl, rfl⟩⟩
abbrev sI (l : List Int) : VV := .sl (cellsL eI l) l.length false
theorem map_vx {L : List (List Int)} (h : ∀ q ∈ L, q ≠ []) : L.map (vx eI) = L.map sI := List.map_congr_left fun q hq => vx_cons (h q hq)
end Go.V
namespace Go.V
theorem sealL_caps {H : Nat → Option VObj} {m : Nat} : ∀ (caps : List (Nat × List VV)) (n : Nat), (∀ p ∈ caps, (∃ el, H p.1 = some (.cells el p.2)) ∧ treeL p.2 = true ∧ p.2.length < m) → caps.length + m + 2 < n →
  sealL H n (caps.map fun p => .ptr p.1 0) = some (caps.map fun p => .tp p.2)
 | [], n + 1, _, _ => by simp [sealL]
 | p :: caps, n + 1, h, hn => by
  obtain ⟨⟨el, h1⟩, h2, h3⟩ := h p (List.mem_cons_self ..)
  have ih := sealL_caps caps n (fun q hq => h q (List.mem_cons_of_mem _ hq)) (by simp at hn; omega)
  obtain ⟨n', rfl⟩ : ∃ n', n = n' + 1 := ⟨n - 1, by simp at hn; omega⟩
  have e : sealV H (n' + 1) (.ptr p.1 0) = some (.tp p.2) := by
   unfold sealV
   have : (VV.ptr p.1 0).tree = false := rfl
   rw [this]
   simp only [Bool.false_eq_true, if_false, h1, Nat.zero_le, if_true, List.drop_zero]
   rw [seal_tree _ _ h2 (by simp at hn; omega)]
   rfl
  simp only [List.map_cons]
  unfold sealL
  rw [e, ih]
theorem Frozen.closure {H H' : Nat → Option VObj} {f : Fn} (caps : List (Nat × List VV)) (m : Nat) (hne : caps ≠ []) (h : ∀ p ∈ caps, (∃ el, H p.1 = some (.cells el p.2)) ∧ (H' p.1).isSome = false ∧ treeL p.2 = true ∧ p.2.length < m) : Frozen H H' (.fn f [] (caps.map fun p => .ptr p.1 0)) (.fn f [] (caps.map fun p => .tp p.2)) := by
 refine .inr (.inr ⟨caps.length + m + 4, ?_⟩)
 have hg : ∀ p ∈ caps, (∃ el, gone H H' p.1 = some (.cells el p.2)) ∧ treeL p.2 = true ∧ p.2.length < m := by
  intro p hp
  obtain ⟨⟨el, h1⟩, h2, h3⟩ := h p hp
  exact ⟨⟨el, by simp [gone, h2, h1]⟩, h3⟩
 have ht : (VV.fn f [] (caps.map fun p => .ptr p.1 0)).tree = false := by
  cases caps with
  | nil => exact absurd rfl hne
  | cons p l => simp [VV.tree, treeL]
 unfold sealV
 rw [ht]
 simp only [Bool.false_eq_true, if_false]
 rw [sealL_caps caps _ hg (by omega)]
 have : sealL (gone H H') (caps.length + m + 3) [] = some [] := by simp [sealL]
 rw [this]
end Go.V
namespace Go.V
def goL (rc : List Int → Option (List (List Int))) (may : List Int → Int → Option Bool) (p : List Int) : List Nat → Option (List (List Int))
 | [] => some []
 | i :: is => Option.bind (may p (i : Int)) fun b => cond b (Option.bind (rc (p ++ [(i : Int)])) fun a => Option.bind (goL rc may p is) fun r => some (a ++ r)) (goL rc may p is)
def listsO (may : List Int → Int → Option Bool) (lim : Nat) : Nat → List Int → Option (List (List Int))
 | 0, p => some [p]
 | d + 1, p => goL (listsO may lim d) may p (List.range' 0 lim)
theorem goL_eq {rc : List Int → Option (List (List Int))} {rb : List Int → List (List Int)} {may : List Int → Int → Option Bool} {m : List Int → Int → Bool} {p : List Int} : ∀ (is : List Nat), (∀ i ∈ is, may p (i : Int) = some (m p (i : Int))) → (∀ i ∈ is, m p (i : Int) = true → rc (p ++ [(i : Int)]) = some (rb (p ++ [(i : Int)]))) →
  goL rc may p is = some (is.flatMap fun i : Nat => if m p (i : Int) then rb (p ++ [(i : Int)]) else [])
 | [], _, _ => rfl
 | i :: is, h1, h2 => by
  have ih := goL_eq (rb := rb) is (fun j hj => h1 j (List.mem_cons_of_mem _ hj)) (fun j hj => h2 j (List.mem_cons_of_mem _ hj))
  unfold goL
  rw [h1 i (List.mem_cons_self ..), ih]
  cases hb : m p (i : Int) with
  | false => simp [List.flatMap_cons, hb]
  | true => rw [Option.bind_some, cond_true, h2 i (List.mem_cons_self ..) hb]; simp [List.flatMap_cons, hb]
theorem listsO_eq {may : List Int → Int → Option Bool} {m : List Int → Int → Bool} {lim ln : Nat} (h : ∀ p j, p.length < ln → (∀ a ∈ p, 0 ≤ a ∧ a < (lim : Int)) → 0 ≤ j → j < (lim : Int) → may p j = some (m p j)) : ∀ (d : Nat) (p : List Int), p.length + d = ln → (∀ a ∈ p, 0 ≤ a ∧ a < (lim : Int)) → listsO may lim d p = some (listsB m lim d p)
 | 0, p, _, _ => rfl
 | d + 1, p, hd, hp => by
  unfold listsO listsB
  refine goL_eq _ (fun i hi => h p i (by omega) hp (by omega) (by have := (List.mem_range'_1.1 hi).2; omega)) (fun i hi _ => listsO_eq h d _ (by simp; omega) ?_)
  intro a ha
  rcases List.mem_append.1 ha with ha | ha
  ·exact hp a ha
  ·rw [List.mem_singleton.1 ha]
   have := (List.mem_range'_1.1 hi).2
   omega
theorem goL_mem {rc : List Int → Option (List (List Int))} {may : List Int → Int → Option Bool} {p : List Int} {Pr : List Int → Prop} (hr : ∀ i L, rc (p ++ [(i : Int)]) = some L → ∀ q ∈ L, Pr q) : ∀ (is : List Nat) (L : List (List Int)), goL rc may p is = some L → ∀ q ∈ L, Pr q
 | [], L, h, q, hq => by simp [goL] at h; subst h; cases hq
 | i :: is, L, h, q, hq => by
  unfold goL at h
  cases hm : may p (i : Int) with
  | none => rw [hm] at h; cases h
  | some b =>
   rw [hm, Option.bind_some] at h
   cases b with
   | false => exact goL_mem hr is L h q hq
   | true =>
    rw [cond_true] at h
    cases ha : rc (p ++ [(i : Int)]) with
    | none => rw [ha] at h; cases h
    | some a =>
     rw [ha, Option.bind_some] at h
     cases hg : goL rc may p is with
     | none => rw [hg] at h; cases h
     | some r =>
      rw [hg, Option.bind_some] at h
      cases h
      rcases List.mem_append.1 hq with hq | hq
      ·exact hr i a ha q hq
      ·exact goL_mem hr is r hg q hq
theorem listsO_len {may : List Int → Int → Option Bool} {lim : Nat} : ∀ (d : Nat) (p : List Int) (L : List (List Int)), listsO may lim d p = some L → ∀ q ∈ L, q.length = p.length + d
 | 0, p, L, h, q, hq => by
  simp [listsO] at h; subst h
  rw [List.mem_singleton.1 hq]; rfl
 | d + 1, p, L, h, q, hq => by
  unfold listsO at h
  exact goL_mem (Pr := fun q => q.length = p.length + (d + 1)) (fun i L' h' q' hq' => by rw [listsO_len d _ L' h' q' hq']; simp; omega) _ L h q hq
end Go.V
namespace Go.V
theorem ktreeR {P : Program} {G : Glob} {γ : Nat} {tm : Nat → VV} {H : Nat → Option VObj} {nx : Nat} {df : List VDef} {d : Option Tmp} {K : St → Prop} {Qp : VV → St → Prop} {f : FuncId} {args : List VV} {x : VV} (ht : treeL args = true) (hp : VPure P G f args (.tree x)) (h : fin d γ tm H nx df K x .none) : callK P G f args ⟨tm, H, nx, df⟩ d γ K Qp := by
 refine .inl ⟨ht, .tree x, hp, ?_⟩
 rw [← fin_eq (K := K), stepTo_none] at h
 exact h
end Go.V
namespace Go.V
theorem Frozen.ptr {H H' : Nat → Option VObj} {γ : Nat} {el : Option TypeId} {cs : List VV} (hγ : H γ = some (.cells el cs)) (hn : (H' γ).isSome = false) (ht : treeL cs = true) : Frozen H H' (.ptr γ 0) (.tp cs) := by
 refine .inr (.inr ⟨cs.length + 2, ?_⟩)
 have hg : gone H H' γ = some (.cells el cs) := by simp [gone, hn, hγ]
 unfold sealV
 have : (VV.ptr γ 0).tree = false := rfl
 rw [this]
 simp only [Bool.false_eq_true, if_false, hg, Nat.zero_le, if_true, List.drop_zero]
 rw [seal_tree cs _ ht (by omega)]
 rfl
theorem VWp.freeze2 {P : Program} {G : Glob} {n : Nat} {code : Code} {Q : VExit → St → Prop} {tm : Nat → VV} {H : Nat → Option VObj} {nx : Nat} {df : List VDef} {a b γ δ : Nat} {e1 e2 : Option TypeId} {c1 c2 : List VV} (ha : tm a = .ptr γ 0) (hb : tm b = .ptr δ 0) (hH : H γ = some (.cells e1 c1)) (hH2 : H δ = some (.cells e2 c2))
  (h1 : treeL c1 = true) (h2 : treeL c2 = true) (hall : ∀ x, x ≠ γ → x ≠ δ → H x = none) (h : VWp P G n code Q ⟨upd (upd tm a (.tp c1)) b (.tp c2), fun _ => none, nx, df⟩) : VWp P G n code Q ⟨tm, H, nx, df⟩ := by
 refine VWp.freeze (fun _ => none) (upd (upd tm a (.tp c1)) b (.tp c2)) (fun β o' hh => by cases hh) (fun x s pe tm ps asg bo df hh => by cases hh) (fun t => ?_) h
 show Frozen H (fun _ => none) (tm t) (upd (upd tm a (.tp c1)) b (.tp c2) t)
 unfold upd
 split
 ·rename_i e; rw [e, hb]; exact Frozen.ptr hH2 rfl h2
 ·split
  ·rename_i e; rw [e, ha]; exact Frozen.ptr hH rfl h1
  ·exact .same
end Go.V
end
