/- Part of a proof. -/
import Derived.Test.YtclkbhbhohdgbaaGreatDoorE3at
set_option linter.all false
section
namespace Go.V
open Go
def OVDraw (P : Program) (G : Gb) (n : Nat) (ops : Array Oper) (aa : Nat) (Q : Vx → St → Prop) : List (List Nat × Nat) → List Nat → St → Prop
 | [], l, st => ∃ st' tr, OSteps P G ops aa l st st' tr ∧ OTraceOk ops (aa + ops.size) tr ∧ Q .normal st'
 | (l, b) :: rest, last, st => ∃ st' tr, OSteps P G ops aa l st st' tr ∧ OTraceOk ops (aa + ops.size) tr ∧ aK P G n ops aa b st' (OVDraw P G n ops aa Q rest last) (fun x st' => Q (.panic x) st')
variable {P : Program} {G : Gb} {ops : Array Oper} {Q : Vx → St → Prop}
theorem Ws {n : Nat} {aa : Nat} {ro : Option Nat} {ej : Nat} {c0 : Ctx} {W0 : World} (hback : backOk ops = true) (hdst : dstsOk n ops = true) :
  ∀ (fuel : Nat) (segs : List (List Nat × Nat)) (last : List Nat) (listed : Array Bool) (st : St) (c : Ctx) (W : World) (a : Act),
  OVDraw P G n ops aa Q segs last st → Left ops listed (flat segs last) → (flat segs last).length ≤ fuel → Closed ops listed → barOk ops segs last = true → aa + ops.size ≤ st.nx → ej ≤ aa →
  RoOk G c ro → Sim c W → Sr G c W st a → a.tmps.size = n → (∀ i ∈ flat segs last, ¬ c.used (aa + i)) → Ext c0 W0 c W → (∀ β, c.used β → c0.used β ∨ ej ≤ β) →
  wpAnyIn (Fw ro) 0 P .any ops (Lift G n ej c0 W0 Q) fuel listed a W := by
 intro fuel
 induction fuel with
 | zero =>
  intro segs last listed st c W a h hleft ba hcl hbar hb hn hro s hr hs hf he hu
  have hnil : flat segs last = [] := List.eq_nil_of_length_eq_zero (by omega)
  cases segs with
  | cons p rest => obtain ⟨l, b⟩ := p; simp [flat] at hnil
  | nil =>
   simp only [flat] at hnil hleft
   subst hnil
   obtain ⟨st', tr, hq, _, hQ⟩ := h
   cases hq
   refine ⟨?_, .normal, c, st, rfl, he, s, hr, hs, hu, by omega, hQ⟩
   cases hrd : Region.ready .any ops listed with
   | nil => rfl
   | cons i l => have := wL hleft (j := i) (by rw [hrd]; exact qZb ..); cases this
 | succ fuel ih =>
  intro segs last listed st c W a h hleft ba hcl hbar hb hn hro s hr hs hf he hu
  refine ⟨fun hrd => ?_, fun j hj => ?_⟩
  ·have hnil := F7 hback hleft hrd
   cases segs with
   | cons p rest => obtain ⟨l, b⟩ := p; simp [flat] at hnil
   | nil =>
    simp only [flat] at hnil hleft
    subst hnil
    obtain ⟨st', tr, hq, _, hQ⟩ := h
    cases hq
    exact ⟨.normal, c, st, rfl, he, s, hr, hs, hu, by omega, hQ⟩
  ·have hjl := wL hleft hj
   obtain ⟨hjlt, _, hpre⟩ := Dl hj
   have hjlt' : j < listed.size := by rw [hleft.1]; exact hjlt
   have hno : ∀ i ∈ flat segs last, aC ops ops.size i j = false := by
    intro i hi
    cases hbf : aC ops ops.size i j with
    | false => rfl
    | true =>
     have h1 := Dk hcl _ _ _ hpre hbf
     rw [hleft.unlisted hi] at h1
     cases h1
   have hcl' := hcl.set hpre hjlt'
   have hnd := hleft.2.1
   have hlt : ∀ i ∈ flat segs last, i < ops.size := fun i hi => ((hleft.2.2 i).1 hi).1
   have quiet : ∀ (l : List Nat) (tail : List Nat) (st' : St) (tr : Tr) (mk : List Nat → List Nat), OSteps P G ops aa l st st' tr → OTraceOk ops (aa + ops.size) tr → j ∈ l → (∀ i ∈ l, i ∈ flat segs last) →
     (∀ (s1 : St) (tr' : Tr), OSteps P G ops aa (l.erase j) s1 st' tr' → OTraceOk ops (aa + ops.size) tr' → ∃ segs' last', OVDraw P G n ops aa Q segs' last' s1 ∧ flat segs' last' = (flat segs last).erase j ∧ barOk ops segs' last' = true) →
     wpOpIn (Fw ro) 0 P ops (Lift G n ej c0 W0 Q) j (wpAnyIn (Fw ro) 0 P .any ops (Lift G n ej c0 W0 Q) fuel (listed.setIfInBounds j true)) a W := by
    intro l tail st' tr _ hq htr hjm aY hgo
    obtain ⟨o, rd, wr, s1, tr', ho, hqj, hqs, htr', _, _⟩ := hq.pull hjm htr hb (fun i hi => hno i (aY i hi))
    obtain ⟨segs', last', hd', hflat, hbar'⟩ := hgo s1 tr' hqs htr'
    refine S7 ho hqj s hr (by rw [hs]; exact oU hdst ho) (hf j hjl) (by omega) ?_
    intro a' W' c' he' hs' hr' hsz hu'
    refine ih segs' last' _ s1 c' W' a' hd' (by rw [hflat]; exact hleft.set hjl) ?_ hcl' hbar' (qZi hb hqj.nx_le) hn (hro.ext he') hs' hr' (hsz.trans hs) ?_ (he.trans he') ?_
    ·rw [hflat, List.length_erase_of_mem hjl]; omega
    ·intro i hi hbad
     rw [hflat, hnd.mem_erase_iff] at hi
     have hilt := hlt i hi.2
     rcases hu' _ hbad with h | h | h
     ·exact hf i hi.2 h
     ·exact hi.1 (by omega)
     ·omega
    ·intro β hβ
     rcases hu' β hβ with h | h | h
     ·exact hu β h
     ·right; omega
     ·right; omega
   cases segs with
   | nil =>
    obtain ⟨st', tr, hq, htr, hQ⟩ := h
    refine quiet last [] st' tr id hq htr hjl (fun i hi => hi) fun s1 tr' hqs htr' => ⟨[], last.erase j, ⟨st', tr', hqs, htr', hQ⟩, rfl, rfl⟩
   | cons p rest =>
    obtain ⟨l, b⟩ := p
    obtain ⟨st', tr, hq, htr, hB⟩ := h
    simp only [flat] at hjl hno hnd hlt hleft ba hf hno
    simp only [barOk, Bool.and_eq_true, List.all_eq_true] at hbar
    by_cases hjm : j ∈ l
    ·refine quiet l [] st' tr id hq htr hjm (fun i hi => by simp only [flat]; exact qZf _ hi) fun s1 tr' hqs htr' => ⟨(l.erase j, b) :: rest, last, ⟨st', tr', hqs, htr', hB⟩, ?_, ?_⟩
     ·simp only [flat]
      rw [List.erase_append_left _ hjm]
     ·simp only [barOk, Bool.and_eq_true, List.all_eq_true]
      exact ⟨⟨fun i hi => hbar.1.1 i (List.mem_of_mem_erase hi), hbar.1.2⟩, hbar.2⟩
    ·have hjb : j = b := by
      rcases List.mem_append.1 hjl with h | h
      ·exact absurd h hjm
      ·rcases List.mem_cons.1 h with h | h
       ·exact h
       ·have h1 := hbar.1.2 j h
        rw [hno b (by simp)] at h1; cases h1
     subst hjb
     have hlnil : l = [] := by
      cases l with
      | nil => rfl
      | cons i l' =>
       have h1 := hbar.1.1 i (qZb ..)
       rw [hno i (by simp)] at h1; cases h1
     subst hlnil
     cases hq
     simp only [List.nil_append] at *
     refine hB ro c W a _ _ hro s hr hs (hf j (qZb ..)) (by omega) ?_ ?_
     ·intro a' W' c' s1 he' hs' hr' hsz hu' hnx hk
      have her : (j :: flat rest last).erase j = flat rest last := List.erase_cons_head ..
      refine ih rest last _ s1 c' W' a' hk (by have := hleft.set hjl; rwa [her] at this) (by simp at ba; omega) hcl' hbar.2 (by omega) hn (hro.ext he') hs' hr' hsz ?_ (he.trans he') ?_
      ·intro i hi hbad
       have hi' := hlt i (qZa _ hi)
       rcases hu' _ hbad with h | h | h
       ·exact hf i (qZa _ hi) h
       ·have : i = j := by omega
        exact (List.nodup_cons.1 hnd).1 (this ▸ hi)
       ·omega
      ·intro β hβ
       rcases hu' β hβ with h | h | h
       ·exact hu β h
       ·right; omega
       ·right; omega
     ·intro a' W' c' s1 x v he' hs' hr' hsz hu' hnx hv hq
      refine ⟨.panic x, c', s1, ⟨v, rfl, hv⟩, he.trans he', hs', hr', hsz, fun β hβ => ?_, by omega, hq⟩
      rcases hu' β hβ with h | h | h
      ·exact hu β h
      ·right; omega
      ·right; omega
theorem VWp.regionOVDraw {n id : Nat} {st : St} (hm : P.follows .mixedOrders = true) (segs : List (List Nat × Nat)) (last : List Nat)
  (hstat : (backOk ops && dstsOk n ops && barOk ops segs last && decide (flat segs last = List.range ops.size)) = true) (h : OVDraw P G n ops st.nx Q segs last { st with nx := st.nx + ops.size }) :
  VWp P G n (.region id ops true) Q st := by
 intro ro c W a hro s hr hs
 simp only [Bool.and_eq_true, decide_eq_true_eq] at hstat
 obtain ⟨⟨⟨hback, hdst⟩, hbar⟩, hflat⟩ := hstat
 refine wpIn_region_any hm (Ws hback hdst ops.size segs last _ _ c W.drew a h ?_ (by rw [hflat]; simp) ?_ hbar (qZh _) (qZh _) (hro.ext (Ext.drew c W)) s.drew ?_ hs ?_ (Ext.drew c W) (fun _ h => .inl h))
 ·refine ⟨by simp, by rw [hflat]; exact List.nodup_range, fun i => ?_⟩
  rw [hflat, List.mem_range]
  constructor
  ·intro hi; exact ⟨hi, by simp [hi]⟩
  ·intro hi; exact hi.1
 ·intro j hj
  exfalso
  by_cases hlt : j < ops.size
  ·simp [hlt] at hj
  ·simp [hlt] at hj
 ·have ab : Abides c W c W.drew := wE rfl
  exact ⟨hr.H, fun t => Rep.abides ab _ (hr.tm t), fun β hb => qZd (hr.nx β hb) (qZe _ _), hr.df.abides ab, hr.G.abides ab⟩
 ·intro i _ hb
  have := hr.nx _ hb
  omega
theorem S8 {P : Program} {G : Gb} {cf : aB} (hcf : CallOk P G cf) {ops : Array Oper} {aa : Nat} : ∀ (l : List Oper) (i : Nat) (tr : Tr) (s s' : RS) (e : Vx), (∀ k o, l[k]? = some o → ops[i + k]? = some o) →
  drawO P G cf ops aa i l tr s = .mk e s' → e = .normal ∧ ∃ tr', OSteps P G ops aa (List.range' i l.length) s.st s'.st tr' ∧ (∀ q ∈ tr', i ≤ q.1) ∧ (∀ q ∈ tr', ∀ p ∈ tr, relO ops (aa + ops.size) p q) ∧ tr'.Pairwise fun p q => p.1 < q.1 ∧ relO ops (aa + ops.size) p q
 | [], i, tr, s, s', e, _, h => by
  cases h
  exact ⟨rfl, [], .nil, fun q hq => (by cases hq), fun q hq => (by cases hq), List.Pairwise.nil⟩
 | o :: l, i, tr, s, s', e, hl, h => by
  have ho : ops[i]? = some o := by have := hl 0 o rfl; simpa using this
  have hi := (Array.getElem?_eq_some_iff.1 ho).1
  unfold drawO at h
  split at h
  ·rename_i rd wr s1 hs
   split at h
   ·rename_i hh
    obtain ⟨he, tr', h1, h2, h3, h4⟩ := S8 hcf l (i + 1) ((i, rd, wr) :: tr) s1 s' e (fun k o' hk => by have := hl (k + 1) o' (by simpa using hk); rw [show i + 1 + k = i + (k + 1) by omega]; exact this) h
    refine ⟨he, (i, rd, wr) :: tr', .cons ho (S9 hcf hs) h1, ?_, ?_, ?_⟩
    ·intro q hq
     rcases List.mem_cons.1 hq with rfl | hq
     ·exact qZh _
     ·have := h2 q hq; omega
    ·intro q hq p hp
     rcases List.mem_cons.1 hq with rfl | hq
     ·exact FG hi hh p hp
     ·exact h3 q hq p (qZa _ hp)
    ·exact List.pairwise_cons.2 ⟨fun q hq => ⟨by have := h2 q hq; show i < q.1; omega, h3 q hq _ (qZb ..)⟩, h4⟩
   ·cases h
  ·cases h
theorem SA {cf : aB} (hcf : CallOk P G cf) (hap : apartOk ops = true) {aa : Nat} {l : List Oper} {i : Nat} {s s' : RS} {e : Vx} (hl : ∀ k o, l[k]? = some o → ops[i + k]? = some o)
  (h : drawO P G cf ops aa i l [] s = .mk e s') : e = .normal ∧ ∃ tr, OSteps P G ops aa (List.range' i l.length) s.st s'.st tr ∧ OTraceOk ops (aa + ops.size) tr := by
 obtain ⟨he, tr, h1, _, _, h4⟩ := S8 hcf l i [] s s' e hl h
 refine ⟨he, tr, h1, h4.imp ?_⟩
 rintro p q ⟨hlt, hr⟩
 rcases hr with hb | hi
 ·exact .inl hb
 ·cases hbb : aC ops ops.size p.1 q.1 with
  | true => exact .inl rfl
  | false =>
   refine .inr ⟨hi, fun o o' ho ho' => ?_⟩
   have h1 := (Array.getElem?_eq_some_iff.1 ho).1
   have h2 := (Array.getElem?_eq_some_iff.1 ho').1
   unfold apartOk at hap
   rw [List.all_eq_true] at hap
   have := hap p.1 (List.mem_range.2 h1)
   rw [List.all_eq_true] at this
   have := this q.1 (List.mem_range.2 h2)
   simp [hlt, hbb, ho, ho'] at this
   exact this
end Go.V
end
