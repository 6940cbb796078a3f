/- Part of a proof. -/
import Derived.Test.YtclkbhbhohdgbaaGreatDoorE2ar
set_option linter.all false
section
namespace Go.V
open Go
inductive OStep (P : Program) (G : Gb) (ops : Array Oper) (aa i : Nat) (o : Oper) : St → St → List Nat → List Nat → Prop
 | skip {st : St} : aO ops st.tm o = some false → OStep P G ops aa i o st (st.put o.dst (.lit undef)) [] []
 | op {st : St} {x : VV} {eff : Ve} : aO ops st.tm o = some true → vop P o (st.ρ G) st.H (aa + i) = some (x, eff) →
   OStep P G ops aa i o st { st.put o.dst x with H := eff.app (aa + i) st.H } (rdV o (st.ρ G)) (eff.wr (aa + i))
 | opn {st : St} {f : FuncId} {args : List VV} {rd ch us : List Nat} {x0 : VV} {Hn : Nat → Option Vo} {m : Nat} : aO ops st.tm o = some true → callee? P G st o.op = some (f, args) →
   aX P G f args (restr rd st.H) st.nx (fun y H1 n1 => y = x0 ∧ H1 = Hn ∧ n1 = m) (fun _ _ _ => False) → okR (inR rd st.H) st.H rd = true → okD (keepK rd us Hn st.nx) Hn rd = true → okD (keepK rd us Hn st.nx) Hn us = true →
   okV (keepK rd us Hn st.nx) x0 = true → (∀ β ∈ rd, β ∉ ch → Hn β = st.H β) → st.nx ≤ m → aa + ops.size ≤ st.nx →
   OStep P G ops aa i o st { st.put o.dst x0 with H := keepH rd us st.H Hn st.nx, nx := m } ((aa + ops.size) :: rd) ((aa + ops.size) :: ch)
def stepX (st : St) (dst : Option Tmp) (x : VV) (E : Nat → Option (Option Vo)) (n : Option Nat) : St := { st.put dst x with H := fun β => (E β).getD (st.H β), nx := n.getD st.nx }
theorem yR {st : St} {dst : Option Tmp} {x : VV} {E : Nat → Option (Option Vo)} {n : Option Nat} {t : Nat} (h : ∀ d, dst = some d → d ≠ t) : (stepX st dst x E n).tm t = st.tm t := by
 cases dst with
 | none => rfl
 | some d =>
  have : ¬ t = d := fun e => h d rfl e.symm
  simp [stepX, St.put, this]
def effE (γ : Nat) (eff : Ve) (β : Nat) : Option (Option Vo) := if β ∈ eff.wr γ then some (eff.app γ (fun _ => none) β) else none
theorem FK (γ : Nat) (eff : Ve) (H : Nat → Option Vo) : eff.app γ H = fun β => (effE γ eff β).getD (H β) := by
 funext β
 unfold effE
 split
 ·rename_i h
  exact ue h
 ·rename_i h
  exact s6 h
def keepE (rd ch us : List Nat) (Hn : Nat → Option Vo) (M β : Nat) : Option (Option Vo) := if β < M then (if β ∈ rd ∧ β ∈ ch then some (Hn β) else none) else (if β ∈ us then some (Hn β) else none)
variable {rd : List Nat}
theorem yS {ch us : List Nat} {H Hn : Nat → Option Vo} {M : Nat} (h : ∀ β ∈ rd, β ∉ ch → Hn β = H β) : keepH rd us H Hn M = fun β => (keepE rd ch us Hn M β).getD (H β) := by
 funext β
 unfold keepH keepE
 rcases Nat.lt_or_ge β M with hl | hl
 ·rw [blt_t hl, if_pos hl]
  cases hm : memQ β rd with
  | true =>
   have hm' := ki.1 hm
   by_cases hc : β ∈ ch
   ·rw [if_pos ⟨hm', hc⟩]; rfl
   ·rw [if_neg (fun h => hc h.2)]
    exact h β hm' hc
  | false =>
   have hm' : β ∉ rd := fun h => by rw [ki.2 h] at hm; cases hm
   rw [if_neg (fun h => hm' h.1)]; rfl
 ·rw [blt_f hl, if_neg (by omega)]
  cases hm : memQ β us with
  | true => rw [if_pos (ki.1 hm)]; rfl
  | false => rw [if_neg (fun h => by rw [ki.2 h] at hm; cases hm)]; rfl
variable {P : Program} {G : Gb} {ops : Array Oper} {aa i : Nat} {o : Oper} {st' : St}
theorem OStep.transport {st : St} {wr : List Nat} (h : OStep P G ops aa i o st st' rd wr) :
  ∃ x E n, st' = stepX st o.dst x E n ∧ (∀ β, (E β).isSome = true → β ∈ wr ∨ (aa + ops.size ∈ wr ∧ st.nx ≤ β)) ∧ (∀ k, n = some k → aa + ops.size ∈ wr ∧ st.nx ≤ k) ∧
   ∀ dN : St, (∀ t ∈ o.looksAt ops, dN.tm t = st.tm t) → (∀ β ∈ rd, dN.H β = st.H β) → (aa + ops.size ∈ rd → dN.nx = st.nx) → OStep P G ops aa i o dN (stepX dN o.dst x E n) rd wr := by
 have none_eq : ∀ (s : St) (x : VV), s.put o.dst x = stepX s o.dst x (fun _ => none) none := fun s x => by cases o.dst <;> rfl
 have eff_eq : ∀ (s : St) (x : VV) (eff : Ve), ({ s.put o.dst x with H := eff.app (aa + i) s.H } : St) = stepX s o.dst x (effE (aa + i) eff) none := fun s x eff => by
  rw [FK]; cases o.dst <;> rfl
 cases h with
 | skip hw =>
  refine ⟨.lit undef, fun _ => none, none, none_eq _ _, fun β h => (by simp at h), fun k h => (by cases h), fun dN h1 _ _ => ?_⟩
  rw [← none_eq]
  exact .skip (by rw [nZ h1]; exact hw)
 | @op x eff hw hv =>
  refine ⟨x, effE (aa + i) eff, none, eff_eq _ _ _, fun β h => ?_, fun k h => (by cases h), fun dN h1 h2 _ => ?_⟩
  ·unfold effE at h
   split at h
   ·exact .inl ‹_›
   ·simp at h
  ·rw [← eff_eq]
   have hρ := ρ_congr (G := G) h1
   rw [RZ hρ]
   refine .op (by rw [nZ h1]; exact hw) ?_
   rw [← hv]
   exact (Sa hρ (fun β hb => (h2 β hb).symm)).symm
 | @opn f args rd ch us x0 Hn m hw hf hv hok hold hnew hx hch hle hz =>
  refine ⟨x0, keepE rd ch us Hn st.nx, some m, ?_, fun β h => ?_, fun k h => ⟨qZb .., by cases h; exact hle⟩, fun dN h1 h2 h3 => ?_⟩
  ·rw [yS hch]; cases o.dst <;> rfl
  ·unfold keepE at h
   split at h
   ·split at h
    ·rename_i hm
     exact .inl (qZa _ hm.2)
    ·simp at h
   ·exact .inr ⟨qZb .., by omega⟩
  ·have hn := h3 (qZb ..)
   have h2' : ∀ β ∈ rd, dN.H β = st.H β := fun β hb => h2 β (qZa _ hb)
   have hch' : ∀ β ∈ rd, β ∉ ch → Hn β = dN.H β := fun β hb hc => (hch β hb hc).trans (h2' β hb).symm
   have := OStep.opn (P := P) (G := G) (ops := ops) (aa := aa) (i := i) (o := o) (st := dN) (f := f) (args := args) (rd := rd) (ch := ch) (us := us) (x0 := x0) (Hn := Hn) (m := m)
    (by rw [nZ h1]; exact hw) (by rw [s8 (ρ_congr h1)]; exact hf) (by rw [FM h2', hn]; exact hv) (Sb h2' hok) (by rw [hn]; exact hold) (by rw [hn]; exact hnew) (by rw [hn]; exact hx) hch'
    (by rw [hn]; exact hle) (by rw [hn]; exact hz)
   rw [yS hch', hn] at this
   have e : stepX dN o.dst x0 (keepE rd ch us Hn st.nx) (some m) = { dN.put o.dst x0 with H := fun β => (keepE rd ch us Hn st.nx β).getD (dN.H β), nx := m } := by cases o.dst <;> rfl
   rw [e]
   exact this
def IndepO (z : Nat) (p q : Nat × List Nat × List Nat) : Prop :=
 Indep p q ∧ (z ∈ p.2.2 → (∀ β ∈ q.2.1, β < z) ∧ ∀ β ∈ q.2.2, β < z) ∧ (z ∈ q.2.2 → (∀ β ∈ p.2.1, β < z) ∧ ∀ β ∈ p.2.2, β < z)
theorem OStep.nx_le {st : St} {wr : List Nat} (h : OStep P G ops aa i o st st' rd wr) : st.nx ≤ st'.nx := by
 obtain ⟨x, E, n, rfl, _, h2, _⟩ := h.transport
 cases n with
 | none => exact qZg _
 | some k => exact (h2 k rfl).2
theorem OStep.comm {j : Nat} {oi oj : Oper} {st s1 s2 : St} {rdi wri rdj wrj : List Nat} (hi : OStep P G ops aa i oi st s1 rdi wri) (hj : OStep P G ops aa j oj s1 s2 rdj wrj)
  (hap : oi.apart ops oj = true) (hind : IndepO (aa + ops.size) (i, rdi, wri) (j, rdj, wrj)) (hz : aa + ops.size ≤ st.nx) :
  ∃ s1', OStep P G ops aa j oj st s1' rdj wrj ∧ OStep P G ops aa i oi s1' s2 rdi wri := by
 obtain ⟨a1, a2, a3⟩ := Oper.apart_spec hap
 obtain ⟨⟨i1, i2⟩, i3, i4⟩ := hind
 have hz1 : aa + ops.size ≤ s1.nx := qZh hz hi.nx_le
 obtain ⟨x, E, n, rfl, e1, n1, ti⟩ := hi.transport
 obtain ⟨y, F, m, rfl, f1, m1, tj⟩ := hj.transport
 have hE : ∀ β, β ∈ rdj ∨ β ∈ wrj → E β = none := by
  intro β hb
  cases h : E β with
  | none => rfl
  | some v =>
   exfalso
   rcases e1 β (by rw [h]; rfl) with h1 | ⟨h1, h2⟩
   ·rcases hb with hb | hb
    ·exact (i1 β h1).1 hb
    ·exact (i1 β h1).2 hb
   ·have := i3 h1
    rcases hb with hb | hb
    ·have := this.1 β hb; omega
    ·have := this.2 β hb; omega
 have hF : ∀ β, β ∈ rdi ∨ β ∈ wri → F β = none := by
  intro β hb
  cases h : F β with
  | none => rfl
  | some v =>
   exfalso
   rcases f1 β (by rw [h]; rfl) with h1 | ⟨h1, h2⟩
   ·rcases hb with hb | hb
    ·exact i2 β h1 hb
    ·exact (i1 β hb).2 h1
   ·have := i4 h1
    rcases hb with hb | hb
    ·have := this.1 β hb; omega
    ·have := this.2 β hb; omega
 have hj' := tj st (fun t ht => (yR fun d hd e => a1 d hd (e ▸ ht)).symm) (fun β hb => by
  show st.H β = (E β).getD (st.H β)
  rw [hE β (.inl hb)]; rfl) (fun hm => by
  cases n with
  | none => rfl
  | some k => exact absurd hm (i1 _ (n1 k rfl).1).1)
 have hi' := ti (stepX st oj.dst y F m) (fun t ht => yR fun d hd e => a3 d hd (e ▸ ht)) (fun β hb => by
  show (F β).getD (st.H β) = st.H β
  rw [hF β (.inl hb)]; rfl) (fun hm => by
  cases m with
  | none => rfl
  | some k => exact absurd hm (i2 _ (m1 k rfl).1))
 refine ⟨_, hj', ?_⟩
 have hcomm : stepX (stepX st oi.dst x E n) oj.dst y F m = stepX (stepX st oj.dst y F m) oi.dst x E n := by
  have hH : ∀ β, (F β).getD ((E β).getD (st.H β)) = (E β).getD ((F β).getD (st.H β)) := by
   intro β
   cases hEb : E β with
   | none => rfl
   | some v =>
    have : F β = none := by
     rcases e1 β (by rw [hEb]; rfl) with h1 | ⟨h1, h2⟩
     ·exact hF β (.inr h1)
     ·cases hFb : F β with
      | none => rfl
      | some w =>
       rcases f1 β (by rw [hFb]; rfl) with k1 | ⟨k1, _⟩
       ·have := hE β (.inr k1)
        rw [hEb] at this; cases this
       ·exact absurd k1 (i1 _ h1).2
    rw [this]; rfl
  have hN : m.getD (n.getD st.nx) = n.getD (m.getD st.nx) := by
   cases n with
   | none => rfl
   | some k =>
    cases m with
    | none => rfl
    | some l => exact absurd (m1 l rfl).1 (i1 _ (n1 k rfl).1).2
  have h1 : ((stepX st oi.dst x E n).put oj.dst y).tm = ((stepX st oj.dst y F m).put oi.dst x).tm := by
   cases hdi : oi.dst <;> cases hdj : oj.dst <;> simp only [stepX, St.put] <;> try rfl
   rename_i t t'
   funext k
   have hne : t ≠ t' := fun h => a2 t hdi (by rw [hdj, h])
   by_cases e1 : k = t
   ·subst e1; simp [hne]
   ·simp [e1]
  cases hdi : oi.dst <;> cases hdj : oj.dst <;> rw [hdi, hdj] at h1 <;> simp only [stepX, St.put] at h1 ⊢ <;> simp only [hH, hN, h1]
 rw [hcomm]
 exact hi'
def OTraceOk (ops : Array Oper) (z : Nat) (tr : Tr) : Prop :=
 tr.Pairwise fun p q => aK ops ops.size p.1 q.1 = true ∨ (IndepO z p q ∧ ∀ o o', ops[p.1]? = some o → ops[q.1]? = some o' → o.apart ops o' = true)
inductive OSteps (P : Program) (G : Gb) (ops : Array Oper) (aa : Nat) : List Nat → St → St → Tr → Prop
 | nil {st : St} : OSteps P G ops aa [] st st []
 | cons {i : Nat} {l : List Nat} {o : Oper} {st s1 s2 : St} {rd wr : List Nat} {tr : Tr} : ops[i]? = some o → OStep P G ops aa i o st s1 rd wr → OSteps P G ops aa l s1 s2 tr →
   OSteps P G ops aa (i :: l) st s2 ((i, rd, wr) :: tr)
theorem OSteps.pull {P : Program} {G : Gb} {ops : Array Oper} {aa : Nat} {j : Nat} : ∀ {l : List Nat} {st st' : St} {tr : Tr}, OSteps P G ops aa l st st' tr → j ∈ l → OTraceOk ops (aa + ops.size) tr → aa + ops.size ≤ st.nx →
  (∀ i ∈ l, aK ops ops.size i j = false) →
  ∃ o rd wr s1 tr', ops[j]? = some o ∧ OStep P G ops aa j o st s1 rd wr ∧ OSteps P G ops aa (l.erase j) s1 st' tr' ∧ OTraceOk ops (aa + ops.size) tr' ∧ (∀ p ∈ tr', p ∈ tr) ∧ (j, rd, wr) ∈ tr
 | _, _, _, _, .nil, hj, _, _, _ => by cases hj
 | _, _, _, _, @OSteps.cons _ _ _ _ i l o st s1 s2 rd wr tr ho hq hs, hj, htr, hz, hb => by
  by_cases e : i = j
  ·subst e
   refine ⟨o, rd, wr, s1, tr, ho, hq, ?_, (List.pairwise_cons.1 htr).2, fun p hp => qZa _ hp, qZb ..⟩
   rw [List.erase_cons_head]
   exact hs
  ·have hj' : j ∈ l := by
    rcases List.mem_cons.1 hj with h | h
    ·exact absurd h.symm e
    ·exact h
   obtain ⟨oj, rdj, wrj, t1, tr', hoj, hqj, hsj, htr', bh, hmem⟩ := OSteps.pull hs hj' (List.pairwise_cons.1 htr).2 (qZh hz hq.nx_le) (fun k hk => hb k (qZa _ hk))
   have hpair := (List.pairwise_cons.1 htr).1 (j, rdj, wrj) hmem
   rcases hpair with h | ⟨hind, hap⟩
   ·rw [hb i (qZb ..)] at h; cases h
   ·obtain ⟨u, kK, iC⟩ := hq.comm hqj (hap o oj ho hoj) hind hz
    refine ⟨oj, rdj, wrj, u, (i, rd, wr) :: tr', hoj, kK, ?_, ?_, ?_, qZa _ hmem⟩
    ·rw [List.erase_cons_tail (by simpa using e)]
     exact .cons ho iC hsj
    ·exact List.pairwise_cons.2 ⟨fun p hp => (List.pairwise_cons.1 htr).1 p (bh p hp), htr'⟩
    ·intro p hp
     rcases List.mem_cons.1 hp with rfl | hp
     ·exact qZb ..
     ·exact qZa _ (bh p hp)
variable {ro : Option Nat}
theorem Sc {st : St} {wr : List Nat} (hi : ops[i]? = some o) (hq : OStep P G ops aa i o st st' rd wr)
  {c : Ctx} {W : World} {a : Act} (s : Sim c W) (hr : Sr G c W st a) (hd : ∀ d, o.dst = some d → d < a.tmps.size) (hγ : ¬ c.used (aa + i)) (hnx : aa + i < st.nx)
  {K : Act → World → Prop} {Q : Exit → Act → World → Prop}
  (k : ∀ a' W' c', Ext c W c' W' → Sim c' W' → Sr G c' W' st' a' → a'.tmps.size = a.tmps.size → (∀ β, c'.used β → c.used β ∨ β = aa + i ∨ st.nx ≤ β) → K a' W') :
  wpOpIn (Fw ro) 0 P ops Q i K a W := by
 cases hq with
 | skip hw => exact CT hi (.skip hw) s hr hd hγ hnx fun a' W' c' h1 h2 h3 h4 h5 => k a' W' c' h1 h2 h3 h4 fun β hb => (h5 β hb).imp id .inl
 | @op x eff hw hv => exact CT hi (.op hw hv) s hr hd hγ hnx fun a' W' c' h1 h2 h3 h4 h5 => k a' W' c' h1 h2 h3 h4 fun β hb => (h5 β hb).imp id .inl
 | @opn f args rd ch us x0 Hn m hw hf hv hok hold hnew hx hch hle hz =>
  unfold wpOpIn
  simp only [hi]
  have hw' := j8 hr.tm hw
  rw [if_pos hw']
  obtain ⟨vs, hvs, aN, hnd⟩ := oa hr hf hv.1
  rw [← hr.H] at hv hok
  refine ⟨fun _ _ => trivial, ?_⟩
  rw [Oper.semAt_eq _ _ _ hnd, aN, Oper.uponIn_enter]
  refine ⟨fun h => (by cases h), np ((FN s hv hr.nx hr.G hvs hok hold hnew hx).mono ?_)⟩
  rintro e W' ⟨v, d, rfl, he, hs, hrx, hdH, kK, iC, _⟩
  refine k _ W' d he hs ?_ (by simp) (fun β hb => (kK β hb).imp id .inr)
  have ab := he.abides s
  refine ⟨by rw [hdH, hr.H], ?_, iC, ?_, hr.G.abides ab⟩
  ·have := uf (st := st) (dst := o.dst) (fun t => Rep.abides ab _ (hr.tm t)) hd hrx
   intro t
   have h2 := this t
   cases hdst : o.dst <;> rw [hdst] at h2 <;> exact h2
  ·rw [ug]
   cases hdst : o.dst <;> exact hr.df.abides ab
variable {Q : Vx → St → Prop}
theorem FO {n : Nat} {eT : Nat} {c0 : Ctx} {W0 : World} (hback : backOk ops = true) (hdst : dstsOk n ops = true) :
  ∀ (fuel : Nat) (l : List Nat) (tr : Tr) (listed : Array Bool) (st st' : St) (c : Ctx) (W : World) (a : Act),
  OSteps P G ops aa l st st' tr → OTraceOk ops (aa + ops.size) tr → Q .normal st' → Left ops listed l → l.length ≤ fuel → Closed ops listed → aa + ops.size ≤ st.nx → eT ≤ aa →
  RoOk G c ro → Sim c W → Sr G c W st a → a.tmps.size = n → (∀ i ∈ l, ¬ c.used (aa + i)) → Ext c0 W0 c W → (∀ β, c.used β → c0.used β ∨ eT ≤ β) →
  wpAnyIn (Fw ro) 0 P .any ops (Lift G n eT c0 W0 Q) fuel listed a W := by
 intro fuel
 induction fuel with
 | zero =>
  intro l tr listed st st' c W a hq htr hQ hleft bn hcl hb hn hro s hr hs hf he hu
  have hnil : l = [] := List.eq_nil_of_length_eq_zero (by omega)
  subst hnil
  cases hq
  refine ⟨?_, .normal, c, st, rfl, he, s, hr, hs, hu, by omega, hQ⟩
  cases hrd : Region.ready .any ops listed with
  | nil => rfl
  | cons i l => have := w9 hleft (j := i) (by rw [hrd]; exact qZb ..); cases this
 | succ fuel ih =>
  intro l tr listed st st' c W a hq htr hQ hleft bn hcl hb hn hro s hr hs hf he hu
  refine ⟨fun hrd => ?_, fun j hj => ?_⟩
  ·have hnil := FP hback hleft hrd
   subst hnil
   cases hq
   exact ⟨.normal, c, st, rfl, he, s, hr, hs, hu, by omega, hQ⟩
  ·have hjl := w9 hleft hj
   obtain ⟨hjlt, _, hpre⟩ := CU hj
   have hjlt' : j < listed.size := by rw [hleft.1]; exact hjlt
   have hno : ∀ i ∈ l, aK ops ops.size i j = false := by
    intro i hi
    cases hbf : aK ops ops.size i j with
    | false => rfl
    | true =>
     have h1 := CV hcl _ _ _ hpre hbf
     rw [hleft.unlisted hi] at h1
     cases h1
   have hnd := hleft.2.1
   have hlt : ∀ i ∈ l, i < ops.size := fun i hi => ((hleft.2.2 i).1 hi).1
   obtain ⟨o, rd, wr, s1, tr', ho, hqj, hqs, htr', _, _⟩ := hq.pull hjl htr hb hno
   refine Sc ho hqj s hr (by rw [hs]; exact oc hdst ho) (hf j hjl) (by omega) ?_
   intro a' W' c' he' hs' hr' hsz hu'
   refine ih (l.erase j) tr' _ s1 st' c' W' a' hqs htr' hQ (hleft.set hjl) ?_ (hcl.set hpre hjlt') (qZh hb hqj.nx_le) hn (hro.ext he') hs' hr' (hsz.trans hs) ?_ (he.trans he') ?_
   ·rw [List.length_erase_of_mem hjl]; omega
   ·intro i hi hbad
    rw [hnd.mem_erase_iff] at hi
    have hilt := hlt i hi.2
    rcases hu' _ hbad with h | h | h
    ·exact hf i hi.2 h
    ·exact hi.1 (by omega)
    ·omega
   ·intro β hβ
    rcases hu' β hβ with h | h | h
    ·exact hu β h
    ·right; omega
    ·right; omega
theorem VWp.regionOpen {n id : Nat} {st : St} {tr : Tr} (hm : P.follows .mixedOrders = true) (hback : backOk ops = true) (hdst : dstsOk n ops = true)
  (h : OSteps P G ops st.nx (List.range ops.size) { st with nx := st.nx + ops.size } st' tr) (htr : OTraceOk ops (st.nx + ops.size) tr) (hQ : Q .normal st') : VWp P G n (.region id ops true) Q st := by
 intro ro c W a hro s hr hs
 refine wpIn_region_any hm (FO hback hdst ops.size (List.range ops.size) tr _ _ st' c W.drew a h htr hQ ?_ (by simp) ?_ (qZg _) (qZg _) (hro.ext (Ext.drew c W)) s.drew ?_ hs ?_ (Ext.drew c W) (fun _ h => .inl h))
 ·refine ⟨by simp, List.nodup_range, fun i => ?_⟩
  rw [List.mem_range]
  constructor
  ·intro hi; exact ⟨hi, by simp [hi]⟩
  ·intro hi; exact hi.1
 ·intro j hj
  exfalso
  by_cases hlt : j < ops.size
  ·simp [hlt] at hj
  ·simp [hlt] at hj
 ·have ab : Abides c W c W.drew := wA rfl
  exact ⟨hr.H, fun t => Rep.abides ab _ (hr.tm t), fun β hb => qZd (hr.nx β hb) (qZe _ _), hr.df.abides ab, hr.G.abides ab⟩
 ·intro i _ hb
  have := hr.nx _ hb
  omega
end Go.V
end
