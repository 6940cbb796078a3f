/- Part of a proof. -/
import Derived.Test.YtekhjalgmlflpaaGreatDoorYad
import Derived.LoopNIn
import Derived.RangeFuncIn
import Derived.RangeFuncLeaves
set_option linter.all false
section
namespace Go.V
open Go
def stepTo (st : St) (dst : Option Tmp) (x : VV) (eff : VEff) (γ : Nat) : St := { st.put dst x with H := eff.app γ st.H }
theorem zay (st : St) (dst : Option Tmp) (x : VV) (γ : Nat) : stepTo st dst x .none γ = st.put dst x := by cases dst <;> rfl
theorem zuk {st : St} {dst : Option Tmp} {x : VV} {eff : VEff} {γ t : Nat} (h : ∀ d, dst = some d → d ≠ t) : (stepTo st dst x eff γ).tm t = st.tm t := by
 cases dst with
 | none => rfl
 | some d =>
  have : ¬ t = d := fun e => h d rfl e.symm
  simp [stepTo, St.put, this]
theorem ρ_congr {G : Glob} {st st2 : St} {o : Oper} {ops : Array Oper} (h : ∀ t ∈ o.looksAt ops, st2.tm t = st.tm t) : ∀ y ∈ o.op.operands, st.ρ G y = st2.ρ G y := by
 intro y hy
 cases y with
 | tmp t => exact (h t (List.mem_append_left _ (List.mem_filterMap.2 ⟨.tmp t, by simpa using hy, rfl⟩))).symm
 | _ => rfl
theorem zdp {ops : Array Oper} {st st2 : St} {o : Oper} (h : ∀ t ∈ o.looksAt ops, st2.tm t = st.tm t) : wantV ops st2.tm o = wantV ops st.tm o := by
 unfold wantV
 cases hg : o.guard with
 | none => rfl
 | some p =>
  obtain ⟨j, w⟩ := p
  simp only
  cases hd : (ops[j]?).bind (·.dst) with
  | none => rfl
  | some d =>
   have : st2.tm d = st.tm d := h d (List.mem_append_right _ (by simp [hg, hd]))
   simp only [this]
theorem zfa {G : Glob} {st st2 : St} {o : Oper} (h : ∀ y ∈ o.op.operands, st.ρ G y = st2.ρ G y) : callee? G st2 o.op = callee? G st o.op := by
 unfold callee?
 cases ho : o.op <;> try rfl
 rename_i k
 rw [ho] at h
 simp only
 cases hk : k.callee <;> try rfl
 rename_i fo
 have h1 := h fo (by simp [Op.operands, Call.operands, hk])
 have h2 : k.args.toList.map (st2.ρ G) = k.args.toList.map (st.ρ G) := List.map_congr_left fun y hy => (h y (by simp [Op.operands, Call.operands]; exact .inr (by simpa using hy))).symm
 simp only [h1, h2]
theorem zvc {o : Oper} {ρ ρ' : Operand → VV} (h : ∀ y ∈ o.op.operands, ρ y = ρ' y) : rdV o ρ = rdV o ρ' := by
 unfold rdV
 have : ∀ l : List Operand, (∀ y ∈ l, ρ y = ρ' y) → (l.filterMap fun y => topName (ρ y)) = l.filterMap fun y => topName (ρ' y) := by
  intro l
  induction l with
  | nil => intro _; rfl
  | cons y l ih =>
   intro hl
   simp only [List.filterMap_cons, hl y (by simp), ih (fun z hz => hl z (by simp [hz]))]
 exact this _ (fun y hy => h y (zali hy))
theorem QStep.transport {P : Program} {G : Glob} {ops : Array Oper} {base i : Nat} {o : Oper} {st st' : St} {rd wr : List Nat} (h : QStep P G ops base i o st st' rd wr) :
  ∃ x eff, st' = stepTo st o.dst x eff (base + i) ∧ wr = eff.wr (base + i) ∧
   ∀ st2 : St, (∀ t ∈ o.looksAt ops, st2.tm t = st.tm t) → (∀ β ∈ rd, st2.H β = st.H β) → st2.nx = st.nx → QStep P G ops base i o st2 (stepTo st2 o.dst x eff (base + i)) rd wr := by
 cases h with
 | skip hw =>
  refine ⟨.lit undef, .none, (zay ..).symm, rfl, fun st2 h1 _ _ => ?_⟩
  rw [zay]
  exact .skip (by rw [zdp h1]; exact hw)
 | @op x eff hw hv =>
  refine ⟨x, eff, rfl, rfl, fun st2 h1 h2 hn => ?_⟩
  have hρ := ρ_congr (G := G) h1
  rw [zvc hρ]
  refine .op (by rw [zdp h1]; exact hw) ?_
  rw [← hv]
  exact (zlz hρ (fun β hb => (h2 β hb).symm)).symm
 | @call f args x hw hf ht hp =>
  refine ⟨x, .none, (zay ..).symm, rfl, fun st2 h1 h2 hn => ?_⟩
  rw [zay]
  exact .call (by rw [zdp h1]; exact hw) (by rw [zfa (ρ_congr h1)]; exact hf) ht hp
 | @callOwn f args cs len es hw hf ht hp =>
  refine ⟨.ref (base + i) 0 len es len, .new (.cells none cs), rfl, rfl, fun st2 h1 h2 hn => ?_⟩
  exact .callOwn (by rw [zdp h1]; exact hw) (by rw [zfa (ρ_congr h1)]; exact hf) ht hp
 | @callSeen f args args' x hw hf hse hp hfl =>
  refine ⟨x, .none, (zay ..).symm, rfl, fun st2 h1 h2 hn => ?_⟩
  rw [zay]
  have hc := (zrb (H := st.H) (H' := st2.H) fuelS).2 args h2
  rw [← hc.2]
  exact .callSeen (by rw [zdp h1]; exact hw) (by rw [zfa (ρ_congr h1)]; exact hf) (hc.1.trans hse) hp hfl
 | @callSeenOwn f args args' cs len es hw hf hse hp hfl =>
  refine ⟨.ref (base + i) 0 len es len, .new (.cells none cs), rfl, rfl, fun st2 h1 h2 hn => ?_⟩
  have hc := (zrb (H := st.H) (H' := st2.H) fuelS).2 args h2
  rw [← hc.2]
  exact .callSeenOwn (by rw [zdp h1]; exact hw) (by rw [zfa (ρ_congr h1)]; exact hf) (hc.1.trans hse) hp hfl
 | @callFrame f args rd x0 x Hn n hw hf hv hok hsame hx =>
  refine ⟨x, .none, (zay ..).symm, rfl, fun st2 h1 h2 hn => ?_⟩
  rw [zay]
  exact .callFrame (by rw [zdp h1]; exact hw) (by rw [zfa (ρ_congr h1)]; exact hf) (by rw [zon h2, hn]; exact hv) (zvv h2 hok) (fun β hb => (hsame β hb).trans (h2 β hb).symm)
   (by rw [hn]; exact hx)
theorem zwi {st : St} {d d' : Option Tmp} {x x' : VV} {e e' : VEff} {γ γ' : Nat} (hd : ∀ t, d = some t → d' ≠ some t) (hw : ∀ β ∈ e.wr γ, β ∉ e'.wr γ') :
  stepTo (stepTo st d x e γ) d' x' e' γ' = stepTo (stepTo st d' x' e' γ') d x e γ := by
 have h1 : ((stepTo st d x e γ).put d' x').tm = ((stepTo st d' x' e' γ').put d x).tm := by
  cases d <;> cases d' <;> simp only [stepTo, St.put] <;> try rfl
  rename_i t t'
  funext i
  have hne : t ≠ t' := fun h => hd t rfl (by rw [h])
  by_cases e1 : i = t
  ·subst e1; simp [hne]
  ·simp [e1]
 have h2 : e'.app γ' (e.app γ st.H) = e.app γ (e'.app γ' st.H) := zaii hw
 unfold stepTo at h1 ⊢
 cases d <;> cases d' <;> simp only [St.put] at h1 ⊢ <;> simp [h2, h1]
theorem QStep.comm {P : Program} {G : Glob} {ops : Array Oper} {base i j : Nat} {oi oj : Oper} {st s1 s2 : St} {rdi wri rdj wrj : List Nat} (hi : QStep P G ops base i oi st s1 rdi wri) (hj : QStep P G ops base j oj s1 s2 rdj wrj)
  (hap : oi.apart ops oj = true) (h1 : ∀ β ∈ wri, β ∉ rdj) (h2 : ∀ β ∈ wri, β ∉ wrj) (h3 : ∀ β ∈ wrj, β ∉ rdi) :
  ∃ s1', QStep P G ops base j oj st s1' rdj wrj ∧ QStep P G ops base i oi s1' s2 rdi wri := by
 obtain ⟨a1, a2, a3⟩ := Oper.apart_spec hap
 obtain ⟨x, e, rfl, rfl, ti⟩ := hi.transport
 obtain ⟨y, f, rfl, rfl, tj⟩ := hj.transport
 have hj' := tj st (fun t ht => (zuk fun d hd e => a1 d hd (e ▸ ht)).symm) (fun β hb => by
  show st.H β = e.app (base + i) st.H β
  rw [zgl fun hm => h1 β hm hb]) (by cases oi.dst <;> rfl)
 have hi' := ti (stepTo st oj.dst y f (base + j)) (fun t ht => zuk fun d hd e => a3 d hd (e ▸ ht)) (fun β hb => by
  show f.app (base + j) st.H β = st.H β
  rw [zgl fun hm => h3 β hm hb]) (by cases oj.dst <;> rfl)
 refine ⟨_, hj', ?_⟩
 rw [zwi a2 h2]
 exact hi'
def isBefore (ops : Array Oper) : Nat → Nat → Nat → Bool
 | 0, _, _ => false
 | n + 1, i, j => match ops[j]? with
  | some o => o.after.any fun e => Region.binds .any e && (e.on == i || isBefore ops n i e.on)
  | none => false
def Closed (ops : Array Oper) (listed : Array Bool) : Prop :=
 ∀ j, listed.getD j false = true → ∀ o, ops[j]? = some o → ∀ e ∈ o.after, Region.binds .any e = true → listed.getD e.on false = true
def preOk (ops : Array Oper) (listed : Array Bool) (j : Nat) : Prop := ∀ o, ops[j]? = some o → ∀ e ∈ o.after, Region.binds .any e = true → listed.getD e.on false = true
theorem zif {ops : Array Oper} {listed : Array Bool} (hc : Closed ops listed) : ∀ (n i j : Nat), preOk ops listed j → isBefore ops n i j = true → listed.getD i false = true
 | 0, _, _, _, h => by simp [isBefore] at h
 | n + 1, i, j, hp, h => by
  unfold isBefore at h
  split at h
  ·rename_i o ho
   rw [Array.any_eq_true'] at h
   obtain ⟨e, he, hb⟩ := h
   simp only [Bool.and_eq_true, Bool.or_eq_true, beq_iff_eq] at hb
   have hl := hp o ho e he hb.1
   rcases hb.2 with h | h
   ·rw [← h]; exact hl
   ·exact zif hc n i e.on (fun o' ho' e' he' hb' => hc e.on hl o' ho' e' he' hb') h
  ·cases h
theorem zme {ops : Array Oper} {listed : Array Bool} {j : Nat} (h : j ∈ Region.ready .any ops listed) : j < ops.size ∧ listed.getD j true = false ∧ preOk ops listed j := by
 unfold Region.ready at h
 rw [List.mem_filter] at h
 obtain ⟨h1, h2⟩ := h
 simp only [Bool.and_eq_true, Bool.not_eq_true'] at h2
 refine ⟨by simpa using h1, h2.1, fun o ho e he hb => ?_⟩
 have h3 := h2.2
 simp only [ho, Option.map_some, Option.getD_some] at h3
 have := Array.all_eq_true'.1 h3 e he
 simpa [hb] using this
abbrev Tr := List (Nat × List Nat × List Nat)
def Indep (p q : Nat × List Nat × List Nat) : Prop := (∀ β ∈ p.2.2, β ∉ q.2.1 ∧ β ∉ q.2.2) ∧ (∀ β ∈ q.2.2, β ∉ p.2.1)
def TraceOk (ops : Array Oper) (tr : Tr) : Prop :=
 tr.Pairwise fun p q => isBefore ops ops.size p.1 q.1 = true ∨ (Indep p q ∧ ∀ o o', ops[p.1]? = some o → ops[q.1]? = some o' → o.apart ops o' = true)
inductive QSteps (P : Program) (G : Glob) (ops : Array Oper) (base : Nat) : List Nat → St → St → Tr → Prop
 | nil {st : St} : QSteps P G ops base [] st st []
 | cons {i : Nat} {l : List Nat} {o : Oper} {st s1 s2 : St} {rd wr : List Nat} {tr : Tr} : ops[i]? = some o → QStep P G ops base i o st s1 rd wr → QSteps P G ops base l s1 s2 tr →
   QSteps P G ops base (i :: l) st s2 ((i, rd, wr) :: tr)
theorem QSteps.fst {P : Program} {G : Glob} {ops : Array Oper} {base : Nat} : ∀ {l : List Nat} {st st' : St} {tr : Tr}, QSteps P G ops base l st st' tr → tr.map (·.1) = l
 | _, _, _, _, .nil => rfl
 | _, _, _, _, .cons _ _ h => by simp [h.fst]
theorem QSteps.pull {P : Program} {G : Glob} {ops : Array Oper} {base : Nat} {j : Nat} : ∀ {l : List Nat} {st st' : St} {tr : Tr}, QSteps P G ops base l st st' tr → j ∈ l → TraceOk ops tr →
  (∀ i ∈ l, isBefore ops ops.size i j = false) →
  ∃ o rd wr s1 tr', ops[j]? = some o ∧ QStep P G ops base j o st s1 rd wr ∧ QSteps P G ops base (l.erase j) s1 st' tr' ∧ TraceOk ops tr' ∧ (∀ p ∈ tr', p ∈ tr) ∧ (j, rd, wr) ∈ tr
 | _, _, _, _, .nil, hj, _, _ => by cases hj
 | _, _, _, _, @QSteps.cons _ _ _ _ i l o st s1 s2 rd wr tr ho hq hs, hj, htr, hb => by
  by_cases e : i = j
  ·subst e
   refine ⟨o, rd, wr, s1, tr, ho, hq, ?_, (List.pairwise_cons.1 htr).2, fun p hp => List.mem_cons_of_mem _ hp, List.mem_cons_self ..⟩
   rw [List.erase_cons_head]
   exact hs
  ·have hj' : j ∈ l := by
    rcases List.mem_cons.1 hj with h | h
    ·exact absurd h.symm e
    ·exact h
   obtain ⟨oj, rdj, wrj, t1, tr', hoj, hqj, hsj, htr', hsub, hmem⟩ := QSteps.pull hs hj' (List.pairwise_cons.1 htr).2 (fun k hk => hb k (List.mem_cons_of_mem _ hk))
   have hpair := (List.pairwise_cons.1 htr).1 (j, rdj, wrj) hmem
   rcases hpair with h | ⟨⟨i1, i2⟩, hap⟩
   ·rw [hb i (List.mem_cons_self ..)] at h; cases h
   ·obtain ⟨u, hu1, hu2⟩ := hq.comm hqj (hap o oj ho hoj) (fun β hb => (i1 β hb).1) (fun β hb => (i1 β hb).2) i2
    refine ⟨oj, rdj, wrj, u, (i, rd, wr) :: tr', hoj, hu1, ?_, ?_, ?_, List.mem_cons_of_mem _ hmem⟩
    ·rw [List.erase_cons_tail (by simpa using e)]
     exact .cons ho hu2 hsj
    ·exact List.pairwise_cons.2 ⟨fun p hp => (List.pairwise_cons.1 htr).1 p (hsub p hp), htr'⟩
    ·intro p hp
     rcases List.mem_cons.1 hp with rfl | hp
     ·exact List.mem_cons_self ..
     ·exact List.mem_cons_of_mem _ (hsub p hp)
end Go.V
end
section
namespace Go.V
open Go
inductive VExit where
 | normal
 | exit (id : Nat)
 | goto (l : Nat)
 | ret
 | panic (x : VV)
def ERep (c : Ctx) (W : World) : VExit → Exit → Prop
 | .normal, e => e = .normal
 | .exit id, e => e = .exit id
 | .goto l, e => e = .goto l
 | .ret, e => e = .ret
 | .panic x, e => ∃ v, e = .panic [{ v, recovered := false }] ∧ Rep c W x v
def Lift (G : Glob) (n : Nat) (nx0 : Nat) (c0 : Ctx) (W0 : World) (Q : VExit → St → Prop) : Exit → Act → World → Prop := fun e a W =>
 ∃ ve c st, ERep c W ve e ∧ Ext c0 W0 c W ∧ Sim c W ∧ StRep G c W st a ∧ a.tmps.size = n ∧ (∀ β, c.used β → c0.used β ∨ nx0 ≤ β) ∧ nx0 ≤ st.nx ∧ Q ve st
def RoOk (G : Glob) (c : Ctx) (ro : Option Nat) : Prop := match G.rg with
 | none => True
 | some none => ro = none
 | some (some β) => c.used β ∧ (c.live β → ro = some (c.φ β))
theorem RoOk.ext {G : Glob} {c c' : Ctx} {W W' : World} {ro : Option Nat} (h : RoOk G c ro) (he : Ext c W c' W') : RoOk G c' ro := by
 unfold RoOk at h ⊢
 split
 ·trivial
 ·rename_i e; rw [e] at h; exact h
 ·rename_i β e; rw [e] at h
  exact ⟨he.used β h.1, fun hl => by rw [he.φ β h.1 hl]; exact h.2 (he.live β h.1 hl)⟩
def VWp (P : Program) (G : Glob) (n : Nat) (code : Code) (Q : VExit → St → Prop) (st : St) : Prop :=
 ∀ ro c W a, RoOk G c ro → Sim c W → StRep G c W st a → a.tmps.size = n → code.wpIn (Fw ro) 0 P (Lift G n st.nx c W Q) a W
def VExit.then (next : St → Prop) (Q : VExit → St → Prop) : VExit → St → Prop
 | .normal, st => next st
 | e, st => Q e st
section rules
variable {P : Program} {G : Glob} {n : Nat} {Q : VExit → St → Prop} {st : St}
theorem Lift.of_ext {nx0 nx1 : Nat} {c0 c1 : Ctx} {W0 W1 : World} {e : Exit} {a : Act} {W : World} (he : Ext c0 W0 c1 W1) (hu : ∀ β, c1.used β → c0.used β ∨ nx0 ≤ β) (hle : nx0 ≤ nx1) (h : Lift G n nx1 c1 W1 Q e a W) :
  Lift G n nx0 c0 W0 Q e a W := by
 obtain ⟨ve, c, st, h1, h2, h3, h4, h5, h6, h7, h8⟩ := h
 refine ⟨ve, c, st, h1, he.trans h2, h3, h4, h5, fun β hb => ?_, Nat.le_trans hle h7, h8⟩
 rcases h6 β hb with h | h
 ·exact hu β h
 ·exact .inr (Nat.le_trans hle h)
theorem VWp.mono {code : Code} {Q' : VExit → St → Prop} (h : VWp P G n code Q st) (hq : ∀ e s, Q e s → Q' e s) : VWp P G n code Q' st :=
 fun ro c W a hro s hr hs => wpIn_mono (h ro c W a hro s hr hs) fun _ _ _ ⟨ve, c', st', h1, h2, h3, h4, h5, h6, h7, h8⟩ => ⟨ve, c', st', h1, h2, h3, h4, h5, h6, h7, hq _ _ h8⟩
theorem Lift.mk' {ve : VExit} {e : Exit} {c : Ctx} {W : World} {a : Act} (s : Sim c W) (hr : StRep G c W st a) (hs : a.tmps.size = n) (he : ERep c W ve e) (hq : Q ve st) : Lift G n st.nx c W Q e a W :=
 ⟨ve, c, st, he, Ext.refl c W, s, hr, hs, fun _ h => .inl h, Nat.le_refl _, hq⟩
theorem VWp.skip (h : Q .normal st) : VWp P G n .skip Q st := fun _ _ _ _ _ s hr hs => wpIn_skip (Lift.mk' (ve := .normal) s hr hs rfl h)
theorem VWp.label {l : Nat} (h : Q .normal st) : VWp P G n (.label l) Q st := fun _ _ _ _ _ s hr hs => wpIn_label (Lift.mk' (ve := .normal) s hr hs rfl h)
theorem VWp.exit {id : Nat} (h : Q (.exit id) st) : VWp P G n (.exit id) Q st := fun _ _ _ _ _ s hr hs => wpIn_exit (Lift.mk' (ve := .exit id) s hr hs rfl h)
theorem VWp.ret (h : Q .ret st) : VWp P G n .ret Q st := fun _ _ _ _ _ s hr hs => wpIn_ret (Lift.mk' (ve := .ret) s hr hs rfl h)
theorem VWp.seq {x y : Code} (h : VWp P G n x (VExit.then (VWp P G n y Q) Q) st) : VWp P G n (.seq x y) Q st := by
 intro ro c W a hro s hr hs
 refine wpIn_seq (wpIn_mono (h ro c W a hro s hr hs) ?_)
 rintro e a' W' ⟨ve, c', st', h1, h2, h3, h4, h5, h6, h7, h8⟩
 cases ve with
 | normal =>
  have e1 : e = .normal := h1
  subst e1
  exact wpIn_mono (h8 ro c' W' a' (hro.ext h2) h3 h4 h5) fun _ _ _ hl => hl.of_ext h2 h6 h7
 | exit id => have e1 : e = .exit id := h1; subst e1; exact ⟨_, c', st', h1, h2, h3, h4, h5, h6, h7, h8⟩
 | goto l => have e1 : e = .goto l := h1; subst e1; exact ⟨_, c', st', h1, h2, h3, h4, h5, h6, h7, h8⟩
 | ret => have e1 : e = .ret := h1; subst e1; exact ⟨_, c', st', h1, h2, h3, h4, h5, h6, h7, h8⟩
 | panic x =>
  obtain ⟨v, e1, hv⟩ := h1
  subst e1
  exact ⟨.panic x, c', st', ⟨v, rfl, hv⟩, h2, h3, h4, h5, h6, h7, h8⟩
theorem VWp.cond {cnd : Operand} {x y : Code} {t : Bool} (hc : st.ρ G cnd = .lit (.bool t)) (h : VWp P G n (if t then x else y) Q st) : VWp P G n (.cond cnd x y) Q st := by
 intro ro c W a hro s hr hs
 have := hr.eval cnd
 rw [hc] at this
 exact wpIn_cond (show a.eval cnd = .bool t from this) (h ro c W a hro s hr hs)
def VExit.inBlock (id : Nat) (Q : VExit → St → Prop) : VExit → St → Prop
 | .exit id', st => if id' = id then Q .normal st else Q (.exit id') st
 | e, st => Q e st
theorem VWp.block {id : Nat} {x : Code} (h : VWp P G n x (VExit.inBlock id Q) st) : VWp P G n (.block id x) Q st := by
 intro ro c W a hro s hr hs
 refine wpIn_block (wpIn_mono (h ro c W a hro s hr hs) ?_)
 rintro e a' W' ⟨ve, c', st', h1, h2, h3, h4, h5, h6, h7, h8⟩
 cases ve with
 | exit i =>
  have e1 : e = .exit i := h1
  subst e1
  simp only [Exit.inBlock]
  simp only [VExit.inBlock] at h8
  split
  ·rename_i hi
   rw [if_pos hi] at h8
   exact ⟨.normal, c', st', rfl, h2, h3, h4, h5, h6, h7, h8⟩
  ·rename_i hi
   rw [if_neg hi] at h8
   exact ⟨.exit i, c', st', rfl, h2, h3, h4, h5, h6, h7, h8⟩
 | normal => have e1 : e = .normal := h1; subst e1; exact ⟨_, c', st', h1, h2, h3, h4, h5, h6, h7, h8⟩
 | goto l => have e1 : e = .goto l := h1; subst e1; exact ⟨_, c', st', h1, h2, h3, h4, h5, h6, h7, h8⟩
 | ret => have e1 : e = .ret := h1; subst e1; exact ⟨_, c', st', h1, h2, h3, h4, h5, h6, h7, h8⟩
 | panic x =>
  obtain ⟨v, e1, hv⟩ := h1
  subst e1
  exact ⟨.panic x, c', st', ⟨v, rfl, hv⟩, h2, h3, h4, h5, h6, h7, h8⟩
theorem VWp.loop {x : Code} (I : Nat → St → Prop) {m : Nat} (h0 : I m st) (round : ∀ m st, I m st → VWp P G n x (VExit.then (fun st' => ∃ m', m' < m ∧ I m' st') Q) st) : VWp P G n (.loop x) Q st := by
 intro ro c W a hro s hr hs
 have key : ∀ m st, I m st → ∀ c W a, RoOk G c ro → Sim c W → StRep G c W st a → a.tmps.size = n → Code.roundsIn (Fw ro) 0 P x (Lift G n st.nx c W Q) (m + 1) a W := by
  intro m
  induction m using Nat.strongRecOn with
  | _ m ih =>
   intro st hI c W a hro s hr hs
   rw [roundsIn_succ]
   refine wpIn_mono (round m st hI ro c W a hro s hr hs) ?_
   rintro e a' W' ⟨ve, c', st', h1, h2, h3, h4, h5, h6, h7, h8⟩
   cases ve with
   | normal =>
    have e1 : e = .normal := h1
    subst e1
    obtain ⟨m', hlt, hI'⟩ := h8
    have hrec := ih m' hlt st' hI' c' W' a' (hro.ext h2) h3 h4 h5
    show Code.roundsIn (Fw ro) 0 P x (Lift G n st.nx c W Q) m a' W'
    have more : ∀ k k' a W (Q Q' : Exit → Act → World → Prop), k ≤ k' → (∀ e a w, Q e a w → Q' e a w) → Code.roundsIn (Fw ro) 0 P x Q k a W → Code.roundsIn (Fw ro) 0 P x Q' k' a W := by
     intro k
     induction k with
     | zero => intro k' a W Q Q' _ _ h; exact h.elim
     | succ k ihk =>
      intro k' a W Q Q' hle hq h
      obtain ⟨k'', rfl⟩ : ∃ k'', k' = k'' + 1 := ⟨k' - 1, by omega⟩
      rw [roundsIn_succ] at h ⊢
      refine wpIn_mono h fun e a w he => ?_
      cases e with
      | normal => exact ihk k'' a w Q Q' (by omega) hq he
      | exit id => exact hq _ _ _ he
      | goto l => exact hq _ _ _ he
      | ret => exact hq _ _ _ he
      | panic ch => exact hq _ _ _ he
      | outgrown => exact hq _ _ _ he
    exact more (m' + 1) m a' W' _ _ hlt (fun _ _ _ hl => hl.of_ext h2 h6 h7) hrec
   | exit id => have e1 : e = .exit id := h1; subst e1; exact ⟨_, c', st', h1, h2, h3, h4, h5, h6, h7, h8⟩
   | goto l => have e1 : e = .goto l := h1; subst e1; exact ⟨_, c', st', h1, h2, h3, h4, h5, h6, h7, h8⟩
   | ret => have e1 : e = .ret := h1; subst e1; exact ⟨_, c', st', h1, h2, h3, h4, h5, h6, h7, h8⟩
   | panic x =>
    obtain ⟨v, e1, hv⟩ := h1
    subst e1
    exact ⟨.panic x, c', st', ⟨v, rfl, hv⟩, h2, h3, h4, h5, h6, h7, h8⟩
 exact wpIn_loop_rounds (m + 1) (key m st h0 c W a hro s hr hs)
end rules
def SStep (P : Program) (G : Glob) (n : Nat) (ops : Array Oper) (base i : Nat) (st : St) (K : St → Prop) (Qp : VV → St → Prop) : Prop :=
 ∀ ro c W a (Kr : Act → World → Prop) (Q : Exit → Act → World → Prop), RoOk G c ro → Sim c W → StRep G c W st a → a.tmps.size = n → ¬ c.used (base + i) → base + i < st.nx →
  (∀ a' W' c' st', Ext c W c' W' → Sim c' W' → StRep G c' W' st' a' → a'.tmps.size = n → (∀ β, c'.used β → c.used β ∨ β = base + i ∨ st.nx ≤ β) → st.nx ≤ st'.nx → K st' → Kr a' W') →
  (∀ a' W' c' st' x v, Ext c W c' W' → Sim c' W' → StRep G c' W' st' a' → a'.tmps.size = n → (∀ β, c'.used β → c.used β ∨ β = base + i ∨ st.nx ≤ β) → st.nx ≤ st'.nx → Rep c' W' x v → Qp x st' →
   Q (.panic [{ v, recovered := false }]) a' W') →
  wpOpIn (Fw ro) 0 P ops Q i Kr a W
def dstsOk (n : Nat) (ops : Array Oper) : Bool := ops.all (dstIn n)
theorem zdq {n : Nat} {ops : Array Oper} (h : dstsOk n ops = true) {i : Nat} {o : Oper} (ho : ops[i]? = some o) : ∀ d, o.dst = some d → d < n := by
 intro d hd
 have := (Array.all_eq_true_iff_forall_mem.1 h) o (Array.mem_of_getElem? ho)
 simpa [dstIn, hd] using this
theorem QStep.nx {P : Program} {G : Glob} {ops : Array Oper} {base i : Nat} {o : Oper} {st st' : St} {rd wr : List Nat} (h : QStep P G ops base i o st st' rd wr) : st'.nx = st.nx := by
 obtain ⟨x, eff, rfl, _⟩ := h.transport
 cases o.dst <;> rfl
theorem SStep.quiet {P : Program} {G : Glob} {n : Nat} {ops : Array Oper} {base i : Nat} {o : Oper} {st st' : St} {rd wr : List Nat} {K : St → Prop} {Qp : VV → St → Prop} (ho : ops[i]? = some o) (hd : dstsOk n ops = true)
  (hq : QStep P G ops base i o st st' rd wr) (hk : K st') : SStep P G n ops base i st K Qp := by
 intro ro c W a Kr Q _ s hr hs hγ hnx k _
 refine zit ho hq s hr (by rw [hs]; exact zdq hd ho) hγ hnx ?_
 intro a' W' c' he hs' hr' hsz hu
 exact k a' W' c' st' he hs' hr' (hsz.trans hs) (fun β hb => (hu β hb).imp id .inl) (by rw [hq.nx]; exact Nat.le_refl _) hk
def VSeq (P : Program) (G : Glob) (n : Nat) (ops : Array Oper) (base : Nat) (Q : VExit → St → Prop) : List Nat → St → Prop
 | [], st => Q .normal st
 | i :: l, st => SStep P G n ops base i st (VSeq P G n ops base Q l) (fun x st' => Q (.panic x) st')
theorem zqx {P : Program} {G : Glob} {n : Nat} {ops : Array Oper} {base : Nat} {Q : VExit → St → Prop} {ro : Option Nat} {nx0 : Nat} {c0 : Ctx} {W0 : World} : ∀ (l : List Nat) (st : St) (c : Ctx) (W : World) (a : Act),
  VSeq P G n ops base Q l st → l.Nodup → (∀ i ∈ l, i < ops.size) → base + ops.size ≤ st.nx → nx0 ≤ base → RoOk G c ro → Sim c W → StRep G c W st a → a.tmps.size = n → (∀ i ∈ l, ¬ c.used (base + i)) →
  Ext c0 W0 c W → (∀ β, c.used β → c0.used β ∨ nx0 ≤ β) → wpOpsIn (Fw ro) 0 P ops (Lift G n nx0 c0 W0 Q) l a W
 | [], st, c, W, a, h, _, _, hb, hn, _, s, hr, hs, _, he, hu => ⟨.normal, c, st, rfl, he, s, hr, hs, hu, by omega, h⟩
 | i :: l, st, c, W, a, h, hnd, hlt, hb, hn, hro, s, hr, hs, hf, he, hu => by
  rw [wpOpsIn_cons]
  have hi := hlt i (List.mem_cons_self ..)
  rw [List.nodup_cons] at hnd
  have hu' : ∀ {c' : Ctx}, (∀ β, c'.used β → c.used β ∨ β = base + i ∨ st.nx ≤ β) → ∀ β, c'.used β → c0.used β ∨ nx0 ≤ β := by
   intro c' h1 β hβ
   rcases h1 β hβ with h | h | h
   ·exact hu β h
   ·right; omega
   ·right; omega
  refine h ro c W a _ _ hro s hr hs (hf i (List.mem_cons_self ..)) (by omega) ?_ ?_
  ·intro a' W' c' st' he' hs' hr' hsz h1 h2 hk
   refine zqx l st' c' W' a' hk hnd.2 (fun j hj => hlt j (List.mem_cons_of_mem _ hj)) (by omega) hn (hro.ext he') hs' hr' hsz (fun j hj hbad => ?_) (he.trans he') (hu' h1)
   have hj' := hlt j (List.mem_cons_of_mem _ hj)
   rcases h1 _ hbad with h | h | h
   ·exact hf j (List.mem_cons_of_mem _ hj) h
   ·have : j = i := by omega
    exact hnd.1 (this ▸ hj)
   ·omega
  ·intro a' W' c' st' x v he' hs' hr' hsz h1 h2 hv hq
   exact ⟨.panic x, c', st', ⟨v, rfl, hv⟩, he.trans he', hs', hr', hsz, hu' h1, by omega, hq⟩
theorem VWp.region {P : Program} {G : Glob} {n id : Nat} {ops : Array Oper} {Q : VExit → St → Prop} {st : St} (h : VSeq P G n ops st.nx Q (List.range ops.size) { st with nx := st.nx + ops.size }) :
  VWp P G n (.region id ops false) Q st := by
 intro ro c W a hro s hr hs
 refine wpIn_region (zqx (List.range ops.size) _ c W a h List.nodup_range (fun i hi => List.mem_range.1 hi) (Nat.le_refl _) (Nat.le_refl _) hro s ?_ hs ?_ (Ext.refl c W) (fun _ h => .inl h))
 ·exact ⟨hr.H, hr.tm, fun β hb => Nat.lt_of_lt_of_le (hr.nx β hb) (Nat.le_add_right _ _), hr.df, hr.G⟩
 ·intro i _ hb
  have := hr.nx _ hb
  omega
def backOk (ops : Array Oper) : Bool := (List.range ops.size).all fun j => match ops[j]? with
 | some o => o.after.all fun e => !Region.binds .any e || decide (e.on < j)
 | none => true
theorem zor {ops : Array Oper} (h : backOk ops = true) {j : Nat} {o : Oper} (ho : ops[j]? = some o) {e : Edge} (he : e ∈ o.after) (hb : Region.binds .any e = true) : e.on < j := by
 unfold backOk at h
 rw [List.all_eq_true] at h
 have h1 := h j (List.mem_range.2 (Array.getElem?_eq_some_iff.1 ho).1)
 rw [ho] at h1
 have := Array.all_eq_true'.1 h1 e he
 simpa [hb] using this
def VDraw (P : Program) (G : Glob) (n : Nat) (ops : Array Oper) (base : Nat) (Q : VExit → St → Prop) : List (List Nat × Nat) → List Nat → St → Prop
 | [], l, st => ∃ st' tr, QSteps P G ops base l st st' tr ∧ TraceOk ops tr ∧ Q .normal st'
 | (l, b) :: rest, last, st => ∃ st' tr, QSteps P G ops base l st st' tr ∧ TraceOk ops tr ∧ SStep P G n ops base b st' (VDraw P G n ops base Q rest last) (fun x st' => Q (.panic x) st')
def flat : List (List Nat × Nat) → List Nat → List Nat
 | [], l => l
 | (l, b) :: rest, last => l ++ b :: flat rest last
def barOk (ops : Array Oper) : List (List Nat × Nat) → List Nat → Bool
 | [], _ => true
 | (l, b) :: rest, last => (l.all fun i => isBefore ops ops.size i b) && ((flat rest last).all fun i => isBefore ops ops.size b i) && barOk ops rest last
end Go.V
end
section
namespace Go.V
open Go
def Left (ops : Array Oper) (listed : Array Bool) (l : List Nat) : Prop :=
 listed.size = ops.size ∧ l.Nodup ∧ ∀ i, i ∈ l ↔ (i < ops.size ∧ listed.getD i true = false)
theorem Left.set {ops : Array Oper} {listed : Array Bool} {l : List Nat} (h : Left ops listed l) {j : Nat} (hj : j ∈ l) : Left ops (listed.setIfInBounds j true) (l.erase j) := by
 obtain ⟨h1, h2, h3⟩ := h
 refine ⟨by simpa using h1, h2.erase j, fun i => ?_⟩
 rw [h2.mem_erase_iff, h3 i]
 have hjlt : j < listed.size := by rw [h1]; exact ((h3 j).1 hj).1
 by_cases e : i = j
 ·subst e
  simp [hjlt]
 ·have e' : ¬ j = i := fun h => e h.symm
  simp [e, Array.getElem?_setIfInBounds_ne e']
theorem Left.unlisted {ops : Array Oper} {listed : Array Bool} {l : List Nat} (h : Left ops listed l) {i : Nat} (hi : i ∈ l) : listed.getD i false = false := by
 obtain ⟨h1, _, h3⟩ := h
 have := (h3 i).1 hi
 have hlt : i < listed.size := by rw [h1]; exact this.1
 simpa [hlt] using this.2
theorem Closed.set {ops : Array Oper} {listed : Array Bool} (hc : Closed ops listed) {j : Nat} (hp : preOk ops listed j) (hj : j < listed.size) : Closed ops (listed.setIfInBounds j true) := by
 have mono : ∀ k, listed.getD k false = true → (listed.setIfInBounds j true).getD k false = true := by
  intro k hk
  by_cases e : k = j
  ·subst e; simp [hj]
  ·have e' : ¬ j = k := fun h => e h.symm
   simpa [Array.getElem?_setIfInBounds_ne e'] using hk
 intro k hk o ho e he hb
 by_cases ek : k = j
 ·subst ek; exact mono _ (hp o ho e he hb)
 ·have e' : ¬ j = k := fun h => ek h.symm
  have hk' : listed.getD k false = true := by simpa [Array.getElem?_setIfInBounds_ne e'] using hk
  exact mono _ (hc k hk' o ho e he hb)
theorem zkb {ops : Array Oper} {listed : Array Bool} {l : List Nat} (h : Left ops listed l) {j : Nat} (hj : j ∈ Region.ready .any ops listed) : j ∈ l := by
 obtain ⟨h1, h2, _⟩ := zme hj
 exact (h.2.2 j).2 ⟨h1, h2⟩
theorem zle {ops : Array Oper} {listed : Array Bool} {l : List Nat} (hb : backOk ops = true) (h : Left ops listed l) (hr : Region.ready .any ops listed = []) : l = [] := by
 have key : ∀ n i, i ≤ n → i ∉ l := by
  intro n
  induction n with
  | zero =>
   intro i hi hmem
   have hi0 : i = 0 := by omega
   subst hi0
   have hm : 0 ∈ Region.ready .any ops listed := by
    unfold Region.ready
    rw [List.mem_filter]
    have := (h.2.2 0).1 hmem
    refine ⟨by simpa using this.1, ?_⟩
    simp only [this.2, Bool.not_false, Bool.true_and]
    have ho : ops[0]? = some ops[0] := Array.getElem?_eq_getElem this.1
    simp only [ho, Option.map_some, Option.getD_some]
    rw [Array.all_eq_true']
    intro e he
    cases hbe : Region.binds .any e with
    | false => simp
    | true => have := zor hb ho he hbe; omega
   rw [hr] at hm; cases hm
  | succ n ih =>
   intro i hi hmem
   rcases Nat.lt_or_ge i (n + 1) with hlt | hge
   ·exact ih i (by omega) hmem
   ·have hi0 : i = n + 1 := by omega
    subst hi0
    have hm : n + 1 ∈ Region.ready .any ops listed := by
     unfold Region.ready
     rw [List.mem_filter]
     have := (h.2.2 (n + 1)).1 hmem
     refine ⟨by simpa using this.1, ?_⟩
     simp only [this.2, Bool.not_false, Bool.true_and]
     have ho : ops[n + 1]? = some ops[n + 1] := Array.getElem?_eq_getElem this.1
     simp only [ho, Option.map_some, Option.getD_some]
     rw [Array.all_eq_true']
     intro e he
     cases hbe : Region.binds .any e with
     | false => simp
     | true =>
      have hlt := zor hb ho he hbe
      have hn := ih e.on (by omega)
      have hlt2 : e.on < listed.size := by rw [h.1]; have := this.1; omega
      have : listed.getD e.on true = true := by
       cases hg : listed.getD e.on true with
       | true => rfl
       | false => exact absurd ((h.2.2 e.on).2 ⟨by rw [← h.1]; exact hlt2, hg⟩) hn
      simp [hlt2] at this ⊢
      exact this
    rw [hr] at hm; cases hm
 cases l with
 | nil => rfl
 | cons i l => exact absurd (List.mem_cons_self ..) (key i i (Nat.le_refl _))
theorem zxm {P : Program} {G : Glob} {n : Nat} {ops : Array Oper} {base : Nat} {Q : VExit → St → Prop} {ro : Option Nat} {nx0 : Nat} {c0 : Ctx} {W0 : World} (hback : backOk ops = true) (hdst : dstsOk n ops = true) :
  ∀ (fuel : Nat) (segs : List (List Nat × Nat)) (last : List Nat) (listed : Array Bool) (st : St) (c : Ctx) (W : World) (a : Act),
  VDraw P G n ops base Q segs last st → Left ops listed (flat segs last) → (flat segs last).length ≤ fuel → Closed ops listed → barOk ops segs last = true → base + ops.size ≤ st.nx → nx0 ≤ base →
  RoOk G c ro → Sim c W → StRep G c W st a → a.tmps.size = n → (∀ i ∈ flat segs last, ¬ c.used (base + i)) → Ext c0 W0 c W → (∀ β, c.used β → c0.used β ∨ nx0 ≤ β) →
  wpAnyIn (Fw ro) 0 P .any ops (Lift G n nx0 c0 W0 Q) fuel listed a W := by
 intro fuel
 induction fuel with
 | zero =>
  intro segs last listed st c W a h hleft hlen hcl hbar hb hn hro s hr hs hf he hu
  have hnil : flat segs last = [] := List.eq_nil_of_length_eq_zero (by omega)
  cases segs with
  | cons p rest => obtain ⟨l, b⟩ := p; simp [flat] at hnil
  | nil =>
   simp only [flat] at hnil hleft
   subst hnil
   obtain ⟨st', tr, hq, _, hQ⟩ := h
   cases hq
   refine ⟨?_, .normal, c, st, rfl, he, s, hr, hs, hu, by omega, hQ⟩
   cases hrd : Region.ready .any ops listed with
   | nil => rfl
   | cons i l => have := zkb hleft (j := i) (by rw [hrd]; exact List.mem_cons_self ..); cases this
 | succ fuel ih =>
  intro segs last listed st c W a h hleft hlen hcl hbar hb hn hro s hr hs hf he hu
  refine ⟨fun hrd => ?_, fun j hj => ?_⟩
  ·have hnil := zle hback hleft hrd
   cases segs with
   | cons p rest => obtain ⟨l, b⟩ := p; simp [flat] at hnil
   | nil =>
    simp only [flat] at hnil hleft
    subst hnil
    obtain ⟨st', tr, hq, _, hQ⟩ := h
    cases hq
    exact ⟨.normal, c, st, rfl, he, s, hr, hs, hu, by omega, hQ⟩
  ·have hjl := zkb hleft hj
   obtain ⟨hjlt, _, hpre⟩ := zme hj
   have hjlt' : j < listed.size := by rw [hleft.1]; exact hjlt
   have hno : ∀ i ∈ flat segs last, isBefore ops ops.size i j = false := by
    intro i hi
    cases hbf : isBefore ops ops.size i j with
    | false => rfl
    | true =>
     have h1 := zif hcl _ _ _ hpre hbf
     rw [hleft.unlisted hi] at h1
     cases h1
   have hcl' := hcl.set hpre hjlt'
   have hnd := hleft.2.1
   have hlt : ∀ i ∈ flat segs last, i < ops.size := fun i hi => ((hleft.2.2 i).1 hi).1
   have quiet : ∀ (l : List Nat) (tail : List Nat) (st' : St) (tr : Tr) (mk : List Nat → List Nat), QSteps P G ops base l st st' tr → TraceOk ops tr → j ∈ l → (∀ i ∈ l, i ∈ flat segs last) →
     (∀ (s1 : St) (tr' : Tr), QSteps P G ops base (l.erase j) s1 st' tr' → TraceOk ops tr' → ∃ segs' last', VDraw P G n ops base Q segs' last' s1 ∧ flat segs' last' = (flat segs last).erase j ∧ barOk ops segs' last' = true) →
     wpOpIn (Fw ro) 0 P ops (Lift G n nx0 c0 W0 Q) j (wpAnyIn (Fw ro) 0 P .any ops (Lift G n nx0 c0 W0 Q) fuel (listed.setIfInBounds j true)) a W := by
    intro l tail st' tr _ hq htr hjm hsub hgo
    obtain ⟨o, rd, wr, s1, tr', ho, hqj, hqs, htr', _, _⟩ := hq.pull hjm htr (fun i hi => hno i (hsub i hi))
    obtain ⟨segs', last', hd', hflat, hbar'⟩ := hgo s1 tr' hqs htr'
    refine zit ho hqj s hr (by rw [hs]; exact zdq hdst ho) (hf j hjl) (by omega) ?_
    intro a' W' c' he' hs' hr' hsz hu'
    refine ih segs' last' _ s1 c' W' a' hd' (by rw [hflat]; exact hleft.set hjl) ?_ hcl' hbar' (by rw [hqj.nx]; exact hb) hn (hro.ext he') hs' hr' (hsz.trans hs) ?_ (he.trans he') ?_
    ·rw [hflat, List.length_erase_of_mem hjl]; omega
    ·intro i hi hbad
     rw [hflat, hnd.mem_erase_iff] at hi
     rcases hu' _ hbad with h | h
     ·exact hf i hi.2 h
     ·exact hi.1 (by omega)
    ·intro β hβ
     rcases hu' β hβ with h | h
     ·exact hu β h
     ·right; omega
   cases segs with
   | nil =>
    obtain ⟨st', tr, hq, htr, hQ⟩ := h
    refine quiet last [] st' tr id hq htr hjl (fun i hi => hi) fun s1 tr' hqs htr' => ⟨[], last.erase j, ⟨st', tr', hqs, htr', hQ⟩, rfl, rfl⟩
   | cons p rest =>
    obtain ⟨l, b⟩ := p
    obtain ⟨st', tr, hq, htr, hB⟩ := h
    simp only [flat] at hjl hno hnd hlt hleft hlen hf hno
    simp only [barOk, Bool.and_eq_true, List.all_eq_true] at hbar
    by_cases hjm : j ∈ l
    ·refine quiet l [] st' tr id hq htr hjm (fun i hi => by simp only [flat]; exact List.mem_append_left _ hi) fun s1 tr' hqs htr' => ⟨(l.erase j, b) :: rest, last, ⟨st', tr', hqs, htr', hB⟩, ?_, ?_⟩
     ·simp only [flat]
      rw [List.erase_append_left _ hjm]
     ·simp only [barOk, Bool.and_eq_true, List.all_eq_true]
      exact ⟨⟨fun i hi => hbar.1.1 i (List.mem_of_mem_erase hi), hbar.1.2⟩, hbar.2⟩
    ·have hjb : j = b := by
      rcases List.mem_append.1 hjl with h | h
      ·exact absurd h hjm
      ·rcases List.mem_cons.1 h with h | h
       ·exact h
       ·have h1 := hbar.1.2 j h
        rw [hno b (by simp)] at h1; cases h1
     subst hjb
     have hlnil : l = [] := by
      cases l with
      | nil => rfl
      | cons i l' =>
       have h1 := hbar.1.1 i (List.mem_cons_self ..)
       rw [hno i (by simp)] at h1; cases h1
     subst hlnil
     cases hq
     simp only [List.nil_append] at *
     refine hB ro c W a _ _ hro s hr hs (hf j (List.mem_cons_self ..)) (by omega) ?_ ?_
     ·intro a' W' c' s1 he' hs' hr' hsz hu' hnx hk
      have her : (j :: flat rest last).erase j = flat rest last := List.erase_cons_head ..
      refine ih rest last _ s1 c' W' a' hk (by have := hleft.set hjl; rwa [her] at this) (by simp at hlen; omega) hcl' hbar.2 (by omega) hn (hro.ext he') hs' hr' hsz ?_ (he.trans he') ?_
      ·intro i hi hbad
       have hi' := hlt i (List.mem_cons_of_mem _ hi)
       rcases hu' _ hbad with h | h | h
       ·exact hf i (List.mem_cons_of_mem _ hi) h
       ·have : i = j := by omega
        exact (List.nodup_cons.1 hnd).1 (this ▸ hi)
       ·omega
      ·intro β hβ
       rcases hu' β hβ with h | h | h
       ·exact hu β h
       ·right; omega
       ·right; omega
     ·intro a' W' c' s1 x v he' hs' hr' hsz hu' hnx hv hq
      refine ⟨.panic x, c', s1, ⟨v, rfl, hv⟩, he.trans he', hs', hr', hsz, fun β hβ => ?_, by omega, hq⟩
      rcases hu' β hβ with h | h | h
      ·exact hu β h
      ·right; omega
      ·right; omega
theorem VWp.regionDraw {P : Program} {G : Glob} {n id : Nat} {ops : Array Oper} {Q : VExit → St → Prop} {st : St} (hm : P.follows .mixedOrders = true) (segs : List (List Nat × Nat)) (last : List Nat)
  (hstat : (backOk ops && dstsOk n ops && barOk ops segs last && decide (flat segs last = List.range ops.size)) = true) (h : VDraw P G n ops st.nx Q segs last { st with nx := st.nx + ops.size }) :
  VWp P G n (.region id ops true) Q st := by
 intro ro c W a hro s hr hs
 simp only [Bool.and_eq_true, decide_eq_true_eq] at hstat
 obtain ⟨⟨⟨hback, hdst⟩, hbar⟩, hflat⟩ := hstat
 refine wpIn_region_any hm (zxm hback hdst ops.size segs last _ _ c W.drew a h ?_ (by rw [hflat]; simp) ?_ hbar (Nat.le_refl _) (Nat.le_refl _) (hro.ext (Ext.drew c W)) s.drew ?_ hs ?_ (Ext.drew c W) (fun _ h => .inl h))
 ·refine ⟨by simp, by rw [hflat]; exact List.nodup_range, fun i => ?_⟩
  rw [hflat, List.mem_range]
  constructor
  ·intro hi; exact ⟨hi, by simp [hi]⟩
  ·intro hi; exact hi.1
 ·intro j hj
  exfalso
  by_cases hlt : j < ops.size
  ·simp [hlt] at hj
  ·simp [hlt] at hj
 ·have ab : Abides c W c W.drew := zet rfl
  exact ⟨hr.H, fun t => Rep.abides ab _ (hr.tm t), fun β hb => Nat.lt_of_lt_of_le (hr.nx β hb) (Nat.le_add_right _ _), hr.df.abides ab, hr.G.abides ab⟩
 ·intro i _ hb
  have := hr.nx _ hb
  omega
def resV1 (P : Program) (st : St) : ResultVar → Option VV
 | .tmp t => some (st.tm t)
 | .cell a t => match tgt st.H (st.tm a) with
  | some cs => vload P t cs
  | none => none
def resL (P : Program) (st : St) : List ResultVar → Option (List VV)
 | [] => some []
 | r :: rs => match resV1 P st r, resL P st rs with
  | some x, some xs => some (x :: xs)
  | _, _ => none
def resV (P : Program) (st : St) (rs : List ResultVar) : Option VV :=
 match resL P st rs with
 | some [x] => some x
 | some xs => some (.tup xs)
 | none => none
theorem zig {P : Program} {G : Glob} {c : Ctx} {W : World} {st : St} {a : Act} (s : Sim c W) (hr : StRep G c W st a) : ∀ (rs : List ResultVar) {xs : List VV}, resL P st rs = some xs →
  ∃ l, (rs.mapM (fun (r : ResultVar) => (match r with
   | .tmp t => pure (a.tmps.getD t undef)
   | .cell x t => do loadVar t (← asAddr (a.tmps.getD x undef)) : Sem Value))).run P W = .ok l W ∧ RepL c W xs l
 | [], xs, h => by simp [resL] at h; subst h; exact ⟨[], by simp, rfl⟩
 | r :: rs, xs, h => by
  unfold resL at h
  split at h
  ·rename_i x ys hx hys
   cases h
   obtain ⟨l, hl, hrl⟩ := zig s hr rs hys
   have h1 : ∃ v, (match r with
     | .tmp t => pure (a.tmps.getD t undef)
     | .cell x t => do loadVar t (← asAddr (a.tmps.getD x undef)) : Sem Value).run P W = .ok v W ∧ Rep c W x v := by
    cases r with
    | tmp t => simp [resV1] at hx; subst hx; exact ⟨_, rfl, hr.tm t⟩
    | cell p t =>
     simp only [resV1] at hx
     split at hx
     ·rename_i cs hcs
      rw [← hr.H] at hcs
      obtain ⟨b, o, hv, hc⟩ := zafp s hcs (hr.tm p)
      obtain ⟨v, hload, hrv⟩ := zvm hx hc
      exact ⟨v, by simp only [Sem.run_bind]; rw [hv]; simp only [asAddr, Sem.run_pure, Result.andThen_ok, hload], hrv⟩
     ·cases hx
   obtain ⟨v, hv, hrv⟩ := h1
   exact ⟨v :: l, by simp only [List.mapM_cons, Sem.run_bind, hv, Result.andThen_ok, hl, Sem.run_pure], v, l, rfl, hrv, hrl⟩
  ·cases h
theorem zgz {P : Program} {G : Glob} {c : Ctx} {W : World} {st : St} {a : Act} (s : Sim c W) (hr : StRep G c W st a) {fn : Func} {x : VV} (h : resV P st fn.results.toList = some x) :
  ∃ v, (results fn a.tmps).run P W = .ok v W ∧ Rep c W x v := by
 unfold resV at h
 have main : ∀ xs, resL P st fn.results.toList = some xs → ∃ l, (fn.results.mapM (fun (r : ResultVar) => (match r with
   | .tmp t => pure (a.tmps.getD t undef)
   | .cell x t => do loadVar t (← asAddr (a.tmps.getD x undef)) : Sem Value))).run P W = .ok ⟨l⟩ W ∧ RepL c W xs l := by
  intro xs hxs
  obtain ⟨l, hl, hrl⟩ := zig (P := P) s hr _ hxs
  refine ⟨l, ?_, hrl⟩
  rw [Array.mapM_eq_mapM_toList, Sem.run_map, hl]
  rfl
 split at h
 ·rename_i y hy
  cases h
  obtain ⟨l, hl, hrl⟩ := main _ hy
  obtain ⟨u, us, rfl, h1, h2⟩ := hrl
  have : us = [] := h2
  subst this
  refine ⟨u, ?_, h1⟩
  simp only [results, Sem.run_bind]
  exact (congrArg (fun r => Result.andThen r _) hl).trans rfl
 ·rename_i xs hne hxs
  cases h
  obtain ⟨l, hl, hrl⟩ := main _ hxs
  have hlen := hrl.length
  have h1 : l.length ≠ 1 := by
   intro e
   rw [e] at hlen
   cases xs with
   | nil => simp at hlen
   | cons y ys => cases ys with
    | nil => exact hne y rfl
    | cons z zs => simp at hlen
  refine ⟨.tuple ⟨l⟩, ?_, l, rfl, hrl⟩
  simp only [results, Sem.run_bind]
  refine (congrArg (fun r => Result.andThen r _) hl).trans ?_
  show Sem.run P (pure (if h : (⟨l⟩ : Array Value).size = 1 then (⟨l⟩ : Array Value)[0] else .tuple ⟨l⟩)) W = _
  rw [dif_neg (by simpa using h1)]
  rfl
 ·cases h
def argsTm (args : List VV) : Nat → VV := fun t => (args[t]?).getD (.lit undef)
def SealsTo (H : Nat → Option VObj) (x : VV) : PRes → Prop
 | .tree y => ∃ n, sealV H n x = some y
 | .own cs len es => ∃ n β el cs0, (∃ cp, x = .ref β 0 len es cp) ∧ H β = some (.cells el cs0) ∧ sealL (without H β) n cs0 = some cs
 | .panic _ => False
def PurePost (P : Program) (fn : Func) (r : PRes) : VExit → St → Prop
 | .normal, st | .ret, st => st.df = [] ∧ ∃ x, resV P st fn.results.toList = some x ∧ SealsTo st.H x r
 | .panic x, st => st.df = [] ∧ ∃ y n, r = .panic y ∧ sealV st.H n x = some y
 | _, _ => False
theorem zmj {A : Nat → Prop} {W : World} (h : ∀ b, A b → b < W.heap.size) : Sim (PCtx A) W :=
 ⟨fun _ h => by simp [PCtx, Ctx.live] at h, fun _ _ h => by simp [PCtx] at h, fun _ h => by simp [PCtx, Ctx.live] at h, fun _ h => by simp [PCtx, Ctx.live] at h, fun _ _ h => by simp [PCtx, Ctx.live] at h, h⟩
theorem zfx {A : Nat → Prop} {c' : Ctx} {W W' : World} (h : Ext (PCtx A) W c' W') : RowKit.Below W.heap.size W W' :=
 ⟨h.os, h.tape, h.output, h.size, fun k hk => h.keep k hk fun β hl => by simp [PCtx, Ctx.live] at hl⟩
theorem VPure.of_body {P : Program} {G : Glob} {f : FuncId} {fn : Func} {code : Code} {args : List VV} {r : PRes} (hc : Callable P f) (hf : P.funcs[f]? = some fn) (hb : fn.body = some code) (hn : args.length ≤ fn.ntmps)
  (h : VWp P (G.at (some none)) fn.ntmps code (PurePost P fn r) { tm := argsTm args, H := fun _ => none, nx := 0, df := [] }) : VPure P G f args r := by
 refine ⟨hc, fun A W vs hA hG hargs => ?_⟩
 have hlen := hargs.length
 have s := zmj hA
 have hr : StRep (G.at (some none)) (PCtx A) W { tm := argsTm args, H := fun _ => none, nx := 0, df := [] } { tmps := (⟨vs⟩ : Array Value) ++ Array.replicate (fn.ntmps - vs.length) undef, defers := [] } := by
  refine ⟨rfl, fun t => ?_, fun β h => h.elim, rfl, hG⟩
  simp only [argsTm]
  by_cases ht : t < vs.length
  ·obtain ⟨x, hx⟩ : ∃ x, args[t]? = some x := ⟨_, List.getElem?_eq_getElem (by omega)⟩
   obtain ⟨u, hu, hru⟩ := RepL.get t hargs hx
   rw [hx]
   have e : ((⟨vs⟩ : Array Value) ++ Array.replicate (fn.ntmps - vs.length) undef).getD t undef = u := by
    have h1 : ((⟨vs⟩ : Array Value) ++ Array.replicate (fn.ntmps - vs.length) undef)[t]? = some u := by
     rw [Array.getElem?_append_left (by simpa using ht)]
     simpa using hu
    rw [Array.getD_eq_getD_getElem?, h1]; rfl
   rw [e]
   exact hru
  ·have hx : args[t]? = none := List.getElem?_eq_none (by omega)
   rw [hx]
   have e : ((⟨vs⟩ : Array Value) ++ Array.replicate (fn.ntmps - vs.length) undef).getD t undef = undef := by
    rw [Array.getD_eq_getD_getElem?, Array.getElem?_append_right (by simpa using ht), Array.getElem?_replicate]
    split <;> rfl
   rw [e]
   rfl
 refine callsIn_of_wp hf hb trivial (wpIn_mono (h none (PCtx A) W _ rfl s hr (by simp; omega)) ?_) rfl
 rintro e a' W' ⟨ve, c', st', he, hext, hs', hr', hsz, hu, _, hq⟩
 have hbelow := zfx hext
 have hge : ∀ β, c'.live β → W.heap.size ≤ c'.φ β := by
  intro β hl
  rcases Nat.lt_or_ge (c'.φ β) W.heap.size with h | h
  ·obtain ⟨γ, hγ, _⟩ := hext.old β hl h
   simp [PCtx, Ctx.live] at hγ
  ·exact h
 have hA1 : ∀ b, A b → heldIn c' st'.H b := fun b hb => .inl (hext.A b hb)
 have hold : ∀ b, c'.A b → A b ∨ W.heap.size ≤ b := by
  intro b hb
  rcases hext.newA b hb with h | h | ⟨β, h, _⟩
  ·exact .inl h
  ·exact .inr h
  ·simp [PCtx, Ctx.live] at h
 have held : ∀ {H0 : Nat → Option VObj}, SubHeap H0 c'.H → ∀ b, heldIn c' H0 b → A b ∨ W.heap.size ≤ b := by
  intro H0 hsub b hb
  rcases hb with h | ⟨β, h, e⟩
  ·exact hold b h
  ·exact .inr (e ▸ hge β (hsub.live h))
 have heldlt : ∀ {H0 : Nat → Option VObj}, SubHeap H0 c'.H → ∀ b, heldIn c' H0 b → b < W'.heap.size := by
  intro H0 hsub b hb
  rcases hb with h | ⟨β, h, e⟩
  ·exact hs'.ltA b h
  ·exact e ▸ hs'.lt β (hsub.live h)
 have hsub : SubHeap st'.H c'.H := by rw [hr'.H]; exact SubHeap.refl _
 have finish : ∀ {x : VV}, resV P st' fn.results.toList = some x → SealsTo st'.H x r → ∃ v, (results fn a'.tmps).run P W' = .ok v W' ∧
   (∃ A' : Nat → Prop, (∀ b, A b → A' b) ∧ (∀ b, A' b → A b ∨ W.heap.size ≤ b) ∧ (∀ b, A' b → b < W'.heap.size) ∧ RowKit.Below W.heap.size W W' ∧ PRep W A' W' r (.returned v)) := by
  intro x hx hseal
  obtain ⟨v, hv, hrv⟩ := zgz hs' hr' hx
  refine ⟨v, hv, ?_⟩
  cases r with
  | tree y =>
   obtain ⟨n, hn⟩ := hseal
   exact ⟨_, hA1, held hsub, heldlt hsub, hbelow, v, rfl, (zhk hs' hsub n).1 _ _ _ hn hrv⟩
  | own cs len es =>
   obtain ⟨n, β, el0, cs0, ⟨cp, rfl⟩, hβ, hn⟩ := hseal
   have hlive : c'.live β := by simp [Ctx.live, hr'.H, hβ]
   obtain ⟨cap, e1, hcap, hroom, _⟩ := hrv.2 hlive
   have hsub' : SubHeap (without st'.H β) c'.H := fun q o ho => hsub q o (SubHeap.without _ _ q o ho)
   obtain ⟨arr, el, g1, g2, g3, g4, _⟩ := hs'.obj β _ (by rw [hr'.H]; exact hβ)
   have hrl := (zhk hs' hsub' n).2 _ _ _ hn g4
   have hll := hrl.length
   simp at hll
   refine ⟨heldIn c' (without st'.H β), fun b hb => .inl (hext.A b hb), held hsub', heldlt hsub', hbelow, c'.φ β, arr, el, cap, by rw [e1], hcap, hge β hlive, hs'.lt β hlive, ?_, g1, by omega, by omega, ?_⟩
   ·rintro (h | ⟨γ, h, e⟩)
    ·exact hs'.notA β hlive h
    ·have := hs'.inj γ β (hsub'.live h) hlive e
     subst this
     simp [without] at h
   ·rw [show cs.length = cs0.length by omega]; exact hrl
  | panic y => exact hseal.elim
 cases ve with
 | normal =>
  have e1 : e = .normal := he
  subst e1
  obtain ⟨hdf, x, hx, hseal⟩ := hq
  obtain ⟨v, hv, hpost⟩ := finish hx hseal
  have hd := hr'.df
  rw [hdf] at hd
  exact ⟨hd, v, hv, hpost⟩
 | ret =>
  have e1 : e = .ret := he
  subst e1
  obtain ⟨hdf, x, hx, hseal⟩ := hq
  obtain ⟨v, hv, hpost⟩ := finish hx hseal
  have hd := hr'.df
  rw [hdf] at hd
  exact ⟨hd, v, hv, hpost⟩
 | exit id => exact hq.elim
 | goto l => exact hq.elim
 | panic x =>
  obtain ⟨v, e1, hv⟩ := he
  subst e1
  obtain ⟨hdf, y, n, rfl, hn⟩ := hq
  have hd := hr'.df
  rw [hdf] at hd
  exact ⟨hd, _, hA1, held hsub, heldlt hsub, hbelow, v, rfl, (zhk hs' hsub n).1 _ _ _ hn hv⟩
def upd (f : Nat → VV) (d : Nat) (x : VV) : Nat → VV := fun i => if i = d then x else f i
def updH (H : Nat → Option VObj) (d : Nat) (o : VObj) : Nat → Option VObj := fun i => if i = d then some o else H i
theorem StRep.enter {G : Glob} {c : Ctx} {W : World} {H : Nat → Option VObj} {nx k : Nat} {args : List VV} {vs : List Value} (hH : c.H = H) (hnx : ∀ β, c.used β → β < nx) (hG : GOk G c W) (hargs : RepL c W args vs) :
  StRep G c W { tm := argsTm args, H := H, nx := nx, df := [] } { tmps := (⟨vs⟩ : Array Value) ++ Array.replicate (k - vs.length) undef, defers := [] } := by
 have hlen := hargs.length
 refine ⟨hH, fun t => ?_, hnx, rfl, hG⟩
 simp only [argsTm]
 by_cases ht : t < vs.length
 ·obtain ⟨x, hx⟩ : ∃ x, args[t]? = some x := ⟨_, List.getElem?_eq_getElem (by omega)⟩
  obtain ⟨u, hu, hru⟩ := RepL.get t hargs hx
  rw [hx]
  have e : ((⟨vs⟩ : Array Value) ++ Array.replicate (k - vs.length) undef).getD t undef = u := by
   have h1 : ((⟨vs⟩ : Array Value) ++ Array.replicate (k - vs.length) undef)[t]? = some u := by
    rw [Array.getElem?_append_left (by simpa using ht)]
    simpa using hu
   rw [Array.getD_eq_getD_getElem?, h1]; rfl
  rw [e]
  exact hru
 ·have hx : args[t]? = none := List.getElem?_eq_none (by omega)
  rw [hx]
  have e : ((⟨vs⟩ : Array Value) ++ Array.replicate (k - vs.length) undef).getD t undef = undef := by
   rw [Array.getD_eq_getD_getElem?, Array.getElem?_append_right (by simpa using ht), Array.getElem?_replicate]
   split <;> rfl
  rw [e]
  rfl
def OpenPost' (P : Program) (fn : Func) (R Rp : VV → (Nat → Option VObj) → Nat → Prop) : VExit → St → Prop
 | .ret, s => s.df = [] ∧ ∃ x, resV P s fn.results.toList = some x ∧ R x s.H s.nx
 | .normal, s => s.df = [] ∧ ∃ x, resV P s fn.results.toList = some x ∧ R x s.H s.nx
 | .panic x, s => s.df = [] ∧ Rp x s.H s.nx
 | _, _ => False
theorem VOpen.of_body {P : Program} {G : Glob} {f : FuncId} {fn : Func} {code : Code} {args : List VV} {H : Nat → Option VObj} {nx : Nat} {R Rp : VV → (Nat → Option VObj) → Nat → Prop} (hc : Callable P f) (hf : P.funcs[f]? = some fn)
  (hb : fn.body = some code) (hn : args.length ≤ fn.ntmps) (h : VWp P (G.at (some none)) fn.ntmps code (OpenPost' P fn R Rp) { tm := argsTm args, H, nx, df := [] }) : VOpen P G f args H nx R Rp := by
 refine ⟨hc, fun c W vs s hH hnx hG hargs => ?_⟩
 have hlen := hargs.length
 refine callsIn_of_wp hf hb trivial (wpIn_mono (h none c W _ rfl s (StRep.enter (G := G.at (some none)) (k := fn.ntmps) hH hnx hG hargs) (by simp; omega)) ?_) rfl
 rintro e a' W' ⟨ve, c', st', he, hext, hs', hr', hsz, hu, hle, hq⟩
 have finish : ∀ {x : VV}, resV P st' fn.results.toList = some x → R x st'.H st'.nx → ∃ v, (results fn a'.tmps).run P W' = .ok v W' ∧
   ∃ c' H' nx', Ext c W c' W' ∧ Sim c' W' ∧ c'.H = H' ∧ (∀ β, c'.used β → c.used β ∨ nx ≤ β) ∧ (∀ β, c'.used β → β < nx') ∧ nx ≤ nx' ∧
   ((∃ x v', Ending.returned v = .returned v' ∧ Rep c' W' x v' ∧ R x H' nx') ∨ (∃ x v', Ending.returned v = .panicked [{ v := v', recovered := false }] ∧ Rep c' W' x v' ∧ Rp x H' nx')) := by
  intro x hx hR
  obtain ⟨v, hv, hrv⟩ := zgz hs' hr' hx
  exact ⟨v, hv, c', st'.H, st'.nx, hext, hs', hr'.H, hu, hr'.nx, hle, .inl ⟨x, v, rfl, hrv, hR⟩⟩
 cases ve with
 | normal =>
  have e1 : e = .normal := he
  subst e1
  obtain ⟨hdf, x, hx, hR⟩ := hq
  obtain ⟨v, hv, hpost⟩ := finish hx hR
  have hd := hr'.df
  rw [hdf] at hd
  exact ⟨hd, v, hv, hpost⟩
 | ret =>
  have e1 : e = .ret := he
  subst e1
  obtain ⟨hdf, x, hx, hR⟩ := hq
  obtain ⟨v, hv, hpost⟩ := finish hx hR
  have hd := hr'.df
  rw [hdf] at hd
  exact ⟨hd, v, hv, hpost⟩
 | exit id => exact hq.elim
 | goto l => exact hq.elim
 | panic x =>
  obtain ⟨v, e1, hv⟩ := he
  subst e1
  obtain ⟨hdf, hR⟩ := hq
  have hd := hr'.df
  rw [hdf] at hd
  exact ⟨hd, c', st'.H, st'.nx, hext, hs', hr'.H, hu, hr'.nx, hle, .inr ⟨x, v, rfl, hv, hR⟩⟩
theorem SStep.open {P : Program} {G : Glob} {n : Nat} {ops : Array Oper} {base i : Nat} {o : Oper} {st : St} {K : St → Prop} {Qp : VV → St → Prop} {f : FuncId} {args : List VV} (ho : ops[i]? = some o) (hd : dstsOk n ops = true)
  (hw : wantV ops st.tm o = some true) (hf : callee? G st o.op = some (f, args))
  (hv : VOpen P G f args st.H st.nx (fun x H' nx' => K { st.put o.dst x with H := H', nx := nx' }) (fun x H' nx' => Qp x { st with H := H', nx := nx' })) : SStep P G n ops base i st K Qp := by
 intro ro c W a Kr Q hro s hr hs hγ hnx k kp
 unfold wpOpIn
 simp only [ho]
 rw [if_pos (zbk hr.tm hw)]
 obtain ⟨vs, hvs, hrun, hnd⟩ := zei hr hf hv.1
 refine ⟨fun _ _ => trivial, ?_⟩
 rw [Oper.semAt_eq _ _ _ hnd, hrun, Oper.uponIn_enter]
 refine ⟨fun h => (by cases h), zdx ((hv.2 c W vs s hr.H hr.nx hr.G hvs).mono ?_)⟩
 rintro e W' ⟨c', H', nx', hext, hs', hH', hu, hu', hle, hres⟩
 have ab := hext.abides s
 rcases hres with ⟨x, v, rfl, hx, hR⟩ | ⟨x, v, rfl, hx, hR⟩
 ·have h0 : StRep G c' W' { st.put o.dst x with H := H', nx := nx' } (a.put o.dst v) := by
   refine ⟨hH', ?_, ?_, ?_, hr.G.abides ab⟩
   ·have h2 := zoz (st := st) (dst := o.dst) (fun t => Rep.abides ab _ (hr.tm t)) (fun d hd' => by rw [hs]; exact zdq hd ho d hd') hx
    exact h2
   ·exact hu'
   ·rw [zgs]
    cases o.dst <;> exact hr.df.abides ab
  exact k _ W' c' _ hext hs' h0 (by simpa using hs) (fun β hb => (hu β hb).imp id .inr) hle hR
 ·have h0 : StRep G c' W' { st with H := H', nx := nx' } a := ⟨hH', fun t => Rep.abides ab _ (hr.tm t), hu', hr.df.abides ab, hr.G.abides ab⟩
  exact kp _ W' c' _ x v hext hs' h0 hs (fun β hb => (hu β hb).imp id .inr) hle hx hR
end Go.V
end
section
namespace Go.V
open Go
theorem RepL.of_get {c : Ctx} {W : World} : ∀ {xs : List VV} {l : List Value}, l.length = xs.length → (∀ (i : Nat) (x : VV) (v : Value), xs[i]? = some x → l[i]? = some v → Rep c W x v) → RepL c W xs l
 | [], [], _, _ => rfl
 | [], _ :: _, h, _ => by simp at h
 | _ :: _, [], h, _ => by simp at h
 | x :: xs, v :: l, h, h' => ⟨v, l, rfl, h' 0 x v rfl rfl, RepL.of_get (by simpa using h) fun i y u hy hu => h' (i + 1) y u (by simpa using hy) (by simpa using hu)⟩
def tmL (n : Nat) (tm : Nat → VV) : List VV := (List.range n).map tm
theorem zaly {c : Ctx} {W : World} {tm : Nat → VV} {arr : Array Value} (h : ∀ t, Rep c W (tm t) (arr.getD t undef)) : RepL c W (tmL arr.size tm) arr.toList := by
 refine RepL.of_get (by simp [tmL]) fun i x v hx hv => ?_
 have hi : i < arr.size := by
  rcases Nat.lt_or_ge i arr.size with h | h
  ·exact h
  ·rw [List.getElem?_eq_none (by simpa using h)] at hv; cases hv
 have h1 := h i
 simp [tmL, hi] at hx
 subst hx
 have : arr.getD i undef = v := by
  have hv' : arr[i]? = some v := by simpa using hv
  rw [Array.getD_eq_getD_getElem?, hv']; rfl
 rwa [this] at h1
def loopRec (s : LoopState) (pe : Option Code) (fn : FuncId) (l : List Value) (ps : Array Tmp) (as bo : Code) (b : Nat) : Loop :=
 { state := s, pending := pe, fn, tmps := ⟨l⟩, params := ps, assign := as, body := bo, defers := b }
section record
variable {P : Program} {W W' : World} {b : Nat} {r : Loop}
theorem zis (h : (getObj b).run P W = .ok (.loop r) W) : (Instr.getLoop b).run P W = .ok r W := by
 simp [Instr.getLoop, Sem.run_bind, h]
theorem zwj (h : (getObj b).run P W = .ok (.loop r) W) (hb : r.state ≠ .busy) (hset : (setObj b (.loop { r with state := .exhausted })).run P W = .ok () W') : (Instr.endLoop b).run P W = .ok r.pending W' := by
 have hb' : (r.state == .busy) = false := by simpa using hb
 unfold Instr.endLoop
 rw [Sem.run_bind, zis h, Result.andThen_ok]
 simp [hb', hset]
theorem zpj (h : (getObj b).run P W = .ok (.loop r) W) (hb : r.state = .ready) (hset : (setObj b (.loop { r with state := .busy })).run P W = .ok () W') : (Instr.beginRound b).run P W = .ok () W' := by
 unfold Instr.beginRound
 rw [Sem.run_bind, zis h, Result.andThen_ok]
 simp [hb, hset]
theorem ztn {jump : Option Code} (h : (getObj b).run P W = .ok (.loop r) W) (hset : (setObj b (.loop { r with state := if jump.isNone then .ready else .done, pending := jump })).run P W = .ok () W') :
  (Instr.endRound b jump).run P W = .ok (.bool jump.isNone) W' := by
 unfold Instr.endRound
 rw [Sem.run_bind, zis h, Result.andThen_ok, Sem.run_bind, hset]
 rfl
end record
theorem zlq {c : Ctx} {W : World} {P : Program} (s : Sim c W) {β : Nat} {s0 : LoopState} {pe : Option Code} {tm : List VV} {ps : Array Tmp} {as bo : Code} {df : Nat} (h : c.H β = some (.loop s0 pe tm ps as bo df)) :
  ∃ l fn, RepL c W tm l ∧ (getObj (c.φ β)).run P W = .ok (.loop (loopRec s0 pe fn l ps as bo (c.φ df))) W ∧ ∀ s1 pe1, ∃ W', (setObj (c.φ β) (.loop (loopRec s1 pe1 fn l ps as bo (c.φ df)))).run P W = .ok () W' ∧
   Ext c W (c.upd β (.loop s1 pe1 tm ps as bo df)) W' ∧ Sim (c.upd β (.loop s1 pe1 tm ps as bo df)) W' := by
 have hl : c.live β := by simp [Ctx.live, h]
 obtain ⟨l, fn, h1, h2, h3, h4⟩ := s.obj β _ h
 refine ⟨l, fn, h2, by simp [getObj, Sem.run, h1, loopRec], fun s1 pe1 => ?_⟩
 have hset := zik (P := P) (o' := .loop (loopRec s1 pe1 fn l ps as bo (c.φ df))) h1 (by intros; simp)
 have hext : Ext c W (c.upd β (.loop s1 pe1 tm ps as bo df)) { W with heap := W.heap.setIfInBounds (c.φ β) (.loop (loopRec s1 pe1 fn l ps as bo (c.φ df))) } := Ext.upd hl (But.setObj W _ _)
 refine ⟨_, hset, hext, Sim.upd s hl (But.setObj W _ _) (fun ⟨ds, hd⟩ => by rw [h] at hd; cases hd) ⟨l, fn, zgr h1, RepL.abides (hext.abides s) _ h2, h3, ?_⟩⟩
 obtain ⟨ds, hd⟩ := h4
 refine ⟨ds, ?_⟩
 have : df ≠ β := by intro e; subst e; rw [h] at hd; cases hd
 simpa [Ctx.upd, this] using hd
theorem zagk {c : Ctx} {W : World} (s : Sim c W) {γ : Nat} (hγ : ¬ c.used γ) {s0 : LoopState} {pe : Option Code} {fn : FuncId} {tm : List VV} {l : List Value} {ps : Array Tmp} {as bo : Code} {df : Nat} (htm : RepL c W tm l)
  (hu : c.used df) (hd : isDef c.H df) (hne : df ≠ γ) :
  Ext c W (c.push c.H γ (.loop s0 pe tm ps as bo df) W.heap.size 0) (W.alloc (.loop (loopRec s0 pe fn l ps as bo (c.φ df)))) ∧ Sim (c.push c.H γ (.loop s0 pe tm ps as bo df) W.heap.size 0) (W.alloc (.loop (loopRec s0 pe fn l ps as bo (c.φ df)))) := by
 have ab : Abides c W (c.push c.H γ (.loop s0 pe tm ps as bo df) W.heap.size 0) (W.alloc (.loop (loopRec s0 pe fn l ps as bo (c.φ df)))) := zfs s (SubHeap.refl _) hγ (.inl (Nat.le_refl _)) (But.alloc W _)
 refine znj s hγ ⟨l, fn, ?_, RepL.abides ab _ htm, .inr hu, ?_⟩
 ·simp only [Ctx.push, if_true, if_neg hne]
  exact zhg _ _
 ·obtain ⟨ds, hd⟩ := hd
  exact ⟨ds, by simpa [Ctx.push, hne] using hd⟩
def jumpK (P : Program) (G : Glob) (n : Nat) (Q : VExit → St → Prop) : Option Code → St → Prop
 | none, st => Q .normal st
 | some c, st => VWp P G n c Q st
def RangeEnd (P : Program) (G : Glob) (n : Nat) (Q : VExit → St → Prop) (st : St) (H' : Nat → Option VObj) (nx' : Nat) : Prop :=
 ∃ s pe tm ps as bo df, H' (st.nx + 1) = some (.loop s pe tm ps as bo df) ∧ s ≠ .busy ∧ jumpK P G n Q pe { st with H := updH H' (st.nx + 1) (.loop .exhausted pe tm ps as bo df), nx := nx', df := .coll st.nx :: st.df }
theorem VWp.rangeFunc {P : Program} {G : Glob} {n : Nat} {Q : VExit → St → Prop} {st : St} {g : Operand} {ps : Array Tmp} {as bo : Code} {f : FuncId} {first captured : List VV} (hrg : G.rg = some none)
  (hg : st.ρ G g = .fn (.func f) first captured)
  (h : VOpen P G f (first ++ [.yl (st.nx + 1)] ++ captured) (updH (updH st.H st.nx (.deferred (some []))) (st.nx + 1) (.loop .ready none (tmL n st.tm) ps as bo st.nx)) (st.nx + 2)
   (fun _ H' nx' => RangeEnd P G n Q st H' nx') (fun x H' nx' => Q (.panic x) { st with H := H', nx := nx', df := .coll st.nx :: st.df })) : VWp P G n (.rangeFunc g ps as bo) Q st := by
 intro ro c W a hro s hr hs
 have hro' : ro = none := by unfold RoOk at hro; rw [hrg] at hro; exact hro
 subst hro'
 refine wpIn_rangeFunc fun fn _ => ?_
 have hv := h
 have hu0 : ¬ c.used st.nx := fun hb => Nat.lt_irrefl _ (hr.nx _ hb)
 obtain ⟨e1, s1⟩ := znj (rm := 0) (o := .deferred (some [])) (ob := .deferred (some [])) s hu0 ⟨rfl, by simp only [Ctx.push, if_true]; exact zhg _ _⟩
 have hu1 : ¬ (c.push c.H st.nx (.deferred (some [])) W.heap.size 0).used (st.nx + 1) := by
  rintro (hb | hb)
  ·omega
  ·have := hr.nx _ hb; omega
 have ab1 := e1.abides s
 have htm : RepL (c.push c.H st.nx (.deferred (some [])) W.heap.size 0) (W.alloc (.deferred (some []))) (tmL n st.tm) a.tmps.toList := by
  rw [← hs]; exact zaly fun t => Rep.abides ab1 _ (hr.tm t)
 have hφ : (c.push c.H st.nx (.deferred (some [])) W.heap.size 0).φ st.nx = W.heap.size := by simp [Ctx.push]
 generalize hc1 : c.push c.H st.nx (.deferred (some [])) W.heap.size 0 = c1 at *
 generalize hW1 : W.alloc (.deferred (some [])) = W1 at *
 have hH1 : c1.H = updH st.H st.nx (.deferred (some [])) := by rw [← hc1, ← hr.H]; rfl
 obtain ⟨e2, s2⟩ := zagk s1 hu1 htm (s0 := .ready) (pe := none) (fn := fn) (ps := ps) (as := as) (bo := bo) (df := st.nx) (by rw [← hc1]; exact .inl rfl) ⟨_, by rw [hH1]; simp [updH]; rfl⟩ (by omega)
 rw [hφ] at e2 s2
 have hH2 : (c1.push c1.H (st.nx + 1) (.loop .ready none (tmL n st.tm) ps as bo st.nx) W1.heap.size 0).H = updH (updH st.H st.nx (.deferred (some []))) (st.nx + 1) (.loop .ready none (tmL n st.tm) ps as bo st.nx) := by
  rw [← hH1]; rfl
 have hy : Rep (c1.push c1.H (st.nx + 1) (.loop .ready none (tmL n st.tm) ps as bo st.nx) W1.heap.size 0) (W1.alloc (.loop (loopRec .ready none fn a.tmps.toList ps as bo W.heap.size))) (.yl (st.nx + 1)) (.func (.yield W1.heap.size) #[] #[]) :=
  ⟨⟨.inl rfl, rfl⟩, fun _ => by simp [Ctx.push]⟩
 have hused2 : ∀ β, (c1.push c1.H (st.nx + 1) (.loop .ready none (tmL n st.tm) ps as bo st.nx) W1.heap.size 0).used β → c.used β ∨ β = st.nx ∨ β = st.nx + 1 := by
  rintro β (hb | hb)
  ·exact .inr (.inr hb)
  ·rw [← hc1] at hb
   rcases hb with hb | hb
   ·exact .inr (.inl hb)
   ·exact .inl hb
 have hφ2 : (c1.push c1.H (st.nx + 1) (.loop .ready none (tmL n st.tm) ps as bo st.nx) W1.heap.size 0).φ (st.nx + 1) = W1.heap.size := by simp [Ctx.push]
 have hφ3 : (c1.push c1.H (st.nx + 1) (.loop .ready none (tmL n st.tm) ps as bo st.nx) W1.heap.size 0).φ st.nx = W.heap.size := by simp [Ctx.push, hφ]
 have hus : (c1.push c1.H (st.nx + 1) (.loop .ready none (tmL n st.tm) ps as bo st.nx) W1.heap.size 0).used (st.nx + 1) := .inl rfl
 have hus3 : (c1.push c1.H (st.nx + 1) (.loop .ready none (tmL n st.tm) ps as bo st.nx) W1.heap.size 0).used st.nx := .inr (by rw [← hc1]; exact .inl rfl)
 generalize hc2 : c1.push c1.H (st.nx + 1) (.loop .ready none (tmL n st.tm) ps as bo st.nx) W1.heap.size 0 = c2 at *
 generalize hW2 : W1.alloc (.loop (loopRec .ready none fn a.tmps.toList ps as bo W.heap.size)) = W2 at *
 have e02 := e1.trans e2
 have ab2 := e02.abides s
 have hgr := Rep.abides ab2 _ (hr.eval g)
 rw [hg] at hgr
 obtain ⟨l1, l2, hgv, hl1, hl2⟩ := hgr
 have henter : (Instr.enterLoop fn a.tmps ps as bo none).run P W = .ok (W1.heap.size, [{ target := .collected W.heap.size, args := #[] }]) W2 := by
  rw [← hW2, ← hW1]
  simp only [Instr.enterLoop, Sem.run_bind, run_newObj, Sem.run_pure, Result.andThen_ok]
  rfl
 refine ⟨W1.heap.size, [{ target := .collected W.heap.size, args := #[] }], W2, { target := .fn (.func f) ⟨l2⟩, args := ⟨l1⟩ ++ #[.func (.yield W1.heap.size) #[] #[]] }, W2, f, ⟨l1 ++ [.func (.yield W1.heap.size) #[] #[]] ++ l2⟩, W2, henter, ?_, fun _ _ => trivial, ?_, (fun hd => by cases hd), ?_⟩
 ·simp only [resolve, Deferred.ofValue, hgv, Sem.run_pure]
  simp [Act.eval]
 ·have := hv.1 ⟨l1 ++ [.func (.yield W1.heap.size) #[] #[]] ++ l2⟩ W2
  rw [← this]
  simp only [invoke]
  congr 2
  apply Array.ext'
  simp
 ·have hG2 : GOk G c2 W2 := hr.G.abides ab2
  have hcall := hv.2 c2 W2 (l1 ++ [.func (.yield W1.heap.size) #[] #[]] ++ l2) s2 hH2 (fun β hb => by
   rcases hused2 β hb with hb | hb | hb
   ·have := hr.nx β hb; omega
   ·omega
   ·omega) hG2 (RepL.append (RepL.append hl1 ⟨_, [], rfl, hy, rfl⟩) hl2)
  refine zdx (hcall.mono ?_)
  rintro e W' ⟨c', H', nx', hext, hs', hH', hu, hu', hle, hres⟩
  have eall := e02.trans hext
  have aball := eall.abides s
  have husd : ∀ β, c'.used β → c.used β ∨ st.nx ≤ β := by
   intro β hb
   rcases hu β hb with hb | hb
   ·rcases hused2 β hb with hb | hb | hb
    ·exact .inl hb
    ·right; omega
    ·right; omega
   ·right; omega
  have hdf : ∀ (c3 : Ctx) (W3 : World), Abides c' W' c3 W3 → RepDs c3 W3 (.coll st.nx :: st.df) ([{ target := .collected W.heap.size, args := #[] }] ++ a.defers) := by
   intro c3 W3 ab3
   refine ⟨_, _, rfl, ⟨ab3.used _ (hext.used _ hus3), fun hl => ?_⟩, RepDs.abides ab3 (hr.df.abides aball)⟩
   have hl' := ab3.live _ (hext.used _ hus3) hl
   rw [ab3.φ _ (hext.used _ hus3) hl, hext.φ _ hus3 hl', hφ3]
  rcases hres with ⟨x, v, rfl, hx, s', pe, tm', ps', as', bo', df', hloop, hnb, hj⟩ | ⟨x, v, rfl, hx, hR⟩
  ·have hl : c'.live (st.nx + 1) := by simp [Ctx.live, hH', hloop]
   have hφ' : c'.φ (st.nx + 1) = W1.heap.size := by rw [hext.φ _ hus hl, hφ2]
   obtain ⟨l, fn', hl1, hget, hset⟩ := zlq (P := P) hs' (by rw [hH']; exact hloop)
   obtain ⟨W3, hset3, e3, s3⟩ := hset .exhausted pe
   have ab3 := e3.abides hs'
   have hend : (Instr.endLoop W1.heap.size).run P W' = .ok pe W3 := by
    rw [← hφ']
    exact zwj hget hnb hset3
   have hr3 : StRep G (c'.upd (st.nx + 1) (.loop .exhausted pe tm' ps' as' bo' df')) W3 { st with H := updH H' (st.nx + 1) (.loop .exhausted pe tm' ps' as' bo' df'), nx := nx', df := .coll st.nx :: st.df } { a with defers := [{ target := .collected W.heap.size, args := #[] }] ++ a.defers } := by
    refine ⟨by rw [← hH']; rfl, fun t => Rep.abides ab3 _ (Rep.abides aball _ (hr.tm t)), fun β hb => hu' β hb, hdf _ _ ab3, (hr.G.abides aball).abides ab3⟩
   refine ⟨pe, W3, hend, ?_⟩
   have e03 := eall.trans e3
   cases pe with
   | none => exact ⟨.normal, _, _, rfl, e03, s3, hr3, hs, fun β hb => husd β hb, (show st.nx ≤ nx' by omega), hj⟩
   | some cd =>
    have hwp := hj none _ W3 _ (show RoOk G _ none by unfold RoOk; rw [hrg]) s3 hr3 hs
    exact wpIn_mono hwp fun _ _ _ hl => hl.of_ext e03 (fun β hb => husd β hb) (show st.nx ≤ nx' by omega)
  ·have hr3 : StRep G c' W' { st with H := H', nx := nx', df := .coll st.nx :: st.df } { a with defers := [{ target := .collected W.heap.size, args := #[] }] ++ a.defers } :=
    ⟨hH', fun t => Rep.abides aball _ (hr.tm t), fun β hb => hu' β hb, hdf _ _ ((Ext.refl c' W').abides hs'), hr.G.abides aball⟩
   exact ⟨.panic x, c', _, ⟨v, rfl, hx⟩, eall, hs', hr3, hs, husd, (show st.nx ≤ nx' by omega), hR⟩
end Go.V
end
section
namespace Go.V
open Go
def roundTm (tm : List VV) (ps : List Tmp) (args : List VV) : List VV := (ps.zip args).foldl (fun l p => l.set p.1 p.2) tm
theorem zpc {c : Ctx} {W : World} : ∀ {ps : List Tmp} {args tm : List VV} {vs l : List Value}, RepL c W args vs → RepL c W tm l →
  RepL c W (roundTm tm ps args) ((ps.zip vs).foldl (fun l p => l.set p.1 p.2) l)
 | [], _, _, _, _, _, h => h
 | _ :: _, [], _, _, _, ha, h => by
  simp [RepL] at ha; subst ha; simpa [roundTm] using h
 | p :: ps, x :: args, tm, _, l, ⟨v, vs, e, h1, h2⟩, h => by
  subst e
  exact zpc (ps := ps) h2 (RepL.set p h h1)
theorem zlb : ∀ (ps : List (Tmp × Value)) (l : List Value), ps.foldl (fun (t : Array Value) p => t.setIfInBounds p.1 p.2) (⟨l⟩ : Array Value) = ⟨ps.foldl (fun l p => l.set p.1 p.2) l⟩
 | [], _ => rfl
 | p :: ps, l => by
  simp only [List.foldl_cons]
  rw [show (⟨l⟩ : Array Value).setIfInBounds p.1 p.2 = ⟨l.set p.1 p.2⟩ by apply Array.ext'; simp]
  exact zlb ps _
theorem zael {P : Program} {W : World} {b : Nat} {r : Loop} {l vs : List Value} (h : (getObj b).run P W = .ok (.loop r) W) (hl : r.tmps = ⟨l⟩) (hn : vs.length = r.params.size) :
  (Instr.yield b ⟨vs⟩).run P W = .ok (.round b r.fn ⟨(r.params.toList.zip vs).foldl (fun l p => l.set p.1 p.2) l⟩ r.assign r.body) W := by
 unfold Instr.yield
 rw [Sem.run_bind, zis h, Result.andThen_ok]
 have : (⟨vs⟩ : Array Value).size = r.params.size := by simpa using hn
 simp only [this, ne_eq, not_true_eq_false, if_false, Sem.run_pure, hl]
 have e : (r.params.zip (⟨vs⟩ : Array Value)).foldl (fun tmps (x : Tmp × Value) => tmps.setIfInBounds x.1 x.2) (⟨l⟩ : Array Value) = ⟨(r.params.toList.zip vs).foldl (fun l p => l.set p.1 p.2) l⟩ := by
  rw [← Array.foldl_toList, Array.toList_zip]
  exact zlb _ _
 show Result.ok (Next.round b r.fn ((r.params.zip (⟨vs⟩ : Array Value)).foldl (fun tmps (x : Tmp × Value) => tmps.setIfInBounds x.1 x.2) (⟨l⟩ : Array Value)) r.assign r.body) W = _
 rw [e]
def RoundDone (β : Nat) (o : Oper) (st : St) (K : St → Prop) (jump : Option Code) (s2 : St) : Prop :=
 ∃ s pe tm ps as bo df, s2.H β = some (.loop s pe tm ps as bo df) ∧
  K { st.put o.dst (.lit (.bool jump.isNone)) with H := updH s2.H β (.loop (if jump.isNone then .ready else .done) jump tm ps as bo df), nx := s2.nx }
def RoundEnd (β : Nat) (o : Oper) (st : St) (K : St → Prop) : VExit → St → Prop
 | .normal, s2 => RoundDone β o st K none s2
 | .ret, s2 => RoundDone β o st K (some .ret) s2
 | .exit id, s2 => RoundDone β o st K (some (.exit id)) s2
 | .goto l, s2 => RoundDone β o st K (some (.goto l)) s2
 | .panic _, _ => False
def RoundStart (P : Program) (G : Glob) (n β : Nat) (bo : Code) (o : Oper) (st : St) (K : St → Prop) : VExit → St → Prop
 | .normal, s1 => ∃ pe tm ps as bo' df, s1.H β = some (.loop .ready pe tm ps as bo' df) ∧
   VWp P (G.at (some (some β))) n bo (RoundEnd β o st K) { s1 with H := updH s1.H β (.loop .busy pe tm ps as bo' df) }
 | _, _ => False
theorem SStep.yield {P : Program} {G : Glob} {n : Nat} {ops : Array Oper} {base i : Nat} {o : Oper} {st : St} {K : St → Prop} {Qp : VV → St → Prop} {k : Call} {fo : Operand} {β : Nat} {pe : Option Code} {tm : List VV} {ps : Array Tmp} {as bo : Code} {df : Nat}
  (ho : ops[i]? = some o) (hd : dstsOk n ops = true) (hw : wantV ops st.tm o = some true) (hop : o.op = .call k) (hk : k.callee = .value fo) (hf : st.ρ G fo = .yl β) (hβ : st.H β = some (.loop .ready pe tm ps as bo df)) (hn : k.args.size = ps.size)
  (h : VWp P (G.at (some (some β))) tm.length as (RoundStart P G tm.length β bo o st K) { tm := argsTm (roundTm tm ps.toList (k.args.toList.map (st.ρ G))), H := st.H, nx := st.nx, df := [] }) : SStep P G n ops base i st K Qp := by
 intro ro c W a Kr Q hro s hr hs hγ hnx kk kp
 unfold wpOpIn
 simp only [ho]
 rw [if_pos (zbk hr.tm hw)]
 refine ⟨fun _ _ => trivial, ?_⟩
 have hβc : c.H β = some (.loop .ready pe tm ps as bo df) := by rw [hr.H]; exact hβ
 have hl : c.live β := by simp [Ctx.live, hβc]
 have hub : c.used β := s.used β hl
 have hfr := hr.eval fo
 rw [hf] at hfr
 have hfv := hfr.2 hl
 obtain ⟨l, fn, hl1, hget, _⟩ := zlq (P := P) s hβc
 have hargs := zpn hr.eval k.args.toList
 have hyield : (Instr.yield (c.φ β) (k.args.map a.eval)).run P W = .ok (.round (c.φ β) fn ⟨(ps.toList.zip (k.args.toList.map a.eval)).foldl (fun l p => l.set p.1 p.2) l⟩ as bo) W := by
  have e : k.args.map a.eval = ⟨k.args.toList.map a.eval⟩ := by apply Array.ext'; simp
  rw [e]
  exact zael hget rfl (by simpa [loopRec] using hn)
 have hrun : (execOp a.eval o).run P W = .ok (.round (c.φ β) fn ⟨(ps.toList.zip (k.args.toList.map a.eval)).foldl (fun l p => l.set p.1 p.2) l⟩ as bo) W := by
  rw [← hyield]
  have e2 : (#[] ++ k.args.map a.eval : Array Value) = k.args.map a.eval := by simp
  simp only [execOp, hop, resolve, hk, Deferred.ofValue, hfv, pure_bind, invoke, e2]
 rw [Oper.semAt_eq _ _ _ (by rw [hop]; simp), hrun, Oper.uponIn_round]
 refine ⟨fun h => (by cases h), ?_⟩
 have hrt := zpc (ps := ps.toList) hargs hl1
 have hlen : ((ps.toList.zip (k.args.toList.map a.eval)).foldl (fun l p => l.set p.1 p.2) l).length = tm.length := by
  have : ∀ (q : List (Tmp × Value)) (l : List Value), (q.foldl (fun l p => l.set p.1 p.2) l).length = l.length := by
   intro q
   induction q with
   | nil => intro l; rfl
   | cons p q ih => intro l; simp only [List.foldl_cons]; rw [ih]; simp
  rw [this, hl1.length]
 generalize hvs : (ps.toList.zip (k.args.toList.map a.eval)).foldl (fun l p => l.set p.1 p.2) l = vs at *
 have hr0 : StRep (G.at (some (some β))) c W { tm := argsTm (roundTm tm ps.toList (k.args.toList.map (st.ρ G))), H := st.H, nx := st.nx, df := [] } { tmps := ⟨vs⟩, defers := [] } := by
  have := StRep.enter (G := G.at (some (some β))) (k := vs.length) hr.H hr.nx hr.G hrt
  simpa using this
 have hro0 : RoOk (G.at (some (some β))) c (some (c.φ β)) := ⟨hub, fun _ => rfl⟩
 refine roundIn_of_wpIn (F := Fw ro) trivial ?_
 show as.wpIn (Fw (some (c.φ β))) 0 P _ _ _
 refine wpIn_mono (h (some (c.φ β)) c W _ hro0 s hr0 (by simpa using hlen)) ?_
 rintro e a1 W1 ⟨ve, c1, s1, he, hext1, hs1, hr1, hsz1, hu1, hle1, hq⟩
 cases ve with
 | exit id => exact hq.elim
 | goto l => exact hq.elim
 | ret => exact hq.elim
 | panic x => exact hq.elim
 | normal =>
  have e1 : e = .normal := he
  subst e1
  obtain ⟨pe1, tm1, ps1, as1, bo1, df1, hb1, hbody⟩ := hq
  have hb1c : c1.H β = some (.loop .ready pe1 tm1 ps1 as1 bo1 df1) := by rw [hr1.H]; exact hb1
  have hl1' : c1.live β := by simp [Ctx.live, hb1c]
  have hφ1 : c1.φ β = c.φ β := hext1.φ β hub hl1'
  obtain ⟨l1, fn1, hll1, hget1, hset1⟩ := zlq (P := P) hs1 hb1c
  obtain ⟨W2, hset2, hext2, hs2⟩ := hset1 .busy pe1
  have ab2 := hext2.abides hs1
  refine ⟨W2, ?_, ?_⟩
  ·rw [← hφ1]; exact zpj hget1 rfl hset2
  have hro2 : RoOk (G.at (some (some β))) (c1.upd β (.loop .busy pe1 tm1 ps1 as1 bo1 df1)) (some (c.φ β)) := (hro0.ext hext1).ext hext2
  have hr2 : StRep (G.at (some (some β))) (c1.upd β (.loop .busy pe1 tm1 ps1 as1 bo1 df1)) W2 { s1 with H := updH s1.H β (.loop .busy pe1 tm1 ps1 as1 bo1 df1) } a1 :=
   ⟨by rw [← hr1.H]; rfl, fun t => Rep.abides ab2 _ (hr1.tm t), hr1.nx, hr1.df.abides ab2, hr1.G.abides ab2⟩
  show bo.wpIn (Fw (some (c.φ β))) 0 P _ _ _
  refine wpIn_mono (hbody (some (c.φ β)) _ W2 a1 hro2 hs2 hr2 hsz1) ?_
  rintro e3 a3 W3 ⟨ve3, c3, s3, he3, hext3, hs3, hr3, hsz3, hu3, hle3, hq3⟩
  have e13 := (hext1.trans hext2).trans hext3
  have done : ∀ jump, RoundDone β o st K jump s3 → ∃ v w', (Instr.endRound (c.φ β) jump).run P W3 = .ok v w' ∧ Kr (a.put o.dst v) w' := by
   rintro jump ⟨s4, pe4, tm4, ps4, as4, bo4, df4, hb4, hK⟩
   have hb4c : c3.H β = some (.loop s4 pe4 tm4 ps4 as4 bo4 df4) := by rw [hr3.H]; exact hb4
   have hl4 : c3.live β := by simp [Ctx.live, hb4c]
   have hφ3 : c3.φ β = c.φ β := e13.φ β hub hl4
   obtain ⟨l4, fn4, hll4, hget4, hset4⟩ := zlq (P := P) hs3 hb4c
   obtain ⟨W4, hset5, hext4, hs4⟩ := hset4 (if jump.isNone then .ready else .done) jump
   have e14 := e13.trans hext4
   have ab4 := e14.abides s
   refine ⟨.bool jump.isNone, W4, ?_, ?_⟩
   ·rw [← hφ3]; exact ztn hget4 hset5
   ·have h0 : StRep G (c3.upd β (.loop (if jump.isNone then .ready else .done) jump tm4 ps4 as4 bo4 df4)) W4
      { st.put o.dst (.lit (.bool jump.isNone)) with H := updH s3.H β (.loop (if jump.isNone then .ready else .done) jump tm4 ps4 as4 bo4 df4), nx := s3.nx } (a.put o.dst (.bool jump.isNone)) := by
     refine ⟨by rw [← hr3.H]; rfl, ?_, hr3.nx, ?_, hr.G.abides ab4⟩
     ·exact zoz (st := st) (dst := o.dst) (fun t => Rep.abides ab4 _ (hr.tm t)) (fun d hd' => by rw [hs]; exact zdq hd ho d hd') rfl
     ·rw [zgs]
      cases o.dst <;> exact hr.df.abides ab4
    refine kk _ W4 _ _ e14 hs4 h0 (by simpa using hs) (fun β' hb => ?_) (show st.nx ≤ s3.nx from Nat.le_trans hle1 hle3) hK
    rcases hu3 β' hb with hb | hb
    ·rcases hu1 β' hb with hb | hb
     ·exact .inl hb
     ·exact .inr (.inr hb)
    ·exact .inr (.inr (Nat.le_trans hle1 hb))
  cases ve3 with
  | normal => have e4 : e3 = .normal := he3; subst e4; exact done none hq3
  | ret => have e4 : e3 = .ret := he3; subst e4; exact done _ hq3
  | exit id => have e4 : e3 = .exit id := he3; subst e4; exact done _ hq3
  | goto l => have e4 : e3 = .goto l := he3; subst e4; exact done _ hq3
  | panic x => exact hq3.elim
theorem zmu {P : Program} {W W' : World} {b : Nat} (h : (getObj b).run P W = .ok (.deferred (some [])) W) (hset : (setObj b (.deferred none)).run P W = .ok () W') : (Instr.takeDeferred b).run P W = .ok [] W' := by
 unfold Instr.takeDeferred
 rw [Sem.run_bind, h, Result.andThen_ok]
 simp [hset, Sem.run_bind]
def SealsP (H : Nat → Option VObj) (x : VV) (r : PRes) : Prop := ∃ y n, r = .panic y ∧ sealV H n x = some y
theorem VPure.of_open {P : Program} {G : Glob} {f : FuncId} {args : List VV} {r : PRes} (h : VOpen P G f args (fun _ => none) 0 (fun x H _ => SealsTo H x r) (fun x H _ => SealsP H x r)) : VPure P G f args r := by
 refine ⟨h.1, fun A W vs hA hG hargs => (h.2 (PCtx A) W vs (zmj hA) rfl (fun β hb => hb.elim) hG hargs).mono ?_⟩
 rintro e W' ⟨c', H', nx', hext, hs', hH', hu, hu', hle, hres⟩
 have hbelow := zfx hext
 have hge : ∀ β, c'.live β → W.heap.size ≤ c'.φ β := by
  intro β hl
  rcases Nat.lt_or_ge (c'.φ β) W.heap.size with h | h
  ·obtain ⟨γ, hγ, _⟩ := hext.old β hl h
   simp [PCtx, Ctx.live] at hγ
  ·exact h
 have hold : ∀ b, c'.A b → A b ∨ W.heap.size ≤ b := by
  intro b hb
  rcases hext.newA b hb with h | h | ⟨β, h, _⟩
  ·exact .inl h
  ·exact .inr h
  ·simp [PCtx, Ctx.live] at h
 have held : ∀ {H0 : Nat → Option VObj}, SubHeap H0 c'.H → ∀ b, heldIn c' H0 b → A b ∨ W.heap.size ≤ b := by
  intro H0 hsub b hb
  rcases hb with h | ⟨β, h, e⟩
  ·exact hold b h
  ·exact .inr (e ▸ hge β (hsub.live h))
 have heldlt : ∀ {H0 : Nat → Option VObj}, SubHeap H0 c'.H → ∀ b, heldIn c' H0 b → b < W'.heap.size := by
  intro H0 hsub b hb
  rcases hb with h | ⟨β, h, e⟩
  ·exact hs'.ltA b h
  ·exact e ▸ hs'.lt β (hsub.live h)
 have hsub : SubHeap H' c'.H := by rw [hH']; exact SubHeap.refl _
 rcases hres with ⟨x, v, rfl, hrv, hseal⟩ | ⟨x, v, rfl, hv, y, n, rfl, hn⟩
 ·cases r with
  | tree y =>
   obtain ⟨n, hn⟩ := hseal
   exact ⟨_, fun b hb => .inl (hext.A b hb), held hsub, heldlt hsub, hbelow, v, rfl, (zhk hs' hsub n).1 _ _ _ hn hrv⟩
  | own cs len es =>
   obtain ⟨n, β, el0, cs0, ⟨cp, rfl⟩, hβ, hn⟩ := hseal
   have hlive : c'.live β := by simp [Ctx.live, hH', hβ]
   obtain ⟨cap, e1, hcap, hroom, _⟩ := hrv.2 hlive
   have hsub' : SubHeap (without H' β) c'.H := fun q o ho => hsub q o (SubHeap.without _ _ q o ho)
   obtain ⟨arr, el, g1, g2, g3, g4, _⟩ := hs'.obj β _ (by rw [hH']; exact hβ)
   have hrl := (zhk hs' hsub' n).2 _ _ _ hn g4
   have hll := hrl.length
   simp at hll
   refine ⟨heldIn c' (without H' β), fun b hb => .inl (hext.A b hb), held hsub', heldlt hsub', hbelow, c'.φ β, arr, el, cap, by rw [e1], hcap, hge β hlive, hs'.lt β hlive, ?_, g1, by omega, by omega, ?_⟩
   ·rintro (h | ⟨γ, h, e⟩)
    ·exact hs'.notA β hlive h
    ·have := hs'.inj γ β (hsub'.live h) hlive e
     subst this
     simp [without] at h
   ·rw [show cs.length = cs0.length by omega]; exact hrl
  | panic y => exact hseal.elim
 ·exact ⟨_, fun b hb => .inl (hext.A b hb), held hsub, heldlt hsub, hbelow, v, rfl, (zhk hs' hsub n).1 _ _ _ hn hv⟩
end Go.V
end
