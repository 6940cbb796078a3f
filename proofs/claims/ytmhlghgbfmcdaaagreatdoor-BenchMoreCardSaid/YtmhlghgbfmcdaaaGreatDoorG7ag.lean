/- Part of a proof. -/
import Derived.Test.YtmhlghgbfmcdaaaGreatDoorG7af
set_option linter.all false
section
namespace Go.V
open Go
def openK (P : Program) (G : Glob) (f : FuncId) (args : List VV) (st : St) (dst : Option Tmp) (K : St → Prop) (Qp : VV → St → Prop) : Prop :=
 an P G f args st.H st.nx (fun x H' nx' => K { st.put dst x with H := H', nx := nx' }) (fun x H' nx' => Qp x { st with H := H', nx := nx' })
def yieldK (P : Program) (G : Glob) (o : Oper) (β : Nat) (args : List VV) (st : St) (K : St → Prop) : Prop :=
 match st.H β with
 | some (.loop .ready _ tm ps as bo _) => args.length = ps.size ∧ VWp P (G.at (some (some β))) tm.length as (RoundStart P G tm.length β bo o st K) { tm := aP (roundTm tm ps.toList args), H := st.H, nx := st.nx, df := [] }
 | _ => False
def deferK (G : Glob) (o : Oper) (x : VV) (args : List VV) (st : St) (K : St → Prop) : Prop :=
 match x with
 | .fn f first captured => G.rg = some none ∧ K { st.put o.dst (.lit undef) with df := .fn f captured (first ++ args) :: st.df }
 | _ => False
def callK (P : Program) (G : Glob) (f : FuncId) (args : List VV) (st : St) (dst : Option Tmp) (γ : Nat) (K : St → Prop) (Qp : VV → St → Prop) : Prop :=
 (treeL args = true ∧ ∃ r, aj P G f args r ∧ match r with
  | .tree x => K (st.put dst x)
  | .own cs len es => K (aS st dst (.ref γ 0 len es len) (.new (.cells none cs)) γ)
  | .panic x => Qp x st) ∨
 (treeL (args.map (showV st.H 3)) = true ∧ ∃ r, aj P G f (args.map (showV st.H 3)) r ∧ match r with
  | .tree x => x.flat = true ∧ K (st.put dst x)
  | .own cs len es => flatL cs = true ∧ K (aS st dst (.ref γ 0 len es len) (.new (.cells none cs)) γ)
  | .panic _ => False) ∨ openK P G f args st dst K Qp
def opK (P : Program) (G : Glob) (o : Oper) (γ : Nat) (st : St) (K : St → Prop) : Prop :=
 match vop P o (st.ρ G) st.H γ with
 | some (x, eff) => K (aS st o.dst x eff γ)
 | none => False
def aK (P : Program) (G : Glob) (γ : Nat) (o : Oper) (st : St) (K : St → Prop) (Qp : VV → St → Prop) : Prop :=
 match o.op with
 | .call k =>
  match k.callee with
  | .value fo =>
   match st.ρ G fo with
   | .fn (.func f) first captured => callK P G f (first ++ k.args.toList.map (st.ρ G) ++ captured) st o.dst γ K Qp
   | .yl β => yieldK P G o β (k.args.toList.map (st.ρ G)) st K
   | _ => False
  | .invoke r m =>
   match recvV P m (st.ρ G r) with
   | .fn (.func f) first captured => callK P G f (first ++ k.args.toList.map (st.ρ G) ++ captured) st o.dst γ K Qp
   | _ => False
  | _ => opK P G o γ st K
 | .defer k =>
  match k.callee with
  | .value fo => deferK G o (st.ρ G fo) (k.args.toList.map (st.ρ G)) st K
  | _ => False
 | .panic x => match st.ρ G x with
  | .ifc t y => Qp (.ifc t y) st
  | _ => False
 | _ => opK P G o γ st K
def stepK (P : Program) (G : Glob) (ops : Array Oper) (γ : Nat) (o : Oper) (st : St) (K : St → Prop) (Qp : VV → St → Prop) : Prop :=
 match aG ops st.tm o with
 | none => False
 | some b => (b = true → aK P G γ o st K Qp) ∧ (b = false → K (st.put o.dst (.lit undef)))
theorem aH.mono {P : Program} {G : Glob} {n : Nat} {ops : Array Oper} {base i : Nat} {st : St} {K K' : St → Prop} {Qp Qp' : VV → St → Prop} (h : aH P G n ops base i st K Qp) (hk : ∀ s, K s → K' s) (hq : ∀ x s, Qp x s → Qp' x s) :
  aH P G n ops base i st K' Qp' := by
 intro ro c W a Kr Q hro s hr hs hγ hnx k kp
 exact h ro c W a Kr Q hro s hr hs hγ hnx (fun a' W' c' st' h1 h2 h3 h4 h5 h6 h7 => k a' W' c' st' h1 h2 h3 h4 h5 h6 (hk _ h7)) (fun a' W' c' st' x v h1 h2 h3 h4 h5 h6 h7 h8 => kp a' W' c' st' x v h1 h2 h3 h4 h5 h6 h7 (hq _ _ h8))
theorem aH.panic {P : Program} {G : Glob} {n : Nat} {ops : Array Oper} {base i : Nat} {o : Oper} {st : St} {K : St → Prop} {Qp : VV → St → Prop} {x : Operand} {t : TypeId} {y : VV} (ho : ops[i]? = some o) (hw : aG ops st.tm o = some true)
  (hop : o.op = .panic x) (hx : st.ρ G x = .ifc t y) (hq : Qp (.ifc t y) st) : aH P G n ops base i st K Qp := by
 intro ro c W a Kr Q hro s hr hs hγ hnx k kp
 unfold wpOpIn
 simp only [ho]
 rw [if_pos (fk hr.tm hw)]
 refine ⟨fun _ _ => trivial, ?_⟩
 have h1 := hr.eval x
 rw [hx] at h1
 obtain ⟨u, e, hu⟩ := h1
 rw [Oper.semAt_eq _ _ _ (by rw [hop]; simp)]
 have hrun : (execOp a.eval o).run P W = .halt (.panic (.iface t u)) W := by
  simp only [execOp, hop, e, Instr.panic]
  rfl
 rw [hrun, Oper.uponIn_panic]
 exact kp a W c st (.ifc t y) (.iface t u) (Ext.refl c W) s hr hs (fun _ h => .inl h) (Nat.le_refl _) ⟨u, rfl, hu⟩ hq
theorem aH.callPanic {P : Program} {G : Glob} {n : Nat} {ops : Array Oper} {base i : Nat} {o : Oper} {st : St} {K : St → Prop} {Qp : VV → St → Prop} {f : FuncId} {args : List VV} {x : VV} (ho : ops[i]? = some o) (hw : aG ops st.tm o = some true)
  (hf : callee? P G st o.op = some (f, args)) (ht : treeL args = true) (hp : aj P G f args (.panic x)) (hq : Qp x st) : aH P G n ops base i st K Qp := by
 intro ro c W a Kr Q hro s hr hs hγ hnx k kp
 unfold wpOpIn
 simp only [ho]
 rw [if_pos (fk hr.tm hw)]
 obtain ⟨vs, hvs, hrun, hnd⟩ := jK hr hf hp.1
 refine ⟨fun _ _ => trivial, ?_⟩
 rw [Oper.semAt_eq _ _ _ hnd, hrun, Oper.uponIn_enter]
 refine ⟨fun h => (by cases h), jh ((hp.2 c.A W vs s.ltA hr.G.tree (iS ht hvs)).mono ?_)⟩
 rintro e W' ⟨A', h1, h2, h3, hb, v, rfl, hx⟩
 have he := Ext.more h1 h2 hb
 have hs' := Sim.more s h1 h2 h3 hb
 have hr' : StRep G (c.more A') W' st a := ⟨hr.H, fun t => Rep.abides (he.abides s) _ (hr.tm t), hr.nx, hr.df.abides (he.abides s), hr.G.abides (he.abides s)⟩
 exact kp a W' (c.more A') st x v he hs' hr' hs (fun _ h => .inl h) (Nat.le_refl _) (Rep.abides (h9 (fun _ h => h)) _ hx) hq
theorem yf {P : Program} {G : Glob} {n : Nat} {ops : Array Oper} {base i : Nat} {o : Oper} {st : St} {K : St → Prop} {Qp : VV → St → Prop} (ho : ops[i]? = some o) (hd : dstsOk n ops = true)
  (h : stepK P G ops (base + i) o st K Qp) : aH P G n ops base i st K Qp := by
 have opk : aG ops st.tm o = some true → opK P G o (base + i) st K → aH P G n ops base i st K Qp := by
  intro hw h
  unfold opK at h
  split at h
  ·rename_i x eff hv
   exact aH.quiet ho hd (.op hw hv) h
  ·exact h.elim
 unfold stepK at h
 split at h
 ·exact h.elim
 ·rename_i b hw
  cases b with
  | false => exact aH.quiet ho hd (.skip hw) (h.2 rfl)
  | true =>
  replace h := h.1 rfl
  unfold aK at h
  split at h
  ·rename_i k hop
   split at h
   ·rename_i fo hfo
    split at h
    ·rename_i f first captured hρ
     have hf : callee? P G st o.op = some (f, first ++ k.args.toList.map (st.ρ G) ++ captured) := by simp [callee?, hop, hfo, hρ]
     unfold callK at h
     rcases h with ⟨ht, r, hp, h⟩ | ⟨ht, r, hp, h⟩ | h
     ·cases r with
      | tree x => exact aH.quiet ho hd (.call hw hf ht hp) h
      | own cs len es => exact aH.quiet ho hd (.callOwn hw hf ht hp) h
      | panic x => exact aH.callPanic ho hw hf ht hp h
     ·cases r with
      | tree x => exact aH.shown ho hd hw hf ht hp h.1 h.2
      | own cs len es => exact aH.shownOwn ho hd hw hf ht hp h.1 h.2
      | panic x => exact h.elim
     ·exact aH.open ho hd hw hf h
    ·rename_i β hρ
     unfold yieldK at h
     split at h
     ·rename_i pe tm ps as bo df hβ
      exact aH.yield ho hd hw hop hfo hρ hβ (by simpa using h.1) h.2
     ·exact h.elim
    ·exact h.elim
   ·rename_i rc m hfo
    split at h
    ·rename_i f first captured hρ
     have hf : callee? P G st o.op = some (f, first ++ k.args.toList.map (st.ρ G) ++ captured) := by simp [callee?, hop, hfo, hρ]
     unfold callK at h
     rcases h with ⟨ht, r, hp, h⟩ | ⟨ht, r, hp, h⟩ | h
     ·cases r with
      | tree x => exact aH.quiet ho hd (.call hw hf ht hp) h
      | own cs len es => exact aH.quiet ho hd (.callOwn hw hf ht hp) h
      | panic x => exact aH.callPanic ho hw hf ht hp h
     ·cases r with
      | tree x => exact aH.shown ho hd hw hf ht hp h.1 h.2
      | own cs len es => exact aH.shownOwn ho hd hw hf ht hp h.1 h.2
      | panic x => exact h.elim
     ·exact aH.open ho hd hw hf h
    ·exact h.elim
   ·exact opk hw h
  ·rename_i k hop
   split at h
   ·rename_i fo hfo
    unfold deferK at h
    split at h
    ·rename_i f first captured hρ
     exact aH.defer h.1 ho hd hw hop hfo hρ h.2
    ·exact h.elim
   ·exact h.elim
  ·rename_i x hop
   split at h
   ·rename_i t y hx
    exact aH.panic ho hw hop hx h
   ·exact h.elim
  ·exact opk hw h
def seqK (P : Program) (G : Glob) (ops : Array Oper) (base : Nat) (Q : VExit → St → Prop) : Nat → List Oper → St → Prop
 | _, [], st => Q .normal st
 | i, o :: l, st => stepK P G ops (base + i) o st (seqK P G ops base Q (i + 1) l) (fun x st' => Q (.panic x) st')
theorem IW {P : Program} {G : Glob} {n : Nat} {ops : Array Oper} {base : Nat} {Q : VExit → St → Prop} (hd : dstsOk n ops = true) : ∀ (l : List Oper) (i : Nat) (st : St), (∀ k, l[k]? = ops[i + k]?) →
  seqK P G ops base Q i l st → VSeq P G n ops base Q (List.range' i l.length) st
 | [], i, st, _, h => h
 | o :: l, i, st, hl, h => by
  have ho : ops[i]? = some o := by have := hl 0; simpa using this.symm
  show aH P G n ops base i st _ _
  refine (yf ho hd h).mono (fun s hs => IW hd l (i + 1) s (fun k => by have := hl (k + 1); simp at this; rw [this]; congr 1; omega) hs) (fun _ _ h => h)
def dstepK (P : Program) (G : Glob) (ops : Array Oper) (γ : Nat) (o : Oper) (st : St) (K : List Nat → List Nat → St → Prop) : Prop :=
 match aG ops st.tm o with
 | none => False
 | some b => (b = true →
  match o.op with
  | .call { callee := .value fo, args := as, .. } =>
   match st.ρ G fo with
   | .fn (.func f) first captured =>
    (treeL (first ++ as.toList.map (st.ρ G) ++ captured) = true ∧ ∃ r, aj P G f (first ++ as.toList.map (st.ρ G) ++ captured) r ∧ match r with
     | .tree x => K [] [] (st.put o.dst x)
     | .own cs len es => K [] [γ] (aS st o.dst (.ref γ 0 len es len) (.new (.cells none cs)) γ)
     | .panic _ => False) ∨
    (∃ args' x, sealL st.H fuelS (first ++ as.toList.map (st.ρ G) ++ captured) = some args' ∧ aj P G f args' (.tree x) ∧ x.flat = true ∧ K (nmL st.H fuelS (first ++ as.toList.map (st.ρ G) ++ captured)) [] (st.put o.dst x)) ∨
    (∃ β es' x, UpdC P G f (first ++ as.toList.map (st.ρ G) ++ captured) st.H st.nx β es' x ∧ K [β] [β] (aS st o.dst x (.upd β (.map es')) γ)) ∨
    (∃ cs, treeL (first ++ as.toList.map (st.ρ G) ++ captured) = true ∧ NewC P G f (first ++ as.toList.map (st.ρ G) ++ captured) cs ∧ K [] [γ] (aS st o.dst (.agg (cs ++ [.mp γ])) (.new (.map [])) γ))
   | _ => False
  | .call { callee := .invoke rc m, args := as, .. } =>
   match recvV P m (st.ρ G rc) with
   | .fn (.func f) first captured =>
    (treeL (first ++ as.toList.map (st.ρ G) ++ captured) = true ∧ ∃ r, aj P G f (first ++ as.toList.map (st.ρ G) ++ captured) r ∧ match r with
     | .tree x => K [] [] (st.put o.dst x)
     | .own cs len es => K [] [γ] (aS st o.dst (.ref γ 0 len es len) (.new (.cells none cs)) γ)
     | .panic _ => False) ∨
    (∃ args' x, sealL st.H fuelS (first ++ as.toList.map (st.ρ G) ++ captured) = some args' ∧ aj P G f args' (.tree x) ∧ x.flat = true ∧ K (nmL st.H fuelS (first ++ as.toList.map (st.ρ G) ++ captured)) [] (st.put o.dst x)) ∨
    (∃ β es' x, UpdC P G f (first ++ as.toList.map (st.ρ G) ++ captured) st.H st.nx β es' x ∧ K [β] [β] (aS st o.dst x (.upd β (.map es')) γ)) ∨
    (∃ cs, treeL (first ++ as.toList.map (st.ρ G) ++ captured) = true ∧ NewC P G f (first ++ as.toList.map (st.ρ G) ++ captured) cs ∧ K [] [γ] (aS st o.dst (.agg (cs ++ [.mp γ])) (.new (.map [])) γ))
   | _ => False
  | _ => match vop P o (st.ρ G) st.H γ with
   | some (x, eff) => K (rdV o (st.ρ G)) (eff.wr γ) (aS st o.dst x eff γ)
   | none => False) ∧
  (b = false → K [] [] (st.put o.dst (.lit undef)))
theorem IF {P : Program} {G : Glob} {ops : Array Oper} {base i : Nat} {o : Oper} {st : St} {K : List Nat → List Nat → St → Prop} (h : dstepK P G ops (base + i) o st K) :
  ∃ rd wr st', QStep P G ops base i o st st' rd wr ∧ K rd wr st' := by
 unfold dstepK at h
 split at h
 ·exact h.elim
 ·rename_i b hw
  cases b with
  | false => exact ⟨_, _, _, .skip hw, h.2 rfl⟩
  | true =>
  replace h := h.1 rfl
  split at h
  ·rename_i fo as ats hop
   split at h
   ·rename_i f first captured hρ
    have hf : callee? P G st o.op = some (f, first ++ as.toList.map (st.ρ G) ++ captured) := by simp [callee?, hop, hρ]
    rcases h with ⟨ht, r, hp, h⟩ | ⟨args', x, hs, hp, hx, h⟩ | ⟨β, es', x, hu, h⟩ | ⟨cs, ht, hn, h⟩
    ·cases r with
     | tree x => exact ⟨_, _, _, .call hw hf ht hp, h⟩
     | own cs len es => exact ⟨_, _, _, .callOwn hw hf ht hp, h⟩
     | panic x => exact h.elim
    ·exact ⟨_, _, _, .callSeen hw hf hs hp hx, h⟩
    ·exact ⟨_, _, _, .callUpd hw hf hu, h⟩
    ·exact ⟨_, _, _, .callNew hw hf ht hn, h⟩
   ·exact h.elim
  ·rename_i rc m as ats hop
   split at h
   ·rename_i f first captured hρ
    have hf : callee? P G st o.op = some (f, first ++ as.toList.map (st.ρ G) ++ captured) := by simp [callee?, hop, hρ]
    rcases h with ⟨ht, r, hp, h⟩ | ⟨args', x, hs, hp, hx, h⟩ | ⟨β, es', x, hu, h⟩ | ⟨cs, ht, hn, h⟩
    ·cases r with
     | tree x => exact ⟨_, _, _, .call hw hf ht hp, h⟩
     | own cs len es => exact ⟨_, _, _, .callOwn hw hf ht hp, h⟩
     | panic x => exact h.elim
    ·exact ⟨_, _, _, .callSeen hw hf hs hp hx, h⟩
    ·exact ⟨_, _, _, .callUpd hw hf hu, h⟩
    ·exact ⟨_, _, _, .callNew hw hf ht hn, h⟩
   ·exact h.elim
  ·split at h
   ·rename_i x eff hv
    exact ⟨_, _, _, .op hw hv, h⟩
   ·exact h.elim
def traceK (ops : Array Oper) : Tr → Prop
 | [] => True
 | p :: tr => (∀ q ∈ tr, aC ops ops.size p.1 q.1 = true ∨ Indep p q) ∧ traceK ops tr
def apartOk (ops : Array Oper) : Bool := (List.range ops.size).all fun i => (List.range ops.size).all fun j => !decide (i < j) || aC ops ops.size i j || (match ops[i]?, ops[j]? with
 | some o, some o' => o.apart ops o'
 | _, _ => true)
theorem nX {ops : Array Oper} (hap : apartOk ops = true) : ∀ (tr : Tr), (tr.map (·.1)).Pairwise (· < ·) → traceK ops tr → TraceOk ops tr
 | [], _, _ => List.Pairwise.nil
 | p :: tr, hs, h => by
  simp only [List.map_cons, List.pairwise_cons] at hs
  refine List.pairwise_cons.2 ⟨fun q hq => ?_, nX hap tr hs.2 h.2⟩
  rcases h.1 q hq with hb | hi
  ·exact .inl hb
  ·cases hbb : aC ops ops.size p.1 q.1 with
   | true => exact .inl rfl
   | false =>
    refine .inr ⟨hi, fun o o' ho ho' => ?_⟩
    have hlt := hs.1 q.1 (List.mem_map_of_mem hq)
    have h1 := (Array.getElem?_eq_some_iff.1 ho).1
    have h2 := (Array.getElem?_eq_some_iff.1 ho').1
    unfold apartOk at hap
    rw [List.all_eq_true] at hap
    have := hap p.1 (List.mem_range.2 h1)
    rw [List.all_eq_true] at this
    have := this q.1 (List.mem_range.2 h2)
    simp [hlt, hbb, ho, ho'] at this
    exact this
def drawK (P : Program) (G : Glob) (ops : Array Oper) (base : Nat) (Q : VExit → St → Prop) : Nat → List Oper → Tr → St → Prop
 | _, [], tr, st => traceK ops tr.reverse ∧ Q .normal st
 | i, o :: l, tr, st => dstepK P G ops (base + i) o st fun rd wr st' => drawK P G ops base Q (i + 1) l ((i, rd, wr) :: tr) st'
theorem IX {P : Program} {G : Glob} {ops : Array Oper} {base : Nat} {Q : VExit → St → Prop} : ∀ (l : List Oper) (i : Nat) (tr : Tr) (st : St), (∀ k, l[k]? = ops[i + k]?) →
  drawK P G ops base Q i l tr st → ∃ st' tr', QSteps P G ops base (List.range' i l.length) st st' tr' ∧ traceK ops (tr.reverse ++ tr') ∧ Q .normal st'
 | [], i, tr, st, _, h => ⟨st, [], .nil, by simpa using h.1, h.2⟩
 | o :: l, i, tr, st, hl, h => by
  have ho : ops[i]? = some o := by have := hl 0; simpa using this.symm
  obtain ⟨rd, wr, s1, hq, hk⟩ := IF h
  obtain ⟨st', tr', hqs, htr, hQ⟩ := IX l (i + 1) ((i, rd, wr) :: tr) s1 (fun k => by have := hl (k + 1); simp at this; rw [this]; congr 1; omega) hk
  exact ⟨st', (i, rd, wr) :: tr', .cons ho hq hqs, by simpa using htr, hQ⟩
def CWp (P : Program) (G : Glob) (n : Nat) : Code → (VExit → St → Prop) → St → Prop
 | .skip, Q, st => Q .normal st
 | .label _, Q, st => Q .normal st
 | .exit id, Q, st => Q (.exit id) st
 | .ret, Q, st => Q .ret st
 | .seq a b, Q, st => CWp P G n a (VExit.then (CWp P G n b Q) Q) st
 | .cond c a b, Q, st => match st.ρ G c with
  | .lit (.bool t) => (t = true → CWp P G n a Q st) ∧ (t = false → CWp P G n b Q st)
  | _ => False
 | .block id a, Q, st => CWp P G n a (VExit.inBlock id Q) st
 | .region _ ops false, Q, st => seqK P G ops st.nx Q 0 ops.toList { st with nx := st.nx + ops.size }
 | .region id ops true, Q, st => drawK P G ops st.nx Q 0 ops.toList [] { st with nx := st.nx + ops.size } ∨ VWp P G n (.region id ops true) Q st
 | .rangeFunc g ps as bo, Q, st => G.rg = some none ∧ (match st.ρ G g with
  | .fn (.func f) first captured => an P G f (first ++ [.yl (st.nx + 1)] ++ captured) (updH (updH st.H st.nx (.deferred (some []))) (st.nx + 1) (.loop .ready none (tmL n st.tm) ps as bo st.nx)) (st.nx + 2)
   (fun _ H' nx' => RangeEnd P G n Q st H' nx') (fun x H' nx' => Q (.panic x) { st with H := H', nx := nx', df := .coll st.nx :: st.df })
  | _ => False)
 | code, Q, st => VWp P G n code Q st
def codeOk (n : Nat) : Code → Bool
 | .region _ ops false => dstsOk n ops
 | .region _ ops true => backOk ops && dstsOk n ops && apartOk ops
 | .seq a b => codeOk n a && codeOk n b
 | .cond _ a b => codeOk n a && codeOk n b
 | .block _ a => codeOk n a
 | .loop a => codeOk n a
 | .rangeFunc _ _ a b => codeOk n a && codeOk n b
 | .scope a => codeOk n a
 | _ => true
theorem jZ {P : Program} {G : Glob} (hm : P.follows .mixedOrders = true) {n : Nat} : ∀ (code : Code) (Q : VExit → St → Prop) (st : St), codeOk n code = true → CWp P G n code Q st → VWp P G n code Q st
 | .skip, Q, st, _, h => VWp.skip h
 | .label _, Q, st, _, h => VWp.label h
 | .exit _, Q, st, _, h => VWp.exit h
 | .ret, Q, st, _, h => VWp.ret h
 | .seq a b, Q, st, ho, h => by
  simp only [codeOk, Bool.and_eq_true] at ho
  refine VWp.seq ((jZ hm a _ st ho.1 h).mono fun e s hs => ?_)
  cases e with
  | normal => exact jZ hm b Q s ho.2 hs
  | exit id => exact hs
  | goto l => exact hs
  | ret => exact hs
  | panic x => exact hs
 | .cond c a b, Q, st, ho, h => by
  simp only [codeOk, Bool.and_eq_true] at ho
  unfold CWp at h
  split at h
  ·rename_i t ht
   refine VWp.cond ht ?_
   cases t with
   | true => exact jZ hm a Q st ho.1 (h.1 rfl)
   | false => exact jZ hm b Q st ho.2 (h.2 rfl)
  ·exact h.elim
 | .block id a, Q, st, ho, h => VWp.block (jZ hm a _ st ho h)
 | .region id ops false, Q, st, ho, h => by
  refine VWp.region ?_
  have := IW ho ops.toList 0 _ (fun k => by simp) h
  rw [List.range_eq_range']
  simpa using this
 | .region id ops true, Q, st, ho, h => by
  rcases h with h | h
  case inr => exact h
  simp only [codeOk, Bool.and_eq_true] at ho
  obtain ⟨⟨h1, h2⟩, h3⟩ := ho
  obtain ⟨st', tr, hq, htr, hQ⟩ := IX ops.toList 0 [] _ (fun k => by simp) h
  have hrng : List.range' 0 ops.toList.length = List.range ops.size := by rw [List.range_eq_range']; simp
  rw [hrng] at hq
  refine VWp.regionDraw hm [] (List.range ops.size) (by simp [h1, h2, barOk, flat]) ⟨st', tr, hq, nX h3 tr ?_ (by simpa using htr), hQ⟩
  rw [hq.fst]
  exact List.pairwise_lt_range
 | .loop _, _, _, _, h => h
 | .rangeFunc g ps as bo, Q, st, _, h => by
  unfold CWp at h
  obtain ⟨h1, h2⟩ := h
  split at h2
  ·rename_i f first captured hg
   exact VWp.rangeFunc h1 hg h2
  ·exact h2.elim
 | .scope _, _, _, _, h => h
 | .goto _, _, _, _, h => h
 | .refuse _, _, _, _, h => h
theorem loopK {P : Program} {G : Glob} (hm : P.follows .mixedOrders = true) {n : Nat} {x : Code} {Q : VExit → St → Prop} {st : St} (ho : codeOk n x = true) (I : Nat → St → Prop) (m : Nat) (h0 : I m st)
  (round : ∀ m st, I m st → CWp P G n x (VExit.then (fun st' => ∃ m', m' < m ∧ I m' st') Q) st) : CWp P G n (.loop x) Q st :=
 VWp.loop I h0 fun m st hI => jZ hm x _ st ho (round m st hI)
theorem aj.run {P : Program} {G : Glob} (hm : P.follows .mixedOrders = true) {f : FuncId} {fn : Func} {code : Code} {args : List VV} {r : PRes} (hc : Callable P f) (hf : P.funcs[f]? = some fn) (hb : fn.body = some code)
  (hst : (decide (args.length ≤ fn.ntmps) && codeOk fn.ntmps code) = true) (h : CWp P (G.at (some none)) fn.ntmps code (PurePost P fn r) { tm := aP args, H := fun _ => none, nx := 0, df := [] }) : aj P G f args r := by
 simp only [Bool.and_eq_true, decide_eq_true_eq] at hst
 exact aj.of_body hc hf hb hst.1 (jZ (G := G.at (some none)) hm code _ _ hst.2 h)
theorem an.run {P : Program} {G : Glob} (hm : P.follows .mixedOrders = true) {f : FuncId} {fn : Func} {code : Code} {args : List VV} {H : Nat → Option VObj} {nx : Nat} {R Rp : VV → (Nat → Option VObj) → Nat → Prop}
  (hc : Callable P f) (hf : P.funcs[f]? = some fn) (hb : fn.body = some code) (hst : (decide (args.length ≤ fn.ntmps) && codeOk fn.ntmps code) = true)
  (h : CWp P (G.at (some none)) fn.ntmps code (OpenPostD P G fn R Rp) { tm := aP args, H, nx, df := [] }) : an P G f args H nx R Rp := by
 simp only [Bool.and_eq_true, decide_eq_true_eq] at hst
 exact an.of_bodyD hc hf hb hst.1 (jZ (G := G.at (some none)) hm code _ _ hst.2 h)
end Go.V
end
section
namespace Go.V
open Go
mutual
def normV : VV → VV
 | .sl cs n _ => .sl (normL cs) n false
 | .lit (.slice none 0 0) => .sl [] 0 false
 | .agg cs => .agg (normL cs)
 | .tup cs => .tup (normL cs)
 | x => x
def normL : List VV → List VV
 | [] => []
 | x :: xs => normV x :: normL xs
end
mutual
theorem rQ {c : Ctx} {W : World} : ∀ (x : VV) {v : Value}, Rep c W x v → Rep c W (normV x) v
 | .sl cs n f, _, ⟨base, cap, e, h1, h2, h3⟩ => ⟨base, cap, e, h1, fun h => (by cases h), h3.imp (fun h => by subst h; rfl) fun ⟨b, o, e2, hA, h⟩ => ⟨b, o, e2, hA, IY cs h⟩⟩
 | .agg cs, _, ⟨l, e, h⟩ => ⟨l, e, sd cs h⟩
 | .tup cs, _, ⟨l, e, h⟩ => ⟨l, e, sd cs h⟩
 | .lit (.slice none 0 0), v, h => by
  have e : v = .slice none 0 0 := h
  subst e
  exact ⟨none, 0, rfl, Nat.le_refl _, fun h => (by cases h), .inl rfl⟩
 | .lit (.slice none 0 (_ + 1)), _, h => h
 | .lit (.slice none (_ + 1) _), _, h => h
 | .lit (.slice (some _) _ _), _, h => h
 | .lit (.bool _), _, h => h
 | .lit (.int ..), _, h => h
 | .lit (.float ..), _, h => h
 | .lit (.complex ..), _, h => h
 | .lit (.string _), _, h => h
 | .lit (.pointer _), _, h => h
 | .lit (.map _), _, h => h
 | .lit (.chan _), _, h => h
 | .lit (.func ..), _, h => h
 | .lit .nilFunc, _, h => h
 | .lit .nilIface, _, h => h
 | .lit (.iface ..), _, h => h
 | .lit (.agg _), _, h => h
 | .lit (.tuple _), _, h => h
 | .any, _, h => h
 | .tp _, _, h => h
 | .ref .., _, h => h
 | .ptr .., _, h => h
 | .mp _, _, h => h
 | .mt .., _, h => h
 | .it _, _, h => h
 | .yl _, _, h => h
 | .fn .., _, h => h
 | .ifc .., _, h => h
theorem sd {c : Ctx} {W : World} : ∀ (xs : List VV) {l : List Value}, RepL c W xs l → RepL c W (normL xs) l
 | [], _, h => h
 | x :: xs, _, ⟨u, us, e, h1, h2⟩ => ⟨u, us, e, rQ x h1, sd xs h2⟩
theorem IY {c : Ctx} {W : World} {b : Nat} : ∀ (xs : List VV) {o : Nat}, RepC c W b o xs → RepC c W b o (normL xs)
 | [], _, h => h
 | x :: xs, _, ⟨u, e, h1, h2⟩ => ⟨u, e, rQ x h1, IY xs h2⟩
end
theorem aj.norm {P : Program} {G : Glob} {f : FuncId} {args : List VV} {r : PRes} (h : aj P G f (normL args) r) : aj P G f args r :=
 ⟨h.1, fun A W vs hA hG hv => h.2 A W vs hA hG (sd _ hv)⟩
end Go.V
end
