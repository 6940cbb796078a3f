/- Part of a proof. -/
import Derived.Test.YtmhlghgbfmcdaaaGreatDoorG6ad
import Derived.LoopNIn
set_option linter.all false
section
namespace Go.V
open Go
def recvV (P : Program) (m : String) : VV → VV
 | .ifc t x => match mfun P t m with
  | some f => .fn (.func f) [x] []
  | none => .any
 | _ => .any
theorem ta (P : Program) (m : String) (x : VV) {β : Nat} : recvV P m x ≠ .yl β := by
 unfold recvV
 split
 ·split <;> simp
 ·simp
def callee? (P : Program) (G : Glob) (st : St) : Op → Option (FuncId × List VV)
 | .call k =>
  match k.callee with
  | .value fo => match st.ρ G fo with
   | .fn (.func f) first captured => some (f, first ++ k.args.toList.map (st.ρ G) ++ captured)
   | _ => none
  | .invoke r m => match recvV P m (st.ρ G r) with
   | .fn (.func f) first captured => some (f, first ++ k.args.toList.map (st.ρ G) ++ captured)
   | _ => none
  | _ => none
 | _ => none
theorem ke {P : Program} {G : Glob} {c : Ctx} {W : World} {st : St} {a : Act} (hr : StRep G c W st a) {o : Oper} {f : FuncId} {args : List VV} (h : callee? P G st o.op = some (f, args)) (hc : Callable P f) :
  ∃ vs, RepL c W args vs ∧ (execOp a.eval o).run P W = .ok (.enter f ⟨vs⟩) W ∧ (∀ k, o.op ≠ .defer k) := by
 unfold callee? at h
 split at h
 ·rename_i k hk
  split at h
  ·rename_i fo hfo
   split at h
   ·rename_i g first captured hρ
    cases h
    have h1 := hr.eval fo
    rw [hρ] at h1
    obtain ⟨l, m, e, hl, hm⟩ := h1
    refine ⟨l ++ (k.args.toList.map a.eval) ++ m, RepL.append (RepL.append hl (kC hr.eval _)) hm, ?_, fun k' => by rw [hk]; simp⟩
    have ha := hc (⟨l ++ (k.args.toList.map a.eval) ++ m⟩) W
    rw [← ha]
    have e2 : (⟨l⟩ ++ k.args.map a.eval ++ ⟨m⟩ : Array Value) = ⟨l ++ k.args.toList.map a.eval ++ m⟩ := by
     apply Array.ext'; simp
    simp only [execOp, hk, resolve, hfo, Deferred.ofValue, e, pure_bind, invoke, e2]
   ·cases h
  ·rename_i r m xa
   split at h
   ·rename_i g first captured hρ
    cases h
    have h1 := hr.eval r
    cases hx : st.ρ G r with
    | ifc t x =>
     rw [hx] at hρ h1
     simp only [recvV] at hρ
     split at hρ
     ·rename_i f hf
      cases hρ
      obtain ⟨u, e, hu⟩ := h1
      refine ⟨[u] ++ (k.args.toList.map a.eval) ++ [], RepL.append (RepL.append ⟨u, [], rfl, hu, rfl⟩ (kC hr.eval _)) rfl, ?_, fun k' => by rw [hk]; simp⟩
      have ha := hc (⟨[u] ++ (k.args.toList.map a.eval) ++ []⟩) W
      rw [← ha]
      have hp : (program).run P W = .ok P W := rfl
      simp only [execOp, hk, resolve, xa, e, pure_bind, invoke]
      have e3 : (#[Value.iface t u] ++ Array.map a.eval k.args)[0]? = some (.iface t u) := by rw [Array.getElem?_append_left (by simp)]; rfl
      have e4 : (#[Value.iface t u] ++ Array.map a.eval k.args).extract 1 = Array.map a.eval k.args := by
       apply Array.ext'; simp; exact List.take_of_length_le (by simp)
      have hm := zi hf (P.types.size + 99) u W
      have e5 : P.types.size + Made.depth = P.types.size + 99 + 1 := rfl
      simp only [e3, e4, callMethod, Sem.run_bind, hp, Result.andThen_ok, e5, hm]
      congr 2
      apply Array.ext'; simp
     ·cases hρ
    | _ => rw [hx] at hρ; cases hρ
   ·cases h
  ·cases h
 ·cases h
abbrev fuelS : Nat := 100000
inductive QStep (P : Program) (G : Glob) (ops : Array Oper) (base i : Nat) (o : Oper) : St → St → List Nat → List Nat → Prop
 | skip {st : St} : aN ops st.tm o = some false → QStep P G ops base i o st (st.put o.dst (.lit undef)) [] []
 | op {st : St} {x : VV} {eff : VEff} : aN ops st.tm o = some true → vop P o (st.ρ G) st.H (base + i) = some (x, eff) →
   QStep P G ops base i o st { st.put o.dst x with H := eff.app (base + i) st.H } (rdV o (st.ρ G)) (eff.wr (base + i))
 | call {st : St} {f : FuncId} {args : List VV} {x : VV} : aN ops st.tm o = some true → callee? P G st o.op = some (f, args) → treeL args = true → ak P G f args (.tree x) →
   QStep P G ops base i o st (st.put o.dst x) [] []
 | callOwn {st : St} {f : FuncId} {args cs : List VV} {len es : Nat} : aN ops st.tm o = some true → callee? P G st o.op = some (f, args) → treeL args = true → ak P G f args (.own cs len es) →
   QStep P G ops base i o st { st.put o.dst (.ref (base + i) 0 len es len) with H := (VEff.new (.cells none cs)).app (base + i) st.H } [] [base + i]
 | callSeen {st : St} {f : FuncId} {args args' : List VV} {x : VV} : aN ops st.tm o = some true → callee? P G st o.op = some (f, args) → sealL st.H fuelS args = some args' → ak P G f args' (.tree x) → x.flat = true →
   QStep P G ops base i o st (st.put o.dst x) (nmL st.H fuelS args) []
 | callSeenOwn {st : St} {f : FuncId} {args args' cs : List VV} {len es : Nat} : aN ops st.tm o = some true → callee? P G st o.op = some (f, args) → sealL st.H fuelS args = some args' → ak P G f args' (.own cs len es) → flatL cs = true →
   QStep P G ops base i o st { st.put o.dst (.ref (base + i) 0 len es len) with H := (VEff.new (.cells none cs)).app (base + i) st.H } (nmL st.H fuelS args) [base + i]
 | callFrame {st : St} {f : FuncId} {args : List VV} {rd : List Nat} {x0 x : VV} {Hn : Nat → Option VObj} {n : Nat} : aN ops st.tm o = some true → callee? P G st o.op = some (f, args) →
   au P G f args (restr rd st.H) st.nx (fun y H1 _ => y = x0 ∧ H1 = Hn) (fun _ _ _ => False) → okR (inR rd st.H) st.H rd = true → (∀ β ∈ rd, Hn β = st.H β) → sealN Hn st.nx n x0 = some x →
   QStep P G ops base i o st (st.put o.dst x) rd []
 | callUpd {st : St} {f : FuncId} {args : List VV} {β : Nat} {es' : List (Value × VV)} {x : VV} : aN ops st.tm o = some true → callee? P G st o.op = some (f, args) → UpdC P G f args st.H st.nx β es' x →
   QStep P G ops base i o st { st.put o.dst x with H := (VEff.upd β (.map es')).app (base + i) st.H } [β] [β]
 | callNew {st : St} {f : FuncId} {args cs : List VV} : aN ops st.tm o = some true → callee? P G st o.op = some (f, args) → treeL args = true → NewC P G f args cs →
   QStep P G ops base i o st { st.put o.dst (.agg (cs ++ [.mp (base + i)])) with H := (VEff.new (.map [])).app (base + i) st.H } [] [base + i]
theorem StRep.step {G : Glob} {c c' : Ctx} {W W' : World} {st : St} {a : Act} (hr : StRep G c W st a) (ab : Abides c W c' W') {dst : Option Tmp} {x : VV} {v : Value} {H' : Nat → Option VObj} (hH : c'.H = H') (hx : Rep c' W' x v)
  (hd : ∀ d, dst = some d → d < a.tmps.size) (hu : ∀ β, c'.used β → β < st.nx) : StRep G c' W' { st.put dst x with H := H' } (a.put dst v) where
 H := hH
 tm := by
  have := oM (st := st) (dst := dst) (fun t => Rep.abides ab _ (hr.tm t)) hd hx
  intro t
  have h2 := this t
  cases dst <;> exact h2
 nx := by cases dst <;> exact hu
 df := by
  rw [oN]
  cases dst <;> exact hr.df.abides ab
 G := hr.G.abides ab
theorem NK {P : Program} {o : Oper} {ρ : Operand → VV} {H : Nat → Option VObj} {γ : Nat} {r : VV × VEff} (h : vop P o ρ H γ = some r) : ∀ k, o.op ≠ .defer k := by
 intro k e
 simp [vop, e] at h
theorem tc {P : Program} {G : Glob} {ro : Option Nat} {ops : Array Oper} {base i : Nat} {o : Oper} {st st' : St} {rd wr : List Nat} (hi : ops[i]? = some o) (hq : QStep P G ops base i o st st' rd wr)
  {c : Ctx} {W : World} {a : Act} (s : Sim c W) (hr : StRep G c W st a) (hd : ∀ d, o.dst = some d → d < a.tmps.size) (hγ : ¬ c.used (base + i)) (hnx : base + i < st.nx)
  {K : Act → World → Prop} {Q : Exit → Act → World → Prop}
  (k : ∀ a' W' c', Ext c W c' W' → Sim c' W' → StRep G c' W' st' a' → a'.tmps.size = a.tmps.size → (∀ β, c'.used β → c.used β ∨ β = base + i) → K a' W') :
  wpOpIn (Fw ro) 0 P ops Q i K a W := by
 unfold wpOpIn
 simp only [hi]
 cases hq with
 | skip hw =>
  have hw' := gB hr.tm hw
  rw [if_neg (by rw [hw']; simp)]
  refine ⟨fun _ _ => trivial, k _ W c (Ext.refl c W) s ?_ (by simp) fun _ h => .inl h⟩
  have := hr.step (oO rfl) (dst := o.dst) (x := .lit undef) (v := undef) (H' := st.H) hr.H rfl hd hr.nx
  cases hdst : o.dst <;> rw [hdst] at this <;> exact this
 | @op x eff hw hv =>
  have hw' := gB hr.tm hw
  rw [if_pos hw']
  rw [← hr.H] at hv
  obtain ⟨r, v, W', c', hrun, hrv, hx, he, hs, hH, hu⟩ := KJ s hγ hr.eval hv
  have hK : K (a.put o.dst v) W' := k _ W' c' he hs (hr.step (he.abides s) (by rw [hH, hr.H]) hx hd (fun β hb => by
   rcases hu β hb with h | h
   ·exact hr.nx β h
   ·rw [h]; exact hnx)) (by simp) hu
  refine ⟨fun _ _ => trivial, ?_⟩
  rw [Oper.semAt_eq _ _ _ (NK hv), hrun]
  rcases hrv with rfl | ⟨rfl, rfl⟩
  ·exact hK
  ·exact hK
 | @call f args x hw hf ht hp =>
  have hw' := gB hr.tm hw
  rw [if_pos hw']
  obtain ⟨vs, hvs, hrun, hnd⟩ := ke hr hf hp.1
  refine ⟨fun _ _ => trivial, ?_⟩
  rw [Oper.semAt_eq _ _ _ hnd, hrun, Oper.uponIn_enter]
  refine ⟨fun h => (by cases h), j4 ((hp.2 c.A W vs s.ltA (fun g cs hg => ?_) (jj ht hvs)).mono ?_)⟩
  ·exact hr.G.tree g cs hg
  ·rintro e W' ⟨A', h1, h2, h3, hb, v, rfl, hx⟩
   have he := Ext.more h1 h2 hb
   have hs := Sim.more s h1 h2 h3 hb
   refine k _ W' (c.more A') he hs ?_ (by simp) (fun _ h => .inl h)
   have := hr.step (he.abides s) (dst := o.dst) (x := x) (v := v) (H' := st.H) hr.H (Rep.abides (i5 (fun _ h => h)) _ hx) hd hr.nx
   cases hdst : o.dst <;> rw [hdst] at this <;> exact this
 | @callNew f args cs hw hf ht hp =>
  have hw' := gB hr.tm hw
  rw [if_pos hw']
  obtain ⟨vs, hvs, hrun, hnd⟩ := ke hr hf hp.1
  refine ⟨fun _ _ => trivial, ?_⟩
  rw [Oper.semAt_eq _ _ _ hnd, hrun, Oper.uponIn_enter]
  refine ⟨fun h => (by cases h), j4 ((hp.2 c.A W vs s.ltA (fun g cs hg => ?_) (jj ht hvs)).mono ?_)⟩
  ·exact hr.G.tree g cs hg
  ·rintro e W' ⟨A', h1, h2, h3, hb, l, b, ents, clk, rfl, q8, q2, q3, q4, q5, q6⟩
   have he := Ext.more h1 h2 hb
   have hs := Sim.more s h1 h2 h3 hb
   have hγ' : ¬ (c.more A').used (base + i) := hγ
   have hbut : But W' W' b := But.refl W' b
   have e1 : Ext c W ((c.more A').push c.H (base + i) (.map []) b 0) W' :=
    { Ext.push (c := c) (ar.refl _) hγ (.inl q2) ⟨fun k hk _ => hb.block k hk, hb.size, hb.os, hb.tape, hb.output⟩ with A := h1, newA := fun b hA => (h2 b hA).imp id .inl }
   have s1 : Sim ((c.more A').push c.H (base + i) (.map []) b 0) W' := by
    have j5 : Abides (c.more A') W' ((c.more A').push c.H (base + i) (.map []) b 0) W' :=
     ⟨fun _ h => h, fun _ _ => rfl, fun _ h => .inr h, fun β hu hl => by
      rcases Ctx.push_live hl with e | ⟨_, h⟩
      ·exact absurd (e ▸ hu) hγ'
      ·exact h, fun β hu _ => by
      have : β ≠ base + i := fun e => hγ' (e ▸ hu)
      simp [Ctx.push, this], fun β hu _ => by
      have : β ≠ base + i := fun e => hγ' (e ▸ hu)
      simp [Ctx.push, this]⟩
    refine ⟨fun β hl => ?_, fun β ob hob => ?_, fun β hl => ?_, fun β hl => ?_, fun β δ hl hl' e => ?_, h3⟩
    ·rcases Ctx.push_live hl with e | ⟨_, h⟩
     ·exact .inl e
     ·exact .inr (s.used β h)
    ·by_cases e : β = base + i
     ·subst e
      simp [Ctx.push] at hob
      subst hob
      exact ⟨ents, clk, by simpa [Ctx.push] using q5, by simp [q6], by rw [q6]; rfl⟩
     ·have hob' : c.H β = some ob := by simpa [Ctx.push, e] using hob
      have hl : c.live β := by simp [Ctx.live, hob']
      refine (hs.obj β ob hob').abides j5 (s.used β hl) (by simp [Ctx.live, Ctx.push, e, hob']) rfl ?_
      intro st pe tm ps as bo df e'
      subst e'
      obtain ⟨ds, hds⟩ := s.loopOk hob'
      by_cases e2 : df = base + i
      ·exact absurd (e2 ▸ s.used df (by simp [Ctx.live, hds])) hγ
      ·exact ⟨ds, by simpa [Ctx.push, e2] using hds⟩
    ·rcases Ctx.push_live hl with e | ⟨e, h⟩
     ·simpa [Ctx.push, e] using q3
     ·simp only [Ctx.push, e, if_false]; exact hs.lt β h
    ·rcases Ctx.push_live hl with e | ⟨e, h⟩
     ·simp only [Ctx.push, e, if_true]; exact q4
     ·simp only [Ctx.push, e, if_false]; exact hs.notA β h
    ·rcases Ctx.push_live hl with ex | ⟨ex, hx⟩ <;> rcases Ctx.push_live hl' with ey | ⟨ey, hy⟩
     ·rw [ex, ey]
     ·simp [Ctx.push, ex, ey] at e
      have := s.lt δ hy
      have e' : b = c.φ δ := e
      omega
     ·simp [Ctx.push, ex, ey] at e
      have := s.lt β hx
      have e' : c.φ β = b := e
      omega
     ·simp [Ctx.push, ex, ey] at e; exact s.inj β δ hx hy e
   refine k _ W' _ e1 s1 ?_ (by simp) (fun β h => h.symm)
   refine hr.step (e1.abides s) (H' := (VEff.new (.map [])).app (base + i) st.H) ?_ ?_ hd ?_
   ·rw [← hr.H]; rfl
   ·refine ⟨_, rfl, RepL.append (RepL.abides ?_ _ q8) ⟨_, [], rfl, ⟨⟨.inl rfl, rfl⟩, fun _ => by simp [Ctx.push]⟩, rfl⟩⟩
    exact i5 (fun _ h => h)
   ·intro β hb
    rcases hb with h | h
    ·rw [h]; exact hnx
    ·exact hr.nx β h
 | @callOwn f args cs len es hw hf ht hp =>
  have hw' := gB hr.tm hw
  rw [if_pos hw']
  obtain ⟨vs, hvs, hrun, hnd⟩ := ke hr hf hp.1
  refine ⟨fun _ _ => trivial, ?_⟩
  rw [Oper.semAt_eq _ _ _ hnd, hrun, Oper.uponIn_enter]
  refine ⟨fun h => (by cases h), j4 ((hp.2 c.A W vs s.ltA (fun g cs hg => ?_) (jj ht hvs)).mono ?_)⟩
  ·exact hr.G.tree g cs hg
  ·rintro e W' ⟨A', h1, h2, h3, hb, b, arr, elem, cap, rfl, q1, q2, q3, q4, q5, q6, q7, q8⟩
   have he := Ext.more h1 h2 hb
   have hs := Sim.more s h1 h2 h3 hb
   have hγ' : ¬ (c.more A').used (base + i) := hγ
   have hbut : But W' W' b := But.refl W' b
   have e1 : Ext c W ((c.more A').push c.H (base + i) (.cells none cs) b arr.size) W' :=
    { Ext.push (c := c) (ar.refl _) hγ (.inl q2) ⟨fun k hk _ => hb.block k hk, hb.size, hb.os, hb.tape, hb.output⟩ with A := h1, newA := fun b hA => (h2 b hA).imp id .inl }
   have s1 : Sim ((c.more A').push c.H (base + i) (.cells none cs) b arr.size) W' := by
    have j5 : Abides (c.more A') W' ((c.more A').push c.H (base + i) (.cells none cs) b arr.size) W' :=
     ⟨fun _ h => h, fun _ _ => rfl, fun _ h => .inr h, fun β hu hl => by
      rcases Ctx.push_live hl with e | ⟨_, h⟩
      ·exact absurd (e ▸ hu) hγ'
      ·exact h, fun β hu _ => by
      have : β ≠ base + i := fun e => hγ' (e ▸ hu)
      simp [Ctx.push, this], fun β hu _ => by
      have : β ≠ base + i := fun e => hγ' (e ▸ hu)
      simp [Ctx.push, this]⟩
    refine ⟨fun β hl => ?_, fun β ob hob => ?_, fun β hl => ?_, fun β hl => ?_, fun β δ hl hl' e => ?_, h3⟩
    ·rcases Ctx.push_live hl with e | ⟨_, h⟩
     ·exact .inl e
     ·exact .inr (s.used β h)
    ·by_cases e : β = base + i
     ·subst e
      simp [Ctx.push] at hob
      subst hob
      exact ⟨arr, elem, by simpa [Ctx.push] using q5, by simp [Ctx.push], q7, RepL.abides (i5 (fun _ h => h)) _ q8, fun _ h => by cases h⟩
     ·have hob' : c.H β = some ob := by simpa [Ctx.push, e] using hob
      have hl : c.live β := by simp [Ctx.live, hob']
      refine (hs.obj β ob hob').abides j5 (s.used β hl) (by simp [Ctx.live, Ctx.push, e, hob']) rfl ?_
      intro st pe tm ps as bo df e'
      subst e'
      obtain ⟨ds, hds⟩ := s.loopOk hob'
      by_cases e2 : df = base + i
      ·exact absurd (e2 ▸ s.used df (by simp [Ctx.live, hds])) hγ
      ·exact ⟨ds, by simpa [Ctx.push, e2] using hds⟩
    ·rcases Ctx.push_live hl with e | ⟨e, h⟩
     ·simpa [Ctx.push, e] using q3
     ·simp only [Ctx.push, e, if_false]; exact hs.lt β h
    ·rcases Ctx.push_live hl with e | ⟨e, h⟩
     ·simp only [Ctx.push, e, if_true]; exact q4
     ·simp only [Ctx.push, e, if_false]; exact hs.notA β h
    ·rcases Ctx.push_live hl with ex | ⟨ex, hx⟩ <;> rcases Ctx.push_live hl' with ey | ⟨ey, hy⟩
     ·rw [ex, ey]
     ·simp [Ctx.push, ex, ey] at e
      have := s.lt δ hy
      have e' : b = c.φ δ := e
      omega
     ·simp [Ctx.push, ex, ey] at e
      have := s.lt β hx
      have e' : c.φ β = b := e
      omega
     ·simp [Ctx.push, ex, ey] at e; exact s.inj β δ hx hy e
   refine k _ W' _ e1 s1 ?_ (by simp) (fun β h => h.symm)
   refine hr.step (e1.abides s) (H' := (VEff.new (.cells none cs)).app (base + i) st.H) ?_ ?_ hd ?_
   ·rw [← hr.H]; rfl
   ·exact mg q1 q6 q1
   ·intro β hb
    rcases hb with h | h
    ·rw [h]; exact hnx
    ·exact hr.nx β h
 | @callFrame f args rd x0 x Hn n hw hf hv hok hsame hx =>
  have hw' := gB hr.tm hw
  rw [if_pos hw']
  obtain ⟨vs, hvs, hrun, hnd⟩ := ke hr hf hv.1
  rw [← hr.H] at hv hok hsame
  refine ⟨fun _ _ => trivial, ?_⟩
  rw [Oper.semAt_eq _ _ _ hnd, hrun, Oper.uponIn_enter]
  refine ⟨fun h => (by cases h), j4 ((zj s hv hr.nx hr.G hvs hok hsame hx).mono ?_)⟩
  rintro e W' ⟨v, A', rfl, he, hs, hrx⟩
  refine k _ W' (c.more A') he hs ?_ (by simp) (fun _ h => .inl h)
  have := hr.step (he.abides s) (dst := o.dst) (x := x) (v := v) (H' := st.H) hr.H hrx hd hr.nx
  cases hdst : o.dst <;> rw [hdst] at this <;> exact this
 | @callUpd f args β es' x hw hf hu =>
  have hw' := gB hr.tm hw
  rw [if_pos hw']
  obtain ⟨es, h1, h2, h3⟩ := hu
  obtain ⟨vs, hvs, hrun, hnd⟩ := ke hr hf h3.1
  rw [← hr.H] at h1 h3
  refine ⟨fun _ _ => trivial, ?_⟩
  rw [Oper.semAt_eq _ _ _ hnd, hrun, Oper.uponIn_enter]
  refine ⟨fun h => (by cases h), j4 ((KK s h1 h2 h3 hr.nx hr.G hvs).mono ?_)⟩
  rintro e W' ⟨v, A', rfl, he, hs, hrx⟩
  refine k _ W' ((c.more A').upd β (.map es')) he hs ?_ (by simp) (fun _ h => .inl h)
  have := hr.step (he.abides s) (dst := o.dst) (x := x) (v := v) (H' := (VEff.upd β (.map es')).app (base + i) st.H) (by rw [← hr.H]; rfl) hrx hd hr.nx
  exact this
 | @callSeen f args args' x hw hf hse hp hfl =>
  have hw' := gB hr.tm hw
  rw [if_pos hw']
  obtain ⟨vs, hvs, hrun, hnd⟩ := ke hr hf hp.1
  rw [← hr.H] at hse
  have hvs' := (mh s (ar.refl _) fuelS).2 _ _ _ hse hvs
  have hA : ∀ b, heldIn c c.H b → b < W.heap.size := by
   rintro b (h | ⟨β, hl, e⟩)
   ·exact s.ltA b h
   ·exact e ▸ s.lt β hl
  have hG : GOk G (PCtx (heldIn c c.H)) W := hr.G.tree.abides (i5 (fun b hb => Or.inl hb))
  refine ⟨fun _ _ => trivial, ?_⟩
  rw [Oper.semAt_eq _ _ _ hnd, hrun, Oper.uponIn_enter]
  refine ⟨fun h => (by cases h), j4 ((hp.2 _ W vs hA hG hvs').mono ?_)⟩
  ·rintro e W' ⟨A0, g1, g2, g3, hb, v, rfl, dq⟩
   have h1 : ∀ b, c.A b → c.A b := fun _ h => h
   have h2 : ∀ b, c.A b → c.A b ∨ W.heap.size ≤ b := fun _ h => .inl h
   have h3 : ∀ b, c.A b → b < W'.heap.size := fun b hA => Nat.lt_of_lt_of_le (s.ltA b hA) hb.size
   have he := Ext.more h1 h2 hb
   have hs := Sim.more s h1 h2 h3 hb
   refine k _ W' (c.more c.A) he hs ?_ (by simp) (fun _ h => .inl h)
   have := hr.step (he.abides s) (dst := o.dst) (x := x) (v := v) (H' := st.H) hr.H (xd hfl dq) hd hr.nx
   cases hdst : o.dst <;> rw [hdst] at this <;> exact this
 | @callSeenOwn f args args' cs len es hw hf hse hp hfl =>
  have hw' := gB hr.tm hw
  rw [if_pos hw']
  obtain ⟨vs, hvs, hrun, hnd⟩ := ke hr hf hp.1
  rw [← hr.H] at hse
  have hvs' := (mh s (ar.refl _) fuelS).2 _ _ _ hse hvs
  have hA : ∀ b, heldIn c c.H b → b < W.heap.size := by
   rintro b (h | ⟨β, hl, e⟩)
   ·exact s.ltA b h
   ·exact e ▸ s.lt β hl
  have hG : GOk G (PCtx (heldIn c c.H)) W := hr.G.tree.abides (i5 (fun b hb => Or.inl hb))
  refine ⟨fun _ _ => trivial, ?_⟩
  rw [Oper.semAt_eq _ _ _ hnd, hrun, Oper.uponIn_enter]
  refine ⟨fun h => (by cases h), j4 ((hp.2 _ W vs hA hG hvs').mono ?_)⟩
  ·rintro e W' ⟨A0, g1, g2, g3, hb, b, arr, elem, cap, rfl, q1, q2, q3, NL, q5, q6, q7, zk⟩
   have h1 : ∀ b, c.A b → c.A b := fun _ h => h
   have h2 : ∀ b, c.A b → c.A b ∨ W.heap.size ≤ b := fun _ h => .inl h
   have h3 : ∀ b, c.A b → b < W'.heap.size := fun b hA => Nat.lt_of_lt_of_le (s.ltA b hA) hb.size
   have q4 : ¬ c.A b := fun h => by have := s.ltA b h; omega
   have q8 : RepL (PCtx c.A) W' cs (arr.toList.take cs.length) := oP hfl zk
   have he := Ext.more h1 h2 hb
   have hs := Sim.more s h1 h2 h3 hb
   have hγ' : ¬ (c.more c.A).used (base + i) := hγ
   have hbut : But W' W' b := But.refl W' b
   have e1 : Ext c W ((c.more c.A).push c.H (base + i) (.cells none cs) b arr.size) W' :=
    { Ext.push (c := c) (ar.refl _) hγ (.inl q2) ⟨fun k hk _ => hb.block k hk, hb.size, hb.os, hb.tape, hb.output⟩ with A := h1, newA := fun b hA => (h2 b hA).imp id .inl }
   have s1 : Sim ((c.more c.A).push c.H (base + i) (.cells none cs) b arr.size) W' := by
    have j5 : Abides (c.more c.A) W' ((c.more c.A).push c.H (base + i) (.cells none cs) b arr.size) W' :=
     ⟨fun _ h => h, fun _ _ => rfl, fun _ h => .inr h, fun β hu hl => by
      rcases Ctx.push_live hl with e | ⟨_, h⟩
      ·exact absurd (e ▸ hu) hγ'
      ·exact h, fun β hu _ => by
      have : β ≠ base + i := fun e => hγ' (e ▸ hu)
      simp [Ctx.push, this], fun β hu _ => by
      have : β ≠ base + i := fun e => hγ' (e ▸ hu)
      simp [Ctx.push, this]⟩
    refine ⟨fun β hl => ?_, fun β ob hob => ?_, fun β hl => ?_, fun β hl => ?_, fun β δ hl hl' e => ?_, h3⟩
    ·rcases Ctx.push_live hl with e | ⟨_, h⟩
     ·exact .inl e
     ·exact .inr (s.used β h)
    ·by_cases e : β = base + i
     ·subst e
      simp [Ctx.push] at hob
      subst hob
      exact ⟨arr, elem, by simpa [Ctx.push] using q5, by simp [Ctx.push], q7, RepL.abides (i5 (fun _ h => h)) _ q8, fun _ h => by cases h⟩
     ·have hob' : c.H β = some ob := by simpa [Ctx.push, e] using hob
      have hl : c.live β := by simp [Ctx.live, hob']
      refine (hs.obj β ob hob').abides j5 (s.used β hl) (by simp [Ctx.live, Ctx.push, e, hob']) rfl ?_
      intro st pe tm ps as bo df e'
      subst e'
      obtain ⟨ds, hds⟩ := s.loopOk hob'
      by_cases e2 : df = base + i
      ·exact absurd (e2 ▸ s.used df (by simp [Ctx.live, hds])) hγ
      ·exact ⟨ds, by simpa [Ctx.push, e2] using hds⟩
    ·rcases Ctx.push_live hl with e | ⟨e, h⟩
     ·simpa [Ctx.push, e] using q3
     ·simp only [Ctx.push, e, if_false]; exact hs.lt β h
    ·rcases Ctx.push_live hl with e | ⟨e, h⟩
     ·simp only [Ctx.push, e, if_true]; exact q4
     ·simp only [Ctx.push, e, if_false]; exact hs.notA β h
    ·rcases Ctx.push_live hl with ex | ⟨ex, hx⟩ <;> rcases Ctx.push_live hl' with ey | ⟨ey, hy⟩
     ·rw [ex, ey]
     ·simp [Ctx.push, ex, ey] at e
      have := s.lt δ hy
      have e' : b = c.φ δ := e
      omega
     ·simp [Ctx.push, ex, ey] at e
      have := s.lt β hx
      have e' : c.φ β = b := e
      omega
     ·simp [Ctx.push, ex, ey] at e; exact s.inj β δ hx hy e
   refine k _ W' _ e1 s1 ?_ (by simp) (fun β h => h.symm)
   refine hr.step (e1.abides s) (H' := (VEff.new (.cells none cs)).app (base + i) st.H) ?_ ?_ hd ?_
   ·rw [← hr.H]; rfl
   ·exact mg q1 q6 q1
   ·intro β hb
    rcases hb with h | h
    ·rw [h]; exact hnx
    ·exact hr.nx β h
def aZ (st : St) (dst : Option Tmp) (x : VV) (eff : VEff) (γ : Nat) : St := { st.put dst x with H := eff.app γ st.H }
theorem fY (st : St) (dst : Option Tmp) (x : VV) (γ : Nat) : aZ st dst x .none γ = st.put dst x := by cases dst <;> rfl
theorem KL {st : St} {dst : Option Tmp} {x : VV} {eff : VEff} {γ t : Nat} (h : ∀ d, dst = some d → d ≠ t) : (aZ st dst x eff γ).tm t = st.tm t := by
 cases dst with
 | none => rfl
 | some d =>
  have : ¬ t = d := fun e => h d rfl e.symm
  simp [aZ, St.put, this]
theorem ρ_congr {G : Glob} {st cC : St} {o : Oper} {ops : Array Oper} (h : ∀ t ∈ o.looksAt ops, cC.tm t = st.tm t) : ∀ y ∈ o.op.operands, st.ρ G y = cC.ρ G y := by
 intro y hy
 cases y with
 | tmp t => exact (h t (List.mem_append_left _ (List.mem_filterMap.2 ⟨.tmp t, by simpa using hy, rfl⟩))).symm
 | _ => rfl
theorem kf {ops : Array Oper} {st cC : St} {o : Oper} (h : ∀ t ∈ o.looksAt ops, cC.tm t = st.tm t) : aN ops cC.tm o = aN ops st.tm o := by
 unfold aN
 cases hg : o.guard with
 | none => rfl
 | some p =>
  obtain ⟨j, w⟩ := p
  simp only
  cases hd : (ops[j]?).bind (·.dst) with
  | none => rfl
  | some d =>
   have : cC.tm d = st.tm d := h d (List.mem_append_right _ (by simp [hg, hd]))
   simp only [this]
theorem mZ {P : Program} {G : Glob} {st cC : St} {o : Oper} (h : ∀ y ∈ o.op.operands, st.ρ G y = cC.ρ G y) : callee? P G cC o.op = callee? P G st o.op := by
 unfold callee?
 cases ho : o.op <;> try rfl
 rename_i k
 rw [ho] at h
 simp only
 have h2 : k.args.toList.map (cC.ρ G) = k.args.toList.map (st.ρ G) := List.map_congr_left fun y hy => (h y (by simp [Op.operands, Call.operands]; exact .inr (by simpa using hy))).symm
 cases hk : k.callee <;> try rfl
 ·rename_i fo
  have h1 := h fo (by simp [Op.operands, Call.operands, hk])
  simp only [h1, h2]
 ·rename_i r m
  have h1 := h r (by simp [Op.operands, Call.operands, hk])
  simp only [h1, h2]
theorem KM {o : Oper} {ρ ρ' : Operand → VV} (h : ∀ y ∈ o.op.operands, ρ y = ρ' y) : rdV o ρ = rdV o ρ' := by
 unfold rdV
 have : ∀ l : List Operand, (∀ y ∈ l, ρ y = ρ' y) → (l.filterMap fun y => topName (ρ y)) = l.filterMap fun y => topName (ρ' y) := by
  intro l
  induction l with
  | nil => intro _; rfl
  | cons y l ih =>
   intro hl
   simp only [List.filterMap_cons, hl y (by simp), ih (fun z hz => hl z (by simp [hz]))]
 exact this _ (fun y hy => h y (zl hy))
theorem QStep.transport {P : Program} {G : Glob} {ops : Array Oper} {base i : Nat} {o : Oper} {st st' : St} {rd wr : List Nat} (h : QStep P G ops base i o st st' rd wr) :
  ∃ x eff, st' = aZ st o.dst x eff (base + i) ∧ wr = eff.wr (base + i) ∧
   ∀ cC : St, (∀ t ∈ o.looksAt ops, cC.tm t = st.tm t) → (∀ β ∈ rd, cC.H β = st.H β) → cC.nx = st.nx → QStep P G ops base i o cC (aZ cC o.dst x eff (base + i)) rd wr := by
 cases h with
 | skip hw =>
  refine ⟨.lit undef, .none, (fY ..).symm, rfl, fun cC h1 _ _ => ?_⟩
  rw [fY]
  exact .skip (by rw [kf h1]; exact hw)
 | @op x eff hw hv =>
  refine ⟨x, eff, rfl, rfl, fun cC h1 h2 hn => ?_⟩
  have hρ := ρ_congr (G := G) h1
  rw [KM hρ]
  refine .op (by rw [kf h1]; exact hw) ?_
  rw [← hv]
  exact (KN hρ (fun β hb => (h2 β hb).symm)).symm
 | @call f args x hw hf ht hp =>
  refine ⟨x, .none, (fY ..).symm, rfl, fun cC h1 h2 hn => ?_⟩
  rw [fY]
  exact .call (by rw [kf h1]; exact hw) (by rw [mZ (ρ_congr h1)]; exact hf) ht hp
 | @callOwn f args cs len es hw hf ht hp =>
  refine ⟨.ref (base + i) 0 len es len, .new (.cells none cs), rfl, rfl, fun cC h1 h2 hn => ?_⟩
  exact .callOwn (by rw [kf h1]; exact hw) (by rw [mZ (ρ_congr h1)]; exact hf) ht hp
 | @callNew f args cs hw hf ht hp =>
  refine ⟨.agg (cs ++ [.mp (base + i)]), .new (.map []), rfl, rfl, fun cC h1 h2 hn => ?_⟩
  exact .callNew (by rw [kf h1]; exact hw) (by rw [mZ (ρ_congr h1)]; exact hf) ht hp
 | @callUpd f args β es' x hw hf hu =>
  refine ⟨x, .upd β (.map es'), rfl, rfl, fun cC h1 h2 hn => ?_⟩
  exact .callUpd (by rw [kf h1]; exact hw) (by rw [mZ (ρ_congr h1)]; exact hf) (by rw [hn]; exact hu.congr (h2 β (List.mem_singleton.2 rfl)))
 | @callSeen f args args' x hw hf hse hp hfl =>
  refine ⟨x, .none, (fY ..).symm, rfl, fun cC h1 h2 hn => ?_⟩
  rw [fY]
  have hc := (KO (H := st.H) (H' := cC.H) fuelS).2 args h2
  rw [← hc.2]
  exact .callSeen (by rw [kf h1]; exact hw) (by rw [mZ (ρ_congr h1)]; exact hf) (hc.1.trans hse) hp hfl
 | @callSeenOwn f args args' cs len es hw hf hse hp hfl =>
  refine ⟨.ref (base + i) 0 len es len, .new (.cells none cs), rfl, rfl, fun cC h1 h2 hn => ?_⟩
  have hc := (KO (H := st.H) (H' := cC.H) fuelS).2 args h2
  rw [← hc.2]
  exact .callSeenOwn (by rw [kf h1]; exact hw) (by rw [mZ (ρ_congr h1)]; exact hf) (hc.1.trans hse) hp hfl
 | @callFrame f args rd x0 x Hn n hw hf hv hok hsame hx =>
  refine ⟨x, .none, (fY ..).symm, rfl, fun cC h1 h2 hn => ?_⟩
  rw [fY]
  exact .callFrame (by rw [kf h1]; exact hw) (by rw [mZ (ρ_congr h1)]; exact hf) (by rw [zm h2, hn]; exact hv) (KP h2 hok) (fun β hb => (hsame β hb).trans (h2 β hb).symm)
   (by rw [hn]; exact hx)
theorem NM {st : St} {d d' : Option Tmp} {x x' : VV} {e e' : VEff} {γ γ' : Nat} (hd : ∀ t, d = some t → d' ≠ some t) (hw : ∀ β ∈ e.wr γ, β ∉ e'.wr γ') :
  aZ (aZ st d x e γ) d' x' e' γ' = aZ (aZ st d' x' e' γ') d x e γ := by
 have h1 : ((aZ st d x e γ).put d' x').tm = ((aZ st d' x' e' γ').put d x).tm := by
  cases d <;> cases d' <;> simp only [aZ, St.put] <;> try rfl
  rename_i t t'
  funext i
  have hne : t ≠ t' := fun h => hd t rfl (by rw [h])
  by_cases e1 : i = t
  ·subst e1; simp [hne]
  ·simp [e1]
 have h2 : e'.app γ' (e.app γ st.H) = e.app γ (e'.app γ' st.H) := zn hw
 unfold aZ at h1 ⊢
 cases d <;> cases d' <;> simp only [St.put] at h1 ⊢ <;> simp [h2, h1]
theorem QStep.comm {P : Program} {G : Glob} {ops : Array Oper} {base i j : Nat} {oi oj : Oper} {st s1 s2 : St} {rdi wri rdj wrj : List Nat} (hi : QStep P G ops base i oi st s1 rdi wri) (hj : QStep P G ops base j oj s1 s2 rdj wrj)
  (hap : oi.apart ops oj = true) (h1 : ∀ β ∈ wri, β ∉ rdj) (h2 : ∀ β ∈ wri, β ∉ wrj) (h3 : ∀ β ∈ wrj, β ∉ rdi) :
  ∃ s1', QStep P G ops base j oj st s1' rdj wrj ∧ QStep P G ops base i oi s1' s2 rdi wri := by
 obtain ⟨a1, a2, a3⟩ := Oper.apart_spec hap
 obtain ⟨x, e, rfl, rfl, ti⟩ := hi.transport
 obtain ⟨y, f, rfl, rfl, tj⟩ := hj.transport
 have hj' := tj st (fun t ht => (KL fun d hd e => a1 d hd (e ▸ ht)).symm) (fun β hb => by
  show st.H β = e.app (base + i) st.H β
  rw [na fun hm => h1 β hm hb]) (by cases oi.dst <;> rfl)
 have hi' := ti (aZ st oj.dst y f (base + j)) (fun t ht => KL fun d hd e => a3 d hd (e ▸ ht)) (fun β hb => by
  show f.app (base + j) st.H β = st.H β
  rw [na fun hm => h3 β hm hb]) (by cases oj.dst <;> rfl)
 refine ⟨_, hj', ?_⟩
 rw [NM a2 h2]
 exact hi'
def aA (ops : Array Oper) : Nat → Nat → Nat → Bool
 | 0, _, _ => false
 | n + 1, i, j => match ops[j]? with
  | some o => o.after.any fun e => Region.binds .any e && (e.on == i || aA ops n i e.on)
  | none => false
def Closed (ops : Array Oper) (listed : Array Bool) : Prop :=
 ∀ j, listed.getD j false = true → ∀ o, ops[j]? = some o → ∀ e ∈ o.after, Region.binds .any e = true → listed.getD e.on false = true
def preOk (ops : Array Oper) (listed : Array Bool) (j : Nat) : Prop := ∀ o, ops[j]? = some o → ∀ e ∈ o.after, Region.binds .any e = true → listed.getD e.on false = true
theorem td {ops : Array Oper} {listed : Array Bool} (hc : Closed ops listed) : ∀ (n i j : Nat), preOk ops listed j → aA ops n i j = true → listed.getD i false = true
 | 0, _, _, _, h => by simp [aA] at h
 | n + 1, i, j, hp, h => by
  unfold aA at h
  split at h
  ·rename_i o ho
   rw [Array.any_eq_true'] at h
   obtain ⟨e, he, hb⟩ := h
   simp only [Bool.and_eq_true, Bool.or_eq_true, beq_iff_eq] at hb
   have hl := hp o ho e he hb.1
   rcases hb.2 with h | h
   ·rw [← h]; exact hl
   ·exact td hc n i e.on (fun o' ho' e' he' hb' => hc e.on hl o' ho' e' he' hb') h
  ·cases h
theorem te {ops : Array Oper} {listed : Array Bool} {j : Nat} (h : j ∈ Region.ready .any ops listed) : j < ops.size ∧ listed.getD j true = false ∧ preOk ops listed j := by
 unfold Region.ready at h
 rw [List.mem_filter] at h
 obtain ⟨h1, h2⟩ := h
 simp only [Bool.and_eq_true, Bool.not_eq_true'] at h2
 refine ⟨by simpa using h1, h2.1, fun o ho e he hb => ?_⟩
 have h3 := h2.2
 simp only [ho, Option.map_some, Option.getD_some] at h3
 have := Array.all_eq_true'.1 h3 e he
 simpa [hb] using this
abbrev Tr := List (Nat × List Nat × List Nat)
def Indep (p q : Nat × List Nat × List Nat) : Prop := (∀ β ∈ p.2.2, β ∉ q.2.1 ∧ β ∉ q.2.2) ∧ (∀ β ∈ q.2.2, β ∉ p.2.1)
def TraceOk (ops : Array Oper) (tr : Tr) : Prop :=
 tr.Pairwise fun p q => aA ops ops.size p.1 q.1 = true ∨ (Indep p q ∧ ∀ o o', ops[p.1]? = some o → ops[q.1]? = some o' → o.apart ops o' = true)
inductive QSteps (P : Program) (G : Glob) (ops : Array Oper) (base : Nat) : List Nat → St → St → Tr → Prop
 | nil {st : St} : QSteps P G ops base [] st st []
 | cons {i : Nat} {l : List Nat} {o : Oper} {st s1 s2 : St} {rd wr : List Nat} {tr : Tr} : ops[i]? = some o → QStep P G ops base i o st s1 rd wr → QSteps P G ops base l s1 s2 tr →
   QSteps P G ops base (i :: l) st s2 ((i, rd, wr) :: tr)
theorem QSteps.fst {P : Program} {G : Glob} {ops : Array Oper} {base : Nat} : ∀ {l : List Nat} {st st' : St} {tr : Tr}, QSteps P G ops base l st st' tr → tr.map (·.1) = l
 | _, _, _, _, .nil => rfl
 | _, _, _, _, .cons _ _ h => by simp [h.fst]
theorem QSteps.pull {P : Program} {G : Glob} {ops : Array Oper} {base : Nat} {j : Nat} : ∀ {l : List Nat} {st st' : St} {tr : Tr}, QSteps P G ops base l st st' tr → j ∈ l → TraceOk ops tr →
  (∀ i ∈ l, aA ops ops.size i j = false) →
  ∃ o rd wr s1 tr', ops[j]? = some o ∧ QStep P G ops base j o st s1 rd wr ∧ QSteps P G ops base (l.erase j) s1 st' tr' ∧ TraceOk ops tr' ∧ (∀ p ∈ tr', p ∈ tr) ∧ (j, rd, wr) ∈ tr
 | _, _, _, _, .nil, hj, _, _ => by cases hj
 | _, _, _, _, @QSteps.cons _ _ _ _ i l o st s1 s2 rd wr tr ho hq hs, hj, htr, hb => by
  by_cases e : i = j
  ·subst e
   refine ⟨o, rd, wr, s1, tr, ho, hq, ?_, (List.pairwise_cons.1 htr).2, fun p hp => List.mem_cons_of_mem _ hp, List.mem_cons_self ..⟩
   rw [List.erase_cons_head]
   exact hs
  ·have hj' : j ∈ l := by
    rcases List.mem_cons.1 hj with h | h
    ·exact absurd h.symm e
    ·exact h
   obtain ⟨oj, rdj, wrj, t1, tr', hoj, hqj, hsj, htr', hsub, hmem⟩ := QSteps.pull hs hj' (List.pairwise_cons.1 htr).2 (fun k hk => hb k (List.mem_cons_of_mem _ hk))
   have hpair := (List.pairwise_cons.1 htr).1 (j, rdj, wrj) hmem
   rcases hpair with h | ⟨⟨i1, i2⟩, hap⟩
   ·rw [hb i (List.mem_cons_self ..)] at h; cases h
   ·obtain ⟨u, hJ, fg⟩ := hq.comm hqj (hap o oj ho hoj) (fun β hb => (i1 β hb).1) (fun β hb => (i1 β hb).2) i2
    refine ⟨oj, rdj, wrj, u, (i, rd, wr) :: tr', hoj, hJ, ?_, ?_, ?_, List.mem_cons_of_mem _ hmem⟩
    ·rw [List.erase_cons_tail (by simpa using e)]
     exact .cons ho fg hsj
    ·exact List.pairwise_cons.2 ⟨fun p hp => (List.pairwise_cons.1 htr).1 p (hsub p hp), htr'⟩
    ·intro p hp
     rcases List.mem_cons.1 hp with rfl | hp
     ·exact List.mem_cons_self ..
     ·exact List.mem_cons_of_mem _ (hsub p hp)
end Go.V
end
section
namespace Go.V
open Go
inductive VExit where
 | normal
 | exit (id : Nat)
 | goto (l : Nat)
 | ret
 | panic (x : VV)
def ERep (c : Ctx) (W : World) : VExit → Exit → Prop
 | .normal, e => e = .normal
 | .exit id, e => e = .exit id
 | .goto l, e => e = .goto l
 | .ret, e => e = .ret
 | .panic x, e => ∃ v, e = .panic [{ v, recovered := false }] ∧ Rep c W x v
def Lift (G : Glob) (n : Nat) (c8 : Nat) (c0 : Ctx) (W0 : World) (Q : VExit → St → Prop) : Exit → Act → World → Prop := fun e a W =>
 ∃ ve c st, ERep c W ve e ∧ Ext c0 W0 c W ∧ Sim c W ∧ StRep G c W st a ∧ a.tmps.size = n ∧ (∀ β, c.used β → c0.used β ∨ c8 ≤ β) ∧ c8 ≤ st.nx ∧ Q ve st
def RoOk (G : Glob) (c : Ctx) (ro : Option Nat) : Prop := match G.rg with
 | none => True
 | some none => ro = none
 | some (some β) => c.used β ∧ (c.live β → ro = some (c.φ β))
theorem RoOk.ext {G : Glob} {c c' : Ctx} {W W' : World} {ro : Option Nat} (h : RoOk G c ro) (he : Ext c W c' W') : RoOk G c' ro := by
 unfold RoOk at h ⊢
 split
 ·trivial
 ·rename_i e; rw [e] at h; exact h
 ·rename_i β e; rw [e] at h
  exact ⟨he.used β h.1, fun hl => by rw [he.φ β h.1 hl]; exact h.2 (he.live β h.1 hl)⟩
def VWp (P : Program) (G : Glob) (n : Nat) (code : Code) (Q : VExit → St → Prop) (st : St) : Prop :=
 ∀ ro c W a, RoOk G c ro → Sim c W → StRep G c W st a → a.tmps.size = n → code.wpIn (Fw ro) 0 P (Lift G n st.nx c W Q) a W
def VExit.then (next : St → Prop) (Q : VExit → St → Prop) : VExit → St → Prop
 | .normal, st => next st
 | e, st => Q e st
section rules
variable {P : Program} {G : Glob} {n : Nat} {Q : VExit → St → Prop} {st : St}
theorem Lift.of_ext {c8 dc : Nat} {c0 c1 : Ctx} {W0 W1 : World} {e : Exit} {a : Act} {W : World} (he : Ext c0 W0 c1 W1) (hu : ∀ β, c1.used β → c0.used β ∨ c8 ≤ β) (hle : c8 ≤ dc) (h : Lift G n dc c1 W1 Q e a W) :
  Lift G n c8 c0 W0 Q e a W := by
 obtain ⟨ve, c, st, h1, h2, h3, h4, h5, h6, h7, h8⟩ := h
 refine ⟨ve, c, st, h1, he.trans h2, h3, h4, h5, fun β hb => ?_, Nat.le_trans hle h7, h8⟩
 rcases h6 β hb with h | h
 ·exact hu β h
 ·exact .inr (Nat.le_trans hle h)
theorem VWp.mono {code : Code} {Q' : VExit → St → Prop} (h : VWp P G n code Q st) (hq : ∀ e s, Q e s → Q' e s) : VWp P G n code Q' st :=
 fun ro c W a hro s hr hs => wpIn_mono (h ro c W a hro s hr hs) fun _ _ _ ⟨ve, c', st', h1, h2, h3, h4, h5, h6, h7, h8⟩ => ⟨ve, c', st', h1, h2, h3, h4, h5, h6, h7, hq _ _ h8⟩
theorem Lift.mk' {ve : VExit} {e : Exit} {c : Ctx} {W : World} {a : Act} (s : Sim c W) (hr : StRep G c W st a) (hs : a.tmps.size = n) (he : ERep c W ve e) (hq : Q ve st) : Lift G n st.nx c W Q e a W :=
 ⟨ve, c, st, he, Ext.refl c W, s, hr, hs, fun _ h => .inl h, Nat.le_refl _, hq⟩
theorem VWp.skip (h : Q .normal st) : VWp P G n .skip Q st := fun _ _ _ _ _ s hr hs => wpIn_skip (Lift.mk' (ve := .normal) s hr hs rfl h)
theorem VWp.label {l : Nat} (h : Q .normal st) : VWp P G n (.label l) Q st := fun _ _ _ _ _ s hr hs => wpIn_label (Lift.mk' (ve := .normal) s hr hs rfl h)
theorem VWp.exit {id : Nat} (h : Q (.exit id) st) : VWp P G n (.exit id) Q st := fun _ _ _ _ _ s hr hs => wpIn_exit (Lift.mk' (ve := .exit id) s hr hs rfl h)
theorem VWp.ret (h : Q .ret st) : VWp P G n .ret Q st := fun _ _ _ _ _ s hr hs => wpIn_ret (Lift.mk' (ve := .ret) s hr hs rfl h)
theorem VWp.seq {x y : Code} (h : VWp P G n x (VExit.then (VWp P G n y Q) Q) st) : VWp P G n (.seq x y) Q st := by
 intro ro c W a hro s hr hs
 refine wpIn_seq (wpIn_mono (h ro c W a hro s hr hs) ?_)
 rintro e a' W' ⟨ve, c', st', h1, h2, h3, h4, h5, h6, h7, h8⟩
 cases ve with
 | normal =>
  have e1 : e = .normal := h1
  subst e1
  exact wpIn_mono (h8 ro c' W' a' (hro.ext h2) h3 h4 h5) fun _ _ _ hl => hl.of_ext h2 h6 h7
 | exit id => have e1 : e = .exit id := h1; subst e1; exact ⟨_, c', st', h1, h2, h3, h4, h5, h6, h7, h8⟩
 | goto l => have e1 : e = .goto l := h1; subst e1; exact ⟨_, c', st', h1, h2, h3, h4, h5, h6, h7, h8⟩
 | ret => have e1 : e = .ret := h1; subst e1; exact ⟨_, c', st', h1, h2, h3, h4, h5, h6, h7, h8⟩
 | panic x =>
  obtain ⟨v, e1, hv⟩ := h1
  subst e1
  exact ⟨.panic x, c', st', ⟨v, rfl, hv⟩, h2, h3, h4, h5, h6, h7, h8⟩
theorem VWp.cond {cnd : Operand} {x y : Code} {t : Bool} (hc : st.ρ G cnd = .lit (.bool t)) (h : VWp P G n (if t then x else y) Q st) : VWp P G n (.cond cnd x y) Q st := by
 intro ro c W a hro s hr hs
 have := hr.eval cnd
 rw [hc] at this
 exact wpIn_cond (show a.eval cnd = .bool t from this) (h ro c W a hro s hr hs)
def VExit.inBlock (id : Nat) (Q : VExit → St → Prop) : VExit → St → Prop
 | .exit id', st => if id' = id then Q .normal st else Q (.exit id') st
 | e, st => Q e st
theorem VWp.block {id : Nat} {x : Code} (h : VWp P G n x (VExit.inBlock id Q) st) : VWp P G n (.block id x) Q st := by
 intro ro c W a hro s hr hs
 refine wpIn_block (wpIn_mono (h ro c W a hro s hr hs) ?_)
 rintro e a' W' ⟨ve, c', st', h1, h2, h3, h4, h5, h6, h7, h8⟩
 cases ve with
 | exit i =>
  have e1 : e = .exit i := h1
  subst e1
  simp only [Exit.inBlock]
  simp only [VExit.inBlock] at h8
  split
  ·rename_i hi
   rw [if_pos hi] at h8
   exact ⟨.normal, c', st', rfl, h2, h3, h4, h5, h6, h7, h8⟩
  ·rename_i hi
   rw [if_neg hi] at h8
   exact ⟨.exit i, c', st', rfl, h2, h3, h4, h5, h6, h7, h8⟩
 | normal => have e1 : e = .normal := h1; subst e1; exact ⟨_, c', st', h1, h2, h3, h4, h5, h6, h7, h8⟩
 | goto l => have e1 : e = .goto l := h1; subst e1; exact ⟨_, c', st', h1, h2, h3, h4, h5, h6, h7, h8⟩
 | ret => have e1 : e = .ret := h1; subst e1; exact ⟨_, c', st', h1, h2, h3, h4, h5, h6, h7, h8⟩
 | panic x =>
  obtain ⟨v, e1, hv⟩ := h1
  subst e1
  exact ⟨.panic x, c', st', ⟨v, rfl, hv⟩, h2, h3, h4, h5, h6, h7, h8⟩
theorem VWp.loop {x : Code} (I : Nat → St → Prop) {m : Nat} (h0 : I m st) (round : ∀ m st, I m st → VWp P G n x (VExit.then (fun st' => ∃ m', m' < m ∧ I m' st') Q) st) : VWp P G n (.loop x) Q st := by
 intro ro c W a hro s hr hs
 have key : ∀ m st, I m st → ∀ c W a, RoOk G c ro → Sim c W → StRep G c W st a → a.tmps.size = n → Code.roundsIn (Fw ro) 0 P x (Lift G n st.nx c W Q) (m + 1) a W := by
  intro m
  induction m using Nat.strongRecOn with
  | _ m ih =>
   intro st hI c W a hro s hr hs
   rw [roundsIn_succ]
   refine wpIn_mono (round m st hI ro c W a hro s hr hs) ?_
   rintro e a' W' ⟨ve, c', st', h1, h2, h3, h4, h5, h6, h7, h8⟩
   cases ve with
   | normal =>
    have e1 : e = .normal := h1
    subst e1
    obtain ⟨m', hlt, hI'⟩ := h8
    have hrec := ih m' hlt st' hI' c' W' a' (hro.ext h2) h3 h4 h5
    show Code.roundsIn (Fw ro) 0 P x (Lift G n st.nx c W Q) m a' W'
    have more : ∀ k k' a W (Q Q' : Exit → Act → World → Prop), k ≤ k' → (∀ e a w, Q e a w → Q' e a w) → Code.roundsIn (Fw ro) 0 P x Q k a W → Code.roundsIn (Fw ro) 0 P x Q' k' a W := by
     intro k
     induction k with
     | zero => intro k' a W Q Q' _ _ h; exact h.elim
     | succ k ihk =>
      intro k' a W Q Q' hle hq h
      obtain ⟨k'', rfl⟩ : ∃ k'', k' = k'' + 1 := ⟨k' - 1, by omega⟩
      rw [roundsIn_succ] at h ⊢
      refine wpIn_mono h fun e a w he => ?_
      cases e with
      | normal => exact ihk k'' a w Q Q' (by omega) hq he
      | exit id => exact hq _ _ _ he
      | goto l => exact hq _ _ _ he
      | ret => exact hq _ _ _ he
      | panic ch => exact hq _ _ _ he
      | outgrown => exact hq _ _ _ he
    exact more (m' + 1) m a' W' _ _ hlt (fun _ _ _ hl => hl.of_ext h2 h6 h7) hrec
   | exit id => have e1 : e = .exit id := h1; subst e1; exact ⟨_, c', st', h1, h2, h3, h4, h5, h6, h7, h8⟩
   | goto l => have e1 : e = .goto l := h1; subst e1; exact ⟨_, c', st', h1, h2, h3, h4, h5, h6, h7, h8⟩
   | ret => have e1 : e = .ret := h1; subst e1; exact ⟨_, c', st', h1, h2, h3, h4, h5, h6, h7, h8⟩
   | panic x =>
    obtain ⟨v, e1, hv⟩ := h1
    subst e1
    exact ⟨.panic x, c', st', ⟨v, rfl, hv⟩, h2, h3, h4, h5, h6, h7, h8⟩
 exact wpIn_loop_rounds (m + 1) (key m st h0 c W a hro s hr hs)
end rules
def aH (P : Program) (G : Glob) (n : Nat) (ops : Array Oper) (base i : Nat) (st : St) (K : St → Prop) (Qp : VV → St → Prop) : Prop :=
 ∀ ro c W a (Kr : Act → World → Prop) (Q : Exit → Act → World → Prop), RoOk G c ro → Sim c W → StRep G c W st a → a.tmps.size = n → ¬ c.used (base + i) → base + i < st.nx →
  (∀ a' W' c' st', Ext c W c' W' → Sim c' W' → StRep G c' W' st' a' → a'.tmps.size = n → (∀ β, c'.used β → c.used β ∨ β = base + i ∨ st.nx ≤ β) → st.nx ≤ st'.nx → K st' → Kr a' W') →
  (∀ a' W' c' st' x v, Ext c W c' W' → Sim c' W' → StRep G c' W' st' a' → a'.tmps.size = n → (∀ β, c'.used β → c.used β ∨ β = base + i ∨ st.nx ≤ β) → st.nx ≤ st'.nx → Rep c' W' x v → Qp x st' →
   Q (.panic [{ v, recovered := false }]) a' W') →
  wpOpIn (Fw ro) 0 P ops Q i Kr a W
def aX (n : Nat) (ops : Array Oper) : Bool := ops.all (dstIn n)
theorem j6 {n : Nat} {ops : Array Oper} (h : aX n ops = true) {i : Nat} {o : Oper} (ho : ops[i]? = some o) : ∀ d, o.dst = some d → d < n := by
 intro d hd
 have := (Array.all_eq_true_iff_forall_mem.1 h) o (Array.mem_of_getElem? ho)
 simpa [dstIn, hd] using this
theorem QStep.nx {P : Program} {G : Glob} {ops : Array Oper} {base i : Nat} {o : Oper} {st st' : St} {rd wr : List Nat} (h : QStep P G ops base i o st st' rd wr) : st'.nx = st.nx := by
 obtain ⟨x, eff, rfl, _⟩ := h.transport
 cases o.dst <;> rfl
theorem aH.quiet {P : Program} {G : Glob} {n : Nat} {ops : Array Oper} {base i : Nat} {o : Oper} {st st' : St} {rd wr : List Nat} {K : St → Prop} {Qp : VV → St → Prop} (ho : ops[i]? = some o) (hd : aX n ops = true)
  (hq : QStep P G ops base i o st st' rd wr) (hk : K st') : aH P G n ops base i st K Qp := by
 intro ro c W a Kr Q _ s hr hs hγ hnx k _
 refine tc ho hq s hr (by rw [hs]; exact j6 hd ho) hγ hnx ?_
 intro a' W' c' he hs' hr' hsz hu
 exact k a' W' c' st' he hs' hr' (hsz.trans hs) (fun β hb => (hu β hb).imp id .inl) (by rw [hq.nx]; exact Nat.le_refl _) hk
def VSeq (P : Program) (G : Glob) (n : Nat) (ops : Array Oper) (base : Nat) (Q : VExit → St → Prop) : List Nat → St → Prop
 | [], st => Q .normal st
 | i :: l, st => aH P G n ops base i st (VSeq P G n ops base Q l) (fun x st' => Q (.panic x) st')
theorem KQ {P : Program} {G : Glob} {n : Nat} {ops : Array Oper} {base : Nat} {Q : VExit → St → Prop} {ro : Option Nat} {c8 : Nat} {c0 : Ctx} {W0 : World} : ∀ (l : List Nat) (st : St) (c : Ctx) (W : World) (a : Act),
  VSeq P G n ops base Q l st → l.Nodup → (∀ i ∈ l, i < ops.size) → base + ops.size ≤ st.nx → c8 ≤ base → RoOk G c ro → Sim c W → StRep G c W st a → a.tmps.size = n → (∀ i ∈ l, ¬ c.used (base + i)) →
  Ext c0 W0 c W → (∀ β, c.used β → c0.used β ∨ c8 ≤ β) → wpOpsIn (Fw ro) 0 P ops (Lift G n c8 c0 W0 Q) l a W
 | [], st, c, W, a, h, _, _, hb, hn, _, s, hr, hs, _, he, hu => ⟨.normal, c, st, rfl, he, s, hr, hs, hu, by omega, h⟩
 | i :: l, st, c, W, a, h, hnd, hlt, hb, hn, hro, s, hr, hs, hf, he, hu => by
  rw [wpOpsIn_cons]
  have hi := hlt i (List.mem_cons_self ..)
  rw [List.nodup_cons] at hnd
  have hu' : ∀ {c' : Ctx}, (∀ β, c'.used β → c.used β ∨ β = base + i ∨ st.nx ≤ β) → ∀ β, c'.used β → c0.used β ∨ c8 ≤ β := by
   intro c' h1 β hβ
   rcases h1 β hβ with h | h | h
   ·exact hu β h
   ·right; omega
   ·right; omega
  refine h ro c W a _ _ hro s hr hs (hf i (List.mem_cons_self ..)) (by omega) ?_ ?_
  ·intro a' W' c' st' he' hs' hr' hsz h1 h2 hk
   refine KQ l st' c' W' a' hk hnd.2 (fun j hj => hlt j (List.mem_cons_of_mem _ hj)) (by omega) hn (hro.ext he') hs' hr' hsz (fun j hj hbad => ?_) (he.trans he') (hu' h1)
   have hj' := hlt j (List.mem_cons_of_mem _ hj)
   rcases h1 _ hbad with h | h | h
   ·exact hf j (List.mem_cons_of_mem _ hj) h
   ·have : j = i := by omega
    exact hnd.1 (this ▸ hj)
   ·omega
  ·intro a' W' c' st' x v he' hs' hr' hsz h1 h2 hv hq
   exact ⟨.panic x, c', st', ⟨v, rfl, hv⟩, he.trans he', hs', hr', hsz, hu' h1, by omega, hq⟩
theorem VWp.region {P : Program} {G : Glob} {n id : Nat} {ops : Array Oper} {Q : VExit → St → Prop} {st : St} (h : VSeq P G n ops st.nx Q (List.range ops.size) { st with nx := st.nx + ops.size }) :
  VWp P G n (.region id ops false) Q st := by
 intro ro c W a hro s hr hs
 refine wpIn_region (KQ (List.range ops.size) _ c W a h List.nodup_range (fun i hi => List.mem_range.1 hi) (Nat.le_refl _) (Nat.le_refl _) hro s ?_ hs ?_ (Ext.refl c W) (fun _ h => .inl h))
 ·exact ⟨hr.H, hr.tm, fun β hb => Nat.lt_of_lt_of_le (hr.nx β hb) (Nat.le_add_right _ _), hr.df, hr.G⟩
 ·intro i _ hb
  have := hr.nx _ hb
  omega
def backOk (ops : Array Oper) : Bool := (List.range ops.size).all fun j => match ops[j]? with
 | some o => o.after.all fun e => !Region.binds .any e || decide (e.on < j)
 | none => true
theorem KR {ops : Array Oper} (h : backOk ops = true) {j : Nat} {o : Oper} (ho : ops[j]? = some o) {e : Edge} (he : e ∈ o.after) (hb : Region.binds .any e = true) : e.on < j := by
 unfold backOk at h
 rw [List.all_eq_true] at h
 have h1 := h j (List.mem_range.2 (Array.getElem?_eq_some_iff.1 ho).1)
 rw [ho] at h1
 have := Array.all_eq_true'.1 h1 e he
 simpa [hb] using this
def VDraw (P : Program) (G : Glob) (n : Nat) (ops : Array Oper) (base : Nat) (Q : VExit → St → Prop) : List (List Nat × Nat) → List Nat → St → Prop
 | [], l, st => ∃ st' tr, QSteps P G ops base l st st' tr ∧ TraceOk ops tr ∧ Q .normal st'
 | (l, b) :: rest, last, st => ∃ st' tr, QSteps P G ops base l st st' tr ∧ TraceOk ops tr ∧ aH P G n ops base b st' (VDraw P G n ops base Q rest last) (fun x st' => Q (.panic x) st')
def flat : List (List Nat × Nat) → List Nat → List Nat
 | [], l => l
 | (l, b) :: rest, last => l ++ b :: flat rest last
def barOk (ops : Array Oper) : List (List Nat × Nat) → List Nat → Bool
 | [], _ => true
 | (l, b) :: rest, last => (l.all fun i => aA ops ops.size i b) && ((flat rest last).all fun i => aA ops ops.size b i) && barOk ops rest last
end Go.V
end
section
namespace Go.V
open Go
def Left (ops : Array Oper) (listed : Array Bool) (l : List Nat) : Prop :=
 listed.size = ops.size ∧ l.Nodup ∧ ∀ i, i ∈ l ↔ (i < ops.size ∧ listed.getD i true = false)
theorem Left.set {ops : Array Oper} {listed : Array Bool} {l : List Nat} (h : Left ops listed l) {j : Nat} (hj : j ∈ l) : Left ops (listed.setIfInBounds j true) (l.erase j) := by
 obtain ⟨h1, h2, h3⟩ := h
 refine ⟨by simpa using h1, h2.erase j, fun i => ?_⟩
 rw [h2.mem_erase_iff, h3 i]
 have hjlt : j < listed.size := by rw [h1]; exact ((h3 j).1 hj).1
 by_cases e : i = j
 ·subst e
  simp [hjlt]
 ·have e' : ¬ j = i := fun h => e h.symm
  simp [e, Array.getElem?_setIfInBounds_ne e']
theorem Left.unlisted {ops : Array Oper} {listed : Array Bool} {l : List Nat} (h : Left ops listed l) {i : Nat} (hi : i ∈ l) : listed.getD i false = false := by
 obtain ⟨h1, _, h3⟩ := h
 have := (h3 i).1 hi
 have hlt : i < listed.size := by rw [h1]; exact this.1
 simpa [hlt] using this.2
theorem Closed.set {ops : Array Oper} {listed : Array Bool} (hc : Closed ops listed) {j : Nat} (hp : preOk ops listed j) (hj : j < listed.size) : Closed ops (listed.setIfInBounds j true) := by
 have mono : ∀ k, listed.getD k false = true → (listed.setIfInBounds j true).getD k false = true := by
  intro k hk
  by_cases e : k = j
  ·subst e; simp [hj]
  ·have e' : ¬ j = k := fun h => e h.symm
   simpa [Array.getElem?_setIfInBounds_ne e'] using hk
 intro k hk o ho e he hb
 by_cases ek : k = j
 ·subst ek; exact mono _ (hp o ho e he hb)
 ·have e' : ¬ j = k := fun h => ek h.symm
  have hk' : listed.getD k false = true := by simpa [Array.getElem?_setIfInBounds_ne e'] using hk
  exact mono _ (hc k hk' o ho e he hb)
theorem oQ {ops : Array Oper} {listed : Array Bool} {l : List Nat} (h : Left ops listed l) {j : Nat} (hj : j ∈ Region.ready .any ops listed) : j ∈ l := by
 obtain ⟨h1, h2, _⟩ := te hj
 exact (h.2.2 j).2 ⟨h1, h2⟩
theorem xe {ops : Array Oper} {listed : Array Bool} {l : List Nat} (hb : backOk ops = true) (h : Left ops listed l) (hr : Region.ready .any ops listed = []) : l = [] := by
 have key : ∀ n i, i ≤ n → i ∉ l := by
  intro n
  induction n with
  | zero =>
   intro i hi hmem
   have zo : i = 0 := by omega
   subst zo
   have hm : 0 ∈ Region.ready .any ops listed := by
    unfold Region.ready
    rw [List.mem_filter]
    have := (h.2.2 0).1 hmem
    refine ⟨by simpa using this.1, ?_⟩
    simp only [this.2, Bool.not_false, Bool.true_and]
    have ho : ops[0]? = some ops[0] := Array.getElem?_eq_getElem this.1
    simp only [ho, Option.map_some, Option.getD_some]
    rw [Array.all_eq_true']
    intro e he
    cases hbe : Region.binds .any e with
    | false => simp
    | true => have := KR hb ho he hbe; omega
   rw [hr] at hm; cases hm
  | succ n ih =>
   intro i hi hmem
   rcases Nat.lt_or_ge i (n + 1) with hlt | hge
   ·exact ih i (by omega) hmem
   ·have zo : i = n + 1 := by omega
    subst zo
    have hm : n + 1 ∈ Region.ready .any ops listed := by
     unfold Region.ready
     rw [List.mem_filter]
     have := (h.2.2 (n + 1)).1 hmem
     refine ⟨by simpa using this.1, ?_⟩
     simp only [this.2, Bool.not_false, Bool.true_and]
     have ho : ops[n + 1]? = some ops[n + 1] := Array.getElem?_eq_getElem this.1
     simp only [ho, Option.map_some, Option.getD_some]
     rw [Array.all_eq_true']
     intro e he
     cases hbe : Region.binds .any e with
     | false => simp
     | true =>
      have hlt := KR hb ho he hbe
      have hn := ih e.on (by omega)
      have tf : e.on < listed.size := by rw [h.1]; have := this.1; omega
      have : listed.getD e.on true = true := by
       cases hg : listed.getD e.on true with
       | true => rfl
       | false => exact absurd ((h.2.2 e.on).2 ⟨by rw [← h.1]; exact tf, hg⟩) hn
      simp [tf] at this ⊢
      exact this
    rw [hr] at hm; cases hm
 cases l with
 | nil => rfl
 | cons i l => exact absurd (List.mem_cons_self ..) (key i i (Nat.le_refl _))
theorem zp {P : Program} {G : Glob} {n : Nat} {ops : Array Oper} {base : Nat} {Q : VExit → St → Prop} {ro : Option Nat} {c8 : Nat} {c0 : Ctx} {W0 : World} (hback : backOk ops = true) (hdst : aX n ops = true) :
  ∀ (fuel : Nat) (segs : List (List Nat × Nat)) (last : List Nat) (listed : Array Bool) (st : St) (c : Ctx) (W : World) (a : Act),
  VDraw P G n ops base Q segs last st → Left ops listed (flat segs last) → (flat segs last).length ≤ fuel → Closed ops listed → barOk ops segs last = true → base + ops.size ≤ st.nx → c8 ≤ base →
  RoOk G c ro → Sim c W → StRep G c W st a → a.tmps.size = n → (∀ i ∈ flat segs last, ¬ c.used (base + i)) → Ext c0 W0 c W → (∀ β, c.used β → c0.used β ∨ c8 ≤ β) →
  wpAnyIn (Fw ro) 0 P .any ops (Lift G n c8 c0 W0 Q) fuel listed a W := by
 intro fuel
 induction fuel with
 | zero =>
  intro segs last listed st c W a h hleft hlen hcl hbar hb hn hro s hr hs hf he hu
  have hnil : flat segs last = [] := List.eq_nil_of_length_eq_zero (by omega)
  cases segs with
  | cons p rest => obtain ⟨l, b⟩ := p; simp [flat] at hnil
  | nil =>
   simp only [flat] at hnil hleft
   subst hnil
   obtain ⟨st', tr, hq, _, hQ⟩ := h
   cases hq
   refine ⟨?_, .normal, c, st, rfl, he, s, hr, hs, hu, by omega, hQ⟩
   cases hrd : Region.ready .any ops listed with
   | nil => rfl
   | cons i l => have := oQ hleft (j := i) (by rw [hrd]; exact List.mem_cons_self ..); cases this
 | succ fuel ih =>
  intro segs last listed st c W a h hleft hlen hcl hbar hb hn hro s hr hs hf he hu
  refine ⟨fun hrd => ?_, fun j hj => ?_⟩
  ·have hnil := xe hback hleft hrd
   cases segs with
   | cons p rest => obtain ⟨l, b⟩ := p; simp [flat] at hnil
   | nil =>
    simp only [flat] at hnil hleft
    subst hnil
    obtain ⟨st', tr, hq, _, hQ⟩ := h
    cases hq
    exact ⟨.normal, c, st, rfl, he, s, hr, hs, hu, by omega, hQ⟩
  ·have hjl := oQ hleft hj
   obtain ⟨hjlt, _, hpre⟩ := te hj
   have hjlt' : j < listed.size := by rw [hleft.1]; exact hjlt
   have hno : ∀ i ∈ flat segs last, aA ops ops.size i j = false := by
    intro i hi
    cases hbf : aA ops ops.size i j with
    | false => rfl
    | true =>
     have h1 := td hcl _ _ _ hpre hbf
     rw [hleft.unlisted hi] at h1
     cases h1
   have hcl' := hcl.set hpre hjlt'
   have hnd := hleft.2.1
   have hlt : ∀ i ∈ flat segs last, i < ops.size := fun i hi => ((hleft.2.2 i).1 hi).1
   have quiet : ∀ (l : List Nat) (tail : List Nat) (st' : St) (tr : Tr) (mk : List Nat → List Nat), QSteps P G ops base l st st' tr → TraceOk ops tr → j ∈ l → (∀ i ∈ l, i ∈ flat segs last) →
     (∀ (s1 : St) (tr' : Tr), QSteps P G ops base (l.erase j) s1 st' tr' → TraceOk ops tr' → ∃ segs' last', VDraw P G n ops base Q segs' last' s1 ∧ flat segs' last' = (flat segs last).erase j ∧ barOk ops segs' last' = true) →
     wpOpIn (Fw ro) 0 P ops (Lift G n c8 c0 W0 Q) j (wpAnyIn (Fw ro) 0 P .any ops (Lift G n c8 c0 W0 Q) fuel (listed.setIfInBounds j true)) a W := by
    intro l tail st' tr _ hq htr hjm hsub hgo
    obtain ⟨o, rd, wr, s1, tr', ho, hqj, hqs, htr', _, _⟩ := hq.pull hjm htr (fun i hi => hno i (hsub i hi))
    obtain ⟨segs', last', hd', hflat, hbar'⟩ := hgo s1 tr' hqs htr'
    refine tc ho hqj s hr (by rw [hs]; exact j6 hdst ho) (hf j hjl) (by omega) ?_
    intro a' W' c' he' hs' hr' hsz hu'
    refine ih segs' last' _ s1 c' W' a' hd' (by rw [hflat]; exact hleft.set hjl) ?_ hcl' hbar' (by rw [hqj.nx]; exact hb) hn (hro.ext he') hs' hr' (hsz.trans hs) ?_ (he.trans he') ?_
    ·rw [hflat, List.length_erase_of_mem hjl]; omega
    ·intro i hi hbad
     rw [hflat, hnd.mem_erase_iff] at hi
     rcases hu' _ hbad with h | h
     ·exact hf i hi.2 h
     ·exact hi.1 (by omega)
    ·intro β hβ
     rcases hu' β hβ with h | h
     ·exact hu β h
     ·right; omega
   cases segs with
   | nil =>
    obtain ⟨st', tr, hq, htr, hQ⟩ := h
    refine quiet last [] st' tr id hq htr hjl (fun i hi => hi) fun s1 tr' hqs htr' => ⟨[], last.erase j, ⟨st', tr', hqs, htr', hQ⟩, rfl, rfl⟩
   | cons p rest =>
    obtain ⟨l, b⟩ := p
    obtain ⟨st', tr, hq, htr, hB⟩ := h
    simp only [flat] at hjl hno hnd hlt hleft hlen hf hno
    simp only [barOk, Bool.and_eq_true, List.all_eq_true] at hbar
    by_cases hjm : j ∈ l
    ·refine quiet l [] st' tr id hq htr hjm (fun i hi => by simp only [flat]; exact List.mem_append_left _ hi) fun s1 tr' hqs htr' => ⟨(l.erase j, b) :: rest, last, ⟨st', tr', hqs, htr', hB⟩, ?_, ?_⟩
     ·simp only [flat]
      rw [List.erase_append_left _ hjm]
     ·simp only [barOk, Bool.and_eq_true, List.all_eq_true]
      exact ⟨⟨fun i hi => hbar.1.1 i (List.mem_of_mem_erase hi), hbar.1.2⟩, hbar.2⟩
    ·have hjb : j = b := by
      rcases List.mem_append.1 hjl with h | h
      ·exact absurd h hjm
      ·rcases List.mem_cons.1 h with h | h
       ·exact h
       ·have h1 := hbar.1.2 j h
        rw [hno b (by simp)] at h1; cases h1
     subst hjb
     have hlnil : l = [] := by
      cases l with
      | nil => rfl
      | cons i l' =>
       have h1 := hbar.1.1 i (List.mem_cons_self ..)
       rw [hno i (by simp)] at h1; cases h1
     subst hlnil
     cases hq
     simp only [List.nil_append] at *
     refine hB ro c W a _ _ hro s hr hs (hf j (List.mem_cons_self ..)) (by omega) ?_ ?_
     ·intro a' W' c' s1 he' hs' hr' hsz hu' hnx hk
      have her : (j :: flat rest last).erase j = flat rest last := List.erase_cons_head ..
      refine ih rest last _ s1 c' W' a' hk (by have := hleft.set hjl; rwa [her] at this) (by simp at hlen; omega) hcl' hbar.2 (by omega) hn (hro.ext he') hs' hr' hsz ?_ (he.trans he') ?_
      ·intro i hi hbad
       have hi' := hlt i (List.mem_cons_of_mem _ hi)
       rcases hu' _ hbad with h | h | h
       ·exact hf i (List.mem_cons_of_mem _ hi) h
       ·have : i = j := by omega
        exact (List.nodup_cons.1 hnd).1 (this ▸ hi)
       ·omega
      ·intro β hβ
       rcases hu' β hβ with h | h | h
       ·exact hu β h
       ·right; omega
       ·right; omega
     ·intro a' W' c' s1 x v he' hs' hr' hsz hu' hnx hv hq
      refine ⟨.panic x, c', s1, ⟨v, rfl, hv⟩, he.trans he', hs', hr', hsz, fun β hβ => ?_, by omega, hq⟩
      rcases hu' β hβ with h | h | h
      ·exact hu β h
      ·right; omega
      ·right; omega
theorem VWp.regionDraw {P : Program} {G : Glob} {n id : Nat} {ops : Array Oper} {Q : VExit → St → Prop} {st : St} (hm : P.follows .mixedOrders = true) (segs : List (List Nat × Nat)) (last : List Nat)
  (hstat : (backOk ops && aX n ops && barOk ops segs last && decide (flat segs last = List.range ops.size)) = true) (h : VDraw P G n ops st.nx Q segs last { st with nx := st.nx + ops.size }) :
  VWp P G n (.region id ops true) Q st := by
 intro ro c W a hro s hr hs
 simp only [Bool.and_eq_true, decide_eq_true_eq] at hstat
 obtain ⟨⟨⟨hback, hdst⟩, hbar⟩, hflat⟩ := hstat
 refine wpIn_region_any hm (zp hback hdst ops.size segs last _ _ c W.drew a h ?_ (by rw [hflat]; simp) ?_ hbar (Nat.le_refl _) (Nat.le_refl _) (hro.ext (Ext.drew c W)) s.drew ?_ hs ?_ (Ext.drew c W) (fun _ h => .inl h))
 ·refine ⟨by simp, by rw [hflat]; exact List.nodup_range, fun i => ?_⟩
  rw [hflat, List.mem_range]
  constructor
  ·intro hi; exact ⟨hi, by simp [hi]⟩
  ·intro hi; exact hi.1
 ·intro j hj
  exfalso
  by_cases hlt : j < ops.size
  ·simp [hlt] at hj
  ·simp [hlt] at hj
 ·have ab : Abides c W c W.drew := oO rfl
  exact ⟨hr.H, fun t => Rep.abides ab _ (hr.tm t), fun β hb => Nat.lt_of_lt_of_le (hr.nx β hb) (Nat.le_add_right _ _), hr.df.abides ab, hr.G.abides ab⟩
 ·intro i _ hb
  have := hr.nx _ hb
  omega
def aO (P : Program) (st : St) : ResultVar → Option VV
 | .tmp t => some (st.tm t)
 | .cell a t => match tgt st.H (st.tm a) with
  | some cs => vload P t cs
  | none => none
def resL (P : Program) (st : St) : List ResultVar → Option (List VV)
 | [] => some []
 | r :: rs => match aO P st r, resL P st rs with
  | some x, some xs => some (x :: xs)
  | _, _ => none
def resV (P : Program) (st : St) (rs : List ResultVar) : Option VV :=
 match resL P st rs with
 | some [x] => some x
 | some xs => some (.tup xs)
 | none => none
theorem KS {P : Program} {G : Glob} {c : Ctx} {W : World} {st : St} {a : Act} (s : Sim c W) (hr : StRep G c W st a) : ∀ (rs : List ResultVar) {xs : List VV}, resL P st rs = some xs →
  ∃ l, (rs.mapM (fun (r : ResultVar) => (match r with
   | .tmp t => pure (a.tmps.getD t undef)
   | .cell x t => do loadVar t (← asAddr (a.tmps.getD x undef)) : Sem Value))).run P W = .ok l W ∧ RepL c W xs l
 | [], xs, h => by simp [resL] at h; subst h; exact ⟨[], by simp, rfl⟩
 | r :: rs, xs, h => by
  unfold resL at h
  split at h
  ·rename_i x ys hx hys
   cases h
   obtain ⟨l, hl, hrl⟩ := KS s hr rs hys
   have h1 : ∃ v, (match r with
     | .tmp t => pure (a.tmps.getD t undef)
     | .cell x t => do loadVar t (← asAddr (a.tmps.getD x undef)) : Sem Value).run P W = .ok v W ∧ Rep c W x v := by
    cases r with
    | tmp t => simp [aO] at hx; subst hx; exact ⟨_, rfl, hr.tm t⟩
    | cell p t =>
     simp only [aO] at hx
     split at hx
     ·rename_i cs hcs
      rw [← hr.H] at hcs
      obtain ⟨b, o, hv, hc⟩ := tg s hcs (hr.tm p)
      obtain ⟨v, hload, hrv⟩ := KT hx hc
      exact ⟨v, by simp only [Sem.run_bind]; rw [hv]; simp only [asAddr, Sem.run_pure, Result.andThen_ok, hload], hrv⟩
     ·cases hx
   obtain ⟨v, hv, hrv⟩ := h1
   exact ⟨v :: l, by simp only [List.mapM_cons, Sem.run_bind, hv, Result.andThen_ok, hl, Sem.run_pure], v, l, rfl, hrv, hrl⟩
  ·cases h
theorem th {P : Program} {G : Glob} {c : Ctx} {W : World} {st : St} {a : Act} (s : Sim c W) (hr : StRep G c W st a) {fn : Func} {x : VV} (h : resV P st fn.results.toList = some x) :
  ∃ v, (results fn a.tmps).run P W = .ok v W ∧ Rep c W x v := by
 unfold resV at h
 have main : ∀ xs, resL P st fn.results.toList = some xs → ∃ l, (fn.results.mapM (fun (r : ResultVar) => (match r with
   | .tmp t => pure (a.tmps.getD t undef)
   | .cell x t => do loadVar t (← asAddr (a.tmps.getD x undef)) : Sem Value))).run P W = .ok ⟨l⟩ W ∧ RepL c W xs l := by
  intro xs hxs
  obtain ⟨l, hl, hrl⟩ := KS (P := P) s hr _ hxs
  refine ⟨l, ?_, hrl⟩
  rw [Array.mapM_eq_mapM_toList, Sem.run_map, hl]
  rfl
 split at h
 ·rename_i y hy
  cases h
  obtain ⟨l, hl, hrl⟩ := main _ hy
  obtain ⟨u, us, rfl, h1, h2⟩ := hrl
  have : us = [] := h2
  subst this
  refine ⟨u, ?_, h1⟩
  simp only [results, Sem.run_bind]
  exact (congrArg (fun r => Result.andThen r _) hl).trans rfl
 ·rename_i xs hne hxs
  cases h
  obtain ⟨l, hl, hrl⟩ := main _ hxs
  have hlen := hrl.length
  have h1 : l.length ≠ 1 := by
   intro e
   rw [e] at hlen
   cases xs with
   | nil => simp at hlen
   | cons y ys => cases ys with
    | nil => exact hne y rfl
    | cons z zs => simp at hlen
  refine ⟨.tuple ⟨l⟩, ?_, l, rfl, hrl⟩
  simp only [results, Sem.run_bind]
  refine (congrArg (fun r => Result.andThen r _) hl).trans ?_
  show Sem.run P (pure (if h : (⟨l⟩ : Array Value).size = 1 then (⟨l⟩ : Array Value)[0] else .tuple ⟨l⟩)) W = _
  rw [dif_neg (by simpa using h1)]
  rfl
 ·cases h
def argsTm (args : List VV) : Nat → VV := fun t => (args[t]?).getD (.lit undef)
def SealsTo (H : Nat → Option VObj) (x : VV) : PRes → Prop
 | .tree y => ∃ n, sealV H n x = some y
 | .own cs len es => ∃ n β el j7, (∃ cp, x = .ref β 0 len es cp) ∧ H β = some (.cells el j7) ∧ sealL (without H β) n j7 = some cs
 | .panic _ => False
def PurePost (P : Program) (fn : Func) (r : PRes) : VExit → St → Prop
 | .normal, st | .ret, st => st.df = [] ∧ ∃ x, resV P st fn.results.toList = some x ∧ SealsTo st.H x r
 | .panic x, st => st.df = [] ∧ ∃ y n, r = .panic y ∧ sealV st.H n x = some y
 | _, _ => False
theorem tk {A : Nat → Prop} {W : World} (h : ∀ b, A b → b < W.heap.size) : Sim (PCtx A) W :=
 ⟨fun _ h => by simp [PCtx, Ctx.live] at h, fun _ _ h => by simp [PCtx] at h, fun _ h => by simp [PCtx, Ctx.live] at h, fun _ h => by simp [PCtx, Ctx.live] at h, fun _ _ h => by simp [PCtx, Ctx.live] at h, h⟩
theorem tl {A : Nat → Prop} {c' : Ctx} {W W' : World} (h : Ext (PCtx A) W c' W') : RowKit.Below W.heap.size W W' :=
 ⟨h.os, h.tape, h.output, h.size, fun k hk => h.keep k hk fun β hl => by simp [PCtx, Ctx.live] at hl⟩
theorem ak.of_body {P : Program} {G : Glob} {f : FuncId} {fn : Func} {code : Code} {args : List VV} {r : PRes} (hc : Callable P f) (hf : P.funcs[f]? = some fn) (hb : fn.body = some code) (hn : args.length ≤ fn.ntmps)
  (h : VWp P (G.at (some none)) fn.ntmps code (PurePost P fn r) { tm := argsTm args, H := fun _ => none, nx := 0, df := [] }) : ak P G f args r := by
 refine ⟨hc, fun A W vs hA hG hargs => ?_⟩
 have hlen := hargs.length
 have s := tk hA
 have hr : StRep (G.at (some none)) (PCtx A) W { tm := argsTm args, H := fun _ => none, nx := 0, df := [] } { tmps := (⟨vs⟩ : Array Value) ++ Array.replicate (fn.ntmps - vs.length) undef, defers := [] } := by
  refine ⟨rfl, fun t => ?_, fun β h => h.elim, rfl, hG⟩
  simp only [argsTm]
  by_cases ht : t < vs.length
  ·obtain ⟨x, hx⟩ : ∃ x, args[t]? = some x := ⟨_, List.getElem?_eq_getElem (by omega)⟩
   obtain ⟨u, hu, hru⟩ := RepL.get t hargs hx
   rw [hx]
   have e : ((⟨vs⟩ : Array Value) ++ Array.replicate (fn.ntmps - vs.length) undef).getD t undef = u := by
    have h1 : ((⟨vs⟩ : Array Value) ++ Array.replicate (fn.ntmps - vs.length) undef)[t]? = some u := by
     rw [Array.getElem?_append_left (by simpa using ht)]
     simpa using hu
    rw [Array.getD_eq_getD_getElem?, h1]; rfl
   rw [e]
   exact hru
  ·have hx : args[t]? = none := List.getElem?_eq_none (by omega)
   rw [hx]
   have e : ((⟨vs⟩ : Array Value) ++ Array.replicate (fn.ntmps - vs.length) undef).getD t undef = undef := by
    rw [Array.getD_eq_getD_getElem?, Array.getElem?_append_right (by simpa using ht), Array.getElem?_replicate]
    split <;> rfl
   rw [e]
   rfl
 refine callsIn_of_wp hf hb trivial (wpIn_mono (h none (PCtx A) W _ rfl s hr (by simp; omega)) ?_) rfl
 rintro e a' W' ⟨ve, c', st', he, hext, hs', hr', hsz, hu, _, hq⟩
 have hbelow := tl hext
 have hge : ∀ β, c'.live β → W.heap.size ≤ c'.φ β := by
  intro β hl
  rcases Nat.lt_or_ge (c'.φ β) W.heap.size with h | h
  ·obtain ⟨γ, hγ, _⟩ := hext.old β hl h
   simp [PCtx, Ctx.live] at hγ
  ·exact h
 have KU : ∀ b, A b → heldIn c' st'.H b := fun b hb => .inl (hext.A b hb)
 have hold : ∀ b, c'.A b → A b ∨ W.heap.size ≤ b := by
  intro b hb
  rcases hext.newA b hb with h | h | ⟨β, h, _⟩
  ·exact .inl h
  ·exact .inr h
  ·simp [PCtx, Ctx.live] at h
 have held : ∀ {H0 : Nat → Option VObj}, ar H0 c'.H → ∀ b, heldIn c' H0 b → A b ∨ W.heap.size ≤ b := by
  intro H0 hsub b hb
  rcases hb with h | ⟨β, h, e⟩
  ·exact hold b h
  ·exact .inr (e ▸ hge β (hsub.live h))
 have heldlt : ∀ {H0 : Nat → Option VObj}, ar H0 c'.H → ∀ b, heldIn c' H0 b → b < W'.heap.size := by
  intro H0 hsub b hb
  rcases hb with h | ⟨β, h, e⟩
  ·exact hs'.ltA b h
  ·exact e ▸ hs'.lt β (hsub.live h)
 have hsub : ar st'.H c'.H := by rw [hr'.H]; exact ar.refl _
 have finish : ∀ {x : VV}, resV P st' fn.results.toList = some x → SealsTo st'.H x r → ∃ v, (results fn a'.tmps).run P W' = .ok v W' ∧
   (∃ A' : Nat → Prop, (∀ b, A b → A' b) ∧ (∀ b, A' b → A b ∨ W.heap.size ≤ b) ∧ (∀ b, A' b → b < W'.heap.size) ∧ RowKit.Below W.heap.size W W' ∧ PRep W A' W' r (.returned v)) := by
  intro x hx hseal
  obtain ⟨v, hv, hrv⟩ := th hs' hr' hx
  refine ⟨v, hv, ?_⟩
  cases r with
  | tree y =>
   obtain ⟨n, hn⟩ := hseal
   exact ⟨_, KU, held hsub, heldlt hsub, hbelow, v, rfl, (mh hs' hsub n).1 _ _ _ hn hrv⟩
  | own cs len es =>
   obtain ⟨n, β, KV, j7, ⟨cp, rfl⟩, hβ, hn⟩ := hseal
   have hlive : c'.live β := by simp [Ctx.live, hr'.H, hβ]
   obtain ⟨cap, e1, hcap, hroom, _⟩ := hrv.2 hlive
   have hsub' : ar (without st'.H β) c'.H := fun q o ho => hsub q o (ar.without _ _ q o ho)
   obtain ⟨arr, el, g1, g2, g3, g4, _⟩ := hs'.obj β _ (by rw [hr'.H]; exact hβ)
   have hrl := (mh hs' hsub' n).2 _ _ _ hn g4
   have hll := hrl.length
   simp at hll
   refine ⟨heldIn c' (without st'.H β), fun b hb => .inl (hext.A b hb), held hsub', heldlt hsub', hbelow, c'.φ β, arr, el, cap, by rw [e1], hcap, hge β hlive, hs'.lt β hlive, ?_, g1, by omega, by omega, ?_⟩
   ·rintro (h | ⟨γ, h, e⟩)
    ·exact hs'.notA β hlive h
    ·have := hs'.inj γ β (hsub'.live h) hlive e
     subst this
     simp [without] at h
   ·rw [show cs.length = j7.length by omega]; exact hrl
  | panic y => exact hseal.elim
 cases ve with
 | normal =>
  have e1 : e = .normal := he
  subst e1
  obtain ⟨hdf, x, hx, hseal⟩ := hq
  obtain ⟨v, hv, hpost⟩ := finish hx hseal
  have hd := hr'.df
  rw [hdf] at hd
  exact ⟨hd, v, hv, hpost⟩
 | ret =>
  have e1 : e = .ret := he
  subst e1
  obtain ⟨hdf, x, hx, hseal⟩ := hq
  obtain ⟨v, hv, hpost⟩ := finish hx hseal
  have hd := hr'.df
  rw [hdf] at hd
  exact ⟨hd, v, hv, hpost⟩
 | exit id => exact hq.elim
 | goto l => exact hq.elim
 | panic x =>
  obtain ⟨v, e1, hv⟩ := he
  subst e1
  obtain ⟨hdf, y, n, rfl, hn⟩ := hq
  have hd := hr'.df
  rw [hdf] at hd
  exact ⟨hd, _, KU, held hsub, heldlt hsub, hbelow, v, rfl, (mh hs' hsub n).1 _ _ _ hn hv⟩
def upd (f : Nat → VV) (d : Nat) (x : VV) : Nat → VV := fun i => if i = d then x else f i
def updH (H : Nat → Option VObj) (d : Nat) (o : VObj) : Nat → Option VObj := fun i => if i = d then some o else H i
theorem StRep.enter {G : Glob} {c : Ctx} {W : World} {H : Nat → Option VObj} {nx k : Nat} {args : List VV} {vs : List Value} (hH : c.H = H) (hnx : ∀ β, c.used β → β < nx) (hG : GOk G c W) (hargs : RepL c W args vs) :
  StRep G c W { tm := argsTm args, H := H, nx := nx, df := [] } { tmps := (⟨vs⟩ : Array Value) ++ Array.replicate (k - vs.length) undef, defers := [] } := by
 have hlen := hargs.length
 refine ⟨hH, fun t => ?_, hnx, rfl, hG⟩
 simp only [argsTm]
 by_cases ht : t < vs.length
 ·obtain ⟨x, hx⟩ : ∃ x, args[t]? = some x := ⟨_, List.getElem?_eq_getElem (by omega)⟩
  obtain ⟨u, hu, hru⟩ := RepL.get t hargs hx
  rw [hx]
  have e : ((⟨vs⟩ : Array Value) ++ Array.replicate (k - vs.length) undef).getD t undef = u := by
   have h1 : ((⟨vs⟩ : Array Value) ++ Array.replicate (k - vs.length) undef)[t]? = some u := by
    rw [Array.getElem?_append_left (by simpa using ht)]
    simpa using hu
   rw [Array.getD_eq_getD_getElem?, h1]; rfl
  rw [e]
  exact hru
 ·have hx : args[t]? = none := List.getElem?_eq_none (by omega)
  rw [hx]
  have e : ((⟨vs⟩ : Array Value) ++ Array.replicate (k - vs.length) undef).getD t undef = undef := by
   rw [Array.getD_eq_getD_getElem?, Array.getElem?_append_right (by simpa using ht), Array.getElem?_replicate]
   split <;> rfl
  rw [e]
  rfl
def OpenPost' (P : Program) (fn : Func) (R Rp : VV → (Nat → Option VObj) → Nat → Prop) : VExit → St → Prop
 | .ret, s => s.df = [] ∧ ∃ x, resV P s fn.results.toList = some x ∧ R x s.H s.nx
 | .normal, s => s.df = [] ∧ ∃ x, resV P s fn.results.toList = some x ∧ R x s.H s.nx
 | .panic x, s => s.df = [] ∧ Rp x s.H s.nx
 | _, _ => False
theorem au.of_body {P : Program} {G : Glob} {f : FuncId} {fn : Func} {code : Code} {args : List VV} {H : Nat → Option VObj} {nx : Nat} {R Rp : VV → (Nat → Option VObj) → Nat → Prop} (hc : Callable P f) (hf : P.funcs[f]? = some fn)
  (hb : fn.body = some code) (hn : args.length ≤ fn.ntmps) (h : VWp P (G.at (some none)) fn.ntmps code (OpenPost' P fn R Rp) { tm := argsTm args, H, nx, df := [] }) : au P G f args H nx R Rp := by
 refine ⟨hc, fun c W vs s hH hnx hG hargs => ?_⟩
 have hlen := hargs.length
 refine callsIn_of_wp hf hb trivial (wpIn_mono (h none c W _ rfl s (StRep.enter (G := G.at (some none)) (k := fn.ntmps) hH hnx hG hargs) (by simp; omega)) ?_) rfl
 rintro e a' W' ⟨ve, c', st', he, hext, hs', hr', hsz, hu, hle, hq⟩
 have finish : ∀ {x : VV}, resV P st' fn.results.toList = some x → R x st'.H st'.nx → ∃ v, (results fn a'.tmps).run P W' = .ok v W' ∧
   ∃ c' H' nx', Ext c W c' W' ∧ Sim c' W' ∧ c'.H = H' ∧ (∀ β, c'.used β → c.used β ∨ nx ≤ β) ∧ (∀ β, c'.used β → β < nx') ∧ nx ≤ nx' ∧
   ((∃ x v', Ending.returned v = .returned v' ∧ Rep c' W' x v' ∧ R x H' nx') ∨ (∃ x v', Ending.returned v = .panicked [{ v := v', recovered := false }] ∧ Rep c' W' x v' ∧ Rp x H' nx')) := by
  intro x hx hR
  obtain ⟨v, hv, hrv⟩ := th hs' hr' hx
  exact ⟨v, hv, c', st'.H, st'.nx, hext, hs', hr'.H, hu, hr'.nx, hle, .inl ⟨x, v, rfl, hrv, hR⟩⟩
 cases ve with
 | normal =>
  have e1 : e = .normal := he
  subst e1
  obtain ⟨hdf, x, hx, hR⟩ := hq
  obtain ⟨v, hv, hpost⟩ := finish hx hR
  have hd := hr'.df
  rw [hdf] at hd
  exact ⟨hd, v, hv, hpost⟩
 | ret =>
  have e1 : e = .ret := he
  subst e1
  obtain ⟨hdf, x, hx, hR⟩ := hq
  obtain ⟨v, hv, hpost⟩ := finish hx hR
  have hd := hr'.df
  rw [hdf] at hd
  exact ⟨hd, v, hv, hpost⟩
 | exit id => exact hq.elim
 | goto l => exact hq.elim
 | panic x =>
  obtain ⟨v, e1, hv⟩ := he
  subst e1
  obtain ⟨hdf, hR⟩ := hq
  have hd := hr'.df
  rw [hdf] at hd
  exact ⟨hd, c', st'.H, st'.nx, hext, hs', hr'.H, hu, hr'.nx, hle, .inr ⟨x, v, rfl, hv, hR⟩⟩
theorem aH.open {P : Program} {G : Glob} {n : Nat} {ops : Array Oper} {base i : Nat} {o : Oper} {st : St} {K : St → Prop} {Qp : VV → St → Prop} {f : FuncId} {args : List VV} (ho : ops[i]? = some o) (hd : aX n ops = true)
  (hw : aN ops st.tm o = some true) (hf : callee? P G st o.op = some (f, args))
  (hv : au P G f args st.H st.nx (fun x H' nx' => K { st.put o.dst x with H := H', nx := nx' }) (fun x H' nx' => Qp x { st with H := H', nx := nx' })) : aH P G n ops base i st K Qp := by
 intro ro c W a Kr Q hro s hr hs hγ hnx k kp
 unfold wpOpIn
 simp only [ho]
 rw [if_pos (gB hr.tm hw)]
 obtain ⟨vs, hvs, hrun, hnd⟩ := ke hr hf hv.1
 refine ⟨fun _ _ => trivial, ?_⟩
 rw [Oper.semAt_eq _ _ _ hnd, hrun, Oper.uponIn_enter]
 refine ⟨fun h => (by cases h), j4 ((hv.2 c W vs s hr.H hr.nx hr.G hvs).mono ?_)⟩
 rintro e W' ⟨c', H', nx', hext, hs', hH', hu, hu', hle, hres⟩
 have ab := hext.abides s
 rcases hres with ⟨x, v, rfl, hx, hR⟩ | ⟨x, v, rfl, hx, hR⟩
 ·have h0 : StRep G c' W' { st.put o.dst x with H := H', nx := nx' } (a.put o.dst v) := by
   refine ⟨hH', ?_, ?_, ?_, hr.G.abides ab⟩
   ·have h2 := oM (st := st) (dst := o.dst) (fun t => Rep.abides ab _ (hr.tm t)) (fun d hd' => by rw [hs]; exact j6 hd ho d hd') hx
    exact h2
   ·exact hu'
   ·rw [oN]
    cases o.dst <;> exact hr.df.abides ab
  exact k _ W' c' _ hext hs' h0 (by simpa using hs) (fun β hb => (hu β hb).imp id .inr) hle hR
 ·have h0 : StRep G c' W' { st with H := H', nx := nx' } a := ⟨hH', fun t => Rep.abides ab _ (hr.tm t), hu', hr.df.abides ab, hr.G.abides ab⟩
  exact kp _ W' c' _ x v hext hs' h0 hs (fun β hb => (hu β hb).imp id .inr) hle hx hR
end Go.V
end
