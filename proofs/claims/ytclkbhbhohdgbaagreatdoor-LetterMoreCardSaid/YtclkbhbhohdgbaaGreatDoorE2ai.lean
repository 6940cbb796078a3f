/- Part of a proof. -/
import Derived.Test.YtclkbhbhohdgbaaGreatDoorE2ad
set_option linter.all false
section
namespace Go.V
open Go
def RoundLeft (P : Program) (l : Nat) (R : Ending → World → Prop) : Exit → Act → World → Prop
 | .panic chain, a, w => a.defers = [] ∧ R (.panicked chain) w
 | .normal, _, w => ∃ v w', (Instr.endRound l none).run P w = .ok v w' ∧ R (.returned v) w'
 | .ret, _, w => ∃ v w', (Instr.endRound l (some .ret)).run P w = .ok v w' ∧ R (.returned v) w'
 | .exit id, _, w => ∃ v w', (Instr.endRound l (some (.exit id))).run P w = .ok v w' ∧ R (.returned v) w'
 | .goto t, _, w => ∃ v w', (Instr.endRound l (some (.goto t))).run P w = .ok v w' ∧ R (.returned v) w'
 | .outgrown, _, _ => False
variable {f : Nat} {P : Program}
theorem Yi {ro : Option Nat} {n l : Nat} {fn : Func} {tmps : Array Value} {assign body : Code} {w : World} {R : Ending → World → Prop} (hf : P.funcs[f]? = some fn)
  (h : assign.wpIn (Fw (some l)) n P (fun e a₁ w₁ => e = .normal ∧ ∃ w₂, (Instr.beginRound l).run P w₁ = .ok () w₂ ∧ body.wpIn (Fw (some l)) n P (RoundLeft P l R) a₁ w₂) { tmps := tmps, defers := [] } w) :
  RoundIn (Fw ro) n P l f tmps assign body w R := by
 refine ⟨trivial, fun c cs _ => ?_⟩
 have room : ∀ k, (Fw (some l)).room k := fun k d hd => by cases hd
 have fen : ∀ m, Machine.fenced P (Fw (some l)) m := fun m => fenced_wide P m
 have start : Frame.round l f tmps assign body .normal = Frame.atR { (default : Frame) with fn := f, kind := .normal, roundOf := some l } { tmps := tmps, defers := [] } [.code assign, .beginRound, .code body] := by
  simp [Frame.round, Frame.atR]
 obtain ⟨e1, a1, w1, ⟨rfl, w2, hbegin, hbody⟩, s1⟩ := h { (default : Frame) with fn := f, kind := .normal, roundOf := some l } [.beginRound, .code body] (c :: cs) rfl trivial (room _)
 rw [← start] at s1
 obtain ⟨e3, a3, w3, hleft, s3⟩ := hbody { (default : Frame) with fn := f, kind := .normal, roundOf := some l } [] (c :: cs) rfl trivial (room _)
 have Bo := StepsIn.trans s1 (.one (fen _) (stepR_beginRound (P := P) rfl hbegin))
 cases e3 with
 | normal =>
  obtain ⟨v, w4, he, hR⟩ := hleft
  exact ⟨.returned v, w4, hR, StepsIn.trans Bo (StepsIn.trans s3 (.one (fen _) (stepR_round_end rfl rfl he)))⟩
 | ret =>
  obtain ⟨v, w4, he, hR⟩ := hleft
  obtain ⟨k1, s4⟩ := s3.2 rfl
  exact ⟨.returned v, w4, hR, StepsIn.trans Bo (StepsIn.trans s4 (.one (fen _) (stepR_round_ret rfl rfl he)))⟩
 | exit id =>
  obtain ⟨v, w4, he, hR⟩ := hleft
  obtain ⟨k1, hk, s4⟩ := s3.2 rfl rfl
  exact ⟨.returned v, w4, hR, StepsIn.trans Bo (StepsIn.trans s4 (.one (fen _) (stepR_round_exit rfl rfl hk he)))⟩
 | goto t =>
  obtain ⟨v, w4, he, hR⟩ := hleft
  obtain ⟨k1, hk, s4⟩ := s3.2 rfl rfl
  exact ⟨.returned v, w4, hR, StepsIn.trans Bo (StepsIn.trans s4 (.one (fen _) (stepR_round_goto rfl rfl hk he)))⟩
 | panic chain =>
  obtain ⟨hd, hR⟩ := hleft
  obtain ⟨todo, s4⟩ := s3
  exact ⟨.panicked chain, w3, hR, StepsIn.trans Bo (StepsIn.trans s4 (.one (fen _) (step_leave_panicked ⟨rfl, hd, fn, hf⟩)))⟩
 | outgrown => exact hleft.elim
variable {W : World} {s0 : LoopState} {pe : Option Code} {tm : List VV} {ps : Array Tmp} {as bo : Code}
theorem DJ {c : Ctx} (s : Sim c W) {β : Nat} {fn : Nat} (h : c.H β = some (.loopF s0 pe tm ps as bo fn)) :
  ∃ l dn, Rl c W tm l ∧ (getObj (c.φ β)).run P W = .ok (.loop (loopRec s0 pe fn l ps as bo dn)) W ∧ ∀ s1 fD, ∃ W', (setObj (c.φ β) (.loop (loopRec s1 fD fn l ps as bo dn))).run P W = .ok () W' ∧
   Ext c W (c.upd β (.loopF s1 fD tm ps as bo fn)) W' ∧ Sim (c.upd β (.loopF s1 fD tm ps as bo fn)) W' := by
 have hl : c.live β := by simp [Ctx.live, h]
 obtain ⟨l, dn, h1, h2⟩ := s.obj β _ h
 refine ⟨l, dn, h2, by simp [getObj, Sem.run, h1, loopRec], fun s1 fD => ?_⟩
 have hset := wC (P := P) (o' := .loop (loopRec s1 fD fn l ps as bo dn)) h1 (by intros; simp)
 have aM : Ext c W (c.upd β (.loopF s1 fD tm ps as bo fn)) { W with heap := W.heap.setIfInBounds (c.φ β) (.loop (loopRec s1 fD fn l ps as bo dn)) } := Ext.upd hl (But.setObj W _ _)
 exact ⟨_, hset, aM, Sim.upd s hl (But.setObj W _ _) (fun ⟨ds, hd⟩ => by rw [h] at hd; cases hd) ⟨l, dn, wD h1, Rl.abides (aM.abides s) _ h2⟩⟩
theorem LF {c : Ctx} (s : Sim c W) {γ : Nat} (hγ : ¬ c.used γ) {fn dn : Nat} {l : List Value} (htm : Rl c W tm l) :
  Ext c W (c.push c.H γ (.loopF s0 pe tm ps as bo fn) W.heap.size 0) (W.alloc (.loop (loopRec s0 pe fn l ps as bo dn))) ∧ Sim (c.push c.H γ (.loopF s0 pe tm ps as bo fn) W.heap.size 0) (W.alloc (.loop (loopRec s0 pe fn l ps as bo dn))) := by
 have ab : Abides c W (c.push c.H γ (.loopF s0 pe tm ps as bo fn) W.heap.size 0) (W.alloc (.loop (loopRec s0 pe fn l ps as bo dn))) := uo s (aj.refl _) hγ (.inl (qZg _)) (But.alloc W _)
 refine uq s hγ ⟨l, dn, ?_, Rl.abides ab _ htm⟩
 simp only [Ctx.push, if_true]
 exact rq _ _
def RoundDoneF (β : Nat) (o : Oper) (st : St) (K : St → Prop) (jump : Option Code) (s2 : St) : Prop :=
 ∃ s pe tm ps as bo fn, s2.H β = some (.loopF s pe tm ps as bo fn) ∧
  K { st.put o.dst (.lit (.bool jump.isNone)) with H := updH s2.H β (.loopF (if jump.isNone then .ready else .done) jump tm ps as bo fn), nx := s2.nx }
def RoundEndF (β : Nat) (o : Oper) (st : St) (K : St → Prop) (Qp : VV → St → Prop) : Vx → St → Prop
 | .normal, s2 => RoundDoneF β o st K none s2
 | .ret, s2 => RoundDoneF β o st K (some .ret) s2
 | .exit id, s2 => RoundDoneF β o st K (some (.exit id)) s2
 | .goto l, s2 => RoundDoneF β o st K (some (.goto l)) s2
 | .panic x, s2 => s2.df = [] ∧ Qp x { st with H := s2.H, nx := s2.nx }
def RoundStartF (P : Program) (G : Gb) (n β : Nat) (bo : Code) (o : Oper) (st : St) (K : St → Prop) (Qp : VV → St → Prop) : Vx → St → Prop
 | .normal, s1 => ∃ pe tm ps as bo' fn, s1.H β = some (.loopF .ready pe tm ps as bo' fn) ∧
   VWp P (G.at (some (some β))) n bo (RoundEndF β o st K Qp) { s1 with H := updH s1.H β (.loopF .busy pe tm ps as bo' fn) }
 | _, _ => False
theorem aP.yieldF {G : Gb} {n : Nat} {ops : Array Oper} {aa i : Nat} {o : Oper} {st : St} {K : St → Prop} {Qp : VV → St → Prop} {k : Call} {fo : Operand} {β : Nat} {fn : Func}
  (ho : ops[i]? = some o) (hd : dstsOk n ops = true) (hw : aO ops st.tm o = some true) (hop : o.op = .call k) (hk : k.callee = .value fo) (hf : st.ρ G fo = .yl β) (hβ : st.H β = some (.loopF .ready pe tm ps as bo f)) (hn : k.args.size = ps.size) (hfn : P.funcs[f]? = some fn)
  (h : VWp P (G.at (some (some β))) tm.length as (RoundStartF P G tm.length β bo o st K Qp) { tm := bk (roundTm tm ps.toList (k.args.toList.map (st.ρ G))), H := st.H, nx := st.nx, df := [] }) : aP P G n ops aa i st K Qp := by
 intro ro c W a Kr Q hro s hr hs hγ hnx kk kp
 unfold wpOpIn
 simp only [ho]
 rw [if_pos (j8 hr.tm hw)]
 refine ⟨fun _ _ => trivial, ?_⟩
 have hβc : c.H β = some (.loopF .ready pe tm ps as bo f) := by rw [hr.H]; exact hβ
 have hl : c.live β := by simp [Ctx.live, hβc]
 have hub : c.used β := s.used β hl
 have hfr := hr.eval fo
 rw [hf] at hfr
 have hfv := hfr.2 hl
 obtain ⟨l, dn, eQ, hget, _⟩ := DJ (P := P) s hβc
 have bD := oL hr.eval k.args.toList
 have hyield : (Instr.yield (c.φ β) (k.args.map a.eval)).run P W = .ok (.round (c.φ β) f ⟨(ps.toList.zip (k.args.toList.map a.eval)).foldl (fun l p => l.set p.1 p.2) l⟩ as bo) W := by
  have e : k.args.map a.eval = ⟨k.args.toList.map a.eval⟩ := by apply Array.ext'; simp
  rw [e]
  exact TP hget rfl (by simpa [loopRec] using hn)
 have aN : (execOp a.eval o).run P W = .ok (.round (c.φ β) f ⟨(ps.toList.zip (k.args.toList.map a.eval)).foldl (fun l p => l.set p.1 p.2) l⟩ as bo) W := by
  rw [← hyield]
  have e2 : (#[] ++ k.args.map a.eval : Array Value) = k.args.map a.eval := by simp
  simp only [execOp, hop, resolve, hk, Deferred.ofValue, hfv, pure_bind, invoke, e2]
 rw [Oper.semAt_eq _ _ _ (by rw [hop]; simp), aN, Oper.uponIn_round]
 refine ⟨fun h => (by cases h), ?_⟩
 have hrt := LG (ps := ps.toList) bD eQ
 have bn : ((ps.toList.zip (k.args.toList.map a.eval)).foldl (fun l p => l.set p.1 p.2) l).length = tm.length := by
  have : ∀ (q : List (Tmp × Value)) (l : List Value), (q.foldl (fun l p => l.set p.1 p.2) l).length = l.length := by
   intro q
   induction q with
   | nil => intro l; rfl
   | cons p q ih => intro l; simp only [List.foldl_cons]; rw [ih]; simp
  rw [this, eQ.length]
 generalize hvs : (ps.toList.zip (k.args.toList.map a.eval)).foldl (fun l p => l.set p.1 p.2) l = vs at *
 have lN : Sr (G.at (some (some β))) c W { tm := bk (roundTm tm ps.toList (k.args.toList.map (st.ρ G))), H := st.H, nx := st.nx, df := [] } { tmps := ⟨vs⟩, defers := [] } := by
  have := Sr.enter (G := G.at (some (some β))) (k := vs.length) hr.H hr.nx hr.G hrt
  simpa using this
 have pj : RoOk (G.at (some (some β))) c (some (c.φ β)) := ⟨hub, fun _ => rfl⟩
 refine Yi hfn ?_
 refine wpIn_mono (h (some (c.φ β)) c W _ pj s lN (by simpa using bn)) ?_
 rintro e a1 W1 ⟨ve, c1, s1, he, hext1, Bp, jX, vE, kK, ld, hq⟩
 cases ve with
 | exit id => exact hq.elim
 | goto l => exact hq.elim
 | ret => exact hq.elim
 | panic x => exact hq.elim
 | normal =>
  refine ⟨he, ?_⟩
  obtain ⟨fD, jt, ju, jv, jw, vC, xn, hbody⟩ := hq
  have hb1c : c1.H β = some (.loopF .ready fD jt ju jv jw vC) := by rw [jX.H]; exact xn
  have hl1' : c1.live β := by simp [Ctx.live, hb1c]
  have hφ1 : c1.φ β = c.φ β := hext1.φ β hub hl1'
  obtain ⟨l1, dn1, LH, hget1, hset1⟩ := DJ (P := P) Bp hb1c
  obtain ⟨W2, hset2, hext2, km⟩ := hset1 .busy fD
  have lV := hext2.abides Bp
  refine ⟨W2, ?_, ?_⟩
  ·rw [← hφ1]; exact Sy hget1 rfl hset2
  have vF : RoOk (G.at (some (some β))) (c1.upd β (.loopF .busy fD jt ju jv jw vC)) (some (c.φ β)) := (pj.ext hext1).ext hext2
  have mf : Sr (G.at (some (some β))) (c1.upd β (.loopF .busy fD jt ju jv jw vC)) W2 { s1 with H := updH s1.H β (.loopF .busy fD jt ju jv jw vC) } a1 :=
   ⟨by rw [← jX.H]; rfl, fun t => Rep.abides lV _ (jX.tm t), jX.nx, jX.df.abides lV, jX.G.abides lV⟩
  refine wpIn_mono (hbody (some (c.φ β)) _ W2 a1 vF km mf vE) ?_
  rintro e3 a3 W3 ⟨LI, c3, s3, qJ, hext3, DK, j9, LJ, i7, vG, pk⟩
  have bF := (hext1.trans hext2).trans hext3
  have husd : ∀ β', c3.used β' → c.used β' ∨ β' = aa + i ∨ st.nx ≤ β' := by
   intro β' hb
   rcases i7 β' hb with hb | hb
   ·rcases kK β' hb with hb | hb
    ·exact .inl hb
    ·exact .inr (.inr hb)
   ·exact .inr (.inr (qZh ld hb))
  have Bq : st.nx ≤ s3.nx := qZh ld vG
  have done : ∀ jump, RoundDoneF β o st K jump s3 → ∃ v w', (Instr.endRound (c.φ β) jump).run P W3 = .ok v w' ∧ Kr (a.put o.dst v) w' := by
   rintro jump ⟨s4, LK, vH, vI, vJ, vK, DL, LL, hK⟩
   have hb4c : c3.H β = some (.loopF s4 LK vH vI vJ vK DL) := by rw [j9.H]; exact LL
   have LM : c3.live β := by simp [Ctx.live, hb4c]
   have hφ3 : c3.φ β = c.φ β := bF.φ β hub LM
   obtain ⟨l4, dn4, LN, hget4, hset4⟩ := DJ (P := P) DK hb4c
   obtain ⟨W4, hset5, hext4, LP⟩ := hset4 (if jump.isNone then .ready else .done) jump
   have bN := bF.trans hext4
   have vL := bN.abides s
   refine ⟨.bool jump.isNone, W4, ?_, ?_⟩
   ·rw [← hφ3]; exact Sz hget4 hset5
   ·have h0 : Sr G (c3.upd β (.loopF (if jump.isNone then .ready else .done) jump vH vI vJ vK DL)) W4
      { st.put o.dst (.lit (.bool jump.isNone)) with H := updH s3.H β (.loopF (if jump.isNone then .ready else .done) jump vH vI vJ vK DL), nx := s3.nx } (a.put o.dst (.bool jump.isNone)) := by
     refine ⟨by rw [← j9.H]; rfl, ?_, j9.nx, ?_, hr.G.abides vL⟩
     ·exact uf (st := st) (dst := o.dst) (fun t => Rep.abides vL _ (hr.tm t)) (fun d hd' => by rw [hs]; exact oc hd ho d hd') rfl
     ·rw [ug]
      cases o.dst <;> exact hr.df.abides vL
    exact kk _ W4 _ _ bN LP h0 (by simpa using hs) husd Bq hK
  cases LI with
  | normal => have e4 : e3 = .normal := qJ; subst e4; exact done none pk
  | ret => have e4 : e3 = .ret := qJ; subst e4; exact done _ pk
  | exit id => have e4 : e3 = .exit id := qJ; subst e4; exact done _ pk
  | goto l => have e4 : e3 = .goto l := qJ; subst e4; exact done _ pk
  | panic x =>
   obtain ⟨v, e4, hv⟩ := qJ
   subst e4
   obtain ⟨hdf, hqp⟩ := pk
   have iT := bF.abides s
   refine ⟨?_, kp a W3 c3 { st with H := s3.H, nx := s3.nx } x v bF DK ⟨j9.H, fun t => Rep.abides iT _ (hr.tm t), j9.nx, hr.df.abides iT, hr.G.abides iT⟩ hs husd Bq hv hqp⟩
   have := j9.df
   rw [hdf] at this
   exact this
abbrev frameF (f : Nat) : Frame := { (default : Frame) with fn := f, kind := .normal, roundOf := none }
def Goes (P : Program) (f : Nat) (code : Code) (Q : Exit → Act → World → Prop) (a : Act) (W : World) : Prop :=
 ∀ (k : List Item) (cs : List Frame), ∃ e a' W', Q e a' W' ∧ ArrivesIn (Machine.fenced P Fence.wide) P (lone ((frameF f).atR a (.code code :: k)) cs W) (frameF f) k cs e a' W'
variable {code : Code} {Q : Exit → Act → World → Prop} {a : Act}
theorem Goes.of (h : code.wpIn (Fw none) 0 P Q a W) : Goes P f code Q a W :=
 fun k cs => h (frameF f) k cs rfl trivial (fun d hd => by cases hd)
theorem Goes.mono {Q' : Exit → Act → World → Prop} (h : Goes P f code Q a W) (hq : ∀ e a W, Q e a W → Q' e a W) : Goes P f code Q' a W :=
 fun k cs => let ⟨e, a', W', q, r⟩ := h k cs; ⟨e, a', W', hq _ _ _ q, r⟩
def VGo (P : Program) (G : Gb) (f n : Nat) (code : Code) (Q : Vx → St → Prop) (st : St) : Prop :=
 ∀ c W a, Sim c W → Sr (G.at (some none)) c W st a → a.tmps.size = n → Goes P f code (Lift (G.at (some none)) n st.nx c W Q) a W
variable {x : Code}
section
variable {P : Program} {G : Gb} {f n : Nat} {Q : Vx → St → Prop} {st : St}
theorem VGo.of (h : VWp P (G.at (some none)) n code Q st) : VGo P G f n code Q st :=
 fun c W a s hr hs => Goes.of (h none c W a rfl s hr hs)
theorem Goes.seq {y : Code} {Q : Exit → Act → World → Prop} (h : Goes P f x (fun e a' W' => (e = .normal ∧ Goes P f y Q a' W') ∨ (e ≠ .normal ∧ Q e a' W')) a W) : Goes P f (.seq x y) Q a W := by
 intro k cs
 have first : StepsIn (Machine.fenced P Fence.wide) P (lone ((frameF f).atR a (.code (.seq x y) :: k)) cs W) (lone ((frameF f).atR a (.code x :: .code y :: k)) cs W) := .one (fenced_wide P _) stepR_seq
 obtain ⟨e, a1, W1, hq, s1⟩ := h (.code y :: k) cs
 rcases hq with ⟨rfl, hq⟩ | ⟨he, hq⟩
 ·obtain ⟨e2, a2, W2, vM, s2⟩ := hq k cs
  exact ⟨e2, a2, W2, vM, .of_steps (StepsIn.trans first s1) s2⟩
 ·exact ⟨e, a1, W1, hq, .of_steps first (ArrivesIn.pass (x := .code y) rfl (fun _ _ => .inl he) s1)⟩
theorem Goes.block {id : Nat} {Q : Exit → Act → World → Prop} (h : Goes P f x (Exit.inBlock id Q) a W) : Goes P f (.block id x) Q a W := by
 intro k cs
 have first : StepsIn (Machine.fenced P Fence.wide) P (lone ((frameF f).atR a (.code (.block id x) :: k)) cs W) (lone ((frameF f).atR a (.code x :: .inBlock id :: k)) cs W) := .one (fenced_wide P _) stepR_block
 obtain ⟨e, a1, W1, hq, s1⟩ := h (.inBlock id :: k) cs
 have other : ∀ e', e' = e → (∀ i, e' ≠ .exit i) → (∀ l, e' ≠ .goto l) → e' ≠ .normal → ArrivesIn (Machine.fenced P Fence.wide) P (lone ((frameF f).atR a (.code (.block id x) :: k)) cs W) (frameF f) k cs e' a1 W1 := by
  rintro e' rfl h1 h2 h3
  refine .of_steps first ?_
  cases e' with
  | normal => exact absurd rfl h3
  | exit i => exact absurd rfl (h1 i)
  | goto l => exact absurd rfl (h2 l)
  | ret => exact s1
  | panic _ => exact s1
  | outgrown => exact s1
 cases e with
 | normal => exact ⟨.normal, a1, W1, hq, StepsIn.trans first (StepsIn.trans s1 (.one (fenced_wide P _) stepR_inBlock))⟩
 | ret => exact ⟨_, a1, W1, hq, other _ rfl (by simp) (by simp) (by simp)⟩
 | panic ch => exact ⟨_, a1, W1, hq, other _ rfl (by simp) (by simp) (by simp)⟩
 | outgrown => exact ⟨_, a1, W1, hq, other _ rfl (by simp) (by simp) (by simp)⟩
 | exit i =>
  by_cases hi : i = id
  ·subst hi
   have hq' : Q .normal a1 W1 := by simpa [Exit.inBlock] using hq
   exact ⟨.normal, a1, W1, hq', StepsIn.trans first (s1.1 k (by simp [exitTo]))⟩
  ·have hq' : Q (.exit i) a1 W1 := by simpa [Exit.inBlock, hi] using hq
   have hne : (id == i) = false := by simp; exact fun h => hi h.symm
   have hto : exitTo i (.inBlock id :: k) = exitTo i k := by simp [exitTo, hne]
   exact ⟨.exit i, a1, W1, hq', .of_steps first ⟨fun k' hk => s1.1 k' (by rw [hto]; exact hk), fun hr hk => s1.2 hr (by rw [hto]; exact hk)⟩⟩
 | goto l =>
  have hto : gotoIn l (.inBlock id :: k) = gotoIn l k := by simp [gotoIn]
  exact ⟨_, a1, W1, hq, .of_steps first ⟨fun k' hk => s1.1 k' (by rw [hto]; exact hk), fun hr hk => s1.2 hr (by rw [hto]; exact hk)⟩⟩
theorem VGo.seq {y : Code} (h : VGo P G f n x (Vx.then (VGo P G f n y Q) Q) st) : VGo P G f n (.seq x y) Q st := by
 intro c W a s hr hs
 refine Goes.seq ((h c W a s hr hs).mono ?_)
 rintro e a' W' ⟨ve, c', st', h1, h2, h3, h4, h5, h6, h7, h8⟩
 cases ve with
 | normal =>
  have e1 : e = .normal := h1
  exact .inl ⟨e1, (h8 c' W' a' h3 h4 h5).mono fun _ _ _ hl => hl.of_ext h2 h6 h7⟩
 | exit id => have e1 : e = .exit id := h1; subst e1; exact .inr ⟨by simp, _, c', st', h1, h2, h3, h4, h5, h6, h7, h8⟩
 | goto l => have e1 : e = .goto l := h1; subst e1; exact .inr ⟨by simp, _, c', st', h1, h2, h3, h4, h5, h6, h7, h8⟩
 | ret => have e1 : e = .ret := h1; subst e1; exact .inr ⟨by simp, _, c', st', h1, h2, h3, h4, h5, h6, h7, h8⟩
 | panic x =>
  obtain ⟨v, e1, hv⟩ := h1
  subst e1
  exact .inr ⟨by simp, .panic x, c', st', ⟨v, rfl, hv⟩, h2, h3, h4, h5, h6, h7, h8⟩
theorem VGo.block {id : Nat} (h : VGo P G f n x (Vx.inBlock id Q) st) : VGo P G f n (.block id x) Q st := by
 intro c W a s hr hs
 refine Goes.block ((h c W a s hr hs).mono ?_)
 rintro e a' W' ⟨ve, c', st', h1, h2, h3, h4, h5, h6, h7, h8⟩
 cases ve with
 | exit i =>
  have e1 : e = .exit i := h1
  subst e1
  simp only [Exit.inBlock]
  simp only [Vx.inBlock] at h8
  split
  ·rename_i hi
   rw [if_pos hi] at h8
   exact ⟨.normal, c', st', rfl, h2, h3, h4, h5, h6, h7, h8⟩
  ·rename_i hi
   rw [if_neg hi] at h8
   exact ⟨.exit i, c', st', rfl, h2, h3, h4, h5, h6, h7, h8⟩
 | normal => have e1 : e = .normal := h1; subst e1; exact ⟨_, c', st', h1, h2, h3, h4, h5, h6, h7, h8⟩
 | goto l => have e1 : e = .goto l := h1; subst e1; exact ⟨_, c', st', h1, h2, h3, h4, h5, h6, h7, h8⟩
 | ret => have e1 : e = .ret := h1; subst e1; exact ⟨_, c', st', h1, h2, h3, h4, h5, h6, h7, h8⟩
 | panic x =>
  obtain ⟨v, e1, hv⟩ := h1
  subst e1
  exact ⟨.panic x, c', st', ⟨v, rfl, hv⟩, h2, h3, h4, h5, h6, h7, h8⟩
def RangeEndF (P : Program) (G : Gb) (f n : Nat) (Q : Vx → St → Prop) (st : St) (H' : Nat → Option Vo) (nx' : Nat) : Prop :=
 ∃ s pe tm ps as bo fn, H' (st.nx + 1) = some (.loopF s pe tm ps as bo fn) ∧ s ≠ .busy ∧
  (match pe with
   | none => Q .normal { st with H := updH H' (st.nx + 1) (.loopF .exhausted pe tm ps as bo fn), nx := nx', df := .coll st.nx :: st.df }
   | some cd => VGo P G f n cd Q { st with H := updH H' (st.nx + 1) (.loopF .exhausted pe tm ps as bo fn), nx := nx', df := .coll st.nx :: st.df })
theorem VGo.range {g : Operand} {f0 : FuncId} {first captured : List VV} (hg : st.ρ G g = .fn (.func f0) first captured)
  (h : aX P G f0 (first ++ [.yl (st.nx + 1)] ++ captured) (updH (updH st.H st.nx (.deferred (some []))) (st.nx + 1) (.loopF .ready none (tmL n st.tm) ps as bo f)) (st.nx + 2)
   (fun _ H' nx' => RangeEndF P G f n Q st H' nx') (fun x H' nx' => Q (.panic x) { st with H := H', nx := nx', df := .coll st.nx :: st.df })) : VGo P G f n (.rangeFunc g ps as bo) Q st := by
 intro c W a s hr hs k cs
 have zi : ¬ c.used st.nx := fun hb => Nat.lt_irrefl _ (hr.nx _ hb)
 obtain ⟨e1, s1⟩ := uq (rm := 0) (o := .deferred (some [])) (ob := .deferred (some [])) s zi ⟨rfl, by simp only [Ctx.push, if_true]; exact rq _ _⟩
 have kK : ¬ (c.push c.H st.nx (.deferred (some [])) W.heap.size 0).used (st.nx + 1) := by
  rintro (hb | hb)
  ·omega
  ·have := hr.nx _ hb; omega
 have nr := e1.abides s
 have htm : Rl (c.push c.H st.nx (.deferred (some [])) W.heap.size 0) (W.alloc (.deferred (some []))) (tmL n st.tm) a.tmps.toList := by
  rw [← hs]; exact zh fun t => Rep.abides nr _ (hr.tm t)
 have hφ : (c.push c.H st.nx (.deferred (some [])) W.heap.size 0).φ st.nx = W.heap.size := by simp [Ctx.push]
 generalize sC : c.push c.H st.nx (.deferred (some [])) W.heap.size 0 = c1 at *
 generalize GN : W.alloc (.deferred (some [])) = W1 at *
 have Df : c1.H = updH st.H st.nx (.deferred (some [])) := by rw [← sC, ← hr.H]; rfl
 obtain ⟨e2, s2⟩ := LF s1 kK htm (s0 := .ready) (pe := none) (fn := f) (dn := W.heap.size) (ps := ps) (as := as) (bo := bo)
 have GO : (c1.push c1.H (st.nx + 1) (.loopF .ready none (tmL n st.tm) ps as bo f) W1.heap.size 0).H = updH (updH st.H st.nx (.deferred (some []))) (st.nx + 1) (.loopF .ready none (tmL n st.tm) ps as bo f) := by
  rw [← Df]; rfl
 have hy : Rep (c1.push c1.H (st.nx + 1) (.loopF .ready none (tmL n st.tm) ps as bo f) W1.heap.size 0) (W1.alloc (.loop (loopRec .ready none f a.tmps.toList ps as bo W.heap.size))) (.yl (st.nx + 1)) (.func (.yield W1.heap.size) #[] #[]) :=
  ⟨⟨.inl rfl, rfl⟩, fun _ => by simp [Ctx.push]⟩
 have hused2 : ∀ β, (c1.push c1.H (st.nx + 1) (.loopF .ready none (tmL n st.tm) ps as bo f) W1.heap.size 0).used β → c.used β ∨ β = st.nx ∨ β = st.nx + 1 := by
  rintro β (hb | hb)
  ·exact .inr (.inr hb)
  ·rw [← sC] at hb
   rcases hb with hb | hb
   ·exact .inr (.inl hb)
   ·exact .inl hb
 have hφ2 : (c1.push c1.H (st.nx + 1) (.loopF .ready none (tmL n st.tm) ps as bo f) W1.heap.size 0).φ (st.nx + 1) = W1.heap.size := by simp [Ctx.push]
 have hφ3 : (c1.push c1.H (st.nx + 1) (.loopF .ready none (tmL n st.tm) ps as bo f) W1.heap.size 0).φ st.nx = W.heap.size := by simp [Ctx.push, hφ]
 have hus : (c1.push c1.H (st.nx + 1) (.loopF .ready none (tmL n st.tm) ps as bo f) W1.heap.size 0).used (st.nx + 1) := .inl rfl
 have jQ : (c1.push c1.H (st.nx + 1) (.loopF .ready none (tmL n st.tm) ps as bo f) W1.heap.size 0).used st.nx := .inr (by rw [← sC]; exact .inl rfl)
 generalize w8 : c1.push c1.H (st.nx + 1) (.loopF .ready none (tmL n st.tm) ps as bo f) W1.heap.size 0 = c2 at *
 generalize GP : W1.alloc (.loop (loopRec .ready none f a.tmps.toList ps as bo W.heap.size)) = W2 at *
 have zj := e1.trans e2
 have lV := zj.abides s
 have hgr := Rep.abides lV _ (hr.eval g)
 rw [show St.ρ (G.at (some none)) st g = .fn (.func f0) first captured from hg] at hgr
 obtain ⟨l1, l2, hgv, eQ, nq⟩ := hgr
 have henter : (Instr.enterLoop f a.tmps ps as bo none).run P W = .ok (W1.heap.size, [{ target := .collected W.heap.size, args := #[] }]) W2 := by
  rw [← GP, ← GN]
  simp only [Instr.enterLoop, Sem.run_bind, run_newObj, Sem.run_pure, Result.andThen_ok]
  rfl
 have hres : (resolve a.eval (rangeCall g W1.heap.size) 0).run P W2 = .ok { target := .fn (.func f0) ⟨l2⟩, args := ⟨l1⟩ ++ #[.func (.yield W1.heap.size) #[] #[]] } W2 := by
  simp only [resolve, Deferred.ofValue, hgv, Sem.run_pure]
  simp [Act.eval]
 have ba : (invoke (.fn (.func f0) ⟨l2⟩) (⟨l1⟩ ++ #[.func (.yield W1.heap.size) #[] #[]])).run P W2 = .ok (.enter f0 ⟨l1 ++ [.func (.yield W1.heap.size) #[] #[]] ++ l2⟩) W2 := by
  have := h.1 ⟨l1 ++ [.func (.yield W1.heap.size) #[] #[]] ++ l2⟩ W2
  rw [← this]
  simp only [invoke]
  congr 2
  apply Array.ext'
  simp
 have mO := stepR_rangeFunc (P := P) (b := frameF f) (a := a) (k := k) (cs := cs) (w := W) (g := g) (ps := ps) (assign := as) (body := bo) henter hres ba
 have fen : ∀ m, Machine.fenced P Fence.wide m := fun m => fenced_wide P m
 have GQ : GOk G c2 W2 := hr.G.abides lV
 have hcall := h.2 c2 W2 (l1 ++ [.func (.yield W1.heap.size) #[] #[]] ++ l2) s2 GO (fun β hb => by
  rcases hused2 β hb with hb | hb | hb
  ·have := hr.nx β hb; omega
  ·omega
  ·omega) GQ (Rl.append (Rl.append eQ ⟨_, [], rfl, hy, rfl⟩) nq)
 obtain ⟨en, W', fr, ⟨c', H', nx', aM, hs', hH', hu, hu', hle, hres2⟩, hsteps, hfn, hleave⟩ := hcall.2 ((frameF f).atR { a with defers := [{ target := .collected W.heap.size, args := #[] }] ++ a.defers } (.inRangeFunc W1.heap.size :: k) :: cs) (fun d hd => by cases hd)
 have eall := zj.trans aM
 have aball := eall.abides s
 have husd : ∀ β, c'.used β → c.used β ∨ st.nx ≤ β := by
  intro β hb
  rcases hu β hb with hb | hb
  ·rcases hused2 β hb with hb | hb | hb
   ·exact .inl hb
   ·right; omega
   ·right; omega
  ·right; omega
 have hdf : ∀ (c3 : Ctx) (W3 : World), Abides c' W' c3 W3 → RepDs c3 W3 (.coll st.nx :: st.df) ([{ target := .collected W.heap.size, args := #[] }] ++ a.defers) := by
  intro c3 W3 iT
  refine ⟨_, _, rfl, ⟨iT.used _ (aM.used _ jQ), fun hl => ?_⟩, RepDs.abides iT (hr.df.abides aball)⟩
  have hl' := iT.live _ (aM.used _ jQ) hl
  rw [iT.φ _ (aM.used _ jQ) hl, aM.φ _ jQ hl', hφ3]
 rcases hres2 with ⟨x, v, rfl, hx, s', pe, tm', ps', as', bo', fn', hloop, hnb, hj⟩ | ⟨x, v, rfl, hx, hR⟩
 ·have hl : c'.live (st.nx + 1) := by simp [Ctx.live, hH', hloop]
  have hφ' : c'.φ (st.nx + 1) = W1.heap.size := by rw [aM.φ _ hus hl, hφ2]
  obtain ⟨l, dn, hl1', hget, hset⟩ := DJ (P := P) hs' (by rw [hH']; exact hloop)
  obtain ⟨W3, hset3, e3, s3⟩ := hset .exhausted pe
  have iT := e3.abides hs'
  have hend : (Instr.endLoop W1.heap.size).run P W' = .ok pe W3 := by
   rw [← hφ']
   exact Sx hget hnb hset3
  have j9 : Sr (G.at (some none)) (c'.upd (st.nx + 1) (.loopF .exhausted pe tm' ps' as' bo' fn')) W3 { st with H := updH H' (st.nx + 1) (.loopF .exhausted pe tm' ps' as' bo' fn'), nx := nx', df := .coll st.nx :: st.df } { a with defers := [{ target := .collected W.heap.size, args := #[] }] ++ a.defers } := by
   refine ⟨by rw [← hH']; rfl, fun t => Rep.abides iT _ (Rep.abides aball _ (hr.tm t)), fun β hb => hu' β hb, hdf _ _ iT, (hr.G.abides aball).abides iT⟩
  have zk := eall.trans e3
  have back : StepsIn (Machine.fenced P Fence.wide) P (lone ((frameF f).atR a (.code (.rangeFunc g ps as bo) :: k)) cs W) (lone ((frameF f).atR { a with defers := [{ target := .collected W.heap.size, args := #[] }] ++ a.defers } ((pe.map Item.code).toList ++ k)) cs W3) := by
   have hleft := step_leave_returned (c := (frameF f).atR { a with defers := [{ target := .collected W.heap.size, args := #[] }] ++ a.defers } (.inRangeFunc W1.heap.size :: k)) (cs := cs) hleave
   rw [finish_atR_inRangeFunc] at hleft
   exact .head (fen _) mO (StepsIn.trans hsteps (.head (fen _) hleft (.one (fen _) (stepR_endRangeFunc hend))))
  cases pe with
  | none => exact ⟨.normal, _, W3, ⟨.normal, _, _, rfl, zk, s3, j9, hs, fun β hb => husd β hb, (show st.nx ≤ nx' by omega), hj⟩, back⟩
  | some cd =>
   obtain ⟨e5, a5, W5, Yj, harr⟩ := hj _ W3 _ s3 j9 hs k cs
   exact ⟨e5, a5, W5, Yj.of_ext zk (fun β hb => husd β hb) (show st.nx ≤ nx' by omega), .of_steps back harr⟩
 ·have j9 : Sr (G.at (some none)) c' W' { st with H := H', nx := nx', df := .coll st.nx :: st.df } { a with defers := [{ target := .collected W.heap.size, args := #[] }] ++ a.defers } :=
   ⟨hH', fun t => Rep.abides aball _ (hr.tm t), fun β hb => hu' β hb, hdf _ _ ((Ext.refl c' W').abides hs'), hr.G.abides aball⟩
  have hleft := step_leave_panicked (c := (frameF f).atR { a with defers := [{ target := .collected W.heap.size, args := #[] }] ++ a.defers } (.inRangeFunc W1.heap.size :: k)) (cs := cs) hleave
  rw [Frame.raise_atR] at hleft
  exact ⟨.panic _, _, W', ⟨.panic x, c', _, ⟨v, rfl, hx⟩, eall, hs', j9, hs, husd, (show st.nx ≤ nx' by omega), hR⟩, .inRangeFunc W1.heap.size :: k, .head (fen _) mO (StepsIn.trans hsteps (.one (fen _) hleft))⟩
end
end Go.V
end
