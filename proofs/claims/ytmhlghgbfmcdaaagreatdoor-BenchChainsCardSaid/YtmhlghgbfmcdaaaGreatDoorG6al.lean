/- Part of a proof. -/
import Derived.Test.YtmhlghgbfmcdaaaGreatDoorG6af
set_option linter.all false
section
namespace Go.V
open Go
def RoundLeft (P : Program) (l : Nat) (R : Ending → World → Prop) : Exit → Act → World → Prop
 | .panic chain, a, w => a.defers = [] ∧ R (.panicked chain) w
 | .normal, _, w => ∃ v w', (Instr.endRound l none).run P w = .ok v w' ∧ R (.returned v) w'
 | .ret, _, w => ∃ v w', (Instr.endRound l (some .ret)).run P w = .ok v w' ∧ R (.returned v) w'
 | .exit id, _, w => ∃ v w', (Instr.endRound l (some (.exit id))).run P w = .ok v w' ∧ R (.returned v) w'
 | .goto t, _, w => ∃ v w', (Instr.endRound l (some (.goto t))).run P w = .ok v w' ∧ R (.returned v) w'
 | .outgrown, _, _ => False
theorem Tu {ro : Option Nat} {n l f : Nat} {P : Program} {fn : Func} {tmps : Array Value} {assign body : Code} {w : World} {R : Ending → World → Prop} (hf : P.funcs[f]? = some fn)
  (h : assign.wpIn (Fw (some l)) n P (fun e a₁ w₁ => e = .normal ∧ ∃ w₂, (Instr.beginRound l).run P w₁ = .ok () w₂ ∧ body.wpIn (Fw (some l)) n P (RoundLeft P l R) a₁ w₂) { tmps := tmps, defers := [] } w) :
  RoundIn (Fw ro) n P l f tmps assign body w R := by
 refine ⟨trivial, fun c cs _ => ?_⟩
 have room : ∀ k, (Fw (some l)).room k := fun k d hd => by cases hd
 have fen : ∀ m, Machine.fenced P (Fw (some l)) m := fun m => fenced_wide P m
 have start : Frame.round l f tmps assign body .normal = Frame.atR { (default : Frame) with fn := f, kind := .normal, roundOf := some l } { tmps := tmps, defers := [] } [.code assign, .beginRound, .code body] := by
  simp [Frame.round, Frame.atR]
 obtain ⟨e1, a1, w1, ⟨rfl, w2, hbegin, hbody⟩, s1⟩ := h { (default : Frame) with fn := f, kind := .normal, roundOf := some l } [.beginRound, .code body] (c :: cs) rfl trivial (room _)
 rw [← start] at s1
 obtain ⟨e3, a3, w3, hleft, s3⟩ := hbody { (default : Frame) with fn := f, kind := .normal, roundOf := some l } [] (c :: cs) rfl trivial (room _)
 have wT := StepsIn.trans s1 (.one (fen _) (stepR_beginRound (P := P) rfl hbegin))
 cases e3 with
 | normal =>
  obtain ⟨v, w4, he, hR⟩ := hleft
  exact ⟨.returned v, w4, hR, StepsIn.trans wT (StepsIn.trans s3 (.one (fen _) (stepR_round_end rfl rfl he)))⟩
 | ret =>
  obtain ⟨v, w4, he, hR⟩ := hleft
  obtain ⟨k1, s4⟩ := s3.2 rfl
  exact ⟨.returned v, w4, hR, StepsIn.trans wT (StepsIn.trans s4 (.one (fen _) (stepR_round_ret rfl rfl he)))⟩
 | exit id =>
  obtain ⟨v, w4, he, hR⟩ := hleft
  obtain ⟨k1, hk, s4⟩ := s3.2 rfl rfl
  exact ⟨.returned v, w4, hR, StepsIn.trans wT (StepsIn.trans s4 (.one (fen _) (stepR_round_exit rfl rfl hk he)))⟩
 | goto t =>
  obtain ⟨v, w4, he, hR⟩ := hleft
  obtain ⟨k1, hk, s4⟩ := s3.2 rfl rfl
  exact ⟨.returned v, w4, hR, StepsIn.trans wT (StepsIn.trans s4 (.one (fen _) (stepR_round_goto rfl rfl hk he)))⟩
 | panic chain =>
  obtain ⟨hd, hR⟩ := hleft
  obtain ⟨todo, s4⟩ := s3
  exact ⟨.panicked chain, w3, hR, StepsIn.trans wT (StepsIn.trans s4 (.one (fen _) (step_leave_panicked ⟨rfl, hd, fn, hf⟩)))⟩
 | outgrown => exact hleft.elim
theorem yG {c : Ctx} {W : World} {P : Program} (s : Sim c W) {β : Nat} {s0 : LoopState} {pe : Option Code} {tm : List VV} {ps : Array Tmp} {as bo : Code} {fn : Nat} (h : c.H β = some (.loopF s0 pe tm ps as bo fn)) :
  ∃ l dn, RepL c W tm l ∧ (getObj (c.φ β)).run P W = .ok (.loop (loopRec s0 pe fn l ps as bo dn)) W ∧ ∀ s1 dw, ∃ W', (setObj (c.φ β) (.loop (loopRec s1 dw fn l ps as bo dn))).run P W = .ok () W' ∧
   Ext c W (c.upd β (.loopF s1 dw tm ps as bo fn)) W' ∧ Sim (c.upd β (.loopF s1 dw tm ps as bo fn)) W' := by
 have hl : c.live β := by simp [Ctx.live, h]
 obtain ⟨l, dn, h1, h2⟩ := s.obj β _ h
 refine ⟨l, dn, h2, by simp [getObj, Sem.run, h1, loopRec], fun s1 dw => ?_⟩
 have hset := rD (P := P) (o' := .loop (loopRec s1 dw fn l ps as bo dn)) h1 (by intros; simp)
 have hext : Ext c W (c.upd β (.loopF s1 dw tm ps as bo fn)) { W with heap := W.heap.setIfInBounds (c.φ β) (.loop (loopRec s1 dw fn l ps as bo dn)) } := Ext.upd hl (But.setObj W _ _)
 exact ⟨_, hset, hext, Sim.upd s hl (But.setObj W _ _) (fun ⟨ds, hd⟩ => by rw [h] at hd; cases hd) ⟨l, dn, rE h1, RepL.abides (hext.abides s) _ h2⟩⟩
theorem Kn {c : Ctx} {W : World} (s : Sim c W) {γ : Nat} (hγ : ¬ c.used γ) {s0 : LoopState} {pe : Option Code} {fn dn : Nat} {tm : List VV} {l : List Value} {ps : Array Tmp} {as bo : Code} (htm : RepL c W tm l) :
  Ext c W (c.push c.H γ (.loopF s0 pe tm ps as bo fn) W.heap.size 0) (W.alloc (.loop (loopRec s0 pe fn l ps as bo dn))) ∧ Sim (c.push c.H γ (.loopF s0 pe tm ps as bo fn) W.heap.size 0) (W.alloc (.loop (loopRec s0 pe fn l ps as bo dn))) := by
 have ab : Abides c W (c.push c.H γ (.loopF s0 pe tm ps as bo fn) W.heap.size 0) (W.alloc (.loop (loopRec s0 pe fn l ps as bo dn))) := oX s (ar.refl _) hγ (.inl (Nat.le_refl _)) (But.alloc W _)
 refine oZ s hγ ⟨l, dn, ?_, RepL.abides ab _ htm⟩
 simp only [Ctx.push, if_true]
 exact ml _ _
def RoundDoneF (β : Nat) (o : Oper) (st : St) (K : St → Prop) (jump : Option Code) (s2 : St) : Prop :=
 ∃ s pe tm ps as bo fn, s2.H β = some (.loopF s pe tm ps as bo fn) ∧
  K { st.put o.dst (.lit (.bool jump.isNone)) with H := updH s2.H β (.loopF (if jump.isNone then .ready else .done) jump tm ps as bo fn), nx := s2.nx }
def RoundEndF (β : Nat) (o : Oper) (st : St) (K : St → Prop) (Qp : VV → St → Prop) : VExit → St → Prop
 | .normal, s2 => RoundDoneF β o st K none s2
 | .ret, s2 => RoundDoneF β o st K (some .ret) s2
 | .exit id, s2 => RoundDoneF β o st K (some (.exit id)) s2
 | .goto l, s2 => RoundDoneF β o st K (some (.goto l)) s2
 | .panic x, s2 => s2.df = [] ∧ Qp x { st with H := s2.H, nx := s2.nx }
def RoundStartF (P : Program) (G : Glob) (n β : Nat) (bo : Code) (o : Oper) (st : St) (K : St → Prop) (Qp : VV → St → Prop) : VExit → St → Prop
 | .normal, s1 => ∃ pe tm ps as bo' fn, s1.H β = some (.loopF .ready pe tm ps as bo' fn) ∧
   VWp P (G.at (some (some β))) n bo (RoundEndF β o st K Qp) { s1 with H := updH s1.H β (.loopF .busy pe tm ps as bo' fn) }
 | _, _ => False
theorem aH.yieldF {P : Program} {G : Glob} {n : Nat} {ops : Array Oper} {base i : Nat} {o : Oper} {st : St} {K : St → Prop} {Qp : VV → St → Prop} {k : Call} {fo : Operand} {β : Nat} {pe : Option Code} {tm : List VV} {ps : Array Tmp} {as bo : Code} {f : Nat} {fn : Func}
  (ho : ops[i]? = some o) (hd : aX n ops = true) (hw : aN ops st.tm o = some true) (hop : o.op = .call k) (hk : k.callee = .value fo) (hf : st.ρ G fo = .yl β) (hβ : st.H β = some (.loopF .ready pe tm ps as bo f)) (hn : k.args.size = ps.size) (hfn : P.funcs[f]? = some fn)
  (h : VWp P (G.at (some (some β))) tm.length as (RoundStartF P G tm.length β bo o st K Qp) { tm := argsTm (roundTm tm ps.toList (k.args.toList.map (st.ρ G))), H := st.H, nx := st.nx, df := [] }) : aH P G n ops base i st K Qp := by
 intro ro c W a Kr Q hro s hr hs hγ hnx kk kp
 unfold wpOpIn
 simp only [ho]
 rw [if_pos (gB hr.tm hw)]
 refine ⟨fun _ _ => trivial, ?_⟩
 have hβc : c.H β = some (.loopF .ready pe tm ps as bo f) := by rw [hr.H]; exact hβ
 have hl : c.live β := by simp [Ctx.live, hβc]
 have hub : c.used β := s.used β hl
 have hfr := hr.eval fo
 rw [hf] at hfr
 have hfv := hfr.2 hl
 obtain ⟨l, dn, ep, hget, _⟩ := yG (P := P) s hβc
 have hargs := kC hr.eval k.args.toList
 have hyield : (Instr.yield (c.φ β) (k.args.map a.eval)).run P W = .ok (.round (c.φ β) f ⟨(ps.toList.zip (k.args.toList.map a.eval)).foldl (fun l p => l.set p.1 p.2) l⟩ as bo) W := by
  have e : k.args.map a.eval = ⟨k.args.toList.map a.eval⟩ := by apply Array.ext'; simp
  rw [e]
  exact LB hget rfl (by simpa [loopRec] using hn)
 have hrun : (execOp a.eval o).run P W = .ok (.round (c.φ β) f ⟨(ps.toList.zip (k.args.toList.map a.eval)).foldl (fun l p => l.set p.1 p.2) l⟩ as bo) W := by
  rw [← hyield]
  have e2 : (#[] ++ k.args.map a.eval : Array Value) = k.args.map a.eval := by simp
  simp only [execOp, hop, resolve, hk, Deferred.ofValue, hfv, pure_bind, invoke, e2]
 rw [Oper.semAt_eq _ _ _ (by rw [hop]; simp), hrun, Oper.uponIn_round]
 refine ⟨fun h => (by cases h), ?_⟩
 have hrt := CQ (ps := ps.toList) hargs ep
 have hlen : ((ps.toList.zip (k.args.toList.map a.eval)).foldl (fun l p => l.set p.1 p.2) l).length = tm.length := by
  have : ∀ (q : List (Tmp × Value)) (l : List Value), (q.foldl (fun l p => l.set p.1 p.2) l).length = l.length := by
   intro q
   induction q with
   | nil => intro l; rfl
   | cons p q ih => intro l; simp only [List.foldl_cons]; rw [ih]; simp
  rw [this, ep.length]
 generalize hvs : (ps.toList.zip (k.args.toList.map a.eval)).foldl (fun l p => l.set p.1 p.2) l = vs at *
 have CS : StRep (G.at (some (some β))) c W { tm := argsTm (roundTm tm ps.toList (k.args.toList.map (st.ρ G))), H := st.H, nx := st.nx, df := [] } { tmps := ⟨vs⟩, defers := [] } := by
  have := StRep.enter (G := G.at (some (some β))) (k := vs.length) hr.H hr.nx hr.G hrt
  simpa using this
 have kJ : RoOk (G.at (some (some β))) c (some (c.φ β)) := ⟨hub, fun _ => rfl⟩
 refine Tu hfn ?_
 refine wpIn_mono (h (some (c.φ β)) c W _ kJ s CS (by simpa using hlen)) ?_
 rintro e a1 W1 ⟨ve, c1, s1, he, hext1, pa, gm, pb, hJ, fM, hq⟩
 cases ve with
 | exit id => exact hq.elim
 | goto l => exact hq.elim
 | ret => exact hq.elim
 | panic x => exact hq.elim
 | normal =>
  refine ⟨he, ?_⟩
  obtain ⟨dw, gn, gp, gq, gu, nh, mm, hbody⟩ := hq
  have hb1c : c1.H β = some (.loopF .ready dw gn gp gq gu nh) := by rw [gm.H]; exact mm
  have hl1' : c1.live β := by simp [Ctx.live, hb1c]
  have hφ1 : c1.φ β = c.φ β := hext1.φ β hub hl1'
  obtain ⟨l1, TI, CT, hget1, hset1⟩ := yG (P := P) pa hb1c
  obtain ⟨W2, hset2, hext2, CU⟩ := hset1 .busy dw
  have iP := hext2.abides pa
  refine ⟨W2, ?_, ?_⟩
  ·rw [← hφ1]; exact L8 hget1 rfl hset2
  have pc : RoOk (G.at (some (some β))) (c1.upd β (.loopF .busy dw gn gp gq gu nh)) (some (c.φ β)) := (kJ.ext hext1).ext hext2
  have oW : StRep (G.at (some (some β))) (c1.upd β (.loopF .busy dw gn gp gq gu nh)) W2 { s1 with H := updH s1.H β (.loopF .busy dw gn gp gq gu nh) } a1 :=
   ⟨by rw [← gm.H]; rfl, fun t => Rep.abides iP _ (gm.tm t), gm.nx, gm.df.abides iP, gm.G.abides iP⟩
  refine wpIn_mono (hbody (some (c.φ β)) _ W2 a1 pc CU oW pb) ?_
  rintro e3 a3 W3 ⟨CV, c3, s3, lF, hext3, xq, gG, CW, hU, pd, kK⟩
  have bI := (hext1.trans hext2).trans hext3
  have husd : ∀ β', c3.used β' → c.used β' ∨ β' = base + i ∨ st.nx ≤ β' := by
   intro β' hb
   rcases hU β' hb with hb | hb
   ·rcases hJ β' hb with hb | hb
    ·exact .inl hb
    ·exact .inr (.inr hb)
   ·exact .inr (.inr (Nat.le_trans fM hb))
  have wU : st.nx ≤ s3.nx := Nat.le_trans fM pd
  have done : ∀ jump, RoundDoneF β o st K jump s3 → ∃ v w', (Instr.endRound (c.φ β) jump).run P W3 = .ok v w' ∧ Kr (a.put o.dst v) w' := by
   rintro jump ⟨s4, CX, pf, pg, ph, pj, xr, pk, hK⟩
   have hb4c : c3.H β = some (.loopF s4 CX pf pg ph pj xr) := by rw [gG.H]; exact pk
   have tE : c3.live β := by simp [Ctx.live, hb4c]
   have hφ3 : c3.φ β = c.φ β := bI.φ β hub tE
   obtain ⟨l4, TJ, CZ, hget4, hset4⟩ := yG (P := P) xq hb4c
   obtain ⟨W4, hset5, hext4, Da⟩ := hset4 (if jump.isNone then .ready else .done) jump
   have bS := bI.trans hext4
   have pn := bS.abides s
   refine ⟨.bool jump.isNone, W4, ?_, ?_⟩
   ·rw [← hφ3]; exact L9 hget4 hset5
   ·have h0 : StRep G (c3.upd β (.loopF (if jump.isNone then .ready else .done) jump pf pg ph pj xr)) W4
      { st.put o.dst (.lit (.bool jump.isNone)) with H := updH s3.H β (.loopF (if jump.isNone then .ready else .done) jump pf pg ph pj xr), nx := s3.nx } (a.put o.dst (.bool jump.isNone)) := by
     refine ⟨by rw [← gG.H]; rfl, ?_, gG.nx, ?_, hr.G.abides pn⟩
     ·exact oM (st := st) (dst := o.dst) (fun t => Rep.abides pn _ (hr.tm t)) (fun d hd' => by rw [hs]; exact j6 hd ho d hd') rfl
     ·rw [oN]
      cases o.dst <;> exact hr.df.abides pn
    exact kk _ W4 _ _ bS Da h0 (by simpa using hs) husd wU hK
  cases CV with
  | normal => have e4 : e3 = .normal := lF; subst e4; exact done none kK
  | ret => have e4 : e3 = .ret := lF; subst e4; exact done _ kK
  | exit id => have e4 : e3 = .exit id := lF; subst e4; exact done _ kK
  | goto l => have e4 : e3 = .goto l := lF; subst e4; exact done _ kK
  | panic x =>
   obtain ⟨v, e4, hv⟩ := lF
   subst e4
   obtain ⟨hdf, hqp⟩ := kK
   have fL := bI.abides s
   refine ⟨?_, kp a W3 c3 { st with H := s3.H, nx := s3.nx } x v bI xq ⟨gG.H, fun t => Rep.abides fL _ (hr.tm t), gG.nx, hr.df.abides fL, hr.G.abides fL⟩ hs husd wU hv hqp⟩
   have := gG.df
   rw [hdf] at this
   exact this
abbrev frameF (f : Nat) : Frame := { (default : Frame) with fn := f, kind := .normal, roundOf := none }
def Goes (P : Program) (f : Nat) (code : Code) (Q : Exit → Act → World → Prop) (a : Act) (W : World) : Prop :=
 ∀ (k : List Item) (cs : List Frame), ∃ e a' W', Q e a' W' ∧ ArrivesIn (Machine.fenced P Fence.wide) P (lone ((frameF f).atR a (.code code :: k)) cs W) (frameF f) k cs e a' W'
theorem Goes.of {P : Program} {f : Nat} {code : Code} {Q : Exit → Act → World → Prop} {a : Act} {W : World} (h : code.wpIn (Fw none) 0 P Q a W) : Goes P f code Q a W :=
 fun k cs => h (frameF f) k cs rfl trivial (fun d hd => by cases hd)
theorem Goes.mono {P : Program} {f : Nat} {code : Code} {Q Q' : Exit → Act → World → Prop} {a : Act} {W : World} (h : Goes P f code Q a W) (hq : ∀ e a W, Q e a W → Q' e a W) : Goes P f code Q' a W :=
 fun k cs => let ⟨e, a', W', q, r⟩ := h k cs; ⟨e, a', W', hq _ _ _ q, r⟩
def VGo (P : Program) (G : Glob) (f n : Nat) (code : Code) (Q : VExit → St → Prop) (st : St) : Prop :=
 ∀ c W a, Sim c W → StRep (G.at (some none)) c W st a → a.tmps.size = n → Goes P f code (Lift (G.at (some none)) n st.nx c W Q) a W
section
variable {P : Program} {G : Glob} {f n : Nat} {Q : VExit → St → Prop} {st : St}
theorem VGo.of {code : Code} (h : VWp P (G.at (some none)) n code Q st) : VGo P G f n code Q st :=
 fun c W a s hr hs => Goes.of (h none c W a rfl s hr hs)
theorem Goes.seq {x y : Code} {Q : Exit → Act → World → Prop} {a : Act} {W : World} (h : Goes P f x (fun e a' W' => (e = .normal ∧ Goes P f y Q a' W') ∨ (e ≠ .normal ∧ Q e a' W')) a W) : Goes P f (.seq x y) Q a W := by
 intro k cs
 have first : StepsIn (Machine.fenced P Fence.wide) P (lone ((frameF f).atR a (.code (.seq x y) :: k)) cs W) (lone ((frameF f).atR a (.code x :: .code y :: k)) cs W) := .one (fenced_wide P _) stepR_seq
 obtain ⟨e, a1, W1, hq, s1⟩ := h (.code y :: k) cs
 rcases hq with ⟨rfl, hq⟩ | ⟨he, hq⟩
 ·obtain ⟨e2, a2, W2, Dl, s2⟩ := hq k cs
  exact ⟨e2, a2, W2, Dl, .of_steps (StepsIn.trans first s1) s2⟩
 ·exact ⟨e, a1, W1, hq, .of_steps first (ArrivesIn.pass (x := .code y) rfl (fun _ _ => .inl he) s1)⟩
theorem Goes.block {id : Nat} {x : Code} {Q : Exit → Act → World → Prop} {a : Act} {W : World} (h : Goes P f x (Exit.inBlock id Q) a W) : Goes P f (.block id x) Q a W := by
 intro k cs
 have first : StepsIn (Machine.fenced P Fence.wide) P (lone ((frameF f).atR a (.code (.block id x) :: k)) cs W) (lone ((frameF f).atR a (.code x :: .inBlock id :: k)) cs W) := .one (fenced_wide P _) stepR_block
 obtain ⟨e, a1, W1, hq, s1⟩ := h (.inBlock id :: k) cs
 have other : ∀ e', e' = e → (∀ i, e' ≠ .exit i) → (∀ l, e' ≠ .goto l) → e' ≠ .normal → ArrivesIn (Machine.fenced P Fence.wide) P (lone ((frameF f).atR a (.code (.block id x) :: k)) cs W) (frameF f) k cs e' a1 W1 := by
  rintro e' rfl h1 h2 h3
  refine .of_steps first ?_
  cases e' with
  | normal => exact absurd rfl h3
  | exit i => exact absurd rfl (h1 i)
  | goto l => exact absurd rfl (h2 l)
  | ret => exact s1
  | panic _ => exact s1
  | outgrown => exact s1
 cases e with
 | normal => exact ⟨.normal, a1, W1, hq, StepsIn.trans first (StepsIn.trans s1 (.one (fenced_wide P _) stepR_inBlock))⟩
 | ret => exact ⟨_, a1, W1, hq, other _ rfl (by simp) (by simp) (by simp)⟩
 | panic ch => exact ⟨_, a1, W1, hq, other _ rfl (by simp) (by simp) (by simp)⟩
 | outgrown => exact ⟨_, a1, W1, hq, other _ rfl (by simp) (by simp) (by simp)⟩
 | exit i =>
  by_cases hi : i = id
  ·subst hi
   have hq' : Q .normal a1 W1 := by simpa [Exit.inBlock] using hq
   exact ⟨.normal, a1, W1, hq', StepsIn.trans first (s1.1 k (by simp [exitTo]))⟩
  ·have hq' : Q (.exit i) a1 W1 := by simpa [Exit.inBlock, hi] using hq
   have hne : (id == i) = false := by simp; exact fun h => hi h.symm
   have hto : exitTo i (.inBlock id :: k) = exitTo i k := by simp [exitTo, hne]
   exact ⟨.exit i, a1, W1, hq', .of_steps first ⟨fun k' hk => s1.1 k' (by rw [hto]; exact hk), fun hr hk => s1.2 hr (by rw [hto]; exact hk)⟩⟩
 | goto l =>
  have hto : gotoIn l (.inBlock id :: k) = gotoIn l k := by simp [gotoIn]
  exact ⟨_, a1, W1, hq, .of_steps first ⟨fun k' hk => s1.1 k' (by rw [hto]; exact hk), fun hr hk => s1.2 hr (by rw [hto]; exact hk)⟩⟩
theorem VGo.seq {x y : Code} (h : VGo P G f n x (VExit.then (VGo P G f n y Q) Q) st) : VGo P G f n (.seq x y) Q st := by
 intro c W a s hr hs
 refine Goes.seq ((h c W a s hr hs).mono ?_)
 rintro e a' W' ⟨ve, c', st', h1, h2, h3, h4, h5, h6, h7, h8⟩
 cases ve with
 | normal =>
  have e1 : e = .normal := h1
  exact .inl ⟨e1, (h8 c' W' a' h3 h4 h5).mono fun _ _ _ hl => hl.of_ext h2 h6 h7⟩
 | exit id => have e1 : e = .exit id := h1; subst e1; exact .inr ⟨by simp, _, c', st', h1, h2, h3, h4, h5, h6, h7, h8⟩
 | goto l => have e1 : e = .goto l := h1; subst e1; exact .inr ⟨by simp, _, c', st', h1, h2, h3, h4, h5, h6, h7, h8⟩
 | ret => have e1 : e = .ret := h1; subst e1; exact .inr ⟨by simp, _, c', st', h1, h2, h3, h4, h5, h6, h7, h8⟩
 | panic x =>
  obtain ⟨v, e1, hv⟩ := h1
  subst e1
  exact .inr ⟨by simp, .panic x, c', st', ⟨v, rfl, hv⟩, h2, h3, h4, h5, h6, h7, h8⟩
theorem VGo.block {id : Nat} {x : Code} (h : VGo P G f n x (VExit.inBlock id Q) st) : VGo P G f n (.block id x) Q st := by
 intro c W a s hr hs
 refine Goes.block ((h c W a s hr hs).mono ?_)
 rintro e a' W' ⟨ve, c', st', h1, h2, h3, h4, h5, h6, h7, h8⟩
 cases ve with
 | exit i =>
  have e1 : e = .exit i := h1
  subst e1
  simp only [Exit.inBlock]
  simp only [VExit.inBlock] at h8
  split
  ·rename_i hi
   rw [if_pos hi] at h8
   exact ⟨.normal, c', st', rfl, h2, h3, h4, h5, h6, h7, h8⟩
  ·rename_i hi
   rw [if_neg hi] at h8
   exact ⟨.exit i, c', st', rfl, h2, h3, h4, h5, h6, h7, h8⟩
 | normal => have e1 : e = .normal := h1; subst e1; exact ⟨_, c', st', h1, h2, h3, h4, h5, h6, h7, h8⟩
 | goto l => have e1 : e = .goto l := h1; subst e1; exact ⟨_, c', st', h1, h2, h3, h4, h5, h6, h7, h8⟩
 | ret => have e1 : e = .ret := h1; subst e1; exact ⟨_, c', st', h1, h2, h3, h4, h5, h6, h7, h8⟩
 | panic x =>
  obtain ⟨v, e1, hv⟩ := h1
  subst e1
  exact ⟨.panic x, c', st', ⟨v, rfl, hv⟩, h2, h3, h4, h5, h6, h7, h8⟩
def RangeEndF (P : Program) (G : Glob) (f n : Nat) (Q : VExit → St → Prop) (st : St) (H' : Nat → Option VObj) (nx' : Nat) : Prop :=
 ∃ s pe tm ps as bo fn, H' (st.nx + 1) = some (.loopF s pe tm ps as bo fn) ∧ s ≠ .busy ∧
  (match pe with
   | none => Q .normal { st with H := updH H' (st.nx + 1) (.loopF .exhausted pe tm ps as bo fn), nx := nx', df := .coll st.nx :: st.df }
   | some cd => VGo P G f n cd Q { st with H := updH H' (st.nx + 1) (.loopF .exhausted pe tm ps as bo fn), nx := nx', df := .coll st.nx :: st.df })
theorem VGo.range {g : Operand} {ps : Array Tmp} {as bo : Code} {f0 : FuncId} {first captured : List VV} (hg : st.ρ G g = .fn (.func f0) first captured)
  (h : au P G f0 (first ++ [.yl (st.nx + 1)] ++ captured) (updH (updH st.H st.nx (.deferred (some []))) (st.nx + 1) (.loopF .ready none (tmL n st.tm) ps as bo f)) (st.nx + 2)
   (fun _ H' nx' => RangeEndF P G f n Q st H' nx') (fun x H' nx' => Q (.panic x) { st with H := H', nx := nx', df := .coll st.nx :: st.df })) : VGo P G f n (.rangeFunc g ps as bo) Q st := by
 intro c W a s hr hs k cs
 have tB : ¬ c.used st.nx := fun hb => Nat.lt_irrefl _ (hr.nx _ hb)
 obtain ⟨e1, s1⟩ := oZ (rm := 0) (o := .deferred (some [])) (ob := .deferred (some [])) s tB ⟨rfl, by simp only [Ctx.push, if_true]; exact ml _ _⟩
 have hJ : ¬ (c.push c.H st.nx (.deferred (some [])) W.heap.size 0).used (st.nx + 1) := by
  rintro (hb | hb)
  ·omega
  ·have := hr.nx _ hb; omega
 have j5 := e1.abides s
 have htm : RepL (c.push c.H st.nx (.deferred (some [])) W.heap.size 0) (W.alloc (.deferred (some []))) (tmL n st.tm) a.tmps.toList := by
  rw [← hs]; exact tA fun t => Rep.abides j5 _ (hr.tm t)
 have hφ : (c.push c.H st.nx (.deferred (some [])) W.heap.size 0).φ st.nx = W.heap.size := by simp [Ctx.push]
 generalize ng : c.push c.H st.nx (.deferred (some [])) W.heap.size 0 = c1 at *
 generalize CL : W.alloc (.deferred (some [])) = W1 at *
 have xp : c1.H = updH st.H st.nx (.deferred (some [])) := by rw [← ng, ← hr.H]; rfl
 obtain ⟨e2, s2⟩ := Kn s1 hJ htm (s0 := .ready) (pe := none) (fn := f) (dn := W.heap.size) (ps := ps) (as := as) (bo := bo)
 have CM : (c1.push c1.H (st.nx + 1) (.loopF .ready none (tmL n st.tm) ps as bo f) W1.heap.size 0).H = updH (updH st.H st.nx (.deferred (some []))) (st.nx + 1) (.loopF .ready none (tmL n st.tm) ps as bo f) := by
  rw [← xp]; rfl
 have hy : Rep (c1.push c1.H (st.nx + 1) (.loopF .ready none (tmL n st.tm) ps as bo f) W1.heap.size 0) (W1.alloc (.loop (loopRec .ready none f a.tmps.toList ps as bo W.heap.size))) (.yl (st.nx + 1)) (.func (.yield W1.heap.size) #[] #[]) :=
  ⟨⟨.inl rfl, rfl⟩, fun _ => by simp [Ctx.push]⟩
 have hused2 : ∀ β, (c1.push c1.H (st.nx + 1) (.loopF .ready none (tmL n st.tm) ps as bo f) W1.heap.size 0).used β → c.used β ∨ β = st.nx ∨ β = st.nx + 1 := by
  rintro β (hb | hb)
  ·exact .inr (.inr hb)
  ·rw [← ng] at hb
   rcases hb with hb | hb
   ·exact .inr (.inl hb)
   ·exact .inl hb
 have hφ2 : (c1.push c1.H (st.nx + 1) (.loopF .ready none (tmL n st.tm) ps as bo f) W1.heap.size 0).φ (st.nx + 1) = W1.heap.size := by simp [Ctx.push]
 have hφ3 : (c1.push c1.H (st.nx + 1) (.loopF .ready none (tmL n st.tm) ps as bo f) W1.heap.size 0).φ st.nx = W.heap.size := by simp [Ctx.push, hφ]
 have hus : (c1.push c1.H (st.nx + 1) (.loopF .ready none (tmL n st.tm) ps as bo f) W1.heap.size 0).used (st.nx + 1) := .inl rfl
 have gL : (c1.push c1.H (st.nx + 1) (.loopF .ready none (tmL n st.tm) ps as bo f) W1.heap.size 0).used st.nx := .inr (by rw [← ng]; exact .inl rfl)
 generalize Pd : c1.push c1.H (st.nx + 1) (.loopF .ready none (tmL n st.tm) ps as bo f) W1.heap.size 0 = c2 at *
 generalize CN : W1.alloc (.loop (loopRec .ready none f a.tmps.toList ps as bo W.heap.size)) = W2 at *
 have tC := e1.trans e2
 have iP := tC.abides s
 have hgr := Rep.abides iP _ (hr.eval g)
 rw [show St.ρ (G.at (some none)) st g = .fn (.func f0) first captured from hg] at hgr
 obtain ⟨l1, l2, hgv, ep, fk⟩ := hgr
 have henter : (Instr.enterLoop f a.tmps ps as bo none).run P W = .ok (W1.heap.size, [{ target := .collected W.heap.size, args := #[] }]) W2 := by
  rw [← CN, ← CL]
  simp only [Instr.enterLoop, Sem.run_bind, run_newObj, Sem.run_pure, Result.andThen_ok]
  rfl
 have hres : (resolve a.eval (rangeCall g W1.heap.size) 0).run P W2 = .ok { target := .fn (.func f0) ⟨l2⟩, args := ⟨l1⟩ ++ #[.func (.yield W1.heap.size) #[] #[]] } W2 := by
  simp only [resolve, Deferred.ofValue, hgv, Sem.run_pure]
  simp [Act.eval]
 have hinv : (invoke (.fn (.func f0) ⟨l2⟩) (⟨l1⟩ ++ #[.func (.yield W1.heap.size) #[] #[]])).run P W2 = .ok (.enter f0 ⟨l1 ++ [.func (.yield W1.heap.size) #[] #[]] ++ l2⟩) W2 := by
  have := h.1 ⟨l1 ++ [.func (.yield W1.heap.size) #[] #[]] ++ l2⟩ W2
  rw [← this]
  simp only [invoke]
  congr 2
  apply Array.ext'
  simp
 have hstep := stepR_rangeFunc (P := P) (b := frameF f) (a := a) (k := k) (cs := cs) (w := W) (g := g) (ps := ps) (assign := as) (body := bo) henter hres hinv
 have fen : ∀ m, Machine.fenced P Fence.wide m := fun m => fenced_wide P m
 have CP : GOk G c2 W2 := hr.G.abides iP
 have hcall := h.2 c2 W2 (l1 ++ [.func (.yield W1.heap.size) #[] #[]] ++ l2) s2 CM (fun β hb => by
  rcases hused2 β hb with hb | hb | hb
  ·have := hr.nx β hb; omega
  ·omega
  ·omega) CP (RepL.append (RepL.append ep ⟨_, [], rfl, hy, rfl⟩) fk)
 obtain ⟨en, W', fr, ⟨c', H', nx', hext, hs', hH', hu, hu', hle, hres2⟩, hsteps, hfn, hleave⟩ := hcall.2 ((frameF f).atR { a with defers := [{ target := .collected W.heap.size, args := #[] }] ++ a.defers } (.inRangeFunc W1.heap.size :: k) :: cs) (fun d hd => by cases hd)
 have eall := tC.trans hext
 have aball := eall.abides s
 have husd : ∀ β, c'.used β → c.used β ∨ st.nx ≤ β := by
  intro β hb
  rcases hu β hb with hb | hb
  ·rcases hused2 β hb with hb | hb | hb
   ·exact .inl hb
   ·right; omega
   ·right; omega
  ·right; omega
 have hdf : ∀ (c3 : Ctx) (W3 : World), Abides c' W' c3 W3 → RepDs c3 W3 (.coll st.nx :: st.df) ([{ target := .collected W.heap.size, args := #[] }] ++ a.defers) := by
  intro c3 W3 fL
  refine ⟨_, _, rfl, ⟨fL.used _ (hext.used _ gL), fun hl => ?_⟩, RepDs.abides fL (hr.df.abides aball)⟩
  have hl' := fL.live _ (hext.used _ gL) hl
  rw [fL.φ _ (hext.used _ gL) hl, hext.φ _ gL hl', hφ3]
 rcases hres2 with ⟨x, v, rfl, hx, s', pe, tm', ps', as', bo', fn', hloop, hnb, hj⟩ | ⟨x, v, rfl, hx, hR⟩
 ·have hl : c'.live (st.nx + 1) := by simp [Ctx.live, hH', hloop]
  have hφ' : c'.φ (st.nx + 1) = W1.heap.size := by rw [hext.φ _ hus hl, hφ2]
  obtain ⟨l, dn, hl1', hget, hset⟩ := yG (P := P) hs' (by rw [hH']; exact hloop)
  obtain ⟨W3, hset3, e3, s3⟩ := hset .exhausted pe
  have fL := e3.abides hs'
  have hend : (Instr.endLoop W1.heap.size).run P W' = .ok pe W3 := by
   rw [← hφ']
   exact L7 hget hnb hset3
  have gG : StRep (G.at (some none)) (c'.upd (st.nx + 1) (.loopF .exhausted pe tm' ps' as' bo' fn')) W3 { st with H := updH H' (st.nx + 1) (.loopF .exhausted pe tm' ps' as' bo' fn'), nx := nx', df := .coll st.nx :: st.df } { a with defers := [{ target := .collected W.heap.size, args := #[] }] ++ a.defers } := by
   refine ⟨by rw [← hH']; rfl, fun t => Rep.abides fL _ (Rep.abides aball _ (hr.tm t)), fun β hb => hu' β hb, hdf _ _ fL, (hr.G.abides aball).abides fL⟩
  have tD := eall.trans e3
  have back : StepsIn (Machine.fenced P Fence.wide) P (lone ((frameF f).atR a (.code (.rangeFunc g ps as bo) :: k)) cs W) (lone ((frameF f).atR { a with defers := [{ target := .collected W.heap.size, args := #[] }] ++ a.defers } ((pe.map Item.code).toList ++ k)) cs W3) := by
   have hleft := step_leave_returned (c := (frameF f).atR { a with defers := [{ target := .collected W.heap.size, args := #[] }] ++ a.defers } (.inRangeFunc W1.heap.size :: k)) (cs := cs) hleave
   rw [finish_atR_inRangeFunc] at hleft
   exact .head (fen _) hstep (StepsIn.trans hsteps (.head (fen _) hleft (.one (fen _) (stepR_endRangeFunc hend))))
  cases pe with
  | none => exact ⟨.normal, _, W3, ⟨.normal, _, _, rfl, tD, s3, gG, hs, fun β hb => husd β hb, (show st.nx ≤ nx' by omega), hj⟩, back⟩
  | some cd =>
   obtain ⟨e5, a5, W5, Tv, harr⟩ := hj _ W3 _ s3 gG hs k cs
   exact ⟨e5, a5, W5, Tv.of_ext tD (fun β hb => husd β hb) (show st.nx ≤ nx' by omega), .of_steps back harr⟩
 ·have gG : StRep (G.at (some none)) c' W' { st with H := H', nx := nx', df := .coll st.nx :: st.df } { a with defers := [{ target := .collected W.heap.size, args := #[] }] ++ a.defers } :=
   ⟨hH', fun t => Rep.abides aball _ (hr.tm t), fun β hb => hu' β hb, hdf _ _ ((Ext.refl c' W').abides hs'), hr.G.abides aball⟩
  have hleft := step_leave_panicked (c := (frameF f).atR { a with defers := [{ target := .collected W.heap.size, args := #[] }] ++ a.defers } (.inRangeFunc W1.heap.size :: k)) (cs := cs) hleave
  rw [Frame.raise_atR] at hleft
  exact ⟨.panic _, _, W', ⟨.panic x, c', _, ⟨v, rfl, hx⟩, eall, hs', gG, hs, husd, (show st.nx ≤ nx' by omega), hR⟩, .inRangeFunc W1.heap.size :: k, .head (fen _) hstep (StepsIn.trans hsteps (.one (fen _) hleft))⟩
end
theorem au.of_bodyGo {P : Program} {G : Glob} {f : FuncId} {fn : Func} {code : Code} {args : List VV} {H : Nat → Option VObj} {nx : Nat} {R Rp : VV → (Nat → Option VObj) → Nat → Prop} (hc : Callable P f) (hf : P.funcs[f]? = some fn)
  (hb : fn.body = some code) (hn : args.length ≤ fn.ntmps) (h : VGo P G f fn.ntmps code (OpenPostD P G fn R Rp) { tm := argsTm args, H, nx, df := [] }) : au P G f args H nx R Rp := by
 refine ⟨hc, fun c W vs s hH hnx hG hargs => ?_⟩
 have hlen := hargs.length
 refine ⟨trivial, fun cs hroom => ?_⟩
 have henter : Frame.enter P f ⟨vs⟩ .normal = (frameF f).atR { tmps := (⟨vs⟩ : Array Value) ++ Array.replicate (fn.ntmps - vs.length) undef, defers := [] } [.code code] := by
  simp [Frame.enter, Frame.atR, hf, hb, frameF]
 obtain ⟨e, a', W', ⟨ve, c', st', he, hext, hs', hr', hsz, hu, hle, hq⟩, harr⟩ := h c W _ s (StRep.enter (G := G.at (some none)) (k := fn.ntmps) hH hnx hG hargs) (by simp; omega) [] cs
 rw [← henter] at harr
 have finish : ∀ (u : VMode) (u0 : FrameMode), MRep c' W' u u0 → leavesK P G (finK P fn st' R Rp) st'.df u st'.H st'.nx →
   LeavesInM Fence.wide 0 P fn a'.tmps (fun e W' => ∃ c' H' nx', Ext c W c' W' ∧ Sim c' W' ∧ c'.H = H' ∧ (∀ β, c'.used β → c.used β ∨ nx ≤ β) ∧ (∀ β, c'.used β → β < nx') ∧ nx ≤ nx' ∧
    ((∃ x v, e = .returned v ∧ Rep c' W' x v ∧ R x H' nx') ∨ (∃ x v, e = .panicked [{ v, recovered := false }] ∧ Rep c' W' x v ∧ Rp x H' nx'))) a'.defers u0 W' := by
  intro u u0 hm hK
  refine xt (G := G) st'.df a'.defers c' W' u u0 st'.nx hs' hr'.df hm hr'.nx (show GOk G c' W' from hr'.G) (by rw [hr'.H]; exact hK) fun c1 W1 u1 jm dc h2 h3 h4 h5 h6 h7 h8 => ?_
  have ab := h2.abides hs'
  have hus : ∀ β, c1.used β → c.used β ∨ nx ≤ β := fun β hb => by
   rcases h4 β hb with hb | hb
   ·exact hu β hb
   ·right; exact Nat.le_trans hle hb
  have fM : nx ≤ dc := Nat.le_trans hle h6
  cases u1 with
  | ret =>
   have e1 : jm = .returning := h7
   subst e1
   obtain ⟨x, hx, hR⟩ := h8
   have gm : StRep (G.at (some none)) c1 W1 { st' with H := c1.H, nx := dc, df := [] } { a' with defers := [] } := ⟨rfl, fun t => Rep.abides ab _ (hr'.tm t), h5, rfl, hr'.G.abides ab⟩
   obtain ⟨v, hv, hrv⟩ := th h3 gm hx
   exact ⟨v, hv, c1, c1.H, dc, hext.trans h2, h3, rfl, hus, h5, fM, .inl ⟨x, v, rfl, hrv, hR⟩⟩
  | pan x r =>
   obtain ⟨v, e1, hv⟩ := h7
   subst e1
   cases r with
   | true => exact h8.elim
   | false => exact ⟨c1, c1.H, dc, hext.trans h2, h3, rfl, hus, h5, fM, .inr ⟨x, v, rfl, hv, h8⟩⟩
 have hF : Fence.wide.fn f := trivial
 cases ve with
 | normal =>
  have e1 : e = .normal := he
  subst e1
  obtain ⟨e', w'', fr', hR, hs, hfn, hl⟩ := leaves_stepsInM a'.defers .returning W' { (frameF f).atR a' [] with mode := .returning } cs rfl rfl rfl hf rfl hF hroom (finish .ret .returning rfl hq)
  exact ⟨e', w'', fr', hR, ComesIn.of_steps (StepsIn.trans harr (.one (fenced_calm (fr := (frameF f).atR a' []) hF hroom rfl) (stepR_end rfl))) hs, hfn, hl⟩
 | ret =>
  have e1 : e = .ret := he
  subst e1
  obtain ⟨todo, hs₀⟩ := harr.1 rfl
  obtain ⟨e', w'', fr', hR, hs, hfn, hl⟩ := leaves_stepsInM a'.defers .returning W' { (frameF f).atR a' todo with mode := .returning } cs rfl rfl rfl hf rfl hF hroom (finish .ret .returning rfl hq)
  exact ⟨e', w'', fr', hR, ComesIn.of_steps hs₀ hs, hfn, hl⟩
 | exit id => exact hq.elim
 | goto l => exact hq.elim
 | panic x =>
  obtain ⟨v, e1, hv⟩ := he
  subst e1
  obtain ⟨todo, hs₀⟩ := harr
  obtain ⟨e', w'', fr', hR, hs, hfn, hl⟩ := leaves_stepsInM a'.defers (.panicking [{ v, recovered := false }]) W' { (frameF f).atR a' todo with mode := .panicking [{ v, recovered := false }] } cs rfl rfl rfl hf rfl hF hroom (finish (.pan x false) (.panicking [{ v, recovered := false }]) ⟨v, rfl, hv⟩ hq)
  exact ⟨e', w'', fr', hR, ComesIn.of_steps hs₀ hs, hfn, hl⟩
end Go.V
end
