/- Part of a proof. -/
import Derived.Test.YtclkbhbhohdgbaaGreatDoorE3ad
set_option linter.all false
section
namespace Go.V
open Go
def RoundLeft (P : Program) (l : Nat) (R : Ending → World → Prop) : Exit → Act → World → Prop
 | .panic chain, a, w => a.defers = [] ∧ R (.panicked chain) w
 | .normal, _, w => ∃ v w', (Instr.endRound l none).run P w = .ok v w' ∧ R (.returned v) w'
 | .ret, _, w => ∃ v w', (Instr.endRound l (some .ret)).run P w = .ok v w' ∧ R (.returned v) w'
 | .exit id, _, w => ∃ v w', (Instr.endRound l (some (.exit id))).run P w = .ok v w' ∧ R (.returned v) w'
 | .goto t, _, w => ∃ v w', (Instr.endRound l (some (.goto t))).run P w = .ok v w' ∧ R (.returned v) w'
 | .outgrown, _, _ => False
variable {P : Program}
theorem Ww {ro : Option Nat} {n l f : Nat} {fn : Func} {tmps : Array Value} {assign body : Code} {w : World} {R : Ending → World → Prop} (hf : P.funcs[f]? = some fn)
  (h : assign.wpIn (Fw (some l)) n P (fun e a₁ w₁ => e = .normal ∧ ∃ w₂, (Instr.beginRound l).run P w₁ = .ok () w₂ ∧ body.wpIn (Fw (some l)) n P (RoundLeft P l R) a₁ w₂) { tmps := tmps, defers := [] } w) :
  RoundIn (Fw ro) n P l f tmps assign body w R := by
 refine ⟨trivial, fun c cs _ => ?_⟩
 have room : ∀ k, (Fw (some l)).room k := fun k d hd => by cases hd
 have fen : ∀ m, Machine.fenced P (Fw (some l)) m := fun m => fenced_wide P m
 have start : Frame.round l f tmps assign body .normal = Frame.atR { (default : Frame) with fn := f, kind := .normal, roundOf := some l } { tmps := tmps, defers := [] } [.code assign, .beginRound, .code body] := by
  simp [Frame.round, Frame.atR]
 obtain ⟨e1, a1, w1, ⟨rfl, w2, hbegin, hbody⟩, s1⟩ := h { (default : Frame) with fn := f, kind := .normal, roundOf := some l } [.beginRound, .code body] (c :: cs) rfl trivial (room _)
 rw [← start] at s1
 obtain ⟨e3, a3, w3, hleft, s3⟩ := hbody { (default : Frame) with fn := f, kind := .normal, roundOf := some l } [] (c :: cs) rfl trivial (room _)
 have yI := StepsIn.trans s1 (.one (fen _) (stepR_beginRound (P := P) rfl hbegin))
 cases e3 with
 | normal =>
  obtain ⟨v, w4, he, hR⟩ := hleft
  exact ⟨.returned v, w4, hR, StepsIn.trans yI (StepsIn.trans s3 (.one (fen _) (stepR_round_end rfl rfl he)))⟩
 | ret =>
  obtain ⟨v, w4, he, hR⟩ := hleft
  obtain ⟨k1, s4⟩ := s3.2 rfl
  exact ⟨.returned v, w4, hR, StepsIn.trans yI (StepsIn.trans s4 (.one (fen _) (stepR_round_ret rfl rfl he)))⟩
 | exit id =>
  obtain ⟨v, w4, he, hR⟩ := hleft
  obtain ⟨k1, hk, s4⟩ := s3.2 rfl rfl
  exact ⟨.returned v, w4, hR, StepsIn.trans yI (StepsIn.trans s4 (.one (fen _) (stepR_round_exit rfl rfl hk he)))⟩
 | goto t =>
  obtain ⟨v, w4, he, hR⟩ := hleft
  obtain ⟨k1, hk, s4⟩ := s3.2 rfl rfl
  exact ⟨.returned v, w4, hR, StepsIn.trans yI (StepsIn.trans s4 (.one (fen _) (stepR_round_goto rfl rfl hk he)))⟩
 | panic chain =>
  obtain ⟨hd, hR⟩ := hleft
  obtain ⟨todo, s4⟩ := s3
  exact ⟨.panicked chain, w3, hR, StepsIn.trans yI (StepsIn.trans s4 (.one (fen _) (step_leave_panicked ⟨rfl, hd, fn, hf⟩)))⟩
 | outgrown => exact hleft.elim
variable {s0 : LoopState} {pe : Option Code} {tm : List VV} {ps : Array Tmp} {as bo : Code}
theorem Dq {c : Ctx} {W : World} (s : Sim c W) {β : Nat} {fn : Nat} (h : c.H β = some (.loopF s0 pe tm ps as bo fn)) :
  ∃ l dn, Rl c W tm l ∧ (getObj (c.φ β)).run P W = .ok (.loop (loopRec s0 pe fn l ps as bo dn)) W ∧ ∀ s1 fF, ∃ W', (setObj (c.φ β) (.loop (loopRec s1 fF fn l ps as bo dn))).run P W = .ok () W' ∧
   Ext c W (c.upd β (.loopF s1 fF tm ps as bo fn)) W' ∧ Sim (c.upd β (.loopF s1 fF tm ps as bo fn)) W' := by
 have hl : c.live β := by simp [Ctx.live, h]
 obtain ⟨l, dn, h1, h2⟩ := s.obj β _ h
 refine ⟨l, dn, h2, by simp [getObj, Sem.run, h1, loopRec], fun s1 fF => ?_⟩
 have hset := wJ (P := P) (o' := .loop (loopRec s1 fF fn l ps as bo dn)) h1 (by intros; simp)
 have aD : Ext c W (c.upd β (.loopF s1 fF tm ps as bo fn)) { W with heap := W.heap.setIfInBounds (c.φ β) (.loop (loopRec s1 fF fn l ps as bo dn)) } := Ext.upd hl (But.setObj W _ _)
 exact ⟨_, hset, aD, Sim.upd s hl (But.setObj W _ _) (fun ⟨ds, hd⟩ => by rw [h] at hd; cases hd) ⟨l, dn, wK h1, Rl.abides (aD.abides s) _ h2⟩⟩
theorem FR {c : Ctx} {W : World} (s : Sim c W) {γ : Nat} (hγ : ¬ c.used γ) {fn dn : Nat} {l : List Value} (htm : Rl c W tm l) :
  Ext c W (c.push c.H γ (.loopF s0 pe tm ps as bo fn) W.heap.size 0) (W.alloc (.loop (loopRec s0 pe fn l ps as bo dn))) ∧ Sim (c.push c.H γ (.loopF s0 pe tm ps as bo fn) W.heap.size 0) (W.alloc (.loop (loopRec s0 pe fn l ps as bo dn))) := by
 have ab : Abides c W (c.push c.H γ (.loopF s0 pe tm ps as bo fn) W.heap.size 0) (W.alloc (.loop (loopRec s0 pe fn l ps as bo dn))) := tK s (ai.refl _) hγ (.inl (qZh _)) (But.alloc W _)
 refine tL s hγ ⟨l, dn, ?_, Rl.abides ab _ htm⟩
 simp only [Ctx.push, if_true]
 exact ru _ _
def RoundDoneF (β : Nat) (o : Oper) (st : St) (K : St → Prop) (jump : Option Code) (s2 : St) : Prop :=
 ∃ s pe tm ps as bo fn, s2.H β = some (.loopF s pe tm ps as bo fn) ∧
  K { st.put o.dst (.lit (.bool jump.isNone)) with H := updH s2.H β (.loopF (if jump.isNone then .ready else .done) jump tm ps as bo fn), nx := s2.nx }
def RoundEndF (β : Nat) (o : Oper) (st : St) (K : St → Prop) (Qp : VV → St → Prop) : Vx → St → Prop
 | .normal, s2 => RoundDoneF β o st K none s2
 | .ret, s2 => RoundDoneF β o st K (some .ret) s2
 | .exit id, s2 => RoundDoneF β o st K (some (.exit id)) s2
 | .goto l, s2 => RoundDoneF β o st K (some (.goto l)) s2
 | .panic x, s2 => s2.df = [] ∧ Qp x { st with H := s2.H, nx := s2.nx }
def RoundStartF (P : Program) (G : Gb) (n β : Nat) (bo : Code) (o : Oper) (st : St) (K : St → Prop) (Qp : VV → St → Prop) : Vx → St → Prop
 | .normal, s1 => ∃ pe tm ps as bo' fn, s1.H β = some (.loopF .ready pe tm ps as bo' fn) ∧
   VWp P (G.at (some (some β))) n bo (RoundEndF β o st K Qp) { s1 with H := updH s1.H β (.loopF .busy pe tm ps as bo' fn) }
 | _, _ => False
theorem aK.yieldF {G : Gb} {n : Nat} {ops : Array Oper} {aa i : Nat} {o : Oper} {st : St} {K : St → Prop} {Qp : VV → St → Prop} {k : Call} {fo : Operand} {β : Nat} {f : Nat} {fn : Func}
  (ho : ops[i]? = some o) (hd : dstsOk n ops = true) (hw : aJ ops st.tm o = some true) (hop : o.op = .call k) (hk : k.callee = .value fo) (hf : st.ρ G fo = .yl β) (hβ : st.H β = some (.loopF .ready pe tm ps as bo f)) (hn : k.args.size = ps.size) (hfn : P.funcs[f]? = some fn)
  (h : VWp P (G.at (some (some β))) tm.length as (RoundStartF P G tm.length β bo o st K Qp) { tm := bc (roundTm tm ps.toList (k.args.toList.map (st.ρ G))), H := st.H, nx := st.nx, df := [] }) : aK P G n ops aa i st K Qp := by
 intro ro c W a Kr Q hro s hr hs hγ hnx kk kp
 unfold wpOpIn
 simp only [ho]
 rw [if_pos (jH hr.tm hw)]
 refine ⟨fun _ _ => trivial, ?_⟩
 have hβc : c.H β = some (.loopF .ready pe tm ps as bo f) := by rw [hr.H]; exact hβ
 have hl : c.live β := by simp [Ctx.live, hβc]
 have hub : c.used β := s.used β hl
 have hfr := hr.eval fo
 rw [hf] at hfr
 have hfv := hfr.2 hl
 obtain ⟨l, dn, dH, hget, _⟩ := Dq (P := P) s hβc
 have bz := ph hr.eval k.args.toList
 have hyield : (Instr.yield (c.φ β) (k.args.map a.eval)).run P W = .ok (.round (c.φ β) f ⟨(ps.toList.zip (k.args.toList.map a.eval)).foldl (fun l p => l.set p.1 p.2) l⟩ as bo) W := by
  have e : k.args.map a.eval = ⟨k.args.toList.map a.eval⟩ := by apply Array.ext'; simp
  rw [e]
  exact SE hget rfl (by simpa [loopRec] using hn)
 have aI : (execOp a.eval o).run P W = .ok (.round (c.φ β) f ⟨(ps.toList.zip (k.args.toList.map a.eval)).foldl (fun l p => l.set p.1 p.2) l⟩ as bo) W := by
  rw [← hyield]
  have e2 : (#[] ++ k.args.map a.eval : Array Value) = k.args.map a.eval := by simp
  simp only [execOp, hop, resolve, hk, Deferred.ofValue, hfv, pure_bind, invoke, e2]
 rw [Oper.semAt_eq _ _ _ (by rw [hop]; simp), aI, Oper.uponIn_round]
 refine ⟨fun h => (by cases h), ?_⟩
 have hrt := FT (ps := ps.toList) bz dH
 have ba : ((ps.toList.zip (k.args.toList.map a.eval)).foldl (fun l p => l.set p.1 p.2) l).length = tm.length := by
  have : ∀ (q : List (Tmp × Value)) (l : List Value), (q.foldl (fun l p => l.set p.1 p.2) l).length = l.length := by
   intro q
   induction q with
   | nil => intro l; rfl
   | cons p q ih => intro l; simp only [List.foldl_cons]; rw [ih]; simp
  rw [this, dH.length]
 generalize hvs : (ps.toList.zip (k.args.toList.map a.eval)).foldl (fun l p => l.set p.1 p.2) l = vs at *
 have mi : Sr (G.at (some (some β))) c W { tm := bc (roundTm tm ps.toList (k.args.toList.map (st.ρ G))), H := st.H, nx := st.nx, df := [] } { tmps := ⟨vs⟩, defers := [] } := by
  have := Sr.enter (G := G.at (some (some β))) (k := vs.length) hr.H hr.nx hr.G hrt
  simpa using this
 have pj : RoOk (G.at (some (some β))) c (some (c.φ β)) := ⟨hub, fun _ => rfl⟩
 refine Ww hfn ?_
 refine wpIn_mono (h (some (c.φ β)) c W _ pj s mi (by simpa using ba)) ?_
 rintro e a1 W1 ⟨ve, c1, s1, he, hext1, yJ, kl, tT, kT, kU, hq⟩
 cases ve with
 | exit id => exact hq.elim
 | goto l => exact hq.elim
 | ret => exact hq.elim
 | panic x => exact hq.elim
 | normal =>
  refine ⟨he, ?_⟩
  obtain ⟨fF, j3, j4, j5, j6, tU, wI, hbody⟩ := hq
  have hb1c : c1.H β = some (.loopF .ready fF j3 j4 j5 j6 tU) := by rw [kl.H]; exact wI
  have hl1' : c1.live β := by simp [Ctx.live, hb1c]
  have hφ1 : c1.φ β = c.φ β := hext1.φ β hub hl1'
  obtain ⟨l1, dn1, FU, hget1, hset1⟩ := Dq (P := P) yJ hb1c
  obtain ⟨W2, hset2, hext2, kL⟩ := hset1 .busy fF
  have mh := hext2.abides yJ
  refine ⟨W2, ?_, ?_⟩
  ·rw [← hφ1]; exact S5 hget1 rfl hset2
  have tV : RoOk (G.at (some (some β))) (c1.upd β (.loopF .busy fF j3 j4 j5 j6 tU)) (some (c.φ β)) := (pj.ext hext1).ext hext2
  have mj : Sr (G.at (some (some β))) (c1.upd β (.loopF .busy fF j3 j4 j5 j6 tU)) W2 { s1 with H := updH s1.H β (.loopF .busy fF j3 j4 j5 j6 tU) } a1 :=
   ⟨by rw [← kl.H]; rfl, fun t => Rep.abides mh _ (kl.tm t), kl.nx, kl.df.abides mh, kl.G.abides mh⟩
  refine wpIn_mono (hbody (some (c.φ β)) _ W2 a1 tV kL mj tT) ?_
  rintro e3 a3 W3 ⟨FV, c3, s3, qD, hext3, Dr, jI, FW, iD, tW, pk⟩
  have bA := (hext1.trans hext2).trans hext3
  have husd : ∀ β', c3.used β' → c.used β' ∨ β' = aa + i ∨ st.nx ≤ β' := by
   intro β' hb
   rcases iD β' hb with hb | hb
   ·rcases kT β' hb with hb | hb
    ·exact .inl hb
    ·exact .inr (.inr hb)
   ·exact .inr (.inr (qZi kU hb))
  have yK : st.nx ≤ s3.nx := qZi kU tW
  have done : ∀ jump, RoundDoneF β o st K jump s3 → ∃ v w', (Instr.endRound (c.φ β) jump).run P W3 = .ok v w' ∧ Kr (a.put o.dst v) w' := by
   rintro jump ⟨s4, FX, tX, tY, tZ, ub, Ds, FY, hK⟩
   have hb4c : c3.H β = some (.loopF s4 FX tX tY tZ ub Ds) := by rw [jI.H]; exact FY
   have FZ : c3.live β := by simp [Ctx.live, hb4c]
   have hφ3 : c3.φ β = c.φ β := bA.φ β hub FZ
   obtain ⟨l4, dn4, Ga, hget4, hset4⟩ := Dq (P := P) Dr hb4c
   obtain ⟨W4, hset5, hext4, Gc⟩ := hset4 (if jump.isNone then .ready else .done) jump
   have bK := bA.trans hext4
   have uc := bK.abides s
   refine ⟨.bool jump.isNone, W4, ?_, ?_⟩
   ·rw [← hφ3]; exact S6 hget4 hset5
   ·have h0 : Sr G (c3.upd β (.loopF (if jump.isNone then .ready else .done) jump tX tY tZ ub Ds)) W4
      { st.put o.dst (.lit (.bool jump.isNone)) with H := updH s3.H β (.loopF (if jump.isNone then .ready else .done) jump tX tY tZ ub Ds), nx := s3.nx } (a.put o.dst (.bool jump.isNone)) := by
     refine ⟨by rw [← jI.H]; rfl, ?_, jI.nx, ?_, hr.G.abides uc⟩
     ·exact tN (st := st) (dst := o.dst) (fun t => Rep.abides uc _ (hr.tm t)) (fun d hd' => by rw [hs]; exact oU hd ho d hd') rfl
     ·rw [tO]
      cases o.dst <;> exact hr.df.abides uc
    exact kk _ W4 _ _ bK Gc h0 (by simpa using hs) husd yK hK
  cases FV with
  | normal => have e4 : e3 = .normal := qD; subst e4; exact done none pk
  | ret => have e4 : e3 = .ret := qD; subst e4; exact done _ pk
  | exit id => have e4 : e3 = .exit id := qD; subst e4; exact done _ pk
  | goto l => have e4 : e3 = .goto l := qD; subst e4; exact done _ pk
  | panic x =>
   obtain ⟨v, e4, hv⟩ := qD
   subst e4
   obtain ⟨hdf, hqp⟩ := pk
   have iU := bA.abides s
   refine ⟨?_, kp a W3 c3 { st with H := s3.H, nx := s3.nx } x v bA Dr ⟨jI.H, fun t => Rep.abides iU _ (hr.tm t), jI.nx, hr.df.abides iU, hr.G.abides iU⟩ hs husd yK hv hqp⟩
   have := jI.df
   rw [hdf] at this
   exact this
abbrev frameF (f : Nat) : Frame := { (default : Frame) with fn := f, kind := .normal, roundOf := none }
def Goes (P : Program) (f : Nat) (code : Code) (Q : Exit → Act → World → Prop) (a : Act) (W : World) : Prop :=
 ∀ (k : List Item) (cs : List Frame), ∃ e a' W', Q e a' W' ∧ ArrivesIn (Machine.fenced P Fence.wide) P (lone ((frameF f).atR a (.code code :: k)) cs W) (frameF f) k cs e a' W'
def VGo (P : Program) (G : Gb) (f n : Nat) (code : Code) (Q : Vx → St → Prop) (st : St) : Prop :=
 ∀ c W a, Sim c W → Sr (G.at (some none)) c W st a → a.tmps.size = n → Goes P f code (Lift (G.at (some none)) n st.nx c W Q) a W
section
variable {P : Program} {G : Gb} {f n : Nat} {Q : Vx → St → Prop} {st : St}
def RangeEndF (P : Program) (G : Gb) (f n : Nat) (Q : Vx → St → Prop) (st : St) (H' : Nat → Option Vo) (nx' : Nat) : Prop :=
 ∃ s pe tm ps as bo fn, H' (st.nx + 1) = some (.loopF s pe tm ps as bo fn) ∧ s ≠ .busy ∧
  (match pe with
   | none => Q .normal { st with H := updH H' (st.nx + 1) (.loopF .exhausted pe tm ps as bo fn), nx := nx', df := .coll st.nx :: st.df }
   | some cd => VGo P G f n cd Q { st with H := updH H' (st.nx + 1) (.loopF .exhausted pe tm ps as bo fn), nx := nx', df := .coll st.nx :: st.df })
theorem VGo.range {g : Operand} {f0 : FuncId} {first captured : List VV} (hg : st.ρ G g = .fn (.func f0) first captured)
  (h : aU P G f0 (first ++ [.yl (st.nx + 1)] ++ captured) (updH (updH st.H st.nx (.deferred (some []))) (st.nx + 1) (.loopF .ready none (tmL n st.tm) ps as bo f)) (st.nx + 2)
   (fun _ H' nx' => RangeEndF P G f n Q st H' nx') (fun x H' nx' => Q (.panic x) { st with H := H', nx := nx', df := .coll st.nx :: st.df })) : VGo P G f n (.rangeFunc g ps as bo) Q st := by
 intro c W a s hr hs k cs
 have qC : ¬ c.used st.nx := fun hb => Nat.lt_irrefl _ (hr.nx _ hb)
 obtain ⟨e1, s1⟩ := tL (rm := 0) (o := .deferred (some [])) (ob := .deferred (some [])) s qC ⟨rfl, by simp only [Ctx.push, if_true]; exact ru _ _⟩
 have kT : ¬ (c.push c.H st.nx (.deferred (some [])) W.heap.size 0).used (st.nx + 1) := by
  rintro (hb | hb)
  ·omega
  ·have := hr.nx _ hb; omega
 have nE := e1.abides s
 have htm : Rl (c.push c.H st.nx (.deferred (some [])) W.heap.size 0) (W.alloc (.deferred (some []))) (tmL n st.tm) a.tmps.toList := by
  rw [← hs]; exact y8 fun t => Rep.abides nE _ (hr.tm t)
 have hφ : (c.push c.H st.nx (.deferred (some [])) W.heap.size 0).φ st.nx = W.heap.size := by simp [Ctx.push]
 generalize sF : c.push c.H st.nx (.deferred (some [])) W.heap.size 0 = c1 at *
 generalize FC : W.alloc (.deferred (some [])) = W1 at *
 have Dp : c1.H = updH st.H st.nx (.deferred (some [])) := by rw [← sF, ← hr.H]; rfl
 obtain ⟨e2, s2⟩ := FR s1 kT htm (s0 := .ready) (pe := none) (fn := f) (dn := W.heap.size) (ps := ps) (as := as) (bo := bo)
 have FD : (c1.push c1.H (st.nx + 1) (.loopF .ready none (tmL n st.tm) ps as bo f) W1.heap.size 0).H = updH (updH st.H st.nx (.deferred (some []))) (st.nx + 1) (.loopF .ready none (tmL n st.tm) ps as bo f) := by
  rw [← Dp]; rfl
 have hy : Rep (c1.push c1.H (st.nx + 1) (.loopF .ready none (tmL n st.tm) ps as bo f) W1.heap.size 0) (W1.alloc (.loop (loopRec .ready none f a.tmps.toList ps as bo W.heap.size))) (.yl (st.nx + 1)) (.func (.yield W1.heap.size) #[] #[]) :=
  ⟨⟨.inl rfl, rfl⟩, fun _ => by simp [Ctx.push]⟩
 have hused2 : ∀ β, (c1.push c1.H (st.nx + 1) (.loopF .ready none (tmL n st.tm) ps as bo f) W1.heap.size 0).used β → c.used β ∨ β = st.nx ∨ β = st.nx + 1 := by
  rintro β (hb | hb)
  ·exact .inr (.inr hb)
  ·rw [← sF] at hb
   rcases hb with hb | hb
   ·exact .inr (.inl hb)
   ·exact .inl hb
 have hφ2 : (c1.push c1.H (st.nx + 1) (.loopF .ready none (tmL n st.tm) ps as bo f) W1.heap.size 0).φ (st.nx + 1) = W1.heap.size := by simp [Ctx.push]
 have hφ3 : (c1.push c1.H (st.nx + 1) (.loopF .ready none (tmL n st.tm) ps as bo f) W1.heap.size 0).φ st.nx = W.heap.size := by simp [Ctx.push, hφ]
 have hus : (c1.push c1.H (st.nx + 1) (.loopF .ready none (tmL n st.tm) ps as bo f) W1.heap.size 0).used (st.nx + 1) := .inl rfl
 have kj : (c1.push c1.H (st.nx + 1) (.loopF .ready none (tmL n st.tm) ps as bo f) W1.heap.size 0).used st.nx := .inr (by rw [← sF]; exact .inl rfl)
 generalize wM : c1.push c1.H (st.nx + 1) (.loopF .ready none (tmL n st.tm) ps as bo f) W1.heap.size 0 = c2 at *
 generalize FE : W1.alloc (.loop (loopRec .ready none f a.tmps.toList ps as bo W.heap.size)) = W2 at *
 have y9 := e1.trans e2
 have mh := y9.abides s
 have hgr := Rep.abides mh _ (hr.eval g)
 rw [show St.ρ (G.at (some none)) st g = .fn (.func f0) first captured from hg] at hgr
 obtain ⟨l1, l2, hgv, dH, nB⟩ := hgr
 have henter : (Instr.enterLoop f a.tmps ps as bo none).run P W = .ok (W1.heap.size, [{ target := .collected W.heap.size, args := #[] }]) W2 := by
  rw [← FE, ← FC]
  simp only [Instr.enterLoop, Sem.run_bind, run_newObj, Sem.run_pure, Result.andThen_ok]
  rfl
 have hres : (resolve a.eval (rangeCall g W1.heap.size) 0).run P W2 = .ok { target := .fn (.func f0) ⟨l2⟩, args := ⟨l1⟩ ++ #[.func (.yield W1.heap.size) #[] #[]] } W2 := by
  simp only [resolve, Deferred.ofValue, hgv, Sem.run_pure]
  simp [Act.eval]
 have aL : (invoke (.fn (.func f0) ⟨l2⟩) (⟨l1⟩ ++ #[.func (.yield W1.heap.size) #[] #[]])).run P W2 = .ok (.enter f0 ⟨l1 ++ [.func (.yield W1.heap.size) #[] #[]] ++ l2⟩) W2 := by
  have := h.1 ⟨l1 ++ [.func (.yield W1.heap.size) #[] #[]] ++ l2⟩ W2
  rw [← this]
  simp only [invoke]
  congr 2
  apply Array.ext'
  simp
 have mV := stepR_rangeFunc (P := P) (b := frameF f) (a := a) (k := k) (cs := cs) (w := W) (g := g) (ps := ps) (assign := as) (body := bo) henter hres aL
 have fen : ∀ m, Machine.fenced P Fence.wide m := fun m => fenced_wide P m
 have FF : GOk G c2 W2 := hr.G.abides mh
 have hcall := h.2 c2 W2 (l1 ++ [.func (.yield W1.heap.size) #[] #[]] ++ l2) s2 FD (fun β hb => by
  rcases hused2 β hb with hb | hb | hb
  ·have := hr.nx β hb; omega
  ·omega
  ·omega) FF (Rl.append (Rl.append dH ⟨_, [], rfl, hy, rfl⟩) nB)
 obtain ⟨en, W', fr, ⟨c', H', nx', aD, hs', hH', hu, hu', hle, hres2⟩, hsteps, hfn, hleave⟩ := hcall.2 ((frameF f).atR { a with defers := [{ target := .collected W.heap.size, args := #[] }] ++ a.defers } (.inRangeFunc W1.heap.size :: k) :: cs) (fun d hd => by cases hd)
 have eall := y9.trans aD
 have aball := eall.abides s
 have husd : ∀ β, c'.used β → c.used β ∨ st.nx ≤ β := by
  intro β hb
  rcases hu β hb with hb | hb
  ·rcases hused2 β hb with hb | hb | hb
   ·exact .inl hb
   ·right; omega
   ·right; omega
  ·right; omega
 have hdf : ∀ (c3 : Ctx) (W3 : World), Abides c' W' c3 W3 → RepDs c3 W3 (.coll st.nx :: st.df) ([{ target := .collected W.heap.size, args := #[] }] ++ a.defers) := by
  intro c3 W3 iU
  refine ⟨_, _, rfl, ⟨iU.used _ (aD.used _ kj), fun hl => ?_⟩, RepDs.abides iU (hr.df.abides aball)⟩
  have hl' := iU.live _ (aD.used _ kj) hl
  rw [iU.φ _ (aD.used _ kj) hl, aD.φ _ kj hl', hφ3]
 rcases hres2 with ⟨x, v, rfl, hx, s', pe, tm', ps', as', bo', fn', hloop, hnb, hj⟩ | ⟨x, v, rfl, hx, hR⟩
 ·have hl : c'.live (st.nx + 1) := by simp [Ctx.live, hH', hloop]
  have hφ' : c'.φ (st.nx + 1) = W1.heap.size := by rw [aD.φ _ hus hl, hφ2]
  obtain ⟨l, dn, hl1', hget, hset⟩ := Dq (P := P) hs' (by rw [hH']; exact hloop)
  obtain ⟨W3, hset3, e3, s3⟩ := hset .exhausted pe
  have iU := e3.abides hs'
  have hend : (Instr.endLoop W1.heap.size).run P W' = .ok pe W3 := by
   rw [← hφ']
   exact S4 hget hnb hset3
  have jI : Sr (G.at (some none)) (c'.upd (st.nx + 1) (.loopF .exhausted pe tm' ps' as' bo' fn')) W3 { st with H := updH H' (st.nx + 1) (.loopF .exhausted pe tm' ps' as' bo' fn'), nx := nx', df := .coll st.nx :: st.df } { a with defers := [{ target := .collected W.heap.size, args := #[] }] ++ a.defers } := by
   refine ⟨by rw [← hH']; rfl, fun t => Rep.abides iU _ (Rep.abides aball _ (hr.tm t)), fun β hb => hu' β hb, hdf _ _ iU, (hr.G.abides aball).abides iU⟩
  have yA := eall.trans e3
  have back : StepsIn (Machine.fenced P Fence.wide) P (lone ((frameF f).atR a (.code (.rangeFunc g ps as bo) :: k)) cs W) (lone ((frameF f).atR { a with defers := [{ target := .collected W.heap.size, args := #[] }] ++ a.defers } ((pe.map Item.code).toList ++ k)) cs W3) := by
   have hleft := step_leave_returned (c := (frameF f).atR { a with defers := [{ target := .collected W.heap.size, args := #[] }] ++ a.defers } (.inRangeFunc W1.heap.size :: k)) (cs := cs) hleave
   rw [finish_atR_inRangeFunc] at hleft
   exact .head (fen _) mV (StepsIn.trans hsteps (.head (fen _) hleft (.one (fen _) (stepR_endRangeFunc hend))))
  cases pe with
  | none => exact ⟨.normal, _, W3, ⟨.normal, _, _, rfl, yA, s3, jI, hs, fun β hb => husd β hb, (show st.nx ≤ nx' by omega), hj⟩, back⟩
  | some cd =>
   obtain ⟨e5, a5, W5, Wx, harr⟩ := hj _ W3 _ s3 jI hs k cs
   exact ⟨e5, a5, W5, Wx.of_ext yA (fun β hb => husd β hb) (show st.nx ≤ nx' by omega), .of_steps back harr⟩
 ·have jI : Sr (G.at (some none)) c' W' { st with H := H', nx := nx', df := .coll st.nx :: st.df } { a with defers := [{ target := .collected W.heap.size, args := #[] }] ++ a.defers } :=
   ⟨hH', fun t => Rep.abides aball _ (hr.tm t), fun β hb => hu' β hb, hdf _ _ ((Ext.refl c' W').abides hs'), hr.G.abides aball⟩
  have hleft := step_leave_panicked (c := (frameF f).atR { a with defers := [{ target := .collected W.heap.size, args := #[] }] ++ a.defers } (.inRangeFunc W1.heap.size :: k)) (cs := cs) hleave
  rw [Frame.raise_atR] at hleft
  exact ⟨.panic _, _, W', ⟨.panic x, c', _, ⟨v, rfl, hx⟩, eall, hs', jI, hs, husd, (show st.nx ≤ nx' by omega), hR⟩, .inRangeFunc W1.heap.size :: k, .head (fen _) mV (StepsIn.trans hsteps (.one (fen _) hleft))⟩
end
end Go.V
end
