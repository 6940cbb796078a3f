/- Part of a proof. -/
import Derived.Test.YtclkbhbhohdgbaaGreatDoorE3ac
import Derived.RecoverIn
set_option linter.all false
section
namespace Go.V
open Go
def roundTm (tm : List VV) (ps : List Tmp) (args : List VV) : List VV := (ps.zip args).foldl (fun l p => l.set p.1 p.2) tm
theorem FT {c : Ctx} {W : World} : ∀ {ps : List Tmp} {args tm : List VV} {vs l : List Value}, Rl c W args vs → Rl c W tm l →
  Rl c W (roundTm tm ps args) ((ps.zip vs).foldl (fun l p => l.set p.1 p.2) l)
 | [], _, _, _, _, _, h => h
 | _ :: _, [], _, _, _, ha, h => by
  simp [Rl] at ha; subst ha; simpa [roundTm] using h
 | p :: ps, x :: args, tm, _, l, ⟨v, vs, e, h1, h2⟩, h => by
  subst e
  exact FT (ps := ps) h2 (Rl.set p h h1)
theorem UA : ∀ (ps : List (Tmp × Value)) (l : List Value), ps.foldl (fun (t : Array Value) p => t.setIfInBounds p.1 p.2) (⟨l⟩ : Array Value) = ⟨ps.foldl (fun l p => l.set p.1 p.2) l⟩
 | [], _ => rfl
 | p :: ps, l => by
  simp only [List.foldl_cons]
  rw [show (⟨l⟩ : Array Value).setIfInBounds p.1 p.2 = ⟨l.set p.1 p.2⟩ by apply Array.ext'; simp]
  exact UA ps _
variable {P : Program}
theorem SE {W : World} {b : Nat} {r : Loop} {l vs : List Value} (h : (getObj b).run P W = .ok (.loop r) W) (hl : r.tmps = ⟨l⟩) (hn : vs.length = r.params.size) :
  (Instr.yield b ⟨vs⟩).run P W = .ok (.round b r.fn ⟨(r.params.toList.zip vs).foldl (fun l p => l.set p.1 p.2) l⟩ r.assign r.body) W := by
 unfold Instr.yield
 rw [Sem.run_bind, Dm h, Result.andThen_ok]
 have : (⟨vs⟩ : Array Value).size = r.params.size := by simpa using hn
 simp only [this, ne_eq, not_true_eq_false, if_false, Sem.run_pure, hl]
 have e : (r.params.zip (⟨vs⟩ : Array Value)).foldl (fun tmps (x : Tmp × Value) => tmps.setIfInBounds x.1 x.2) (⟨l⟩ : Array Value) = ⟨(r.params.toList.zip vs).foldl (fun l p => l.set p.1 p.2) l⟩ := by
  rw [← Array.foldl_toList, Array.toList_zip]
  exact UA _ _
 show Result.ok (Next.round b r.fn ((r.params.zip (⟨vs⟩ : Array Value)).foldl (fun tmps (x : Tmp × Value) => tmps.setIfInBounds x.1 x.2) (⟨l⟩ : Array Value)) r.assign r.body) W = _
 rw [e]
def RoundDone (β : Nat) (o : Oper) (st : St) (K : St → Prop) (jump : Option Code) (s2 : St) : Prop :=
 ∃ s pe tm ps as bo df, s2.H β = some (.loop s pe tm ps as bo df) ∧
  K { st.put o.dst (.lit (.bool jump.isNone)) with H := updH s2.H β (.loop (if jump.isNone then .ready else .done) jump tm ps as bo df), nx := s2.nx }
def RoundEnd (β : Nat) (o : Oper) (st : St) (K : St → Prop) : Vx → St → Prop
 | .normal, s2 => RoundDone β o st K none s2
 | .ret, s2 => RoundDone β o st K (some .ret) s2
 | .exit id, s2 => RoundDone β o st K (some (.exit id)) s2
 | .goto l, s2 => RoundDone β o st K (some (.goto l)) s2
 | .panic _, _ => False
def RoundStart (P : Program) (G : Gb) (n β : Nat) (bo : Code) (o : Oper) (st : St) (K : St → Prop) : Vx → St → Prop
 | .normal, s1 => ∃ pe tm ps as bo' df, s1.H β = some (.loop .ready pe tm ps as bo' df) ∧
   VWp P (G.at (some (some β))) n bo (RoundEnd β o st K) { s1 with H := updH s1.H β (.loop .busy pe tm ps as bo' df) }
 | _, _ => False
theorem aK.yield {G : Gb} {n : Nat} {ops : Array Oper} {aa i : Nat} {o : Oper} {st : St} {K : St → Prop} {Qp : VV → St → Prop} {k : Call} {fo : Operand} {β : Nat} {pe : Option Code} {tm : List VV} {ps : Array Tmp} {as bo : Code} {df : Nat}
  (ho : ops[i]? = some o) (hd : dstsOk n ops = true) (hw : aJ ops st.tm o = some true) (hop : o.op = .call k) (hk : k.callee = .value fo) (hf : st.ρ G fo = .yl β) (hβ : st.H β = some (.loop .ready pe tm ps as bo df)) (hn : k.args.size = ps.size)
  (h : VWp P (G.at (some (some β))) tm.length as (RoundStart P G tm.length β bo o st K) { tm := bc (roundTm tm ps.toList (k.args.toList.map (st.ρ G))), H := st.H, nx := st.nx, df := [] }) : aK P G n ops aa i st K Qp := by
 intro ro c W a Kr Q hro s hr hs hγ hnx kk kp
 unfold wpOpIn
 simp only [ho]
 rw [if_pos (jH hr.tm hw)]
 refine ⟨fun _ _ => trivial, ?_⟩
 have hβc : c.H β = some (.loop .ready pe tm ps as bo df) := by rw [hr.H]; exact hβ
 have hl : c.live β := by simp [Ctx.live, hβc]
 have hub : c.used β := s.used β hl
 have hfr := hr.eval fo
 rw [hf] at hfr
 have hfv := hfr.2 hl
 obtain ⟨l, fn, dH, hget, _⟩ := Dn (P := P) s hβc
 have bz := ph hr.eval k.args.toList
 have hyield : (Instr.yield (c.φ β) (k.args.map a.eval)).run P W = .ok (.round (c.φ β) fn ⟨(ps.toList.zip (k.args.toList.map a.eval)).foldl (fun l p => l.set p.1 p.2) l⟩ as bo) W := by
  have e : k.args.map a.eval = ⟨k.args.toList.map a.eval⟩ := by apply Array.ext'; simp
  rw [e]
  exact SE hget rfl (by simpa [loopRec] using hn)
 have aI : (execOp a.eval o).run P W = .ok (.round (c.φ β) fn ⟨(ps.toList.zip (k.args.toList.map a.eval)).foldl (fun l p => l.set p.1 p.2) l⟩ as bo) W := by
  rw [← hyield]
  have e2 : (#[] ++ k.args.map a.eval : Array Value) = k.args.map a.eval := by simp
  simp only [execOp, hop, resolve, hk, Deferred.ofValue, hfv, pure_bind, invoke, e2]
 rw [Oper.semAt_eq _ _ _ (by rw [hop]; simp), aI, Oper.uponIn_round]
 refine ⟨fun h => (by cases h), ?_⟩
 have hrt := FT (ps := ps.toList) bz dH
 have ba : ((ps.toList.zip (k.args.toList.map a.eval)).foldl (fun l p => l.set p.1 p.2) l).length = tm.length := by
  have : ∀ (q : List (Tmp × Value)) (l : List Value), (q.foldl (fun l p => l.set p.1 p.2) l).length = l.length := by
   intro q
   induction q with
   | nil => intro l; rfl
   | cons p q ih => intro l; simp only [List.foldl_cons]; rw [ih]; simp
  rw [this, dH.length]
 generalize hvs : (ps.toList.zip (k.args.toList.map a.eval)).foldl (fun l p => l.set p.1 p.2) l = vs at *
 have mi : Sr (G.at (some (some β))) c W { tm := bc (roundTm tm ps.toList (k.args.toList.map (st.ρ G))), H := st.H, nx := st.nx, df := [] } { tmps := ⟨vs⟩, defers := [] } := by
  have := Sr.enter (G := G.at (some (some β))) (k := vs.length) hr.H hr.nx hr.G hrt
  simpa using this
 have pj : RoOk (G.at (some (some β))) c (some (c.φ β)) := ⟨hub, fun _ => rfl⟩
 refine roundIn_of_wpIn (F := Fw ro) trivial ?_
 show as.wpIn (Fw (some (c.φ β))) 0 P _ _ _
 refine wpIn_mono (h (some (c.φ β)) c W _ pj s mi (by simpa using ba)) ?_
 rintro e a1 W1 ⟨ve, c1, s1, he, hext1, yJ, kl, tT, kT, kU, hq⟩
 cases ve with
 | exit id => exact hq.elim
 | goto l => exact hq.elim
 | ret => exact hq.elim
 | panic x => exact hq.elim
 | normal =>
  have e1 : e = .normal := he
  subst e1
  obtain ⟨fF, j3, j4, j5, j6, nt, wI, hbody⟩ := hq
  have hb1c : c1.H β = some (.loop .ready fF j3 j4 j5 j6 nt) := by rw [kl.H]; exact wI
  have hl1' : c1.live β := by simp [Ctx.live, hb1c]
  have hφ1 : c1.φ β = c.φ β := hext1.φ β hub hl1'
  obtain ⟨l1, tU, FU, hget1, hset1⟩ := Dn (P := P) yJ hb1c
  obtain ⟨W2, hset2, hext2, kL⟩ := hset1 .busy fF
  have mh := hext2.abides yJ
  refine ⟨W2, ?_, ?_⟩
  ·rw [← hφ1]; exact S5 hget1 rfl hset2
  have tV : RoOk (G.at (some (some β))) (c1.upd β (.loop .busy fF j3 j4 j5 j6 nt)) (some (c.φ β)) := (pj.ext hext1).ext hext2
  have mj : Sr (G.at (some (some β))) (c1.upd β (.loop .busy fF j3 j4 j5 j6 nt)) W2 { s1 with H := updH s1.H β (.loop .busy fF j3 j4 j5 j6 nt) } a1 :=
   ⟨by rw [← kl.H]; rfl, fun t => Rep.abides mh _ (kl.tm t), kl.nx, kl.df.abides mh, kl.G.abides mh⟩
  show bo.wpIn (Fw (some (c.φ β))) 0 P _ _ _
  refine wpIn_mono (hbody (some (c.φ β)) _ W2 a1 tV kL mj tT) ?_
  rintro e3 a3 W3 ⟨FV, c3, s3, qD, hext3, Dr, jI, FW, iD, tW, pk⟩
  have bA := (hext1.trans hext2).trans hext3
  have done : ∀ jump, RoundDone β o st K jump s3 → ∃ v w', (Instr.endRound (c.φ β) jump).run P W3 = .ok v w' ∧ Kr (a.put o.dst v) w' := by
   rintro jump ⟨s4, FX, tX, tY, tZ, ub, KE, FY, hK⟩
   have hb4c : c3.H β = some (.loop s4 FX tX tY tZ ub KE) := by rw [jI.H]; exact FY
   have FZ : c3.live β := by simp [Ctx.live, hb4c]
   have hφ3 : c3.φ β = c.φ β := bA.φ β hub FZ
   obtain ⟨l4, Ds, Ga, hget4, hset4⟩ := Dn (P := P) Dr hb4c
   obtain ⟨W4, hset5, hext4, Gc⟩ := hset4 (if jump.isNone then .ready else .done) jump
   have bK := bA.trans hext4
   have uc := bK.abides s
   refine ⟨.bool jump.isNone, W4, ?_, ?_⟩
   ·rw [← hφ3]; exact S6 hget4 hset5
   ·have h0 : Sr G (c3.upd β (.loop (if jump.isNone then .ready else .done) jump tX tY tZ ub KE)) W4
      { st.put o.dst (.lit (.bool jump.isNone)) with H := updH s3.H β (.loop (if jump.isNone then .ready else .done) jump tX tY tZ ub KE), nx := s3.nx } (a.put o.dst (.bool jump.isNone)) := by
     refine ⟨by rw [← jI.H]; rfl, ?_, jI.nx, ?_, hr.G.abides uc⟩
     ·exact tN (st := st) (dst := o.dst) (fun t => Rep.abides uc _ (hr.tm t)) (fun d hd' => by rw [hs]; exact oU hd ho d hd') rfl
     ·rw [tO]
      cases o.dst <;> exact hr.df.abides uc
    refine kk _ W4 _ _ bK Gc h0 (by simpa using hs) (fun β' hb => ?_) (show st.nx ≤ s3.nx from qZi kU tW) hK
    rcases iD β' hb with hb | hb
    ·rcases kT β' hb with hb | hb
     ·exact .inl hb
     ·exact .inr (.inr hb)
    ·exact .inr (.inr (qZi kU hb))
  cases FV with
  | normal => have e4 : e3 = .normal := qD; subst e4; exact done none pk
  | ret => have e4 : e3 = .ret := qD; subst e4; exact done _ pk
  | exit id => have e4 : e3 = .exit id := qD; subst e4; exact done _ pk
  | goto l => have e4 : e3 = .goto l := qD; subst e4; exact done _ pk
  | panic x => exact pk.elim
theorem YW {W W' : World} {b : Nat} (h : (getObj b).run P W = .ok (.deferred (some [])) W) (hset : (setObj b (.deferred none)).run P W = .ok () W') : (Instr.takeDeferred b).run P W = .ok [] W' := by
 unfold Instr.takeDeferred
 rw [Sem.run_bind, h, Result.andThen_ok]
 simp [hset, Sem.run_bind]
def SealsP (H : Nat → Option Vo) (x : VV) (r : PRes) : Prop := ∃ y n, r = .panic y ∧ sealV H n x = some y
theorem ah.of_open {G : Gb} {f : FuncId} {args : List VV} {r : PRes} (h : aU P G f args (fun _ => none) 0 (fun x H _ => SealsTo H x r) (fun x H _ => SealsP H x r)) : ah P G f args r := by
 refine ⟨h.1, fun A W vs hA hG bz => (h.2 (PCtx A) W vs (yy hA) rfl (fun β hb => hb.elim) hG bz).mono ?_⟩
 rintro e W' ⟨c', H', nx', aD, hs', hH', hu, hu', hle, hres⟩
 have hbelow := yz aD
 have hge : ∀ β, c'.live β → W.heap.size ≤ c'.φ β := by
  intro β hl
  rcases Nat.lt_or_ge (c'.φ β) W.heap.size with h | h
  ·obtain ⟨γ, hγ, _⟩ := aD.old β hl h
   simp [PCtx, Ctx.live] at hγ
  ·exact h
 have hold : ∀ b, c'.A b → A b ∨ W.heap.size ≤ b := by
  intro b hb
  rcases aD.newA b hb with h | h | ⟨β, h, _⟩
  ·exact .inl h
  ·exact .inr h
  ·simp [PCtx, Ctx.live] at h
 have held : ∀ {H0 : Nat → Option Vo}, ai H0 c'.H → ∀ b, heldIn c' H0 b → A b ∨ W.heap.size ≤ b := by
  intro H0 aY b hb
  rcases hb with h | ⟨β, h, e⟩
  ·exact hold b h
  ·exact .inr (e ▸ hge β (aY.live h))
 have heldlt : ∀ {H0 : Nat → Option Vo}, ai H0 c'.H → ∀ b, heldIn c' H0 b → b < W'.heap.size := by
  intro H0 aY b hb
  rcases hb with h | ⟨β, h, e⟩
  ·exact hs'.ltA b h
  ·exact e ▸ hs'.lt β (aY.live h)
 have aY : ai H' c'.H := by rw [hH']; exact ai.refl _
 rcases hres with ⟨x, v, rfl, hrv, hseal⟩ | ⟨x, v, rfl, hv, y, n, rfl, hn⟩
 ·cases r with
  | tree y =>
   obtain ⟨n, hn⟩ := hseal
   exact ⟨_, fun b hb => .inl (aD.A b hb), held aY, heldlt aY, hbelow, v, rfl, (rA hs' aY n).1 _ _ _ hn hrv⟩
  | own cs len es =>
   obtain ⟨n, β, mR, nC, ⟨cp, rfl⟩, hβ, hn⟩ := hseal
   have aw : c'.live β := by simp [Ctx.live, hH', hβ]
   obtain ⟨cap, e1, hcap, hroom, _⟩ := hrv.2 aw
   have hsub' : ai (without H' β) c'.H := fun q o ho => aY q o (ai.without _ _ q o ho)
   obtain ⟨arr, el, g1, g2, g3, g4, _⟩ := hs'.obj β _ (by rw [hH']; exact hβ)
   have hrl := (rA hs' hsub' n).2 _ _ _ hn g4
   have hll := hrl.length
   simp at hll
   refine ⟨heldIn c' (without H' β), fun b hb => .inl (aD.A b hb), held hsub', heldlt hsub', hbelow, c'.φ β, arr, el, cap, by rw [e1], hcap, hge β aw, hs'.lt β aw, ?_, g1, by omega, by omega, ?_⟩
   ·rintro (h | ⟨γ, h, e⟩)
    ·exact hs'.notA β aw h
    ·have := hs'.inj γ β (hsub'.live h) aw e
     subst this
     simp [without] at h
   ·rw [show cs.length = nC.length by omega]; exact hrl
  | panic y => exact hseal.elim
 ·exact ⟨_, fun b hb => .inl (aD.A b hb), held aY, heldlt aY, hbelow, v, rfl, (rA hs' aY n).1 _ _ _ hn hv⟩
end Go.V
end
section
namespace Go.V
open Go
inductive VMode where
 | ret
 | pan (x : VV) (recovered : Bool)
def MRep (c : Ctx) (W : World) : VMode → FrameMode → Prop
 | .ret, u => u = .returning
 | .pan x r, u => ∃ v, u = .panicking [{ v, recovered := r }] ∧ Rep c W x v
variable {c : Ctx} {W : World}
theorem MRep.abides {c' : Ctx} {W' : World} (ab : Abides c W c' W') : ∀ {u : VMode} {u0 : FrameMode}, MRep c W u u0 → MRep c' W' u u0
 | .ret, _, h => h
 | .pan _ _, _, ⟨v, e, h⟩ => ⟨v, e, Rep.abides ab _ h⟩
theorem MRep.notRun : ∀ {u : VMode} {u0 : FrameMode}, MRep c W u u0 → u0 ≠ .run
 | .ret, _, h => by rw [show _ = _ from h]; simp
 | .pan _ _, _, ⟨v, e, _⟩ => by rw [e]; simp
def settleV : VMode → VMode
 | .pan _ true => .ret
 | u => u
theorem MRep.settle : ∀ {u : VMode} {u0 : FrameMode}, MRep c W u u0 → MRep c W (settleV u) (settle u0)
 | .ret, _, h => by rw [show _ = _ from h]; rfl
 | .pan x true, _, ⟨v, e, h⟩ => by rw [e]; rfl
 | .pan x false, _, ⟨v, e, h⟩ => by rw [e]; exact ⟨v, rfl, h⟩
def recoverV : VMode → VV × VMode
 | .pan x false => (x, .pan x true)
 | u => (.lit .nilIface, u)
def LiftS (G : Gb) (n ej : Nat) (c0 : Ctx) (W0 : World) (fr : Frame) (cs : List Frame) (Q : Vx → VMode → St → Prop) : Exit → Act → List Frame → World → Prop := fun e a cs' W =>
 ∃ ve c st u u0, cs' = { fr with mode := u0 } :: cs ∧ MRep c W u u0 ∧ ERep c W ve e ∧ Ext c0 W0 c W ∧ Sim c W ∧ Sr G c W st a ∧ a.tmps.size = n ∧ (∀ β, c.used β → c0.used β ∨ ej ≤ β) ∧ ej ≤ st.nx ∧ Q ve u st
def VWpS (P : Program) (G : Gb) (n : Nat) (code : Code) (Q : Vx → VMode → St → Prop) (u : VMode) (st : St) : Prop :=
 ∀ fr cs c W a u0, MRep c W u u0 → Sim c W → Sr G c W st a → a.tmps.size = n → code.wpSIn Fence.wide 0 P (LiftS G n st.nx c W fr cs Q) a ({ fr with mode := u0 } :: cs) W
variable {code : Code} {cs : List Frame}
section rules
variable {P : Program} {G : Gb} {n : Nat} {Q : Vx → VMode → St → Prop} {u : VMode} {st : St}
theorem VWpS.of (hrg : G.rg = some none) (h : VWp P G n code (fun e s => Q e u s) st) : VWpS P G n code Q u st := by
 intro fr cs c W a u0 hu s hr hs
 refine wpSIn_of_wpIn rfl (wpIn_mono (h none c W a (by unfold RoOk; rw [hrg]) s hr hs) ?_)
 rintro e a' W' ⟨ve, c', st', h1, h2, h3, h4, h5, h6, h7, h8⟩
 exact ⟨ve, c', st', u, u0, rfl, hu.abides (h2.abides s), h1, h2, h3, h4, h5, h6, h7, h8⟩
theorem LiftS.of_ext {ej bj : Nat} {c0 c1 : Ctx} {W0 W1 : World} {e : Exit} {a : Act} {fr : Frame} {cs' : List Frame} (he : Ext c0 W0 c1 W1) (hu : ∀ β, c1.used β → c0.used β ∨ ej ≤ β) (hle : ej ≤ bj)
  (h : LiftS G n bj c1 W1 fr cs Q e a cs' W) : LiftS G n ej c0 W0 fr cs Q e a cs' W := by
 obtain ⟨ve, c, st, u, u0, h0, hm, h1, h2, h3, h4, h5, h6, h7, h8⟩ := h
 refine ⟨ve, c, st, u, u0, h0, hm, h1, he.trans h2, h3, h4, h5, fun β hb => ?_, qZi hle h7, h8⟩
 rcases h6 β hb with h | h
 ·exact hu β h
 ·exact .inr (qZi hle h)
def Vx.thenS (next : VMode → St → Prop) (Q : Vx → VMode → St → Prop) : Vx → VMode → St → Prop
 | .normal, u, st => next u st
 | e, u, st => Q e u st
theorem KG {F : Fence} {m : Nat} {R R' : Exit → Act → List Frame → World → Prop} {a : Act} {w : World} (h : code.wpSIn F m P R a cs w) (hR : ∀ e a cs w, R e a cs w → R' e a cs w) : code.wpSIn F m P R' a cs w :=
 fun b k h1 h2 h3 h4 => let ⟨e, a', cs', w', g1, g2, g3⟩ := h b k h1 h2 h3 h4; ⟨e, a', cs', w', g1, hR _ _ _ _ g2, g3⟩
theorem VWpS.seq {x y : Code} (h : VWpS P G n x (Vx.thenS (VWpS P G n y Q) Q) u st) : VWpS P G n (.seq x y) Q u st := by
 intro fr cs c W a u0 hu s hr hs
 refine wpSIn_seq (KG (h fr cs c W a u0 hu s hr hs) ?_)
 rintro e a' cs' W' ⟨ve, c', st', u', u0', rfl, hm, h1, h2, h3, h4, h5, h6, h7, h8⟩
 cases ve with
 | normal =>
  have e1 : e = .normal := h1
  subst e1
  exact KG (h8 fr cs c' W' a' u0' hm h3 h4 h5) fun _ _ _ _ hl => hl.of_ext h2 h6 h7
 | exit id => have e1 : e = .exit id := h1; subst e1; exact ⟨_, c', st', u', u0', rfl, hm, h1, h2, h3, h4, h5, h6, h7, h8⟩
 | goto l => have e1 : e = .goto l := h1; subst e1; exact ⟨_, c', st', u', u0', rfl, hm, h1, h2, h3, h4, h5, h6, h7, h8⟩
 | ret => have e1 : e = .ret := h1; subst e1; exact ⟨_, c', st', u', u0', rfl, hm, h1, h2, h3, h4, h5, h6, h7, h8⟩
 | panic x =>
  obtain ⟨v, e1, hv⟩ := h1
  subst e1
  exact ⟨.panic x, c', st', u', u0', rfl, hm, ⟨v, rfl, hv⟩, h2, h3, h4, h5, h6, h7, h8⟩
def VOps (P : Program) (G : Gb) (ops : Array Oper) (aa : Nat) (K : St → Prop) : List Nat → St → Prop
 | [], st => K st
 | i :: l, st => ∃ o, ops[i]? = some o ∧ ((aJ ops st.tm o = some false ∧ VOps P G ops aa K l (st.put o.dst (.lit undef))) ∨
   (aJ ops st.tm o = some true ∧ ∃ x eff, vop P o (st.ρ G) st.H (aa + i) = some (x, eff) ∧ VOps P G ops aa K l { st.put o.dst x with H := eff.app (aa + i) st.H }))
theorem KH {ops : Array Oper} {aa : Nat} {ej : Nat} {c0 : Ctx} {W0 : World} {fr : Frame} {cs : List Frame} {u0 : FrameMode} (hd : dstsOk n ops = true) : ∀ (l : List Nat) (st : St) (c : Ctx) (W : World) (a : Act),
  VOps P G ops aa (fun s => Q .normal u s) l st → l.Nodup → (∀ i ∈ l, i < ops.size) → aa + ops.size ≤ st.nx → ej ≤ aa → MRep c W u u0 → Sim c W → Sr G c W st a → a.tmps.size = n → (∀ i ∈ l, ¬ c.used (aa + i)) →
  Ext c0 W0 c W → (∀ β, c.used β → c0.used β ∨ ej ≤ β) → wpOpsSIn Fence.wide 0 P ops (LiftS G n ej c0 W0 fr cs Q) l a ({ fr with mode := u0 } :: cs) W
 | [], st, c, W, a, h, _, _, hb, hn, hu, s, hr, hs, _, he, hus => ⟨.normal, c, st, u, u0, rfl, hu, rfl, he, s, hr, hs, hus, by omega, h⟩
 | i :: l, st, c, W, a, h, hnd, hlt, hb, hn, hu, s, hr, hs, hf, he, hus => by
  obtain ⟨o, ho, h⟩ := h
  have hi := hlt i (qZb ..)
  rw [List.nodup_cons] at hnd
  have hdd : ∀ d, o.dst = some d → d < a.tmps.size := fun d hd' => by rw [hs]; exact oU hd ho d hd'
  simp only [wpOpsSIn, ho]
  refine ⟨fun _ _ => trivial, ?_⟩
  rcases h with ⟨hw, h⟩ | ⟨hw, x, eff, hv, h⟩
  ·have hw' := jH hr.tm hw
   rw [if_neg (by rw [hw']; simp)]
   have hst := hr.step (wE rfl) (dst := o.dst) (x := .lit undef) (v := undef) (H' := st.H) hr.H rfl hdd hr.nx
   have hst' : Sr G c W (st.put o.dst (.lit undef)) (a.put o.dst undef) := by cases hdst : o.dst <;> rw [hdst] at hst <;> exact hst
   exact KH hd l _ c W _ h hnd.2 (fun j hj => hlt j (qZa _ hj)) (by simpa using hb) hn hu s hst' (by simpa using hs) (fun j hj => hf j (qZa _ hj)) he hus
  ·have hw' := jH hr.tm hw
   rw [if_pos hw']
   rw [← hr.H] at hv
   obtain ⟨r, v, W', c', aI, hrv, hx, he', hs', hH, hu'⟩ := yw s (hf i (qZb ..)) hr.eval hv
   have hr' := hr.step (he'.abides s) (by rw [hH, hr.H]) hx hdd (fun β hb' => by
    rcases hu' β hb' with h | h
    ·exact hr.nx β h
    ·omega)
   have go : wpOpsSIn Fence.wide 0 P ops (LiftS G n ej c0 W0 fr cs Q) l (a.put o.dst v) ({ fr with mode := u0 } :: cs) W' := by
    refine KH hd l _ c' W' _ h hnd.2 (fun j hj => hlt j (qZa _ hj)) ?_ hn (hu.abides (he'.abides s)) hs' hr' (by simpa using hs) (fun j hj hbad => ?_) (he.trans he') (fun β hb' => ?_)
    ·show aa + ops.size ≤ (st.put o.dst x).nx
     simpa using hb
    ·rcases hu' _ hbad with h | h
     ·exact hf j (qZa _ hj) h
     ·have : j = i := by omega
      exact hnd.1 (this ▸ hj)
    ·rcases hu' β hb' with h | h
     ·exact hus β h
     ·right; omega
   rw [aI]
   rcases hrv with rfl | ⟨rfl, rfl⟩
   ·exact go
   ·exact go
theorem VWpS.recover {id : Nat} {ops : Array Oper} {o : Oper} {as : Array Operand} {ats : Array TypeId} (hd : dstsOk n ops = true) (ho : ops[0]? = some o) (hg : o.guard = none) (hop : o.op = .call ⟨.builtin .recover, as, ats⟩)
  (h : VOps P G ops st.nx (fun s => Q .normal (recoverV u).2 s) (List.range' 1 (ops.size - 1)) { st.put o.dst (recoverV u).1 with nx := st.nx + ops.size }) : VWpS P G n (.region id ops false) Q u st := by
 intro fr cs c W a u0 hu s hr hs
 refine wpSIn_region ?_
 have hpos : 0 < ops.size := (Array.getElem?_eq_some_iff.1 ho).1
 have hrng : List.range ops.size = 0 :: List.range' 1 (ops.size - 1) := by
  rw [List.range_eq_range']
  obtain ⟨m, hm⟩ : ∃ m, ops.size = m + 1 := ⟨ops.size - 1, by omega⟩
  rw [hm]; rfl
 rw [hrng]
 simp only [wpOpsSIn, ho]
 refine ⟨fun _ _ => trivial, ?_⟩
 have hw : Region.wanted o (yielded ops a.tmps) = true := by simp [Region.wanted, hg]
 rw [if_pos hw]
 have aI : (execOp a.eval o).run P W = .ok .recover W := by
  simp [execOp, hop, resolve, invoke, builtin]
 rw [aI]
 have hdd : ∀ d, o.dst = some d → d < a.tmps.size := fun d hd' => by rw [hs]; exact oU hd ho d hd'
 have go : ∀ (x : VV) (v : Value) (u1 : VMode) (pd : FrameMode), Rep c W x v → MRep c W u1 pd → VOps P G ops st.nx (fun s => Q .normal u1 s) (List.range' 1 (ops.size - 1)) { st.put o.dst x with nx := st.nx + ops.size } →
   wpOpsSIn Fence.wide 0 P ops (LiftS G n st.nx c W fr cs Q) (List.range' 1 (ops.size - 1)) (a.put o.dst v) ({ fr with mode := pd } :: cs) W := by
  intro x v u1 pd hx kT hv
  have h0 : Sr G c W { st.put o.dst x with nx := st.nx + ops.size } (a.put o.dst v) := by
   refine ⟨by simpa using hr.H, ?_, fun β hb => qZd (hr.nx β hb) (qZe _ _), ?_, hr.G⟩
   ·exact tN (st := st) (dst := o.dst) hr.tm hdd hx
   ·rw [tO]
    cases o.dst <;> exact hr.df
  refine KH hd _ _ c W _ hv List.nodup_range' (fun i hi => ?_) (qZh _) (qZh _) kT s h0 (by simpa using hs) (fun i _ hb => ?_) (Ext.refl c W) (fun _ h => .inl h)
  ·rw [List.mem_range'] at hi; omega
  ·have := hr.nx _ hb; omega
 cases u with
 | ret =>
  have e : u0 = .returning := hu
  subst e
  exact go (.lit .nilIface) .nilIface .ret _ rfl hu h
 | pan x r =>
  obtain ⟨v, e, hv⟩ := hu
  subst e
  cases r with
  | false => exact go x v (.pan x true) _ hv ⟨v, rfl, hv⟩ h
  | true => exact go (.lit .nilIface) .nilIface (.pan x true) _ rfl ⟨v, rfl, hv⟩ h
end rules
def VDeferred (P : Program) (G : Gb) (f : FuncId) (args : List VV) (H : Nat → Option Vo) (nx : Nat) (u : VMode) (R : VMode → (Nat → Option Vo) → Nat → Prop) : Prop :=
 Callable P f ∧ ∀ c W vs u0, Sim c W → c.H = H → (∀ β, c.used β → β < nx) → GOk G c W → Rl c W args vs → MRep c W u u0 →
  CallsDIn Fence.wide 0 P f ⟨vs⟩ u0 W fun e u0' W' => ∃ v c' H' nx' u', e = .returned v ∧ Ext c W c' W' ∧ Sim c' W' ∧ c'.H = H' ∧ (∀ β, c'.used β → c.used β ∨ nx ≤ β) ∧ (∀ β, c'.used β → β < nx') ∧ nx ≤ nx' ∧ MRep c' W' u' u0' ∧ R u' H' nx'
def DPost (P : Program) (fn : Func) (R : VMode → (Nat → Option Vo) → Nat → Prop) : Vx → VMode → St → Prop
 | .ret, u, s => s.df = [] ∧ (∃ x, resV P s fn.results.toList = some x) ∧ R u s.H s.nx
 | .normal, u, s => s.df = [] ∧ (∃ x, resV P s fn.results.toList = some x) ∧ R u s.H s.nx
 | _, _, _ => False
theorem VDeferred.of_body {P : Program} {G : Gb} {f : FuncId} {fn : Func} {args : List VV} {H : Nat → Option Vo} {nx : Nat} {u : VMode} {R : VMode → (Nat → Option Vo) → Nat → Prop} (hc : Callable P f) (hf : P.funcs[f]? = some fn)
  (hb : fn.body = some code) (hn : args.length ≤ fn.ntmps) (h : VWpS P (G.at (some none)) fn.ntmps code (DPost P fn R) u { tm := bc args, H, nx, df := [] }) : VDeferred P G f args H nx u R := by
 refine ⟨hc, fun c W vs u0 s hH hnx hG bz hu => ?_⟩
 have ba := bz.length
 refine callsDIn_of_wpSIn hf hb trivial fun c₀ cs hmode => ?_
 have h0 := h c₀ cs c W _ u0 hu s (Sr.enter (G := G.at (some none)) (k := fn.ntmps) hH hnx hG bz) (by simp; omega)
 have e0 : ({ c₀ with mode := u0 } : Frame) = c₀ := by subst hmode; rfl
 rw [e0] at h0
 refine KG h0 ?_
 rintro e a' cs' W' ⟨ve, c', st', u', u0', rfl, hm, he, aD, hs', hr', hsz, hus, hle, hq⟩
 have finish : st'.df = [] ∧ (∃ x, resV P st' fn.results.toList = some x) ∧ R u' st'.H st'.nx → a'.defers = [] ∧ ∃ v, (results fn a'.tmps).run P W' = .ok v W' ∧
   ∃ v' c' H' nx' u', Ending.returned v = .returned v' ∧ Ext c W c' W' ∧ Sim c' W' ∧ c'.H = H' ∧ (∀ β, c'.used β → c.used β ∨ nx ≤ β) ∧ (∀ β, c'.used β → β < nx') ∧ nx ≤ nx' ∧ MRep c' W' u' u0' ∧ R u' H' nx' := by
  rintro ⟨hdf, ⟨x, hx⟩, hR⟩
  obtain ⟨v, hv, _⟩ := FA hs' hr' hx
  have hd := hr'.df
  rw [hdf] at hd
  exact ⟨hd, v, hv, v, c', st'.H, st'.nx, u', rfl, aD, hs', hr'.H, hus, hr'.nx, hle, hm, hR⟩
 cases ve with
 | normal =>
  have e1 : e = .normal := he
  subst e1
  obtain ⟨hd, v, hv, hR⟩ := finish hq
  exact ⟨hd, u0', rfl, v, hv, hR⟩
 | ret =>
  have e1 : e = .ret := he
  subst e1
  obtain ⟨hd, v, hv, hR⟩ := finish hq
  exact ⟨hd, u0', rfl, v, hv, hR⟩
 | exit id => exact hq.elim
 | goto l => exact hq.elim
 | panic x => exact hq.elim
def leavesK (P : Program) (G : Gb) (K : VMode → (Nat → Option Vo) → Nat → Prop) : List VDef → VMode → (Nat → Option Vo) → Nat → Prop
 | [], u, H, nx => K u H nx
 | .coll β :: ds, u, H, nx => H β = some (.deferred (some [])) ∧ leavesK P G K ds u (updH H β (.deferred none)) nx
 | .fn (.func f) cap args :: ds, u, H, nx => VDeferred P G f (args ++ cap) H nx u fun u' H' nx' => leavesK P G K ds (settleV u') H' nx'
 | _ :: _, _, _, _ => False
theorem KI {P : Program} {G : Gb} {fn : Func} {tmps : Array Value} {R : Ending → World → Prop} {K : VMode → (Nat → Option Vo) → Nat → Prop} : ∀ (df : List VDef) (ds : List Deferred) (c : Ctx) (W : World) (u : VMode) (u0 : FrameMode) (nx : Nat),
  Sim c W → RepDs c W df ds → MRep c W u u0 → (∀ β, c.used β → β < nx) → GOk G c W → leavesK P G K df u c.H nx →
  (∀ c1 W1 u1 pd bj, Ext c W c1 W1 → Sim c1 W1 → (∀ β, c1.used β → c.used β ∨ nx ≤ β) → (∀ β, c1.used β → β < bj) → nx ≤ bj → MRep c1 W1 u1 pd → K u1 c1.H bj → LeavesIn Fence.wide 0 P fn tmps R [] pd W1) → LeavesInM Fence.wide 0 P fn tmps R ds u0 W
 | [], ds, c, W, u, u0, nx, s, hd, hu, hnx, hG, hK, h => by
  have hd' : ds = [] := hd
  subst hd'
  exact h c W u u0 nx (Ext.refl c W) s (fun _ h => .inl h) hnx (qZh _) hu hK
 | .coll β :: df, ds, c, W, u, u0, nx, s, hd, hu, hnx, hG, hK, h => by
  obtain ⟨d, ds', rfl, ⟨hub, hdβ⟩, hds⟩ := hd
  obtain ⟨hβ, hK⟩ := hK
  have hl : c.live β := by simp [Ctx.live, hβ]
  have hW : W.heap[c.φ β]? = some (.deferred (some [])) := (s.obj β _ hβ).2
  have hget : (getObj (c.φ β)).run P W = .ok (.deferred (some [])) W := by simp [getObj, Sem.run, hW]
  have hset := wJ (P := P) (o' := .deferred none) hW (by intros; simp)
  have aD : Ext c W (c.upd β (.deferred none)) { W with heap := W.heap.setIfInBounds (c.φ β) (.deferred none) } := Ext.upd hl (But.setObj W _ _)
  have hs' : Sim (c.upd β (.deferred none)) { W with heap := W.heap.setIfInBounds (c.φ β) (.deferred none) } := Sim.upd s hl (But.setObj W _ _) (fun _ => ⟨_, rfl⟩) (wK hW)
  refine ⟨hu.notRun, .inl ⟨c.φ β, _, by rw [hdβ hl], YW hget hset, ?_⟩⟩
  exact KI df ds' _ _ u u0 nx hs' (RepDs.abides (aD.abides s) hds) (hu.abides (aD.abides s)) hnx (hG.abides (aD.abides s)) hK fun c1 W1 u1 pd bj h2 h3 h4 h5 h6 h7 h8 => h c1 W1 u1 pd bj (aD.trans h2) h3 h4 h5 h6 h7 h8
 | .fn (.func f) cap args :: df, ds, c, W, u, u0, nx, s, hd, hu, hnx, hG, hK, h => by
  obtain ⟨d, ds', rfl, ⟨l, m, rfl, hcap, bz⟩, hds⟩ := hd
  refine ⟨hu.notRun, .inr ⟨fun hh => (by cases hh), .func f, ⟨l⟩, f, ⟨m ++ l⟩, rfl, ?_, fun _ _ => trivial, ?_⟩⟩
  ·have := hK.1 ⟨m ++ l⟩ W
   rw [← this]
   simp only [invoke]
   congr 2
   apply Array.ext'
   simp
  ·obtain ⟨hF, hcall⟩ := hK.2 c W (m ++ l) u0 s rfl hnx hG (Rl.append bz hcap) hu
   refine ⟨hF, fun c₀ cs hm hroom => ?_⟩
   obtain ⟨e, u', w', fr, ⟨v, c', H', nx', uV, rfl, g1, g2, g3, g4, g5, g6, g7, g8⟩, k2, k3, k4, k5⟩ := hcall c₀ cs hm hroom
   refine ⟨.returned v, u', w', fr, ?_, k2, k3, k4, k5⟩
   subst g3
   exact KI df ds' c' w' (settleV uV) (settle u') nx' g2 (RepDs.abides (g1.abides s) hds) g7.settle g5 (hG.abides (g1.abides s)) g8 fun c1 W1 u1 pd bj h2 h3 h4 h5 h6 h7 h8 =>
    h c1 W1 u1 pd bj (g1.trans h2) h3 (fun β hb => by
     rcases h4 β hb with hb | hb
     ·exact g4 β hb
     ·right; omega) h5 (by omega) h7 h8
 | .fn (.method _) _ _ :: _, _, _, _, _, _, _, _, _, _, _, _, hK, _ => hK.elim
 | .fn (.methodOf ..) _ _ :: _, _, _, _, _, _, _, _, _, _, _, _, hK, _ => hK.elim
 | .fn (.via ..) _ _ :: _, _, _, _, _, _, _, _, _, _, _, _, hK, _ => hK.elim
 | .fn (.yield _) _ _ :: _, _, _, _, _, _, _, _, _, _, _, _, hK, _ => hK.elim
end Go.V
end
section
namespace Go.V
open Go
def finK (P : Program) (fn : Func) (s : St) (R Rp : VV → (Nat → Option Vo) → Nat → Prop) : VMode → (Nat → Option Vo) → Nat → Prop
 | .ret, H, nx => ∃ x, resV P { s with H := H, nx := nx, df := [] } fn.results.toList = some x ∧ R x H nx
 | .pan x false, H, nx => Rp x H nx
 | .pan _ true, _, _ => False
def OpenPostD (P : Program) (G : Gb) (fn : Func) (R Rp : VV → (Nat → Option Vo) → Nat → Prop) : Vx → St → Prop
 | .ret, s => leavesK P G (finK P fn s R Rp) s.df .ret s.H s.nx
 | .normal, s => leavesK P G (finK P fn s R Rp) s.df .ret s.H s.nx
 | .panic x, s => leavesK P G (finK P fn s R Rp) s.df (.pan x false) s.H s.nx
 | _, _ => False
variable {P : Program} {G : Gb} {f : FuncId} {fn : Func} {code : Code} {args : List VV} {H : Nat → Option Vo} {R Rp : VV → (Nat → Option Vo) → Nat → Prop}
theorem aU.of_bodyD {nx : Nat} (hc : Callable P f) (hf : P.funcs[f]? = some fn)
  (hb : fn.body = some code) (hn : args.length ≤ fn.ntmps) (h : VWp P (G.at (some none)) fn.ntmps code (OpenPostD P G fn R Rp) { tm := bc args, H, nx, df := [] }) : aU P G f args H nx R Rp := by
 refine ⟨hc, fun c W vs s hH hnx hG bz => ?_⟩
 have ba := bz.length
 refine callsIn_of_wp_marks hf hb trivial (wpIn_mono (h none c W _ rfl s (Sr.enter (G := G.at (some none)) (k := fn.ntmps) hH hnx hG bz) (by simp; omega)) ?_) rfl
 rintro e a' W' ⟨ve, c', st', he, aD, hs', hr', hsz, hu, hle, hq⟩
 have finish : ∀ (u : VMode) (u0 : FrameMode), MRep c' W' u u0 → leavesK P G (finK P fn st' R Rp) st'.df u st'.H st'.nx →
   LeavesInM Fence.wide 0 P fn a'.tmps (fun e W' => ∃ c' H' nx', Ext c W c' W' ∧ Sim c' W' ∧ c'.H = H' ∧ (∀ β, c'.used β → c.used β ∨ nx ≤ β) ∧ (∀ β, c'.used β → β < nx') ∧ nx ≤ nx' ∧
    ((∃ x v, e = .returned v ∧ Rep c' W' x v ∧ R x H' nx') ∨ (∃ x v, e = .panicked [{ v, recovered := false }] ∧ Rep c' W' x v ∧ Rp x H' nx'))) a'.defers u0 W' := by
  intro u u0 hm hK
  refine KI (G := G) st'.df a'.defers c' W' u u0 st'.nx hs' hr'.df hm hr'.nx (show GOk G c' W' from hr'.G) (by rw [hr'.H]; exact hK) fun c1 W1 u1 pd bj h2 h3 h4 h5 h6 h7 h8 => ?_
  have ab := h2.abides hs'
  have hus : ∀ β, c1.used β → c.used β ∨ nx ≤ β := fun β hb => by
   rcases h4 β hb with hb | hb
   ·exact hu β hb
   ·right; exact qZi hle hb
  have kU : nx ≤ bj := qZi hle h6
  cases u1 with
  | ret =>
   have e1 : pd = .returning := h7
   subst e1
   obtain ⟨x, hx, hR⟩ := h8
   have kl : Sr (G.at (some none)) c1 W1 { st' with H := c1.H, nx := bj, df := [] } { a' with defers := [] } := ⟨rfl, fun t => Rep.abides ab _ (hr'.tm t), h5, rfl, hr'.G.abides ab⟩
   obtain ⟨v, hv, hrv⟩ := FA h3 kl hx
   exact ⟨v, hv, c1, c1.H, bj, aD.trans h2, h3, rfl, hus, h5, kU, .inl ⟨x, v, rfl, hrv, hR⟩⟩
  | pan x r =>
   obtain ⟨v, e1, hv⟩ := h7
   subst e1
   cases r with
   | true => exact h8.elim
   | false => exact ⟨c1, c1.H, bj, aD.trans h2, h3, rfl, hus, h5, kU, .inr ⟨x, v, rfl, hv, h8⟩⟩
 cases ve with
 | normal => have e1 : e = .normal := he; subst e1; exact finish .ret .returning rfl hq
 | ret => have e1 : e = .ret := he; subst e1; exact finish .ret .returning rfl hq
 | exit id => exact hq.elim
 | goto l => exact hq.elim
 | panic x =>
  obtain ⟨v, e1, hv⟩ := he
  subst e1
  exact finish (.pan x false) (.panicking [{ v, recovered := false }]) ⟨v, rfl, hv⟩ hq
variable {n aa i : Nat} {ops : Array Oper} {o : Oper} {K : St → Prop} {Qp : VV → St → Prop}
theorem aK.defer {st : St} {k : Call} {fo : Operand} {f : Fn} {first captured : List VV} (hrg : G.rg = some none)
  (ho : ops[i]? = some o) (hd : dstsOk n ops = true) (hw : aJ ops st.tm o = some true) (hop : o.op = .defer k) (hk : k.callee = .value fo) (hf : st.ρ G fo = .fn f first captured)
  (h : K { st.put o.dst (.lit undef) with df := .fn f captured (first ++ k.args.toList.map (st.ρ G)) :: st.df }) : aK P G n ops aa i st K Qp := by
 intro ro c W a Kr Q hro s hr hs hγ hnx kk kp
 have hro' : ro = none := by unfold RoOk at hro; rw [hrg] at hro; exact hro
 subst hro'
 unfold wpOpIn
 simp only [ho]
 rw [if_pos (jH hr.tm hw)]
 refine ⟨fun _ _ => trivial, ?_⟩
 have hfr := hr.eval fo
 rw [hf] at hfr
 obtain ⟨l1, l2, hfv, dH, nB⟩ := hfr
 have bz := ph hr.eval k.args.toList
 have aI : (execOp a.eval o).run P W = .ok (.defer { target := .fn f ⟨l2⟩, args := ⟨l1 ++ k.args.toList.map a.eval⟩ }) W := by
  have e : (⟨l1⟩ ++ k.args.map a.eval : Array Value) = ⟨l1 ++ k.args.toList.map a.eval⟩ := by apply Array.ext'; simp
  simp only [execOp, hop, resolve, hk, Deferred.ofValue, hfv, pure_bind, e, Sem.run_pure]
 show Oper.uponIn _ _ _ _ _ _ _ ((Oper.semAt none a.eval o).run P W)
 rw [Oper.semAt_none, aI, Oper.uponIn_defer]
 have hdd : ∀ d, o.dst = some d → d < a.tmps.size := fun d hd' => by rw [hs]; exact oU hd ho d hd'
 refine kk _ W c { st.put o.dst (.lit undef) with df := .fn f captured (first ++ k.args.toList.map (st.ρ G)) :: st.df } (Ext.refl c W) s ?_ (by simpa using hs) (fun _ h => .inl h) (by simp) h
 refine ⟨by simpa using hr.H, ?_, by simpa using hr.nx, ?_, hr.G⟩
 ·have := tN (a := { a with defers := { target := .fn f ⟨l2⟩, args := ⟨l1 ++ k.args.toList.map a.eval⟩ } :: a.defers }) (st := st) (dst := o.dst) (x := .lit undef) (v := undef) hr.tm hdd rfl
  exact this
 ·rw [tO]
  exact ⟨_, _, rfl, ⟨l2, _, rfl, nB, Rl.append dH bz⟩, hr.df⟩
def showV (H : Nat → Option Vo) : Nat → VV → VV
 | 0, x => x
 | d + 1, x => match x with
  | .ref β off len es cp => match H β with
   | some (.cells _ cs) => if off ≤ cs.length then .sl (((cs.drop off).take (len * es)).map (showV H d)) len false else .ref β off len es cp
   | _ => .ref β off len es cp
  | .agg cs => .agg (cs.map (showV H d))
  | .tup cs => .tup (cs.map (showV H d))
  | .mp β => match H β with
   | some (.map es) => .mt (es.map (·.1)) ((es.map (·.2)).map (showV H d))
   | _ => .mp β
  | x => x
theorem xR {c c' : Ctx} {W : World} {g : VV → VV} : ∀ (xs : List VV) {l : List Value}, tl (xs.map g) = true → (∀ x ∈ xs, ∀ v, (g x).tree = true → Rep c W x v → Rep c' W (g x) v) → Rl c W xs l → Rl c' W (xs.map g) l
 | [], _, _, _, h => h
 | x :: xs, _, ht, hg, ⟨u, us, e, h1, h2⟩ => by
  simp only [List.map_cons, tl, Bool.and_eq_true] at ht
  exact ⟨u, us, e, hg x (qZb ..) u ht.1 h1, xR xs ht.2 (fun y hy => hg y (qZa _ hy)) h2⟩
theorem vV {c : Ctx} {W : World} (s : Sim c W) : ∀ (d : Nat) (x : VV) (v : Value), (showV c.H d x).tree = true → Rep c W x v → Rep (PCtx (heldIn c c.H)) W (showV c.H d x) v
 | 0, x, v, ht, h => Fx ht h
 | d + 1, x, v, ht, h => by
  cases x with
  | ref β off len es cp =>
   simp only [showV] at ht ⊢
   cases hβ : c.H β with
   | none => rw [hβ] at ht; cases ht
   | some o =>
    rw [hβ] at ht
    cases o with
    | cells el cs =>
     by_cases hle : off ≤ cs.length
     ·simp only [if_pos hle] at ht ⊢
      obtain ⟨cap, hv, hcap, _, _⟩ := h.2 (by simp [Ctx.live, hβ])
      obtain ⟨l, hl, hcell⟩ := Rc.list (Rc.take (len * es) (Rc.drop off (Rc.of_obj s hβ)))
      exact ⟨_, cap, hv, hcap, fun h => by simp at h, .inr ⟨_, _, rfl, .inr ⟨β, by simp [hβ], rfl⟩, Rc.of_cells (xR _ ht (fun y _ u hy hr => vV s d y u hy hr) hl) (fun i u hu => by have := hcell i u hu; simpa using this)⟩⟩
     ·simp only [if_neg hle] at ht; cases ht
    | _ => cases ht
  | agg cs =>
   obtain ⟨l, rfl, hl⟩ := h
   exact ⟨l, rfl, xR _ ht (fun y _ u hy hr => vV s d y u hy hr) hl⟩
  | tup cs =>
   obtain ⟨l, rfl, hl⟩ := h
   exact ⟨l, rfl, xR _ ht (fun y _ u hy hr => vV s d y u hy hr) hl⟩
  | mp β =>
   simp only [showV] at ht ⊢
   cases hβ : c.H β with
   | none => rw [hβ] at ht; cases ht
   | some o =>
    rw [hβ] at ht
    cases o with
    | map es =>
     have hv : v = .map (some (c.φ β)) := h.2 (by simp [Ctx.live, hβ])
     obtain ⟨ents, clk, h1, h2, h3⟩ := s.obj β _ hβ
     exact ⟨_, hv, .inr ⟨β, by simp [hβ], rfl⟩, ents, clk, h1, h2, xR _ ht (fun y _ u hy hr => vV s d y u hy hr) h3⟩
    | _ => cases ht
  | _ => exact Fx ht h
theorem UB {c : Ctx} {W : World} (s : Sim c W) (d : Nat) (xs : List VV) {l : List Value} (ht : tl (xs.map (showV c.H d)) = true) (h : Rl c W xs l) : Rl (PCtx (heldIn c c.H)) W (xs.map (showV c.H d)) l :=
 xR xs ht (fun y _ u hy hr => vV s d y u hy hr) h
theorem aK.shown {st : St} {x : VV} (hi : ops[i]? = some o) (hdst : dstsOk n ops = true)
  (hw : aJ ops st.tm o = some true) (hf : callee? P G st o.op = some (f, args)) (hse : tl (args.map (showV st.H 3)) = true) (hp : ah P G f (args.map (showV st.H 3)) (.tree x)) (hfl : x.flat = true) (hk : K (st.put o.dst x)) : aK P G n ops aa i st K Qp := by
  intro ro c W a Kr Q _ s hr hsz hγ hnx k0 _
  have hd : ∀ d, o.dst = some d → d < a.tmps.size := by rw [hsz]; exact oU hdst hi
  have k : ∀ a' W' c', Ext c W c' W' → Sim c' W' → Sr G c' W' (st.put o.dst x) a' → a'.tmps.size = a.tmps.size → (∀ β, c'.used β → c.used β ∨ β = aa + i) → Kr a' W' := fun a' W' c' he hs' hr' hz hu =>
   k0 a' W' c' _ he hs' hr' (hz.trans hsz) (fun β hb => (hu β hb).imp id .inl) (by cases o.dst <;> exact qZh _) hk
  unfold wpOpIn
  simp only [hi]
  rw [if_pos (jH hr.tm hw)]
  obtain ⟨vs, hvs, aI, hnd⟩ := oS hr hf hp.1
  rw [← hr.H] at hse
  have hvs' := UB s 3 args hse hvs
  rw [← hr.H] at hp
  have hA : ∀ b, heldIn c c.H b → b < W.heap.size := by
   rintro b (h | ⟨β, hl, e⟩)
   ·exact s.ltA b h
   ·exact e ▸ s.lt β hl
  have hG : GOk G (PCtx (heldIn c c.H)) W := hr.G.tree.abides (mU (fun b hb => Or.inl hb))
  refine ⟨fun _ _ => trivial, ?_⟩
  rw [Oper.semAt_eq _ _ _ hnd, aI, Oper.uponIn_enter]
  refine ⟨fun h => (by cases h), nD ((hp.2 _ W vs hA hG hvs').mono ?_)⟩
  ·rintro e W' ⟨A0, g1, g2, g3, hb, v, rfl, gp⟩
   have h1 : ∀ b, c.A b → c.A b := fun _ h => h
   have h2 : ∀ b, c.A b → c.A b ∨ W.heap.size ≤ b := fun _ h => .inl h
   have h3 : ∀ b, c.A b → b < W'.heap.size := fun b hA => qZd (s.ltA b hA) hb.size
   have he := Ext.more h1 h2 hb
   have hs := Sim.more s h1 h2 h3 hb
   refine k _ W' (c.more c.A) he hs ?_ (by simp) (fun _ h => .inl h)
   have := hr.step (he.abides s) (dst := o.dst) (x := x) (v := v) (H' := st.H) hr.H (Dg hfl gp) hd hr.nx
   cases hdst : o.dst <;> rw [hdst] at this <;> exact this
theorem aK.shownOwn {st : St} {cs : List VV} {len es : Nat} (hi : ops[i]? = some o) (hdst : dstsOk n ops = true)
  (hw : aJ ops st.tm o = some true) (hf : callee? P G st o.op = some (f, args)) (hse : tl (args.map (showV st.H 3)) = true) (hp : ah P G f (args.map (showV st.H 3)) (.own cs len es)) (hfl : flatL cs = true)
  (hk : K { st.put o.dst (.ref (aa + i) 0 len es len) with H := (Ve.new (.cells none cs)).app (aa + i) st.H }) : aK P G n ops aa i st K Qp := by
  intro ro c W a Kr Q _ s hr hsz hγ hnx k0 _
  have hd : ∀ d, o.dst = some d → d < a.tmps.size := by rw [hsz]; exact oU hdst hi
  have k : ∀ a' W' c', Ext c W c' W' → Sim c' W' → Sr G c' W' { st.put o.dst (.ref (aa + i) 0 len es len) with H := (Ve.new (.cells none cs)).app (aa + i) st.H } a' → a'.tmps.size = a.tmps.size → (∀ β, c'.used β → c.used β ∨ β = aa + i) → Kr a' W' := fun a' W' c' he hs' hr' hz hu =>
   k0 a' W' c' _ he hs' hr' (hz.trans hsz) (fun β hb => (hu β hb).imp id .inl) (by cases o.dst <;> exact qZh _) hk
  unfold wpOpIn
  simp only [hi]
  rw [if_pos (jH hr.tm hw)]
  obtain ⟨vs, hvs, aI, hnd⟩ := oS hr hf hp.1
  rw [← hr.H] at hse
  have hvs' := UB s 3 args hse hvs
  rw [← hr.H] at hp
  have hA : ∀ b, heldIn c c.H b → b < W.heap.size := by
   rintro b (h | ⟨β, hl, e⟩)
   ·exact s.ltA b h
   ·exact e ▸ s.lt β hl
  have hG : GOk G (PCtx (heldIn c c.H)) W := hr.G.tree.abides (mU (fun b hb => Or.inl hb))
  refine ⟨fun _ _ => trivial, ?_⟩
  rw [Oper.semAt_eq _ _ _ hnd, aI, Oper.uponIn_enter]
  refine ⟨fun h => (by cases h), nD ((hp.2 _ W vs hA hG hvs').mono ?_)⟩
  ·rintro e W' ⟨A0, g1, g2, g3, hb, b, arr, elem, cap, rfl, q1, q2, q3, Wr, q5, q6, q7, F5⟩
   have h1 : ∀ b, c.A b → c.A b := fun _ h => h
   have h2 : ∀ b, c.A b → c.A b ∨ W.heap.size ≤ b := fun _ h => .inl h
   have h3 : ∀ b, c.A b → b < W'.heap.size := fun b hA => qZd (s.ltA b hA) hb.size
   have q4 : ¬ c.A b := fun h => by have := s.ltA b h; omega
   have q8 : Rl (PCtx c.A) W' cs (arr.toList.take cs.length) := tQ hfl F5
   have he := Ext.more h1 h2 hb
   have hs := Sim.more s h1 h2 h3 hb
   have hγ' : ¬ (c.more c.A).used (aa + i) := hγ
   have hbut : But W' W' b := But.refl W' b
   have e1 : Ext c W ((c.more c.A).push c.H (aa + i) (.cells none cs) b arr.size) W' :=
    { Ext.push (c := c) (ai.refl _) hγ (.inl q2) ⟨fun k hk _ => hb.block k hk, hb.size, hb.os, hb.tape, hb.output⟩ with A := h1, newA := fun b hA => (h2 b hA).imp id .inl }
   have s1 : Sim ((c.more c.A).push c.H (aa + i) (.cells none cs) b arr.size) W' := by
    have nE : Abides (c.more c.A) W' ((c.more c.A).push c.H (aa + i) (.cells none cs) b arr.size) W' :=
     ⟨fun _ h => h, fun _ _ => rfl, fun _ h => .inr h, fun β hu hl => by
      rcases Ctx.push_live hl with e | ⟨_, h⟩
      ·exact absurd (e ▸ hu) hγ'
      ·exact h, fun β hu _ => by
      have : β ≠ aa + i := fun e => hγ' (e ▸ hu)
      simp [Ctx.push, this], fun β hu _ => by
      have : β ≠ aa + i := fun e => hγ' (e ▸ hu)
      simp [Ctx.push, this]⟩
    refine ⟨fun β hl => ?_, fun β ob hob => ?_, fun β hl => ?_, fun β hl => ?_, fun β δ hl hl' e => ?_, h3⟩
    ·rcases Ctx.push_live hl with e | ⟨_, h⟩
     ·exact .inl e
     ·exact .inr (s.used β h)
    ·by_cases e : β = aa + i
     ·subst e
      simp [Ctx.push] at hob
      subst hob
      exact ⟨arr, elem, by simpa [Ctx.push] using q5, by simp [Ctx.push], q7, Rl.abides (mU (fun _ h => h)) _ q8, fun _ h => by cases h⟩
     ·have hob' : c.H β = some ob := by simpa [Ctx.push, e] using hob
      have hl : c.live β := by simp [Ctx.live, hob']
      refine (hs.obj β ob hob').abides nE (s.used β hl) (by simp [Ctx.live, Ctx.push, e, hob']) rfl ?_
      intro st pe tm ps as bo df e'
      subst e'
      obtain ⟨ds, hds⟩ := s.loopOk hob'
      by_cases e2 : df = aa + i
      ·exact absurd (e2 ▸ s.used df (by simp [Ctx.live, hds])) hγ
      ·exact ⟨ds, by simpa [Ctx.push, e2] using hds⟩
    ·rcases Ctx.push_live hl with e | ⟨e, h⟩
     ·simpa [Ctx.push, e] using q3
     ·simp only [Ctx.push, e, if_false]; exact hs.lt β h
    ·rcases Ctx.push_live hl with e | ⟨e, h⟩
     ·simp only [Ctx.push, e, if_true]; exact q4
     ·simp only [Ctx.push, e, if_false]; exact hs.notA β h
    ·rcases Ctx.push_live hl with ex | ⟨ex, hx⟩ <;> rcases Ctx.push_live hl' with ey | ⟨ey, hy⟩
     ·rw [ex, ey]
     ·simp [Ctx.push, ex, ey] at e
      have := s.lt δ hy
      have e' : b = c.φ δ := e
      omega
     ·simp [Ctx.push, ex, ey] at e
      have := s.lt β hx
      have e' : c.φ β = b := e
      omega
     ·simp [Ctx.push, ex, ey] at e; exact s.inj β δ hx hy e
   refine k _ W' _ e1 s1 ?_ (by simp) (fun β h => h.symm)
   refine hr.step (e1.abides s) (H' := (Ve.new (.cells none cs)).app (aa + i) st.H) ?_ ?_ hd ?_
   ·rw [← hr.H]; rfl
   ·exact rv q1 q6 q1
   ·intro β hb
    rcases hb with h | h
    ·rw [h]; exact hnx
    ·exact hr.nx β h
def openK (P : Program) (G : Gb) (f : FuncId) (args : List VV) (st : St) (dst : Option Tmp) (K : St → Prop) (Qp : VV → St → Prop) : Prop :=
 aU P G f args st.H st.nx (fun x H' nx' => K { st.put dst x with H := H', nx := nx' }) (fun x H' nx' => Qp x { st with H := H', nx := nx' })
def yieldK (P : Program) (G : Gb) (o : Oper) (β : Nat) (args : List VV) (st : St) (K : St → Prop) : Prop :=
 match st.H β with
 | some (.loop .ready _ tm ps as bo _) => args.length = ps.size ∧ VWp P (G.at (some (some β))) tm.length as (RoundStart P G tm.length β bo o st K) { tm := bc (roundTm tm ps.toList args), H := st.H, nx := st.nx, df := [] }
 | _ => False
def deferK (G : Gb) (o : Oper) (x : VV) (args : List VV) (st : St) (K : St → Prop) : Prop :=
 match x with
 | .fn f first captured => G.rg = some none ∧ K { st.put o.dst (.lit undef) with df := .fn f captured (first ++ args) :: st.df }
 | _ => False
def callK (P : Program) (G : Gb) (f : FuncId) (args : List VV) (st : St) (dst : Option Tmp) (γ : Nat) (K : St → Prop) (Qp : VV → St → Prop) : Prop :=
 (tl args = true ∧ ∃ r, ah P G f args r ∧ match r with
  | .tree x => K (st.put dst x)
  | .own cs len es => K (bd st dst (.ref γ 0 len es len) (.new (.cells none cs)) γ)
  | .panic x => Qp x st) ∨
 (tl (args.map (showV st.H 3)) = true ∧ ∃ r, ah P G f (args.map (showV st.H 3)) r ∧ match r with
  | .tree x => x.flat = true ∧ K (st.put dst x)
  | .own cs len es => flatL cs = true ∧ K (bd st dst (.ref γ 0 len es len) (.new (.cells none cs)) γ)
  | .panic _ => False) ∨ openK P G f args st dst K Qp
def opK (P : Program) (G : Gb) (o : Oper) (γ : Nat) (st : St) (K : St → Prop) : Prop :=
 match vop P o (st.ρ G) st.H γ with
 | some (x, eff) => K (bd st o.dst x eff γ)
 | none => False
def aX (P : Program) (G : Gb) (γ : Nat) (o : Oper) (st : St) (K : St → Prop) (Qp : VV → St → Prop) : Prop :=
 match o.op with
 | .call k =>
  match k.callee with
  | .value fo =>
   match st.ρ G fo with
   | .fn (.func f) first captured => callK P G f (first ++ k.args.toList.map (st.ρ G) ++ captured) st o.dst γ K Qp
   | .yl β => yieldK P G o β (k.args.toList.map (st.ρ G)) st K
   | _ => False
  | .invoke r m =>
   match recvV P m (st.ρ G r) with
   | .fn (.func f) first captured => callK P G f (first ++ k.args.toList.map (st.ρ G) ++ captured) st o.dst γ K Qp
   | _ => False
  | _ => opK P G o γ st K
 | .defer k =>
  match k.callee with
  | .value fo => deferK G o (st.ρ G fo) (k.args.toList.map (st.ρ G)) st K
  | _ => False
 | .panic x => match st.ρ G x with
  | .ifc t y => Qp (.ifc t y) st
  | _ => False
 | _ => opK P G o γ st K
def stepK (P : Program) (G : Gb) (ops : Array Oper) (γ : Nat) (o : Oper) (st : St) (K : St → Prop) (Qp : VV → St → Prop) : Prop :=
 match aJ ops st.tm o with
 | none => False
 | some b => (b = true → aX P G γ o st K Qp) ∧ (b = false → K (st.put o.dst (.lit undef)))
theorem aK.mono {st : St} {K' : St → Prop} {Qp' : VV → St → Prop} (h : aK P G n ops aa i st K Qp) (hk : ∀ s, K s → K' s) (hq : ∀ x s, Qp x s → Qp' x s) :
  aK P G n ops aa i st K' Qp' := by
 intro ro c W a Kr Q hro s hr hs hγ hnx k kp
 exact h ro c W a Kr Q hro s hr hs hγ hnx (fun a' W' c' st' h1 h2 h3 h4 h5 h6 h7 => k a' W' c' st' h1 h2 h3 h4 h5 h6 (hk _ h7)) (fun a' W' c' st' x v h1 h2 h3 h4 h5 h6 h7 h8 => kp a' W' c' st' x v h1 h2 h3 h4 h5 h6 h7 (hq _ _ h8))
theorem aK.panic {st : St} {x : Operand} {t : TypeId} {y : VV} (ho : ops[i]? = some o) (hw : aJ ops st.tm o = some true)
  (hop : o.op = .panic x) (hx : st.ρ G x = .ifc t y) (hq : Qp (.ifc t y) st) : aK P G n ops aa i st K Qp := by
 intro ro c W a Kr Q hro s hr hs hγ hnx k kp
 unfold wpOpIn
 simp only [ho]
 rw [if_pos (jH hr.tm hw)]
 refine ⟨fun _ _ => trivial, ?_⟩
 have h1 := hr.eval x
 rw [hx] at h1
 obtain ⟨u, e, hu⟩ := h1
 rw [Oper.semAt_eq _ _ _ (by rw [hop]; simp)]
 have aI : (execOp a.eval o).run P W = .halt (.panic (.iface t u)) W := by
  simp only [execOp, hop, e, Instr.panic]
  rfl
 rw [aI, Oper.uponIn_panic]
 exact kp a W c st (.ifc t y) (.iface t u) (Ext.refl c W) s hr hs (fun _ h => .inl h) (qZh _) ⟨u, rfl, hu⟩ hq
theorem aK.callPanic {st : St} {x : VV} (ho : ops[i]? = some o) (hw : aJ ops st.tm o = some true)
  (hf : callee? P G st o.op = some (f, args)) (ht : tl args = true) (hp : ah P G f args (.panic x)) (hq : Qp x st) : aK P G n ops aa i st K Qp := by
 intro ro c W a Kr Q hro s hr hs hγ hnx k kp
 unfold wpOpIn
 simp only [ho]
 rw [if_pos (jH hr.tm hw)]
 obtain ⟨vs, hvs, aI, hnd⟩ := oS hr hf hp.1
 refine ⟨fun _ _ => trivial, ?_⟩
 rw [Oper.semAt_eq _ _ _ hnd, aI, Oper.uponIn_enter]
 refine ⟨fun h => (by cases h), nD ((hp.2 c.A W vs s.ltA hr.G.tree (oR ht hvs)).mono ?_)⟩
 rintro e W' ⟨A', h1, h2, h3, hb, v, rfl, hx⟩
 have he := Ext.more h1 h2 hb
 have hs' := Sim.more s h1 h2 h3 hb
 have hr' : Sr G (c.more A') W' st a := ⟨hr.H, fun t => Rep.abides (he.abides s) _ (hr.tm t), hr.nx, hr.df.abides (he.abides s), hr.G.abides (he.abides s)⟩
 exact kp a W' (c.more A') st x v he hs' hr' hs (fun _ h => .inl h) (qZh _) (Rep.abides (mU (fun _ h => h)) _ hx) hq
theorem UC {st : St} (ho : ops[i]? = some o) (hd : dstsOk n ops = true)
  (h : stepK P G ops (aa + i) o st K Qp) : aK P G n ops aa i st K Qp := by
 have opk : aJ ops st.tm o = some true → opK P G o (aa + i) st K → aK P G n ops aa i st K Qp := by
  intro hw h
  unfold opK at h
  split at h
  ·rename_i x eff hv
   exact aK.quiet ho hd (.op hw hv) h
  ·exact h.elim
 unfold stepK at h
 split at h
 ·exact h.elim
 ·rename_i b hw
  cases b with
  | false => exact aK.quiet ho hd (.skip hw) (h.2 rfl)
  | true =>
  replace h := h.1 rfl
  unfold aX at h
  split at h
  ·rename_i k hop
   split at h
   ·rename_i fo hfo
    split at h
    ·rename_i f first captured hρ
     have hf : callee? P G st o.op = some (f, first ++ k.args.toList.map (st.ρ G) ++ captured) := by simp [callee?, hop, hfo, hρ]
     unfold callK at h
     rcases h with ⟨ht, r, hp, h⟩ | ⟨ht, r, hp, h⟩ | h
     ·cases r with
      | tree x => exact aK.quiet ho hd (.call hw hf ht hp) h
      | own cs len es => exact aK.quiet ho hd (.callOwn hw hf ht hp) h
      | panic x => exact aK.callPanic ho hw hf ht hp h
     ·cases r with
      | tree x => exact aK.shown ho hd hw hf ht hp h.1 h.2
      | own cs len es => exact aK.shownOwn ho hd hw hf ht hp h.1 h.2
      | panic x => exact h.elim
     ·exact aK.open ho hd hw hf h
    ·rename_i β hρ
     unfold yieldK at h
     split at h
     ·rename_i pe tm ps as bo df hβ
      exact aK.yield ho hd hw hop hfo hρ hβ (by simpa using h.1) h.2
     ·exact h.elim
    ·exact h.elim
   ·rename_i rc m hfo
    split at h
    ·rename_i f first captured hρ
     have hf : callee? P G st o.op = some (f, first ++ k.args.toList.map (st.ρ G) ++ captured) := by simp [callee?, hop, hfo, hρ]
     unfold callK at h
     rcases h with ⟨ht, r, hp, h⟩ | ⟨ht, r, hp, h⟩ | h
     ·cases r with
      | tree x => exact aK.quiet ho hd (.call hw hf ht hp) h
      | own cs len es => exact aK.quiet ho hd (.callOwn hw hf ht hp) h
      | panic x => exact aK.callPanic ho hw hf ht hp h
     ·cases r with
      | tree x => exact aK.shown ho hd hw hf ht hp h.1 h.2
      | own cs len es => exact aK.shownOwn ho hd hw hf ht hp h.1 h.2
      | panic x => exact h.elim
     ·exact aK.open ho hd hw hf h
    ·exact h.elim
   ·exact opk hw h
  ·rename_i k hop
   split at h
   ·rename_i fo hfo
    unfold deferK at h
    split at h
    ·rename_i f first captured hρ
     exact aK.defer h.1 ho hd hw hop hfo hρ h.2
    ·exact h.elim
   ·exact h.elim
  ·rename_i x hop
   split at h
   ·rename_i t y hx
    exact aK.panic ho hw hop hx h
   ·exact h.elim
  ·exact opk hw h
def seqK (P : Program) (G : Gb) (ops : Array Oper) (aa : Nat) (Q : Vx → St → Prop) : Nat → List Oper → St → Prop
 | _, [], st => Q .normal st
 | i, o :: l, st => stepK P G ops (aa + i) o st (seqK P G ops aa Q (i + 1) l) (fun x st' => Q (.panic x) st')
theorem UD {P : Program} {G : Gb} {n : Nat} {ops : Array Oper} {aa : Nat} {Q : Vx → St → Prop} (hd : dstsOk n ops = true) : ∀ (l : List Oper) (i : Nat) (st : St), (∀ k, l[k]? = ops[i + k]?) →
  seqK P G ops aa Q i l st → VSeq P G n ops aa Q (List.range' i l.length) st
 | [], i, st, _, h => h
 | o :: l, i, st, hl, h => by
  have ho : ops[i]? = some o := by have := hl 0; simpa using this.symm
  show aK P G n ops aa i st _ _
  refine (UC ho hd h).mono (fun s hs => UD hd l (i + 1) s (fun k => by have := hl (k + 1); simp at this; rw [this]; congr 1; omega) hs) (fun _ _ h => h)
def dstepK (P : Program) (G : Gb) (ops : Array Oper) (γ : Nat) (o : Oper) (st : St) (K : List Nat → List Nat → St → Prop) : Prop :=
 match aJ ops st.tm o with
 | none => False
 | some b => (b = true →
  match o.op with
  | .call { callee := .value fo, args := as, .. } =>
   match st.ρ G fo with
   | .fn (.func f) first captured =>
    (tl (first ++ as.toList.map (st.ρ G) ++ captured) = true ∧ ∃ r, ah P G f (first ++ as.toList.map (st.ρ G) ++ captured) r ∧ match r with
     | .tree x => K [] [] (st.put o.dst x)
     | .own cs len es => K [] [γ] (bd st o.dst (.ref γ 0 len es len) (.new (.cells none cs)) γ)
     | .panic _ => False) ∨
    (∃ args' x, aT st.H fuelS (first ++ as.toList.map (st.ρ G) ++ captured) = some args' ∧ ah P G f args' (.tree x) ∧ x.flat = true ∧ K (nmL st.H fuelS (first ++ as.toList.map (st.ρ G) ++ captured)) [] (st.put o.dst x)) ∨
    (∃ β es' x, UpdC P G f (first ++ as.toList.map (st.ρ G) ++ captured) st.H st.nx β es' x ∧ K [β] [β] (bd st o.dst x (.upd β (.map es')) γ)) ∨
    (∃ cs, tl (first ++ as.toList.map (st.ρ G) ++ captured) = true ∧ NewC P G f (first ++ as.toList.map (st.ρ G) ++ captured) cs ∧ K [] [γ] (bd st o.dst (.agg (cs ++ [.mp γ])) (.new (.map [])) γ))
   | _ => False
  | .call { callee := .invoke rc m, args := as, .. } =>
   match recvV P m (st.ρ G rc) with
   | .fn (.func f) first captured =>
    (tl (first ++ as.toList.map (st.ρ G) ++ captured) = true ∧ ∃ r, ah P G f (first ++ as.toList.map (st.ρ G) ++ captured) r ∧ match r with
     | .tree x => K [] [] (st.put o.dst x)
     | .own cs len es => K [] [γ] (bd st o.dst (.ref γ 0 len es len) (.new (.cells none cs)) γ)
     | .panic _ => False) ∨
    (∃ args' x, aT st.H fuelS (first ++ as.toList.map (st.ρ G) ++ captured) = some args' ∧ ah P G f args' (.tree x) ∧ x.flat = true ∧ K (nmL st.H fuelS (first ++ as.toList.map (st.ρ G) ++ captured)) [] (st.put o.dst x)) ∨
    (∃ β es' x, UpdC P G f (first ++ as.toList.map (st.ρ G) ++ captured) st.H st.nx β es' x ∧ K [β] [β] (bd st o.dst x (.upd β (.map es')) γ)) ∨
    (∃ cs, tl (first ++ as.toList.map (st.ρ G) ++ captured) = true ∧ NewC P G f (first ++ as.toList.map (st.ρ G) ++ captured) cs ∧ K [] [γ] (bd st o.dst (.agg (cs ++ [.mp γ])) (.new (.map [])) γ))
   | _ => False
  | _ => match vop P o (st.ρ G) st.H γ with
   | some (x, eff) => K (rdV o (st.ρ G)) (eff.wr γ) (bd st o.dst x eff γ)
   | none => False) ∧
  (b = false → K [] [] (st.put o.dst (.lit undef)))
theorem UE {st : St} {K : List Nat → List Nat → St → Prop} (h : dstepK P G ops (aa + i) o st K) :
  ∃ rd wr st', QStep P G ops aa i o st st' rd wr ∧ K rd wr st' := by
 unfold dstepK at h
 split at h
 ·exact h.elim
 ·rename_i b hw
  cases b with
  | false => exact ⟨_, _, _, .skip hw, h.2 rfl⟩
  | true =>
  replace h := h.1 rfl
  split at h
  ·rename_i fo as ats hop
   split at h
   ·rename_i f first captured hρ
    have hf : callee? P G st o.op = some (f, first ++ as.toList.map (st.ρ G) ++ captured) := by simp [callee?, hop, hρ]
    rcases h with ⟨ht, r, hp, h⟩ | ⟨args', x, hs, hp, hx, h⟩ | ⟨β, es', x, hu, h⟩ | ⟨cs, ht, hn, h⟩
    ·cases r with
     | tree x => exact ⟨_, _, _, .call hw hf ht hp, h⟩
     | own cs len es => exact ⟨_, _, _, .callOwn hw hf ht hp, h⟩
     | panic x => exact h.elim
    ·exact ⟨_, _, _, .callSeen hw hf hs hp hx, h⟩
    ·exact ⟨_, _, _, .callUpd hw hf hu, h⟩
    ·exact ⟨_, _, _, .callNew hw hf ht hn, h⟩
   ·exact h.elim
  ·rename_i rc m as ats hop
   split at h
   ·rename_i f first captured hρ
    have hf : callee? P G st o.op = some (f, first ++ as.toList.map (st.ρ G) ++ captured) := by simp [callee?, hop, hρ]
    rcases h with ⟨ht, r, hp, h⟩ | ⟨args', x, hs, hp, hx, h⟩ | ⟨β, es', x, hu, h⟩ | ⟨cs, ht, hn, h⟩
    ·cases r with
     | tree x => exact ⟨_, _, _, .call hw hf ht hp, h⟩
     | own cs len es => exact ⟨_, _, _, .callOwn hw hf ht hp, h⟩
     | panic x => exact h.elim
    ·exact ⟨_, _, _, .callSeen hw hf hs hp hx, h⟩
    ·exact ⟨_, _, _, .callUpd hw hf hu, h⟩
    ·exact ⟨_, _, _, .callNew hw hf ht hn, h⟩
   ·exact h.elim
  ·split at h
   ·rename_i x eff hv
    exact ⟨_, _, _, .op hw hv, h⟩
   ·exact h.elim
def traceK (ops : Array Oper) : Tr → Prop
 | [] => True
 | p :: tr => (∀ q ∈ tr, aC ops ops.size p.1 q.1 = true ∨ Indep p q) ∧ traceK ops tr
def apartOk (ops : Array Oper) : Bool := (List.range ops.size).all fun i => (List.range ops.size).all fun j => !decide (i < j) || aC ops ops.size i j || (match ops[i]?, ops[j]? with
 | some o, some o' => o.apart ops o'
 | _, _ => true)
theorem Bf {ops : Array Oper} (hap : apartOk ops = true) : ∀ (tr : Tr), (tr.map (·.1)).Pairwise (· < ·) → traceK ops tr → TraceOk ops tr
 | [], _, _ => List.Pairwise.nil
 | p :: tr, hs, h => by
  simp only [List.map_cons, List.pairwise_cons] at hs
  refine List.pairwise_cons.2 ⟨fun q hq => ?_, Bf hap tr hs.2 h.2⟩
  rcases h.1 q hq with hb | hi
  ·exact .inl hb
  ·cases hbb : aC ops ops.size p.1 q.1 with
   | true => exact .inl rfl
   | false =>
    refine .inr ⟨hi, fun o o' ho ho' => ?_⟩
    have hlt := hs.1 q.1 (List.mem_map_of_mem hq)
    have h1 := (Array.getElem?_eq_some_iff.1 ho).1
    have h2 := (Array.getElem?_eq_some_iff.1 ho').1
    unfold apartOk at hap
    rw [List.all_eq_true] at hap
    have := hap p.1 (List.mem_range.2 h1)
    rw [List.all_eq_true] at this
    have := this q.1 (List.mem_range.2 h2)
    simp [hlt, hbb, ho, ho'] at this
    exact this
def drawK (P : Program) (G : Gb) (ops : Array Oper) (aa : Nat) (Q : Vx → St → Prop) : Nat → List Oper → Tr → St → Prop
 | _, [], tr, st => traceK ops tr.reverse ∧ Q .normal st
 | i, o :: l, tr, st => dstepK P G ops (aa + i) o st fun rd wr st' => drawK P G ops aa Q (i + 1) l ((i, rd, wr) :: tr) st'
theorem UF {P : Program} {G : Gb} {ops : Array Oper} {aa : Nat} {Q : Vx → St → Prop} : ∀ (l : List Oper) (i : Nat) (tr : Tr) (st : St), (∀ k, l[k]? = ops[i + k]?) →
  drawK P G ops aa Q i l tr st → ∃ st' tr', QSteps P G ops aa (List.range' i l.length) st st' tr' ∧ traceK ops (tr.reverse ++ tr') ∧ Q .normal st'
 | [], i, tr, st, _, h => ⟨st, [], .nil, by simpa using h.1, h.2⟩
 | o :: l, i, tr, st, hl, h => by
  have ho : ops[i]? = some o := by have := hl 0; simpa using this.symm
  obtain ⟨rd, wr, s1, hq, hk⟩ := UE h
  obtain ⟨st', tr', hqs, htr, hQ⟩ := UF l (i + 1) ((i, rd, wr) :: tr) s1 (fun k => by have := hl (k + 1); simp at this; rw [this]; congr 1; omega) hk
  exact ⟨st', (i, rd, wr) :: tr', .cons ho hq hqs, by simpa using htr, hQ⟩
def CWp (P : Program) (G : Gb) (n : Nat) : Code → (Vx → St → Prop) → St → Prop
 | .skip, Q, st => Q .normal st
 | .label _, Q, st => Q .normal st
 | .exit id, Q, st => Q (.exit id) st
 | .ret, Q, st => Q .ret st
 | .seq a b, Q, st => CWp P G n a (Vx.then (CWp P G n b Q) Q) st
 | .cond c a b, Q, st => match st.ρ G c with
  | .lit (.bool t) => (t = true → CWp P G n a Q st) ∧ (t = false → CWp P G n b Q st)
  | _ => False
 | .block id a, Q, st => CWp P G n a (Vx.inBlock id Q) st
 | .region _ ops false, Q, st => seqK P G ops st.nx Q 0 ops.toList { st with nx := st.nx + ops.size }
 | .region id ops true, Q, st => drawK P G ops st.nx Q 0 ops.toList [] { st with nx := st.nx + ops.size } ∨ VWp P G n (.region id ops true) Q st
 | .rangeFunc g ps as bo, Q, st => G.rg = some none ∧ (match st.ρ G g with
  | .fn (.func f) first captured => aU P G f (first ++ [.yl (st.nx + 1)] ++ captured) (updH (updH st.H st.nx (.deferred (some []))) (st.nx + 1) (.loop .ready none (tmL n st.tm) ps as bo st.nx)) (st.nx + 2)
   (fun _ H' nx' => RangeEnd P G n Q st H' nx') (fun x H' nx' => Q (.panic x) { st with H := H', nx := nx', df := .coll st.nx :: st.df })
  | _ => False)
 | code, Q, st => VWp P G n code Q st
def codeOk (n : Nat) : Code → Bool
 | .region _ ops false => dstsOk n ops
 | .region _ ops true => backOk ops && dstsOk n ops && apartOk ops
 | .seq a b => codeOk n a && codeOk n b
 | .cond _ a b => codeOk n a && codeOk n b
 | .block _ a => codeOk n a
 | .loop a => codeOk n a
 | .rangeFunc _ _ a b => codeOk n a && codeOk n b
 | .scope a => codeOk n a
 | _ => true
theorem qa {P : Program} {G : Gb} (hm : P.follows .mixedOrders = true) {n : Nat} : ∀ (code : Code) (Q : Vx → St → Prop) (st : St), codeOk n code = true → CWp P G n code Q st → VWp P G n code Q st
 | .skip, Q, st, _, h => VWp.skip h
 | .label _, Q, st, _, h => VWp.label h
 | .exit _, Q, st, _, h => VWp.exit h
 | .ret, Q, st, _, h => VWp.ret h
 | .seq a b, Q, st, ho, h => by
  simp only [codeOk, Bool.and_eq_true] at ho
  refine VWp.seq ((qa hm a _ st ho.1 h).mono fun e s hs => ?_)
  cases e with
  | normal => exact qa hm b Q s ho.2 hs
  | exit id => exact hs
  | goto l => exact hs
  | ret => exact hs
  | panic x => exact hs
 | .cond c a b, Q, st, ho, h => by
  simp only [codeOk, Bool.and_eq_true] at ho
  unfold CWp at h
  split at h
  ·rename_i t ht
   refine VWp.cond ht ?_
   cases t with
   | true => exact qa hm a Q st ho.1 (h.1 rfl)
   | false => exact qa hm b Q st ho.2 (h.2 rfl)
  ·exact h.elim
 | .block id a, Q, st, ho, h => VWp.block (qa hm a _ st ho h)
 | .region id ops false, Q, st, ho, h => by
  refine VWp.region ?_
  have := UD ho ops.toList 0 _ (fun k => by simp) h
  rw [List.range_eq_range']
  simpa using this
 | .region id ops true, Q, st, ho, h => by
  rcases h with h | h
  case inr => exact h
  simp only [codeOk, Bool.and_eq_true] at ho
  obtain ⟨⟨h1, h2⟩, h3⟩ := ho
  obtain ⟨st', tr, hq, htr, hQ⟩ := UF ops.toList 0 [] _ (fun k => by simp) h
  have hrng : List.range' 0 ops.toList.length = List.range ops.size := by rw [List.range_eq_range']; simp
  rw [hrng] at hq
  refine VWp.regionDraw hm [] (List.range ops.size) (by simp [h1, h2, barOk, flat]) ⟨st', tr, hq, Bf h3 tr ?_ (by simpa using htr), hQ⟩
  rw [hq.fst]
  exact List.pairwise_lt_range
 | .loop _, _, _, _, h => h
 | .rangeFunc g ps as bo, Q, st, _, h => by
  unfold CWp at h
  obtain ⟨h1, h2⟩ := h
  split at h2
  ·rename_i f first captured hg
   exact VWp.rangeFunc h1 hg h2
  ·exact h2.elim
 | .scope _, _, _, _, h => h
 | .goto _, _, _, _, h => h
 | .refuse _, _, _, _, h => h
theorem loopK (hm : P.follows .mixedOrders = true) {x : Code} {Q : Vx → St → Prop} {st : St} (ho : codeOk n x = true) (I : Nat → St → Prop) (m : Nat) (h0 : I m st)
  (round : ∀ m st, I m st → CWp P G n x (Vx.then (fun st' => ∃ m', m' < m ∧ I m' st') Q) st) : CWp P G n (.loop x) Q st :=
 VWp.loop I h0 fun m st hI => qa hm x _ st ho (round m st hI)
theorem ah.run (hm : P.follows .mixedOrders = true) {r : PRes} (hc : Callable P f) (hf : P.funcs[f]? = some fn) (hb : fn.body = some code)
  (hst : (decide (args.length ≤ fn.ntmps) && codeOk fn.ntmps code) = true) (h : CWp P (G.at (some none)) fn.ntmps code (PurePost P fn r) { tm := bc args, H := fun _ => none, nx := 0, df := [] }) : ah P G f args r := by
 simp only [Bool.and_eq_true, decide_eq_true_eq] at hst
 exact ah.of_body hc hf hb hst.1 (qa (G := G.at (some none)) hm code _ _ hst.2 h)
theorem aU.run (hm : P.follows .mixedOrders = true) {nx : Nat} 
  (hc : Callable P f) (hf : P.funcs[f]? = some fn) (hb : fn.body = some code) (hst : (decide (args.length ≤ fn.ntmps) && codeOk fn.ntmps code) = true)
  (h : CWp P (G.at (some none)) fn.ntmps code (OpenPostD P G fn R Rp) { tm := bc args, H, nx, df := [] }) : aU P G f args H nx R Rp := by
 simp only [Bool.and_eq_true, decide_eq_true_eq] at hst
 exact aU.of_bodyD hc hf hb hst.1 (qa (G := G.at (some none)) hm code _ _ hst.2 h)
end Go.V
end
section
namespace Go.V
open Go
mutual
def normV : VV → VV
 | .sl cs n _ => .sl (normL cs) n false
 | .lit (.slice none 0 0) => .sl [] 0 false
 | .agg cs => .agg (normL cs)
 | .tup cs => .tup (normL cs)
 | x => x
def normL : List VV → List VV
 | [] => []
 | x :: xs => normV x :: normL xs
end
mutual
theorem Ee {c : Ctx} {W : World} : ∀ (x : VV) {v : Value}, Rep c W x v → Rep c W (normV x) v
 | .sl cs n f, _, ⟨aa, cap, e, h1, h2, h3⟩ => ⟨aa, cap, e, h1, fun h => (by cases h), h3.imp (fun h => by subst h; rfl) fun ⟨b, o, e2, hA, h⟩ => ⟨b, o, e2, hA, UG cs h⟩⟩
 | .agg cs, _, ⟨l, e, h⟩ => ⟨l, e, Ef cs h⟩
 | .tup cs, _, ⟨l, e, h⟩ => ⟨l, e, Ef cs h⟩
 | .lit (.slice none 0 0), v, h => by
  have e : v = .slice none 0 0 := h
  subst e
  exact ⟨none, 0, rfl, qZh _, fun h => (by cases h), .inl rfl⟩
 | .lit (.slice none 0 (_ + 1)), _, h => h
 | .lit (.slice none (_ + 1) _), _, h => h
 | .lit (.slice (some _) _ _), _, h => h
 | .lit (.bool _), _, h => h
 | .lit (.int ..), _, h => h
 | .lit (.float ..), _, h => h
 | .lit (.complex ..), _, h => h
 | .lit (.string _), _, h => h
 | .lit (.pointer _), _, h => h
 | .lit (.map _), _, h => h
 | .lit (.chan _), _, h => h
 | .lit (.func ..), _, h => h
 | .lit .nilFunc, _, h => h
 | .lit .nilIface, _, h => h
 | .lit (.iface ..), _, h => h
 | .lit (.agg _), _, h => h
 | .lit (.tuple _), _, h => h
 | .any, _, h => h
 | .tp _, _, h => h
 | .ref .., _, h => h
 | .ptr .., _, h => h
 | .mp _, _, h => h
 | .mt .., _, h => h
 | .it _, _, h => h
 | .yl _, _, h => h
 | .fn .., _, h => h
 | .ifc .., _, h => h
theorem Ef {c : Ctx} {W : World} : ∀ (xs : List VV) {l : List Value}, Rl c W xs l → Rl c W (normL xs) l
 | [], _, h => h
 | x :: xs, _, ⟨u, us, e, h1, h2⟩ => ⟨u, us, e, Ee x h1, Ef xs h2⟩
theorem UG {c : Ctx} {W : World} {b : Nat} : ∀ (xs : List VV) {o : Nat}, Rc c W b o xs → Rc c W b o (normL xs)
 | [], _, h => h
 | x :: xs, _, ⟨u, e, h1, h2⟩ => ⟨u, e, Ee x h1, UG xs h2⟩
end
theorem ah.norm {P : Program} {G : Gb} {f : FuncId} {args : List VV} {r : PRes} (h : ah P G f (normL args) r) : ah P G f args r :=
 ⟨h.1, fun A W vs hA hG hv => h.2 A W vs hA hG (Ef _ hv)⟩
end Go.V
end
