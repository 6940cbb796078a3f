/- Part of a proof. -/
import Derived.Test.YtmhlghgbfmcdaaaGreatDoorS1bl
set_option linter.all false
set_option maxRecDepth 4000
set_option maxHeartbeats 40000000
section
namespace Go.V
open Go Go.Proofs IntKind
def rangeFR (f : FuncId) (cf : al) (jump : Code → RS → ER) (n : Nat) (s : RS) (f0 : FuncId) (first captured : List VV) (ps : Array Tmp) (asg bo : Code) : ER :=
 match cf f0 (first ++ [.yl (s.nx + 1)] ++ captured) ((s.H.put s.nx (some (.deferred (some [])))).put (s.nx + 1) (some (.loopF .ready none (tmL n s.st.tm) ps asg bo f))) (s.nx + 2) with
 | .ret _ H' nx' => match H'.get (s.nx + 1) with
  | some (.loopF .busy _ _ _ _ _ _) => .no (.text 1)
  | some (.loopF _ pe tm ps asg bo fn) => match pe with
   | none => .mk .normal { s with H := H'.put (s.nx + 1) (some (.loopF .exhausted pe tm ps asg bo fn)), nx := nx', df := .coll s.nx :: s.df }
   | some c => jump c { s with H := H'.put (s.nx + 1) (some (.loopF .exhausted pe tm ps asg bo fn)), nx := nx', df := .coll s.nx :: s.df }
  | _ => .no (.text 2)
 | .pan x H' nx' => .mk (.panic x) { s with H := H', nx := nx', df := .coll s.nx :: s.df }
 | .no w => .no w
def GoOk (P : Program) (G : Glob) (f n : Nat) (go : Code → RS → ER) : Prop := ∀ code s e s', go code s = .mk e s' → ∀ Q : VExit → St → Prop, Q e s'.st → VGo P G f n code Q s.st
theorem Jn {P : Program} {G : Glob} {cf : al} (hcf : CallOk P G cf) {f : FuncId} {jump : Code → RS → ER} {n : Nat} (hj : GoOk P G f n jump) {s s' : RS} {e : VExit} {g : Operand} {f0 : FuncId} {first captured : List VV} {ps : Array Tmp} {asg bo : Code}
  (hg : s.st.ρ G g = .fn (.func f0) first captured) (h : rangeFR f cf jump n s f0 first captured ps asg bo = .mk e s') {Q : VExit → St → Prop} (hq : Q e s'.st) : VGo P G f n (.rangeFunc g ps asg bo) Q s.st := by
 refine VGo.range hg ?_
 unfold rangeFR at h
 have eH : ((s.H.put s.nx (some (.deferred (some [])))).put (s.nx + 1) (some (.loopF .ready none (tmL n s.st.tm) ps asg bo f))).get = updH (updH s.st.H s.st.nx (.deferred (some []))) (s.st.nx + 1) (.loopF .ready none (tmL n s.st.tm) ps asg bo f) := by
  rw [ib, ib]; rfl
 split at h
 ·rename_i x H' nx' hc
  have hv := hcf.1 _ _ _ _ _ _ _ hc
  rw [eH] at hv
  refine aq.mono hv ?_ ?_
  ·rintro y H1 n1 ⟨_, rfl, rfl⟩
   split at h
   ·cases h
   ·rename_i st pe fz f8 fA fB gp hnb hl
    have e2 : ({ s with H := H'.put (s.nx + 1) (some (.loopF .exhausted pe fz f8 fA fB gp)), nx := n1, df := .coll s.nx :: s.df } : RS).st = { s.st with H := updH H'.get (s.st.nx + 1) (.loopF .exhausted pe fz f8 fA fB gp), nx := n1, df := .coll s.st.nx :: s.st.df } := by
     simp only [RS.st, ib]
    refine ⟨st, pe, fz, f8, fA, fB, gp, hl, hnb, ?_⟩
    split at h
    ·cases h
     show Q .normal _
     rw [← e2]; exact hq
    ·rename_i c
     show VGo P _ f n c Q _
     rw [← e2]
     exact hj c _ e s' h Q hq
   ·cases h
  ·intro y H1 n1 h; exact h.elim
 ·rename_i x H' nx' hc
  have hv := hcf.2 _ _ _ _ _ _ _ hc
  rw [eH] at hv
  cases h
  refine aq.mono hv ?_ ?_
  ·intro y H1 n1 h; exact h.elim
  ·rintro y H1 n1 ⟨rfl, rfl, rfl⟩
   exact hq
 ·cases h
noncomputable def rangeFF (f : FuncId) (cf : al) (jump : Code → RS → ER) (n : Nat) (s : RS) (ps : Array Tmp) (asg bo : Code) (code : Code) (x : VV) : ER := match x with
 | .fn (.func f0) first captured => rangeFR f cf jump n s f0 first captured ps asg bo
 | _ => .no (.code code)
noncomputable def goF (G : Glob) (f : FuncId) (run : RunR) (cf : al) (n : Nat) (k : Nat) : Code → RS → ER :=
 Nat.rec (motive := fun _ => Code → RS → ER) (fun code s => run none n code s) (fun _ ih code s => match code with
  | .seq a b => thenQ (ih a s) (fun s' => ih b s')
  | .block id a => blockQ (ih a s) id
  | .rangeFunc g ps asg bo => rangeFF f cf (fun c s => run none n c s) n s ps asg bo code (ρQ G s.tm g)
  | code => run none n code s) k
theorem ow {P : Program} {G : Glob} {f n : Nat} {run : RunR} {cf : al} (hrun : RunOk P G run) (hcf : CallOk P G cf) : ∀ (k : Nat), GoOk P G f n (goF G f run cf n k)
 | 0, code, s, e, s', h, Q, hq => VGo.of (hrun none n code s e s' h Q hq)
 | k + 1, code, s, e, s', h, Q, hq => by
  have ih := ow (f := f) (n := n) hrun hcf k
  have dflt : run none n code s = .mk e s' → VGo P G f n code Q s.st := fun h => VGo.of (hrun none n code s e s' h Q hq)
  cases code with
  | seq a b =>
   have h' : thenQ (goF G f run cf n k a s) (fun s' => goF G f run cf n k b s') = .mk e s' := h
   cases hs : goF G f run cf n k a s with
   | no w => rw [hs] at h'; cases h'
   | mk e1 s1 =>
    rw [hs] at h'
    cases e1 with
    | normal => exact VGo.seq (ih a s .normal s1 hs _ (ih b s1 e s' h' Q hq))
    | exit id => cases h'; exact VGo.seq (ih a s _ _ hs _ hq)
    | goto l => cases h'; exact VGo.seq (ih a s _ _ hs _ hq)
    | ret => cases h'; exact VGo.seq (ih a s _ _ hs _ hq)
    | panic x => cases h'; exact VGo.seq (ih a s _ _ hs _ hq)
  | block id a =>
   have h' : blockQ (goF G f run cf n k a s) id = .mk e s' := h
   cases hs : goF G f run cf n k a s with
   | no w => rw [hs] at h'; cases h'
   | mk e1 s1 =>
    rw [hs] at h'
    refine VGo.block (ih a s e1 s1 hs _ ?_)
    cases e1 with
    | normal => cases h'; exact hq
    | goto l => cases h'; exact hq
    | ret => cases h'; exact hq
    | panic x => cases h'; exact hq
    | exit id' =>
     have h'' : Bool.rec (motive := fun _ => ER) (.mk (.exit id') s1) (.mk .normal s1) (Nat.beq id' id) = .mk e s' := h'
     show (if id' = id then _ else _)
     by_cases hid : id' = id
     ·have hb : Nat.beq id' id = true := by simpa using hid
      rw [hb] at h''
      cases h''
      rw [if_pos hid]; exact hq
     ·have hb : Nat.beq id' id = false := by cases hq : Nat.beq id' id with | false => rfl | true => exact absurd (by simpa using hq) hid
      rw [hb] at h''
      cases h''
      rw [if_neg hid]; exact hq
  | rangeFunc g ps asg bo =>
   have h' : rangeFF f cf (fun c s => run none n c s) n s ps asg bo (.rangeFunc g ps asg bo) (ρQ G s.tm g) = .mk e s' := h
   rw [ρQ_eq] at h'
   unfold rangeFF at h'
   split at h'
   ·rename_i f0 first captured hg
    exact Jn hcf (fun c s e s' hs Q hq => VGo.of (hrun none n c s e s' hs Q hq)) hg h' hq
   ·cases h'
  | _ => exact dflt h
noncomputable def enterF (P : Program) (G : Glob) (run : RunR) (cf : al) (k : Nat) (f : FuncId) (fn : Func) (code : Code) (args : List VV) (H : Trie VObj) (nx : Nat) : CR :=
 match goF G f run cf fn.ntmps k code (RS.mk (listV args 0 .nil) H nx []) with
 | .mk .ret s => leaveR P G run fn f s s.df .ret s.H s.nx
 | .mk .normal s => leaveR P G run fn f s s.df .ret s.H s.nx
 | .mk (.panic x) s => leaveR P G run fn f s s.df (.pan x false) s.H s.nx
 | .mk _ _ => .no (.fn f)
 | .no w => .no w
noncomputable def ic (P : Program) (G : Glob) (run : RunR) (cf : al) (k : Nat) : al := fun f args H nx => match textQ P f with
 | some (fn, code) => Bool.rec (motive := fun _ => CR) (.no (.fn f)) (enterF P G run cf k f fn code args H nx) (Nat.ble args.length fn.ntmps)
 | none => .no (.fn f)
theorem uY {P : Program} {f : FuncId} {fn : Func} {code : Code} (h : textQ P f = some (fn, code)) : P.funcs[f]? = some fn ∧ fn.body = some code ∧ nameQ fn = true := by
 unfold textQ at h
 split at h
 ·cases h
 ·rename_i jM hf
  split at h
  ·cases h
  ·rename_i c1 hb
   split at h
   ·rename_i hn
    cases h
    exact ⟨hf, hb, hn⟩
   ·cases h
theorem EZ {P : Program} {G : Glob} {run : RunR} {cf : al} {k : Nat} (hrun : RunOk P G run) (hcf : CallOk P G cf) {f : FuncId} {args : List VV} {H : Trie VObj} {nx : Nat} {R Rp : VV → (Nat → Option VObj) → Nat → Prop}
  (h1 : ∀ x H' nx', ic P (G.at (some none)) run cf k f args H nx = .ret x H' nx' → R x H'.get nx') (h2 : ∀ x H' nx', ic P (G.at (some none)) run cf k f args H nx = .pan x H' nx' → Rp x H'.get nx') (h3 : ∀ w, ic P (G.at (some none)) run cf k f args H nx ≠ .no w) : aq P G f args H.get nx R Rp := by
 unfold ic at h1 h2 h3
 cases ht : textQ P f with
 | none => exact absurd (by simp only [ht]) (h3 (.fn f))
 | some p =>
  obtain ⟨fn, code⟩ := p
  obtain ⟨hf, hb, hn⟩ := uY ht
  cases hc : Nat.ble args.length fn.ntmps with
  | false => exact absurd (by simp only [ht, hc]) (h3 (.fn f))
  | true =>
   simp only [ht, hc] at h1 h2 h3
   simp only [Nat.ble_eq] at hc
   unfold enterF at h1 h2 h3
   rw [uZ] at h1 h2 h3
   cases hr : goF (G.at (some none)) f run cf fn.ntmps k code (RS.mk (Trie.ofList 0 args .nil) H nx []) with
   | no w => exact absurd (by rw [hr]) (h3 w)
   | mk e s =>
    rw [hr] at h1 h2 h3
    have body : OpenPostD P G fn R Rp e s.st → aq P G f args H.get nx R Rp := by
     intro hq
     have := ow (G := G.at (some none)) (f := f) (n := fn.ntmps) hrun hcf k code _ e s hr _ hq
     rw [argsR] at this
     exact aq.of_bodyGo (va hf hb hn) hf hb hc this
    cases e with
    | ret => exact body (jN hrun s.df .ret s.H s.nx h1 h2 h3)
    | normal => exact body (jN hrun s.df .ret s.H s.nx h1 h2 h3)
    | panic x => exact body (jN hrun s.df (.pan x false) s.H s.nx h1 h2 h3)
    | exit id => exact absurd rfl (h3 (.fn f))
    | goto l => exact absurd rfl (h3 (.fn f))
noncomputable def cfF (P : Program) (G : Glob) (run : RunR) (fs : List Nat) (k : Nat) : al := fun f args H nx => match fs.elem f with
 | true => ic P G run (cfQ P G run) k f args H nx
 | false => cfQ P G run f args H nx
theorem oy {P : Program} {G : Glob} {run : RunR} {fs : List Nat} {k : Nat} (hrun : RunOk P G run) : CallOk P G (cfF P (G.at (some none)) run fs k) := by
 have hcf : CallOk P G (cfQ P (G.at (some none)) run) := by rw [vb]; exact Jo hrun
 constructor
 ·intro f args H nx x H' nx' h
  unfold cfF at h
  split at h
  ·exact EZ hrun hcf (fun y H1 n1 e => by rw [h] at e; cases e; exact ⟨rfl, rfl, rfl⟩) (fun y H1 n1 e => by rw [h] at e; cases e) (fun w e => by rw [h] at e; cases e)
  ·exact hcf.1 _ _ _ _ _ _ _ h
 ·intro f args H nx x H' nx' h
  unfold cfF at h
  split at h
  ·exact EZ hrun hcf (fun y H1 n1 e => by rw [h] at e; cases e) (fun y H1 n1 e => by rw [h] at e; cases e; exact ⟨rfl, rfl, rfl⟩) (fun w e => by rw [h] at e; cases e)
  ·exact hcf.2 _ _ _ _ _ _ _ h
noncomputable def runF (P : Program) (G : Glob) (fs : List Nat) (tab : KTab) (k : Nat) : RunR :=
 Nat.rec (motive := fun _ => RunR) (fun _ _ _ _ => .no .fuel) (fun k ih ro n code s => bodyA k ih (cfT tab (cfF P (G.at (some none)) ih fs k)) ro n s (ccB P G code)) k
theorem Fa {P : Program} {G : Glob} {fs : List Nat} {tab : KTab} (hm : P.follows .mixedOrders = true) (ht : KTabOk P G tab) : ∀ (k : Nat), RunOk P G (runF P G fs tab k)
 | 0, _, _, _, _, _, _, h => by cases h
 | k + 1, ro, n, code, s, e, s', h => by
  intro Q hq
  have ih := Fa (G := G) (fs := fs) hm ht k
  exact Jp hm ih (vc ht (oy ih)) h hq
noncomputable def closedF (P : Program) (G : Glob) (fs : List Nat) (tab : KTab) (k : Nat) (f : FuncId) (args : List VV) : PRes ⊕ Why := pureQ (cfF P (G.at (some none)) (runF P G fs tab k) fs k) f args
theorem ah.closedF {P : Program} {G : Glob} {fs : List Nat} {tab : KTab} (hm : P.follows .mixedOrders = true) (ht : KTabOk P G tab) (k : Nat) {f : FuncId} {args : List VV} {r : PRes} (h : closedF P G fs tab k f args = .inl r) : ah P G f args r := by
 unfold Go.V.closedF at h
 rw [vd] at h
 exact oz (oy (Fa hm ht k)) h
theorem hmix : Tryz.prog.follows .mixedOrders = true := by kernel_rfl
def kB : VV := (VV.agg [(VV.lit (Value.int IntKind.i64 (Int.ofNat 1))), (VV.sl [(VV.lit (Value.int IntKind.i64 (Int.ofNat 5))), (VV.lit (Value.int IntKind.i64 (Int.ofNat 6)))] 2 Bool.false), (VV.sl [(VV.lit (Value.int IntKind.i64 (Int.ofNat 1))), (VV.lit (Value.bool Bool.true)), (VV.lit (Value.int IntKind.i64 (Int.ofNat 2))), (VV.lit (Value.int IntKind.i64 (Int.ofNat 2))), (VV.lit (Value.slice Option.none 0 0)), (VV.lit (Value.int IntKind.i64 (Int.ofNat 0))), (VV.lit (Value.bool Bool.false)), (VV.lit (Value.int IntKind.i64 (Int.ofNat 2))), (VV.lit (Value.int IntKind.i64 (Int.ofNat 3))), (VV.lit (Value.slice Option.none 0 0)), (VV.lit (Value.int IntKind.i64 (Int.ofNat 0))), (VV.lit (Value.bool Bool.true)), (VV.lit (Value.int IntKind.i64 (Int.ofNat 1))), (VV.lit (Value.int IntKind.i64 (Int.ofNat 2))), (VV.sl [(VV.lit (Value.int IntKind.i64 (Int.ofNat 1)))] 1 Bool.false), (VV.lit (Value.int IntKind.i64 (Int.ofNat 1))), (VV.lit (Value.bool Bool.false)), (VV.lit (Value.int IntKind.i64 (Int.ofNat 1))), (VV.lit (Value.int IntKind.i64 (Int.ofNat 3))), (VV.sl [(VV.lit (Value.int IntKind.i64 (Int.ofNat 0)))] 1 Bool.false)] 4 Bool.false)])
def kEnds : VV := (VV.tup [(VV.sl [(VV.lit (Value.int IntKind.i64 (Int.ofNat 2))), (VV.lit (Value.int IntKind.i64 (Int.ofNat 2))), (VV.lit (Value.int IntKind.i64 (Int.ofNat 2))), (VV.lit (Value.int IntKind.i64 (Int.ofNat 3))), (VV.lit (Value.int IntKind.i64 (Int.ofNat 3))), (VV.lit (Value.int IntKind.i64 (Int.ofNat 5))), (VV.lit (Value.int IntKind.i64 (Int.ofNat 3))), (VV.lit (Value.int IntKind.i64 (Int.ofNat 6)))] 4 Bool.false), (VV.lit (Value.int IntKind.i64 (Int.ofNat 0)))])
def kDone : VV := (VV.tup [(VV.agg [(VV.lit (Value.int IntKind.i64 (Int.ofNat 3))), (VV.lit (Value.int IntKind.i64 (Int.ofNat 5)))]), (VV.lit (Value.int IntKind.i64 (Int.ofNat 0)))])
def kLate : VV := (VV.tup [(VV.sl [(VV.lit (Value.int IntKind.i64 (Int.ofNat 1))), (VV.lit (Value.int IntKind.i64 (Int.ofNat 2)))] 2 Bool.false), (VV.lit (Value.int IntKind.i64 (Int.ofNat 0)))])
def kWaits : VV := (VV.tup [(VV.sl [(VV.lit (Value.int IntKind.i64 (Int.ofNat 0))), (VV.lit (Value.int IntKind.i64 (Int.ofNat 0))), (VV.lit (Value.int IntKind.i64 (Int.ofNat 1))), (VV.lit (Value.int IntKind.i64 (Int.ofNat 0)))] 4 Bool.false), (VV.lit (Value.int IntKind.i64 (Int.ofNat 0)))])
def kChain : VV := (VV.tup [(VV.sl [(VV.lit (Value.int IntKind.i64 (Int.ofNat 1))), (VV.lit (Value.int IntKind.i64 (Int.ofNat 3)))] 2 Bool.false), (VV.lit (Value.int IntKind.i64 (Int.ofNat 0)))])
def kSpare : VV := (VV.tup [(VV.lit (Value.int IntKind.i64 (Int.ofNat 1))), (VV.lit (Value.int IntKind.i64 (Int.ofNat 0)))])
def kBest : VV := (VV.tup [(VV.sl [(VV.lit (Value.int IntKind.i64 (Int.ofNat 0))), (VV.lit (Value.int IntKind.i64 (Int.ofNat 1))), (VV.lit (Value.int IntKind.i64 (Int.ofNat 0))), (VV.lit (Value.int IntKind.i64 (Int.ofNat 1)))] 4 Bool.false), (VV.lit (Value.int IntKind.i64 (Int.ofNat 6))), (VV.lit (Value.int IntKind.i64 (Int.ofNat 0)))])
def kCount : VV := (VV.tup [(VV.lit (Value.int IntKind.i64 (Int.ofNat 1))), (VV.lit (Value.int IntKind.i64 (Int.ofNat 0)))])
def kWho : VV := (VV.tup [(VV.sl [(VV.lit (Value.int IntKind.i64 (Int.ofNat 1)))] 1 Bool.false), (VV.lit (Value.int IntKind.i64 (Int.ofNat 0)))])
def kGive : VV := (VV.tup [(VV.lit (Value.int IntKind.i64 (Int.ofNat 1))), (VV.lit (Value.int IntKind.i64 (Int.ofNat 8))), (VV.lit (Value.int IntKind.i64 (Int.ofNat 0)))])
def kMore : VV := (VV.tup [(VV.lit (Value.int IntKind.i64 (Int.ofNat 5))), (VV.lit (Value.int IntKind.i64 (Int.ofNat 0)))])
def kLeast : VV := (VV.tup [(VV.lit (Value.int IntKind.i64 (Int.ofNat 2))), (VV.lit (Value.int IntKind.i64 (Int.ofNat 0)))])
def kRead : VV := (VV.tup [(VV.agg [(VV.lit (Value.int IntKind.i64 (Int.ofNat 0))), (VV.sl [(VV.lit (Value.int IntKind.i64 (Int.ofNat 0)))] 1 Bool.false), (VV.sl [(VV.lit (Value.int IntKind.i64 (Int.ofNat 0))), (VV.lit (Value.bool Bool.false)), (VV.lit (Value.int IntKind.i64 (Int.ofNat 1))), (VV.lit (Value.int IntKind.i64 (Int.ofNat 1))), (VV.lit (Value.slice Option.none 0 0))] 1 Bool.false)]), (VV.lit (Value.int IntKind.i64 (Int.ofNat 0)))])
theorem pB : ah Tryz.prog G0 64 [] (.tree kB) := ah.closedF (fs := []) (tab := []) hmix trivial 1000 (by kernel_rfl)
theorem pEnds : ah Tryz.prog G0 22 [kB, .sl [.lit (.int .i64 (0)), .lit (.int .i64 (1)), .lit (.int .i64 (0)), .lit (.int .i64 (1))] 4 false] (.tree kEnds) := ah.closedF (fs := []) (tab := []) hmix trivial 1000 (by kernel_rfl)
theorem pDone : ah Tryz.prog G0 23 [kB, .sl [.lit (.int .i64 (0)), .lit (.int .i64 (1)), .lit (.int .i64 (0)), .lit (.int .i64 (1))] 4 false, .lit (.int .i64 (0))] (.tree kDone) := ah.closedF (fs := []) (tab := []) hmix trivial 1000 (by kernel_rfl)
theorem pLate : ah Tryz.prog G0 36 [kB, .sl [.lit (.int .i64 (0)), .lit (.int .i64 (1)), .lit (.int .i64 (0)), .lit (.int .i64 (0))] 4 false] (.tree kLate) := ah.closedF (fs := []) (tab := []) hmix trivial 1000 (by kernel_rfl)
theorem pWaits : ah Tryz.prog G0 37 [kB, .sl [.lit (.int .i64 (0)), .lit (.int .i64 (1)), .lit (.int .i64 (0)), .lit (.int .i64 (1))] 4 false] (.tree kWaits) := ah.closedF (fs := []) (tab := []) hmix trivial 1000 (by kernel_rfl)
theorem pChain : ah Tryz.prog G0 42 [kB, .sl [.lit (.int .i64 (0)), .lit (.int .i64 (1)), .lit (.int .i64 (0)), .lit (.int .i64 (1))] 4 false] (.tree kChain) := ah.closedF (fs := []) (tab := []) hmix trivial 1000 (by kernel_rfl)
theorem pSpare : ah Tryz.prog G0 43 [kB, .sl [.lit (.int .i64 (0)), .lit (.int .i64 (1)), .lit (.int .i64 (0)), .lit (.int .i64 (1))] 4 false, .lit (.int .i64 (0))] (.tree kSpare) := ah.closedF (fs := []) (tab := []) hmix trivial 1000 (by kernel_rfl)
theorem pBest : ah Tryz.prog G0 51 [kB] (.tree kBest) := ah.closedF (fs := []) (tab := []) hmix trivial 1000 (by kernel_rfl)
theorem pCount : ah Tryz.prog G0 52 [kB] (.tree kCount) := ah.closedF (fs := []) (tab := []) hmix trivial 1000 (by kernel_rfl)
theorem pWho : ah Tryz.prog G0 55 [kB, .lit (.int .i64 (1))] (.tree kWho) := ah.closedF (fs := []) (tab := []) hmix trivial 1000 (by kernel_rfl)
theorem pGive : ah Tryz.prog G0 56 [kB, .sl [.lit (.int .i64 (0)), .lit (.int .i64 (0)), .lit (.int .i64 (0)), .lit (.int .i64 (0))] 4 false, .lit (.int .i64 (1))] (.tree kGive) := ah.closedF (fs := []) (tab := []) hmix trivial 1000 (by kernel_rfl)
theorem pMore : ah Tryz.prog G0 60 [kB] (.tree kMore) := ah.closedF (fs := []) (tab := []) hmix trivial 1000 (by kernel_rfl)
theorem pLeast : ah Tryz.prog G0 61 [kB, .lit (.int .i64 (5))] (.tree kLeast) := ah.closedF (fs := []) (tab := []) hmix trivial 1000 (by kernel_rfl)
theorem pRead : ah Tryz.prog G0 65 [.lit (.string ⟨⟨[98, 101, 110, 99, 104, 32, 48, 10, 98, 111, 97, 114, 100, 32, 48, 10, 115, 116, 114, 97, 105, 103, 104, 116, 32, 48, 32, 49, 32, 49, 32, 45, 10, 101, 110, 100, 32, 49, 55, 53, 10]⟩⟩)] (.tree kRead) := ah.closedF (fs := []) (tab := []) hmix trivial 1000 (by kernel_rfl)
def kTab : KTab := [
  (64, [], kB),
  (22, [kB, .sl [.lit (.int .i64 (0)), .lit (.int .i64 (1)), .lit (.int .i64 (0)), .lit (.int .i64 (1))] 4 false], kEnds),
  (23, [kB, .sl [.lit (.int .i64 (0)), .lit (.int .i64 (1)), .lit (.int .i64 (0)), .lit (.int .i64 (1))] 4 false, .lit (.int .i64 (0))], kDone),
  (36, [kB, .sl [.lit (.int .i64 (0)), .lit (.int .i64 (1)), .lit (.int .i64 (0)), .lit (.int .i64 (0))] 4 false], kLate),
  (37, [kB, .sl [.lit (.int .i64 (0)), .lit (.int .i64 (1)), .lit (.int .i64 (0)), .lit (.int .i64 (1))] 4 false], kWaits),
  (42, [kB, .sl [.lit (.int .i64 (0)), .lit (.int .i64 (1)), .lit (.int .i64 (0)), .lit (.int .i64 (1))] 4 false], kChain),
  (43, [kB, .sl [.lit (.int .i64 (0)), .lit (.int .i64 (1)), .lit (.int .i64 (0)), .lit (.int .i64 (1))] 4 false, .lit (.int .i64 (0))], kSpare),
  (51, [kB], kBest),
  (52, [kB], kCount),
  (55, [kB, .lit (.int .i64 (1))], kWho),
  (56, [kB, .sl [.lit (.int .i64 (0)), .lit (.int .i64 (0)), .lit (.int .i64 (0)), .lit (.int .i64 (0))] 4 false, .lit (.int .i64 (1))], kGive),
  (60, [kB], kMore),
  (61, [kB, .lit (.int .i64 (5))], kLeast),
  (65, [.lit (.string ⟨⟨[98, 101, 110, 99, 104, 32, 48, 10, 98, 111, 97, 114, 100, 32, 48, 10, 115, 116, 114, 97, 105, 103, 104, 116, 32, 48, 32, 49, 32, 49, 32, 45, 10, 101, 110, 100, 32, 49, 55, 53, 10]⟩⟩)], kRead)]
theorem kTabOk : KTabOk Tryz.prog G0 kTab := ⟨⟨by kernel_rfl, pB⟩, ⟨⟨by kernel_rfl, pEnds⟩, ⟨⟨by kernel_rfl, pDone⟩, ⟨⟨by kernel_rfl, pLate⟩, ⟨⟨by kernel_rfl, pWaits⟩, ⟨⟨by kernel_rfl, pChain⟩, ⟨⟨by kernel_rfl, pSpare⟩, ⟨⟨by kernel_rfl, pBest⟩, ⟨⟨by kernel_rfl, pCount⟩, ⟨⟨by kernel_rfl, pWho⟩, ⟨⟨by kernel_rfl, pGive⟩, ⟨⟨by kernel_rfl, pMore⟩, ⟨⟨by kernel_rfl, pLeast⟩, ⟨⟨by kernel_rfl, pRead⟩, trivial⟩⟩⟩⟩⟩⟩⟩⟩⟩⟩⟩⟩⟩⟩
theorem pKnown : ah Tryz.prog G0 20 [] (.tree (.lit (.bool true))) := ah.closedF (fs := []) hmix kTabOk 1000 (by kernel_rfl)
#print axioms pKnown
theorem jO : ah Tryz.prog G0 20 [] (.tree (.lit (.bool true))) := pKnown
def rW (dm : Int) (cz : Int) : Option (GSpan) := some (GSpan.mk dm cz)
theorem Jq (dm : Int) (cz : Int) (R : GSpan) (h : rW dm cz = some R) : ah Tryz.prog G0 34 [.lit (.int .i64 dm), .lit (.int .i64 cz)] (.tree (.agg (cGSpan R))) := by
 refine ah.runR mixed Tryz.call34 Tryz.func34 rfl (by simp [Tryz.ntmps34]; kernel_rfl) ?_
 obtain ⟨KF, h, kF, kN⟩ := bU h
 simp only [rW] at h
 try simp only [vz, tyf, nm, seval]
 refine bR (x := (.agg ([.lit (.int .i64 dm)] ++ [.lit (.int .i64 cz)]))) (by first | (simp only [Tryz.results34, resV, resL, resV1, bS, bT, uw, cr, tyf, nm, seval] <;> rfl) | rfl) ?_
 obtain rfl := kF _ h
 refine eR ?_ ?_
 ·simp only [tre, tytre, Bool.and_self]
 ·first | (simp only [outV, uw, eC, cr, tyf, nrm, aG, nm, seval] <;> rfl) | rfl
def o0 (ai : GBk) (xs : Int) (eT : Int) : Option (GBk) := cond (neB ai.Strokes) (cond (roomOk 56 (List.length ([] ++ ai.Strokes))) (Option.bind (getI ai.Strokes xs) (fun x1 => Option.bind (rW x1.Hours.Low (i64.wrap (x1.Hours.High + eT))) (fun r2 => Option.bind (getI ([] ++ ai.Strokes) xs) (fun x3 => some (GBk.mk ai.Apprentices ai.Boards (List.set ([] ++ ai.Strokes) (Int.toNat xs) (GBs.mk x3.Board x3.Round r2 x3.Needs))))))) none) none
theorem Fb (ai : GBk) (xs : Int) (eT : Int) (R : GBk) (h : o0 ai xs eT = some R) : ah Tryz.prog G0 49 [.agg (cGBk ai), .lit (.int .i64 xs), .lit (.int .i64 eT)] (.tree (.agg (cGBk R))) := by
 refine ah.runR mixed Tryz.call49 Tryz.func49 rfl (by simp [Tryz.ntmps49]; kernel_rfl) ?_
 obtain ⟨KF, h, kF, kN⟩ := bU h
 simp only [o0] at h
 cases g4 : (neB ai.Strokes)
 ·simp only [g4, hs] at h
  exact absurd h kN
 simp only [g4, hs] at h
 cases g5 : (roomOk 56 (List.length ([] ++ ai.Strokes)))
 ·simp only [g5, hs] at h
  exact absurd h kN
 simp only [g5, hs] at h
 simp only [vz, tyf, g4, g5, nm, seval]
 refine vf (w := 5) (enc := cGBs) (ys := ai.Strokes) (fun _ => rfl) oA oB Tryz.underlying23 g4 g5 ?_
 obtain ⟨x6, o7, h⟩ := optI h kN
 try simp only [hs] at h
 simp only [vz, tyf, g4, g5, (aK o7), nm, seval]
 refine oC (fun tm => tm 1 = .lit (.int .i64 xs) ∧ tm 2 = .lit (.int .i64 eT) ∧ tm 6 = .ptr 1 0 ∧ tm 7 = .ptr 3 0 ∧ tm 8 = .ptr 16 0 ∧ True) (by refine ⟨?_, ?_, ?_, ?_, ?_, trivial⟩ <;> first | (simp only [ua, nm, seval] <;> rfl) | rfl) ?_
 rintro tm ⟨e8, e9, aV, bc, bl, _⟩
 obtain ⟨jg, vg, h⟩ := optI h kN
 try simp only [hs] at h
 simp only [vz, tyf, g4, g5, (aK o7), e8, e9, aV, bc, bl, nm, seval]
 refine dktA (Jq _ _ _ vg) ?_
 refine bx (fun tm => tm 6 = .ptr 1 0 ∧ tm 7 = .ptr 3 0 ∧ tm 21 = .ref 7 0 (List.length ([] ++ ai.Strokes)) 5 (List.length ([] ++ ai.Strokes)) ∧ tm 22 = .lit (.int .i64 xs) ∧ tm 29 = .agg (cGSpan jg) ∧ True) (by refine ⟨aV, bc, ?_, ?_, ?_, trivial⟩ <;> first | (simp only [ua, e8, e9, aV, bc, bl, nm, seval] <;> rfl) | rfl) ?_
 rintro tm ⟨bL, bn, bh, bp, bI, _⟩
 obtain ⟨fR, eO, h⟩ := optI h kN
 try simp only [hs] at h
 have iV := setAF (w := 5) (enc := cGBs) 2 2 (fun _ => rfl) (by decide) eO
 have gb := setBF (w := 5) (enc := cGBs) 2 (cGSpan jg) (GBs.mk fR.Board fR.Round jg fR.Needs) (fun _ => rfl) (Nat.le_of_ble_eq_true rfl) eO rfl
 simp only [vz, tyf, nm, seval] at gb
 have rX := setC (w := 5) (enc := cGBs) ([] ++ ai.Strokes) (Int.toNat xs) (GBs.mk fR.Board fR.Round jg fR.Needs) (fun _ => rfl)
 simp only [vz, tyf, g4, g5, (aK o7), bL, bn, bh, bp, bI, (aP eO), iV, gb, rX, nm, seval]
 refine oD ⟨?_, ?_⟩
 ·simp only [gq, gu, cP, gv, and_true, true_and]
  repeat' (first | exact trivial | refine And.intro ?_ ?_ | rw [cP] | rw [gw] | exact Or.inl (by decide +kernel) | exact Or.inl (by dsimp only; decide +kernel) | (refine Or.inr ⟨?_, ?_⟩ <;> simp; done) | (refine Or.inr ⟨?_, ?_⟩ <;> simp <;> omega) | (refine Or.inr ⟨?_, ?_⟩ <;> simp [VEff.wr] <;> omega))
 try simp only [vz, tyf, g4, g5, (aK o7), bL, bn, bh, bp, bI, (aP eO), iV, gb, rX, nm, seval]
 refine bR (x := (.agg ([.lit (.int .i64 ai.Apprentices)] ++ [.sl (aa eI ai.Boards) (List.length ai.Boards) false] ++ [.ref 7 0 (List.length (List.set ([] ++ ai.Strokes) (Int.toNat xs) (GBs.mk fR.Board fR.Round jg fR.Needs))) 5 (List.length (List.set ([] ++ ai.Strokes) (Int.toNat xs) (GBs.mk fR.Board fR.Round jg fR.Needs)))]))) (by first | (simp only [Tryz.results49, resV, resL, resV1, bS, bT, uw, cr, tyf, g4, g5, (aK o7), bL, bn, bh, bp, bI, (aP eO), iV, gb, rX, nm, seval] <;> rfl) | rfl) ?_
 obtain rfl := kF _ h
 refine eR ?_ ?_
 ·simp only [tre, tytre, Bool.and_self]
 ·first | (simp only [outV, uw, eC, cr, tyf, nrm, aG, g4, g5, (aK o7), bL, bn, bh, bp, bI, (aP eO), iV, gb, rX, nm, seval] <;> rfl) | rfl
def rY (ai : GBk) (ag : List Int) (aC : Int) (ba : Int) : Option (Bool) := Option.bind (mF ai) (fun r1 => cond (r1) (Option.bind (rS ag) (fun r2 => cond (r2) (Option.bind (oc ai ag) (fun r3 => cond (r3) (Option.bind (oe ai aC) (fun r4 => cond (r4) (cond (decide (ba < 0)) (some true) (cond (decide (ba > 6)) (some true) (Option.bind (o0 ai aC ba) (fun r5 => Option.bind (mB r5) (fun r6 => cond (r6) (Option.bind (oE ai ag aC) (fun r7 => Option.bind (mP ai ag) (fun r8 => Option.bind (mP r5 ag) (fun r9 => cond (r7.2 != 0) (some false) (cond (decide (r7.1 < 0)) (some false) (cond (decide (r7.1 > 9)) (some false) (cond (decide (r8 < 1)) (some false) (cond (decide (r9 < r8)) (some false) (cond ((r9 == r8) == (decide (ba ≤ r7.1))) (some true) (some false)))))))))) (some true)))))) (some true))) (some true))) (some true))) (some true))
theorem Jr (ai : GBk) (ag : List Int) (aC : Int) (ba : Int) (R : Bool) (h : rY ai ag aC ba = some R) : ah Tryz.prog G0 9 [.agg (cGBk ai), .sl (aa eI ag) (List.length ag) false, .lit (.int .i64 aC), .lit (.int .i64 ba)] (.tree (.lit (.bool R))) := by
 refine ah.runR mixed Tryz.call9 Tryz.func9 rfl (by simp [Tryz.ntmps9]; kernel_rfl) ?_
 obtain ⟨KF, h, kF, kN⟩ := bU h
 simp only [rY] at h
 obtain ⟨la, um, h⟩ := optI h kN
 try simp only [hs] at h
 simp only [vz, tyf, nm, seval]
 refine ktA (IZ _ _ um) ?_
 refine bx (fun tm => tm 1 = .sl (aa eI ag) (List.length ag) false ∧ tm 2 = .lit (.int .i64 aC) ∧ tm 3 = .lit (.int .i64 ba) ∧ tm 4 = .ptr 0 0 ∧ tm 14 = .lit (.bool la) ∧ True) (by refine ⟨?_, ?_, ?_, ?_, ?_, trivial⟩ <;> first | (simp only [ua, nm, seval] <;> rfl) | rfl) ?_
 rintro tm ⟨bl, br, b3, bL, bn, _⟩
 cases bM : (la)
 ·simp only [bM, hs] at h
  simp only [vz, tyf, bl, br, b3, bL, bn, bM, nm, seval]
  refine ktree0 jO ?_
  try simp only [vz, tyf, bl, br, b3, bL, bn, bM, nm, seval]
  obtain rfl := kF _ h
  exact aZ Tryz.results9 rfl
 simp only [bM, hs] at h
 obtain ⟨Fc, lv, h⟩ := optI h kN
 try simp only [hs] at h
 simp only [vz, tyf, bl, br, b3, bL, bn, bM, nm, seval]
 refine ktA (Ja _ _ lv) ?_
 refine bx (fun tm => tm 1 = .sl (aa eI ag) (List.length ag) false ∧ tm 2 = .lit (.int .i64 aC) ∧ tm 3 = .lit (.int .i64 ba) ∧ tm 4 = .ptr 0 0 ∧ tm 16 = .lit (.bool false) ∧ tm 18 = .lit (.bool Fc) ∧ True) (by refine ⟨bl, br, b3, bL, ?_, ?_, trivial⟩ <;> first | (simp only [ua, bl, br, b3, bL, bn, bM, nm, seval] <;> rfl) | rfl) ?_
 rintro tm ⟨cR, cD, b4, bf, bu, bB, _⟩
 cases bz : (Fc)
 ·simp only [bz, hs] at h
  simp only [vz, tyf, bM, cR, cD, b4, bf, bu, bB, bz, nm, seval]
  refine ktree0 jO ?_
  try simp only [vz, tyf, bM, cR, cD, b4, bf, bu, bB, bz, nm, seval]
  obtain rfl := kF _ h
  exact aZ Tryz.results9 rfl
 simp only [bz, hs] at h
 obtain ⟨mN, uX, h⟩ := optI h kN
 try simp only [hs] at h
 simp only [vz, tyf, bM, cR, cD, b4, bf, bu, bB, bz, nm, seval]
 refine ktA (Jb _ _ _ uX) ?_
 refine bx (fun tm => tm 1 = .sl (aa eI ag) (List.length ag) false ∧ tm 2 = .lit (.int .i64 aC) ∧ tm 3 = .lit (.int .i64 ba) ∧ tm 4 = .ptr 0 0 ∧ tm 21 = .lit (.bool false) ∧ tm 24 = .lit (.bool mN) ∧ True) (by refine ⟨cR, cD, b4, bf, ?_, ?_, trivial⟩ <;> first | (simp only [ua, bM, cR, cD, b4, bf, bu, bB, bz, nm, seval] <;> rfl) | rfl) ?_
 rintro tm ⟨bA, cj, ca, dW, dZ, fM, _⟩
 cases eD : (mN)
 ·simp only [eD, hs] at h
  simp only [vz, tyf, bM, bz, bA, cj, ca, dW, dZ, fM, eD, nm, seval]
  refine ktree0 jO ?_
  try simp only [vz, tyf, bM, bz, bA, cj, ca, dW, dZ, fM, eD, nm, seval]
  obtain rfl := kF _ h
  exact aZ Tryz.results9 rfl
 simp only [eD, hs] at h
 obtain ⟨nI, tU, h⟩ := optI h kN
 try simp only [hs] at h
 simp only [vz, tyf, bM, bz, bA, cj, ca, dW, dZ, fM, eD, nm, seval]
 refine ktA (Jf _ _ _ tU) ?_
 refine bx (fun tm => tm 1 = .sl (aa eI ag) (List.length ag) false ∧ tm 2 = .lit (.int .i64 aC) ∧ tm 3 = .lit (.int .i64 ba) ∧ tm 4 = .ptr 0 0 ∧ tm 27 = .lit (.bool false) ∧ tm 30 = .lit (.bool nI) ∧ True) (by refine ⟨bA, cj, ca, dW, ?_, ?_, trivial⟩ <;> first | (simp only [ua, bM, bz, bA, cj, ca, dW, dZ, fM, eD, nm, seval] <;> rfl) | rfl) ?_
 rintro tm ⟨dL, dM, cU, cV, cb, ck, _⟩
 cases fS : (nI)
 ·simp only [fS, hs] at h
  simp only [vz, tyf, bM, bz, eD, dL, dM, cU, cV, cb, ck, fS, nm, seval]
  refine ktree0 jO ?_
  try simp only [vz, tyf, bM, bz, eD, dL, dM, cU, cV, cb, ck, fS, nm, seval]
  obtain rfl := kF _ h
  exact aZ Tryz.results9 rfl
 simp only [fS, hs] at h
 cases gN : (decide (ba < 0))
 ·simp only [gN, hs] at h
  cases cW : (decide (ba > 6))
  ·simp only [cW, hs] at h
   obtain ⟨nJ, rF, h⟩ := optI h kN
   try simp only [hs] at h
   simp only [vz, tyf, bM, bz, eD, dL, dM, cU, cV, cb, ck, fS, gN, cW, nm, seval]
   refine ktA (Fb _ _ _ _ rF) ?_
   refine bx (fun tm => tm 1 = .sl (aa eI ag) (List.length ag) false ∧ tm 2 = .lit (.int .i64 aC) ∧ tm 3 = .lit (.int .i64 ba) ∧ tm 4 = .ptr 0 0 ∧ tm 41 = .lit (.bool false) ∧ tm 45 = .agg (cGBk nJ) ∧ True) (by refine ⟨dL, dM, cU, cV, ?_, ?_, trivial⟩ <;> first | (simp only [ua, bM, bz, eD, dL, dM, cU, cV, cb, ck, fS, gN, cW, nm, seval] <;> rfl) | rfl) ?_
   rintro tm ⟨cO, dN, dO, eu, gI, gX, _⟩
   obtain ⟨oa, uB, h⟩ := optI h kN
   try simp only [hs] at h
   simp only [vz, tyf, bM, bz, eD, fS, gN, cW, cO, dN, dO, eu, gI, gX, nm, seval]
   refine ktA (EI _ _ uB) ?_
   refine bx (fun tm => tm 1 = .sl (aa eI ag) (List.length ag) false ∧ tm 2 = .lit (.int .i64 aC) ∧ tm 3 = .lit (.int .i64 ba) ∧ tm 4 = .ptr 0 0 ∧ tm 41 = .lit (.bool false) ∧ tm 46 = .lit (.bool oa) ∧ True) (by refine ⟨cO, dN, dO, eu, ?_, ?_, trivial⟩ <;> first | (simp only [ua, bM, bz, eD, fS, gN, cW, cO, dN, dO, eu, gI, gX, nm, seval] <;> rfl) | rfl) ?_
   rintro tm ⟨iK, jd, je, oF, rZ, sa, _⟩
   cases sb : (oa)
   ·simp only [sb, hs] at h
    have Fe := And.intro bM (And.intro bz (And.intro eD (And.intro fS (And.intro gN (And.intro cW sb)))))
    simp only [vz, tyf, Fe, iK, jd, je, oF, rZ, sa, nm, seval]
    refine ktree0 jO ?_
    try simp only [vz, tyf, Fe, iK, jd, je, oF, rZ, sa, nm, seval]
    obtain rfl := kF _ h
    exact aZ Tryz.results9 rfl
   simp only [sb, hs] at h
   have eU := And.intro bM (And.intro bz (And.intro eD (And.intro fS (And.intro gN (And.intro cW sb)))))
   obtain ⟨fT, Js, h⟩ := optI h kN
   try simp only [hs] at h
   simp only [vz, tyf, eU, iK, jd, je, oF, rZ, sa, nm, seval]
   refine ktA (Jt _ _ _ _ Js) ?_
   refine bx (fun tm => tm 1 = .sl (aa eI ag) (List.length ag) false ∧ tm 2 = .lit (.int .i64 aC) ∧ tm 3 = .lit (.int .i64 ba) ∧ tm 4 = .ptr 0 0 ∧ tm 54 = .tup [.lit (.int .i64 fT.1), .lit (.int .i64 fT.2)] ∧ True) (by refine ⟨iK, jd, je, oF, ?_, trivial⟩ <;> first | (simp only [ua, eU, iK, jd, je, oF, rZ, sa, nm, seval] <;> rfl) | rfl) ?_
   rintro tm ⟨mQ, vh, vi, jh, jP, _⟩
   simp only [vz, tyf, eU, mQ, vh, vi, jh, jP, nm, seval]
   refine nV (fun tm => tm 1 = .sl (aa eI ag) (List.length ag) false ∧ tm 2 = .lit (.int .i64 aC) ∧ tm 3 = .lit (.int .i64 ba) ∧ tm 4 = .ptr 0 0 ∧ tm 9 = .lit (.int .i64 fT.1) ∧ tm 10 = .lit (.int .i64 fT.2) ∧ True) (by refine ⟨mQ, vh, vi, jh, ?_, ?_, trivial⟩ <;> first | (simp only [ua, eU, mQ, vh, vi, jh, jP, nm, seval] <;> rfl) | rfl) ?_
   rintro tm ⟨jQ, jR, jS, jT, vj, vk, _⟩
   obtain ⟨mR, Ju, h⟩ := optI h kN
   try simp only [hs] at h
   simp only [vz, tyf, eU, jQ, jR, jS, jT, vj, vk, nm, seval]
   refine dktA (Ff _ _ _ Ju) ?_
   refine bx (fun tm => tm 1 = .sl (aa eI ag) (List.length ag) false ∧ tm 2 = .lit (.int .i64 aC) ∧ tm 3 = .lit (.int .i64 ba) ∧ tm 4 = .ptr 0 0 ∧ tm 9 = .lit (.int .i64 fT.1) ∧ tm 10 = .lit (.int .i64 fT.2) ∧ tm 59 = .lit (.int .i64 mR) ∧ True) (by refine ⟨jQ, jR, jS, jT, vj, vk, ?_, trivial⟩ <;> first | (simp only [ua, eU, jQ, jR, jS, jT, vj, vk, nm, seval] <;> rfl) | rfl) ?_
   rintro tm ⟨vl, Fg, vm, Fh, vn, vo, vp, _⟩
   simp only [vz, tyf, eU, vl, Fg, vm, Fh, vn, vo, vp, nm, seval]
   refine dktA (Fb _ _ _ _ rF) ?_
   refine bx (fun tm => tm 1 = .sl (aa eI ag) (List.length ag) false ∧ tm 3 = .lit (.int .i64 ba) ∧ tm 9 = .lit (.int .i64 fT.1) ∧ tm 10 = .lit (.int .i64 fT.2) ∧ tm 59 = .lit (.int .i64 mR) ∧ tm 63 = .agg (cGBk nJ) ∧ True) (by refine ⟨vl, vm, vn, vo, vp, ?_, trivial⟩ <;> first | (simp only [ua, eU, vl, Fg, vm, Fh, vn, vo, vp, nm, seval] <;> rfl) | rfl) ?_
   rintro tm ⟨Fi, vq, vr, vt, vu, Fj, _⟩
   obtain ⟨vv, Jv, h⟩ := optI h kN
   try simp only [hs] at h
   simp only [vz, tyf, eU, Fi, vq, vr, vt, vu, Fj, nm, seval]
   refine dktA (Ff _ _ _ Jv) ?_
   refine bx (fun tm => tm 3 = .lit (.int .i64 ba) ∧ tm 9 = .lit (.int .i64 fT.1) ∧ tm 10 = .lit (.int .i64 fT.2) ∧ tm 59 = .lit (.int .i64 mR) ∧ tm 65 = .lit (.int .i64 vv) ∧ True) (by refine ⟨vq, vr, vt, vu, ?_, trivial⟩ <;> first | (simp only [ua, eU, Fi, vq, vr, vt, vu, Fj, nm, seval] <;> rfl) | rfl) ?_
   rintro tm ⟨jU, jV, jW, jX, eV, _⟩
   cases ec : (fT.2 != 0)
   ·simp only [ec, hs] at h
    cases eW : (decide (fT.1 < 0))
    ·simp only [eW, hs] at h
     cases fC : (decide (fT.1 > 9))
     ·simp only [fC, hs] at h
      cases gx : (decide (mR < 1))
      ·simp only [gx, hs] at h
       cases ie : (decide (vv < mR))
       ·simp only [ie, hs] at h
        cases ji : ((vv == mR) == (decide (ba ≤ fT.1)))
        ·simp only [ji, hs] at h
         have vw := And.intro eU (And.intro ec (And.intro eW (And.intro fC (And.intro gx (And.intro ie ji)))))
         try simp only [vz, tyf, vw, jU, jV, jW, jX, eV, nm, seval]
         obtain rfl := kF _ h
         exact aZ Tryz.results9 rfl
        simp only [ji, hs] at h
        have oG := And.intro eU (And.intro ec (And.intro eW (And.intro fC (And.intro gx (And.intro ie ji)))))
        simp only [vz, tyf, oG, jU, jV, jW, jX, eV, nm, seval]
        refine ktree0 jO ?_
        try simp only [vz, tyf, oG, jU, jV, jW, jX, eV, nm, seval]
        obtain rfl := kF _ h
        exact aZ Tryz.results9 rfl
       simp only [ie, hs] at h
       try simp only [vz, tyf, eU, jU, jV, jW, jX, eV, ec, eW, fC, gx, ie, nm, seval]
       obtain rfl := kF _ h
       exact aZ Tryz.results9 rfl
      simp only [gx, hs] at h
      try simp only [vz, tyf, eU, jU, jV, jW, jX, eV, ec, eW, fC, gx, nm, seval]
      obtain rfl := kF _ h
      exact aZ Tryz.results9 rfl
     simp only [fC, hs] at h
     try simp only [vz, tyf, eU, jU, jV, jW, jX, eV, ec, eW, fC, nm, seval]
     obtain rfl := kF _ h
     exact aZ Tryz.results9 rfl
    simp only [eW, hs] at h
    try simp only [vz, tyf, eU, jU, jV, jW, jX, eV, ec, eW, nm, seval]
    obtain rfl := kF _ h
    exact aZ Tryz.results9 rfl
   simp only [ec, hs] at h
   try simp only [vz, tyf, eU, jU, jV, jW, jX, eV, ec, nm, seval]
   obtain rfl := kF _ h
   exact aZ Tryz.results9 rfl
  simp only [cW, hs] at h
  simp only [vz, tyf, bM, bz, eD, dL, dM, cU, cV, cb, ck, fS, gN, cW, nm, seval]
  refine ktree0 jO ?_
  try simp only [vz, tyf, bM, bz, eD, dL, dM, cU, cV, cb, ck, fS, gN, cW, nm, seval]
  obtain rfl := kF _ h
  exact aZ Tryz.results9 rfl
 simp only [gN, hs] at h
 simp only [vz, tyf, bM, bz, eD, dL, dM, cU, cV, cb, ck, fS, gN, nm, seval]
 refine ktree0 jO ?_
 try simp only [vz, tyf, bM, bz, eD, dL, dM, cU, cV, cb, ck, fS, gN, nm, seval]
 obtain rfl := kF _ h
 exact aZ Tryz.results9 rfl
theorem vx {b : GBk} (h : Len b) {s : Nat} {x : GBs} (hx : b.Strokes[s]? = some x) (k : Int) : Len (bump b s x k) := by
 refine ⟨h.bo, by rw [lx]; exact h.st, fun y hy => ?_⟩
 obtain ⟨i, hi⟩ := List.getElem?_of_mem hy
 rw [oH] at hi
 split at hi
 ·cases hi; exact h.nd x (List.mem_of_getElem? hx)
 ·exact h.nd y (List.mem_of_getElem? hi)
theorem vy {b : GBk} {s : Nat} {x : GBs} (hx : b.Strokes[s]? = some x) (k : Int) {pl : List Int} (hP : POk b pl) : POk (bump b s x k) pl := by
 refine ⟨by rw [lx]; exact hP.len, fun i y h hy hh => ?_⟩
 rw [oH] at hy
 split at hy
 ·rename_i e
  cases hy
  exact hP.may i x h (e.1 ▸ hx) hh
 ·exact hP.may i y h hy hh
theorem Jw (b : GBk) (pl : List Int) (s by' : Int) (hb : lenOk b.Boards = true ∧ lenOk b.Strokes = true ∧ ∀ y ∈ b.Strokes, lenOk y.Needs = true) (hp : lenOk pl = true) : rY b pl s by' = some true := by
 have hL := Len.of hb
 unfold rY
 rcases Jx hL with e | ⟨e, hB⟩
 ·rw [e]; rfl
 have hns := hB.ns
 simp only [e, Option.bind_some, cond_true, rS, uM hL, uN hL]
 cases (decide ((pl.length : Int) ≤ 9)) with
 | false => rfl
 | true =>
 cases hP : planB b pl with
 | false => rfl
 | true =>
 cases hI : inB 0 ((b.Strokes.length : Int) - 1) s with
 | false => rfl
 | true =>
 have hi := og.1 hI
 simp only [cond_true]
 by_cases b0 : by' < 0
 ·rw [decide_eq_true b0]; rfl
 by_cases b1 : by' > 6
 ·rw [decide_eq_false b0, decide_eq_true b1]; rfl
 rw [decide_eq_false b0, decide_eq_false b1]
 obtain ⟨x, g1, hx⟩ := getS (b := b) (s := s) hi.1 (by omega)
 have hx' := (hB.s hx).hr
 have hlong : o0 b s by' = some (bump b s.toNat x by') := by
  unfold o0
  rw [oI hns.1, cond_true, List.nil_append, room56 (by omega), cond_true, g1]
  simp only [Option.bind_some, rW]
  rw [fP (by omega) (by omega)]
  rfl
 have Fk := vx hL hx by'
 simp only [cond_false, hlong, Option.bind_some, ET Fk]
 cases v3 : benchB (bump b s.toNat x by') with
 | false => rfl
 | true =>
 have hBb := rV.2 hB
 have Jy : planB (bump b s.toNat x by') pl = true := oh.2 (vy hx by' (oh.1 hP))
 rw [cond_true, v5 hL hBb hP hi.1 hx]
 simp only [Option.bind_some]
 rw [oJ hL hBb hP]
 simp only [Option.bind_some]
 rw [oJ Fk v3 Jy]
 have hsp := spF_b (b := b) (pl := pl) (s := s.toNat) (x := x) 9 0
 have oL := oM (b := b) (pl := pl) (s := s.toNat) (x := x) 9 0
 have ht := TK_b hB pl
 have hm := ly hB hx pl (Int.le_refl 0) (show (0 : Int) ≤ by' by omega)
 rw [lz hx] at hm
 have z0 : ((0 : Int) != 0) = false := rfl
 simp only [Option.bind_some, z0, cond_false]
 rw [decide_eq_false (by omega), decide_eq_false (by omega), decide_eq_false (by omega), decide_eq_false (by omega)]
 simp only [cond_false]
 generalize hn : spF b pl s.toNat x 9 0 = n at *
 have key : ((TK (bump b s.toNat x by') pl == TK b pl) == decide (by' ≤ n)) = true := by
  by_cases h : by' ≤ n
  ·have : TK (bump b s.toNat x by') pl = TK b pl := by
    by_cases e0 : by' = 0
    ·rw [e0, lz hx]
    ·exact oL.1 by' (by omega) h
   rw [decide_eq_true h]
   simp [this]
  ·have h1 := oL.2 (by omega)
   have h2 := ly hB hx pl (show (0 : Int) ≤ n + 1 by omega) (show n + 1 ≤ by' by omega)
   have h3 := ly hB hx pl (Int.le_refl 0) (show (0 : Int) ≤ n + 1 by omega)
   rw [lz hx] at h3
   have : TK (bump b s.toNat x by') pl ≠ TK b pl := by omega
   rw [decide_eq_false h]
   simp [this]
 rw [key]
 rfl
end Go.V
end
