/- Part of a proof. -/
import Derived.Test.YtmhlghgbfmcdaaaGreatDoorG1bm
set_option linter.all false
set_option maxRecDepth 4000
set_option maxHeartbeats 40000000
section
namespace Go.V
open Go Go.Proofs
def rangeFR (f : FuncId) (cf : aA) (jump : Code → RS → ER) (n : Nat) (s : RS) (f0 : FuncId) (first captured : List VV) (ps : Array Tmp) (asg bo : Code) : ER :=
 match cf f0 (first ++ [.yl (s.nx + 1)] ++ captured) ((s.H.put s.nx (some (.deferred (some [])))).put (s.nx + 1) (some (.loopF .ready none (tmL n s.st.tm) ps asg bo f))) (s.nx + 2) with
 | .ret _ H' nx' => match H'.get (s.nx + 1) with
  | some (.loopF .busy _ _ _ _ _ _) => .no (.text 1)
  | some (.loopF _ pe tm ps asg bo fn) => match pe with
   | none => .mk .normal { s with H := H'.put (s.nx + 1) (some (.loopF .exhausted pe tm ps asg bo fn)), nx := nx', df := .coll s.nx :: s.df }
   | some c => jump c { s with H := H'.put (s.nx + 1) (some (.loopF .exhausted pe tm ps asg bo fn)), nx := nx', df := .coll s.nx :: s.df }
  | _ => .no (.text 2)
 | .pan x H' nx' => .mk (.panic x) { s with H := H', nx := nx', df := .coll s.nx :: s.df }
 | .no w => .no w
def GoOk (P : Program) (G : Glob) (f n : Nat) (go : Code → RS → ER) : Prop := ∀ code s e s', go code s = .mk e s' → ∀ Q : VExit → St → Prop, Q e s'.st → VGo P G f n code Q s.st
theorem Rh {P : Program} {G : Glob} {cf : aA} (hcf : CallOk P G cf) {f : FuncId} {jump : Code → RS → ER} {n : Nat} (hj : GoOk P G f n jump) {s s' : RS} {e : VExit} {g : Operand} {f0 : FuncId} {first captured : List VV} {ps : Array Tmp} {asg bo : Code}
  (hg : s.st.ρ G g = .fn (.func f0) first captured) (h : rangeFR f cf jump n s f0 first captured ps asg bo = .mk e s') {Q : VExit → St → Prop} (hq : Q e s'.st) : VGo P G f n (.rangeFunc g ps asg bo) Q s.st := by
 refine VGo.range hg ?_
 unfold rangeFR at h
 have eH : ((s.H.put s.nx (some (.deferred (some [])))).put (s.nx + 1) (some (.loopF .ready none (tmL n s.st.tm) ps asg bo f))).get = updH (updH s.st.H s.st.nx (.deferred (some []))) (s.st.nx + 1) (.loopF .ready none (tmL n s.st.tm) ps asg bo f) := by
  rw [iM, iM]; rfl
 split at h
 ·rename_i x H' nx' hc
  have hv := hcf.1 _ _ _ _ _ _ _ hc
  rw [eH] at hv
  refine aq.mono hv ?_ ?_
  ·rintro y H1 n1 ⟨_, rfl, rfl⟩
   split at h
   ·cases h
   ·rename_i st pe fK fL fM fN gy hnb hl
    have e2 : ({ s with H := H'.put (s.nx + 1) (some (.loopF .exhausted pe fK fL fM fN gy)), nx := n1, df := .coll s.nx :: s.df } : RS).st = { s.st with H := updH H'.get (s.st.nx + 1) (.loopF .exhausted pe fK fL fM fN gy), nx := n1, df := .coll s.st.nx :: s.st.df } := by
     simp only [RS.st, iM]
    refine ⟨st, pe, fK, fL, fM, fN, gy, hl, hnb, ?_⟩
    split at h
    ·cases h
     show Q .normal _
     rw [← e2]; exact hq
    ·rename_i c
     show VGo P _ f n c Q _
     rw [← e2]
     exact hj c _ e s' h Q hq
   ·cases h
  ·intro y H1 n1 h; exact h.elim
 ·rename_i x H' nx' hc
  have hv := hcf.2 _ _ _ _ _ _ _ hc
  rw [eH] at hv
  cases h
  refine aq.mono hv ?_ ?_
  ·intro y H1 n1 h; exact h.elim
  ·rintro y H1 n1 ⟨rfl, rfl, rfl⟩
   exact hq
 ·cases h
noncomputable def rangeFF (f : FuncId) (cf : aA) (jump : Code → RS → ER) (n : Nat) (s : RS) (ps : Array Tmp) (asg bo : Code) (code : Code) (x : VV) : ER := match x with
 | .fn (.func f0) first captured => rangeFR f cf jump n s f0 first captured ps asg bo
 | _ => .no (.code code)
noncomputable def goF (G : Glob) (f : FuncId) (run : RunR) (cf : aA) (n : Nat) (k : Nat) : Code → RS → ER :=
 Nat.rec (motive := fun _ => Code → RS → ER) (fun code s => run none n code s) (fun _ ih code s => match code with
  | .seq a b => thenQ (ih a s) (fun s' => ih b s')
  | .block id a => blockQ (ih a s) id
  | .rangeFunc g ps asg bo => rangeFF f cf (fun c s => run none n c s) n s ps asg bo code (ρQ G s.tm g)
  | code => run none n code s) k
theorem t7 {P : Program} {G : Glob} {f n : Nat} {run : RunR} {cf : aA} (hrun : RunOk P G run) (hcf : CallOk P G cf) : ∀ (k : Nat), GoOk P G f n (goF G f run cf n k)
 | 0, code, s, e, s', h, Q, hq => VGo.of (hrun none n code s e s' h Q hq)
 | k + 1, code, s, e, s', h, Q, hq => by
  have ih := t7 (f := f) (n := n) hrun hcf k
  have dflt : run none n code s = .mk e s' → VGo P G f n code Q s.st := fun h => VGo.of (hrun none n code s e s' h Q hq)
  cases code with
  | seq a b =>
   have h' : thenQ (goF G f run cf n k a s) (fun s' => goF G f run cf n k b s') = .mk e s' := h
   cases hs : goF G f run cf n k a s with
   | no w => rw [hs] at h'; cases h'
   | mk e1 s1 =>
    rw [hs] at h'
    cases e1 with
    | normal => exact VGo.seq (ih a s .normal s1 hs _ (ih b s1 e s' h' Q hq))
    | exit id => cases h'; exact VGo.seq (ih a s _ _ hs _ hq)
    | goto l => cases h'; exact VGo.seq (ih a s _ _ hs _ hq)
    | ret => cases h'; exact VGo.seq (ih a s _ _ hs _ hq)
    | panic x => cases h'; exact VGo.seq (ih a s _ _ hs _ hq)
  | block id a =>
   have h' : blockQ (goF G f run cf n k a s) id = .mk e s' := h
   cases hs : goF G f run cf n k a s with
   | no w => rw [hs] at h'; cases h'
   | mk e1 s1 =>
    rw [hs] at h'
    refine VGo.block (ih a s e1 s1 hs _ ?_)
    cases e1 with
    | normal => cases h'; exact hq
    | goto l => cases h'; exact hq
    | ret => cases h'; exact hq
    | panic x => cases h'; exact hq
    | exit id' =>
     have h'' : Bool.rec (motive := fun _ => ER) (.mk (.exit id') s1) (.mk .normal s1) (Nat.beq id' id) = .mk e s' := h'
     show (if id' = id then _ else _)
     by_cases hid : id' = id
     ·have hb : Nat.beq id' id = true := by simpa using hid
      rw [hb] at h''
      cases h''
      rw [if_pos hid]; exact hq
     ·have hb : Nat.beq id' id = false := by cases hq : Nat.beq id' id with | false => rfl | true => exact absurd (by simpa using hq) hid
      rw [hb] at h''
      cases h''
      rw [if_neg hid]; exact hq
  | rangeFunc g ps asg bo =>
   have h' : rangeFF f cf (fun c s => run none n c s) n s ps asg bo (.rangeFunc g ps asg bo) (ρQ G s.tm g) = .mk e s' := h
   rw [ρQ_eq] at h'
   unfold rangeFF at h'
   split at h'
   ·rename_i f0 first captured hg
    exact Rh hcf (fun c s e s' hs Q hq => VGo.of (hrun none n c s e s' hs Q hq)) hg h' hq
   ·cases h'
  | _ => exact dflt h
noncomputable def enterF (P : Program) (G : Glob) (run : RunR) (cf : aA) (k : Nat) (f : FuncId) (fn : Func) (code : Code) (args : List VV) (H : Trie VObj) (nx : Nat) : CR :=
 match goF G f run cf fn.ntmps k code (RS.mk (listV args 0 .nil) H nx []) with
 | .mk .ret s => leaveR P G run fn f s s.df .ret s.H s.nx
 | .mk .normal s => leaveR P G run fn f s s.df .ret s.H s.nx
 | .mk (.panic x) s => leaveR P G run fn f s s.df (.pan x false) s.H s.nx
 | .mk _ _ => .no (.fn f)
 | .no w => .no w
noncomputable def iQ (P : Program) (G : Glob) (run : RunR) (cf : aA) (k : Nat) : aA := fun f args H nx => match textQ P f with
 | some (fn, code) => Bool.rec (motive := fun _ => CR) (.no (.fn f)) (enterF P G run cf k f fn code args H nx) (Nat.ble args.length fn.ntmps)
 | none => .no (.fn f)
theorem Ho {P : Program} {f : FuncId} {fn : Func} {code : Code} (h : textQ P f = some (fn, code)) : P.funcs[f]? = some fn ∧ fn.body = some code ∧ nameQ fn = true := by
 unfold textQ at h
 split at h
 ·cases h
 ·rename_i lj hf
  split at h
  ·cases h
  ·rename_i c1 hb
   split at h
   ·rename_i hn
    cases h
    exact ⟨hf, hb, hn⟩
   ·cases h
theorem Le {P : Program} {G : Glob} {run : RunR} {cf : aA} {k : Nat} (hrun : RunOk P G run) (hcf : CallOk P G cf) {f : FuncId} {args : List VV} {H : Trie VObj} {nx : Nat} {R Rp : VV → (Nat → Option VObj) → Nat → Prop}
  (h1 : ∀ x H' nx', iQ P (G.at (some none)) run cf k f args H nx = .ret x H' nx' → R x H'.get nx') (h2 : ∀ x H' nx', iQ P (G.at (some none)) run cf k f args H nx = .pan x H' nx' → Rp x H'.get nx') (h3 : ∀ w, iQ P (G.at (some none)) run cf k f args H nx ≠ .no w) : aq P G f args H.get nx R Rp := by
 unfold iQ at h1 h2 h3
 cases ht : textQ P f with
 | none => exact absurd (by simp only [ht]) (h3 (.fn f))
 | some p =>
  obtain ⟨fn, code⟩ := p
  obtain ⟨hf, hb, hn⟩ := Ho ht
  cases hc : Nat.ble args.length fn.ntmps with
  | false => exact absurd (by simp only [ht, hc]) (h3 (.fn f))
  | true =>
   simp only [ht, hc] at h1 h2 h3
   simp only [Nat.ble_eq] at hc
   unfold enterF at h1 h2 h3
   rw [vE] at h1 h2 h3
   cases hr : goF (G.at (some none)) f run cf fn.ntmps k code (RS.mk (Trie.ofList 0 args .nil) H nx []) with
   | no w => exact absurd (by rw [hr]) (h3 w)
   | mk e s =>
    rw [hr] at h1 h2 h3
    have body : OpenPostD P G fn R Rp e s.st → aq P G f args H.get nx R Rp := by
     intro hq
     have := t7 (G := G.at (some none)) (f := f) (n := fn.ntmps) hrun hcf k code _ e s hr _ hq
     rw [argsR] at this
     exact aq.of_bodyGo (FT hf hb hn) hf hb hc this
    cases e with
    | ret => exact body (ll hrun s.df .ret s.H s.nx h1 h2 h3)
    | normal => exact body (ll hrun s.df .ret s.H s.nx h1 h2 h3)
    | panic x => exact body (ll hrun s.df (.pan x false) s.H s.nx h1 h2 h3)
    | exit id => exact absurd rfl (h3 (.fn f))
    | goto l => exact absurd rfl (h3 (.fn f))
noncomputable def cfF (P : Program) (G : Glob) (run : RunR) (fs : List Nat) (k : Nat) : aA := fun f args H nx => match fs.elem f with
 | true => iQ P G run (cfQ P G run) k f args H nx
 | false => cfQ P G run f args H nx
theorem t8 {P : Program} {G : Glob} {run : RunR} {fs : List Nat} {k : Nat} (hrun : RunOk P G run) : CallOk P G (cfF P (G.at (some none)) run fs k) := by
 have hcf : CallOk P G (cfQ P (G.at (some none)) run) := by rw [Gf]; exact PW hrun
 constructor
 ·intro f args H nx x H' nx' h
  unfold cfF at h
  split at h
  ·exact Le hrun hcf (fun y H1 n1 e => by rw [h] at e; cases e; exact ⟨rfl, rfl, rfl⟩) (fun y H1 n1 e => by rw [h] at e; cases e) (fun w e => by rw [h] at e; cases e)
  ·exact hcf.1 _ _ _ _ _ _ _ h
 ·intro f args H nx x H' nx' h
  unfold cfF at h
  split at h
  ·exact Le hrun hcf (fun y H1 n1 e => by rw [h] at e; cases e) (fun y H1 n1 e => by rw [h] at e; cases e; exact ⟨rfl, rfl, rfl⟩) (fun w e => by rw [h] at e; cases e)
  ·exact hcf.2 _ _ _ _ _ _ _ h
noncomputable def runF (P : Program) (G : Glob) (fs : List Nat) (tab : KTab) (k : Nat) : RunR :=
 Nat.rec (motive := fun _ => RunR) (fun _ _ _ _ => .no .fuel) (fun k ih ro n code s => bodyA k ih (cfT tab (cfF P (G.at (some none)) ih fs k)) ro n s (ccB P G code)) k
theorem Lf {P : Program} {G : Glob} {fs : List Nat} {tab : KTab} (hm : P.follows .mixedOrders = true) (ht : KTabOk P G tab) : ∀ (k : Nat), RunOk P G (runF P G fs tab k)
 | 0, _, _, _, _, _, _, h => by cases h
 | k + 1, ro, n, code, s, e, s', h => by
  intro Q hq
  have ih := Lf (G := G) (fs := fs) hm ht k
  exact Rg hm ih (Gn ht (t8 ih)) h hq
noncomputable def closedF (P : Program) (G : Glob) (fs : List Nat) (tab : KTab) (k : Nat) (f : FuncId) (args : List VV) : PRes ⊕ Why := pureQ (cfF P (G.at (some none)) (runF P G fs tab k) fs k) f args
theorem aj.closedF {P : Program} {G : Glob} {fs : List Nat} {tab : KTab} (hm : P.follows .mixedOrders = true) (ht : KTabOk P G tab) (k : Nat) {f : FuncId} {args : List VV} {r : PRes} (h : closedF P G fs tab k f args = .inl r) : aj P G f args r := by
 unfold Go.V.closedF at h
 rw [Gd] at h
 exact sN (t8 (Lf hm ht k)) h
theorem hmix : Tryz.prog.follows .mixedOrders = true := by kernel_rfl
def kB : VV := (VV.agg [(VV.lit (Value.int IntKind.i64 (Int.ofNat 1))), (VV.sl [(VV.lit (Value.int IntKind.i64 (Int.ofNat 5))), (VV.lit (Value.int IntKind.i64 (Int.ofNat 6)))] 2 Bool.false), (VV.sl [(VV.lit (Value.int IntKind.i64 (Int.ofNat 1))), (VV.lit (Value.bool Bool.true)), (VV.lit (Value.int IntKind.i64 (Int.ofNat 2))), (VV.lit (Value.int IntKind.i64 (Int.ofNat 2))), (VV.lit (Value.slice Option.none 0 0)), (VV.lit (Value.int IntKind.i64 (Int.ofNat 0))), (VV.lit (Value.bool Bool.false)), (VV.lit (Value.int IntKind.i64 (Int.ofNat 2))), (VV.lit (Value.int IntKind.i64 (Int.ofNat 3))), (VV.lit (Value.slice Option.none 0 0)), (VV.lit (Value.int IntKind.i64 (Int.ofNat 0))), (VV.lit (Value.bool Bool.true)), (VV.lit (Value.int IntKind.i64 (Int.ofNat 1))), (VV.lit (Value.int IntKind.i64 (Int.ofNat 2))), (VV.sl [(VV.lit (Value.int IntKind.i64 (Int.ofNat 1)))] 1 Bool.false), (VV.lit (Value.int IntKind.i64 (Int.ofNat 1))), (VV.lit (Value.bool Bool.false)), (VV.lit (Value.int IntKind.i64 (Int.ofNat 1))), (VV.lit (Value.int IntKind.i64 (Int.ofNat 3))), (VV.sl [(VV.lit (Value.int IntKind.i64 (Int.ofNat 0)))] 1 Bool.false)] 4 Bool.false)])
def kEnds : VV := (VV.tup [(VV.sl [(VV.lit (Value.int IntKind.i64 (Int.ofNat 2))), (VV.lit (Value.int IntKind.i64 (Int.ofNat 2))), (VV.lit (Value.int IntKind.i64 (Int.ofNat 2))), (VV.lit (Value.int IntKind.i64 (Int.ofNat 3))), (VV.lit (Value.int IntKind.i64 (Int.ofNat 3))), (VV.lit (Value.int IntKind.i64 (Int.ofNat 5))), (VV.lit (Value.int IntKind.i64 (Int.ofNat 3))), (VV.lit (Value.int IntKind.i64 (Int.ofNat 6)))] 4 Bool.false), (VV.lit (Value.int IntKind.i64 (Int.ofNat 0)))])
def kDone : VV := (VV.tup [(VV.agg [(VV.lit (Value.int IntKind.i64 (Int.ofNat 3))), (VV.lit (Value.int IntKind.i64 (Int.ofNat 5)))]), (VV.lit (Value.int IntKind.i64 (Int.ofNat 0)))])
def kLate : VV := (VV.tup [(VV.sl [(VV.lit (Value.int IntKind.i64 (Int.ofNat 1))), (VV.lit (Value.int IntKind.i64 (Int.ofNat 2)))] 2 Bool.false), (VV.lit (Value.int IntKind.i64 (Int.ofNat 0)))])
def kWaits : VV := (VV.tup [(VV.sl [(VV.lit (Value.int IntKind.i64 (Int.ofNat 0))), (VV.lit (Value.int IntKind.i64 (Int.ofNat 0))), (VV.lit (Value.int IntKind.i64 (Int.ofNat 1))), (VV.lit (Value.int IntKind.i64 (Int.ofNat 0)))] 4 Bool.false), (VV.lit (Value.int IntKind.i64 (Int.ofNat 0)))])
def kChain : VV := (VV.tup [(VV.sl [(VV.lit (Value.int IntKind.i64 (Int.ofNat 1))), (VV.lit (Value.int IntKind.i64 (Int.ofNat 3)))] 2 Bool.false), (VV.lit (Value.int IntKind.i64 (Int.ofNat 0)))])
def kSpare : VV := (VV.tup [(VV.lit (Value.int IntKind.i64 (Int.ofNat 1))), (VV.lit (Value.int IntKind.i64 (Int.ofNat 0)))])
def kBest : VV := (VV.tup [(VV.sl [(VV.lit (Value.int IntKind.i64 (Int.ofNat 0))), (VV.lit (Value.int IntKind.i64 (Int.ofNat 1))), (VV.lit (Value.int IntKind.i64 (Int.ofNat 0))), (VV.lit (Value.int IntKind.i64 (Int.ofNat 1)))] 4 Bool.false), (VV.lit (Value.int IntKind.i64 (Int.ofNat 6))), (VV.lit (Value.int IntKind.i64 (Int.ofNat 0)))])
def kCount : VV := (VV.tup [(VV.lit (Value.int IntKind.i64 (Int.ofNat 1))), (VV.lit (Value.int IntKind.i64 (Int.ofNat 0)))])
def kWho : VV := (VV.tup [(VV.sl [(VV.lit (Value.int IntKind.i64 (Int.ofNat 1)))] 1 Bool.false), (VV.lit (Value.int IntKind.i64 (Int.ofNat 0)))])
def kGive : VV := (VV.tup [(VV.lit (Value.int IntKind.i64 (Int.ofNat 1))), (VV.lit (Value.int IntKind.i64 (Int.ofNat 8))), (VV.lit (Value.int IntKind.i64 (Int.ofNat 0)))])
def kMore : VV := (VV.tup [(VV.lit (Value.int IntKind.i64 (Int.ofNat 5))), (VV.lit (Value.int IntKind.i64 (Int.ofNat 0)))])
def kLeast : VV := (VV.tup [(VV.lit (Value.int IntKind.i64 (Int.ofNat 2))), (VV.lit (Value.int IntKind.i64 (Int.ofNat 0)))])
def kRead : VV := (VV.tup [(VV.agg [(VV.lit (Value.int IntKind.i64 (Int.ofNat 0))), (VV.sl [(VV.lit (Value.int IntKind.i64 (Int.ofNat 0)))] 1 Bool.false), (VV.sl [(VV.lit (Value.int IntKind.i64 (Int.ofNat 0))), (VV.lit (Value.bool Bool.false)), (VV.lit (Value.int IntKind.i64 (Int.ofNat 1))), (VV.lit (Value.int IntKind.i64 (Int.ofNat 1))), (VV.lit (Value.slice Option.none 0 0))] 1 Bool.false)]), (VV.lit (Value.int IntKind.i64 (Int.ofNat 0)))])
theorem pB : aj Tryz.prog G0 64 [] (.tree kB) := aj.closedF (fs := []) (tab := []) hmix trivial 1000 (by kernel_rfl)
theorem pEnds : aj Tryz.prog G0 22 [kB, .sl [.lit (.int .i64 (0)), .lit (.int .i64 (1)), .lit (.int .i64 (0)), .lit (.int .i64 (1))] 4 false] (.tree kEnds) := aj.closedF (fs := []) (tab := []) hmix trivial 1000 (by kernel_rfl)
theorem pDone : aj Tryz.prog G0 23 [kB, .sl [.lit (.int .i64 (0)), .lit (.int .i64 (1)), .lit (.int .i64 (0)), .lit (.int .i64 (1))] 4 false, .lit (.int .i64 (0))] (.tree kDone) := aj.closedF (fs := []) (tab := []) hmix trivial 1000 (by kernel_rfl)
theorem pLate : aj Tryz.prog G0 36 [kB, .sl [.lit (.int .i64 (0)), .lit (.int .i64 (1)), .lit (.int .i64 (0)), .lit (.int .i64 (0))] 4 false] (.tree kLate) := aj.closedF (fs := []) (tab := []) hmix trivial 1000 (by kernel_rfl)
theorem pWaits : aj Tryz.prog G0 37 [kB, .sl [.lit (.int .i64 (0)), .lit (.int .i64 (1)), .lit (.int .i64 (0)), .lit (.int .i64 (1))] 4 false] (.tree kWaits) := aj.closedF (fs := []) (tab := []) hmix trivial 1000 (by kernel_rfl)
theorem pChain : aj Tryz.prog G0 42 [kB, .sl [.lit (.int .i64 (0)), .lit (.int .i64 (1)), .lit (.int .i64 (0)), .lit (.int .i64 (1))] 4 false] (.tree kChain) := aj.closedF (fs := []) (tab := []) hmix trivial 1000 (by kernel_rfl)
theorem pSpare : aj Tryz.prog G0 43 [kB, .sl [.lit (.int .i64 (0)), .lit (.int .i64 (1)), .lit (.int .i64 (0)), .lit (.int .i64 (1))] 4 false, .lit (.int .i64 (0))] (.tree kSpare) := aj.closedF (fs := []) (tab := []) hmix trivial 1000 (by kernel_rfl)
theorem pBest : aj Tryz.prog G0 51 [kB] (.tree kBest) := aj.closedF (fs := []) (tab := []) hmix trivial 1000 (by kernel_rfl)
theorem pCount : aj Tryz.prog G0 52 [kB] (.tree kCount) := aj.closedF (fs := []) (tab := []) hmix trivial 1000 (by kernel_rfl)
theorem pWho : aj Tryz.prog G0 55 [kB, .lit (.int .i64 (1))] (.tree kWho) := aj.closedF (fs := []) (tab := []) hmix trivial 1000 (by kernel_rfl)
theorem pGive : aj Tryz.prog G0 56 [kB, .sl [.lit (.int .i64 (0)), .lit (.int .i64 (0)), .lit (.int .i64 (0)), .lit (.int .i64 (0))] 4 false, .lit (.int .i64 (1))] (.tree kGive) := aj.closedF (fs := []) (tab := []) hmix trivial 1000 (by kernel_rfl)
theorem pMore : aj Tryz.prog G0 60 [kB] (.tree kMore) := aj.closedF (fs := []) (tab := []) hmix trivial 1000 (by kernel_rfl)
theorem pLeast : aj Tryz.prog G0 61 [kB, .lit (.int .i64 (5))] (.tree kLeast) := aj.closedF (fs := []) (tab := []) hmix trivial 1000 (by kernel_rfl)
theorem pRead : aj Tryz.prog G0 65 [.lit (.string ⟨⟨[98, 101, 110, 99, 104, 32, 48, 10, 98, 111, 97, 114, 100, 32, 48, 10, 115, 116, 114, 97, 105, 103, 104, 116, 32, 48, 32, 49, 32, 49, 32, 45, 10, 101, 110, 100, 32, 49, 55, 53, 10]⟩⟩)] (.tree kRead) := aj.closedF (fs := []) (tab := []) hmix trivial 1000 (by kernel_rfl)
def kTab : KTab := [
  (64, [], kB),
  (22, [kB, .sl [.lit (.int .i64 (0)), .lit (.int .i64 (1)), .lit (.int .i64 (0)), .lit (.int .i64 (1))] 4 false], kEnds),
  (23, [kB, .sl [.lit (.int .i64 (0)), .lit (.int .i64 (1)), .lit (.int .i64 (0)), .lit (.int .i64 (1))] 4 false, .lit (.int .i64 (0))], kDone),
  (36, [kB, .sl [.lit (.int .i64 (0)), .lit (.int .i64 (1)), .lit (.int .i64 (0)), .lit (.int .i64 (0))] 4 false], kLate),
  (37, [kB, .sl [.lit (.int .i64 (0)), .lit (.int .i64 (1)), .lit (.int .i64 (0)), .lit (.int .i64 (1))] 4 false], kWaits),
  (42, [kB, .sl [.lit (.int .i64 (0)), .lit (.int .i64 (1)), .lit (.int .i64 (0)), .lit (.int .i64 (1))] 4 false], kChain),
  (43, [kB, .sl [.lit (.int .i64 (0)), .lit (.int .i64 (1)), .lit (.int .i64 (0)), .lit (.int .i64 (1))] 4 false, .lit (.int .i64 (0))], kSpare),
  (51, [kB], kBest),
  (52, [kB], kCount),
  (55, [kB, .lit (.int .i64 (1))], kWho),
  (56, [kB, .sl [.lit (.int .i64 (0)), .lit (.int .i64 (0)), .lit (.int .i64 (0)), .lit (.int .i64 (0))] 4 false, .lit (.int .i64 (1))], kGive),
  (60, [kB], kMore),
  (61, [kB, .lit (.int .i64 (5))], kLeast),
  (65, [.lit (.string ⟨⟨[98, 101, 110, 99, 104, 32, 48, 10, 98, 111, 97, 114, 100, 32, 48, 10, 115, 116, 114, 97, 105, 103, 104, 116, 32, 48, 32, 49, 32, 49, 32, 45, 10, 101, 110, 100, 32, 49, 55, 53, 10]⟩⟩)], kRead)]
theorem kTabOk : KTabOk Tryz.prog G0 kTab := ⟨⟨by kernel_rfl, pB⟩, ⟨⟨by kernel_rfl, pEnds⟩, ⟨⟨by kernel_rfl, pDone⟩, ⟨⟨by kernel_rfl, pLate⟩, ⟨⟨by kernel_rfl, pWaits⟩, ⟨⟨by kernel_rfl, pChain⟩, ⟨⟨by kernel_rfl, pSpare⟩, ⟨⟨by kernel_rfl, pBest⟩, ⟨⟨by kernel_rfl, pCount⟩, ⟨⟨by kernel_rfl, pWho⟩, ⟨⟨by kernel_rfl, pGive⟩, ⟨⟨by kernel_rfl, pMore⟩, ⟨⟨by kernel_rfl, pLeast⟩, ⟨⟨by kernel_rfl, pRead⟩, trivial⟩⟩⟩⟩⟩⟩⟩⟩⟩⟩⟩⟩⟩⟩
theorem pKnown : aj Tryz.prog G0 20 [] (.tree (.lit (.bool true))) := aj.closedF (fs := []) hmix kTabOk 1000 (by kernel_rfl)
#print axioms pKnown
theorem nH : aj Tryz.prog G0 20 [] (.tree (.lit (.bool true))) := pKnown
def v5 (al : GBk) (aJ : List Int) (bf : Int) (bk : Int) : Option (Bool) := Option.bind (pf al) (fun r1 => cond (r1) (Option.bind (uT aJ) (fun r2 => cond (r2) (Option.bind (mU al aJ) (fun r3 => cond (r3) (Option.bind (sj al bf) (fun r4 => cond (r4) (Option.bind (oF aJ bf bk) (fun r5 => Option.bind (mU al r5) (fun r6 => cond (r6) (Option.bind (rA al aJ bf) (fun r7 => Option.bind (rv al) (fun r8 => cond (r7.2.2 != 0) (some false) (cond (r8.2.2 != 0) (some false) (Option.bind (oF aJ bf r7.1) (fun r9 => Option.bind (mU al r9) (fun uO => cond (uO) (Option.bind (mm al r9) (fun uM => cond (uM != r7.2.1) (some false) (cond (decide (r7.2.1 < r8.2.1)) (some false) (Option.bind (mm al aJ) (fun Ri => cond (decide (r7.2.1 > Ri)) (some false) (Option.bind (mm al r5) (fun qZ => cond (decide (qZ > r7.2.1)) (some true) (cond (qZ == r7.2.1) (cond (decide (bk ≥ r7.1)) (some true) (some false)) (some false))))))))) (some false)))))))) (some true)))) (some true))) (some true))) (some true))) (some true))
theorem OW (al : GBk) (aJ : List Int) (bf : Int) (bk : Int) (R : Bool) (h : v5 al aJ bf bk = some R) : aj Tryz.prog G0 13 [.agg (cGBk al), .sl (ae eI aJ) (List.length aJ) false, .lit (.int .i64 bf), .lit (.int .i64 bk)] (.tree (.lit (.bool R))) := by
 refine aj.runRQ mixed Tryz.call13 Tryz.func13 rfl (by simp [Tryz.ntmps13]; kernel_rfl) ?_
 obtain ⟨KF, h, kF, kN⟩ := cn h
 simp only [v5] at h
 simp only [vz, tyf, nm, seval]
 refine m6 (fun tm => tm 1 = .sl (ae eI aJ) (List.length aJ) false ∧ tm 2 = .lit (.int .i64 bf) ∧ tm 3 = .lit (.int .i64 bk) ∧ tm 4 = .ptr 0 0 ∧ True) (by refine ⟨?_, ?_, ?_, ?_, trivial⟩ <;> first | (simp only [ua, nm, seval] <;> rfl) | rfl) ?_
 rintro tm ⟨bH, dr, bx, bu, _⟩
 obtain ⟨Lg, mo, h⟩ := optI h kN
 try simp only [hs] at h
 simp only [vz, tyf, bH, dr, bx, bu, nm, seval]
 refine dktA (Ot _ _ mo) ?_
 refine bw (fun tm => tm 1 = .sl (ae eI aJ) (List.length aJ) false ∧ tm 2 = .lit (.int .i64 bf) ∧ tm 3 = .lit (.int .i64 bk) ∧ tm 4 = .ptr 0 0 ∧ tm 17 = .lit (.bool Lg) ∧ True) (by refine ⟨bH, dr, bx, bu, ?_, trivial⟩ <;> first | (simp only [ua, bH, dr, bx, bu, nm, seval] <;> rfl) | rfl) ?_
 rintro tm ⟨dc, eJ, bV, bM, b6, _⟩
 cases cA : (Lg)
 ·simp only [cA, hs] at h
  simp only [vz, tyf, dc, eJ, bV, bM, b6, cA, nm, seval]
  refine ktree0 nH ?_
  try simp only [vz, tyf, dc, eJ, bV, bM, b6, cA, nm, seval]
  obtain rfl := kF _ h
  exact bn Tryz.results13 rfl
 simp only [cA, hs] at h
 obtain ⟨Lh, Rj, h⟩ := optI h kN
 try simp only [hs] at h
 simp only [vz, tyf, dc, eJ, bV, bM, b6, cA, nm, seval]
 refine dktA (Ou _ _ Rj) ?_
 refine bw (fun tm => tm 1 = .sl (ae eI aJ) (List.length aJ) false ∧ tm 2 = .lit (.int .i64 bf) ∧ tm 3 = .lit (.int .i64 bk) ∧ tm 4 = .ptr 0 0 ∧ tm 19 = .lit (.bool false) ∧ tm 21 = .lit (.bool Lh) ∧ True) (by refine ⟨dc, eJ, bV, bM, ?_, ?_, trivial⟩ <;> first | (simp only [ua, dc, eJ, bV, bM, b6, cA, nm, seval] <;> rfl) | rfl) ?_
 rintro tm ⟨cD, ca, cJ, ct, eW, eF, _⟩
 cases cq : (Lh)
 ·simp only [cq, hs] at h
  simp only [vz, tyf, cA, cD, ca, cJ, ct, eW, eF, cq, nm, seval]
  refine ktree0 nH ?_
  try simp only [vz, tyf, cA, cD, ca, cJ, ct, eW, eF, cq, nm, seval]
  obtain rfl := kF _ h
  exact bn Tryz.results13 rfl
 simp only [cq, hs] at h
 obtain ⟨Li, jw, h⟩ := optI h kN
 try simp only [hs] at h
 simp only [vz, tyf, cA, cD, ca, cJ, ct, eW, eF, cq, nm, seval]
 refine dktA (C2 _ _ _ jw) ?_
 refine bw (fun tm => tm 1 = .sl (ae eI aJ) (List.length aJ) false ∧ tm 2 = .lit (.int .i64 bf) ∧ tm 3 = .lit (.int .i64 bk) ∧ tm 4 = .ptr 0 0 ∧ tm 24 = .lit (.bool false) ∧ tm 27 = .lit (.bool Li) ∧ True) (by refine ⟨cD, ca, cJ, ct, ?_, ?_, trivial⟩ <;> first | (simp only [ua, cA, cD, ca, cJ, ct, eW, eF, cq, nm, seval] <;> rfl) | rfl) ?_
 rintro tm ⟨fD, fx, fq, fu, fC, de, _⟩
 cases dC : (Li)
 ·simp only [dC, hs] at h
  simp only [vz, tyf, cA, cq, fD, fx, fq, fu, fC, de, dC, nm, seval]
  refine ktree0 nH ?_
  try simp only [vz, tyf, cA, cq, fD, fx, fq, fu, fC, de, dC, nm, seval]
  obtain rfl := kF _ h
  exact bn Tryz.results13 rfl
 simp only [dC, hs] at h
 obtain ⟨Lj, Rk, h⟩ := optI h kN
 try simp only [hs] at h
 simp only [vz, tyf, cA, cq, fD, fx, fq, fu, fC, de, dC, nm, seval]
 refine dktA (Oy _ _ _ Rk) ?_
 refine bw (fun tm => tm 1 = .sl (ae eI aJ) (List.length aJ) false ∧ tm 2 = .lit (.int .i64 bf) ∧ tm 3 = .lit (.int .i64 bk) ∧ tm 4 = .ptr 0 0 ∧ tm 30 = .lit (.bool false) ∧ tm 33 = .lit (.bool Lj) ∧ True) (by refine ⟨fD, fx, fq, fu, ?_, ?_, trivial⟩ <;> first | (simp only [ua, cA, cq, fD, fx, fq, fu, fC, de, dC, nm, seval] <;> rfl) | rfl) ?_
 rintro tm ⟨jm, fI, d6, dz, fy, fz, _⟩
 cases cm : (Lj)
 ·simp only [cm, hs] at h
  simp only [vz, tyf, cA, cq, dC, jm, fI, d6, dz, fy, fz, cm, nm, seval]
  refine ktree0 nH ?_
  try simp only [vz, tyf, cA, cq, dC, jm, fI, d6, dz, fy, fz, cm, nm, seval]
  obtain rfl := kF _ h
  exact bn Tryz.results13 rfl
 simp only [cm, hs] at h
 obtain ⟨v7, pb, h⟩ := optI h kN
 try simp only [hs] at h
 simp only [vz, tyf, cA, cq, dC, jm, fI, d6, dz, fy, fz, cm, nm, seval]
 refine dktA (uy _ _ _ _ pb) ?_
 refine bw (fun tm => tm 1 = .sl (ae eI aJ) (List.length aJ) false ∧ tm 2 = .lit (.int .i64 bf) ∧ tm 3 = .lit (.int .i64 bk) ∧ tm 4 = .ptr 0 0 ∧ tm 36 = .lit (.bool false) ∧ tm 37 = .agg (cGBk al) ∧ tm 41 = .sl (ae eI v7) (List.length v7) false ∧ True) (by refine ⟨jm, fI, d6, dz, ?_, ?_, ?_, trivial⟩ <;> first | (simp only [ua, cA, cq, dC, jm, fI, d6, dz, fy, fz, cm, nm, seval] <;> rfl) | rfl) ?_
 rintro tm ⟨kC, kD, kZ, mS, pc, Lk, Ll, _⟩
 obtain ⟨Lm, Rl, h⟩ := optI h kN
 try simp only [hs] at h
 simp only [vz, tyf, cA, cq, dC, cm, kC, kD, kZ, mS, pc, Lk, Ll, nm, seval]
 refine dktA (C2 _ _ _ Rl) ?_
 refine bw (fun tm => tm 1 = .sl (ae eI aJ) (List.length aJ) false ∧ tm 2 = .lit (.int .i64 bf) ∧ tm 3 = .lit (.int .i64 bk) ∧ tm 4 = .ptr 0 0 ∧ tm 36 = .lit (.bool false) ∧ tm 42 = .lit (.bool Lm) ∧ True) (by refine ⟨kC, kD, kZ, mS, ?_, ?_, trivial⟩ <;> first | (simp only [ua, cA, cq, dC, cm, kC, kD, kZ, mS, pc, Lk, Ll, nm, seval] <;> rfl) | rfl) ?_
 rintro tm ⟨t9, tA, tB, tC, v8, v9, _⟩
 cases gz : (Lm)
 ·simp only [gz, hs] at h
  simp only [vz, tyf, cA, cq, dC, cm, t9, tA, tB, tC, v8, v9, gz, nm, seval]
  refine ktree0 nH ?_
  try simp only [vz, tyf, cA, cq, dC, cm, t9, tA, tB, tC, v8, v9, gz, nm, seval]
  obtain rfl := kF _ h
  exact bn Tryz.results13 rfl
 simp only [gz, hs] at h
 obtain ⟨cv, Rm, h⟩ := optI h kN
 try simp only [hs] at h
 simp only [vz, tyf, cA, cq, dC, cm, t9, tA, tB, tC, v8, v9, gz, nm, seval]
 refine ktA (MC _ _ _ _ Rm) ?_
 refine bw (fun tm => tm 1 = .sl (ae eI aJ) (List.length aJ) false ∧ tm 2 = .lit (.int .i64 bf) ∧ tm 3 = .lit (.int .i64 bk) ∧ tm 4 = .ptr 0 0 ∧ tm 50 = .tup [.lit (.int .i64 cv.1), .lit (.int .i64 cv.2.1), .lit (.int .i64 cv.2.2)] ∧ True) (by refine ⟨t9, tA, tB, tC, ?_, trivial⟩ <;> first | (simp only [ua, cA, cq, dC, cm, t9, tA, tB, tC, v8, v9, gz, nm, seval] <;> rfl) | rfl) ?_
 rintro tm ⟨Hp, Hq, Hr, Hs, Ln, _⟩
 obtain ⟨gT, Rn, h⟩ := optI h kN
 try simp only [hs] at h
 simp only [vz, tyf, cA, cq, dC, cm, gz, Hp, Hq, Hr, Hs, Ln, nm, seval]
 refine ktA (M9 _ _ Rn) ?_
 refine bw (fun tm => tm 1 = .sl (ae eI aJ) (List.length aJ) false ∧ tm 2 = .lit (.int .i64 bf) ∧ tm 3 = .lit (.int .i64 bk) ∧ tm 4 = .ptr 0 0 ∧ tm 9 = .lit (.int .i64 cv.1) ∧ tm 10 = .lit (.int .i64 cv.2.1) ∧ tm 11 = .lit (.int .i64 cv.2.2) ∧ tm 56 = .tup [.sl (ae eI gT.1) (List.length gT.1) false, .lit (.int .i64 gT.2.1), .lit (.int .i64 gT.2.2)] ∧ True) (by refine ⟨Hp, Hq, Hr, Hs, ?_, ?_, ?_, ?_, trivial⟩ <;> first | (simp only [ua, cA, cq, dC, cm, gz, Hp, Hq, Hr, Hs, Ln, nm, seval] <;> rfl) | rfl) ?_
 rintro tm ⟨Ht, Hu, Hv, Hw, Hx, Hy, Hz, Lo, _⟩
 simp only [vz, tyf, cA, cq, dC, cm, gz, Ht, Hu, Hv, Hw, Hx, Hy, Hz, Lo, nm, seval]
 refine m6 (fun tm => tm 1 = .sl (ae eI aJ) (List.length aJ) false ∧ tm 2 = .lit (.int .i64 bf) ∧ tm 3 = .lit (.int .i64 bk) ∧ tm 4 = .ptr 0 0 ∧ tm 9 = .lit (.int .i64 cv.1) ∧ tm 10 = .lit (.int .i64 cv.2.1) ∧ tm 11 = .lit (.int .i64 cv.2.2) ∧ tm 13 = .lit (.int .i64 gT.2.1) ∧ tm 14 = .lit (.int .i64 gT.2.2) ∧ True) (by refine ⟨Ht, Hu, Hv, Hw, Hx, Hy, Hz, ?_, ?_, trivial⟩ <;> first | (simp only [ua, cA, cq, dC, cm, gz, Ht, Hu, Hv, Hw, Hx, Hy, Hz, Lo, nm, seval] <;> rfl) | rfl) ?_
 rintro tm ⟨tD, tE, tF, tG, tH, tI, vA, tJ, vB, _⟩
 cases tK : (cv.2.2 != 0)
 ·simp only [tK, hs] at h
  cases vC : (gT.2.2 != 0)
  ·simp only [vC, hs] at h
   have dq := And.intro cA (And.intro cq (And.intro dC (And.intro cm (And.intro gz (And.intro tK vC)))))
   obtain ⟨jP, tL, h⟩ := optI h kN
   try simp only [hs] at h
   simp only [vz, tyf, dq, tD, tE, tF, tG, tH, tI, vA, tJ, vB, nm, seval]
   refine dktA (uy _ _ _ _ tL) ?_
   refine bw (fun tm => tm 1 = .sl (ae eI aJ) (List.length aJ) false ∧ tm 2 = .lit (.int .i64 bf) ∧ tm 3 = .lit (.int .i64 bk) ∧ tm 4 = .ptr 0 0 ∧ tm 9 = .lit (.int .i64 cv.1) ∧ tm 10 = .lit (.int .i64 cv.2.1) ∧ tm 13 = .lit (.int .i64 gT.2.1) ∧ tm 66 = .lit (.bool false) ∧ tm 67 = .agg (cGBk al) ∧ tm 71 = .sl (ae eI jP) (List.length jP) false ∧ True) (by refine ⟨tD, tE, tF, tG, tH, tI, tJ, ?_, ?_, ?_, trivial⟩ <;> first | (simp only [ua, dq, tD, tE, tF, tG, tH, tI, vA, tJ, vB, nm, seval] <;> rfl) | rfl) ?_
   rintro tm ⟨nI, nJ, nK, nL, nM, nN, nO, tM, tN, tO, _⟩
   obtain ⟨tP, H6, h⟩ := optI h kN
   try simp only [hs] at h
   simp only [vz, tyf, dq, nI, nJ, nK, nL, nM, nN, nO, tM, tN, tO, nm, seval]
   refine dktA (C2 _ _ _ H6) ?_
   refine bw (fun tm => tm 1 = .sl (ae eI aJ) (List.length aJ) false ∧ tm 2 = .lit (.int .i64 bf) ∧ tm 3 = .lit (.int .i64 bk) ∧ tm 4 = .ptr 0 0 ∧ tm 9 = .lit (.int .i64 cv.1) ∧ tm 10 = .lit (.int .i64 cv.2.1) ∧ tm 13 = .lit (.int .i64 gT.2.1) ∧ tm 66 = .lit (.bool false) ∧ tm 72 = .lit (.bool tP) ∧ True) (by refine ⟨nI, nJ, nK, nL, nM, nN, nO, ?_, ?_, trivial⟩ <;> first | (simp only [ua, dq, nI, nJ, nK, nL, nM, nN, nO, tM, tN, tO, nm, seval] <;> rfl) | rfl) ?_
   rintro tm ⟨jQ, jR, jS, jT, jU, jV, jW, nP, nQ, _⟩
   cases bG : (tP)
   ·simp only [bG, hs] at h
    try simp only [vz, tyf, dq, jQ, jR, jS, jT, jU, jV, jW, nP, nQ, bG, nm, seval]
    obtain rfl := kF _ h
    exact bn Tryz.results13 rfl
   simp only [bG, hs] at h
   simp only [vz, tyf, dq, jQ, jR, jS, jT, jU, jV, jW, nP, nQ, bG, nm, seval]
   refine dktA (uy _ _ _ _ tL) ?_
   refine bw (fun tm => tm 1 = .sl (ae eI aJ) (List.length aJ) false ∧ tm 2 = .lit (.int .i64 bf) ∧ tm 3 = .lit (.int .i64 bk) ∧ tm 4 = .ptr 0 0 ∧ tm 9 = .lit (.int .i64 cv.1) ∧ tm 10 = .lit (.int .i64 cv.2.1) ∧ tm 13 = .lit (.int .i64 gT.2.1) ∧ tm 75 = .lit (.bool false) ∧ tm 76 = .agg (cGBk al) ∧ tm 80 = .sl (ae eI jP) (List.length jP) false ∧ True) (by refine ⟨jQ, jR, jS, jT, jU, jV, jW, ?_, ?_, ?_, trivial⟩ <;> first | (simp only [ua, dq, jQ, jR, jS, jT, jU, jV, jW, nP, nQ, bG, nm, seval] <;> rfl) | rfl) ?_
   rintro tm ⟨nR, nS, nT, nU, nV, nW, nX, tQ, tR, tS, _⟩
   obtain ⟨tT, HA, h⟩ := optI h kN
   try simp only [hs] at h
   simp only [vz, tyf, dq, bG, nR, nS, nT, nU, nV, nW, nX, tQ, tR, tS, nm, seval]
   refine dktA (z2 _ _ _ HA) ?_
   refine bw (fun tm => tm 1 = .sl (ae eI aJ) (List.length aJ) false ∧ tm 2 = .lit (.int .i64 bf) ∧ tm 3 = .lit (.int .i64 bk) ∧ tm 4 = .ptr 0 0 ∧ tm 9 = .lit (.int .i64 cv.1) ∧ tm 10 = .lit (.int .i64 cv.2.1) ∧ tm 13 = .lit (.int .i64 gT.2.1) ∧ tm 75 = .lit (.bool false) ∧ tm 81 = .lit (.int .i64 tT) ∧ True) (by refine ⟨nR, nS, nT, nU, nV, nW, nX, ?_, ?_, trivial⟩ <;> first | (simp only [ua, dq, bG, nR, nS, nT, nU, nV, nW, nX, tQ, tR, tS, nm, seval] <;> rfl) | rfl) ?_
   rintro tm ⟨iR, iS, iT, iU, iV, iW, jX, jY, jZ, _⟩
   cases ck : (tT != cv.2.1)
   ·simp only [ck, hs] at h
    cases cw : (decide (cv.2.1 < gT.2.1))
    ·simp only [cw, hs] at h
     obtain ⟨tU, HB, h⟩ := optI h kN
     try simp only [hs] at h
     simp only [vz, tyf, dq, bG, iR, iS, iT, iU, iV, iW, jX, jY, jZ, ck, cw, nm, seval]
     refine dktA (z2 _ _ _ HB) ?_
     refine bw (fun tm => tm 1 = .sl (ae eI aJ) (List.length aJ) false ∧ tm 2 = .lit (.int .i64 bf) ∧ tm 3 = .lit (.int .i64 bk) ∧ tm 4 = .ptr 0 0 ∧ tm 9 = .lit (.int .i64 cv.1) ∧ tm 10 = .lit (.int .i64 cv.2.1) ∧ tm 90 = .lit (.bool false) ∧ tm 91 = .lit (.int .i64 cv.2.1) ∧ tm 94 = .lit (.int .i64 tU) ∧ True) (by refine ⟨iR, iS, iT, iU, iV, iW, ?_, ?_, ?_, trivial⟩ <;> first | (simp only [ua, dq, bG, iR, iS, iT, iU, iV, iW, jX, jY, jZ, ck, cw, nm, seval] <;> rfl) | rfl) ?_
     rintro tm ⟨ka, kc, kd, ke, kf, kh, nY, nZ, oa, _⟩
     cases cW : (decide (cv.2.1 > tU))
     ·simp only [cW, hs] at h
      simp only [vz, tyf, dq, bG, ck, cw, ka, kc, kd, ke, kf, kh, nY, nZ, oa, cW, nm, seval]
      refine m6 (fun tm => tm 1 = .sl (ae eI aJ) (List.length aJ) false ∧ tm 2 = .lit (.int .i64 bf) ∧ tm 3 = .lit (.int .i64 bk) ∧ tm 4 = .ptr 0 0 ∧ tm 9 = .lit (.int .i64 cv.1) ∧ tm 10 = .lit (.int .i64 cv.2.1) ∧ True) (by refine ⟨ka, kc, kd, ke, kf, kh, trivial⟩ <;> first | (simp only [ua, dq, bG, ck, cw, ka, kc, kd, ke, kf, kh, nY, nZ, oa, cW, nm, seval] <;> rfl) | rfl) ?_
      rintro tm ⟨tV, tW, oc, tX, od, oe, _⟩
      simp only [vz, tyf, dq, bG, ck, cw, cW, tV, tW, oc, tX, od, oe, nm, seval]
      refine dktA (uy _ _ _ _ pb) ?_
      refine bw (fun tm => tm 3 = .lit (.int .i64 bk) ∧ tm 9 = .lit (.int .i64 cv.1) ∧ tm 10 = .lit (.int .i64 cv.2.1) ∧ tm 97 = .agg (cGBk al) ∧ tm 101 = .sl (ae eI v7) (List.length v7) false ∧ True) (by refine ⟨oc, od, oe, ?_, ?_, trivial⟩ <;> first | (simp only [ua, dq, bG, ck, cw, cW, tV, tW, oc, tX, od, oe, nm, seval] <;> rfl) | rfl) ?_
      rintro tm ⟨og, oh, om, tY, tZ, _⟩
      obtain ⟨oo, HC, h⟩ := optI h kN
      try simp only [hs] at h
      simp only [vz, tyf, dq, bG, ck, cw, cW, og, oh, om, tY, tZ, nm, seval]
      refine dktA (z2 _ _ _ HC) ?_
      refine bw (fun tm => tm 3 = .lit (.int .i64 bk) ∧ tm 9 = .lit (.int .i64 cv.1) ∧ tm 10 = .lit (.int .i64 cv.2.1) ∧ tm 102 = .lit (.int .i64 oo) ∧ True) (by refine ⟨og, oh, om, ?_, trivial⟩ <;> first | (simp only [ua, dq, bG, ck, cw, cW, og, oh, om, tY, tZ, nm, seval] <;> rfl) | rfl) ?_
      rintro tm ⟨g0, g9, gA, gB, _⟩
      cases gC : (decide (oo > cv.2.1))
      ·simp only [gC, hs] at h
       cases ki : (oo == cv.2.1)
       ·simp only [ki, hs] at h
        have HD := And.intro dq (And.intro bG (And.intro ck (And.intro cw (And.intro cW (And.intro gC ki)))))
        try simp only [vz, tyf, HD, g0, g9, gA, gB, nm, seval]
        obtain rfl := kF _ h
        exact bn Tryz.results13 rfl
       simp only [ki, hs] at h
       have oq := And.intro dq (And.intro bG (And.intro ck (And.intro cw (And.intro cW (And.intro gC ki)))))
       cases iX : (decide (bk ≥ cv.1))
       ·simp only [iX, hs] at h
        try simp only [vz, tyf, oq, g0, g9, gA, gB, iX, nm, seval]
        obtain rfl := kF _ h
        exact bn Tryz.results13 rfl
       simp only [iX, hs] at h
       simp only [vz, tyf, oq, g0, g9, gA, gB, iX, nm, seval]
       refine ktree0 nH ?_
       try simp only [vz, tyf, oq, g0, g9, gA, gB, iX, nm, seval]
       obtain rfl := kF _ h
       exact bn Tryz.results13 rfl
      simp only [gC, hs] at h
      simp only [vz, tyf, dq, bG, ck, cw, cW, g0, g9, gA, gB, gC, nm, seval]
      refine ktree0 nH ?_
      try simp only [vz, tyf, dq, bG, ck, cw, cW, g0, g9, gA, gB, gC, nm, seval]
      obtain rfl := kF _ h
      exact bn Tryz.results13 rfl
     simp only [cW, hs] at h
     try simp only [vz, tyf, dq, bG, ck, cw, ka, kc, kd, ke, kf, kh, nY, nZ, oa, cW, nm, seval]
     obtain rfl := kF _ h
     exact bn Tryz.results13 rfl
    simp only [cw, hs] at h
    try simp only [vz, tyf, dq, bG, iR, iS, iT, iU, iV, iW, jX, jY, jZ, ck, cw, nm, seval]
    obtain rfl := kF _ h
    exact bn Tryz.results13 rfl
   simp only [ck, hs] at h
   try simp only [vz, tyf, dq, bG, iR, iS, iT, iU, iV, iW, jX, jY, jZ, ck, nm, seval]
   obtain rfl := kF _ h
   exact bn Tryz.results13 rfl
  simp only [vC, hs] at h
  have HE := And.intro cA (And.intro cq (And.intro dC (And.intro cm (And.intro gz (And.intro tK vC)))))
  try simp only [vz, tyf, HE, tD, tE, tF, tG, tH, tI, vA, tJ, vB, nm, seval]
  obtain rfl := kF _ h
  exact bn Tryz.results13 rfl
 simp only [tK, hs] at h
 try simp only [vz, tyf, cA, cq, dC, cm, gz, tD, tE, tF, tG, tH, tI, vA, tJ, vB, tK, nm, seval]
 obtain rfl := kF _ h
 exact bn Tryz.results13 rfl
theorem OX (b : GBk) (pl : List Int) (s other : Int) (hb : lenOk b.Boards = true ∧ lenOk b.Strokes = true ∧ ∀ y ∈ b.Strokes, lenOk y.Needs = true) (hp : lenOk pl = true) : v5 b pl s other = some true := by
 have hL := Len.of hb
 unfold v5
 rcases QO hL with e | ⟨e, hB⟩
 ·rw [e]; rfl
 have hns := hB.ns
 have hap := hB.ap
 simp only [e, Option.bind_some, cond_true, uT, GL hL, GM hL]
 cases (decide ((pl.length : Int) ≤ 9)) with
 | false => rfl
 | true =>
 cases hP : planB b pl with
 | false => rfl
 | true =>
 cases hI : inB 0 ((b.Strokes.length : Int) - 1) s with
 | false => rfl
 | true =>
 have hi := rC.1 hI
 have hPO := oC.1 hP
 have hlen := hPO.len
 have hBb := oB.2 hB
 obtain ⟨x, g1, hx⟩ := getS (b := b) (s := s) hi.1 (by omega)
 have hs : s.toNat < b.Strokes.length := by omega
 simp only [cond_true, zS hlen hns.1 hns.2 hi.1 hs, Option.bind_some]
 cases hQ : planB b (pl.set s.toNat other) with
 | false => rfl
 | true =>
 have hQ' := (rE hPO hx).1 (oC.1 hQ)
 have hne : gList pl s.toNat x (b.Apprentices.toNat + 1) 0 ≠ [] := List.ne_nil_of_mem ((u6 _ _).2 ⟨other, hQ'.1.1, by omega, hQ'.2, rfl⟩)
 obtain ⟨R, eR, Lp, _⟩ := ry (tk := TK b) (gList pl s.toNat x (b.Apprentices.toNat + 1) 0) none (.inl hne)
 rcases uz _ _ eR with ⟨h, _⟩ | ⟨L1, L2, eL, hlt, _, _⟩
 ·cases h
 obtain ⟨hand, h1, h2, h3, h4, h5⟩ := zR _ _ L1 L2 eL
 have hRp : planB b R = true := oC.2 (by rw [h4]; exact (rE hPO hx).2 ⟨⟨h1, by omega⟩, h3⟩)
 have hRl := (oC.1 hRp).len
 have hhand : getI R s = some hand := by
  rw [h4]
  unfold getI
  rw [if_pos hi.1, List.getElem?_set_self (by omega)]
 have eG : rA b pl s = some (hand, TK b R, 0) := by
  unfold rA
  rw [z8 hL, Iz hL, QM hL, hBb, hP, hI, show (true && decide (pl.length = b.Strokes.length)) = true by simp [hlen], zQ hB hlen hi.1 g1]
  simp only [Option.bind_some, cond_true, eR, hhand]
 obtain ⟨S, hS⟩ := zD b b.Apprentices
 have eB := zE hL hB hap.1 hap.2 hS
 rw [zP] at eB
 have hm : TK b S ≤ TK b R := hS.2.2 R ((zO hB).2 hRp)
 have hself : TK b R ≤ TK b pl := by
  have hmay := hPO.may s.toNat x (hF pl s.toNat) hx (by unfold hF; rw [List.getElem?_eq_getElem (by omega)]; rfl)
  have := Lp (pl.set s.toNat (hF pl s.toNat)) ((u6 _ _).2 ⟨_, hmay.1.1, by omega, by unfold gF; rcases hmay.2 with h | h <;> simp [h], rfl⟩)
  rwa [zT hlen hs] at this
 have hoth : TK b R ≤ TK b (pl.set s.toNat other) := Lp _ ((u6 _ _).2 ⟨other, hQ'.1.1, by omega, hQ'.2, rfl⟩)
 have hfirst : other < hand → TK b R < TK b (pl.set s.toNat other) := fun hlt' => hlt _ (h5 other hQ'.1.1 hlt' hQ'.2)
 rw [h4] at hRp
 simp only [cond_true, eG, eB, Option.bind_some, bne_self_eq_false, cond_false, hRp, mr hL hBb hRp, mr hL hBb hP, mr hL hBb hQ]
 rw [← h4]
 simp only [bne_self_eq_false, cond_false, decide_eq_false (Int.not_lt.2 hm), decide_eq_false (Int.not_lt.2 hself)]
 by_cases k1 : TK b (pl.set s.toNat other) > TK b R
 ·rw [decide_eq_true k1]; rfl
 ·have k2 : TK b (pl.set s.toNat other) = TK b R := by omega
  have k3 : other ≥ hand := by
   by_cases k : other < hand
   ·have := hfirst k; omega
   ·omega
  rw [decide_eq_false k1, k2]
  simp [k3]
end Go.V
end
