/- Part of a proof. -/
import Derived.Test.YtmhlghgbfmcdaaaGreatDoorG6bo
set_option linter.all false
set_option maxRecDepth 4000
set_option maxHeartbeats 40000000
section
namespace Go.V
open Go Go.Proofs
def rangeFR (f : FuncId) (cf : aw) (jump : Code → RS → ER) (n : Nat) (s : RS) (f0 : FuncId) (first captured : List VV) (ps : Array Tmp) (asg bo : Code) : ER :=
 match cf f0 (first ++ [.yl (s.nx + 1)] ++ captured) ((s.H.put s.nx (some (.deferred (some [])))).put (s.nx + 1) (some (.loopF .ready none (tmL n s.st.tm) ps asg bo f))) (s.nx + 2) with
 | .ret _ H' nx' => match H'.get (s.nx + 1) with
  | some (.loopF .busy _ _ _ _ _ _) => .no (.text 1)
  | some (.loopF _ pe tm ps asg bo fn) => match pe with
   | none => .mk .normal { s with H := H'.put (s.nx + 1) (some (.loopF .exhausted pe tm ps asg bo fn)), nx := nx', df := .coll s.nx :: s.df }
   | some c => jump c { s with H := H'.put (s.nx + 1) (some (.loopF .exhausted pe tm ps asg bo fn)), nx := nx', df := .coll s.nx :: s.df }
  | _ => .no (.text 2)
 | .pan x H' nx' => .mk (.panic x) { s with H := H', nx := nx', df := .coll s.nx :: s.df }
 | .no w => .no w
def GoOk (P : Program) (G : Glob) (f n : Nat) (go : Code → RS → ER) : Prop := ∀ code s e s', go code s = .mk e s' → ∀ Q : VExit → St → Prop, Q e s'.st → VGo P G f n code Q s.st
theorem RE {P : Program} {G : Glob} {cf : aw} (hcf : CallOk P G cf) {f : FuncId} {jump : Code → RS → ER} {n : Nat} (hj : GoOk P G f n jump) {s s' : RS} {e : VExit} {g : Operand} {f0 : FuncId} {first captured : List VV} {ps : Array Tmp} {asg bo : Code}
  (hg : s.st.ρ G g = .fn (.func f0) first captured) (h : rangeFR f cf jump n s f0 first captured ps asg bo = .mk e s') {Q : VExit → St → Prop} (hq : Q e s'.st) : VGo P G f n (.rangeFunc g ps asg bo) Q s.st := by
 refine VGo.range hg ?_
 unfold rangeFR at h
 have eH : ((s.H.put s.nx (some (.deferred (some [])))).put (s.nx + 1) (some (.loopF .ready none (tmL n s.st.tm) ps asg bo f))).get = updH (updH s.st.H s.st.nx (.deferred (some []))) (s.st.nx + 1) (.loopF .ready none (tmL n s.st.tm) ps asg bo f) := by
  rw [k9, k9]; rfl
 split at h
 ·rename_i x H' nx' hc
  have hv := hcf.1 _ _ _ _ _ _ _ hc
  rw [eH] at hv
  refine au.mono hv ?_ ?_
  ·rintro y H1 n1 ⟨_, rfl, rfl⟩
   split at h
   ·cases h
   ·rename_i st pe iL iM iN iO j3 hnb hl
    have e2 : ({ s with H := H'.put (s.nx + 1) (some (.loopF .exhausted pe iL iM iN iO j3)), nx := n1, df := .coll s.nx :: s.df } : RS).st = { s.st with H := updH H'.get (s.st.nx + 1) (.loopF .exhausted pe iL iM iN iO j3), nx := n1, df := .coll s.st.nx :: s.st.df } := by
     simp only [RS.st, k9]
    refine ⟨st, pe, iL, iM, iN, iO, j3, hl, hnb, ?_⟩
    split at h
    ·cases h
     show Q .normal _
     rw [← e2]; exact hq
    ·rename_i c
     show VGo P _ f n c Q _
     rw [← e2]
     exact hj c _ e s' h Q hq
   ·cases h
  ·intro y H1 n1 h; exact h.elim
 ·rename_i x H' nx' hc
  have hv := hcf.2 _ _ _ _ _ _ _ hc
  rw [eH] at hv
  cases h
  refine au.mono hv ?_ ?_
  ·intro y H1 n1 h; exact h.elim
  ·rintro y H1 n1 ⟨rfl, rfl, rfl⟩
   exact hq
 ·cases h
noncomputable def rangeFF (f : FuncId) (cf : aw) (jump : Code → RS → ER) (n : Nat) (s : RS) (ps : Array Tmp) (asg bo : Code) (code : Code) (x : VV) : ER := match x with
 | .fn (.func f0) first captured => rangeFR f cf jump n s f0 first captured ps asg bo
 | _ => .no (.code code)
noncomputable def goF (G : Glob) (f : FuncId) (run : RunR) (cf : aw) (n : Nat) (k : Nat) : Code → RS → ER :=
 Nat.rec (motive := fun _ => Code → RS → ER) (fun code s => run none n code s) (fun _ ih code s => match code with
  | .seq a b => thenQ (ih a s) (fun s' => ih b s')
  | .block id a => blockQ (ih a s) id
  | .rangeFunc g ps asg bo => rangeFF f cf (fun c s => run none n c s) n s ps asg bo code (ρQ G s.tm g)
  | code => run none n code s) k
theorem vt {P : Program} {G : Glob} {f n : Nat} {run : RunR} {cf : aw} (hrun : RunOk P G run) (hcf : CallOk P G cf) : ∀ (k : Nat), GoOk P G f n (goF G f run cf n k)
 | 0, code, s, e, s', h, Q, hq => VGo.of (hrun none n code s e s' h Q hq)
 | k + 1, code, s, e, s', h, Q, hq => by
  have ih := vt (f := f) (n := n) hrun hcf k
  have dflt : run none n code s = .mk e s' → VGo P G f n code Q s.st := fun h => VGo.of (hrun none n code s e s' h Q hq)
  cases code with
  | seq a b =>
   have h' : thenQ (goF G f run cf n k a s) (fun s' => goF G f run cf n k b s') = .mk e s' := h
   cases hs : goF G f run cf n k a s with
   | no w => rw [hs] at h'; cases h'
   | mk e1 s1 =>
    rw [hs] at h'
    cases e1 with
    | normal => exact VGo.seq (ih a s .normal s1 hs _ (ih b s1 e s' h' Q hq))
    | exit id => cases h'; exact VGo.seq (ih a s _ _ hs _ hq)
    | goto l => cases h'; exact VGo.seq (ih a s _ _ hs _ hq)
    | ret => cases h'; exact VGo.seq (ih a s _ _ hs _ hq)
    | panic x => cases h'; exact VGo.seq (ih a s _ _ hs _ hq)
  | block id a =>
   have h' : blockQ (goF G f run cf n k a s) id = .mk e s' := h
   cases hs : goF G f run cf n k a s with
   | no w => rw [hs] at h'; cases h'
   | mk e1 s1 =>
    rw [hs] at h'
    refine VGo.block (ih a s e1 s1 hs _ ?_)
    cases e1 with
    | normal => cases h'; exact hq
    | goto l => cases h'; exact hq
    | ret => cases h'; exact hq
    | panic x => cases h'; exact hq
    | exit id' =>
     have h'' : Bool.rec (motive := fun _ => ER) (.mk (.exit id') s1) (.mk .normal s1) (Nat.beq id' id) = .mk e s' := h'
     show (if id' = id then _ else _)
     by_cases hid : id' = id
     ·have hb : Nat.beq id' id = true := by simpa using hid
      rw [hb] at h''
      cases h''
      rw [if_pos hid]; exact hq
     ·have hb : Nat.beq id' id = false := by cases hq : Nat.beq id' id with | false => rfl | true => exact absurd (by simpa using hq) hid
      rw [hb] at h''
      cases h''
      rw [if_neg hid]; exact hq
  | rangeFunc g ps asg bo =>
   have h' : rangeFF f cf (fun c s => run none n c s) n s ps asg bo (.rangeFunc g ps asg bo) (ρQ G s.tm g) = .mk e s' := h
   rw [ρQ_eq] at h'
   unfold rangeFF at h'
   split at h'
   ·rename_i f0 first captured hg
    exact RE hcf (fun c s e s' hs Q hq => VGo.of (hrun none n c s e s' hs Q hq)) hg h' hq
   ·cases h'
  | _ => exact dflt h
noncomputable def enterF (P : Program) (G : Glob) (run : RunR) (cf : aw) (k : Nat) (f : FuncId) (fn : Func) (code : Code) (args : List VV) (H : Trie VObj) (nx : Nat) : CR :=
 match goF G f run cf fn.ntmps k code (RS.mk (listV args 0 .nil) H nx []) with
 | .mk .ret s => leaveR P G run fn f s s.df .ret s.H s.nx
 | .mk .normal s => leaveR P G run fn f s s.df .ret s.H s.nx
 | .mk (.panic x) s => leaveR P G run fn f s s.df (.pan x false) s.H s.nx
 | .mk _ _ => .no (.fn f)
 | .no w => .no w
noncomputable def ln (P : Program) (G : Glob) (run : RunR) (cf : aw) (k : Nat) : aw := fun f args H nx => match textQ P f with
 | some (fn, code) => Bool.rec (motive := fun _ => CR) (.no (.fn f)) (enterF P G run cf k f fn code args H nx) (Nat.ble args.length fn.ntmps)
 | none => .no (.fn f)
theorem Hv {P : Program} {f : FuncId} {fn : Func} {code : Code} (h : textQ P f = some (fn, code)) : P.funcs[f]? = some fn ∧ fn.body = some code ∧ nameQ fn = true := by
 unfold textQ at h
 split at h
 ·cases h
 ·rename_i nh hf
  split at h
  ·cases h
  ·rename_i c1 hb
   split at h
   ·rename_i hn
    cases h
    exact ⟨hf, hb, hn⟩
   ·cases h
theorem MK {P : Program} {G : Glob} {run : RunR} {cf : aw} {k : Nat} (hrun : RunOk P G run) (hcf : CallOk P G cf) {f : FuncId} {args : List VV} {H : Trie VObj} {nx : Nat} {R Rp : VV → (Nat → Option VObj) → Nat → Prop}
  (h1 : ∀ x H' nx', ln P (G.at (some none)) run cf k f args H nx = .ret x H' nx' → R x H'.get nx') (h2 : ∀ x H' nx', ln P (G.at (some none)) run cf k f args H nx = .pan x H' nx' → Rp x H'.get nx') (h3 : ∀ w, ln P (G.at (some none)) run cf k f args H nx ≠ .no w) : au P G f args H.get nx R Rp := by
 unfold ln at h1 h2 h3
 cases ht : textQ P f with
 | none => exact absurd (by simp only [ht]) (h3 (.fn f))
 | some p =>
  obtain ⟨fn, code⟩ := p
  obtain ⟨hf, hb, hn⟩ := Hv ht
  cases hc : Nat.ble args.length fn.ntmps with
  | false => exact absurd (by simp only [ht, hc]) (h3 (.fn f))
  | true =>
   simp only [ht, hc] at h1 h2 h3
   simp only [Nat.ble_eq] at hc
   unfold enterF at h1 h2 h3
   rw [yI] at h1 h2 h3
   cases hr : goF (G.at (some none)) f run cf fn.ntmps k code (RS.mk (Trie.ofList 0 args .nil) H nx []) with
   | no w => exact absurd (by rw [hr]) (h3 w)
   | mk e s =>
    rw [hr] at h1 h2 h3
    have body : OpenPostD P G fn R Rp e s.st → au P G f args H.get nx R Rp := by
     intro hq
     have := vt (G := G.at (some none)) (f := f) (n := fn.ntmps) hrun hcf k code _ e s hr _ hq
     rw [argsR] at this
     exact au.of_bodyGo (FL hf hb hn) hf hb hc this
    cases e with
    | ret => exact body (nG hrun s.df .ret s.H s.nx h1 h2 h3)
    | normal => exact body (nG hrun s.df .ret s.H s.nx h1 h2 h3)
    | panic x => exact body (nG hrun s.df (.pan x false) s.H s.nx h1 h2 h3)
    | exit id => exact absurd rfl (h3 (.fn f))
    | goto l => exact absurd rfl (h3 (.fn f))
noncomputable def cfF (P : Program) (G : Glob) (run : RunR) (fs : List Nat) (k : Nat) : aw := fun f args H nx => match fs.elem f with
 | true => ln P G run (cfQ P G run) k f args H nx
 | false => cfQ P G run f args H nx
theorem vu {P : Program} {G : Glob} {run : RunR} {fs : List Nat} {k : Nat} (hrun : RunOk P G run) : CallOk P G (cfF P (G.at (some none)) run fs k) := by
 have hcf : CallOk P G (cfQ P (G.at (some none)) run) := by rw [Hw]; exact QU hrun
 constructor
 ·intro f args H nx x H' nx' h
  unfold cfF at h
  split at h
  ·exact MK hrun hcf (fun y H1 n1 e => by rw [h] at e; cases e; exact ⟨rfl, rfl, rfl⟩) (fun y H1 n1 e => by rw [h] at e; cases e) (fun w e => by rw [h] at e; cases e)
  ·exact hcf.1 _ _ _ _ _ _ _ h
 ·intro f args H nx x H' nx' h
  unfold cfF at h
  split at h
  ·exact MK hrun hcf (fun y H1 n1 e => by rw [h] at e; cases e) (fun y H1 n1 e => by rw [h] at e; cases e; exact ⟨rfl, rfl, rfl⟩) (fun w e => by rw [h] at e; cases e)
  ·exact hcf.2 _ _ _ _ _ _ _ h
noncomputable def runF (P : Program) (G : Glob) (fs : List Nat) (tab : KTab) (k : Nat) : RunR :=
 Nat.rec (motive := fun _ => RunR) (fun _ _ _ _ => .no .fuel) (fun k ih ro n code s => bodyA k ih (cfT tab (cfF P (G.at (some none)) ih fs k)) ro n s (ccB P G code)) k
theorem ML {P : Program} {G : Glob} {fs : List Nat} {tab : KTab} (hm : P.follows .mixedOrders = true) (ht : KTabOk P G tab) : ∀ (k : Nat), RunOk P G (runF P G fs tab k)
 | 0, _, _, _, _, _, _, h => by cases h
 | k + 1, ro, n, code, s, e, s', h => by
  intro Q hq
  have ih := ML (G := G) (fs := fs) hm ht k
  exact NI hm ih (Df ht (vu ih)) h hq
noncomputable def closedF (P : Program) (G : Glob) (fs : List Nat) (tab : KTab) (k : Nat) (f : FuncId) (args : List VV) : PRes ⊕ Why := pureQ (cfF P (G.at (some none)) (runF P G fs tab k) fs k) f args
theorem ak.closedF {P : Program} {G : Glob} {fs : List Nat} {tab : KTab} (hm : P.follows .mixedOrders = true) (ht : KTabOk P G tab) (k : Nat) {f : FuncId} {args : List VV} {r : PRes} (h : closedF P G fs tab k f args = .inl r) : ak P G f args r := by
 unfold Go.V.closedF at h
 rw [Hx] at h
 exact u9 (vu (ML hm ht k)) h
theorem hmix : Tryz.prog.follows .mixedOrders = true := by kernel_rfl
def kB : VV := (VV.agg [(VV.lit (Value.int IntKind.i64 (Int.ofNat 1))), (VV.sl [(VV.lit (Value.int IntKind.i64 (Int.ofNat 5))), (VV.lit (Value.int IntKind.i64 (Int.ofNat 6)))] 2 Bool.false), (VV.sl [(VV.lit (Value.int IntKind.i64 (Int.ofNat 1))), (VV.lit (Value.bool Bool.true)), (VV.lit (Value.int IntKind.i64 (Int.ofNat 2))), (VV.lit (Value.int IntKind.i64 (Int.ofNat 2))), (VV.lit (Value.slice Option.none 0 0)), (VV.lit (Value.int IntKind.i64 (Int.ofNat 0))), (VV.lit (Value.bool Bool.false)), (VV.lit (Value.int IntKind.i64 (Int.ofNat 2))), (VV.lit (Value.int IntKind.i64 (Int.ofNat 3))), (VV.lit (Value.slice Option.none 0 0)), (VV.lit (Value.int IntKind.i64 (Int.ofNat 0))), (VV.lit (Value.bool Bool.true)), (VV.lit (Value.int IntKind.i64 (Int.ofNat 1))), (VV.lit (Value.int IntKind.i64 (Int.ofNat 2))), (VV.sl [(VV.lit (Value.int IntKind.i64 (Int.ofNat 1)))] 1 Bool.false), (VV.lit (Value.int IntKind.i64 (Int.ofNat 1))), (VV.lit (Value.bool Bool.false)), (VV.lit (Value.int IntKind.i64 (Int.ofNat 1))), (VV.lit (Value.int IntKind.i64 (Int.ofNat 3))), (VV.sl [(VV.lit (Value.int IntKind.i64 (Int.ofNat 0)))] 1 Bool.false)] 4 Bool.false)])
def kEnds : VV := (VV.tup [(VV.sl [(VV.lit (Value.int IntKind.i64 (Int.ofNat 2))), (VV.lit (Value.int IntKind.i64 (Int.ofNat 2))), (VV.lit (Value.int IntKind.i64 (Int.ofNat 2))), (VV.lit (Value.int IntKind.i64 (Int.ofNat 3))), (VV.lit (Value.int IntKind.i64 (Int.ofNat 3))), (VV.lit (Value.int IntKind.i64 (Int.ofNat 5))), (VV.lit (Value.int IntKind.i64 (Int.ofNat 3))), (VV.lit (Value.int IntKind.i64 (Int.ofNat 6)))] 4 Bool.false), (VV.lit (Value.int IntKind.i64 (Int.ofNat 0)))])
def kDone : VV := (VV.tup [(VV.agg [(VV.lit (Value.int IntKind.i64 (Int.ofNat 3))), (VV.lit (Value.int IntKind.i64 (Int.ofNat 5)))]), (VV.lit (Value.int IntKind.i64 (Int.ofNat 0)))])
def kLate : VV := (VV.tup [(VV.sl [(VV.lit (Value.int IntKind.i64 (Int.ofNat 1))), (VV.lit (Value.int IntKind.i64 (Int.ofNat 2)))] 2 Bool.false), (VV.lit (Value.int IntKind.i64 (Int.ofNat 0)))])
def kWaits : VV := (VV.tup [(VV.sl [(VV.lit (Value.int IntKind.i64 (Int.ofNat 0))), (VV.lit (Value.int IntKind.i64 (Int.ofNat 0))), (VV.lit (Value.int IntKind.i64 (Int.ofNat 1))), (VV.lit (Value.int IntKind.i64 (Int.ofNat 0)))] 4 Bool.false), (VV.lit (Value.int IntKind.i64 (Int.ofNat 0)))])
def kChain : VV := (VV.tup [(VV.sl [(VV.lit (Value.int IntKind.i64 (Int.ofNat 1))), (VV.lit (Value.int IntKind.i64 (Int.ofNat 3)))] 2 Bool.false), (VV.lit (Value.int IntKind.i64 (Int.ofNat 0)))])
def kSpare : VV := (VV.tup [(VV.lit (Value.int IntKind.i64 (Int.ofNat 1))), (VV.lit (Value.int IntKind.i64 (Int.ofNat 0)))])
def kBest : VV := (VV.tup [(VV.sl [(VV.lit (Value.int IntKind.i64 (Int.ofNat 0))), (VV.lit (Value.int IntKind.i64 (Int.ofNat 1))), (VV.lit (Value.int IntKind.i64 (Int.ofNat 0))), (VV.lit (Value.int IntKind.i64 (Int.ofNat 1)))] 4 Bool.false), (VV.lit (Value.int IntKind.i64 (Int.ofNat 6))), (VV.lit (Value.int IntKind.i64 (Int.ofNat 0)))])
def kCount : VV := (VV.tup [(VV.lit (Value.int IntKind.i64 (Int.ofNat 1))), (VV.lit (Value.int IntKind.i64 (Int.ofNat 0)))])
def kWho : VV := (VV.tup [(VV.sl [(VV.lit (Value.int IntKind.i64 (Int.ofNat 1)))] 1 Bool.false), (VV.lit (Value.int IntKind.i64 (Int.ofNat 0)))])
def kGive : VV := (VV.tup [(VV.lit (Value.int IntKind.i64 (Int.ofNat 1))), (VV.lit (Value.int IntKind.i64 (Int.ofNat 8))), (VV.lit (Value.int IntKind.i64 (Int.ofNat 0)))])
def kMore : VV := (VV.tup [(VV.lit (Value.int IntKind.i64 (Int.ofNat 5))), (VV.lit (Value.int IntKind.i64 (Int.ofNat 0)))])
def kLeast : VV := (VV.tup [(VV.lit (Value.int IntKind.i64 (Int.ofNat 2))), (VV.lit (Value.int IntKind.i64 (Int.ofNat 0)))])
def kRead : VV := (VV.tup [(VV.agg [(VV.lit (Value.int IntKind.i64 (Int.ofNat 0))), (VV.sl [(VV.lit (Value.int IntKind.i64 (Int.ofNat 0)))] 1 Bool.false), (VV.sl [(VV.lit (Value.int IntKind.i64 (Int.ofNat 0))), (VV.lit (Value.bool Bool.false)), (VV.lit (Value.int IntKind.i64 (Int.ofNat 1))), (VV.lit (Value.int IntKind.i64 (Int.ofNat 1))), (VV.lit (Value.slice Option.none 0 0))] 1 Bool.false)]), (VV.lit (Value.int IntKind.i64 (Int.ofNat 0)))])
theorem pB : ak Tryz.prog G0 64 [] (.tree kB) := ak.closedF (fs := []) (tab := []) hmix trivial 1000 (by kernel_rfl)
theorem pEnds : ak Tryz.prog G0 22 [kB, .sl [.lit (.int .i64 (0)), .lit (.int .i64 (1)), .lit (.int .i64 (0)), .lit (.int .i64 (1))] 4 false] (.tree kEnds) := ak.closedF (fs := []) (tab := []) hmix trivial 1000 (by kernel_rfl)
theorem pDone : ak Tryz.prog G0 23 [kB, .sl [.lit (.int .i64 (0)), .lit (.int .i64 (1)), .lit (.int .i64 (0)), .lit (.int .i64 (1))] 4 false, .lit (.int .i64 (0))] (.tree kDone) := ak.closedF (fs := []) (tab := []) hmix trivial 1000 (by kernel_rfl)
theorem pLate : ak Tryz.prog G0 36 [kB, .sl [.lit (.int .i64 (0)), .lit (.int .i64 (1)), .lit (.int .i64 (0)), .lit (.int .i64 (0))] 4 false] (.tree kLate) := ak.closedF (fs := []) (tab := []) hmix trivial 1000 (by kernel_rfl)
theorem pWaits : ak Tryz.prog G0 37 [kB, .sl [.lit (.int .i64 (0)), .lit (.int .i64 (1)), .lit (.int .i64 (0)), .lit (.int .i64 (1))] 4 false] (.tree kWaits) := ak.closedF (fs := []) (tab := []) hmix trivial 1000 (by kernel_rfl)
theorem pChain : ak Tryz.prog G0 42 [kB, .sl [.lit (.int .i64 (0)), .lit (.int .i64 (1)), .lit (.int .i64 (0)), .lit (.int .i64 (1))] 4 false] (.tree kChain) := ak.closedF (fs := []) (tab := []) hmix trivial 1000 (by kernel_rfl)
theorem pSpare : ak Tryz.prog G0 43 [kB, .sl [.lit (.int .i64 (0)), .lit (.int .i64 (1)), .lit (.int .i64 (0)), .lit (.int .i64 (1))] 4 false, .lit (.int .i64 (0))] (.tree kSpare) := ak.closedF (fs := []) (tab := []) hmix trivial 1000 (by kernel_rfl)
theorem pBest : ak Tryz.prog G0 51 [kB] (.tree kBest) := ak.closedF (fs := []) (tab := []) hmix trivial 1000 (by kernel_rfl)
theorem pCount : ak Tryz.prog G0 52 [kB] (.tree kCount) := ak.closedF (fs := []) (tab := []) hmix trivial 1000 (by kernel_rfl)
theorem pWho : ak Tryz.prog G0 55 [kB, .lit (.int .i64 (1))] (.tree kWho) := ak.closedF (fs := []) (tab := []) hmix trivial 1000 (by kernel_rfl)
theorem pGive : ak Tryz.prog G0 56 [kB, .sl [.lit (.int .i64 (0)), .lit (.int .i64 (0)), .lit (.int .i64 (0)), .lit (.int .i64 (0))] 4 false, .lit (.int .i64 (1))] (.tree kGive) := ak.closedF (fs := []) (tab := []) hmix trivial 1000 (by kernel_rfl)
theorem pMore : ak Tryz.prog G0 60 [kB] (.tree kMore) := ak.closedF (fs := []) (tab := []) hmix trivial 1000 (by kernel_rfl)
theorem pLeast : ak Tryz.prog G0 61 [kB, .lit (.int .i64 (5))] (.tree kLeast) := ak.closedF (fs := []) (tab := []) hmix trivial 1000 (by kernel_rfl)
theorem pRead : ak Tryz.prog G0 65 [.lit (.string ⟨⟨[98, 101, 110, 99, 104, 32, 48, 10, 98, 111, 97, 114, 100, 32, 48, 10, 115, 116, 114, 97, 105, 103, 104, 116, 32, 48, 32, 49, 32, 49, 32, 45, 10, 101, 110, 100, 32, 49, 55, 53, 10]⟩⟩)] (.tree kRead) := ak.closedF (fs := []) (tab := []) hmix trivial 1000 (by kernel_rfl)
def kTab : KTab := [
  (64, [], kB),
  (22, [kB, .sl [.lit (.int .i64 (0)), .lit (.int .i64 (1)), .lit (.int .i64 (0)), .lit (.int .i64 (1))] 4 false], kEnds),
  (23, [kB, .sl [.lit (.int .i64 (0)), .lit (.int .i64 (1)), .lit (.int .i64 (0)), .lit (.int .i64 (1))] 4 false, .lit (.int .i64 (0))], kDone),
  (36, [kB, .sl [.lit (.int .i64 (0)), .lit (.int .i64 (1)), .lit (.int .i64 (0)), .lit (.int .i64 (0))] 4 false], kLate),
  (37, [kB, .sl [.lit (.int .i64 (0)), .lit (.int .i64 (1)), .lit (.int .i64 (0)), .lit (.int .i64 (1))] 4 false], kWaits),
  (42, [kB, .sl [.lit (.int .i64 (0)), .lit (.int .i64 (1)), .lit (.int .i64 (0)), .lit (.int .i64 (1))] 4 false], kChain),
  (43, [kB, .sl [.lit (.int .i64 (0)), .lit (.int .i64 (1)), .lit (.int .i64 (0)), .lit (.int .i64 (1))] 4 false, .lit (.int .i64 (0))], kSpare),
  (51, [kB], kBest),
  (52, [kB], kCount),
  (55, [kB, .lit (.int .i64 (1))], kWho),
  (56, [kB, .sl [.lit (.int .i64 (0)), .lit (.int .i64 (0)), .lit (.int .i64 (0)), .lit (.int .i64 (0))] 4 false, .lit (.int .i64 (1))], kGive),
  (60, [kB], kMore),
  (61, [kB, .lit (.int .i64 (5))], kLeast),
  (65, [.lit (.string ⟨⟨[98, 101, 110, 99, 104, 32, 48, 10, 98, 111, 97, 114, 100, 32, 48, 10, 115, 116, 114, 97, 105, 103, 104, 116, 32, 48, 32, 49, 32, 49, 32, 45, 10, 101, 110, 100, 32, 49, 55, 53, 10]⟩⟩)], kRead)]
theorem kTabOk : KTabOk Tryz.prog G0 kTab := ⟨⟨by kernel_rfl, pB⟩, ⟨⟨by kernel_rfl, pEnds⟩, ⟨⟨by kernel_rfl, pDone⟩, ⟨⟨by kernel_rfl, pLate⟩, ⟨⟨by kernel_rfl, pWaits⟩, ⟨⟨by kernel_rfl, pChain⟩, ⟨⟨by kernel_rfl, pSpare⟩, ⟨⟨by kernel_rfl, pBest⟩, ⟨⟨by kernel_rfl, pCount⟩, ⟨⟨by kernel_rfl, pWho⟩, ⟨⟨by kernel_rfl, pGive⟩, ⟨⟨by kernel_rfl, pMore⟩, ⟨⟨by kernel_rfl, pLeast⟩, ⟨⟨by kernel_rfl, pRead⟩, trivial⟩⟩⟩⟩⟩⟩⟩⟩⟩⟩⟩⟩⟩⟩
theorem pKnown : ak Tryz.prog G0 20 [] (.tree (.lit (.bool true))) := ak.closedF (fs := []) hmix kTabOk 1000 (by kernel_rfl)
#print axioms pKnown
theorem sd : ak Tryz.prog G0 20 [] (.tree (.lit (.bool true))) := pKnown
def yg (al : GBk) (aD : List Int) (aV : Int) : Option (Bool) := Option.bind (se al) (fun r1 => cond (r1) (Option.bind (yh aD) (fun r2 => cond (r2) (Option.bind (qt al aD) (fun r3 => Option.bind (m9 al aD aV) (fun r4 => Option.bind (vv al) (fun r5 => cond (r5) (Option.bind (vw al aD) (fun r6 => cond (r6) (cond (r3.2 != 0) (some false) (Option.bind (vx al aD) (fun r7 => Option.bind (vy r3.1 r7) (fun r8 => cond (r8) (Option.bind (sf al aV) (fun r9 => cond (r9) (cond (r4.2 == 0) (Option.bind (v3 al aD aV) (fun nz => cond (r4.1 == nz) (some true) (some false))) (some false)) (cond (r4.2 == 2) (cond (r4.1 == 0) (some true) (some false)) (some false)))) (some false))))) (cond (r3.2 == 2) (cond ((List.length r3.1 : Int) == 0) (cond (r4.2 == 2) (cond (r4.1 == 0) (some true) (some false)) (some false)) (some false)) (some false)))) (cond (r3.2 == 2) (cond ((List.length r3.1 : Int) == 0) (cond (r4.2 == 2) (cond (r4.1 == 0) (some true) (some false)) (some false)) (some false)) (some false)))))) (some true))) (some true))
theorem RF (al : GBk) (aD : List Int) (aV : Int) (R : Bool) (h : yg al aD aV = some R) : ak Tryz.prog G0 7 [.agg (cGBk al), .sl (ae eI aD) (List.length aD) false, .lit (.int .i64 aV)] (.tree (.lit (.bool R))) := by
 refine ak.runR mixed Tryz.call7 Tryz.func7 rfl (by simp [Tryz.ntmps7]; kernel_rfl) ?_
 obtain ⟨KF, h, kF, kN⟩ := cI h
 simp only [yg] at h
 obtain ⟨lV, lG, h⟩ := optI h kN
 try simp only [hs] at h
 simp only [vz, tyf, nm, seval]
 refine ktA (RG _ _ lG) ?_
 refine bN (fun tm => tm 1 = .sl (ae eI aD) (List.length aD) false ∧ tm 2 = .lit (.int .i64 aV) ∧ tm 3 = .ptr 0 0 ∧ tm 12 = .lit (.bool lV) ∧ True) (by refine ⟨?_, ?_, ?_, ?_, trivial⟩ <;> first | (simp only [ua, nm, seval] <;> rfl) | rfl) ?_
 rintro tm ⟨bI, bS, cM, bB, _⟩
 cases cJ : (lV)
 ·simp only [cJ, hs] at h
  simp only [vz, tyf, bI, bS, cM, bB, cJ, nm, seval]
  refine ktree0 sd ?_
  try simp only [vz, tyf, bI, bS, cM, bB, cJ, nm, seval]
  obtain rfl := kF _ h
  exact bw Tryz.results7 rfl
 simp only [cJ, hs] at h
 obtain ⟨MM, nN, h⟩ := optI h kN
 try simp only [hs] at h
 simp only [vz, tyf, bI, bS, cM, bB, cJ, nm, seval]
 refine ktA (RH _ _ nN) ?_
 refine bN (fun tm => tm 1 = .sl (ae eI aD) (List.length aD) false ∧ tm 2 = .lit (.int .i64 aV) ∧ tm 3 = .ptr 0 0 ∧ tm 14 = .lit (.bool false) ∧ tm 16 = .lit (.bool MM) ∧ True) (by refine ⟨bI, bS, cM, ?_, ?_, trivial⟩ <;> first | (simp only [ua, bI, bS, cM, bB, cJ, nm, seval] <;> rfl) | rfl) ?_
 rintro tm ⟨dK, dI, cg, bG, cV, _⟩
 cases dC : (MM)
 ·simp only [dC, hs] at h
  simp only [vz, tyf, cJ, dK, dI, cg, bG, cV, dC, nm, seval]
  refine ktree0 sd ?_
  try simp only [vz, tyf, cJ, dK, dI, cg, bG, cV, dC, nm, seval]
  obtain rfl := kF _ h
  exact bw Tryz.results7 rfl
 simp only [dC, hs] at h
 obtain ⟨gf, Hy, h⟩ := optI h kN
 try simp only [hs] at h
 simp only [vz, tyf, cJ, dK, dI, cg, bG, cV, dC, nm, seval]
 refine ktA (RI _ _ _ Hy) ?_
 refine bN (fun tm => tm 1 = .sl (ae eI aD) (List.length aD) false ∧ tm 2 = .lit (.int .i64 aV) ∧ tm 3 = .ptr 0 0 ∧ tm 23 = .tup [.sl (ae eI gf.1) (List.length gf.1) false, .lit (.int .i64 gf.2)] ∧ True) (by refine ⟨dK, dI, cg, ?_, trivial⟩ <;> first | (simp only [ua, cJ, dK, dI, cg, bG, cV, dC, nm, seval] <;> rfl) | rfl) ?_
 rintro tm ⟨bZ, bR, cj, ck, _⟩
 obtain ⟨fF, Hz, h⟩ := optI h kN
 try simp only [hs] at h
 simp only [vz, tyf, cJ, dC, bZ, bR, cj, ck, nm, seval]
 refine ktA (Q7 _ _ _ _ Hz) ?_
 refine bN (fun tm => tm 1 = .sl (ae eI aD) (List.length aD) false ∧ tm 2 = .lit (.int .i64 aV) ∧ tm 3 = .ptr 0 0 ∧ tm 7 = .sl (ae eI gf.1) (List.length gf.1) false ∧ tm 8 = .lit (.int .i64 gf.2) ∧ tm 30 = .tup [.lit (.int .i64 fF.1), .lit (.int .i64 fF.2)] ∧ True) (by refine ⟨bZ, bR, cj, ?_, ?_, ?_, trivial⟩ <;> first | (simp only [ua, cJ, dC, bZ, bR, cj, ck, nm, seval] <;> rfl) | rfl) ?_
 rintro tm ⟨ed, fm, gJ, gz, gb, ll, _⟩
 obtain ⟨lp, lW, h⟩ := optI h kN
 try simp only [hs] at h
 simp only [vz, tyf, cJ, dC, ed, fm, gJ, gz, gb, ll, nm, seval]
 refine ktA (RJ _ _ lW) ?_
 refine bN (fun tm => tm 1 = .sl (ae eI aD) (List.length aD) false ∧ tm 2 = .lit (.int .i64 aV) ∧ tm 3 = .ptr 0 0 ∧ tm 7 = .sl (ae eI gf.1) (List.length gf.1) false ∧ tm 8 = .lit (.int .i64 gf.2) ∧ tm 9 = .lit (.int .i64 fF.1) ∧ tm 10 = .lit (.int .i64 fF.2) ∧ tm 34 = .lit (.bool lp) ∧ True) (by refine ⟨ed, fm, gJ, gz, gb, ?_, ?_, ?_, trivial⟩ <;> first | (simp only [ua, cJ, dC, ed, fm, gJ, gz, gb, ll, nm, seval] <;> rfl) | rfl) ?_
 rintro tm ⟨cE, cy, cz, cW, d6, cF, cu, dD, _⟩
 cases fS : (lp)
 ·simp only [fS, hs] at h
  cases gS : (gf.2 == 2)
  ·simp only [gS, hs] at h
   try simp only [vz, tyf, cJ, dC, cE, cy, cz, cW, d6, cF, cu, dD, fS, gS, nm, seval]
   obtain rfl := kF _ h
   exact bw Tryz.results7 rfl
  simp only [gS, hs] at h
  cases fC : ((List.length gf.1 : Int) == 0)
  ·simp only [fC, hs] at h
   try simp only [vz, tyf, cJ, dC, cE, cy, cz, cW, d6, cF, cu, dD, fS, gS, fC, nm, seval]
   obtain rfl := kF _ h
   exact bw Tryz.results7 rfl
  simp only [fC, hs] at h
  cases fQ : (fF.2 == 2)
  ·simp only [fQ, hs] at h
   try simp only [vz, tyf, cJ, dC, cE, cy, cz, cW, d6, cF, cu, dD, fS, gS, fC, fQ, nm, seval]
   obtain rfl := kF _ h
   exact bw Tryz.results7 rfl
  simp only [fQ, hs] at h
  cases yi : (fF.1 == 0)
  ·simp only [yi, hs] at h
   have RK := And.intro cJ (And.intro dC (And.intro fS (And.intro gS (And.intro fC (And.intro fQ yi)))))
   try simp only [vz, tyf, RK, cE, cy, cz, cW, d6, cF, cu, dD, nm, seval]
   obtain rfl := kF _ h
   exact bw Tryz.results7 rfl
  simp only [yi, hs] at h
  have MN := And.intro cJ (And.intro dC (And.intro fS (And.intro gS (And.intro fC (And.intro fQ yi)))))
  simp only [vz, tyf, MN, cE, cy, cz, cW, d6, cF, cu, dD, nm, seval]
  refine ktree0 sd ?_
  try simp only [vz, tyf, MN, cE, cy, cz, cW, d6, cF, cu, dD, nm, seval]
  obtain rfl := kF _ h
  exact bw Tryz.results7 rfl
 simp only [fS, hs] at h
 obtain ⟨MO, RL, h⟩ := optI h kN
 try simp only [hs] at h
 simp only [vz, tyf, cJ, dC, cE, cy, cz, cW, d6, cF, cu, dD, fS, nm, seval]
 refine ktA (RM _ _ _ RL) ?_
 refine bN (fun tm => tm 1 = .sl (ae eI aD) (List.length aD) false ∧ tm 2 = .lit (.int .i64 aV) ∧ tm 3 = .ptr 0 0 ∧ tm 7 = .sl (ae eI gf.1) (List.length gf.1) false ∧ tm 8 = .lit (.int .i64 gf.2) ∧ tm 9 = .lit (.int .i64 fF.1) ∧ tm 10 = .lit (.int .i64 fF.2) ∧ tm 36 = .lit (.bool false) ∧ tm 39 = .lit (.bool MO) ∧ True) (by refine ⟨cE, cy, cz, cW, d6, cF, cu, ?_, ?_, trivial⟩ <;> first | (simp only [ua, cJ, dC, cE, cy, cz, cW, d6, cF, cu, dD, fS, nm, seval] <;> rfl) | rfl) ?_
 rintro tm ⟨fU, iu, lX, lL, jH, jx, jy, gd, fO, _⟩
 cases iJ : (MO)
 ·simp only [iJ, hs] at h
  cases sg : (gf.2 == 2)
  ·simp only [sg, hs] at h
   try simp only [vz, tyf, cJ, dC, fS, fU, iu, lX, lL, jH, jx, jy, gd, fO, iJ, sg, nm, seval]
   obtain rfl := kF _ h
   exact bw Tryz.results7 rfl
  simp only [sg, hs] at h
  cases v5 : ((List.length gf.1 : Int) == 0)
  ·simp only [v5, hs] at h
   try simp only [vz, tyf, cJ, dC, fS, fU, iu, lX, lL, jH, jx, jy, gd, fO, iJ, sg, v5, nm, seval]
   obtain rfl := kF _ h
   exact bw Tryz.results7 rfl
  simp only [v5, hs] at h
  cases yj : (fF.2 == 2)
  ·simp only [yj, hs] at h
   have RN := And.intro cJ (And.intro dC (And.intro fS (And.intro iJ (And.intro sg (And.intro v5 yj)))))
   try simp only [vz, tyf, RN, fU, iu, lX, lL, jH, jx, jy, gd, fO, nm, seval]
   obtain rfl := kF _ h
   exact bw Tryz.results7 rfl
  simp only [yj, hs] at h
  have H6 := And.intro cJ (And.intro dC (And.intro fS (And.intro iJ (And.intro sg (And.intro v5 yj)))))
  cases kS : (fF.1 == 0)
  ·simp only [kS, hs] at h
   try simp only [vz, tyf, H6, fU, iu, lX, lL, jH, jx, jy, gd, fO, kS, nm, seval]
   obtain rfl := kF _ h
   exact bw Tryz.results7 rfl
  simp only [kS, hs] at h
  simp only [vz, tyf, H6, fU, iu, lX, lL, jH, jx, jy, gd, fO, kS, nm, seval]
  refine ktree0 sd ?_
  try simp only [vz, tyf, H6, fU, iu, lX, lL, jH, jx, jy, gd, fO, kS, nm, seval]
  obtain rfl := kF _ h
  exact bw Tryz.results7 rfl
 simp only [iJ, hs] at h
 cases k7 : (gf.2 != 0)
 ·simp only [k7, hs] at h
  obtain ⟨v7, HA, h⟩ := optI h kN
  try simp only [hs] at h
  simp only [vz, tyf, cJ, dC, fS, fU, iu, lX, lL, jH, jx, jy, gd, fO, iJ, k7, nm, seval]
  refine ktA (RO _ _ _ HA) ?_
  refine bN (fun tm => tm 1 = .sl (ae eI aD) (List.length aD) false ∧ tm 2 = .lit (.int .i64 aV) ∧ tm 3 = .ptr 0 0 ∧ tm 9 = .lit (.int .i64 fF.1) ∧ tm 10 = .lit (.int .i64 fF.2) ∧ tm 62 = .lit (.bool false) ∧ tm 63 = .sl (ae eI gf.1) (List.length gf.1) false ∧ tm 66 = .sl (ae eI v7) (List.length v7) false ∧ True) (by refine ⟨fU, iu, lX, jx, jy, ?_, ?_, ?_, trivial⟩ <;> first | (simp only [ua, cJ, dC, fS, fU, iu, lX, lL, jH, jx, jy, gd, fO, iJ, k7, nm, seval] <;> rfl) | rfl) ?_
  rintro tm ⟨nR, nS, nT, jr, js, jD, kl, kT, _⟩
  obtain ⟨MP, RP, h⟩ := optI h kN
  try simp only [hs] at h
  simp only [vz, tyf, cJ, dC, fS, iJ, k7, nR, nS, nT, jr, js, jD, kl, kT, nm, seval]
  refine ktA (RQ _ _ _ RP) ?_
  refine bN (fun tm => tm 1 = .sl (ae eI aD) (List.length aD) false ∧ tm 2 = .lit (.int .i64 aV) ∧ tm 3 = .ptr 0 0 ∧ tm 9 = .lit (.int .i64 fF.1) ∧ tm 10 = .lit (.int .i64 fF.2) ∧ tm 62 = .lit (.bool false) ∧ tm 67 = .lit (.bool MP) ∧ True) (by refine ⟨nR, nS, nT, jr, js, ?_, ?_, trivial⟩ <;> first | (simp only [ua, cJ, dC, fS, iJ, k7, nR, nS, nT, jr, js, jD, kl, kT, nm, seval] <;> rfl) | rfl) ?_
  rintro tm ⟨nU, nV, nW, nX, nY, sh, HB, _⟩
  cases qu : (MP)
  ·simp only [qu, hs] at h
   try simp only [vz, tyf, cJ, dC, fS, iJ, k7, nU, nV, nW, nX, nY, sh, HB, qu, nm, seval]
   obtain rfl := kF _ h
   exact bw Tryz.results7 rfl
  simp only [qu, hs] at h
  obtain ⟨MQ, RT, h⟩ := optI h kN
  try simp only [hs] at h
  simp only [vz, tyf, cJ, dC, fS, iJ, k7, nU, nV, nW, nX, nY, sh, HB, qu, nm, seval]
  refine ktA (MR _ _ _ RT) ?_
  refine bN (fun tm => tm 1 = .sl (ae eI aD) (List.length aD) false ∧ tm 2 = .lit (.int .i64 aV) ∧ tm 3 = .ptr 0 0 ∧ tm 9 = .lit (.int .i64 fF.1) ∧ tm 10 = .lit (.int .i64 fF.2) ∧ tm 72 = .lit (.bool MQ) ∧ True) (by refine ⟨nU, nV, nW, nX, nY, ?_, trivial⟩ <;> first | (simp only [ua, cJ, dC, fS, iJ, k7, nU, nV, nW, nX, nY, sh, HB, qu, nm, seval] <;> rfl) | rfl) ?_
  rintro tm ⟨qv, qw, iZ, ja, jb, jc, _⟩
  cases mI : (MQ)
  ·simp only [mI, hs] at h
   have mJ := And.intro cJ (And.intro dC (And.intro fS (And.intro iJ (And.intro k7 (And.intro qu mI)))))
   cases jN : (fF.2 == 2)
   ·simp only [jN, hs] at h
    try simp only [vz, tyf, mJ, qv, qw, iZ, ja, jb, jc, jN, nm, seval]
    obtain rfl := kF _ h
    exact bw Tryz.results7 rfl
   simp only [jN, hs] at h
   cases lr : (fF.1 == 0)
   ·simp only [lr, hs] at h
    try simp only [vz, tyf, mJ, qv, qw, iZ, ja, jb, jc, jN, lr, nm, seval]
    obtain rfl := kF _ h
    exact bw Tryz.results7 rfl
   simp only [lr, hs] at h
   simp only [vz, tyf, mJ, qv, qw, iZ, ja, jb, jc, jN, lr, nm, seval]
   refine ktree0 sd ?_
   try simp only [vz, tyf, mJ, qv, qw, iZ, ja, jb, jc, jN, lr, nm, seval]
   obtain rfl := kF _ h
   exact bw Tryz.results7 rfl
  simp only [mI, hs] at h
  have jO := And.intro cJ (And.intro dC (And.intro fS (And.intro iJ (And.intro k7 (And.intro qu mI)))))
  cases iv : (fF.2 == 0)
  ·simp only [iv, hs] at h
   try simp only [vz, tyf, jO, qv, qw, iZ, ja, jb, jc, iv, nm, seval]
   obtain rfl := kF _ h
   exact bw Tryz.results7 rfl
  simp only [iv, hs] at h
  obtain ⟨v8, HC, h⟩ := optI h kN
  try simp only [hs] at h
  simp only [vz, tyf, jO, qv, qw, iZ, ja, jb, jc, iv, nm, seval]
  refine ktA (RU _ _ _ _ HC) ?_
  refine bN (fun tm => tm 85 = .lit (.bool true) ∧ tm 86 = .lit (.int .i64 fF.1) ∧ tm 90 = .lit (.int .i64 v8) ∧ True) (by refine ⟨?_, ?_, ?_, trivial⟩ <;> first | (simp only [ua, jO, qv, qw, iZ, ja, jb, jc, iv, nm, seval] <;> rfl) | rfl) ?_
  rintro tm ⟨qx, qy, qz, _⟩
  cases lu : (fF.1 == v8)
  ·simp only [lu, hs] at h
   try simp only [vz, tyf, jO, iv, qx, qy, qz, lu, nm, seval]
   obtain rfl := kF _ h
   exact bw Tryz.results7 rfl
  simp only [lu, hs] at h
  simp only [vz, tyf, jO, iv, qx, qy, qz, lu, nm, seval]
  refine ktree0 sd ?_
  try simp only [vz, tyf, jO, iv, qx, qy, qz, lu, nm, seval]
  obtain rfl := kF _ h
  exact bw Tryz.results7 rfl
 simp only [k7, hs] at h
 try simp only [vz, tyf, cJ, dC, fS, fU, iu, lX, lL, jH, jx, jy, gd, fO, iJ, k7, nm, seval]
 obtain rfl := kF _ h
 exact bw Tryz.results7 rfl
theorem RV (b : GBk) (pl : List Int) (s : Int) (hb : aG b.Boards = true ∧ aG b.Strokes = true ∧ ∀ y ∈ b.Strokes, aG y.Needs = true) (hp : aG pl = true) : yg b pl s = some true := by
 have hL := Len.of hb
 unfold yg
 rcases RW hL with e | e
 ·rw [e]; rfl
 simp only [e, Option.bind_some, cond_true, yh, HD hL, HE hL, v9 hL]
 cases (decide ((pl.length : Int) ≤ 9)) with
 | false => rfl
 | true =>
 have bad : (benchB b && planB b pl) = false → qt b pl = some ([], 2) ∧ m9 b pl s = some (0, 2) := by
  intro hbad
  unfold qt m9
  rw [xR hL, xS hL]
  cases hB : benchB b with
  | false => exact ⟨rfl, rfl⟩
  | true =>
   rw [hB, Bool.true_and] at hbad
   rw [hbad]
   exact ⟨rfl, rfl⟩
 cases hBb : benchB b with
 | false =>
  obtain ⟨e1, e2⟩ := bad (by rw [hBb]; rfl)
  rw [e1, e2]; rfl
 | true =>
 cases hP : planB b pl with
 | false =>
  obtain ⟨e1, e2⟩ := bad (by rw [hBb, hP]; rfl)
  rw [e1, e2]; rfl
 | true =>
 have hB := xQ.1 hBb
 have hn := hB.ns
 have hlen := (Fp.1 hP).len
 obtain ⟨c, hc, hcne, hcs, hcf⟩ := HF hB pl
 obtain ⟨hlk, _⟩ := yk hB.h c _ _ _ hcs
 have hinc := (vA c none hlk).1
 have hcl : (c.length : Int) ≤ b.Strokes.length := by
  have := q9 c 0 b.Strokes.length (vA c none hlk).2 (fun x hx => (hinc x hx).1) (by omega)
  omega
 rw [HG hL hB hP hc]
 simp only [Option.bind_some, cond_true, bne_self_eq_false, cond_false, HH hL hB hlen hcne hcs hcf, sameI (show c.length ≤ 1000 by omega)]
 cases hI : inB 0 ((b.Strokes.length : Int) - 1) s with
 | false =>
  have e2 : m9 b pl s = some (0, 2) := by
   unfold m9
   rw [xR hL, xS hL, Mn hL, hBb, hP, hI]; rfl
  rw [e2]; rfl
 | true =>
  have hi := lT.1 hI
  obtain ⟨x, g1, hx⟩ := getS (b := b) (s := s) hi.1 (by omega)
  rw [Fo hL hBb hP hi.1 hx, HI hL hB hlen hi.1 hx]
  simp
end Go.V
end
