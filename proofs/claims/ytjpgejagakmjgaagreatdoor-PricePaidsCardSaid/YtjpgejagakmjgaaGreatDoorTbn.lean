/- Part of a proof. -/
import Derived.Test.YtjpgejagakmjgaaGreatDoorTbm
set_option linter.all false
set_option maxRecDepth 4000
set_option maxHeartbeats 40000000
section
namespace Go.V
open Go Go.Proofs
def zgo (x0_s : GPriceSheet) : Option (Int) := Option.bind (zcq x0_s) (fun r1 => cond (r1) (some 0) (some 2))
theorem znf (x0_s : GPriceSheet) (R : Int) (h : zgo x0_s = some R) : VPure Tryz.prog G0 22 [.agg (cGPriceSheet x0_s)] (.tree (.lit (.int .i64 R))) := by
 refine VPure.runR mixed Tryz.call22 Tryz.func22 rfl (by simp [Tryz.ntmps22]; kernel_rfl) ?_
 obtain ⟨KF, h, kF, kN⟩ := zaq h
 simp only [zgo] at h
 obtain ⟨r2, o3, h⟩ := optI h kN
 try simp only [hs] at h
 simp only [vz, tyf, nm, seval]
 refine ktA (zff _ _ o3) ?_
 refine zar (fun tm => tm 4 = .lit (.bool r2) ∧ True) (by refine ⟨?_, trivial⟩ <;> first | (simp only [ua, nm, seval] <;> rfl) | rfl) ?_
 rintro tm ⟨e4, _⟩
 cases d5 : (r2)
 ·simp only [d5, hs] at h
  try simp only [vz, tyf, e4, d5, nm, seval]
  refine zau (x := (.lit (.int .i64 2))) (by first | (simp only [Tryz.results22, resV, resL, resV1, zat, zbu, uw, cr, tyf, d5, nm, seval] <;> rfl) | rfl) ?_
  obtain rfl := kF _ h
  refine zbc ?_ ?_
  ·simp only [tre, tytre, Bool.and_self]
  ·first | (simp only [outV, uw, zan, cr, tyf, nrm, tynrm, e4, d5, nm, seval] <;> rfl) | rfl
 simp only [d5, hs] at h
 try simp only [vz, tyf, e4, d5, nm, seval]
 refine zau (x := (.lit (.int .i64 0))) (by first | (simp only [Tryz.results22, resV, resL, resV1, zat, zbu, uw, cr, tyf, d5, nm, seval] <;> rfl) | rfl) ?_
 obtain rfl := kF _ h
 refine zbc ?_ ?_
 ·simp only [tre, tytre, Bool.and_self]
 ·first | (simp only [outV, uw, zan, cr, tyf, nrm, tynrm, e4, d5, nm, seval] <;> rfl) | rfl
end Go.V
end
section
namespace Go.V
open Go
def rangeFR (f : FuncId) (cf : CallR) (jump : Code → RS → ER) (n : Nat) (s : RS) (f0 : FuncId) (first captured : List VV) (ps : Array Tmp) (asg bo : Code) : ER :=
 match cf f0 (first ++ [.yl (s.nx + 1)] ++ captured) ((s.H.put s.nx (some (.deferred (some [])))).put (s.nx + 1) (some (.loopF .ready none (tmL n s.st.tm) ps asg bo f))) (s.nx + 2) with
 | .ret _ H' nx' => match H'.get (s.nx + 1) with
  | some (.loopF .busy _ _ _ _ _ _) => .no (.text 1)
  | some (.loopF _ pe tm ps asg bo fn) => match pe with
   | none => .mk .normal { s with H := H'.put (s.nx + 1) (some (.loopF .exhausted pe tm ps asg bo fn)), nx := nx', df := .coll s.nx :: s.df }
   | some c => jump c { s with H := H'.put (s.nx + 1) (some (.loopF .exhausted pe tm ps asg bo fn)), nx := nx', df := .coll s.nx :: s.df }
  | _ => .no (.text 2)
 | .pan x H' nx' => .mk (.panic x) { s with H := H', nx := nx', df := .coll s.nx :: s.df }
 | .no w => .no w
def GoOk (P : Program) (G : Glob) (f n : Nat) (go : Code → RS → ER) : Prop := ∀ code s e s', go code s = .mk e s' → ∀ Q : VExit → St → Prop, Q e s'.st → VGo P G f n code Q s.st
theorem zrb {P : Program} {G : Glob} {cf : CallR} (hcf : CallOk P G cf) {f : FuncId} {jump : Code → RS → ER} {n : Nat} (hj : GoOk P G f n jump) {s s' : RS} {e : VExit} {g : Operand} {f0 : FuncId} {first captured : List VV} {ps : Array Tmp} {asg bo : Code}
  (hg : s.st.ρ G g = .fn (.func f0) first captured) (h : rangeFR f cf jump n s f0 first captured ps asg bo = .mk e s') {Q : VExit → St → Prop} (hq : Q e s'.st) : VGo P G f n (.rangeFunc g ps asg bo) Q s.st := by
 refine VGo.range hg ?_
 unfold rangeFR at h
 have eH : ((s.H.put s.nx (some (.deferred (some [])))).put (s.nx + 1) (some (.loopF .ready none (tmL n s.st.tm) ps asg bo f))).get = updH (updH s.st.H s.st.nx (.deferred (some []))) (s.st.nx + 1) (.loopF .ready none (tmL n s.st.tm) ps asg bo f) := by
  rw [zgd, zgd]; rfl
 split at h
 ·rename_i x H' nx' hc
  have hv := hcf.1 _ _ _ _ _ _ _ hc
  rw [eH] at hv
  refine VOpen.mono hv ?_ ?_
  ·rintro y H1 n1 ⟨_, rfl, rfl⟩
   split at h
   ·cases h
   ·rename_i st pe tm2 ps2 as2 bo2 df2 hnb hl
    have e2 : ({ s with H := H'.put (s.nx + 1) (some (.loopF .exhausted pe tm2 ps2 as2 bo2 df2)), nx := n1, df := .coll s.nx :: s.df } : RS).st = { s.st with H := updH H'.get (s.st.nx + 1) (.loopF .exhausted pe tm2 ps2 as2 bo2 df2), nx := n1, df := .coll s.st.nx :: s.st.df } := by
     simp only [RS.st, zgd]
    refine ⟨st, pe, tm2, ps2, as2, bo2, df2, hl, hnb, ?_⟩
    split at h
    ·cases h
     show Q .normal _
     rw [← e2]; exact hq
    ·rename_i c
     show VGo P _ f n c Q _
     rw [← e2]
     exact hj c _ e s' h Q hq
   ·cases h
  ·intro y H1 n1 h; exact h.elim
 ·rename_i x H' nx' hc
  have hv := hcf.2 _ _ _ _ _ _ _ hc
  rw [eH] at hv
  cases h
  refine VOpen.mono hv ?_ ?_
  ·intro y H1 n1 h; exact h.elim
  ·rintro y H1 n1 ⟨rfl, rfl, rfl⟩
   exact hq
 ·cases h
noncomputable def rangeFF (f : FuncId) (cf : CallR) (jump : Code → RS → ER) (n : Nat) (s : RS) (ps : Array Tmp) (asg bo : Code) (code : Code) (x : VV) : ER := match x with
 | .fn (.func f0) first captured => rangeFR f cf jump n s f0 first captured ps asg bo
 | _ => .no (.code code)
noncomputable def goF (G : Glob) (f : FuncId) (run : RunR) (cf : CallR) (n : Nat) (k : Nat) : Code → RS → ER :=
 Nat.rec (motive := fun _ => Code → RS → ER) (fun code s => run none n code s) (fun _ ih code s => match code with
  | .seq a b => thenQ (ih a s) (fun s' => ih b s')
  | .block id a => blockQ (ih a s) id
  | .rangeFunc g ps asg bo => rangeFF f cf (fun c s => run none n c s) n s ps asg bo code (ρQ G s.tm g)
  | code => run none n code s) k
theorem zare {P : Program} {G : Glob} {f n : Nat} {run : RunR} {cf : CallR} (hrun : RunOk P G run) (hcf : CallOk P G cf) : ∀ (k : Nat), GoOk P G f n (goF G f run cf n k)
 | 0, code, s, e, s', h, Q, hq => VGo.of (hrun none n code s e s' h Q hq)
 | k + 1, code, s, e, s', h, Q, hq => by
  have ih := zare (f := f) (n := n) hrun hcf k
  have dflt : run none n code s = .mk e s' → VGo P G f n code Q s.st := fun h => VGo.of (hrun none n code s e s' h Q hq)
  cases code with
  | seq a b =>
   have h' : thenQ (goF G f run cf n k a s) (fun s' => goF G f run cf n k b s') = .mk e s' := h
   cases hs : goF G f run cf n k a s with
   | no w => rw [hs] at h'; cases h'
   | mk e1 s1 =>
    rw [hs] at h'
    cases e1 with
    | normal => exact VGo.seq (ih a s .normal s1 hs _ (ih b s1 e s' h' Q hq))
    | exit id => cases h'; exact VGo.seq (ih a s _ _ hs _ hq)
    | goto l => cases h'; exact VGo.seq (ih a s _ _ hs _ hq)
    | ret => cases h'; exact VGo.seq (ih a s _ _ hs _ hq)
    | panic x => cases h'; exact VGo.seq (ih a s _ _ hs _ hq)
  | block id a =>
   have h' : blockQ (goF G f run cf n k a s) id = .mk e s' := h
   cases hs : goF G f run cf n k a s with
   | no w => rw [hs] at h'; cases h'
   | mk e1 s1 =>
    rw [hs] at h'
    refine VGo.block (ih a s e1 s1 hs _ ?_)
    cases e1 with
    | normal => cases h'; exact hq
    | goto l => cases h'; exact hq
    | ret => cases h'; exact hq
    | panic x => cases h'; exact hq
    | exit id' =>
     have h'' : Bool.rec (motive := fun _ => ER) (.mk (.exit id') s1) (.mk .normal s1) (Nat.beq id' id) = .mk e s' := h'
     show (if id' = id then _ else _)
     by_cases hid : id' = id
     ·have hb : Nat.beq id' id = true := by simpa using hid
      rw [hb] at h''
      cases h''
      rw [if_pos hid]; exact hq
     ·have hb : Nat.beq id' id = false := by cases hq : Nat.beq id' id with | false => rfl | true => exact absurd (by simpa using hq) hid
      rw [hb] at h''
      cases h''
      rw [if_neg hid]; exact hq
  | rangeFunc g ps asg bo =>
   have h' : rangeFF f cf (fun c s => run none n c s) n s ps asg bo (.rangeFunc g ps asg bo) (ρQ G s.tm g) = .mk e s' := h
   rw [ρQ_eq] at h'
   unfold rangeFF at h'
   split at h'
   ·rename_i f0 first captured hg
    exact zrb hcf (fun c s e s' hs Q hq => VGo.of (hrun none n c s e s' hs Q hq)) hg h' hq
   ·cases h'
  | _ => exact dflt h
noncomputable def enterF (P : Program) (G : Glob) (run : RunR) (cf : CallR) (k : Nat) (f : FuncId) (fn : Func) (code : Code) (args : List VV) (H : Trie VObj) (nx : Nat) : CR :=
 match goF G f run cf fn.ntmps k code (RS.mk (listV args 0 .nil) H nx []) with
 | .mk .ret s => leaveR P G run fn f s s.df .ret s.H s.nx
 | .mk .normal s => leaveR P G run fn f s s.df .ret s.H s.nx
 | .mk (.panic x) s => leaveR P G run fn f s s.df (.pan x false) s.H s.nx
 | .mk _ _ => .no (.fn f)
 | .no w => .no w
noncomputable def cfF1 (P : Program) (G : Glob) (run : RunR) (cf : CallR) (k : Nat) : CallR := fun f args H nx => match textQ P f with
 | some (fn, code) => Bool.rec (motive := fun _ => CR) (.no (.fn f)) (enterF P G run cf k f fn code args H nx) (Nat.ble args.length fn.ntmps)
 | none => .no (.fn f)
theorem zajr {P : Program} {f : FuncId} {fn : Func} {code : Code} (h : textQ P f = some (fn, code)) : P.funcs[f]? = some fn ∧ fn.body = some code ∧ nameQ fn = true := by
 unfold textQ at h
 split at h
 ·cases h
 ·rename_i fn1 hf
  split at h
  ·cases h
  ·rename_i c1 hb
   split at h
   ·rename_i hn
    cases h
    exact ⟨hf, hb, hn⟩
   ·cases h
theorem zvm {P : Program} {G : Glob} {run : RunR} {cf : CallR} {k : Nat} (hrun : RunOk P G run) (hcf : CallOk P G cf) {f : FuncId} {args : List VV} {H : Trie VObj} {nx : Nat} {R Rp : VV → (Nat → Option VObj) → Nat → Prop}
  (h1 : ∀ x H' nx', cfF1 P (G.at (some none)) run cf k f args H nx = .ret x H' nx' → R x H'.get nx') (h2 : ∀ x H' nx', cfF1 P (G.at (some none)) run cf k f args H nx = .pan x H' nx' → Rp x H'.get nx') (h3 : ∀ w, cfF1 P (G.at (some none)) run cf k f args H nx ≠ .no w) : VOpen P G f args H.get nx R Rp := by
 unfold cfF1 at h1 h2 h3
 cases ht : textQ P f with
 | none => exact absurd (by simp only [ht]) (h3 (.fn f))
 | some p =>
  obtain ⟨fn, code⟩ := p
  obtain ⟨hf, hb, hn⟩ := zajr ht
  cases hc : Nat.ble args.length fn.ntmps with
  | false => exact absurd (by simp only [ht, hc]) (h3 (.fn f))
  | true =>
   simp only [ht, hc] at h1 h2 h3
   simp only [Nat.ble_eq] at hc
   unfold enterF at h1 h2 h3
   rw [zua] at h1 h2 h3
   cases hr : goF (G.at (some none)) f run cf fn.ntmps k code (RS.mk (Trie.ofList 0 args .nil) H nx []) with
   | no w => exact absurd (by rw [hr]) (h3 w)
   | mk e s =>
    rw [hr] at h1 h2 h3
    have body : OpenPostD P G fn R Rp e s.st → VOpen P G f args H.get nx R Rp := by
     intro hq
     have := zare (G := G.at (some none)) (f := f) (n := fn.ntmps) hrun hcf k code _ e s hr _ hq
     rw [argsR] at this
     exact VOpen.of_bodyGo (zkn hf hb hn) hf hb hc this
    cases e with
    | ret => exact body (zdx hrun s.df .ret s.H s.nx h1 h2 h3)
    | normal => exact body (zdx hrun s.df .ret s.H s.nx h1 h2 h3)
    | panic x => exact body (zdx hrun s.df (.pan x false) s.H s.nx h1 h2 h3)
    | exit id => exact absurd rfl (h3 (.fn f))
    | goto l => exact absurd rfl (h3 (.fn f))
noncomputable def cfF (P : Program) (G : Glob) (run : RunR) (fs : List Nat) (k : Nat) : CallR := fun f args H nx => match fs.elem f with
 | true => cfF1 P G run (cfQ P G run) k f args H nx
 | false => cfQ P G run f args H nx
theorem zamq {P : Program} {G : Glob} {run : RunR} {fs : List Nat} {k : Nat} (hrun : RunOk P G run) : CallOk P G (cfF P (G.at (some none)) run fs k) := by
 have hcf : CallOk P G (cfQ P (G.at (some none)) run) := by rw [zait]; exact zkb hrun
 constructor
 ·intro f args H nx x H' nx' h
  unfold cfF at h
  split at h
  ·exact zvm hrun hcf (fun y H1 n1 e => by rw [h] at e; cases e; exact ⟨rfl, rfl, rfl⟩) (fun y H1 n1 e => by rw [h] at e; cases e) (fun w e => by rw [h] at e; cases e)
  ·exact hcf.1 _ _ _ _ _ _ _ h
 ·intro f args H nx x H' nx' h
  unfold cfF at h
  split at h
  ·exact zvm hrun hcf (fun y H1 n1 e => by rw [h] at e; cases e) (fun y H1 n1 e => by rw [h] at e; cases e; exact ⟨rfl, rfl, rfl⟩) (fun w e => by rw [h] at e; cases e)
  ·exact hcf.2 _ _ _ _ _ _ _ h
noncomputable def runF (P : Program) (G : Glob) (fs : List Nat) (tab : KTab) (k : Nat) : RunR :=
 Nat.rec (motive := fun _ => RunR) (fun _ _ _ _ => .no .fuel) (fun k ih ro n code s => bodyA k ih (cfT tab (cfF P (G.at (some none)) ih fs k)) ro n s (ccB P G code)) k
theorem zqo {P : Program} {G : Glob} {fs : List Nat} {tab : KTab} (hm : P.follows .mixedOrders = true) (ht : KTabOk P G tab) : ∀ (k : Nat), RunOk P G (runF P G fs tab k)
 | 0, _, _, _, _, _, _, h => by cases h
 | k + 1, ro, n, code, s, e, s', h => by
  intro Q hq
  have ih := zqo (G := G) (fs := fs) hm ht k
  exact zoo hm ih (zasx ht (zamq ih)) h hq
noncomputable def closedF (P : Program) (G : Glob) (fs : List Nat) (tab : KTab) (k : Nat) (f : FuncId) (args : List VV) : PRes ⊕ Why := pureQ (cfF P (G.at (some none)) (runF P G fs tab k) fs k) f args
theorem VPure.closedF {P : Program} {G : Glob} {fs : List Nat} {tab : KTab} (hm : P.follows .mixedOrders = true) (ht : KTabOk P G tab) (k : Nat) {f : FuncId} {args : List VV} {r : PRes} (h : closedF P G fs tab k f args = .inl r) : VPure P G f args r := by
 unfold Go.V.closedF at h
 rw [zpz] at h
 exact zga (zamq (zqo hm ht k)) h
end Go.V
end
section
namespace Go.V
open Go Go.Proofs
theorem hmix : Tryz.prog.follows .mixedOrders = true := by kernel_rfl
def kP : VV := (VV.agg [(VV.sl [(VV.lit (Value.int IntKind.i64 (Int.ofNat 0))), (VV.lit (Value.int IntKind.i64 (Int.ofNat 25)))] 2 Bool.false), (VV.sl [(VV.lit (Value.int IntKind.i64 (Int.ofNat 7))), (VV.lit (Value.int IntKind.i64 (Int.ofNat 10))), (VV.lit (Value.int IntKind.i64 (Int.ofNat 3))), (VV.lit (Value.int IntKind.i64 (Int.ofNat 4))), (VV.lit (Value.int IntKind.i64 (Int.ofNat 0))), (VV.lit (Value.int IntKind.i64 (Int.ofNat 5))), (VV.lit (Value.int IntKind.i64 (Int.ofNat 6))), (VV.lit (Value.int IntKind.i64 (Int.ofNat 2))), (VV.lit (Value.int IntKind.i64 (Int.ofNat 2))), (VV.lit (Value.int IntKind.i64 (Int.ofNat 1)))] 2 Bool.false), (VV.sl [(VV.lit (Value.int IntKind.i64 (Int.ofNat 1))), (VV.lit (Value.int IntKind.i64 (Int.ofNat 5))), (VV.lit (Value.int IntKind.i64 (Int.ofNat 3))), (VV.lit (Value.int IntKind.i64 (Int.ofNat 3))), (VV.lit (Value.bool Bool.true)), (VV.lit (Value.int IntKind.i64 (Int.ofNat 2))), (VV.lit (Value.int IntKind.i64 (Int.ofNat 5))), (VV.lit (Value.int IntKind.i64 (Int.ofNat 4))), (VV.lit (Value.int IntKind.i64 (Int.ofNat 1))), (VV.lit (Value.bool Bool.false)), (VV.lit (Value.int IntKind.i64 (Int.ofNat 3))), (VV.lit (Value.int IntKind.i64 (Int.ofNat 4))), (VV.lit (Value.int IntKind.i64 (Int.ofNat 1))), (VV.lit (Value.int IntKind.i64 (Int.ofNat 2))), (VV.lit (Value.bool Bool.true))] 3 Bool.false)])
def kPaid : VV := (VV.tup [(VV.agg [(VV.lit (Value.int IntKind.i64 (Int.ofNat 20))), (VV.lit (Value.int IntKind.i64 (Int.ofNat 24)))]), (VV.lit (Value.int IntKind.i64 (Int.ofNat 0)))])
def kTotal : VV := (VV.tup [(VV.lit (Value.int IntKind.i64 (Int.ofNat 24))), (VV.lit (Value.int IntKind.i64 (Int.ofNat 0)))])
def kParts : VV := (VV.tup [(VV.sl [(VV.lit (Value.int IntKind.i64 (Int.ofNat 12))), (VV.lit (Value.int IntKind.i64 (Int.ofNat 7)))] 2 Bool.false), (VV.lit (Value.int IntKind.i64 (Int.ofNat 0)))])
def kRules : VV := (VV.tup [(VV.sl [(VV.lit (Value.int IntKind.i64 (Int.ofNat 19))), (VV.lit (Value.int IntKind.i64 (Int.ofNat 21))), (VV.lit (Value.int IntKind.i64 (Int.ofNat 20))), (VV.lit (Value.int IntKind.i64 (Int.ofNat 20)))] 4 Bool.false), (VV.lit (Value.int IntKind.i64 (Int.ofNat 0)))])
def kSame : VV := (VV.tup [(VV.lit (Value.int IntKind.i64 (Int.ofNat 2))), (VV.lit (Value.int IntKind.i64 (Int.ofNat 0)))])
def kWhen : VV := (VV.tup [(VV.sl [(VV.lit (Value.int IntKind.i64 (Int.ofNat 3))), (VV.lit (Value.int IntKind.i64 (Int.ofNat 2)))] 2 Bool.false), (VV.lit (Value.int IntKind.i64 (Int.ofNat 0)))])
def kWhere : VV := (VV.tup [(VV.lit (Value.int IntKind.i64 (Int.ofNat 1))), (VV.lit (Value.int IntKind.i64 (Int.ofNat 0)))])
def kChange : VV := (VV.tup [(VV.lit (Value.int IntKind.i64 (Int.ofNat 6))), (VV.lit (Value.int IntKind.i64 (Int.ofNat 0)))])
def kCheapest : VV := (VV.tup [(VV.lit (Value.int IntKind.i64 (Int.ofNat 0))), (VV.lit (Value.int IntKind.i64 (Int.ofNat 20))), (VV.lit (Value.int IntKind.i64 (Int.ofNat 0)))])
def kShare : VV := (VV.tup [(VV.sl [(VV.lit (Value.int IntKind.i64 (Int.ofNat 13))), (VV.lit (Value.int IntKind.i64 (Int.ofNat 7)))] 2 Bool.false), (VV.lit (Value.int IntKind.i64 (Int.ofNat 0)))])
def kLoses : VV := (VV.tup [(VV.sl [(VV.lit (Value.int IntKind.i64 (Int.ofNat 1))), (VV.lit (Value.int IntKind.i64 (Int.ofNat 0)))] 2 Bool.false), (VV.lit (Value.int IntKind.i64 (Int.ofNat 0)))])
def kOwes : VV := (VV.tup [(VV.sl [(VV.lit (Value.int IntKind.i64 (Int.ofNat 12))), (VV.lit (Value.int IntKind.i64 (Int.ofNat 6)))] 2 Bool.false), (VV.lit (Value.int IntKind.i64 (Int.ofNat 0)))])
def kRead : VV := (VV.tup [(VV.agg [(VV.sl [(VV.lit (Value.int IntKind.i64 (Int.ofNat 0)))] 1 Bool.false), (VV.sl [(VV.lit (Value.int IntKind.i64 (Int.ofNat 1))), (VV.lit (Value.int IntKind.i64 (Int.ofNat 1))), (VV.lit (Value.int IntKind.i64 (Int.ofNat 1))), (VV.lit (Value.int IntKind.i64 (Int.ofNat 1))), (VV.lit (Value.int IntKind.i64 (Int.ofNat 0)))] 1 Bool.false), (VV.sl [(VV.lit (Value.int IntKind.i64 (Int.ofNat 3))), (VV.lit (Value.int IntKind.i64 (Int.ofNat 1))), (VV.lit (Value.int IntKind.i64 (Int.ofNat 1))), (VV.lit (Value.int IntKind.i64 (Int.ofNat 1))), (VV.lit (Value.bool Bool.false))] 1 Bool.false)]), (VV.lit (Value.int IntKind.i64 (Int.ofNat 0)))])
theorem pP : VPure Tryz.prog G0 60 [] (.tree kP) := VPure.closedF (fs := [108]) (tab := []) hmix trivial 1000 (by kernel_rfl)
theorem pPaid : VPure Tryz.prog G0 23 [kP, .lit (.int .i64 (2))] (.tree kPaid) := VPure.closedF (fs := [108]) (tab := []) hmix trivial 1000 (by kernel_rfl)
theorem pTotal : VPure Tryz.prog G0 24 [kP, .lit (.int .i64 (2)), .sl [.lit (.int .i64 (4)), .lit (.int .i64 (2))] 2 false] (.tree kTotal) := VPure.closedF (fs := [108]) (tab := []) hmix trivial 1000 (by kernel_rfl)
theorem pParts : VPure Tryz.prog G0 33 [kP, .lit (.int .i64 (1)), .sl [.lit (.int .i64 (3)), .lit (.int .i64 (2))] 2 false] (.tree kParts) := VPure.closedF (fs := [108]) (tab := []) hmix trivial 1000 (by kernel_rfl)
theorem pRules : VPure Tryz.prog G0 34 [kP, .lit (.int .i64 (0)), .sl [.lit (.int .i64 (3)), .lit (.int .i64 (2))] 2 false] (.tree kRules) := VPure.closedF (fs := [108]) (tab := []) hmix trivial 1000 (by kernel_rfl)
theorem pSame : VPure Tryz.prog G0 38 [kP, .lit (.int .i64 (0)), .lit (.int .i64 (2))] (.tree kSame) := VPure.closedF (fs := [108]) (tab := []) hmix trivial 1000 (by kernel_rfl)
theorem pWhen : VPure Tryz.prog G0 39 [kP, .lit (.int .i64 (0)), .lit (.int .i64 (2))] (.tree kWhen) := VPure.closedF (fs := [108]) (tab := []) hmix trivial 1000 (by kernel_rfl)
theorem pWhere : VPure Tryz.prog G0 44 [kP, .lit (.int .i64 (0)), .lit (.int .i64 (1)), .sl [.lit (.int .i64 (3)), .lit (.int .i64 (2))] 2 false] (.tree kWhere) := VPure.closedF (fs := [108]) (tab := []) hmix trivial 1000 (by kernel_rfl)
theorem pChange : VPure Tryz.prog G0 48 [kP, .lit (.int .i64 (0)), .lit (.int .i64 (2)), .sl [.lit (.int .i64 (4)), .lit (.int .i64 (2))] 2 false] (.tree kChange) := VPure.closedF (fs := [108]) (tab := []) hmix trivial 1000 (by kernel_rfl)
theorem pCheapest : VPure Tryz.prog G0 45 [kP, .sl [.lit (.int .i64 (4)), .lit (.int .i64 (2))] 2 false] (.tree kCheapest) := VPure.closedF (fs := [108]) (tab := []) hmix trivial 1000 (by kernel_rfl)
theorem pShare : VPure Tryz.prog G0 52 [kP, .lit (.int .i64 (1)), .sl [.lit (.int .i64 (3)), .lit (.int .i64 (2))] 2 false] (.tree kShare) := VPure.closedF (fs := [108]) (tab := []) hmix trivial 1000 (by kernel_rfl)
theorem pLoses : VPure Tryz.prog G0 53 [kP, .lit (.int .i64 (1)), .sl [.lit (.int .i64 (3)), .lit (.int .i64 (2))] 2 false] (.tree kLoses) := VPure.closedF (fs := [108]) (tab := []) hmix trivial 1000 (by kernel_rfl)
theorem pOwes : VPure Tryz.prog G0 58 [kP, .lit (.int .i64 (0)), .sl [.lit (.int .i64 (3)), .lit (.int .i64 (2))] 2 false] (.tree kOwes) := VPure.closedF (fs := [108]) (tab := []) hmix trivial 1000 (by kernel_rfl)
theorem pRead : VPure Tryz.prog G0 61 [.lit (.string ⟨⟨[112, 114, 105, 99, 101, 10, 111, 119, 110, 101, 114, 32, 48, 10, 98, 111, 97, 114, 100, 32, 49, 32, 49, 32, 49, 32, 49, 32, 48, 10, 104, 111, 117, 114, 32, 49, 32, 49, 32, 100, 111, 119, 110, 32, 97, 108, 108, 10, 101, 110, 100, 32, 48, 54, 57, 10]⟩⟩)] (.tree kRead) := VPure.closedF (fs := [108]) (tab := []) hmix trivial 1000 (by kernel_rfl)
def kTab : KTab := [
  (60, [], kP),
  (23, [kP, .lit (.int .i64 (2))], kPaid),
  (24, [kP, .lit (.int .i64 (2)), .sl [.lit (.int .i64 (4)), .lit (.int .i64 (2))] 2 false], kTotal),
  (33, [kP, .lit (.int .i64 (1)), .sl [.lit (.int .i64 (3)), .lit (.int .i64 (2))] 2 false], kParts),
  (34, [kP, .lit (.int .i64 (0)), .sl [.lit (.int .i64 (3)), .lit (.int .i64 (2))] 2 false], kRules),
  (38, [kP, .lit (.int .i64 (0)), .lit (.int .i64 (2))], kSame),
  (39, [kP, .lit (.int .i64 (0)), .lit (.int .i64 (2))], kWhen),
  (44, [kP, .lit (.int .i64 (0)), .lit (.int .i64 (1)), .sl [.lit (.int .i64 (3)), .lit (.int .i64 (2))] 2 false], kWhere),
  (48, [kP, .lit (.int .i64 (0)), .lit (.int .i64 (2)), .sl [.lit (.int .i64 (4)), .lit (.int .i64 (2))] 2 false], kChange),
  (45, [kP, .sl [.lit (.int .i64 (4)), .lit (.int .i64 (2))] 2 false], kCheapest),
  (52, [kP, .lit (.int .i64 (1)), .sl [.lit (.int .i64 (3)), .lit (.int .i64 (2))] 2 false], kShare),
  (53, [kP, .lit (.int .i64 (1)), .sl [.lit (.int .i64 (3)), .lit (.int .i64 (2))] 2 false], kLoses),
  (58, [kP, .lit (.int .i64 (0)), .sl [.lit (.int .i64 (3)), .lit (.int .i64 (2))] 2 false], kOwes),
  (61, [.lit (.string ⟨⟨[112, 114, 105, 99, 101, 10, 111, 119, 110, 101, 114, 32, 48, 10, 98, 111, 97, 114, 100, 32, 49, 32, 49, 32, 49, 32, 49, 32, 48, 10, 104, 111, 117, 114, 32, 49, 32, 49, 32, 100, 111, 119, 110, 32, 97, 108, 108, 10, 101, 110, 100, 32, 48, 54, 57, 10]⟩⟩)], kRead)]
theorem kTabOk : KTabOk Tryz.prog G0 kTab := ⟨⟨by kernel_rfl, pP⟩, ⟨⟨by kernel_rfl, pPaid⟩, ⟨⟨by kernel_rfl, pTotal⟩, ⟨⟨by kernel_rfl, pParts⟩, ⟨⟨by kernel_rfl, pRules⟩, ⟨⟨by kernel_rfl, pSame⟩, ⟨⟨by kernel_rfl, pWhen⟩, ⟨⟨by kernel_rfl, pWhere⟩, ⟨⟨by kernel_rfl, pChange⟩, ⟨⟨by kernel_rfl, pCheapest⟩, ⟨⟨by kernel_rfl, pShare⟩, ⟨⟨by kernel_rfl, pLoses⟩, ⟨⟨by kernel_rfl, pOwes⟩, ⟨⟨by kernel_rfl, pRead⟩, trivial⟩⟩⟩⟩⟩⟩⟩⟩⟩⟩⟩⟩⟩⟩
theorem pKnown : VPure Tryz.prog G0 21 [] (.tree (.lit (.bool true))) := VPure.closedF (fs := [108]) hmix kTabOk 1000 (by kernel_rfl)
#print axioms pKnown
theorem zdc : VPure Tryz.prog G0 21 [] (.tree (.lit (.bool true))) := pKnown
def zef (x0_s : GPriceSheet) (x1_a1 : Int) (x2_a2 : List Int) : Option (Bool) := Option.bind (zer x0_s) (fun r1 => cond (r1) (Option.bind (zfd x2_a2) (fun r2 => cond (r2) (Option.bind (zgo x0_s) (fun r3 => Option.bind (zel x0_s x1_a1) (fun r4 => Option.bind (zdt x0_s x1_a1 x2_a2) (fun r5 => Option.bind (zfp x0_s) (fun r6 => cond (r6) (Option.bind (zev x0_s x1_a1) (fun r7 => cond (r7) (Option.bind (getI x0_s.Tariffs x1_a1) (fun x8 => cond (r3 != 0) (some false) (cond (r4.2 != 0) (some false) (Option.bind (zgh x0_s x8) (fun r9 => cond (r4.1.Low == r9.Low && (r4.1.High == r9.High)) (Option.bind (zfm x0_s x2_a2) (fun r10 => cond (r10) (cond (r5.2 == 0) (Option.bind (zdu x0_s x8 x2_a2) (fun r11 => cond (r5.1 == r11) (some true) (some false))) (some false)) (cond (r5.2 == 2) (cond (r5.1 == 0) (some true) (some false)) (some false)))) (some false)))))) (cond (r3 == 0) (cond (r4.2 == 2) (cond (r4.1.Low == 0 && (r4.1.High == 0)) (cond (r5.2 == 2) (cond (r5.1 == 0) (some true) (some false)) (some false)) (some false)) (some false)) (some false)))) (cond (r3 == 2) (cond (r4.2 == 2) (cond (r4.1.Low == 0 && (r4.1.High == 0)) (cond (r5.2 == 2) (cond (r5.1 == 0) (some true) (some false)) (some false)) (some false)) (some false)) (some false))))))) (some true))) (some true))
theorem zin (x0_s : GPriceSheet) (x1_a1 : Int) (x2_a2 : List Int) (R : Bool) (h : zef x0_s x1_a1 x2_a2 = some R) : VPure Tryz.prog G0 3 [.agg (cGPriceSheet x0_s), .lit (.int .i64 x1_a1), .sl (cellsL eI x2_a2) (List.length x2_a2) false] (.tree (.lit (.bool R))) := by
 refine VPure.runR mixed Tryz.call3 Tryz.func3 rfl (by simp [Tryz.ntmps3]; kernel_rfl) ?_
 obtain ⟨KF, h, kF, kN⟩ := zaq h
 simp only [zef] at h
 obtain ⟨r12, o13, h⟩ := optI h kN
 try simp only [hs] at h
 simp only [vz, tyf, nm, seval]
 refine ktA (zlr _ _ o13) ?_
 refine zar (fun tm => tm 1 = .lit (.int .i64 x1_a1) ∧ tm 2 = .sl (cellsL eI x2_a2) (List.length x2_a2) false ∧ tm 3 = .ptr 0 0 ∧ tm 14 = .lit (.bool r12) ∧ True) (by refine ⟨?_, ?_, ?_, ?_, trivial⟩ <;> first | (simp only [ua, nm, seval] <;> rfl) | rfl) ?_
 rintro tm ⟨e14, e15, e16, e17, _⟩
 cases d18 : (r12)
 ·simp only [d18, hs] at h
  simp only [vz, tyf, e14, e15, e16, e17, d18, nm, seval]
  refine ktree0 zdc ?_
  try simp only [vz, tyf, e14, e15, e16, e17, d18, nm, seval]
  obtain rfl := kF _ h
  exact zai Tryz.results3 rfl
 simp only [d18, hs] at h
 obtain ⟨r19, o20, h⟩ := optI h kN
 try simp only [hs] at h
 simp only [vz, tyf, e14, e15, e16, e17, d18, nm, seval]
 refine ktA (znv _ _ o20) ?_
 refine zar (fun tm => tm 1 = .lit (.int .i64 x1_a1) ∧ tm 2 = .sl (cellsL eI x2_a2) (List.length x2_a2) false ∧ tm 3 = .ptr 0 0 ∧ tm 16 = .lit (.bool false) ∧ tm 18 = .lit (.bool r19) ∧ True) (by refine ⟨e14, e15, e16, ?_, ?_, trivial⟩ <;> first | (simp only [ua, e14, e15, e16, e17, d18, nm, seval] <;> rfl) | rfl) ?_
 rintro tm ⟨e21, e22, e23, e24, e25, _⟩
 cases d26 : (r19)
 ·simp only [d26, hs] at h
  simp only [vz, tyf, d18, e21, e22, e23, e24, e25, d26, nm, seval]
  refine ktree0 zdc ?_
  try simp only [vz, tyf, d18, e21, e22, e23, e24, e25, d26, nm, seval]
  obtain rfl := kF _ h
  exact zai Tryz.results3 rfl
 simp only [d26, hs] at h
 obtain ⟨r27, o28, h⟩ := optI h kN
 try simp only [hs] at h
 simp only [vz, tyf, d18, e21, e22, e23, e24, e25, d26, nm, seval]
 refine ktA (znf _ _ o28) ?_
 refine zar (fun tm => tm 1 = .lit (.int .i64 x1_a1) ∧ tm 2 = .sl (cellsL eI x2_a2) (List.length x2_a2) false ∧ tm 3 = .ptr 0 0 ∧ tm 23 = .lit (.int .i64 r27) ∧ True) (by refine ⟨e21, e22, e23, ?_, trivial⟩ <;> first | (simp only [ua, d18, e21, e22, e23, e24, e25, d26, nm, seval] <;> rfl) | rfl) ?_
 rintro tm ⟨e29, e30, e31, e32, _⟩
 obtain ⟨r33, o34, h⟩ := optI h kN
 try simp only [hs] at h
 simp only [vz, tyf, d18, d26, e29, e30, e31, e32, nm, seval]
 refine ktA (znt _ _ _ o34) ?_
 refine zar (fun tm => tm 1 = .lit (.int .i64 x1_a1) ∧ tm 2 = .sl (cellsL eI x2_a2) (List.length x2_a2) false ∧ tm 3 = .ptr 0 0 ∧ tm 7 = .lit (.int .i64 r27) ∧ tm 27 = .tup [.agg (cGSpan r33.1), .lit (.int .i64 r33.2)] ∧ True) (by refine ⟨e29, e30, e31, ?_, ?_, trivial⟩ <;> first | (simp only [ua, d18, d26, e29, e30, e31, e32, nm, seval] <;> rfl) | rfl) ?_
 rintro tm ⟨e35, e36, e37, e38, e39, _⟩
 obtain ⟨r40, o41, h⟩ := optI h kN
 try simp only [hs] at h
 simp only [vz, tyf, d18, d26, e35, e36, e37, e38, e39, nm, seval]
 refine ktA (zmn _ _ _ _ o41) ?_
 refine zar (fun tm => tm 1 = .lit (.int .i64 x1_a1) ∧ tm 2 = .sl (cellsL eI x2_a2) (List.length x2_a2) false ∧ tm 3 = .ptr 0 0 ∧ tm 7 = .lit (.int .i64 r27) ∧ tm 8 = .ptr 19 0 ∧ tm 9 = .lit (.int .i64 r33.2) ∧ tm 34 = .tup [.lit (.int .i64 r40.1), .lit (.int .i64 r40.2)] ∧ True) (by refine ⟨e35, e36, e37, e38, ?_, ?_, ?_, trivial⟩ <;> first | (simp only [ua, d18, d26, e35, e36, e37, e38, e39, nm, seval] <;> rfl) | rfl) ?_
 rintro tm ⟨e42, e43, e44, e45, e46, e47, e48, _⟩
 obtain ⟨r49, o50, h⟩ := optI h kN
 try simp only [hs] at h
 simp only [vz, tyf, d18, d26, e42, e43, e44, e45, e46, e47, e48, nm, seval]
 refine ktA (zme _ _ o50) ?_
 refine zar (fun tm => tm 1 = .lit (.int .i64 x1_a1) ∧ tm 2 = .sl (cellsL eI x2_a2) (List.length x2_a2) false ∧ tm 3 = .ptr 0 0 ∧ tm 7 = .lit (.int .i64 r27) ∧ tm 8 = .ptr 19 0 ∧ tm 9 = .lit (.int .i64 r33.2) ∧ tm 10 = .lit (.int .i64 r40.1) ∧ tm 11 = .lit (.int .i64 r40.2) ∧ tm 38 = .lit (.bool r49) ∧ True) (by refine ⟨e42, e43, e44, e45, e46, e47, ?_, ?_, ?_, trivial⟩ <;> first | (simp only [ua, d18, d26, e42, e43, e44, e45, e46, e47, e48, nm, seval] <;> rfl) | rfl) ?_
 rintro tm ⟨e51, e52, e53, e54, e55, e56, e57, e58, e59, _⟩
 cases d60 : (r49)
 ·simp only [d60, hs] at h
  cases d61 : (r27 == 2)
  ·simp only [d61, hs] at h
   try simp only [vz, tyf, d18, d26, e51, e52, e53, e54, e55, e56, e57, e58, e59, d60, d61, nm, seval]
   obtain rfl := kF _ h
   exact zai Tryz.results3 rfl
  simp only [d61, hs] at h
  cases d62 : (r33.2 == 2)
  ·simp only [d62, hs] at h
   try simp only [vz, tyf, d18, d26, e51, e52, e53, e54, e55, e56, e57, e58, e59, d60, d61, d62, nm, seval]
   obtain rfl := kF _ h
   exact zai Tryz.results3 rfl
  simp only [d62, hs] at h
  cases d63 : (r33.1.Low == 0 && (r33.1.High == 0))
  ·simp only [d63, hs] at h
   try simp only [vz, tyf, d18, d26, e51, e52, e53, e54, e55, e56, e57, e58, e59, d60, d61, d62, d63, nm, seval]
   obtain rfl := kF _ h
   exact zai Tryz.results3 rfl
  simp only [d63, hs] at h
  cases d64 : (r40.2 == 2)
  ·simp only [d64, hs] at h
   have b65 := And.intro d18 (And.intro d26 (And.intro d60 (And.intro d61 (And.intro d62 (And.intro d63 d64)))))
   try simp only [vz, tyf, b65, e51, e52, e53, e54, e55, e56, e57, e58, e59, nm, seval]
   obtain rfl := kF _ h
   exact zai Tryz.results3 rfl
  simp only [d64, hs] at h
  have b66 := And.intro d18 (And.intro d26 (And.intro d60 (And.intro d61 (And.intro d62 (And.intro d63 d64)))))
  cases d67 : (r40.1 == 0)
  ·simp only [d67, hs] at h
   try simp only [vz, tyf, b66, e51, e52, e53, e54, e55, e56, e57, e58, e59, d67, nm, seval]
   obtain rfl := kF _ h
   exact zai Tryz.results3 rfl
  simp only [d67, hs] at h
  simp only [vz, tyf, b66, e51, e52, e53, e54, e55, e56, e57, e58, e59, d67, nm, seval]
  refine ktree0 zdc ?_
  try simp only [vz, tyf, b66, e51, e52, e53, e54, e55, e56, e57, e58, e59, d67, nm, seval]
  obtain rfl := kF _ h
  exact zai Tryz.results3 rfl
 simp only [d60, hs] at h
 obtain ⟨r68, o69, h⟩ := optI h kN
 try simp only [hs] at h
 simp only [vz, tyf, d18, d26, e51, e52, e53, e54, e55, e56, e57, e58, e59, d60, nm, seval]
 refine ktA (zlb _ _ _ o69) ?_
 refine zar (fun tm => tm 1 = .lit (.int .i64 x1_a1) ∧ tm 2 = .sl (cellsL eI x2_a2) (List.length x2_a2) false ∧ tm 3 = .ptr 0 0 ∧ tm 7 = .lit (.int .i64 r27) ∧ tm 8 = .ptr 19 0 ∧ tm 9 = .lit (.int .i64 r33.2) ∧ tm 10 = .lit (.int .i64 r40.1) ∧ tm 11 = .lit (.int .i64 r40.2) ∧ tm 64 = .lit (.bool r68) ∧ True) (by refine ⟨e51, e52, e53, e54, e55, e56, e57, e58, ?_, trivial⟩ <;> first | (simp only [ua, d18, d26, e51, e52, e53, e54, e55, e56, e57, e58, e59, d60, nm, seval] <;> rfl) | rfl) ?_
 rintro tm ⟨e70, e71, e72, e73, e74, e75, e76, e77, e78, _⟩
 cases d79 : (r68)
 ·simp only [d79, hs] at h
  cases d80 : (r27 == 0)
  ·simp only [d80, hs] at h
   try simp only [vz, tyf, d18, d26, d60, e70, e71, e72, e73, e74, e75, e76, e77, e78, d79, d80, nm, seval]
   obtain rfl := kF _ h
   exact zai Tryz.results3 rfl
  simp only [d80, hs] at h
  cases d81 : (r33.2 == 2)
  ·simp only [d81, hs] at h
   try simp only [vz, tyf, d18, d26, d60, e70, e71, e72, e73, e74, e75, e76, e77, e78, d79, d80, d81, nm, seval]
   obtain rfl := kF _ h
   exact zai Tryz.results3 rfl
  simp only [d81, hs] at h
  cases d82 : (r33.1.Low == 0 && (r33.1.High == 0))
  ·simp only [d82, hs] at h
   have b83 := And.intro d18 (And.intro d26 (And.intro d60 (And.intro d79 (And.intro d80 (And.intro d81 d82)))))
   try simp only [vz, tyf, b83, e70, e71, e72, e73, e74, e75, e76, e77, e78, nm, seval]
   obtain rfl := kF _ h
   exact zai Tryz.results3 rfl
  simp only [d82, hs] at h
  have b84 := And.intro d18 (And.intro d26 (And.intro d60 (And.intro d79 (And.intro d80 (And.intro d81 d82)))))
  cases d85 : (r40.2 == 2)
  ·simp only [d85, hs] at h
   try simp only [vz, tyf, b84, e70, e71, e72, e73, e74, e75, e76, e77, e78, d85, nm, seval]
   obtain rfl := kF _ h
   exact zai Tryz.results3 rfl
  simp only [d85, hs] at h
  cases d86 : (r40.1 == 0)
  ·simp only [d86, hs] at h
   try simp only [vz, tyf, b84, e70, e71, e72, e73, e74, e75, e76, e77, e78, d85, d86, nm, seval]
   obtain rfl := kF _ h
   exact zai Tryz.results3 rfl
  simp only [d86, hs] at h
  simp only [vz, tyf, b84, e70, e71, e72, e73, e74, e75, e76, e77, e78, d85, d86, nm, seval]
  refine ktree0 zdc ?_
  try simp only [vz, tyf, b84, e70, e71, e72, e73, e74, e75, e76, e77, e78, d85, d86, nm, seval]
  obtain rfl := kF _ h
  exact zai Tryz.results3 rfl
 simp only [d79, hs] at h
 obtain ⟨x87, o88, h⟩ := optI h kN
 try simp only [hs] at h
 simp only [vz, tyf, d18, d26, d60, e70, e71, e72, e73, e74, e75, e76, e77, e78, d79, (ix24 o88), nm, seval]
 refine zig (fun tm => tm 2 = .sl (cellsL eI x2_a2) (List.length x2_a2) false ∧ tm 3 = .ptr 0 0 ∧ tm 7 = .lit (.int .i64 r27) ∧ tm 8 = .ptr 19 0 ∧ tm 9 = .lit (.int .i64 r33.2) ∧ tm 10 = .lit (.int .i64 r40.1) ∧ tm 11 = .lit (.int .i64 r40.2) ∧ tm 12 = .ptr 43 0 ∧ True) (by refine ⟨e71, e72, e73, e74, e75, e76, e77, ?_, trivial⟩ <;> first | (simp only [ua, d18, d26, d60, e70, e71, e72, e73, e74, e75, e76, e77, e78, d79, nm, seval] <;> rfl) | rfl) ?_
 rintro tm ⟨e89, e90, e91, e92, e93, e94, e95, e96, _⟩
 cases d97 : (r27 != 0)
 ·simp only [d97, hs] at h
  cases d98 : (r33.2 != 0)
  ·simp only [d98, hs] at h
   obtain ⟨r99, o100, h⟩ := optI h kN
   try simp only [hs] at h
   simp only [vz, tyf, d18, d26, d60, d79, (ix24 o88), e89, e90, e91, e92, e93, e94, e95, e96, d97, d98, nm, seval]
   refine dktA (zno _ _ _ o100) ?_
   refine zar (fun tm => tm 2 = .sl (cellsL eI x2_a2) (List.length x2_a2) false ∧ tm 3 = .ptr 0 0 ∧ tm 10 = .lit (.int .i64 r40.1) ∧ tm 11 = .lit (.int .i64 r40.2) ∧ tm 12 = .ptr 43 0 ∧ tm 99 = .lit (.bool false) ∧ tm 100 = .agg (cGSpan r33.1) ∧ tm 103 = .agg (cGSpan r99) ∧ True) (by refine ⟨e89, e90, e94, e95, e96, ?_, ?_, ?_, trivial⟩ <;> first | (simp only [ua, d18, d26, d60, d79, e89, e90, e91, e92, e93, e94, e95, e96, d97, d98, nm, seval] <;> rfl) | rfl) ?_
   rintro tm ⟨e101, e102, e103, e104, e105, e106, e107, e108, _⟩
   cases d109 : (r33.1.Low == r99.Low && (r33.1.High == r99.High))
   ·simp only [d109, hs] at h
    have b110 := And.intro d18 (And.intro d26 (And.intro d60 (And.intro d79 (And.intro d97 (And.intro d98 d109)))))
    try simp only [vz, tyf, b110, (ix24 o88), e101, e102, e103, e104, e105, e106, e107, e108, nm, seval]
    obtain rfl := kF _ h
    exact zai Tryz.results3 rfl
   simp only [d109, hs] at h
   have b111 := And.intro d18 (And.intro d26 (And.intro d60 (And.intro d79 (And.intro d97 (And.intro d98 d109)))))
   obtain ⟨r112, o113, h⟩ := optI h kN
   try simp only [hs] at h
   simp only [vz, tyf, b111, (ix24 o88), e101, e102, e103, e104, e105, e106, e107, e108, nm, seval]
   refine ktA (zmr _ _ _ o113) ?_
   refine zar (fun tm => tm 2 = .sl (cellsL eI x2_a2) (List.length x2_a2) false ∧ tm 3 = .ptr 0 0 ∧ tm 10 = .lit (.int .i64 r40.1) ∧ tm 11 = .lit (.int .i64 r40.2) ∧ tm 12 = .ptr 43 0 ∧ tm 108 = .lit (.bool r112) ∧ True) (by refine ⟨e101, e102, e103, e104, e105, ?_, trivial⟩ <;> first | (simp only [ua, b111, e101, e102, e103, e104, e105, e106, e107, e108, nm, seval] <;> rfl) | rfl) ?_
   rintro tm ⟨e114, e115, e116, e117, e118, e119, _⟩
   cases d120 : (r112)
   ·simp only [d120, hs] at h
    cases d121 : (r40.2 == 2)
    ·simp only [d121, hs] at h
     try simp only [vz, tyf, b111, (ix24 o88), e114, e115, e116, e117, e118, e119, d120, d121, nm, seval]
     obtain rfl := kF _ h
     exact zai Tryz.results3 rfl
    simp only [d121, hs] at h
    cases d122 : (r40.1 == 0)
    ·simp only [d122, hs] at h
     try simp only [vz, tyf, b111, (ix24 o88), e114, e115, e116, e117, e118, e119, d120, d121, d122, nm, seval]
     obtain rfl := kF _ h
     exact zai Tryz.results3 rfl
    simp only [d122, hs] at h
    simp only [vz, tyf, b111, (ix24 o88), e114, e115, e116, e117, e118, e119, d120, d121, d122, nm, seval]
    refine ktree0 zdc ?_
    try simp only [vz, tyf, b111, (ix24 o88), e114, e115, e116, e117, e118, e119, d120, d121, d122, nm, seval]
    obtain rfl := kF _ h
    exact zai Tryz.results3 rfl
   simp only [d120, hs] at h
   cases d123 : (r40.2 == 0)
   ·simp only [d123, hs] at h
    try simp only [vz, tyf, b111, (ix24 o88), e114, e115, e116, e117, e118, e119, d120, d123, nm, seval]
    obtain rfl := kF _ h
    exact zai Tryz.results3 rfl
   simp only [d123, hs] at h
   obtain ⟨r124, o125, h⟩ := optI h kN
   try simp only [hs] at h
   simp only [vz, tyf, b111, (ix24 o88), e114, e115, e116, e117, e118, e119, d120, d123, nm, seval]
   refine ktA (zey _ _ _ _ o125) ?_
   refine zar (fun tm => tm 121 = .lit (.bool true) ∧ tm 122 = .lit (.int .i64 r40.1) ∧ tm 126 = .lit (.int .i64 r124) ∧ True) (by refine ⟨?_, ?_, ?_, trivial⟩ <;> first | (simp only [ua, b111, e114, e115, e116, e117, e118, e119, d120, d123, nm, seval] <;> rfl) | rfl) ?_
   rintro tm ⟨e126, e127, e128, _⟩
   cases d129 : (r40.1 == r124)
   ·simp only [d129, hs] at h
    try simp only [vz, tyf, b111, (ix24 o88), d120, d123, e126, e127, e128, d129, nm, seval]
    obtain rfl := kF _ h
    exact zai Tryz.results3 rfl
   simp only [d129, hs] at h
   simp only [vz, tyf, b111, (ix24 o88), d120, d123, e126, e127, e128, d129, nm, seval]
   refine ktree0 zdc ?_
   try simp only [vz, tyf, b111, (ix24 o88), d120, d123, e126, e127, e128, d129, nm, seval]
   obtain rfl := kF _ h
   exact zai Tryz.results3 rfl
  simp only [d98, hs] at h
  try simp only [vz, tyf, d18, d26, d60, d79, (ix24 o88), e89, e90, e91, e92, e93, e94, e95, e96, d97, d98, nm, seval]
  obtain rfl := kF _ h
  exact zai Tryz.results3 rfl
 simp only [d97, hs] at h
 try simp only [vz, tyf, d18, d26, d60, d79, (ix24 o88), e89, e90, e91, e92, e93, e94, e95, e96, d97, nm, seval]
 obtain rfl := kF _ h
 exact zai Tryz.results3 rfl
end Go.V
end
section
namespace Go.V
open Go
theorem znl (s : GPriceSheet) (n : Int) (hs : List Int) (ok : lenOk s.Offs = true ∧ lenOk s.Boards = true ∧ lenOk s.Tariffs = true) (hl : lenOk hs = true) : zef s n hs = some true := by
 have ok : OkS s := ⟨ok.1, ok.2.1, ok.2.2⟩
 unfold zef
 rcases zajk s with h | h
 case inr => rw [h]; rfl
 rcases zaqb hs with h2 | h2
 case inr => rw [h, h2]; rfl
 rw [h, h2]
 simp only [Option.bind_some, cond_true, zakr ok, zadm ok, zael ok, zgo, zhr ok]
 cases hsh : sheetB s with
 | false => rw [ztk ok (by rw [hsh]; rfl), zabf ok (by rw [hsh]; rfl)]; rfl
 | true =>
  cases ht : tarB s n with
  | false => rw [ztk ok (by rw [hsh, ht]; rfl), zabf ok (by rw [hsh, ht]; rfl)]; rfl
  | true =>
   obtain ⟨t, et, _, ot⟩ := zajt hsh ht
   rw [zajy ok hsh ht et ot]
   cases hh : hrsB s.Boards hs with
   | false =>
    rw [ztk ok (by rw [hsh, ht, hh]; rfl)]
    simp [et, zabx ok hsh ot]
   | true =>
    rw [zaip ⟨ok, hsh, ht, hh⟩ et ot]
    simp [et, zabx ok hsh ot, zpk ot (znu hsh hh)]
end Go.V
end
