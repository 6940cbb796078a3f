/- Part of a proof. -/
import Derived.Test.YtclkbhbhohdgbaaGreatDoorE2al
set_option linter.all false
section
namespace Go.V
open Go
def rangeR (cf : aI) (jump : Code → RS → ER) (n : Nat) (s : RS) (f : FuncId) (first captured : List VV) (ps : Array Tmp) (as bo : Code) : ER :=
 match cf f (first ++ [.yl (s.nx + 1)] ++ captured) ((s.H.put s.nx (some (.deferred (some [])))).put (s.nx + 1) (some (.loop .ready none (tmL n s.st.tm) ps as bo s.nx))) (s.nx + 2) with
 | .ret _ H' nx' => match H'.get (s.nx + 1) with
  | some (.loop .busy _ _ _ _ _ _) => .no (.text 1)
  | some (.loop _ pe tm ps as bo df) => match pe with
   | none => .mk .normal { s with H := H'.put (s.nx + 1) (some (.loop .exhausted pe tm ps as bo df)), nx := nx', df := .coll s.nx :: s.df }
   | some c => jump c { s with H := H'.put (s.nx + 1) (some (.loop .exhausted pe tm ps as bo df)), nx := nx', df := .coll s.nx :: s.df }
  | _ => .no (.text 2)
 | .pan x H' nx' => .mk (.panic x) { s with H := H', nx := nx', df := .coll s.nx :: s.df }
 | .no w => .no w
def runR (P : Program) (G : Gb) : Nat → RunR
 | 0, _, _, _, _ => .no .fuel
 | k + 1, ro, n, code, s => match code with
  | .skip => .mk .normal s
  | .label _ => .mk .normal s
  | .exit id => .mk (.exit id) s
  | .ret => .mk .ret s
  | .seq a b => match runR P G k ro n a s with
   | .mk .normal s' => runR P G k ro n b s'
   | x => x
  | .cond c a b => match s.st.ρ (G.at (some ro)) c with
   | .lit (.bool t) => runR P G k ro n (if t then a else b) s
   | _ => .no (.code code)
  | .block id a => match runR P G k ro n a s with
   | .mk (.exit id') s' => if id' = id then .mk .normal s' else .mk (.exit id') s'
   | x => x
  | .loop a => loopR (runR P G k ro n a) k s
  | .scope a => match runR P G k ro n a s with
   | .mk (.goto l) _ => .no (.code code)
   | x => x
  | .region _ ops false => match regQ n ops false with
   | true => seqR P (G.at (some ro)) (runR P G k) (callR P (G.at (some none)) (runR P G k)) ro ops s.nx 0 ops.toList { s with nx := s.nx + ops.size }
   | false => .no (.code code)
  | .region _ ops true => match regQ n ops true with
   | true => drawR P (G.at (some ro)) (callR P (G.at (some none)) (runR P G k)) ops s.nx 0 ops.toList [] { s with nx := s.nx + ops.size }
   | false => .no (.code code)
  | .rangeFunc g ps as bo => match ro with
   | none => match s.st.ρ (G.at (some none)) g with
    | .fn (.func f) first captured => rangeR (callR P (G.at (some none)) (runR P G k)) (fun c s => runR P G k none n c s) n s f first captured ps as bo
    | _ => .no (.code code)
   | some _ => .no (.code code)
  | code => .no (.code code)
theorem V9 {P : Program} {G : Gb} {cf : aI} (hcf : CallOk P G cf) {jump : Code → RS → ER} {n : Nat} (hj : ∀ c s e s', jump c s = .mk e s' → ∀ Q : Vx → St → Prop, Q e s'.st → VWp P (G.at (some none)) n c Q s.st) {s s' : RS} {e : Vx} {g : Operand} {f : FuncId} {first captured : List VV} {ps : Array Tmp} {as bo : Code}
  (hg : s.st.ρ (G.at (some none)) g = .fn (.func f) first captured) (h : rangeR cf jump n s f first captured ps as bo = .mk e s') {Q : Vx → St → Prop} (hq : Q e s'.st) : VWp P (G.at (some none)) n (.rangeFunc g ps as bo) Q s.st := by
 refine VWp.rangeFunc rfl hg ?_
 unfold rangeR at h
 have eH : ((s.H.put s.nx (some (.deferred (some [])))).put (s.nx + 1) (some (.loop .ready none (tmL n s.st.tm) ps as bo s.nx))).get = updH (updH s.st.H s.st.nx (.deferred (some []))) (s.st.nx + 1) (.loop .ready none (tmL n s.st.tm) ps as bo s.st.nx) := by
  rw [s9, s9]; rfl
 split at h
 ·rename_i x H' nx' hc
  have hv := hcf.1 _ _ _ _ _ _ _ hc
  rw [eH] at hv
  refine aX.mono hv ?_ ?_
  ·rintro y H1 n1 ⟨_, rfl, rfl⟩
   split at h
   ·cases h
   ·rename_i st pe oG oH oI oJ rl hnb hl
    have e2 : ({ s with H := H'.put (s.nx + 1) (some (.loop .exhausted pe oG oH oI oJ rl)), nx := n1, df := .coll s.nx :: s.df } : RS).st = { s.st with H := updH H'.get (s.st.nx + 1) (.loop .exhausted pe oG oH oI oJ rl), nx := n1, df := .coll s.st.nx :: s.st.df } := by
     simp only [RS.st, s9]
    refine ⟨st, pe, oG, oH, oI, oJ, rl, hl, hnb, ?_⟩
    split at h
    ·cases h
     show Q .normal _
     rw [← e2]; exact hq
    ·rename_i c
     show VWp P _ n c Q _
     rw [← e2]
     exact hj c _ e s' h Q hq
   ·cases h
  ·intro y H1 n1 h; exact h.elim
 ·rename_i x H' nx' hc
  have hv := hcf.2 _ _ _ _ _ _ _ hc
  rw [eH] at hv
  cases h
  refine aX.mono hv ?_ ?_
  ·intro y H1 n1 h; exact h.elim
  ·rintro y H1 n1 ⟨rfl, rfl, rfl⟩
   exact hq
 ·cases h
end Go.V
end
