/- Part of a proof. -/
import Derived.Test.YtmhlghgbfmcdaaaGreatDoorL1bn
set_option linter.all false
set_option maxRecDepth 4000
set_option maxHeartbeats 40000000
section
namespace Go.V
open Go Go.Proofs
theorem uX {xs : List Int} : ∀ (p : List Int) (c : Nat), xs.drop c = p → qu xs p c = some (.go ())
 | [], _, _ => rfl
 | e :: p, c, h => by
  have h1 : getI xs (c : Int) = some e := cA (by omega) (by simpa using h)
  have h2 : xs.drop (c + 1) = p := by have := bJ (i := (c : Int)) (by omega) (by simpa using h); simpa using this
  simp only [qu, h1, Option.bind_some, bne_self_eq_false, cond_false]
  exact uX p (c + 1) h2
theorem sameW {xs : List Int} (h : xs.length ≤ 1000) : uY xs xs = some true := by
 unfold uY
 rw [fA (by omega), cond_true, show qu xs xs 0 = _ from uX xs 0 rfl]
 simp [lbind]
theorem uZ {xs : List Int} : ∀ (p : List Int) (c : Nat), xs.drop c = p → qv xs p c = some (.go ())
 | [], _, _ => rfl
 | e :: p, c, h => by
  have h1 : getI xs (c : Int) = some e := cA (by omega) (by simpa using h)
  have h2 : xs.drop (c + 1) = p := by have := bJ (i := (c : Int)) (by omega) (by simpa using h); simpa using this
  simp only [qv, h1, Option.bind_some, bne_self_eq_false, cond_false]
  exact uZ p (c + 1) h2
theorem sameI {xs : List Int} (h : xs.length ≤ 1000) : va xs xs = some true := by
 unfold va
 rw [fA (by omega), cond_true, show qv xs xs 0 = _ from uZ xs 0 rfl]
 simp [lbind]
theorem vb (a e : Int) : (if a < e then e else a) = max a e := by split <;> omega
theorem Eo {b : GBk} {pl : List Int} {bd : Int} : ∀ (ss : List GBs) (i : Nat) (lo hi : Int), b.Strokes.drop i = ss →
  oJ b bd ((List.range' i ss.length).map (endS b pl)) i lo hi = some (.go (((itsF bd ss i).map fun k => EE b pl 0 k.toNat).foldl max lo, ((itsF bd ss i).map fun k => EE b pl 1 k.toNat).foldl max hi))
 | [], i, lo, hi, _ => rfl
 | s :: ss, i, lo, hi, h => by
  have h1 : getI b.Strokes (i : Int) = some s := cA (by omega) (by simpa using h)
  have h2 : b.Strokes.drop (i + 1) = ss := by have := bJ (i := (i : Int)) (by omega) (by simpa using h); simpa using this
  simp only [List.length_cons, List.range'_succ, List.map_cons, oJ, h1, Option.bind_some, itsF]
  rw [show ((i : Int) + 1) = ((i + 1 : Nat) : Int) by omega]
  by_cases hb : s.Board = bd
  ·rw [show (s.Board == bd) = true by simpa using hb, cond_true, if_pos hb, Eo ss (i + 1) _ _ h2, vb, vb]
   simp [endS]
  ·rw [show (s.Board == bd) = false by simpa using hb, cond_false, if_neg hb, Eo ss (i + 1) _ _ h2]
theorem Ep {b : GBk} (hB : BOk b) (pl : List Int) (bd : Int) : vc b (endsL b pl) bd = some (DN b pl bd) := by
 have hn := hB.ns
 have := Eo (b := b) (pl := pl) (bd := bd) b.Strokes 0 0 0 rfl
 rw [← List.range_eq_range'] at this
 unfold vc
 rw [fA (by rw [Er]; omega), cond_true, show oJ b bd (endsL b pl) 0 0 0 = _ from this]
 rfl
theorem vd {b : GBk} (hB : BOk b) (pl : List Int) : ∀ (p : List Int) (i : Nat) (acc : List Int), acc.length + p.length ≤ 1000 →
  ko b (endsL b pl) p i acc = some (.go (acc ++ lateL b pl i p))
 | [], i, acc, _ => by simp [ko, lateL]
 | e :: p, i, acc, h => by
  simp only [List.length_cons] at h
  simp only [ko, Ep hB, Option.bind_some, lateL, lateW]
  rw [show ((i : Int) + 1) = ((i + 1 : Nat) : Int) by omega]
  have key : ∀ w : Int, cond (aC 8 (acc ++ [w]).length) (ko b (endsL b pl) p ((i + 1 : Nat) : Int) (acc ++ [w])) none = some (.go (acc ++ w :: lateL b pl (i + 1) p)) := by
   intro w
   rw [room8 (by simp; omega), cond_true, vd hB pl p (i + 1) _ (by simp; omega)]
   simp
  by_cases h1 : (DN b pl i).Low > e
  ·rw [decide_eq_true h1, cond_true, key, if_pos h1]
  ·rw [decide_eq_false h1, cond_false, if_neg h1]
   by_cases h2 : (DN b pl i).High > e
   ·rw [decide_eq_true h2, cond_true, key, if_pos h2]
   ·rw [decide_eq_false h2, cond_false, key, if_neg h2]
theorem Es {b : GBk} (h : Len b) (hB : BOk b) {pl : List Int} (hp : pl.length = b.Strokes.length) : vf b pl = some (lateL b pl 0 b.Boards) := by
 have hn := hB.nb
 unfold vf
 rw [Et h hB hp]
 simp only [Option.bind_some]
 rw [fA (by omega), cond_true, show ko b (endsL b pl) b.Boards 0 [] = _ from vd hB pl b.Boards 0 [] (by simp; omega)]
 rfl
theorem KY {b : GBk} (hB : BOk b) {pl : List Int} (hp : pl.length = b.Strokes.length) (h : Int) : ∀ (k j : Nat), j + k ≤ b.Strokes.length →
  mB pl (hrL b true) ((List.range b.Strokes.length).map (BB b pl 1)) h k j (frF (hF pl) (EE b pl 1) h j) = some (.go (frF (hF pl) (EE b pl 1) h (j + k)))
 | 0, j, _ => rfl
 | k + 1, j, hj => by
  have h1 := BB_b hB.h pl 1 (s := j) (by omega)
  have h2 := hB.h.d 1 j
  have ih := KY hB hp h k (j + 1) (by omega)
  simp only [mB]
  rw [getP hp (by omega) (by omega), getMap _ (by omega) (by omega), vg true (by omega) (by omega)]
  simp only [Option.bind_some, Int.toNat_natCast, if_true]
  rw [ix (by omega) (by omega), ← EE_eq hB.h, show ((j : Int) + 1) = ((j + 1 : Nat) : Int) by omega]
  rw [show j + 1 + k = j + (k + 1) by omega] at ih
  have e : frF (hF pl) (EE b pl 1) h (j + 1) = if hF pl j = h then EE b pl 1 j else frF (hF pl) (EE b pl 1) h j := rfl
  rw [e] at ih
  by_cases hh : hF pl j = h
  ·rw [show (hF pl j == h) = true by simpa using hh, cond_true]
   rw [if_pos hh] at ih
   exact ih
  ·rw [show (hF pl j == h) = false by simpa using hh, cond_false]
   rw [if_neg hh] at ih
   exact ih
theorem KZ {b : GBk} (hB : BOk b) {pl : List Int} (hp : pl.length = b.Strokes.length) : ∀ (p : List Int) (i : Nat) (acc : List Int), i + p.length = b.Strokes.length → acc.length = i → pl.drop i = p →
  mC pl (hrL b true) ((List.range b.Strokes.length).map (BB b pl 1)) p i acc = some (.go (acc ++ (List.range' i p.length).map (waitF b pl)))
 | [], i, acc, _, _, _ => by simp [mC]
 | e :: p, i, acc, hi, ha, hd => by
  have hn := hB.ns
  simp only [List.length_cons] at hi
  have h1 := BB_b hB.h pl 1 (s := i) (by omega)
  have hg : getI pl (i : Int) = some e := cA (by omega) (by simpa using hd)
  have h2 : pl.drop (i + 1) = p := by have := bJ (i := (i : Int)) (by omega) (by simpa using hd); simpa using this
  rw [getP hp (by omega) (by omega), Int.toNat_natCast] at hg
  have he : hF pl i = e := by simpa using hg
  have hf : 0 ≤ FF b pl 1 i ∧ FF b pl 1 i ≤ BB b pl 1 i := ⟨pK (fun k => Ed_nn hB.h.nd (fun k => (hB.h.d 1 k).1) k) _, xe _⟩
  have hl := KY hB hp e i 0 (by omega)
  have e0 : frF (hF pl) (EE b pl 1) e 0 = 0 := rfl
  rw [e0, Nat.zero_add] at hl
  have ef : frF (hF pl) (EE b pl 1) e i = FF b pl 1 i := by unfold FF; rw [he]
  rw [ef] at hl
  simp only [mC]
  rw [show boundOk (i : Int) = true by simp [boundOk]; omega, cond_true, show ((i : Int) - 0).toNat = i by omega]
  rw [show mB pl (hrL b true) ((List.range b.Strokes.length).map (BB b pl 1)) e i 0 0 = _ from hl]
  simp only [lbind]
  rw [getMap _ (by omega) (by omega), Int.toNat_natCast]
  simp only [Option.bind_some]
  rw [ix (by omega) (by omega), room8 (by simp; omega), cond_true, show ((i : Int) + 1) = ((i + 1 : Nat) : Int) by omega, KZ hB hp p (i + 1) _ (by omega) (by simp [ha]) h2, List.length_cons, List.range'_succ]
  simp [waitF]
theorem Eu {b : GBk} (h : Len b) (hB : BOk b) {pl : List Int} (hp : pl.length = b.Strokes.length) : vh b pl = some (waitsL b pl) := by
 have hn := hB.ns
 have e1 := (qw h hB hp true).begins
 unfold vh
 rw [hr_eq hB]
 simp only [Option.bind_some, e1, if_true]
 rw [fA (by omega), cond_true]
 have := KZ hB hp pl 0 [] (by omega) rfl rfl
 rw [show mC pl (hrL b true) ((List.range b.Strokes.length).map (Bg (hF pl) (nF b) (dF b 1))) pl 0 [] = _ from this]
 simp only [lbind, List.nil_append]
 rw [← List.range_eq_range', hp]
 rfl
theorem Pg {b : GBk} (h : Len b) : s5 b = some false ∨ s5 b = some true := by
 unfold s5
 rw [fA h.st, cond_true]
 rcases vi b.Strokes 0 with e | e
 ·rw [e]
  simp only [lbind]
  cases (decide ((b.Boards.length : Int) ≤ 5)) with
  | false => exact .inl rfl
  | true => cases (decide ((b.Strokes.length : Int) ≤ 8)) <;> simp
 ·rw [e]; exact .inl rfl
def rangeFR (f : FuncId) (cf : an) (jump : Code → RS → ER) (n : Nat) (s : RS) (f0 : FuncId) (first captured : List VV) (ps : Array Tmp) (asg bo : Code) : ER :=
 match cf f0 (first ++ [.yl (s.nx + 1)] ++ captured) ((s.H.put s.nx (some (.deferred (some [])))).put (s.nx + 1) (some (.loopF .ready none (tmL n s.st.tm) ps asg bo f))) (s.nx + 2) with
 | .ret _ H' nx' => match H'.get (s.nx + 1) with
  | some (.loopF .busy _ _ _ _ _ _) => .no (.text 1)
  | some (.loopF _ pe tm ps asg bo fn) => match pe with
   | none => .mk .normal { s with H := H'.put (s.nx + 1) (some (.loopF .exhausted pe tm ps asg bo fn)), nx := nx', df := .coll s.nx :: s.df }
   | some c => jump c { s with H := H'.put (s.nx + 1) (some (.loopF .exhausted pe tm ps asg bo fn)), nx := nx', df := .coll s.nx :: s.df }
  | _ => .no (.text 2)
 | .pan x H' nx' => .mk (.panic x) { s with H := H', nx := nx', df := .coll s.nx :: s.df }
 | .no w => .no w
def GoOk (P : Program) (G : Glob) (f n : Nat) (go : Code → RS → ER) : Prop := ∀ code s e s', go code s = .mk e s' → ∀ Q : VExit → St → Prop, Q e s'.st → VGo P G f n code Q s.st
theorem Ph {P : Program} {G : Glob} {cf : an} (hcf : CallOk P G cf) {f : FuncId} {jump : Code → RS → ER} {n : Nat} (hj : GoOk P G f n jump) {s s' : RS} {e : VExit} {g : Operand} {f0 : FuncId} {first captured : List VV} {ps : Array Tmp} {asg bo : Code}
  (hg : s.st.ρ G g = .fn (.func f0) first captured) (h : rangeFR f cf jump n s f0 first captured ps asg bo = .mk e s') {Q : VExit → St → Prop} (hq : Q e s'.st) : VGo P G f n (.rangeFunc g ps asg bo) Q s.st := by
 refine VGo.range hg ?_
 unfold rangeFR at h
 have eH : ((s.H.put s.nx (some (.deferred (some [])))).put (s.nx + 1) (some (.loopF .ready none (tmL n s.st.tm) ps asg bo f))).get = updH (updH s.st.H s.st.nx (.deferred (some []))) (s.st.nx + 1) (.loopF .ready none (tmL n s.st.tm) ps asg bo f) := by
  rw [l5, l5]; rfl
 split at h
 ·rename_i x H' nx' hc
  have hv := hcf.1 _ _ _ _ _ _ _ hc
  rw [eH] at hv
  refine ar.mono hv ?_ ?_
  ·rintro y H1 n1 ⟨_, rfl, rfl⟩
   split at h
   ·cases h
   ·rename_i st pe jA jB jC jD kq hnb hl
    have e2 : ({ s with H := H'.put (s.nx + 1) (some (.loopF .exhausted pe jA jB jC jD kq)), nx := n1, df := .coll s.nx :: s.df } : RS).st = { s.st with H := updH H'.get (s.st.nx + 1) (.loopF .exhausted pe jA jB jC jD kq), nx := n1, df := .coll s.st.nx :: s.st.df } := by
     simp only [RS.st, l5]
    refine ⟨st, pe, jA, jB, jC, jD, kq, hl, hnb, ?_⟩
    split at h
    ·cases h
     show Q .normal _
     rw [← e2]; exact hq
    ·rename_i c
     show VGo P _ f n c Q _
     rw [← e2]
     exact hj c _ e s' h Q hq
   ·cases h
  ·intro y H1 n1 h; exact h.elim
 ·rename_i x H' nx' hc
  have hv := hcf.2 _ _ _ _ _ _ _ hc
  rw [eH] at hv
  cases h
  refine ar.mono hv ?_ ?_
  ·intro y H1 n1 h; exact h.elim
  ·rintro y H1 n1 ⟨rfl, rfl, rfl⟩
   exact hq
 ·cases h
noncomputable def rangeFF (f : FuncId) (cf : an) (jump : Code → RS → ER) (n : Nat) (s : RS) (ps : Array Tmp) (asg bo : Code) (code : Code) (x : VV) : ER := match x with
 | .fn (.func f0) first captured => rangeFR f cf jump n s f0 first captured ps asg bo
 | _ => .no (.code code)
noncomputable def goF (G : Glob) (f : FuncId) (run : RunR) (cf : an) (n : Nat) (k : Nat) : Code → RS → ER :=
 Nat.rec (motive := fun _ => Code → RS → ER) (fun code s => run none n code s) (fun _ ih code s => match code with
  | .seq a b => thenQ (ih a s) (fun s' => ih b s')
  | .block id a => blockQ (ih a s) id
  | .rangeFunc g ps asg bo => rangeFF f cf (fun c s => run none n c s) n s ps asg bo code (ρQ G s.tm g)
  | code => run none n code s) k
theorem vj {P : Program} {G : Glob} {f n : Nat} {run : RunR} {cf : an} (hrun : RunOk P G run) (hcf : CallOk P G cf) : ∀ (k : Nat), GoOk P G f n (goF G f run cf n k)
 | 0, code, s, e, s', h, Q, hq => VGo.of (hrun none n code s e s' h Q hq)
 | k + 1, code, s, e, s', h, Q, hq => by
  have ih := vj (f := f) (n := n) hrun hcf k
  have dflt : run none n code s = .mk e s' → VGo P G f n code Q s.st := fun h => VGo.of (hrun none n code s e s' h Q hq)
  cases code with
  | seq a b =>
   have h' : thenQ (goF G f run cf n k a s) (fun s' => goF G f run cf n k b s') = .mk e s' := h
   cases hs : goF G f run cf n k a s with
   | no w => rw [hs] at h'; cases h'
   | mk e1 s1 =>
    rw [hs] at h'
    cases e1 with
    | normal => exact VGo.seq (ih a s .normal s1 hs _ (ih b s1 e s' h' Q hq))
    | exit id => cases h'; exact VGo.seq (ih a s _ _ hs _ hq)
    | goto l => cases h'; exact VGo.seq (ih a s _ _ hs _ hq)
    | ret => cases h'; exact VGo.seq (ih a s _ _ hs _ hq)
    | panic x => cases h'; exact VGo.seq (ih a s _ _ hs _ hq)
  | block id a =>
   have h' : blockQ (goF G f run cf n k a s) id = .mk e s' := h
   cases hs : goF G f run cf n k a s with
   | no w => rw [hs] at h'; cases h'
   | mk e1 s1 =>
    rw [hs] at h'
    refine VGo.block (ih a s e1 s1 hs _ ?_)
    cases e1 with
    | normal => cases h'; exact hq
    | goto l => cases h'; exact hq
    | ret => cases h'; exact hq
    | panic x => cases h'; exact hq
    | exit id' =>
     have h'' : Bool.rec (motive := fun _ => ER) (.mk (.exit id') s1) (.mk .normal s1) (Nat.beq id' id) = .mk e s' := h'
     show (if id' = id then _ else _)
     by_cases hid : id' = id
     ·have hb : Nat.beq id' id = true := by simpa using hid
      rw [hb] at h''
      cases h''
      rw [if_pos hid]; exact hq
     ·have hb : Nat.beq id' id = false := by cases hq : Nat.beq id' id with | false => rfl | true => exact absurd (by simpa using hq) hid
      rw [hb] at h''
      cases h''
      rw [if_neg hid]; exact hq
  | rangeFunc g ps asg bo =>
   have h' : rangeFF f cf (fun c s => run none n c s) n s ps asg bo (.rangeFunc g ps asg bo) (ρQ G s.tm g) = .mk e s' := h
   rw [ρQ_eq] at h'
   unfold rangeFF at h'
   split at h'
   ·rename_i f0 first captured hg
    exact Ph hcf (fun c s e s' hs Q hq => VGo.of (hrun none n c s e s' hs Q hq)) hg h' hq
   ·cases h'
  | _ => exact dflt h
noncomputable def enterF (P : Program) (G : Glob) (run : RunR) (cf : an) (k : Nat) (f : FuncId) (fn : Func) (code : Code) (args : List VV) (H : Trie VObj) (nx : Nat) : CR :=
 match goF G f run cf fn.ntmps k code (RS.mk (listV args 0 .nil) H nx []) with
 | .mk .ret s => leaveR P G run fn f s s.df .ret s.H s.nx
 | .mk .normal s => leaveR P G run fn f s s.df .ret s.H s.nx
 | .mk (.panic x) s => leaveR P G run fn f s s.df (.pan x false) s.H s.nx
 | .mk _ _ => .no (.fn f)
 | .no w => .no w
noncomputable def lG (P : Program) (G : Glob) (run : RunR) (cf : an) (k : Nat) : an := fun f args H nx => match textQ P f with
 | some (fn, code) => Bool.rec (motive := fun _ => CR) (.no (.fn f)) (enterF P G run cf k f fn code args H nx) (Nat.ble args.length fn.ntmps)
 | none => .no (.fn f)
theorem Ev {P : Program} {f : FuncId} {fn : Func} {code : Code} (h : textQ P f = some (fn, code)) : P.funcs[f]? = some fn ∧ fn.body = some code ∧ nameQ fn = true := by
 unfold textQ at h
 split at h
 ·cases h
 ·rename_i oL hf
  split at h
  ·cases h
  ·rename_i c1 hb
   split at h
   ·rename_i hn
    cases h
    exact ⟨hf, hb, hn⟩
   ·cases h
theorem La {P : Program} {G : Glob} {run : RunR} {cf : an} {k : Nat} (hrun : RunOk P G run) (hcf : CallOk P G cf) {f : FuncId} {args : List VV} {H : Trie VObj} {nx : Nat} {R Rp : VV → (Nat → Option VObj) → Nat → Prop}
  (h1 : ∀ x H' nx', lG P (G.at (some none)) run cf k f args H nx = .ret x H' nx' → R x H'.get nx') (h2 : ∀ x H' nx', lG P (G.at (some none)) run cf k f args H nx = .pan x H' nx' → Rp x H'.get nx') (h3 : ∀ w, lG P (G.at (some none)) run cf k f args H nx ≠ .no w) : ar P G f args H.get nx R Rp := by
 unfold lG at h1 h2 h3
 cases ht : textQ P f with
 | none => exact absurd (by simp only [ht]) (h3 (.fn f))
 | some p =>
  obtain ⟨fn, code⟩ := p
  obtain ⟨hf, hb, hn⟩ := Ev ht
  cases hc : Nat.ble args.length fn.ntmps with
  | false => exact absurd (by simp only [ht, hc]) (h3 (.fn f))
  | true =>
   simp only [ht, hc] at h1 h2 h3
   simp only [Nat.ble_eq] at hc
   unfold enterF at h1 h2 h3
   rw [DV] at h1 h2 h3
   cases hr : goF (G.at (some none)) f run cf fn.ntmps k code (RS.mk (Trie.ofList 0 args .nil) H nx []) with
   | no w => exact absurd (by rw [hr]) (h3 w)
   | mk e s =>
    rw [hr] at h1 h2 h3
    have body : OpenPostD P G fn R Rp e s.st → ar P G f args H.get nx R Rp := by
     intro hq
     have := vj (G := G.at (some none)) (f := f) (n := fn.ntmps) hrun hcf k code _ e s hr _ hq
     rw [argsR] at this
     exact ar.of_bodyGo (Co hf hb hn) hf hb hc this
    cases e with
    | ret => exact body (ot hrun s.df .ret s.H s.nx h1 h2 h3)
    | normal => exact body (ot hrun s.df .ret s.H s.nx h1 h2 h3)
    | panic x => exact body (ot hrun s.df (.pan x false) s.H s.nx h1 h2 h3)
    | exit id => exact absurd rfl (h3 (.fn f))
    | goto l => exact absurd rfl (h3 (.fn f))
noncomputable def cfF (P : Program) (G : Glob) (run : RunR) (fs : List Nat) (k : Nat) : an := fun f args H nx => match fs.elem f with
 | true => lG P G run (cfQ P G run) k f args H nx
 | false => cfQ P G run f args H nx
theorem vk {P : Program} {G : Glob} {run : RunR} {fs : List Nat} {k : Nat} (hrun : RunOk P G run) : CallOk P G (cfF P (G.at (some none)) run fs k) := by
 have hcf : CallOk P G (cfQ P (G.at (some none)) run) := by rw [DU]; exact NG hrun
 constructor
 ·intro f args H nx x H' nx' h
  unfold cfF at h
  split at h
  ·exact La hrun hcf (fun y H1 n1 e => by rw [h] at e; cases e; exact ⟨rfl, rfl, rfl⟩) (fun y H1 n1 e => by rw [h] at e; cases e) (fun w e => by rw [h] at e; cases e)
  ·exact hcf.1 _ _ _ _ _ _ _ h
 ·intro f args H nx x H' nx' h
  unfold cfF at h
  split at h
  ·exact La hrun hcf (fun y H1 n1 e => by rw [h] at e; cases e) (fun y H1 n1 e => by rw [h] at e; cases e; exact ⟨rfl, rfl, rfl⟩) (fun w e => by rw [h] at e; cases e)
  ·exact hcf.2 _ _ _ _ _ _ _ h
noncomputable def runF (P : Program) (G : Glob) (fs : List Nat) (tab : KTab) (k : Nat) : RunR :=
 Nat.rec (motive := fun _ => RunR) (fun _ _ _ _ => .no .fuel) (fun k ih ro n code s => bodyA k ih (cfT tab (cfF P (G.at (some none)) ih fs k)) ro n s (ccB P G code)) k
theorem Lb {P : Program} {G : Glob} {fs : List Nat} {tab : KTab} (hm : P.follows .mixedOrders = true) (ht : KTabOk P G tab) : ∀ (k : Nat), RunOk P G (runF P G fs tab k)
 | 0, _, _, _, _, _, _, h => by cases h
 | k + 1, ro, n, code, s, e, s', h => by
  intro Q hq
  have ih := Lb (G := G) (fs := fs) hm ht k
  exact Pj hm ih (Ew ht (vk ih)) h hq
noncomputable def closedF (P : Program) (G : Glob) (fs : List Nat) (tab : KTab) (k : Nat) (f : FuncId) (args : List VV) : PRes ⊕ Why := pureQ (cfF P (G.at (some none)) (runF P G fs tab k) fs k) f args
theorem ai.closedF {P : Program} {G : Glob} {fs : List Nat} {tab : KTab} (hm : P.follows .mixedOrders = true) (ht : KTabOk P G tab) (k : Nat) {f : FuncId} {args : List VV} {r : PRes} (h : closedF P G fs tab k f args = .inl r) : ai P G f args r := by
 unfold Go.V.closedF at h
 rw [DQ] at h
 exact ud (vk (Lb hm ht k)) h
theorem hmix : Tryz.prog.follows .mixedOrders = true := by kernel_rfl
def kB : VV := (VV.agg [(VV.lit (Value.int IntKind.i64 (Int.ofNat 1))), (VV.sl [(VV.lit (Value.int IntKind.i64 (Int.ofNat 5))), (VV.lit (Value.int IntKind.i64 (Int.ofNat 6)))] 2 Bool.false), (VV.sl [(VV.lit (Value.int IntKind.i64 (Int.ofNat 1))), (VV.lit (Value.bool Bool.true)), (VV.lit (Value.int IntKind.i64 (Int.ofNat 2))), (VV.lit (Value.int IntKind.i64 (Int.ofNat 2))), (VV.lit (Value.slice Option.none 0 0)), (VV.lit (Value.int IntKind.i64 (Int.ofNat 0))), (VV.lit (Value.bool Bool.false)), (VV.lit (Value.int IntKind.i64 (Int.ofNat 2))), (VV.lit (Value.int IntKind.i64 (Int.ofNat 3))), (VV.lit (Value.slice Option.none 0 0)), (VV.lit (Value.int IntKind.i64 (Int.ofNat 0))), (VV.lit (Value.bool Bool.true)), (VV.lit (Value.int IntKind.i64 (Int.ofNat 1))), (VV.lit (Value.int IntKind.i64 (Int.ofNat 2))), (VV.sl [(VV.lit (Value.int IntKind.i64 (Int.ofNat 1)))] 1 Bool.false), (VV.lit (Value.int IntKind.i64 (Int.ofNat 1))), (VV.lit (Value.bool Bool.false)), (VV.lit (Value.int IntKind.i64 (Int.ofNat 1))), (VV.lit (Value.int IntKind.i64 (Int.ofNat 3))), (VV.sl [(VV.lit (Value.int IntKind.i64 (Int.ofNat 0)))] 1 Bool.false)] 4 Bool.false)])
def kEnds : VV := (VV.tup [(VV.sl [(VV.lit (Value.int IntKind.i64 (Int.ofNat 2))), (VV.lit (Value.int IntKind.i64 (Int.ofNat 2))), (VV.lit (Value.int IntKind.i64 (Int.ofNat 2))), (VV.lit (Value.int IntKind.i64 (Int.ofNat 3))), (VV.lit (Value.int IntKind.i64 (Int.ofNat 3))), (VV.lit (Value.int IntKind.i64 (Int.ofNat 5))), (VV.lit (Value.int IntKind.i64 (Int.ofNat 3))), (VV.lit (Value.int IntKind.i64 (Int.ofNat 6)))] 4 Bool.false), (VV.lit (Value.int IntKind.i64 (Int.ofNat 0)))])
def kDone : VV := (VV.tup [(VV.agg [(VV.lit (Value.int IntKind.i64 (Int.ofNat 3))), (VV.lit (Value.int IntKind.i64 (Int.ofNat 5)))]), (VV.lit (Value.int IntKind.i64 (Int.ofNat 0)))])
def kLate : VV := (VV.tup [(VV.sl [(VV.lit (Value.int IntKind.i64 (Int.ofNat 1))), (VV.lit (Value.int IntKind.i64 (Int.ofNat 2)))] 2 Bool.false), (VV.lit (Value.int IntKind.i64 (Int.ofNat 0)))])
def kWaits : VV := (VV.tup [(VV.sl [(VV.lit (Value.int IntKind.i64 (Int.ofNat 0))), (VV.lit (Value.int IntKind.i64 (Int.ofNat 0))), (VV.lit (Value.int IntKind.i64 (Int.ofNat 1))), (VV.lit (Value.int IntKind.i64 (Int.ofNat 0)))] 4 Bool.false), (VV.lit (Value.int IntKind.i64 (Int.ofNat 0)))])
def kChain : VV := (VV.tup [(VV.sl [(VV.lit (Value.int IntKind.i64 (Int.ofNat 1))), (VV.lit (Value.int IntKind.i64 (Int.ofNat 3)))] 2 Bool.false), (VV.lit (Value.int IntKind.i64 (Int.ofNat 0)))])
def kSpare : VV := (VV.tup [(VV.lit (Value.int IntKind.i64 (Int.ofNat 1))), (VV.lit (Value.int IntKind.i64 (Int.ofNat 0)))])
def kBest : VV := (VV.tup [(VV.sl [(VV.lit (Value.int IntKind.i64 (Int.ofNat 0))), (VV.lit (Value.int IntKind.i64 (Int.ofNat 1))), (VV.lit (Value.int IntKind.i64 (Int.ofNat 0))), (VV.lit (Value.int IntKind.i64 (Int.ofNat 1)))] 4 Bool.false), (VV.lit (Value.int IntKind.i64 (Int.ofNat 6))), (VV.lit (Value.int IntKind.i64 (Int.ofNat 0)))])
def kCount : VV := (VV.tup [(VV.lit (Value.int IntKind.i64 (Int.ofNat 1))), (VV.lit (Value.int IntKind.i64 (Int.ofNat 0)))])
def kWho : VV := (VV.tup [(VV.sl [(VV.lit (Value.int IntKind.i64 (Int.ofNat 1)))] 1 Bool.false), (VV.lit (Value.int IntKind.i64 (Int.ofNat 0)))])
def kGive : VV := (VV.tup [(VV.lit (Value.int IntKind.i64 (Int.ofNat 1))), (VV.lit (Value.int IntKind.i64 (Int.ofNat 8))), (VV.lit (Value.int IntKind.i64 (Int.ofNat 0)))])
def kMore : VV := (VV.tup [(VV.lit (Value.int IntKind.i64 (Int.ofNat 5))), (VV.lit (Value.int IntKind.i64 (Int.ofNat 0)))])
def kLeast : VV := (VV.tup [(VV.lit (Value.int IntKind.i64 (Int.ofNat 2))), (VV.lit (Value.int IntKind.i64 (Int.ofNat 0)))])
def kRead : VV := (VV.tup [(VV.agg [(VV.lit (Value.int IntKind.i64 (Int.ofNat 0))), (VV.sl [(VV.lit (Value.int IntKind.i64 (Int.ofNat 0)))] 1 Bool.false), (VV.sl [(VV.lit (Value.int IntKind.i64 (Int.ofNat 0))), (VV.lit (Value.bool Bool.false)), (VV.lit (Value.int IntKind.i64 (Int.ofNat 1))), (VV.lit (Value.int IntKind.i64 (Int.ofNat 1))), (VV.lit (Value.slice Option.none 0 0))] 1 Bool.false)]), (VV.lit (Value.int IntKind.i64 (Int.ofNat 0)))])
theorem pB : ai Tryz.prog G0 64 [] (.tree kB) := ai.closedF (fs := []) (tab := []) hmix trivial 1000 (by kernel_rfl)
theorem pEnds : ai Tryz.prog G0 22 [kB, .sl [.lit (.int .i64 (0)), .lit (.int .i64 (1)), .lit (.int .i64 (0)), .lit (.int .i64 (1))] 4 false] (.tree kEnds) := ai.closedF (fs := []) (tab := []) hmix trivial 1000 (by kernel_rfl)
theorem pDone : ai Tryz.prog G0 23 [kB, .sl [.lit (.int .i64 (0)), .lit (.int .i64 (1)), .lit (.int .i64 (0)), .lit (.int .i64 (1))] 4 false, .lit (.int .i64 (0))] (.tree kDone) := ai.closedF (fs := []) (tab := []) hmix trivial 1000 (by kernel_rfl)
theorem pLate : ai Tryz.prog G0 36 [kB, .sl [.lit (.int .i64 (0)), .lit (.int .i64 (1)), .lit (.int .i64 (0)), .lit (.int .i64 (0))] 4 false] (.tree kLate) := ai.closedF (fs := []) (tab := []) hmix trivial 1000 (by kernel_rfl)
theorem pWaits : ai Tryz.prog G0 37 [kB, .sl [.lit (.int .i64 (0)), .lit (.int .i64 (1)), .lit (.int .i64 (0)), .lit (.int .i64 (1))] 4 false] (.tree kWaits) := ai.closedF (fs := []) (tab := []) hmix trivial 1000 (by kernel_rfl)
theorem pChain : ai Tryz.prog G0 42 [kB, .sl [.lit (.int .i64 (0)), .lit (.int .i64 (1)), .lit (.int .i64 (0)), .lit (.int .i64 (1))] 4 false] (.tree kChain) := ai.closedF (fs := []) (tab := []) hmix trivial 1000 (by kernel_rfl)
theorem pSpare : ai Tryz.prog G0 43 [kB, .sl [.lit (.int .i64 (0)), .lit (.int .i64 (1)), .lit (.int .i64 (0)), .lit (.int .i64 (1))] 4 false, .lit (.int .i64 (0))] (.tree kSpare) := ai.closedF (fs := []) (tab := []) hmix trivial 1000 (by kernel_rfl)
theorem pBest : ai Tryz.prog G0 51 [kB] (.tree kBest) := ai.closedF (fs := []) (tab := []) hmix trivial 1000 (by kernel_rfl)
theorem pCount : ai Tryz.prog G0 52 [kB] (.tree kCount) := ai.closedF (fs := []) (tab := []) hmix trivial 1000 (by kernel_rfl)
theorem pWho : ai Tryz.prog G0 55 [kB, .lit (.int .i64 (1))] (.tree kWho) := ai.closedF (fs := []) (tab := []) hmix trivial 1000 (by kernel_rfl)
theorem pGive : ai Tryz.prog G0 56 [kB, .sl [.lit (.int .i64 (0)), .lit (.int .i64 (0)), .lit (.int .i64 (0)), .lit (.int .i64 (0))] 4 false, .lit (.int .i64 (1))] (.tree kGive) := ai.closedF (fs := []) (tab := []) hmix trivial 1000 (by kernel_rfl)
theorem pMore : ai Tryz.prog G0 60 [kB] (.tree kMore) := ai.closedF (fs := []) (tab := []) hmix trivial 1000 (by kernel_rfl)
theorem pLeast : ai Tryz.prog G0 61 [kB, .lit (.int .i64 (5))] (.tree kLeast) := ai.closedF (fs := []) (tab := []) hmix trivial 1000 (by kernel_rfl)
theorem pRead : ai Tryz.prog G0 65 [.lit (.string ⟨⟨[98, 101, 110, 99, 104, 32, 48, 10, 98, 111, 97, 114, 100, 32, 48, 10, 115, 116, 114, 97, 105, 103, 104, 116, 32, 48, 32, 49, 32, 49, 32, 45, 10, 101, 110, 100, 32, 49, 55, 53, 10]⟩⟩)] (.tree kRead) := ai.closedF (fs := []) (tab := []) hmix trivial 1000 (by kernel_rfl)
def kTab : KTab := [
  (64, [], kB),
  (22, [kB, .sl [.lit (.int .i64 (0)), .lit (.int .i64 (1)), .lit (.int .i64 (0)), .lit (.int .i64 (1))] 4 false], kEnds),
  (23, [kB, .sl [.lit (.int .i64 (0)), .lit (.int .i64 (1)), .lit (.int .i64 (0)), .lit (.int .i64 (1))] 4 false, .lit (.int .i64 (0))], kDone),
  (36, [kB, .sl [.lit (.int .i64 (0)), .lit (.int .i64 (1)), .lit (.int .i64 (0)), .lit (.int .i64 (0))] 4 false], kLate),
  (37, [kB, .sl [.lit (.int .i64 (0)), .lit (.int .i64 (1)), .lit (.int .i64 (0)), .lit (.int .i64 (1))] 4 false], kWaits),
  (42, [kB, .sl [.lit (.int .i64 (0)), .lit (.int .i64 (1)), .lit (.int .i64 (0)), .lit (.int .i64 (1))] 4 false], kChain),
  (43, [kB, .sl [.lit (.int .i64 (0)), .lit (.int .i64 (1)), .lit (.int .i64 (0)), .lit (.int .i64 (1))] 4 false, .lit (.int .i64 (0))], kSpare),
  (51, [kB], kBest),
  (52, [kB], kCount),
  (55, [kB, .lit (.int .i64 (1))], kWho),
  (56, [kB, .sl [.lit (.int .i64 (0)), .lit (.int .i64 (0)), .lit (.int .i64 (0)), .lit (.int .i64 (0))] 4 false, .lit (.int .i64 (1))], kGive),
  (60, [kB], kMore),
  (61, [kB, .lit (.int .i64 (5))], kLeast),
  (65, [.lit (.string ⟨⟨[98, 101, 110, 99, 104, 32, 48, 10, 98, 111, 97, 114, 100, 32, 48, 10, 115, 116, 114, 97, 105, 103, 104, 116, 32, 48, 32, 49, 32, 49, 32, 45, 10, 101, 110, 100, 32, 49, 55, 53, 10]⟩⟩)], kRead)]
theorem kTabOk : KTabOk Tryz.prog G0 kTab := ⟨⟨by kernel_rfl, pB⟩, ⟨⟨by kernel_rfl, pEnds⟩, ⟨⟨by kernel_rfl, pDone⟩, ⟨⟨by kernel_rfl, pLate⟩, ⟨⟨by kernel_rfl, pWaits⟩, ⟨⟨by kernel_rfl, pChain⟩, ⟨⟨by kernel_rfl, pSpare⟩, ⟨⟨by kernel_rfl, pBest⟩, ⟨⟨by kernel_rfl, pCount⟩, ⟨⟨by kernel_rfl, pWho⟩, ⟨⟨by kernel_rfl, pGive⟩, ⟨⟨by kernel_rfl, pMore⟩, ⟨⟨by kernel_rfl, pLeast⟩, ⟨⟨by kernel_rfl, pRead⟩, trivial⟩⟩⟩⟩⟩⟩⟩⟩⟩⟩⟩⟩⟩⟩
theorem pKnown : ai Tryz.prog G0 20 [] (.tree (.lit (.bool true))) := ai.closedF (fs := []) hmix kTabOk 1000 (by kernel_rfl)
#print axioms pKnown
theorem vl : ai Tryz.prog G0 20 [] (.tree (.lit (.bool true))) := pKnown
def xG (ag : GBk) (ae : List Int) : Option (Bool) := Option.bind (s5 ag) (fun r1 => cond (r1) (Option.bind (xH ae) (fun r2 => cond (r2) (Option.bind (vm ag ae) (fun r3 => Option.bind (vn ag ae) (fun r4 => Option.bind (vo ag) (fun r5 => cond (r5) (Option.bind (vp ag ae) (fun r6 => cond (r6) (cond (r3.2 == 0) (Option.bind (vf ag ae) (fun r7 => Option.bind (uY r3.1 r7) (fun r8 => cond (r8) (cond (r4.2 == 0) (Option.bind (vh ag ae) (fun r9 => Option.bind (va r4.1 r9) (fun km => cond (km) (some true) (some false)))) (some false)) (some false)))) (some false)) (cond (r3.2 == 2) (cond ((List.length r3.1 : Int) == 0) (cond (r4.2 == 2) (cond ((List.length r4.1 : Int) == 0) (some true) (some false)) (some false)) (some false)) (some false)))) (cond (r3.2 == 2) (cond ((List.length r3.1 : Int) == 0) (cond (r4.2 == 2) (cond ((List.length r4.1 : Int) == 0) (some true) (some false)) (some false)) (some false)) (some false)))))) (some true))) (some true))
theorem MV (ag : GBk) (ae : List Int) (R : Bool) (h : xG ag ae = some R) : ai Tryz.prog G0 5 [.agg (cGBk ag), .sl (aa eI ae) (List.length ae) false] (.tree (.lit (.bool R))) := by
 refine ai.runR mixed Tryz.call5 Tryz.func5 rfl (by simp [Tryz.ntmps5]; kernel_rfl) ?_
 obtain ⟨KF, h, kF, kN⟩ := cO h
 simp only [xG] at h
 obtain ⟨fX, oM, h⟩ := optI h kN
 try simp only [hs] at h
 simp only [vz, tyf, nm, seval]
 refine ktA (Pk _ _ oM) ?_
 refine bZ (fun tm => tm 1 = .sl (aa eI ae) (List.length ae) false ∧ tm 2 = .ptr 0 0 ∧ tm 10 = .lit (.bool fX) ∧ True) (by refine ⟨?_, ?_, ?_, trivial⟩ <;> first | (simp only [ua, nm, seval] <;> rfl) | rfl) ?_
 rintro tm ⟨aW, bu, bn, _⟩
 cases cm : (fX)
 ·simp only [cm, hs] at h
  simp only [vz, tyf, aW, bu, bn, cm, nm, seval]
  refine ktree0 vl ?_
  try simp only [vz, tyf, aW, bu, bn, cm, nm, seval]
  obtain rfl := kF _ h
  exact bw Tryz.results5 rfl
 simp only [cm, hs] at h
 obtain ⟨dJ, n4, h⟩ := optI h kN
 try simp only [hs] at h
 simp only [vz, tyf, aW, bu, bn, cm, nm, seval]
 refine ktA (Pl _ _ n4) ?_
 refine bZ (fun tm => tm 1 = .sl (aa eI ae) (List.length ae) false ∧ tm 2 = .ptr 0 0 ∧ tm 12 = .lit (.bool false) ∧ tm 14 = .lit (.bool dJ) ∧ True) (by refine ⟨aW, bu, ?_, ?_, trivial⟩ <;> first | (simp only [ua, aW, bu, bn, cm, nm, seval] <;> rfl) | rfl) ?_
 rintro tm ⟨cq, dY, dw, cC, _⟩
 cases bM : (dJ)
 ·simp only [bM, hs] at h
  simp only [vz, tyf, cm, cq, dY, dw, cC, bM, nm, seval]
  refine ktree0 vl ?_
  try simp only [vz, tyf, cm, cq, dY, dw, cC, bM, nm, seval]
  obtain rfl := kF _ h
  exact bw Tryz.results5 rfl
 simp only [bM, hs] at h
 obtain ⟨dD, kO, h⟩ := optI h kN
 try simp only [hs] at h
 simp only [vz, tyf, cm, cq, dY, dw, cC, bM, nm, seval]
 refine ktA (Pm _ _ _ kO) ?_
 refine bZ (fun tm => tm 1 = .sl (aa eI ae) (List.length ae) false ∧ tm 2 = .ptr 0 0 ∧ tm 21 = .tup [.sl (aa eI dD.1) (List.length dD.1) false, .lit (.int .i64 dD.2)] ∧ True) (by refine ⟨cq, dY, ?_, trivial⟩ <;> first | (simp only [ua, cm, cq, dY, dw, cC, bM, nm, seval] <;> rfl) | rfl) ?_
 rintro tm ⟨cn, bp, dx, _⟩
 obtain ⟨g0, vq, h⟩ := optI h kN
 try simp only [hs] at h
 simp only [vz, tyf, cm, bM, cn, bp, dx, nm, seval]
 refine ktA (Pn _ _ _ vq) ?_
 refine bZ (fun tm => tm 1 = .sl (aa eI ae) (List.length ae) false ∧ tm 2 = .ptr 0 0 ∧ tm 5 = .sl (aa eI dD.1) (List.length dD.1) false ∧ tm 6 = .lit (.int .i64 dD.2) ∧ tm 27 = .tup [.sl (aa eI g0.1) (List.length g0.1) false, .lit (.int .i64 g0.2)] ∧ True) (by refine ⟨cn, bp, ?_, ?_, ?_, trivial⟩ <;> first | (simp only [ua, cm, bM, cn, bp, dx, nm, seval] <;> rfl) | rfl) ?_
 rintro tm ⟨cG, ep, ez, di, dH, _⟩
 obtain ⟨ub, Ce, h⟩ := optI h kN
 try simp only [hs] at h
 simp only [vz, tyf, cm, bM, cG, ep, ez, di, dH, nm, seval]
 refine ktA (Po _ _ Ce) ?_
 refine bZ (fun tm => tm 1 = .sl (aa eI ae) (List.length ae) false ∧ tm 2 = .ptr 0 0 ∧ tm 5 = .sl (aa eI dD.1) (List.length dD.1) false ∧ tm 6 = .lit (.int .i64 dD.2) ∧ tm 7 = .sl (aa eI g0.1) (List.length g0.1) false ∧ tm 8 = .lit (.int .i64 g0.2) ∧ tm 31 = .lit (.bool ub) ∧ True) (by refine ⟨cG, ep, ez, di, ?_, ?_, ?_, trivial⟩ <;> first | (simp only [ua, cm, bM, cG, ep, ez, di, dH, nm, seval] <;> rfl) | rfl) ?_
 rintro tm ⟨cR, cS, bV, ck, bz, b4, bG, _⟩
 cases fH : (ub)
 ·simp only [fH, hs] at h
  cases da : (dD.2 == 2)
  ·simp only [da, hs] at h
   try simp only [vz, tyf, cm, bM, cR, cS, bV, ck, bz, b4, bG, fH, da, nm, seval]
   obtain rfl := kF _ h
   exact bw Tryz.results5 rfl
  simp only [da, hs] at h
  cases jR : ((List.length dD.1 : Int) == 0)
  ·simp only [jR, hs] at h
   try simp only [vz, tyf, cm, bM, cR, cS, bV, ck, bz, b4, bG, fH, da, jR, nm, seval]
   obtain rfl := kF _ h
   exact bw Tryz.results5 rfl
  simp only [jR, hs] at h
  cases kW : (g0.2 == 2)
  ·simp only [kW, hs] at h
   try simp only [vz, tyf, cm, bM, cR, cS, bV, ck, bz, b4, bG, fH, da, jR, kW, nm, seval]
   obtain rfl := kF _ h
   exact bw Tryz.results5 rfl
  simp only [kW, hs] at h
  cases xI : ((List.length g0.1 : Int) == 0)
  ·simp only [xI, hs] at h
   have s6 := And.intro cm (And.intro bM (And.intro fH (And.intro da (And.intro jR (And.intro kW xI)))))
   try simp only [vz, tyf, s6, cR, cS, bV, ck, bz, b4, bG, nm, seval]
   obtain rfl := kF _ h
   exact bw Tryz.results5 rfl
  simp only [xI, hs] at h
  have Lc := And.intro cm (And.intro bM (And.intro fH (And.intro da (And.intro jR (And.intro kW xI)))))
  simp only [vz, tyf, Lc, cR, cS, bV, ck, bz, b4, bG, nm, seval]
  refine ktree0 vl ?_
  try simp only [vz, tyf, Lc, cR, cS, bV, ck, bz, b4, bG, nm, seval]
  obtain rfl := kF _ h
  exact bw Tryz.results5 rfl
 simp only [fH, hs] at h
 obtain ⟨Ld, jS, h⟩ := optI h kN
 try simp only [hs] at h
 simp only [vz, tyf, cm, bM, cR, cS, bV, ck, bz, b4, bG, fH, nm, seval]
 refine ktA (Pp _ _ _ jS) ?_
 refine bZ (fun tm => tm 1 = .sl (aa eI ae) (List.length ae) false ∧ tm 2 = .ptr 0 0 ∧ tm 5 = .sl (aa eI dD.1) (List.length dD.1) false ∧ tm 6 = .lit (.int .i64 dD.2) ∧ tm 7 = .sl (aa eI g0.1) (List.length g0.1) false ∧ tm 8 = .lit (.int .i64 g0.2) ∧ tm 33 = .lit (.bool false) ∧ tm 36 = .lit (.bool Ld) ∧ True) (by refine ⟨cR, cS, bV, ck, bz, b4, ?_, ?_, trivial⟩ <;> first | (simp only [ua, cm, bM, cR, cS, bV, ck, bz, b4, bG, fH, nm, seval] <;> rfl) | rfl) ?_
 rintro tm ⟨eu, fz, du, dZ, eA, eL, il, kX, _⟩
 cases jT : (Ld)
 ·simp only [jT, hs] at h
  cases s7 : (dD.2 == 2)
  ·simp only [s7, hs] at h
   try simp only [vz, tyf, cm, bM, fH, eu, fz, du, dZ, eA, eL, il, kX, jT, s7, nm, seval]
   obtain rfl := kF _ h
   exact bw Tryz.results5 rfl
  simp only [s7, hs] at h
  cases jm : ((List.length dD.1 : Int) == 0)
  ·simp only [jm, hs] at h
   try simp only [vz, tyf, cm, bM, fH, eu, fz, du, dZ, eA, eL, il, kX, jT, s7, jm, nm, seval]
   obtain rfl := kF _ h
   exact bw Tryz.results5 rfl
  simp only [jm, hs] at h
  cases xJ : (g0.2 == 2)
  ·simp only [xJ, hs] at h
   have Pq := And.intro cm (And.intro bM (And.intro fH (And.intro jT (And.intro s7 (And.intro jm xJ)))))
   try simp only [vz, tyf, Pq, eu, fz, du, dZ, eA, eL, il, kX, nm, seval]
   obtain rfl := kF _ h
   exact bw Tryz.results5 rfl
  simp only [xJ, hs] at h
  have Ex := And.intro cm (And.intro bM (And.intro fH (And.intro jT (And.intro s7 (And.intro jm xJ)))))
  cases iR : ((List.length g0.1 : Int) == 0)
  ·simp only [iR, hs] at h
   try simp only [vz, tyf, Ex, eu, fz, du, dZ, eA, eL, il, kX, iR, nm, seval]
   obtain rfl := kF _ h
   exact bw Tryz.results5 rfl
  simp only [iR, hs] at h
  simp only [vz, tyf, Ex, eu, fz, du, dZ, eA, eL, il, kX, iR, nm, seval]
  refine ktree0 vl ?_
  try simp only [vz, tyf, Ex, eu, fz, du, dZ, eA, eL, il, kX, iR, nm, seval]
  obtain rfl := kF _ h
  exact bw Tryz.results5 rfl
 simp only [jT, hs] at h
 cases mD : (dD.2 == 0)
 ·simp only [mD, hs] at h
  try simp only [vz, tyf, cm, bM, fH, eu, fz, du, dZ, eA, eL, il, kX, jT, mD, nm, seval]
  obtain rfl := kF _ h
  exact bw Tryz.results5 rfl
 simp only [mD, hs] at h
 obtain ⟨Le, Pr, h⟩ := optI h kN
 try simp only [hs] at h
 simp only [vz, tyf, cm, bM, fH, eu, fz, du, dZ, eA, eL, il, kX, jT, mD, nm, seval]
 refine ktA (Ps _ _ _ Pr) ?_
 refine bZ (fun tm => tm 1 = .sl (aa eI ae) (List.length ae) false ∧ tm 2 = .ptr 0 0 ∧ tm 7 = .sl (aa eI g0.1) (List.length g0.1) false ∧ tm 8 = .lit (.int .i64 g0.2) ∧ tm 60 = .lit (.bool true) ∧ tm 61 = .sl (aa eI dD.1) (List.length dD.1) false ∧ tm 64 = .sl (aa eI Le) (List.length Le) false ∧ True) (by refine ⟨eu, fz, eA, eL, ?_, ?_, ?_, trivial⟩ <;> first | (simp only [ua, cm, bM, fH, eu, fz, du, dZ, eA, eL, il, kX, jT, mD, nm, seval] <;> rfl) | rfl) ?_
 rintro tm ⟨kY, kZ, la, Ey, Lf, Lg, Lh, _⟩
 obtain ⟨Li, mu, h⟩ := optI h kN
 try simp only [hs] at h
 simp only [vz, tyf, cm, bM, fH, jT, mD, kY, kZ, la, Ey, Lf, Lg, Lh, nm, seval]
 refine ktA (Pt _ _ _ mu) ?_
 refine bZ (fun tm => tm 1 = .sl (aa eI ae) (List.length ae) false ∧ tm 2 = .ptr 0 0 ∧ tm 7 = .sl (aa eI g0.1) (List.length g0.1) false ∧ tm 8 = .lit (.int .i64 g0.2) ∧ tm 60 = .lit (.bool true) ∧ tm 65 = .lit (.bool Li) ∧ True) (by refine ⟨kY, kZ, la, Ey, ?_, ?_, trivial⟩ <;> first | (simp only [ua, cm, bM, fH, jT, mD, kY, kZ, la, Ey, Lf, Lg, Lh, nm, seval] <;> rfl) | rfl) ?_
 rintro tm ⟨mw, h9, hC, hD, i7, ku, _⟩
 cases vr : (Li)
 ·simp only [vr, hs] at h
  try simp only [vz, tyf, cm, bM, fH, jT, mD, mw, h9, hC, hD, i7, ku, vr, nm, seval]
  obtain rfl := kF _ h
  exact bw Tryz.results5 rfl
 simp only [vr, hs] at h
 cases xK : (g0.2 == 0)
 ·simp only [xK, hs] at h
  have Pu := And.intro cm (And.intro bM (And.intro fH (And.intro jT (And.intro mD (And.intro vr xK)))))
  try simp only [vz, tyf, Pu, mw, h9, hC, hD, i7, ku, nm, seval]
  obtain rfl := kF _ h
  exact bw Tryz.results5 rfl
 simp only [xK, hs] at h
 have qx := And.intro cm (And.intro bM (And.intro fH (And.intro jT (And.intro mD (And.intro vr xK)))))
 obtain ⟨Lj, Pv, h⟩ := optI h kN
 try simp only [hs] at h
 simp only [vz, tyf, qx, mw, h9, hC, hD, i7, ku, nm, seval]
 refine ktA (Pw _ _ _ Pv) ?_
 refine bZ (fun tm => tm 71 = .lit (.bool true) ∧ tm 72 = .sl (aa eI g0.1) (List.length g0.1) false ∧ tm 75 = .sl (aa eI Lj) (List.length Lj) false ∧ True) (by refine ⟨?_, ?_, ?_, trivial⟩ <;> first | (simp only [ua, qx, mw, h9, hC, hD, i7, ku, nm, seval] <;> rfl) | rfl) ?_
 rintro tm ⟨Lk, Ll, Lm, _⟩
 obtain ⟨Ln, Px, h⟩ := optI h kN
 try simp only [hs] at h
 simp only [vz, tyf, qx, Lk, Ll, Lm, nm, seval]
 refine ktA (Py _ _ _ Px) ?_
 refine bZ (fun tm => tm 71 = .lit (.bool true) ∧ tm 76 = .lit (.bool Ln) ∧ True) (by refine ⟨?_, ?_, trivial⟩ <;> first | (simp only [ua, qx, Lk, Ll, Lm, nm, seval] <;> rfl) | rfl) ?_
 rintro tm ⟨mF, mG, _⟩
 cases lH : (Ln)
 ·simp only [lH, hs] at h
  try simp only [vz, tyf, qx, mF, mG, lH, nm, seval]
  obtain rfl := kF _ h
  exact bw Tryz.results5 rfl
 simp only [lH, hs] at h
 simp only [vz, tyf, qx, mF, mG, lH, nm, seval]
 refine ktree0 vl ?_
 try simp only [vz, tyf, qx, mF, mG, lH, nm, seval]
 obtain rfl := kF _ h
 exact bw Tryz.results5 rfl
theorem MW (b : GBk) (pl : List Int) (hb : au b.Boards = true ∧ au b.Strokes = true ∧ ∀ y ∈ b.Strokes, au y.Needs = true) (hp : au pl = true) : xG b pl = some true := by
 have hL := Len.of hb
 unfold xG
 rcases Pg hL with e | e
 ·rw [e]; rfl
 simp only [e, Option.bind_some, cond_true, xH, Ez hL, E0 hL, E1 hL, E2 hL]
 cases (decide ((pl.length : Int) ≤ 9)) with
 | false => rfl
 | true =>
 cases hB : benchB b with
 | false => rfl
 | true =>
 have hbk := E3.1 hB
 have hn := hbk.ns
 have hbn := hbk.nb
 cases hP : planB b pl with
 | false => rfl
 | true =>
 have hpl := (E4.1 hP).len
 simp only [cond_true, Es hL hbk hpl, Eu hL hbk hpl, Option.bind_some, Bool.and_self, if_true, Bool.true_and, beq_self_eq_true]
 rw [sameW (by rw [Lo]; omega), sameI (by simp [waitsL]; omega)]
 rfl
end Go.V
end
