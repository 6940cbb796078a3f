/- Part of a proof. -/
import Derived.Test.YtmhlghgbfmcdaaaGreatDoorG7ae
import Derived.RangeFuncIn
import Derived.RangeFuncLeaves
import Derived.RecoverIn
set_option linter.all false
section
namespace Go.V
open Go
theorem RepL.of_get {c : Ctx} {W : World} : ∀ {xs : List VV} {l : List Value}, l.length = xs.length → (∀ (i : Nat) (x : VV) (v : Value), xs[i]? = some x → l[i]? = some v → Rep c W x v) → RepL c W xs l
 | [], [], _, _ => rfl
 | [], _ :: _, h, _ => by simp at h
 | _ :: _, [], h, _ => by simp at h
 | x :: xs, v :: l, h, h' => ⟨v, l, rfl, h' 0 x v rfl rfl, RepL.of_get (by simpa using h) fun i y u hy hu => h' (i + 1) y u (by simpa using hy) (by simpa using hu)⟩
def tmL (n : Nat) (tm : Nat → VV) : List VV := (List.range n).map tm
theorem sh {c : Ctx} {W : World} {tm : Nat → VV} {arr : Array Value} (h : ∀ t, Rep c W (tm t) (arr.getD t undef)) : RepL c W (tmL arr.size tm) arr.toList := by
 refine RepL.of_get (by simp [tmL]) fun i x v hx hv => ?_
 have hi : i < arr.size := by
  rcases Nat.lt_or_ge i arr.size with h | h
  ·exact h
  ·rw [List.getElem?_eq_none (by simpa using h)] at hv; cases hv
 have h1 := h i
 simp [tmL, hi] at hx
 subst hx
 have : arr.getD i undef = v := by
  have hv' : arr[i]? = some v := by simpa using hv
  rw [Array.getD_eq_getD_getElem?, hv']; rfl
 rwa [this] at h1
def loopRec (s : LoopState) (pe : Option Code) (fn : FuncId) (l : List Value) (ps : Array Tmp) (as bo : Code) (b : Nat) : Loop :=
 { state := s, pending := pe, fn, tmps := ⟨l⟩, params := ps, assign := as, body := bo, defers := b }
section record
variable {P : Program} {W W' : World} {b : Nat} {r : Loop}
theorem wb (h : (getObj b).run P W = .ok (.loop r) W) : (Instr.getLoop b).run P W = .ok r W := by
 simp [Instr.getLoop, Sem.run_bind, h]
theorem Jk (h : (getObj b).run P W = .ok (.loop r) W) (hb : r.state ≠ .busy) (hset : (setObj b (.loop { r with state := .exhausted })).run P W = .ok () W') : (Instr.endLoop b).run P W = .ok r.pending W' := by
 have hb' : (r.state == .busy) = false := by simpa using hb
 unfold Instr.endLoop
 rw [Sem.run_bind, wb h, Result.andThen_ok]
 simp [hb', hset]
theorem Jl (h : (getObj b).run P W = .ok (.loop r) W) (hb : r.state = .ready) (hset : (setObj b (.loop { r with state := .busy })).run P W = .ok () W') : (Instr.beginRound b).run P W = .ok () W' := by
 unfold Instr.beginRound
 rw [Sem.run_bind, wb h, Result.andThen_ok]
 simp [hb, hset]
theorem Jm {jump : Option Code} (h : (getObj b).run P W = .ok (.loop r) W) (hset : (setObj b (.loop { r with state := if jump.isNone then .ready else .done, pending := jump })).run P W = .ok () W') :
  (Instr.endRound b jump).run P W = .ok (.bool jump.isNone) W' := by
 unfold Instr.endRound
 rw [Sem.run_bind, wb h, Result.andThen_ok, Sem.run_bind, hset]
 rfl
end record
theorem wc {c : Ctx} {W : World} {P : Program} (s : Sim c W) {β : Nat} {s0 : LoopState} {pe : Option Code} {tm : List VV} {ps : Array Tmp} {as bo : Code} {df : Nat} (h : c.H β = some (.loop s0 pe tm ps as bo df)) :
  ∃ l fn, RepL c W tm l ∧ (getObj (c.φ β)).run P W = .ok (.loop (loopRec s0 pe fn l ps as bo (c.φ df))) W ∧ ∀ s1 cv, ∃ W', (setObj (c.φ β) (.loop (loopRec s1 cv fn l ps as bo (c.φ df)))).run P W = .ok () W' ∧
   Ext c W (c.upd β (.loop s1 cv tm ps as bo df)) W' ∧ Sim (c.upd β (.loop s1 cv tm ps as bo df)) W' := by
 have hl : c.live β := by simp [Ctx.live, h]
 obtain ⟨l, fn, h1, h2, h3, h4⟩ := s.obj β _ h
 refine ⟨l, fn, h2, by simp [getObj, Sem.run, h1, loopRec], fun s1 cv => ?_⟩
 have hset := qz (P := P) (o' := .loop (loopRec s1 cv fn l ps as bo (c.φ df))) h1 (by intros; simp)
 have hext : Ext c W (c.upd β (.loop s1 cv tm ps as bo df)) { W with heap := W.heap.setIfInBounds (c.φ β) (.loop (loopRec s1 cv fn l ps as bo (c.φ df))) } := Ext.upd hl (But.setObj W _ _)
 refine ⟨_, hset, hext, Sim.upd s hl (But.setObj W _ _) (fun ⟨ds, hd⟩ => by rw [h] at hd; cases hd) ⟨l, fn, q9 h1, RepL.abides (hext.abides s) _ h2, h3, ?_⟩⟩
 obtain ⟨ds, hd⟩ := h4
 refine ⟨ds, ?_⟩
 have : df ≠ β := by intro e; subst e; rw [h] at hd; cases hd
 simpa [Ctx.upd, this] using hd
theorem zM {c : Ctx} {W : World} (s : Sim c W) {γ : Nat} (hγ : ¬ c.used γ) {s0 : LoopState} {pe : Option Code} {fn : FuncId} {tm : List VV} {l : List Value} {ps : Array Tmp} {as bo : Code} {df : Nat} (htm : RepL c W tm l)
  (hu : c.used df) (hd : isDef c.H df) (hne : df ≠ γ) :
  Ext c W (c.push c.H γ (.loop s0 pe tm ps as bo df) W.heap.size 0) (W.alloc (.loop (loopRec s0 pe fn l ps as bo (c.φ df)))) ∧ Sim (c.push c.H γ (.loop s0 pe tm ps as bo df) W.heap.size 0) (W.alloc (.loop (loopRec s0 pe fn l ps as bo (c.φ df)))) := by
 have ab : Abides c W (c.push c.H γ (.loop s0 pe tm ps as bo df) W.heap.size 0) (W.alloc (.loop (loopRec s0 pe fn l ps as bo (c.φ df)))) := oc s (au.refl _) hγ (.inl (Nat.le_refl _)) (But.alloc W _)
 refine od s hγ ⟨l, fn, ?_, RepL.abides ab _ htm, .inr hu, ?_⟩
 ·simp only [Ctx.push, if_true, if_neg hne]
  exact lY _ _
 ·obtain ⟨ds, hd⟩ := hd
  exact ⟨ds, by simpa [Ctx.push, hne] using hd⟩
def jumpK (P : Program) (G : Glob) (n : Nat) (Q : VExit → St → Prop) : Option Code → St → Prop
 | none, st => Q .normal st
 | some c, st => VWp P G n c Q st
def RangeEnd (P : Program) (G : Glob) (n : Nat) (Q : VExit → St → Prop) (st : St) (H' : Nat → Option VObj) (nx' : Nat) : Prop :=
 ∃ s pe tm ps as bo df, H' (st.nx + 1) = some (.loop s pe tm ps as bo df) ∧ s ≠ .busy ∧ jumpK P G n Q pe { st with H := updH H' (st.nx + 1) (.loop .exhausted pe tm ps as bo df), nx := nx', df := .coll st.nx :: st.df }
theorem VWp.rangeFunc {P : Program} {G : Glob} {n : Nat} {Q : VExit → St → Prop} {st : St} {g : Operand} {ps : Array Tmp} {as bo : Code} {f : FuncId} {first captured : List VV} (hrg : G.rg = some none)
  (hg : st.ρ G g = .fn (.func f) first captured)
  (h : an P G f (first ++ [.yl (st.nx + 1)] ++ captured) (updH (updH st.H st.nx (.deferred (some []))) (st.nx + 1) (.loop .ready none (tmL n st.tm) ps as bo st.nx)) (st.nx + 2)
   (fun _ H' nx' => RangeEnd P G n Q st H' nx') (fun x H' nx' => Q (.panic x) { st with H := H', nx := nx', df := .coll st.nx :: st.df })) : VWp P G n (.rangeFunc g ps as bo) Q st := by
 intro ro c W a hro s hr hs
 have hro' : ro = none := by unfold RoOk at hro; rw [hrg] at hro; exact hro
 subst hro'
 refine wpIn_rangeFunc fun fn _ => ?_
 have hv := h
 have sf : ¬ c.used st.nx := fun hb => Nat.lt_irrefl _ (hr.nx _ hb)
 obtain ⟨e1, s1⟩ := od (rm := 0) (o := .deferred (some [])) (ob := .deferred (some [])) s sf ⟨rfl, by simp only [Ctx.push, if_true]; exact lY _ _⟩
 have gA : ¬ (c.push c.H st.nx (.deferred (some [])) W.heap.size 0).used (st.nx + 1) := by
  rintro (hb | hb)
  ·omega
  ·have := hr.nx _ hb; omega
 have jf := e1.abides s
 have htm : RepL (c.push c.H st.nx (.deferred (some [])) W.heap.size 0) (W.alloc (.deferred (some []))) (tmL n st.tm) a.tmps.toList := by
  rw [← hs]; exact sh fun t => Rep.abides jf _ (hr.tm t)
 have hφ : (c.push c.H st.nx (.deferred (some [])) W.heap.size 0).φ st.nx = W.heap.size := by simp [Ctx.push]
 generalize mV : c.push c.H st.nx (.deferred (some [])) W.heap.size 0 = c1 at *
 generalize zN : W.alloc (.deferred (some [])) = W1 at *
 have we : c1.H = updH st.H st.nx (.deferred (some [])) := by rw [← mV, ← hr.H]; rfl
 obtain ⟨e2, s2⟩ := zM s1 gA htm (s0 := .ready) (pe := none) (fn := fn) (ps := ps) (as := as) (bo := bo) (df := st.nx) (by rw [← mV]; exact .inl rfl) ⟨_, by rw [we]; simp [updH]; rfl⟩ (by omega)
 rw [hφ] at e2 s2
 have zO : (c1.push c1.H (st.nx + 1) (.loop .ready none (tmL n st.tm) ps as bo st.nx) W1.heap.size 0).H = updH (updH st.H st.nx (.deferred (some []))) (st.nx + 1) (.loop .ready none (tmL n st.tm) ps as bo st.nx) := by
  rw [← we]; rfl
 have hy : Rep (c1.push c1.H (st.nx + 1) (.loop .ready none (tmL n st.tm) ps as bo st.nx) W1.heap.size 0) (W1.alloc (.loop (loopRec .ready none fn a.tmps.toList ps as bo W.heap.size))) (.yl (st.nx + 1)) (.func (.yield W1.heap.size) #[] #[]) :=
  ⟨⟨.inl rfl, rfl⟩, fun _ => by simp [Ctx.push]⟩
 have hused2 : ∀ β, (c1.push c1.H (st.nx + 1) (.loop .ready none (tmL n st.tm) ps as bo st.nx) W1.heap.size 0).used β → c.used β ∨ β = st.nx ∨ β = st.nx + 1 := by
  rintro β (hb | hb)
  ·exact .inr (.inr hb)
  ·rw [← mV] at hb
   rcases hb with hb | hb
   ·exact .inr (.inl hb)
   ·exact .inl hb
 have hφ2 : (c1.push c1.H (st.nx + 1) (.loop .ready none (tmL n st.tm) ps as bo st.nx) W1.heap.size 0).φ (st.nx + 1) = W1.heap.size := by simp [Ctx.push]
 have hφ3 : (c1.push c1.H (st.nx + 1) (.loop .ready none (tmL n st.tm) ps as bo st.nx) W1.heap.size 0).φ st.nx = W.heap.size := by simp [Ctx.push, hφ]
 have hus : (c1.push c1.H (st.nx + 1) (.loop .ready none (tmL n st.tm) ps as bo st.nx) W1.heap.size 0).used (st.nx + 1) := .inl rfl
 have fA : (c1.push c1.H (st.nx + 1) (.loop .ready none (tmL n st.tm) ps as bo st.nx) W1.heap.size 0).used st.nx := .inr (by rw [← mV]; exact .inl rfl)
 generalize Np : c1.push c1.H (st.nx + 1) (.loop .ready none (tmL n st.tm) ps as bo st.nx) W1.heap.size 0 = c2 at *
 generalize zP : W1.alloc (.loop (loopRec .ready none fn a.tmps.toList ps as bo W.heap.size)) = W2 at *
 have si := e1.trans e2
 have ik := si.abides s
 have hgr := Rep.abides ik _ (hr.eval g)
 rw [hg] at hgr
 obtain ⟨l1, l2, hgv, cI, dA⟩ := hgr
 have henter : (Instr.enterLoop fn a.tmps ps as bo none).run P W = .ok (W1.heap.size, [{ target := .collected W.heap.size, args := #[] }]) W2 := by
  rw [← zP, ← zN]
  simp only [Instr.enterLoop, Sem.run_bind, run_newObj, Sem.run_pure, Result.andThen_ok]
  rfl
 refine ⟨W1.heap.size, [{ target := .collected W.heap.size, args := #[] }], W2, { target := .fn (.func f) ⟨l2⟩, args := ⟨l1⟩ ++ #[.func (.yield W1.heap.size) #[] #[]] }, W2, f, ⟨l1 ++ [.func (.yield W1.heap.size) #[] #[]] ++ l2⟩, W2, henter, ?_, fun _ _ => trivial, ?_, (fun hd => by cases hd), ?_⟩
 ·simp only [resolve, Deferred.ofValue, hgv, Sem.run_pure]
  simp [Act.eval]
 ·have := hv.1 ⟨l1 ++ [.func (.yield W1.heap.size) #[] #[]] ++ l2⟩ W2
  rw [← this]
  simp only [invoke]
  congr 2
  apply Array.ext'
  simp
 ·have zQ : GOk G c2 W2 := hr.G.abides ik
  have hcall := hv.2 c2 W2 (l1 ++ [.func (.yield W1.heap.size) #[] #[]] ++ l2) s2 zO (fun β hb => by
   rcases hused2 β hb with hb | hb | hb
   ·have := hr.nx β hb; omega
   ·omega
   ·omega) zQ (RepL.append (RepL.append cI ⟨_, [], rfl, hy, rfl⟩) dA)
  refine jh (hcall.mono ?_)
  rintro e W' ⟨c', H', nx', hext, hs', hH', hu, hu', hle, hres⟩
  have eall := si.trans hext
  have aball := eall.abides s
  have husd : ∀ β, c'.used β → c.used β ∨ st.nx ≤ β := by
   intro β hb
   rcases hu β hb with hb | hb
   ·rcases hused2 β hb with hb | hb | hb
    ·exact .inl hb
    ·right; omega
    ·right; omega
   ·right; omega
  have hdf : ∀ (c3 : Ctx) (W3 : World), Abides c' W' c3 W3 → RepDs c3 W3 (.coll st.nx :: st.df) ([{ target := .collected W.heap.size, args := #[] }] ++ a.defers) := by
   intro c3 W3 dT
   refine ⟨_, _, rfl, ⟨dT.used _ (hext.used _ fA), fun hl => ?_⟩, RepDs.abides dT (hr.df.abides aball)⟩
   have hl' := dT.live _ (hext.used _ fA) hl
   rw [dT.φ _ (hext.used _ fA) hl, hext.φ _ fA hl', hφ3]
  rcases hres with ⟨x, v, rfl, hx, s', pe, tm', ps', as', bo', df', hloop, hnb, hj⟩ | ⟨x, v, rfl, hx, hR⟩
  ·have hl : c'.live (st.nx + 1) := by simp [Ctx.live, hH', hloop]
   have hφ' : c'.φ (st.nx + 1) = W1.heap.size := by rw [hext.φ _ hus hl, hφ2]
   obtain ⟨l, fn', cI, hget, hset⟩ := wc (P := P) hs' (by rw [hH']; exact hloop)
   obtain ⟨W3, hset3, e3, s3⟩ := hset .exhausted pe
   have dT := e3.abides hs'
   have hend : (Instr.endLoop W1.heap.size).run P W' = .ok pe W3 := by
    rw [← hφ']
    exact Jk hget hnb hset3
   have fl : StRep G (c'.upd (st.nx + 1) (.loop .exhausted pe tm' ps' as' bo' df')) W3 { st with H := updH H' (st.nx + 1) (.loop .exhausted pe tm' ps' as' bo' df'), nx := nx', df := .coll st.nx :: st.df } { a with defers := [{ target := .collected W.heap.size, args := #[] }] ++ a.defers } := by
    refine ⟨by rw [← hH']; rfl, fun t => Rep.abides dT _ (Rep.abides aball _ (hr.tm t)), fun β hb => hu' β hb, hdf _ _ dT, (hr.G.abides aball).abides dT⟩
   refine ⟨pe, W3, hend, ?_⟩
   have sj := eall.trans e3
   cases pe with
   | none => exact ⟨.normal, _, _, rfl, sj, s3, fl, hs, fun β hb => husd β hb, (show st.nx ≤ nx' by omega), hj⟩
   | some cd =>
    have hwp := hj none _ W3 _ (show RoOk G _ none by unfold RoOk; rw [hrg]) s3 fl hs
    exact wpIn_mono hwp fun _ _ _ hl => hl.of_ext sj (fun β hb => husd β hb) (show st.nx ≤ nx' by omega)
  ·have fl : StRep G c' W' { st with H := H', nx := nx', df := .coll st.nx :: st.df } { a with defers := [{ target := .collected W.heap.size, args := #[] }] ++ a.defers } :=
    ⟨hH', fun t => Rep.abides aball _ (hr.tm t), fun β hb => hu' β hb, hdf _ _ ((Ext.refl c' W').abides hs'), hr.G.abides aball⟩
   exact ⟨.panic x, c', _, ⟨v, rfl, hx⟩, eall, hs', fl, hs, husd, (show st.nx ≤ nx' by omega), hR⟩
end Go.V
end
section
namespace Go.V
open Go
def roundTm (tm : List VV) (ps : List Tmp) (args : List VV) : List VV := (ps.zip args).foldl (fun l p => l.set p.1 p.2) tm
theorem zR {c : Ctx} {W : World} : ∀ {ps : List Tmp} {args tm : List VV} {vs l : List Value}, RepL c W args vs → RepL c W tm l →
  RepL c W (roundTm tm ps args) ((ps.zip vs).foldl (fun l p => l.set p.1 p.2) l)
 | [], _, _, _, _, _, h => h
 | _ :: _, [], _, _, _, ha, h => by
  simp [RepL] at ha; subst ha; simpa [roundTm] using h
 | p :: ps, x :: args, tm, _, l, ⟨v, vs, e, h1, h2⟩, h => by
  subst e
  exact zR (ps := ps) h2 (RepL.set p h h1)
theorem Jn : ∀ (ps : List (Tmp × Value)) (l : List Value), ps.foldl (fun (t : Array Value) p => t.setIfInBounds p.1 p.2) (⟨l⟩ : Array Value) = ⟨ps.foldl (fun l p => l.set p.1 p.2) l⟩
 | [], _ => rfl
 | p :: ps, l => by
  simp only [List.foldl_cons]
  rw [show (⟨l⟩ : Array Value).setIfInBounds p.1 p.2 = ⟨l.set p.1 p.2⟩ by apply Array.ext'; simp]
  exact Jn ps _
theorem Jo {P : Program} {W : World} {b : Nat} {r : Loop} {l vs : List Value} (h : (getObj b).run P W = .ok (.loop r) W) (hl : r.tmps = ⟨l⟩) (hn : vs.length = r.params.size) :
  (Instr.yield b ⟨vs⟩).run P W = .ok (.round b r.fn ⟨(r.params.toList.zip vs).foldl (fun l p => l.set p.1 p.2) l⟩ r.assign r.body) W := by
 unfold Instr.yield
 rw [Sem.run_bind, wb h, Result.andThen_ok]
 have : (⟨vs⟩ : Array Value).size = r.params.size := by simpa using hn
 simp only [this, ne_eq, not_true_eq_false, if_false, Sem.run_pure, hl]
 have e : (r.params.zip (⟨vs⟩ : Array Value)).foldl (fun tmps (x : Tmp × Value) => tmps.setIfInBounds x.1 x.2) (⟨l⟩ : Array Value) = ⟨(r.params.toList.zip vs).foldl (fun l p => l.set p.1 p.2) l⟩ := by
  rw [← Array.foldl_toList, Array.toList_zip]
  exact Jn _ _
 show Result.ok (Next.round b r.fn ((r.params.zip (⟨vs⟩ : Array Value)).foldl (fun tmps (x : Tmp × Value) => tmps.setIfInBounds x.1 x.2) (⟨l⟩ : Array Value)) r.assign r.body) W = _
 rw [e]
def RoundDone (β : Nat) (o : Oper) (st : St) (K : St → Prop) (jump : Option Code) (s2 : St) : Prop :=
 ∃ s pe tm ps as bo df, s2.H β = some (.loop s pe tm ps as bo df) ∧
  K { st.put o.dst (.lit (.bool jump.isNone)) with H := updH s2.H β (.loop (if jump.isNone then .ready else .done) jump tm ps as bo df), nx := s2.nx }
def RoundEnd (β : Nat) (o : Oper) (st : St) (K : St → Prop) : VExit → St → Prop
 | .normal, s2 => RoundDone β o st K none s2
 | .ret, s2 => RoundDone β o st K (some .ret) s2
 | .exit id, s2 => RoundDone β o st K (some (.exit id)) s2
 | .goto l, s2 => RoundDone β o st K (some (.goto l)) s2
 | .panic _, _ => False
def RoundStart (P : Program) (G : Glob) (n β : Nat) (bo : Code) (o : Oper) (st : St) (K : St → Prop) : VExit → St → Prop
 | .normal, s1 => ∃ pe tm ps as bo' df, s1.H β = some (.loop .ready pe tm ps as bo' df) ∧
   VWp P (G.at (some (some β))) n bo (RoundEnd β o st K) { s1 with H := updH s1.H β (.loop .busy pe tm ps as bo' df) }
 | _, _ => False
theorem aH.yield {P : Program} {G : Glob} {n : Nat} {ops : Array Oper} {base i : Nat} {o : Oper} {st : St} {K : St → Prop} {Qp : VV → St → Prop} {k : Call} {fo : Operand} {β : Nat} {pe : Option Code} {tm : List VV} {ps : Array Tmp} {as bo : Code} {df : Nat}
  (ho : ops[i]? = some o) (hd : dstsOk n ops = true) (hw : aG ops st.tm o = some true) (hop : o.op = .call k) (hk : k.callee = .value fo) (hf : st.ρ G fo = .yl β) (hβ : st.H β = some (.loop .ready pe tm ps as bo df)) (hn : k.args.size = ps.size)
  (h : VWp P (G.at (some (some β))) tm.length as (RoundStart P G tm.length β bo o st K) { tm := aP (roundTm tm ps.toList (k.args.toList.map (st.ρ G))), H := st.H, nx := st.nx, df := [] }) : aH P G n ops base i st K Qp := by
 intro ro c W a Kr Q hro s hr hs hγ hnx kk kp
 unfold wpOpIn
 simp only [ho]
 rw [if_pos (fk hr.tm hw)]
 refine ⟨fun _ _ => trivial, ?_⟩
 have hβc : c.H β = some (.loop .ready pe tm ps as bo df) := by rw [hr.H]; exact hβ
 have hl : c.live β := by simp [Ctx.live, hβc]
 have hub : c.used β := s.used β hl
 have hfr := hr.eval fo
 rw [hf] at hfr
 have hfv := hfr.2 hl
 obtain ⟨l, fn, cI, hget, _⟩ := wc (P := P) s hβc
 have hargs := ke hr.eval k.args.toList
 have hyield : (Instr.yield (c.φ β) (k.args.map a.eval)).run P W = .ok (.round (c.φ β) fn ⟨(ps.toList.zip (k.args.toList.map a.eval)).foldl (fun l p => l.set p.1 p.2) l⟩ as bo) W := by
  have e : k.args.map a.eval = ⟨k.args.toList.map a.eval⟩ := by apply Array.ext'; simp
  rw [e]
  exact Jo hget rfl (by simpa [loopRec] using hn)
 have hrun : (execOp a.eval o).run P W = .ok (.round (c.φ β) fn ⟨(ps.toList.zip (k.args.toList.map a.eval)).foldl (fun l p => l.set p.1 p.2) l⟩ as bo) W := by
  rw [← hyield]
  have e2 : (#[] ++ k.args.map a.eval : Array Value) = k.args.map a.eval := by simp
  simp only [execOp, hop, resolve, hk, Deferred.ofValue, hfv, pure_bind, invoke, e2]
 rw [Oper.semAt_eq _ _ _ (by rw [hop]; simp), hrun, Oper.uponIn_round]
 refine ⟨fun h => (by cases h), ?_⟩
 have hrt := zR (ps := ps.toList) hargs cI
 have hlen : ((ps.toList.zip (k.args.toList.map a.eval)).foldl (fun l p => l.set p.1 p.2) l).length = tm.length := by
  have : ∀ (q : List (Tmp × Value)) (l : List Value), (q.foldl (fun l p => l.set p.1 p.2) l).length = l.length := by
   intro q
   induction q with
   | nil => intro l; rfl
   | cons p q ih => intro l; simp only [List.foldl_cons]; rw [ih]; simp
  rw [this, cI.length]
 generalize hvs : (ps.toList.zip (k.args.toList.map a.eval)).foldl (fun l p => l.set p.1 p.2) l = vs at *
 have zS : StRep (G.at (some (some β))) c W { tm := aP (roundTm tm ps.toList (k.args.toList.map (st.ρ G))), H := st.H, nx := st.nx, df := [] } { tmps := ⟨vs⟩, defers := [] } := by
  have := StRep.enter (G := G.at (some (some β))) (k := vs.length) hr.H hr.nx hr.G hrt
  simpa using this
 have kf : RoOk (G.at (some (some β))) c (some (c.φ β)) := ⟨hub, fun _ => rfl⟩
 refine roundIn_of_wpIn (F := Fw ro) trivial ?_
 show as.wpIn (Fw (some (c.φ β))) 0 P _ _ _
 refine wpIn_mono (h (some (c.φ β)) c W _ kf s zS (by simpa using hlen)) ?_
 rintro e a1 W1 ⟨ve, c1, s1, he, hext1, oe, eQ, og, gA, dU, hq⟩
 cases ve with
 | exit id => exact hq.elim
 | goto l => exact hq.elim
 | ret => exact hq.elim
 | panic x => exact hq.elim
 | normal =>
  have e1 : e = .normal := he
  subst e1
  obtain ⟨cv, eR, eT, eU, eV, iT, qA, hbody⟩ := hq
  have hb1c : c1.H β = some (.loop .ready cv eR eT eU eV iT) := by rw [eQ.H]; exact qA
  have hl1' : c1.live β := by simp [Ctx.live, hb1c]
  have hφ1 : c1.φ β = c.φ β := hext1.φ β hub hl1'
  obtain ⟨l1, mW, zT, hget1, hset1⟩ := wc (P := P) oe hb1c
  obtain ⟨W2, hset2, hext2, fm⟩ := hset1 .busy cv
  have ik := hext2.abides oe
  refine ⟨W2, ?_, ?_⟩
  ·rw [← hφ1]; exact Jl hget1 rfl hset2
  have oh : RoOk (G.at (some (some β))) (c1.upd β (.loop .busy cv eR eT eU eV iT)) (some (c.φ β)) := (kf.ext hext1).ext hext2
  have nZ : StRep (G.at (some (some β))) (c1.upd β (.loop .busy cv eR eT eU eV iT)) W2 { s1 with H := updH s1.H β (.loop .busy cv eR eT eU eV iT) } a1 :=
   ⟨by rw [← eQ.H]; rfl, fun t => Rep.abides ik _ (eQ.tm t), eQ.nx, eQ.df.abides ik, eQ.G.abides ik⟩
  show bo.wpIn (Fw (some (c.φ β))) 0 P _ _ _
  refine wpIn_mono (hbody (some (c.φ β)) _ W2 a1 oh fm nZ og) ?_
  rintro e3 a3 W3 ⟨zU, c3, s3, lF, hext3, sk, fl, zV, gB, om, kh⟩
  have bN := (hext1.trans hext2).trans hext3
  have done : ∀ jump, RoundDone β o st K jump s3 → ∃ v w', (Instr.endRound (c.φ β) jump).run P W3 = .ok v w' ∧ Kr (a.put o.dst v) w' := by
   rintro jump ⟨s4, zW, oo, oq, ot, ou, zX, zY, hK⟩
   have hb4c : c3.H β = some (.loop s4 zW oo oq ot ou zX) := by rw [fl.H]; exact zY
   have zZ : c3.live β := by simp [Ctx.live, hb4c]
   have hφ3 : c3.φ β = c.φ β := bN.φ β hub zZ
   obtain ⟨l4, wg, Aa, hget4, hset4⟩ := wc (P := P) sk hb4c
   obtain ⟨W4, hset5, hext4, wh⟩ := hset4 (if jump.isNone then .ready else .done) jump
   have cB := bN.trans hext4
   have ov := cB.abides s
   refine ⟨.bool jump.isNone, W4, ?_, ?_⟩
   ·rw [← hφ3]; exact Jm hget4 hset5
   ·have h0 : StRep G (c3.upd β (.loop (if jump.isNone then .ready else .done) jump oo oq ot ou zX)) W4
      { st.put o.dst (.lit (.bool jump.isNone)) with H := updH s3.H β (.loop (if jump.isNone then .ready else .done) jump oo oq ot ou zX), nx := s3.nx } (a.put o.dst (.bool jump.isNone)) := by
     refine ⟨by rw [← fl.H]; rfl, ?_, fl.nx, ?_, hr.G.abides ov⟩
     ·exact ow (st := st) (dst := o.dst) (fun t => Rep.abides ov _ (hr.tm t)) (fun d hd' => by rw [hs]; exact jL hd ho d hd') rfl
     ·rw [oy]
      cases o.dst <;> exact hr.df.abides ov
    refine kk _ W4 _ _ cB wh h0 (by simpa using hs) (fun β' hb => ?_) (show st.nx ≤ s3.nx from Nat.le_trans dU om) hK
    rcases gB β' hb with hb | hb
    ·rcases gA β' hb with hb | hb
     ·exact .inl hb
     ·exact .inr (.inr hb)
    ·exact .inr (.inr (Nat.le_trans dU hb))
  cases zU with
  | normal => have e4 : e3 = .normal := lF; subst e4; exact done none kh
  | ret => have e4 : e3 = .ret := lF; subst e4; exact done _ kh
  | exit id => have e4 : e3 = .exit id := lF; subst e4; exact done _ kh
  | goto l => have e4 : e3 = .goto l := lF; subst e4; exact done _ kh
  | panic x => exact kh.elim
theorem Nq {P : Program} {W W' : World} {b : Nat} (h : (getObj b).run P W = .ok (.deferred (some [])) W) (hset : (setObj b (.deferred none)).run P W = .ok () W') : (Instr.takeDeferred b).run P W = .ok [] W' := by
 unfold Instr.takeDeferred
 rw [Sem.run_bind, h, Result.andThen_ok]
 simp [hset, Sem.run_bind]
def SealsP (H : Nat → Option VObj) (x : VV) (r : PRes) : Prop := ∃ y n, r = .panic y ∧ sealV H n x = some y
theorem aj.of_open {P : Program} {G : Glob} {f : FuncId} {args : List VV} {r : PRes} (h : an P G f args (fun _ => none) 0 (fun x H _ => SealsTo H x r) (fun x H _ => SealsP H x r)) : aj P G f args r := by
 refine ⟨h.1, fun A W vs hA hG hargs => (h.2 (PCtx A) W vs (rO hA) rfl (fun β hb => hb.elim) hG hargs).mono ?_⟩
 rintro e W' ⟨c', H', nx', hext, hs', hH', hu, hu', hle, hres⟩
 have hbelow := rP hext
 have hge : ∀ β, c'.live β → W.heap.size ≤ c'.φ β := by
  intro β hl
  rcases Nat.lt_or_ge (c'.φ β) W.heap.size with h | h
  ·obtain ⟨γ, hγ, _⟩ := hext.old β hl h
   simp [PCtx, Ctx.live] at hγ
  ·exact h
 have hold : ∀ b, c'.A b → A b ∨ W.heap.size ≤ b := by
  intro b hb
  rcases hext.newA b hb with h | h | ⟨β, h, _⟩
  ·exact .inl h
  ·exact .inr h
  ·simp [PCtx, Ctx.live] at h
 have held : ∀ {H0 : Nat → Option VObj}, au H0 c'.H → ∀ b, heldIn c' H0 b → A b ∨ W.heap.size ≤ b := by
  intro H0 hsub b hb
  rcases hb with h | ⟨β, h, e⟩
  ·exact hold b h
  ·exact .inr (e ▸ hge β (hsub.live h))
 have heldlt : ∀ {H0 : Nat → Option VObj}, au H0 c'.H → ∀ b, heldIn c' H0 b → b < W'.heap.size := by
  intro H0 hsub b hb
  rcases hb with h | ⟨β, h, e⟩
  ·exact hs'.ltA b h
  ·exact e ▸ hs'.lt β (hsub.live h)
 have hsub : au H' c'.H := by rw [hH']; exact au.refl _
 rcases hres with ⟨x, v, rfl, hrv, hseal⟩ | ⟨x, v, rfl, hv, y, n, rfl, hn⟩
 ·cases r with
  | tree y =>
   obtain ⟨n, hn⟩ := hseal
   exact ⟨_, fun b hb => .inl (hext.A b hb), held hsub, heldlt hsub, hbelow, v, rfl, (lZ hs' hsub n).1 _ _ _ hn hrv⟩
  | own cs len es =>
   obtain ⟨n, β, Jp, jg, ⟨cp, rfl⟩, hβ, hn⟩ := hseal
   have hlive : c'.live β := by simp [Ctx.live, hH', hβ]
   obtain ⟨cap, e1, hcap, hroom, _⟩ := hrv.2 hlive
   have hsub' : au (without H' β) c'.H := fun q o ho => hsub q o (au.without _ _ q o ho)
   obtain ⟨arr, el, g1, g2, g3, g4, _⟩ := hs'.obj β _ (by rw [hH']; exact hβ)
   have hrl := (lZ hs' hsub' n).2 _ _ _ hn g4
   have hll := hrl.length
   simp at hll
   refine ⟨heldIn c' (without H' β), fun b hb => .inl (hext.A b hb), held hsub', heldlt hsub', hbelow, c'.φ β, arr, el, cap, by rw [e1], hcap, hge β hlive, hs'.lt β hlive, ?_, g1, by omega, by omega, ?_⟩
   ·rintro (h | ⟨γ, h, e⟩)
    ·exact hs'.notA β hlive h
    ·have := hs'.inj γ β (hsub'.live h) hlive e
     subst this
     simp [without] at h
   ·rw [show cs.length = jg.length by omega]; exact hrl
  | panic y => exact hseal.elim
 ·exact ⟨_, fun b hb => .inl (hext.A b hb), held hsub, heldlt hsub, hbelow, v, rfl, (lZ hs' hsub n).1 _ _ _ hn hv⟩
end Go.V
end
section
namespace Go.V
open Go
inductive VMode where
 | ret
 | pan (x : VV) (recovered : Bool)
def MRep (c : Ctx) (W : World) : VMode → FrameMode → Prop
 | .ret, u => u = .returning
 | .pan x r, u => ∃ v, u = .panicking [{ v, recovered := r }] ∧ Rep c W x v
theorem MRep.abides {c c' : Ctx} {W W' : World} (ab : Abides c W c' W') : ∀ {u : VMode} {u0 : FrameMode}, MRep c W u u0 → MRep c' W' u u0
 | .ret, _, h => h
 | .pan _ _, _, ⟨v, e, h⟩ => ⟨v, e, Rep.abides ab _ h⟩
theorem MRep.notRun {c : Ctx} {W : World} : ∀ {u : VMode} {u0 : FrameMode}, MRep c W u u0 → u0 ≠ .run
 | .ret, _, h => by rw [show _ = _ from h]; simp
 | .pan _ _, _, ⟨v, e, _⟩ => by rw [e]; simp
def settleV : VMode → VMode
 | .pan _ true => .ret
 | u => u
theorem MRep.settle {c : Ctx} {W : World} : ∀ {u : VMode} {u0 : FrameMode}, MRep c W u u0 → MRep c W (settleV u) (settle u0)
 | .ret, _, h => by rw [show _ = _ from h]; rfl
 | .pan x true, _, ⟨v, e, h⟩ => by rw [e]; rfl
 | .pan x false, _, ⟨v, e, h⟩ => by rw [e]; exact ⟨v, rfl, h⟩
def recoverV : VMode → VV × VMode
 | .pan x false => (x, .pan x true)
 | u => (.lit .nilIface, u)
def LiftS (G : Glob) (n cj : Nat) (c0 : Ctx) (W0 : World) (fr : Frame) (cs : List Frame) (Q : VExit → VMode → St → Prop) : Exit → Act → List Frame → World → Prop := fun e a cs' W =>
 ∃ ve c st u u0, cs' = { fr with mode := u0 } :: cs ∧ MRep c W u u0 ∧ ERep c W ve e ∧ Ext c0 W0 c W ∧ Sim c W ∧ StRep G c W st a ∧ a.tmps.size = n ∧ (∀ β, c.used β → c0.used β ∨ cj ≤ β) ∧ cj ≤ st.nx ∧ Q ve u st
def VWpS (P : Program) (G : Glob) (n : Nat) (code : Code) (Q : VExit → VMode → St → Prop) (u : VMode) (st : St) : Prop :=
 ∀ fr cs c W a u0, MRep c W u u0 → Sim c W → StRep G c W st a → a.tmps.size = n → code.wpSIn Fence.wide 0 P (LiftS G n st.nx c W fr cs Q) a ({ fr with mode := u0 } :: cs) W
section rules
variable {P : Program} {G : Glob} {n : Nat} {Q : VExit → VMode → St → Prop} {u : VMode} {st : St}
theorem VWpS.of {code : Code} (hrg : G.rg = some none) (h : VWp P G n code (fun e s => Q e u s) st) : VWpS P G n code Q u st := by
 intro fr cs c W a u0 hu s hr hs
 refine wpSIn_of_wpIn rfl (wpIn_mono (h none c W a (by unfold RoOk; rw [hrg]) s hr hs) ?_)
 rintro e a' W' ⟨ve, c', st', h1, h2, h3, h4, h5, h6, h7, h8⟩
 exact ⟨ve, c', st', u, u0, rfl, hu.abides (h2.abides s), h1, h2, h3, h4, h5, h6, h7, h8⟩
theorem LiftS.of_ext {cj bp : Nat} {c0 c1 : Ctx} {W0 W1 : World} {e : Exit} {a : Act} {W : World} {fr : Frame} {cs cs' : List Frame} (he : Ext c0 W0 c1 W1) (hu : ∀ β, c1.used β → c0.used β ∨ cj ≤ β) (hle : cj ≤ bp)
  (h : LiftS G n bp c1 W1 fr cs Q e a cs' W) : LiftS G n cj c0 W0 fr cs Q e a cs' W := by
 obtain ⟨ve, c, st, u, u0, h0, hm, h1, h2, h3, h4, h5, h6, h7, h8⟩ := h
 refine ⟨ve, c, st, u, u0, h0, hm, h1, he.trans h2, h3, h4, h5, fun β hb => ?_, Nat.le_trans hle h7, h8⟩
 rcases h6 β hb with h | h
 ·exact hu β h
 ·exact .inr (Nat.le_trans hle h)
def VExit.thenS (next : VMode → St → Prop) (Q : VExit → VMode → St → Prop) : VExit → VMode → St → Prop
 | .normal, u, st => next u st
 | e, u, st => Q e u st
theorem Ab {F : Fence} {m : Nat} {code : Code} {R R' : Exit → Act → List Frame → World → Prop} {a : Act} {cs : List Frame} {w : World} (h : code.wpSIn F m P R a cs w) (hR : ∀ e a cs w, R e a cs w → R' e a cs w) : code.wpSIn F m P R' a cs w :=
 fun b k h1 h2 h3 h4 => let ⟨e, a', cs', w', g1, g2, g3⟩ := h b k h1 h2 h3 h4; ⟨e, a', cs', w', g1, hR _ _ _ _ g2, g3⟩
theorem VWpS.seq {x y : Code} (h : VWpS P G n x (VExit.thenS (VWpS P G n y Q) Q) u st) : VWpS P G n (.seq x y) Q u st := by
 intro fr cs c W a u0 hu s hr hs
 refine wpSIn_seq (Ab (h fr cs c W a u0 hu s hr hs) ?_)
 rintro e a' cs' W' ⟨ve, c', st', u', u0', rfl, hm, h1, h2, h3, h4, h5, h6, h7, h8⟩
 cases ve with
 | normal =>
  have e1 : e = .normal := h1
  subst e1
  exact Ab (h8 fr cs c' W' a' u0' hm h3 h4 h5) fun _ _ _ _ hl => hl.of_ext h2 h6 h7
 | exit id => have e1 : e = .exit id := h1; subst e1; exact ⟨_, c', st', u', u0', rfl, hm, h1, h2, h3, h4, h5, h6, h7, h8⟩
 | goto l => have e1 : e = .goto l := h1; subst e1; exact ⟨_, c', st', u', u0', rfl, hm, h1, h2, h3, h4, h5, h6, h7, h8⟩
 | ret => have e1 : e = .ret := h1; subst e1; exact ⟨_, c', st', u', u0', rfl, hm, h1, h2, h3, h4, h5, h6, h7, h8⟩
 | panic x =>
  obtain ⟨v, e1, hv⟩ := h1
  subst e1
  exact ⟨.panic x, c', st', u', u0', rfl, hm, ⟨v, rfl, hv⟩, h2, h3, h4, h5, h6, h7, h8⟩
def VOps (P : Program) (G : Glob) (ops : Array Oper) (base : Nat) (K : St → Prop) : List Nat → St → Prop
 | [], st => K st
 | i :: l, st => ∃ o, ops[i]? = some o ∧ ((aG ops st.tm o = some false ∧ VOps P G ops base K l (st.put o.dst (.lit undef))) ∨
   (aG ops st.tm o = some true ∧ ∃ x eff, vop P o (st.ρ G) st.H (base + i) = some (x, eff) ∧ VOps P G ops base K l { st.put o.dst x with H := eff.app (base + i) st.H }))
theorem Ac {ops : Array Oper} {base : Nat} {cj : Nat} {c0 : Ctx} {W0 : World} {fr : Frame} {cs : List Frame} {u0 : FrameMode} (hd : dstsOk n ops = true) : ∀ (l : List Nat) (st : St) (c : Ctx) (W : World) (a : Act),
  VOps P G ops base (fun s => Q .normal u s) l st → l.Nodup → (∀ i ∈ l, i < ops.size) → base + ops.size ≤ st.nx → cj ≤ base → MRep c W u u0 → Sim c W → StRep G c W st a → a.tmps.size = n → (∀ i ∈ l, ¬ c.used (base + i)) →
  Ext c0 W0 c W → (∀ β, c.used β → c0.used β ∨ cj ≤ β) → wpOpsSIn Fence.wide 0 P ops (LiftS G n cj c0 W0 fr cs Q) l a ({ fr with mode := u0 } :: cs) W
 | [], st, c, W, a, h, _, _, hb, hn, hu, s, hr, hs, _, he, hus => ⟨.normal, c, st, u, u0, rfl, hu, rfl, he, s, hr, hs, hus, by omega, h⟩
 | i :: l, st, c, W, a, h, hnd, hlt, hb, hn, hu, s, hr, hs, hf, he, hus => by
  obtain ⟨o, ho, h⟩ := h
  have hi := hlt i (List.mem_cons_self ..)
  rw [List.nodup_cons] at hnd
  have hdd : ∀ d, o.dst = some d → d < a.tmps.size := fun d hd' => by rw [hs]; exact jL hd ho d hd'
  simp only [wpOpsSIn, ho]
  refine ⟨fun _ _ => trivial, ?_⟩
  rcases h with ⟨hw, h⟩ | ⟨hw, x, eff, hv, h⟩
  ·have hw' := fk hr.tm hw
   rw [if_neg (by rw [hw']; simp)]
   have hst := hr.step (qB rfl) (dst := o.dst) (x := .lit undef) (v := undef) (H' := st.H) hr.H rfl hdd hr.nx
   have hst' : StRep G c W (st.put o.dst (.lit undef)) (a.put o.dst undef) := by cases hdst : o.dst <;> rw [hdst] at hst <;> exact hst
   exact Ac hd l _ c W _ h hnd.2 (fun j hj => hlt j (List.mem_cons_of_mem _ hj)) (by simpa using hb) hn hu s hst' (by simpa using hs) (fun j hj => hf j (List.mem_cons_of_mem _ hj)) he hus
  ·have hw' := fk hr.tm hw
   rw [if_pos hw']
   rw [← hr.H] at hv
   obtain ⟨r, v, W', c', hrun, hrv, hx, he', hs', hH, hu'⟩ := Jq s (hf i (List.mem_cons_self ..)) hr.eval hv
   have hr' := hr.step (he'.abides s) (by rw [hH, hr.H]) hx hdd (fun β hb' => by
    rcases hu' β hb' with h | h
    ·exact hr.nx β h
    ·omega)
   have go : wpOpsSIn Fence.wide 0 P ops (LiftS G n cj c0 W0 fr cs Q) l (a.put o.dst v) ({ fr with mode := u0 } :: cs) W' := by
    refine Ac hd l _ c' W' _ h hnd.2 (fun j hj => hlt j (List.mem_cons_of_mem _ hj)) ?_ hn (hu.abides (he'.abides s)) hs' hr' (by simpa using hs) (fun j hj hbad => ?_) (he.trans he') (fun β hb' => ?_)
    ·show base + ops.size ≤ (st.put o.dst x).nx
     simpa using hb
    ·rcases hu' _ hbad with h | h
     ·exact hf j (List.mem_cons_of_mem _ hj) h
     ·have : j = i := by omega
      exact hnd.1 (this ▸ hj)
    ·rcases hu' β hb' with h | h
     ·exact hus β h
     ·right; omega
   rw [hrun]
   rcases hrv with rfl | ⟨rfl, rfl⟩
   ·exact go
   ·exact go
theorem VWpS.recover {id : Nat} {ops : Array Oper} {o : Oper} {as : Array Operand} {ats : Array TypeId} (hd : dstsOk n ops = true) (ho : ops[0]? = some o) (hg : o.guard = none) (hop : o.op = .call ⟨.builtin .recover, as, ats⟩)
  (h : VOps P G ops st.nx (fun s => Q .normal (recoverV u).2 s) (List.range' 1 (ops.size - 1)) { st.put o.dst (recoverV u).1 with nx := st.nx + ops.size }) : VWpS P G n (.region id ops false) Q u st := by
 intro fr cs c W a u0 hu s hr hs
 refine wpSIn_region ?_
 have hpos : 0 < ops.size := (Array.getElem?_eq_some_iff.1 ho).1
 have hrng : List.range ops.size = 0 :: List.range' 1 (ops.size - 1) := by
  rw [List.range_eq_range']
  obtain ⟨m, hm⟩ : ∃ m, ops.size = m + 1 := ⟨ops.size - 1, by omega⟩
  rw [hm]; rfl
 rw [hrng]
 simp only [wpOpsSIn, ho]
 refine ⟨fun _ _ => trivial, ?_⟩
 have hw : Region.wanted o (yielded ops a.tmps) = true := by simp [Region.wanted, hg]
 rw [if_pos hw]
 have hrun : (execOp a.eval o).run P W = .ok .recover W := by
  simp [execOp, hop, resolve, invoke, builtin]
 rw [hrun]
 have hdd : ∀ d, o.dst = some d → d < a.tmps.size := fun d hd' => by rw [hs]; exact jL hd ho d hd'
 have go : ∀ (x : VV) (v : Value) (u1 : VMode) (iU : FrameMode), Rep c W x v → MRep c W u1 iU → VOps P G ops st.nx (fun s => Q .normal u1 s) (List.range' 1 (ops.size - 1)) { st.put o.dst x with nx := st.nx + ops.size } →
   wpOpsSIn Fence.wide 0 P ops (LiftS G n st.nx c W fr cs Q) (List.range' 1 (ops.size - 1)) (a.put o.dst v) ({ fr with mode := iU } :: cs) W := by
  intro x v u1 iU hx gA hv
  have h0 : StRep G c W { st.put o.dst x with nx := st.nx + ops.size } (a.put o.dst v) := by
   refine ⟨by simpa using hr.H, ?_, fun β hb => Nat.lt_of_lt_of_le (hr.nx β hb) (Nat.le_add_right _ _), ?_, hr.G⟩
   ·exact ow (st := st) (dst := o.dst) hr.tm hdd hx
   ·rw [oy]
    cases o.dst <;> exact hr.df
  refine Ac hd _ _ c W _ hv List.nodup_range' (fun i hi => ?_) (Nat.le_refl _) (Nat.le_refl _) gA s h0 (by simpa using hs) (fun i _ hb => ?_) (Ext.refl c W) (fun _ h => .inl h)
  ·rw [List.mem_range'] at hi; omega
  ·have := hr.nx _ hb; omega
 cases u with
 | ret =>
  have e : u0 = .returning := hu
  subst e
  exact go (.lit .nilIface) .nilIface .ret _ rfl hu h
 | pan x r =>
  obtain ⟨v, e, hv⟩ := hu
  subst e
  cases r with
  | false => exact go x v (.pan x true) _ hv ⟨v, rfl, hv⟩ h
  | true => exact go (.lit .nilIface) .nilIface (.pan x true) _ rfl ⟨v, rfl, hv⟩ h
end rules
def VDeferred (P : Program) (G : Glob) (f : FuncId) (args : List VV) (H : Nat → Option VObj) (nx : Nat) (u : VMode) (R : VMode → (Nat → Option VObj) → Nat → Prop) : Prop :=
 Callable P f ∧ ∀ c W vs u0, Sim c W → c.H = H → (∀ β, c.used β → β < nx) → GOk G c W → RepL c W args vs → MRep c W u u0 →
  CallsDIn Fence.wide 0 P f ⟨vs⟩ u0 W fun e u0' W' => ∃ v c' H' nx' u', e = .returned v ∧ Ext c W c' W' ∧ Sim c' W' ∧ c'.H = H' ∧ (∀ β, c'.used β → c.used β ∨ nx ≤ β) ∧ (∀ β, c'.used β → β < nx') ∧ nx ≤ nx' ∧ MRep c' W' u' u0' ∧ R u' H' nx'
def DPost (P : Program) (fn : Func) (R : VMode → (Nat → Option VObj) → Nat → Prop) : VExit → VMode → St → Prop
 | .ret, u, s => s.df = [] ∧ (∃ x, resV P s fn.results.toList = some x) ∧ R u s.H s.nx
 | .normal, u, s => s.df = [] ∧ (∃ x, resV P s fn.results.toList = some x) ∧ R u s.H s.nx
 | _, _, _ => False
theorem VDeferred.of_body {P : Program} {G : Glob} {f : FuncId} {fn : Func} {code : Code} {args : List VV} {H : Nat → Option VObj} {nx : Nat} {u : VMode} {R : VMode → (Nat → Option VObj) → Nat → Prop} (hc : Callable P f) (hf : P.funcs[f]? = some fn)
  (hb : fn.body = some code) (hn : args.length ≤ fn.ntmps) (h : VWpS P (G.at (some none)) fn.ntmps code (DPost P fn R) u { tm := aP args, H, nx, df := [] }) : VDeferred P G f args H nx u R := by
 refine ⟨hc, fun c W vs u0 s hH hnx hG hargs hu => ?_⟩
 have hlen := hargs.length
 refine callsDIn_of_wpSIn hf hb trivial fun c₀ cs hmode => ?_
 have h0 := h c₀ cs c W _ u0 hu s (StRep.enter (G := G.at (some none)) (k := fn.ntmps) hH hnx hG hargs) (by simp; omega)
 have e0 : ({ c₀ with mode := u0 } : Frame) = c₀ := by subst hmode; rfl
 rw [e0] at h0
 refine Ab h0 ?_
 rintro e a' cs' W' ⟨ve, c', st', u', u0', rfl, hm, he, hext, hs', hr', hsz, hus, hle, hq⟩
 have finish : st'.df = [] ∧ (∃ x, resV P st' fn.results.toList = some x) ∧ R u' st'.H st'.nx → a'.defers = [] ∧ ∃ v, (results fn a'.tmps).run P W' = .ok v W' ∧
   ∃ v' c' H' nx' u', Ending.returned v = .returned v' ∧ Ext c W c' W' ∧ Sim c' W' ∧ c'.H = H' ∧ (∀ β, c'.used β → c.used β ∨ nx ≤ β) ∧ (∀ β, c'.used β → β < nx') ∧ nx ≤ nx' ∧ MRep c' W' u' u0' ∧ R u' H' nx' := by
  rintro ⟨hdf, ⟨x, hx⟩, hR⟩
  obtain ⟨v, hv, _⟩ := sm hs' hr' hx
  have hd := hr'.df
  rw [hdf] at hd
  exact ⟨hd, v, hv, v, c', st'.H, st'.nx, u', rfl, hext, hs', hr'.H, hus, hr'.nx, hle, hm, hR⟩
 cases ve with
 | normal =>
  have e1 : e = .normal := he
  subst e1
  obtain ⟨hd, v, hv, hR⟩ := finish hq
  exact ⟨hd, u0', rfl, v, hv, hR⟩
 | ret =>
  have e1 : e = .ret := he
  subst e1
  obtain ⟨hd, v, hv, hR⟩ := finish hq
  exact ⟨hd, u0', rfl, v, hv, hR⟩
 | exit id => exact hq.elim
 | goto l => exact hq.elim
 | panic x => exact hq.elim
def leavesK (P : Program) (G : Glob) (K : VMode → (Nat → Option VObj) → Nat → Prop) : List VDef → VMode → (Nat → Option VObj) → Nat → Prop
 | [], u, H, nx => K u H nx
 | .coll β :: ds, u, H, nx => H β = some (.deferred (some [])) ∧ leavesK P G K ds u (updH H β (.deferred none)) nx
 | .fn (.func f) cap args :: ds, u, H, nx => VDeferred P G f (args ++ cap) H nx u fun u' H' nx' => leavesK P G K ds (settleV u') H' nx'
 | _ :: _, _, _, _ => False
theorem wj {P : Program} {G : Glob} {fn : Func} {tmps : Array Value} {R : Ending → World → Prop} {K : VMode → (Nat → Option VObj) → Nat → Prop} : ∀ (df : List VDef) (ds : List Deferred) (c : Ctx) (W : World) (u : VMode) (u0 : FrameMode) (nx : Nat),
  Sim c W → RepDs c W df ds → MRep c W u u0 → (∀ β, c.used β → β < nx) → GOk G c W → leavesK P G K df u c.H nx →
  (∀ c1 W1 u1 iU bp, Ext c W c1 W1 → Sim c1 W1 → (∀ β, c1.used β → c.used β ∨ nx ≤ β) → (∀ β, c1.used β → β < bp) → nx ≤ bp → MRep c1 W1 u1 iU → K u1 c1.H bp → LeavesIn Fence.wide 0 P fn tmps R [] iU W1) → LeavesInM Fence.wide 0 P fn tmps R ds u0 W
 | [], ds, c, W, u, u0, nx, s, hd, hu, hnx, hG, hK, h => by
  have hd' : ds = [] := hd
  subst hd'
  exact h c W u u0 nx (Ext.refl c W) s (fun _ h => .inl h) hnx (Nat.le_refl _) hu hK
 | .coll β :: df, ds, c, W, u, u0, nx, s, hd, hu, hnx, hG, hK, h => by
  obtain ⟨d, ds', rfl, ⟨hub, hdβ⟩, hds⟩ := hd
  obtain ⟨hβ, hK⟩ := hK
  have hl : c.live β := by simp [Ctx.live, hβ]
  have hW : W.heap[c.φ β]? = some (.deferred (some [])) := (s.obj β _ hβ).2
  have hget : (getObj (c.φ β)).run P W = .ok (.deferred (some [])) W := by simp [getObj, Sem.run, hW]
  have hset := qz (P := P) (o' := .deferred none) hW (by intros; simp)
  have hext : Ext c W (c.upd β (.deferred none)) { W with heap := W.heap.setIfInBounds (c.φ β) (.deferred none) } := Ext.upd hl (But.setObj W _ _)
  have hs' : Sim (c.upd β (.deferred none)) { W with heap := W.heap.setIfInBounds (c.φ β) (.deferred none) } := Sim.upd s hl (But.setObj W _ _) (fun _ => ⟨_, rfl⟩) (q9 hW)
  refine ⟨hu.notRun, .inl ⟨c.φ β, _, by rw [hdβ hl], Nq hget hset, ?_⟩⟩
  exact wj df ds' _ _ u u0 nx hs' (RepDs.abides (hext.abides s) hds) (hu.abides (hext.abides s)) hnx (hG.abides (hext.abides s)) hK fun c1 W1 u1 iU bp h2 h3 h4 h5 h6 h7 h8 => h c1 W1 u1 iU bp (hext.trans h2) h3 h4 h5 h6 h7 h8
 | .fn (.func f) cap args :: df, ds, c, W, u, u0, nx, s, hd, hu, hnx, hG, hK, h => by
  obtain ⟨d, ds', rfl, ⟨l, m, rfl, hcap, hargs⟩, hds⟩ := hd
  refine ⟨hu.notRun, .inr ⟨fun hh => (by cases hh), .func f, ⟨l⟩, f, ⟨m ++ l⟩, rfl, ?_, fun _ _ => trivial, ?_⟩⟩
  ·have := hK.1 ⟨m ++ l⟩ W
   rw [← this]
   simp only [invoke]
   congr 2
   apply Array.ext'
   simp
  ·obtain ⟨hF, hcall⟩ := hK.2 c W (m ++ l) u0 s rfl hnx hG (RepL.append hargs hcap) hu
   refine ⟨hF, fun c₀ cs hm hroom => ?_⟩
   obtain ⟨e, u', w', fr, ⟨v, c', H', nx', uV, rfl, g1, g2, g3, g4, g5, g6, g7, g8⟩, k2, k3, k4, k5⟩ := hcall c₀ cs hm hroom
   refine ⟨.returned v, u', w', fr, ?_, k2, k3, k4, k5⟩
   subst g3
   exact wj df ds' c' w' (settleV uV) (settle u') nx' g2 (RepDs.abides (g1.abides s) hds) g7.settle g5 (hG.abides (g1.abides s)) g8 fun c1 W1 u1 iU bp h2 h3 h4 h5 h6 h7 h8 =>
    h c1 W1 u1 iU bp (g1.trans h2) h3 (fun β hb => by
     rcases h4 β hb with hb | hb
     ·exact g4 β hb
     ·right; omega) h5 (by omega) h7 h8
 | .fn (.method _) _ _ :: _, _, _, _, _, _, _, _, _, _, _, _, hK, _ => hK.elim
 | .fn (.methodOf ..) _ _ :: _, _, _, _, _, _, _, _, _, _, _, _, hK, _ => hK.elim
 | .fn (.via ..) _ _ :: _, _, _, _, _, _, _, _, _, _, _, _, hK, _ => hK.elim
 | .fn (.yield _) _ _ :: _, _, _, _, _, _, _, _, _, _, _, _, hK, _ => hK.elim
end Go.V
end
section
namespace Go.V
open Go
def finK (P : Program) (fn : Func) (s : St) (R Rp : VV → (Nat → Option VObj) → Nat → Prop) : VMode → (Nat → Option VObj) → Nat → Prop
 | .ret, H, nx => ∃ x, resV P { s with H := H, nx := nx, df := [] } fn.results.toList = some x ∧ R x H nx
 | .pan x false, H, nx => Rp x H nx
 | .pan _ true, _, _ => False
def OpenPostD (P : Program) (G : Glob) (fn : Func) (R Rp : VV → (Nat → Option VObj) → Nat → Prop) : VExit → St → Prop
 | .ret, s => leavesK P G (finK P fn s R Rp) s.df .ret s.H s.nx
 | .normal, s => leavesK P G (finK P fn s R Rp) s.df .ret s.H s.nx
 | .panic x, s => leavesK P G (finK P fn s R Rp) s.df (.pan x false) s.H s.nx
 | _, _ => False
theorem an.of_bodyD {P : Program} {G : Glob} {f : FuncId} {fn : Func} {code : Code} {args : List VV} {H : Nat → Option VObj} {nx : Nat} {R Rp : VV → (Nat → Option VObj) → Nat → Prop} (hc : Callable P f) (hf : P.funcs[f]? = some fn)
  (hb : fn.body = some code) (hn : args.length ≤ fn.ntmps) (h : VWp P (G.at (some none)) fn.ntmps code (OpenPostD P G fn R Rp) { tm := aP args, H, nx, df := [] }) : an P G f args H nx R Rp := by
 refine ⟨hc, fun c W vs s hH hnx hG hargs => ?_⟩
 have hlen := hargs.length
 refine callsIn_of_wp_marks hf hb trivial (wpIn_mono (h none c W _ rfl s (StRep.enter (G := G.at (some none)) (k := fn.ntmps) hH hnx hG hargs) (by simp; omega)) ?_) rfl
 rintro e a' W' ⟨ve, c', st', he, hext, hs', hr', hsz, hu, hle, hq⟩
 have finish : ∀ (u : VMode) (u0 : FrameMode), MRep c' W' u u0 → leavesK P G (finK P fn st' R Rp) st'.df u st'.H st'.nx →
   LeavesInM Fence.wide 0 P fn a'.tmps (fun e W' => ∃ c' H' nx', Ext c W c' W' ∧ Sim c' W' ∧ c'.H = H' ∧ (∀ β, c'.used β → c.used β ∨ nx ≤ β) ∧ (∀ β, c'.used β → β < nx') ∧ nx ≤ nx' ∧
    ((∃ x v, e = .returned v ∧ Rep c' W' x v ∧ R x H' nx') ∨ (∃ x v, e = .panicked [{ v, recovered := false }] ∧ Rep c' W' x v ∧ Rp x H' nx'))) a'.defers u0 W' := by
  intro u u0 hm hK
  refine wj (G := G) st'.df a'.defers c' W' u u0 st'.nx hs' hr'.df hm hr'.nx (show GOk G c' W' from hr'.G) (by rw [hr'.H]; exact hK) fun c1 W1 u1 iU bp h2 h3 h4 h5 h6 h7 h8 => ?_
  have ab := h2.abides hs'
  have hus : ∀ β, c1.used β → c.used β ∨ nx ≤ β := fun β hb => by
   rcases h4 β hb with hb | hb
   ·exact hu β hb
   ·right; exact Nat.le_trans hle hb
  have dU : nx ≤ bp := Nat.le_trans hle h6
  cases u1 with
  | ret =>
   have e1 : iU = .returning := h7
   subst e1
   obtain ⟨x, hx, hR⟩ := h8
   have eQ : StRep (G.at (some none)) c1 W1 { st' with H := c1.H, nx := bp, df := [] } { a' with defers := [] } := ⟨rfl, fun t => Rep.abides ab _ (hr'.tm t), h5, rfl, hr'.G.abides ab⟩
   obtain ⟨v, hv, hrv⟩ := sm h3 eQ hx
   exact ⟨v, hv, c1, c1.H, bp, hext.trans h2, h3, rfl, hus, h5, dU, .inl ⟨x, v, rfl, hrv, hR⟩⟩
  | pan x r =>
   obtain ⟨v, e1, hv⟩ := h7
   subst e1
   cases r with
   | true => exact h8.elim
   | false => exact ⟨c1, c1.H, bp, hext.trans h2, h3, rfl, hus, h5, dU, .inr ⟨x, v, rfl, hv, h8⟩⟩
 cases ve with
 | normal => have e1 : e = .normal := he; subst e1; exact finish .ret .returning rfl hq
 | ret => have e1 : e = .ret := he; subst e1; exact finish .ret .returning rfl hq
 | exit id => exact hq.elim
 | goto l => exact hq.elim
 | panic x =>
  obtain ⟨v, e1, hv⟩ := he
  subst e1
  exact finish (.pan x false) (.panicking [{ v, recovered := false }]) ⟨v, rfl, hv⟩ hq
theorem aH.defer {P : Program} {G : Glob} {n : Nat} {ops : Array Oper} {base i : Nat} {o : Oper} {st : St} {K : St → Prop} {Qp : VV → St → Prop} {k : Call} {fo : Operand} {f : Fn} {first captured : List VV} (hrg : G.rg = some none)
  (ho : ops[i]? = some o) (hd : dstsOk n ops = true) (hw : aG ops st.tm o = some true) (hop : o.op = .defer k) (hk : k.callee = .value fo) (hf : st.ρ G fo = .fn f first captured)
  (h : K { st.put o.dst (.lit undef) with df := .fn f captured (first ++ k.args.toList.map (st.ρ G)) :: st.df }) : aH P G n ops base i st K Qp := by
 intro ro c W a Kr Q hro s hr hs hγ hnx kk kp
 have hro' : ro = none := by unfold RoOk at hro; rw [hrg] at hro; exact hro
 subst hro'
 unfold wpOpIn
 simp only [ho]
 rw [if_pos (fk hr.tm hw)]
 refine ⟨fun _ _ => trivial, ?_⟩
 have hfr := hr.eval fo
 rw [hf] at hfr
 obtain ⟨l1, l2, hfv, cI, dA⟩ := hfr
 have hargs := ke hr.eval k.args.toList
 have hrun : (execOp a.eval o).run P W = .ok (.defer { target := .fn f ⟨l2⟩, args := ⟨l1 ++ k.args.toList.map a.eval⟩ }) W := by
  have e : (⟨l1⟩ ++ k.args.map a.eval : Array Value) = ⟨l1 ++ k.args.toList.map a.eval⟩ := by apply Array.ext'; simp
  simp only [execOp, hop, resolve, hk, Deferred.ofValue, hfv, pure_bind, e, Sem.run_pure]
 show Oper.uponIn _ _ _ _ _ _ _ ((Oper.semAt none a.eval o).run P W)
 rw [Oper.semAt_none, hrun, Oper.uponIn_defer]
 have hdd : ∀ d, o.dst = some d → d < a.tmps.size := fun d hd' => by rw [hs]; exact jL hd ho d hd'
 refine kk _ W c { st.put o.dst (.lit undef) with df := .fn f captured (first ++ k.args.toList.map (st.ρ G)) :: st.df } (Ext.refl c W) s ?_ (by simpa using hs) (fun _ h => .inl h) (by simp) h
 refine ⟨by simpa using hr.H, ?_, by simpa using hr.nx, ?_, hr.G⟩
 ·have := ow (a := { a with defers := { target := .fn f ⟨l2⟩, args := ⟨l1 ++ k.args.toList.map a.eval⟩ } :: a.defers }) (st := st) (dst := o.dst) (x := .lit undef) (v := undef) hr.tm hdd rfl
  exact this
 ·rw [oy]
  exact ⟨_, _, rfl, ⟨l2, _, rfl, dA, RepL.append cI hargs⟩, hr.df⟩
def showV (H : Nat → Option VObj) : Nat → VV → VV
 | 0, x => x
 | d + 1, x => match x with
  | .ref β off len es cp => match H β with
   | some (.cells _ cs) => if off ≤ cs.length then .sl (((cs.drop off).take (len * es)).map (showV H d)) len false else .ref β off len es cp
   | _ => .ref β off len es cp
  | .agg cs => .agg (cs.map (showV H d))
  | .tup cs => .tup (cs.map (showV H d))
  | .mp β => match H β with
   | some (.map es) => .mt (es.map (·.1)) ((es.map (·.2)).map (showV H d))
   | _ => .mp β
  | x => x
theorem qC {c c' : Ctx} {W : World} {g : VV → VV} : ∀ (xs : List VV) {l : List Value}, treeL (xs.map g) = true → (∀ x ∈ xs, ∀ v, (g x).tree = true → Rep c W x v → Rep c' W (g x) v) → RepL c W xs l → RepL c' W (xs.map g) l
 | [], _, _, _, h => h
 | x :: xs, _, ht, hg, ⟨u, us, e, h1, h2⟩ => by
  simp only [List.map_cons, treeL, Bool.and_eq_true] at ht
  exact ⟨u, us, e, hg x (List.mem_cons_self ..) u ht.1 h1, qC xs ht.2 (fun y hy => hg y (List.mem_cons_of_mem _ hy)) h2⟩
theorem nW {c : Ctx} {W : World} (s : Sim c W) : ∀ (d : Nat) (x : VV) (v : Value), (showV c.H d x).tree = true → Rep c W x v → Rep (PCtx (heldIn c c.H)) W (showV c.H d x) v
 | 0, x, v, ht, h => Ad ht h
 | d + 1, x, v, ht, h => by
  cases x with
  | ref β off len es cp =>
   simp only [showV] at ht ⊢
   cases hβ : c.H β with
   | none => rw [hβ] at ht; cases ht
   | some o =>
    rw [hβ] at ht
    cases o with
    | cells el cs =>
     by_cases hle : off ≤ cs.length
     ·simp only [if_pos hle] at ht ⊢
      obtain ⟨cap, hv, hcap, _, _⟩ := h.2 (by simp [Ctx.live, hβ])
      obtain ⟨l, hl, hcell⟩ := RepC.list (RepC.take (len * es) (RepC.drop off (RepC.of_obj s hβ)))
      exact ⟨_, cap, hv, hcap, fun h => by simp at h, .inr ⟨_, _, rfl, .inr ⟨β, by simp [hβ], rfl⟩, RepC.of_cells (qC _ ht (fun y _ u hy hr => nW s d y u hy hr) hl) (fun i u hu => by have := hcell i u hu; simpa using this)⟩⟩
     ·simp only [if_neg hle] at ht; cases ht
    | _ => cases ht
  | agg cs =>
   obtain ⟨l, rfl, hl⟩ := h
   exact ⟨l, rfl, qC _ ht (fun y _ u hy hr => nW s d y u hy hr) hl⟩
  | tup cs =>
   obtain ⟨l, rfl, hl⟩ := h
   exact ⟨l, rfl, qC _ ht (fun y _ u hy hr => nW s d y u hy hr) hl⟩
  | mp β =>
   simp only [showV] at ht ⊢
   cases hβ : c.H β with
   | none => rw [hβ] at ht; cases ht
   | some o =>
    rw [hβ] at ht
    cases o with
    | map es =>
     have hv : v = .map (some (c.φ β)) := h.2 (by simp [Ctx.live, hβ])
     obtain ⟨ents, clk, h1, h2, h3⟩ := s.obj β _ hβ
     exact ⟨_, hv, .inr ⟨β, by simp [hβ], rfl⟩, ents, clk, h1, h2, qC _ ht (fun y _ u hy hr => nW s d y u hy hr) h3⟩
    | _ => cases ht
  | _ => exact Ad ht h
theorem Jr {c : Ctx} {W : World} (s : Sim c W) (d : Nat) (xs : List VV) {l : List Value} (ht : treeL (xs.map (showV c.H d)) = true) (h : RepL c W xs l) : RepL (PCtx (heldIn c c.H)) W (xs.map (showV c.H d)) l :=
 qC xs ht (fun y _ u hy hr => nW s d y u hy hr) h
theorem aH.shown {P : Program} {G : Glob} {n : Nat} {ops : Array Oper} {base i : Nat} {o : Oper} {st : St} {K : St → Prop} {Qp : VV → St → Prop} {f : FuncId} {args : List VV} {x : VV} (hi : ops[i]? = some o) (hdst : dstsOk n ops = true)
  (hw : aG ops st.tm o = some true) (hf : callee? P G st o.op = some (f, args)) (hse : treeL (args.map (showV st.H 3)) = true) (hp : aj P G f (args.map (showV st.H 3)) (.tree x)) (hfl : x.flat = true) (hk : K (st.put o.dst x)) : aH P G n ops base i st K Qp := by
  intro ro c W a Kr Q _ s hr hsz hγ hnx k0 _
  have hd : ∀ d, o.dst = some d → d < a.tmps.size := by rw [hsz]; exact jL hdst hi
  have k : ∀ a' W' c', Ext c W c' W' → Sim c' W' → StRep G c' W' (st.put o.dst x) a' → a'.tmps.size = a.tmps.size → (∀ β, c'.used β → c.used β ∨ β = base + i) → Kr a' W' := fun a' W' c' he hs' hr' hz hu =>
   k0 a' W' c' _ he hs' hr' (hz.trans hsz) (fun β hb => (hu β hb).imp id .inl) (by cases o.dst <;> exact Nat.le_refl _) hk
  unfold wpOpIn
  simp only [hi]
  rw [if_pos (fk hr.tm hw)]
  obtain ⟨vs, hvs, hrun, hnd⟩ := jK hr hf hp.1
  rw [← hr.H] at hse
  have hvs' := Jr s 3 args hse hvs
  rw [← hr.H] at hp
  have hA : ∀ b, heldIn c c.H b → b < W.heap.size := by
   rintro b (h | ⟨β, hl, e⟩)
   ·exact s.ltA b h
   ·exact e ▸ s.lt β hl
  have hG : GOk G (PCtx (heldIn c c.H)) W := hr.G.tree.abides (h9 (fun b hb => Or.inl hb))
  refine ⟨fun _ _ => trivial, ?_⟩
  rw [Oper.semAt_eq _ _ _ hnd, hrun, Oper.uponIn_enter]
  refine ⟨fun h => (by cases h), jh ((hp.2 _ W vs hA hG hvs').mono ?_)⟩
  ·rintro e W' ⟨A0, g1, g2, g3, hb, v, rfl, cE⟩
   have h1 : ∀ b, c.A b → c.A b := fun _ h => h
   have h2 : ∀ b, c.A b → c.A b ∨ W.heap.size ≤ b := fun _ h => .inl h
   have h3 : ∀ b, c.A b → b < W'.heap.size := fun b hA => Nat.lt_of_lt_of_le (s.ltA b hA) hb.size
   have he := Ext.more h1 h2 hb
   have hs := Sim.more s h1 h2 h3 hb
   refine k _ W' (c.more c.A) he hs ?_ (by simp) (fun _ h => .inl h)
   have := hr.step (he.abides s) (dst := o.dst) (x := x) (v := v) (H' := st.H) hr.H (wm hfl cE) hd hr.nx
   cases hdst : o.dst <;> rw [hdst] at this <;> exact this
theorem aH.shownOwn {P : Program} {G : Glob} {n : Nat} {ops : Array Oper} {base i : Nat} {o : Oper} {st : St} {K : St → Prop} {Qp : VV → St → Prop} {f : FuncId} {args cs : List VV} {len es : Nat} (hi : ops[i]? = some o) (hdst : dstsOk n ops = true)
  (hw : aG ops st.tm o = some true) (hf : callee? P G st o.op = some (f, args)) (hse : treeL (args.map (showV st.H 3)) = true) (hp : aj P G f (args.map (showV st.H 3)) (.own cs len es)) (hfl : flatL cs = true)
  (hk : K { st.put o.dst (.ref (base + i) 0 len es len) with H := (VEff.new (.cells none cs)).app (base + i) st.H }) : aH P G n ops base i st K Qp := by
  intro ro c W a Kr Q _ s hr hsz hγ hnx k0 _
  have hd : ∀ d, o.dst = some d → d < a.tmps.size := by rw [hsz]; exact jL hdst hi
  have k : ∀ a' W' c', Ext c W c' W' → Sim c' W' → StRep G c' W' { st.put o.dst (.ref (base + i) 0 len es len) with H := (VEff.new (.cells none cs)).app (base + i) st.H } a' → a'.tmps.size = a.tmps.size → (∀ β, c'.used β → c.used β ∨ β = base + i) → Kr a' W' := fun a' W' c' he hs' hr' hz hu =>
   k0 a' W' c' _ he hs' hr' (hz.trans hsz) (fun β hb => (hu β hb).imp id .inl) (by cases o.dst <;> exact Nat.le_refl _) hk
  unfold wpOpIn
  simp only [hi]
  rw [if_pos (fk hr.tm hw)]
  obtain ⟨vs, hvs, hrun, hnd⟩ := jK hr hf hp.1
  rw [← hr.H] at hse
  have hvs' := Jr s 3 args hse hvs
  rw [← hr.H] at hp
  have hA : ∀ b, heldIn c c.H b → b < W.heap.size := by
   rintro b (h | ⟨β, hl, e⟩)
   ·exact s.ltA b h
   ·exact e ▸ s.lt β hl
  have hG : GOk G (PCtx (heldIn c c.H)) W := hr.G.tree.abides (h9 (fun b hb => Or.inl hb))
  refine ⟨fun _ _ => trivial, ?_⟩
  rw [Oper.semAt_eq _ _ _ hnd, hrun, Oper.uponIn_enter]
  refine ⟨fun h => (by cases h), jh ((hp.2 _ W vs hA hG hvs').mono ?_)⟩
  ·rintro e W' ⟨A0, g1, g2, g3, hb, b, arr, elem, cap, rfl, q1, q2, q3, Nr, q5, q6, q7, Ae⟩
   have h1 : ∀ b, c.A b → c.A b := fun _ h => h
   have h2 : ∀ b, c.A b → c.A b ∨ W.heap.size ≤ b := fun _ h => .inl h
   have h3 : ∀ b, c.A b → b < W'.heap.size := fun b hA => Nat.lt_of_lt_of_le (s.ltA b hA) hb.size
   have q4 : ¬ c.A b := fun h => by have := s.ltA b h; omega
   have q8 : RepL (PCtx c.A) W' cs (arr.toList.take cs.length) := oz hfl Ae
   have he := Ext.more h1 h2 hb
   have hs := Sim.more s h1 h2 h3 hb
   have hγ' : ¬ (c.more c.A).used (base + i) := hγ
   have hbut : But W' W' b := But.refl W' b
   have e1 : Ext c W ((c.more c.A).push c.H (base + i) (.cells none cs) b arr.size) W' :=
    { Ext.push (c := c) (au.refl _) hγ (.inl q2) ⟨fun k hk _ => hb.block k hk, hb.size, hb.os, hb.tape, hb.output⟩ with A := h1, newA := fun b hA => (h2 b hA).imp id .inl }
   have s1 : Sim ((c.more c.A).push c.H (base + i) (.cells none cs) b arr.size) W' := by
    have jf : Abides (c.more c.A) W' ((c.more c.A).push c.H (base + i) (.cells none cs) b arr.size) W' :=
     ⟨fun _ h => h, fun _ _ => rfl, fun _ h => .inr h, fun β hu hl => by
      rcases Ctx.push_live hl with e | ⟨_, h⟩
      ·exact absurd (e ▸ hu) hγ'
      ·exact h, fun β hu _ => by
      have : β ≠ base + i := fun e => hγ' (e ▸ hu)
      simp [Ctx.push, this], fun β hu _ => by
      have : β ≠ base + i := fun e => hγ' (e ▸ hu)
      simp [Ctx.push, this]⟩
    refine ⟨fun β hl => ?_, fun β ob hob => ?_, fun β hl => ?_, fun β hl => ?_, fun β δ hl hl' e => ?_, h3⟩
    ·rcases Ctx.push_live hl with e | ⟨_, h⟩
     ·exact .inl e
     ·exact .inr (s.used β h)
    ·by_cases e : β = base + i
     ·subst e
      simp [Ctx.push] at hob
      subst hob
      exact ⟨arr, elem, by simpa [Ctx.push] using q5, by simp [Ctx.push], q7, RepL.abides (h9 (fun _ h => h)) _ q8, fun _ h => by cases h⟩
     ·have hob' : c.H β = some ob := by simpa [Ctx.push, e] using hob
      have hl : c.live β := by simp [Ctx.live, hob']
      refine (hs.obj β ob hob').abides jf (s.used β hl) (by simp [Ctx.live, Ctx.push, e, hob']) rfl ?_
      intro st pe tm ps as bo df e'
      subst e'
      obtain ⟨ds, hds⟩ := s.loopOk hob'
      by_cases e2 : df = base + i
      ·exact absurd (e2 ▸ s.used df (by simp [Ctx.live, hds])) hγ
      ·exact ⟨ds, by simpa [Ctx.push, e2] using hds⟩
    ·rcases Ctx.push_live hl with e | ⟨e, h⟩
     ·simpa [Ctx.push, e] using q3
     ·simp only [Ctx.push, e, if_false]; exact hs.lt β h
    ·rcases Ctx.push_live hl with e | ⟨e, h⟩
     ·simp only [Ctx.push, e, if_true]; exact q4
     ·simp only [Ctx.push, e, if_false]; exact hs.notA β h
    ·rcases Ctx.push_live hl with ex | ⟨ex, hx⟩ <;> rcases Ctx.push_live hl' with ey | ⟨ey, hy⟩
     ·rw [ex, ey]
     ·simp [Ctx.push, ex, ey] at e
      have := s.lt δ hy
      have e' : b = c.φ δ := e
      omega
     ·simp [Ctx.push, ex, ey] at e
      have := s.lt β hx
      have e' : c.φ β = b := e
      omega
     ·simp [Ctx.push, ex, ey] at e; exact s.inj β δ hx hy e
   refine k _ W' _ e1 s1 ?_ (by simp) (fun β h => h.symm)
   refine hr.step (e1.abides s) (H' := (VEff.new (.cells none cs)).app (base + i) st.H) ?_ ?_ hd ?_
   ·rw [← hr.H]; rfl
   ·exact ma q1 q6 q1
   ·intro β hb
    rcases hb with h | h
    ·rw [h]; exact hnx
    ·exact hr.nx β h
end Go.V
end
