/- Part of the proof of a statement of YtljphegpidbnjaaGreatDoor: a logic of values by content, the lifted functions, and what follows. -/
import Derived.Test.YtljphegpidbnjaaGreatDoorMai
import Derived.RecoverIn
set_option linter.unusedVariables false
set_option linter.unusedSimpArgs false
set_option linter.unusedSectionVars false
set_option linter.constructorNameAsVariable false
section
/- How a function leaves behind ranges over functions; a call by its arguments alone out of one that sees the heap. -/
namespace Go.V
open Go

/-- The blocks for the rounds' deferred calls, shut. -/
def closeDf (H : Nat → Option VObj) : List VDef → Option (Nat → Option VObj)
  | [] => some H
  | .coll β :: ds => match H β with
    | some (.deferred (some [])) => closeDf (updH H β (.deferred none)) ds
    | _ => none
  | .fn .. :: _ => none

theorem run_takeDeferred {P : Program} {W W' : World} {b : Nat} (h : (getObj b).run P W = .ok (.deferred (some [])) W) (hset : (setObj b (.deferred none)).run P W = .ok () W') : (Instr.takeDeferred b).run P W = .ok [] W' := by
  unfold Instr.takeDeferred
  rw [Sem.run_bind, h, Result.andThen_ok]
  simp [hset, Sem.run_bind]

theorem leaves_marks {F : Fence} {P : Program} {fn : Func} {tmps : Array Value} {R : Ending → World → Prop} {u : FrameMode} (hu : u ≠ .run) : ∀ (df : List VDef) (ds : List Deferred) (c : Ctx) (W : World) (H1 : Nat → Option VObj),
    Sim c W → RepDs c W df ds → closeDf c.H df = some H1 → (∀ c1 W1, c1.H = H1 → Ext c W c1 W1 → Sim c1 W1 → c1.used = c.used → LeavesIn F 0 P fn tmps R [] u W1) → LeavesInM F 0 P fn tmps R ds u W
  | [], ds, c, W, H1, s, hd, hc, h => by
    have hd' : ds = [] := hd
    subst hd'
    cases hc
    exact h c W rfl (Ext.refl c W) s rfl
  | .fn .. :: _, _, _, _, _, _, _, hc, _ => by cases hc
  | .coll β :: df, ds, c, W, H1, s, hd, hc, h => by
    obtain ⟨d, ds', rfl, ⟨hub, hdβ⟩, hds⟩ := hd
    unfold closeDf at hc
    split at hc
    · rename_i hβ
      have hl : c.live β := by simp [Ctx.live, hβ]
      have hW : W.heap[c.φ β]? = some (.deferred (some [])) := (s.obj β _ hβ).2
      have hget : (getObj (c.φ β)).run P W = .ok (.deferred (some [])) W := by simp [getObj, Sem.run, hW]
      have hset := run_setObj (P := P) (o' := .deferred none) hW (by intros; simp)
      have hext : Ext c W (c.upd β (.deferred none)) { W with heap := W.heap.setIfInBounds (c.φ β) (.deferred none) } := Ext.upd hl (But.setObj W _ _)
      have hs' : Sim (c.upd β (.deferred none)) { W with heap := W.heap.setIfInBounds (c.φ β) (.deferred none) } := Sim.upd s hl (But.setObj W _ _) (fun _ => ⟨_, rfl⟩) (heap_setObj hW)
      refine ⟨hu, .inl ⟨c.φ β, _, by rw [hdβ hl], run_takeDeferred hget hset, ?_⟩⟩
      exact leaves_marks hu df ds' _ _ H1 hs' (RepDs.abides (hext.abides s) hds) hc fun c1 W1 h1 h2 h3 h4 => h c1 W1 h1 (hext.trans h2) h3 h4
    · cases hc

/-- What is asked of a body, marks and all. -/
def OpenPostM (P : Program) (fn : Func) (R Rp : VV → (Nat → Option VObj) → Nat → Prop) : VExit → St → Prop
  | .ret, s => ∃ H1, closeDf s.H s.df = some H1 ∧ ∃ x, resV P { s with H := H1, df := [] } fn.results.toList = some x ∧ R x H1 s.nx
  | .normal, s => ∃ H1, closeDf s.H s.df = some H1 ∧ ∃ x, resV P { s with H := H1, df := [] } fn.results.toList = some x ∧ R x H1 s.nx
  | .panic x, s => ∃ H1, closeDf s.H s.df = some H1 ∧ Rp x H1 s.nx
  | _, _ => False

theorem VOpen.of_bodyM {P : Program} {G : Glob} {f : FuncId} {fn : Func} {code : Code} {args : List VV} {H : Nat → Option VObj} {nx : Nat} {R Rp : VV → (Nat → Option VObj) → Nat → Prop} (hc : Callable P f) (hf : P.funcs[f]? = some fn)
    (hb : fn.body = some code) (hn : args.length ≤ fn.ntmps) (h : VWp P (G.at (some none)) fn.ntmps code (OpenPostM P fn R Rp) { tm := argsTm args, H, nx, df := [] }) : VOpen P G f args H nx R Rp := by
  refine ⟨hc, fun c W vs s hH hnx hG hargs => ?_⟩
  have hlen := hargs.length
  refine callsIn_of_wp_marks hf hb trivial (wpIn_mono (h none c W _ rfl s (StRep.enter (G := G.at (some none)) (k := fn.ntmps) hH hnx hG hargs) (by simp; omega)) ?_) rfl
  rintro e a' W' ⟨ve, c', st', he, hext, hs', hr', hsz, hu, hle, hq⟩
  have finish : (∃ H1, closeDf st'.H st'.df = some H1 ∧ ∃ x, resV P { st' with H := H1, df := [] } fn.results.toList = some x ∧ R x H1 st'.nx) →
      LeavesInM Fence.wide 0 P fn a'.tmps (fun e W' => ∃ c' H' nx', Ext c W c' W' ∧ Sim c' W' ∧ c'.H = H' ∧ (∀ β, c'.used β → c.used β ∨ nx ≤ β) ∧ (∀ β, c'.used β → β < nx') ∧ nx ≤ nx' ∧
        ((∃ x v, e = .returned v ∧ Rep c' W' x v ∧ R x H' nx') ∨ (∃ x v, e = .panicked [{ v, recovered := false }] ∧ Rep c' W' x v ∧ Rp x H' nx'))) a'.defers .returning W' := by
    rintro ⟨H1, hclose, x, hx, hR⟩
    refine leaves_marks (by simp) st'.df a'.defers c' W' H1 hs' hr'.df (by rw [hr'.H]; exact hclose) fun c1 W1 h1 h2 h3 h4 => ?_
    have ab := h2.abides hs'
    have hr1 : StRep (G.at (some none)) c1 W1 { st' with H := H1, df := [] } { a' with defers := [] } := ⟨h1, fun t => Rep.abides ab _ (hr'.tm t), fun β hb => hr'.nx β (by rw [← h4]; exact hb), rfl, hr'.G.abides ab⟩
    obtain ⟨v, hv, hrv⟩ := results_run h3 hr1 hx
    exact ⟨v, hv, c1, H1, st'.nx, hext.trans h2, h3, h1, fun β hb => hu β (by rw [← h4]; exact hb), fun β hb => hr'.nx β (by rw [← h4]; exact hb), hle, .inl ⟨x, v, rfl, hrv, hR⟩⟩
  cases ve with
  | normal => have e1 : e = .normal := he; subst e1; exact finish hq
  | ret => have e1 : e = .ret := he; subst e1; exact finish hq
  | exit id => exact hq.elim
  | goto l => exact hq.elim
  | panic x =>
    obtain ⟨v, e1, hv⟩ := he
    subst e1
    obtain ⟨H1, hclose, hR⟩ := hq
    refine leaves_marks (by simp) st'.df a'.defers c' W' H1 hs' hr'.df (by rw [hr'.H]; exact hclose) fun c1 W1 h1 h2 h3 h4 => ?_
    exact ⟨c1, H1, st'.nx, hext.trans h2, h3, h1, fun β hb => hu β (by rw [← h4]; exact hb), fun β hb => hr'.nx β (by rw [← h4]; exact hb), hle, .inr ⟨x, v, rfl, Rep.abides (h2.abides hs') _ hv, hR⟩⟩

/-- What such a call's panic must be. -/
def SealsP (H : Nat → Option VObj) (x : VV) (r : PRes) : Prop := ∃ y n, r = .panic y ∧ sealV H n x = some y

/-- A call that sees nothing of the caller's, by its arguments alone. -/
theorem VPure.of_open {P : Program} {G : Glob} {f : FuncId} {args : List VV} {r : PRes} (h : VOpen P G f args (fun _ => none) 0 (fun x H _ => SealsTo H x r) (fun x H _ => SealsP H x r)) : VPure P G f args r := by
  refine ⟨h.1, fun A W vs hA hG hargs => (h.2 (PCtx A) W vs (pctx_sim hA) rfl (fun β hb => hb.elim) hG hargs).mono ?_⟩
  rintro e W' ⟨c', H', nx', hext, hs', hH', hu, hu', hle, hres⟩
  have hbelow := below_of_ext hext
  have hge : ∀ β, c'.live β → W.heap.size ≤ c'.φ β := by
    intro β hl
    rcases Nat.lt_or_ge (c'.φ β) W.heap.size with h | h
    · obtain ⟨γ, hγ, _⟩ := hext.old β hl h
      simp [PCtx, Ctx.live] at hγ
    · exact h
  have hold : ∀ b, c'.A b → A b ∨ W.heap.size ≤ b := by
    intro b hb
    rcases hext.newA b hb with h | h | ⟨β, h, _⟩
    · exact .inl h
    · exact .inr h
    · simp [PCtx, Ctx.live] at h
  have held : ∀ {H0 : Nat → Option VObj}, SubHeap H0 c'.H → ∀ b, heldIn c' H0 b → A b ∨ W.heap.size ≤ b := by
    intro H0 hsub b hb
    rcases hb with h | ⟨β, h, e⟩
    · exact hold b h
    · exact .inr (e ▸ hge β (hsub.live h))
  have heldlt : ∀ {H0 : Nat → Option VObj}, SubHeap H0 c'.H → ∀ b, heldIn c' H0 b → b < W'.heap.size := by
    intro H0 hsub b hb
    rcases hb with h | ⟨β, h, e⟩
    · exact hs'.ltA b h
    · exact e ▸ hs'.lt β (hsub.live h)
  have hsub : SubHeap H' c'.H := by rw [hH']; exact SubHeap.refl _
  rcases hres with ⟨x, v, rfl, hrv, hseal⟩ | ⟨x, v, rfl, hv, y, n, rfl, hn⟩
  · cases r with
    | tree y =>
      obtain ⟨n, hn⟩ := hseal
      exact ⟨_, fun b hb => .inl (hext.A b hb), held hsub, heldlt hsub, hbelow, v, rfl, (seal_rep hs' hsub n).1 _ _ _ hn hrv⟩
    | own cs len es =>
      obtain ⟨n, β, el0, cs0, ⟨cp, rfl⟩, hβ, hn⟩ := hseal
      have hlive : c'.live β := by simp [Ctx.live, hH', hβ]
      obtain ⟨cap, e1, hcap, hroom, _⟩ := hrv.2 hlive
      have hsub' : SubHeap (without H' β) c'.H := fun q o ho => hsub q o (SubHeap.without _ _ q o ho)
      obtain ⟨arr, el, g1, g2, g3, g4, _⟩ := hs'.obj β _ (by rw [hH']; exact hβ)
      have hrl := (seal_rep hs' hsub' n).2 _ _ _ hn g4
      have hll := hrl.length
      simp at hll
      refine ⟨heldIn c' (without H' β), fun b hb => .inl (hext.A b hb), held hsub', heldlt hsub', hbelow, c'.φ β, arr, el, cap, by rw [e1], hcap, hge β hlive, hs'.lt β hlive, ?_, g1, by omega, by omega, ?_⟩
      · rintro (h | ⟨γ, h, e⟩)
        · exact hs'.notA β hlive h
        · have := hs'.inj γ β (hsub'.live h) hlive e
          subst this
          simp [without] at h
      · rw [show cs.length = cs0.length by omega]; exact hrl
    | panic y => exact hseal.elim
  · exact ⟨_, fun b hb => .inl (hext.A b hb), held hsub, heldlt hsub, hbelow, v, rfl, (seal_rep hs' hsub n).1 _ _ _ hn hv⟩
end Go.V
end
section
/- Deferred calls, and recover. -/
namespace Go.V
open Go

/-- How the frame below is on its way out. -/
inductive VMode where
  | ret
  | pan (x : VV) (recovered : Bool)

def MRep (c : Ctx) (W : World) : VMode → FrameMode → Prop
  | .ret, u => u = .returning
  | .pan x r, u => ∃ v, u = .panicking [{ v, recovered := r }] ∧ Rep c W x v

theorem MRep.abides {c c' : Ctx} {W W' : World} (ab : Abides c W c' W') : ∀ {u : VMode} {u0 : FrameMode}, MRep c W u u0 → MRep c' W' u u0
  | .ret, _, h => h
  | .pan _ _, _, ⟨v, e, h⟩ => ⟨v, e, Rep.abides ab _ h⟩
theorem MRep.notRun {c : Ctx} {W : World} : ∀ {u : VMode} {u0 : FrameMode}, MRep c W u u0 → u0 ≠ .run
  | .ret, _, h => by rw [show _ = _ from h]; simp
  | .pan _ _, _, ⟨v, e, _⟩ => by rw [e]; simp

def settleV : VMode → VMode
  | .pan _ true => .ret
  | u => u
theorem MRep.settle {c : Ctx} {W : World} : ∀ {u : VMode} {u0 : FrameMode}, MRep c W u u0 → MRep c W (settleV u) (settle u0)
  | .ret, _, h => by rw [show _ = _ from h]; rfl
  | .pan x true, _, ⟨v, e, h⟩ => by rw [e]; rfl
  | .pan x false, _, ⟨v, e, h⟩ => by rw [e]; exact ⟨v, rfl, h⟩

/-- What recover gives, and what it leaves. -/
def recoverV : VMode → VV × VMode
  | .pan x false => (x, .pan x true)
  | u => (.lit .nilIface, u)

def LiftS (G : Glob) (n nx0 : Nat) (c0 : Ctx) (W0 : World) (fr : Frame) (cs : List Frame) (Q : VExit → VMode → St → Prop) : Exit → Act → List Frame → World → Prop := fun e a cs' W =>
  ∃ ve c st u u0, cs' = { fr with mode := u0 } :: cs ∧ MRep c W u u0 ∧ ERep c W ve e ∧ Ext c0 W0 c W ∧ Sim c W ∧ StRep G c W st a ∧ a.tmps.size = n ∧ (∀ β, c.used β → c0.used β ∨ nx0 ≤ β) ∧ nx0 ≤ st.nx ∧ Q ve u st

/-- Code of a function that was called as a deferred one. -/
def VWpS (P : Program) (G : Glob) (n : Nat) (code : Code) (Q : VExit → VMode → St → Prop) (u : VMode) (st : St) : Prop :=
  ∀ fr cs c W a u0, MRep c W u u0 → Sim c W → StRep G c W st a → a.tmps.size = n → code.wpSIn Fence.wide 0 P (LiftS G n st.nx c W fr cs Q) a ({ fr with mode := u0 } :: cs) W

section rules
variable {P : Program} {G : Glob} {n : Nat} {Q : VExit → VMode → St → Prop} {u : VMode} {st : St}

theorem VWpS.of {code : Code} (hrg : G.rg = some none) (h : VWp P G n code (fun e s => Q e u s) st) : VWpS P G n code Q u st := by
  intro fr cs c W a u0 hu s hr hs
  refine wpSIn_of_wpIn rfl (wpIn_mono (h none c W a (by unfold RoOk; rw [hrg]) s hr hs) ?_)
  rintro e a' W' ⟨ve, c', st', h1, h2, h3, h4, h5, h6, h7, h8⟩
  exact ⟨ve, c', st', u, u0, rfl, hu.abides (h2.abides s), h1, h2, h3, h4, h5, h6, h7, h8⟩

theorem LiftS.of_ext {nx0 nx1 : Nat} {c0 c1 : Ctx} {W0 W1 : World} {e : Exit} {a : Act} {W : World} {fr : Frame} {cs cs' : List Frame} (he : Ext c0 W0 c1 W1) (hu : ∀ β, c1.used β → c0.used β ∨ nx0 ≤ β) (hle : nx0 ≤ nx1)
    (h : LiftS G n nx1 c1 W1 fr cs Q e a cs' W) : LiftS G n nx0 c0 W0 fr cs Q e a cs' W := by
  obtain ⟨ve, c, st, u, u0, h0, hm, h1, h2, h3, h4, h5, h6, h7, h8⟩ := h
  refine ⟨ve, c, st, u, u0, h0, hm, h1, he.trans h2, h3, h4, h5, fun β hb => ?_, Nat.le_trans hle h7, h8⟩
  rcases h6 β hb with h | h
  · exact hu β h
  · exact .inr (Nat.le_trans hle h)

def VExit.thenS (next : VMode → St → Prop) (Q : VExit → VMode → St → Prop) : VExit → VMode → St → Prop
  | .normal, u, st => next u st
  | e, u, st => Q e u st

theorem wpSIn_mono {F : Fence} {m : Nat} {code : Code} {R R' : Exit → Act → List Frame → World → Prop} {a : Act} {cs : List Frame} {w : World} (h : code.wpSIn F m P R a cs w) (hR : ∀ e a cs w, R e a cs w → R' e a cs w) : code.wpSIn F m P R' a cs w :=
  fun b k h1 h2 h3 h4 => let ⟨e, a', cs', w', g1, g2, g3⟩ := h b k h1 h2 h3 h4; ⟨e, a', cs', w', g1, hR _ _ _ _ g2, g3⟩

theorem VWpS.seq {x y : Code} (h : VWpS P G n x (VExit.thenS (VWpS P G n y Q) Q) u st) : VWpS P G n (.seq x y) Q u st := by
  intro fr cs c W a u0 hu s hr hs
  refine wpSIn_seq (wpSIn_mono (h fr cs c W a u0 hu s hr hs) ?_)
  rintro e a' cs' W' ⟨ve, c', st', u', u0', rfl, hm, h1, h2, h3, h4, h5, h6, h7, h8⟩
  cases ve with
  | normal =>
    have e1 : e = .normal := h1
    subst e1
    exact wpSIn_mono (h8 fr cs c' W' a' u0' hm h3 h4 h5) fun _ _ _ _ hl => hl.of_ext h2 h6 h7
  | exit id => have e1 : e = .exit id := h1; subst e1; exact ⟨_, c', st', u', u0', rfl, hm, h1, h2, h3, h4, h5, h6, h7, h8⟩
  | goto l => have e1 : e = .goto l := h1; subst e1; exact ⟨_, c', st', u', u0', rfl, hm, h1, h2, h3, h4, h5, h6, h7, h8⟩
  | ret => have e1 : e = .ret := h1; subst e1; exact ⟨_, c', st', u', u0', rfl, hm, h1, h2, h3, h4, h5, h6, h7, h8⟩
  | panic x =>
    obtain ⟨v, e1, hv⟩ := h1
    subst e1
    exact ⟨.panic x, c', st', u', u0', rfl, hm, ⟨v, rfl, hv⟩, h2, h3, h4, h5, h6, h7, h8⟩

/-- Operations that call nothing. -/
def VOps (P : Program) (G : Glob) (ops : Array Oper) (base : Nat) (K : St → Prop) : List Nat → St → Prop
  | [], st => K st
  | i :: l, st => ∃ o, ops[i]? = some o ∧ ((wantV ops st.tm o = some false ∧ VOps P G ops base K l (st.put o.dst (.lit undef))) ∨
      (wantV ops st.tm o = some true ∧ ∃ x eff, vop P o (st.ρ G) st.H (base + i) = some (x, eff) ∧ VOps P G ops base K l { st.put o.dst x with H := eff.app (base + i) st.H }))

theorem vops_sound {ops : Array Oper} {base : Nat} {nx0 : Nat} {c0 : Ctx} {W0 : World} {fr : Frame} {cs : List Frame} {u0 : FrameMode} (hd : dstsOk n ops = true) : ∀ (l : List Nat) (st : St) (c : Ctx) (W : World) (a : Act),
    VOps P G ops base (fun s => Q .normal u s) l st → l.Nodup → (∀ i ∈ l, i < ops.size) → base + ops.size ≤ st.nx → nx0 ≤ base → MRep c W u u0 → Sim c W → StRep G c W st a → a.tmps.size = n → (∀ i ∈ l, ¬ c.used (base + i)) →
    Ext c0 W0 c W → (∀ β, c.used β → c0.used β ∨ nx0 ≤ β) → wpOpsSIn Fence.wide 0 P ops (LiftS G n nx0 c0 W0 fr cs Q) l a ({ fr with mode := u0 } :: cs) W
  | [], st, c, W, a, h, _, _, hb, hn, hu, s, hr, hs, _, he, hus => ⟨.normal, c, st, u, u0, rfl, hu, rfl, he, s, hr, hs, hus, by omega, h⟩
  | i :: l, st, c, W, a, h, hnd, hlt, hb, hn, hu, s, hr, hs, hf, he, hus => by
    obtain ⟨o, ho, h⟩ := h
    have hi := hlt i (List.mem_cons_self ..)
    rw [List.nodup_cons] at hnd
    have hdd : ∀ d, o.dst = some d → d < a.tmps.size := fun d hd' => by rw [hs]; exact dstsOk_spec hd ho d hd'
    simp only [wpOpsSIn, ho]
    refine ⟨fun _ _ => trivial, ?_⟩
    rcases h with ⟨hw, h⟩ | ⟨hw, x, eff, hv, h⟩
    · have hw' := wantV_sound hr.tm hw
      rw [if_neg (by rw [hw']; simp)]
      have hst := hr.step (abides_of_heap rfl) (dst := o.dst) (x := .lit undef) (v := undef) (H' := st.H) hr.H rfl hdd hr.nx
      have hst' : StRep G c W (st.put o.dst (.lit undef)) (a.put o.dst undef) := by cases hdst : o.dst <;> rw [hdst] at hst <;> exact hst
      exact vops_sound hd l _ c W _ h hnd.2 (fun j hj => hlt j (List.mem_cons_of_mem _ hj)) (by simpa using hb) hn hu s hst' (by simpa using hs) (fun j hj => hf j (List.mem_cons_of_mem _ hj)) he hus
    · have hw' := wantV_sound hr.tm hw
      rw [if_pos hw']
      rw [← hr.H] at hv
      obtain ⟨r, v, W', c', hrun, hrv, hx, he', hs', hH, hu'⟩ := vop_sound s (hf i (List.mem_cons_self ..)) hr.eval hv
      have hr' := hr.step (he'.abides s) (by rw [hH, hr.H]) hx hdd (fun β hb' => by
        rcases hu' β hb' with h | h
        · exact hr.nx β h
        · omega)
      have go : wpOpsSIn Fence.wide 0 P ops (LiftS G n nx0 c0 W0 fr cs Q) l (a.put o.dst v) ({ fr with mode := u0 } :: cs) W' := by
        refine vops_sound hd l _ c' W' _ h hnd.2 (fun j hj => hlt j (List.mem_cons_of_mem _ hj)) ?_ hn (hu.abides (he'.abides s)) hs' hr' (by simpa using hs) (fun j hj hbad => ?_) (he.trans he') (fun β hb' => ?_)
        · show base + ops.size ≤ (st.put o.dst x).nx
          simpa using hb
        · rcases hu' _ hbad with h | h
          · exact hf j (List.mem_cons_of_mem _ hj) h
          · have : j = i := by omega
            exact hnd.1 (this ▸ hj)
        · rcases hu' β hb' with h | h
          · exact hus β h
          · right; omega
      rw [hrun]
      rcases hrv with rfl | ⟨rfl, rfl⟩
      · exact go
      · exact go

/-- A region that begins with recover. -/
theorem VWpS.recover {id : Nat} {ops : Array Oper} {o : Oper} {as : Array Operand} {ats : Array TypeId} (hd : dstsOk n ops = true) (ho : ops[0]? = some o) (hg : o.guard = none) (hop : o.op = .call ⟨.builtin .recover, as, ats⟩)
    (h : VOps P G ops st.nx (fun s => Q .normal (recoverV u).2 s) (List.range' 1 (ops.size - 1)) { st.put o.dst (recoverV u).1 with nx := st.nx + ops.size }) : VWpS P G n (.region id ops false) Q u st := by
  intro fr cs c W a u0 hu s hr hs
  refine wpSIn_region ?_
  have hpos : 0 < ops.size := (Array.getElem?_eq_some_iff.1 ho).1
  have hrng : List.range ops.size = 0 :: List.range' 1 (ops.size - 1) := by
    rw [List.range_eq_range']
    obtain ⟨m, hm⟩ : ∃ m, ops.size = m + 1 := ⟨ops.size - 1, by omega⟩
    rw [hm]; rfl
  rw [hrng]
  simp only [wpOpsSIn, ho]
  refine ⟨fun _ _ => trivial, ?_⟩
  have hw : Region.wanted o (yielded ops a.tmps) = true := by simp [Region.wanted, hg]
  rw [if_pos hw]
  have hrun : (execOp a.eval o).run P W = .ok .recover W := by
    simp [execOp, hop, resolve, invoke, builtin]
  rw [hrun]
  have hdd : ∀ d, o.dst = some d → d < a.tmps.size := fun d hd' => by rw [hs]; exact dstsOk_spec hd ho d hd'
  have go : ∀ (x : VV) (v : Value) (u1 : VMode) (u01 : FrameMode), Rep c W x v → MRep c W u1 u01 → VOps P G ops st.nx (fun s => Q .normal u1 s) (List.range' 1 (ops.size - 1)) { st.put o.dst x with nx := st.nx + ops.size } →
      wpOpsSIn Fence.wide 0 P ops (LiftS G n st.nx c W fr cs Q) (List.range' 1 (ops.size - 1)) (a.put o.dst v) ({ fr with mode := u01 } :: cs) W := by
    intro x v u1 u01 hx hu1 hv
    have h0 : StRep G c W { st.put o.dst x with nx := st.nx + ops.size } (a.put o.dst v) := by
      refine ⟨by simpa using hr.H, ?_, fun β hb => Nat.lt_of_lt_of_le (hr.nx β hb) (Nat.le_add_right _ _), ?_, hr.G⟩
      · exact rep_put (st := st) (dst := o.dst) hr.tm hdd hx
      · rw [defers_put]
        cases o.dst <;> exact hr.df
    refine vops_sound hd _ _ c W _ hv List.nodup_range' (fun i hi => ?_) (Nat.le_refl _) (Nat.le_refl _) hu1 s h0 (by simpa using hs) (fun i _ hb => ?_) (Ext.refl c W) (fun _ h => .inl h)
    · rw [List.mem_range'] at hi; omega
    · have := hr.nx _ hb; omega
  cases u with
  | ret =>
    have e : u0 = .returning := hu
    subst e
    exact go (.lit .nilIface) .nilIface .ret _ rfl hu h
  | pan x r =>
    obtain ⟨v, e, hv⟩ := hu
    subst e
    cases r with
    | false => exact go x v (.pan x true) _ hv ⟨v, rfl, hv⟩ h
    | true => exact go (.lit .nilIface) .nilIface (.pan x true) _ rfl ⟨v, rfl, hv⟩ h
end rules

/-- A function called as a deferred one. -/
def VDeferred (P : Program) (G : Glob) (f : FuncId) (args : List VV) (H : Nat → Option VObj) (nx : Nat) (u : VMode) (R : VMode → (Nat → Option VObj) → Nat → Prop) : Prop :=
  Callable P f ∧ ∀ c W vs u0, Sim c W → c.H = H → (∀ β, c.used β → β < nx) → GOk G c W → RepL c W args vs → MRep c W u u0 →
    CallsDIn Fence.wide 0 P f ⟨vs⟩ u0 W fun e u0' W' => ∃ v c' H' nx' u', e = .returned v ∧ Ext c W c' W' ∧ Sim c' W' ∧ c'.H = H' ∧ (∀ β, c'.used β → c.used β ∨ nx ≤ β) ∧ (∀ β, c'.used β → β < nx') ∧ nx ≤ nx' ∧ MRep c' W' u' u0' ∧ R u' H' nx'

def DPost (P : Program) (fn : Func) (R : VMode → (Nat → Option VObj) → Nat → Prop) : VExit → VMode → St → Prop
  | .ret, u, s => s.df = [] ∧ (∃ x, resV P s fn.results.toList = some x) ∧ R u s.H s.nx
  | .normal, u, s => s.df = [] ∧ (∃ x, resV P s fn.results.toList = some x) ∧ R u s.H s.nx
  | _, _, _ => False

theorem VDeferred.of_body {P : Program} {G : Glob} {f : FuncId} {fn : Func} {code : Code} {args : List VV} {H : Nat → Option VObj} {nx : Nat} {u : VMode} {R : VMode → (Nat → Option VObj) → Nat → Prop} (hc : Callable P f) (hf : P.funcs[f]? = some fn)
    (hb : fn.body = some code) (hn : args.length ≤ fn.ntmps) (h : VWpS P (G.at (some none)) fn.ntmps code (DPost P fn R) u { tm := argsTm args, H, nx, df := [] }) : VDeferred P G f args H nx u R := by
  refine ⟨hc, fun c W vs u0 s hH hnx hG hargs hu => ?_⟩
  have hlen := hargs.length
  refine callsDIn_of_wpSIn hf hb trivial fun c₀ cs hmode => ?_
  have h0 := h c₀ cs c W _ u0 hu s (StRep.enter (G := G.at (some none)) (k := fn.ntmps) hH hnx hG hargs) (by simp; omega)
  have e0 : ({ c₀ with mode := u0 } : Frame) = c₀ := by subst hmode; rfl
  rw [e0] at h0
  refine wpSIn_mono h0 ?_
  rintro e a' cs' W' ⟨ve, c', st', u', u0', rfl, hm, he, hext, hs', hr', hsz, hus, hle, hq⟩
  have finish : st'.df = [] ∧ (∃ x, resV P st' fn.results.toList = some x) ∧ R u' st'.H st'.nx → a'.defers = [] ∧ ∃ v, (results fn a'.tmps).run P W' = .ok v W' ∧
      ∃ v' c' H' nx' u', Ending.returned v = .returned v' ∧ Ext c W c' W' ∧ Sim c' W' ∧ c'.H = H' ∧ (∀ β, c'.used β → c.used β ∨ nx ≤ β) ∧ (∀ β, c'.used β → β < nx') ∧ nx ≤ nx' ∧ MRep c' W' u' u0' ∧ R u' H' nx' := by
    rintro ⟨hdf, ⟨x, hx⟩, hR⟩
    obtain ⟨v, hv, _⟩ := results_run hs' hr' hx
    have hd := hr'.df
    rw [hdf] at hd
    exact ⟨hd, v, hv, v, c', st'.H, st'.nx, u', rfl, hext, hs', hr'.H, hus, hr'.nx, hle, hm, hR⟩
  cases ve with
  | normal =>
    have e1 : e = .normal := he
    subst e1
    obtain ⟨hd, v, hv, hR⟩ := finish hq
    exact ⟨hd, u0', rfl, v, hv, hR⟩
  | ret =>
    have e1 : e = .ret := he
    subst e1
    obtain ⟨hd, v, hv, hR⟩ := finish hq
    exact ⟨hd, u0', rfl, v, hv, hR⟩
  | exit id => exact hq.elim
  | goto l => exact hq.elim
  | panic x => exact hq.elim

/-- The deferred calls of a function that is on its way out. -/
def leavesK (P : Program) (G : Glob) (K : VMode → (Nat → Option VObj) → Nat → Prop) : List VDef → VMode → (Nat → Option VObj) → Nat → Prop
  | [], u, H, nx => K u H nx
  | .coll β :: ds, u, H, nx => H β = some (.deferred (some [])) ∧ leavesK P G K ds u (updH H β (.deferred none)) nx
  | .fn (.func f) cap args :: ds, u, H, nx => VDeferred P G f (args ++ cap) H nx u fun u' H' nx' => leavesK P G K ds (settleV u') H' nx'
  | _ :: _, _, _, _ => False

theorem leavesK_sound {P : Program} {G : Glob} {fn : Func} {tmps : Array Value} {R : Ending → World → Prop} {K : VMode → (Nat → Option VObj) → Nat → Prop} : ∀ (df : List VDef) (ds : List Deferred) (c : Ctx) (W : World) (u : VMode) (u0 : FrameMode) (nx : Nat),
    Sim c W → RepDs c W df ds → MRep c W u u0 → (∀ β, c.used β → β < nx) → GOk G c W → leavesK P G K df u c.H nx →
    (∀ c1 W1 u1 u01 nx1, Ext c W c1 W1 → Sim c1 W1 → (∀ β, c1.used β → c.used β ∨ nx ≤ β) → (∀ β, c1.used β → β < nx1) → nx ≤ nx1 → MRep c1 W1 u1 u01 → K u1 c1.H nx1 → LeavesIn Fence.wide 0 P fn tmps R [] u01 W1) → LeavesInM Fence.wide 0 P fn tmps R ds u0 W
  | [], ds, c, W, u, u0, nx, s, hd, hu, hnx, hG, hK, h => by
    have hd' : ds = [] := hd
    subst hd'
    exact h c W u u0 nx (Ext.refl c W) s (fun _ h => .inl h) hnx (Nat.le_refl _) hu hK
  | .coll β :: df, ds, c, W, u, u0, nx, s, hd, hu, hnx, hG, hK, h => by
    obtain ⟨d, ds', rfl, ⟨hub, hdβ⟩, hds⟩ := hd
    obtain ⟨hβ, hK⟩ := hK
    have hl : c.live β := by simp [Ctx.live, hβ]
    have hW : W.heap[c.φ β]? = some (.deferred (some [])) := (s.obj β _ hβ).2
    have hget : (getObj (c.φ β)).run P W = .ok (.deferred (some [])) W := by simp [getObj, Sem.run, hW]
    have hset := run_setObj (P := P) (o' := .deferred none) hW (by intros; simp)
    have hext : Ext c W (c.upd β (.deferred none)) { W with heap := W.heap.setIfInBounds (c.φ β) (.deferred none) } := Ext.upd hl (But.setObj W _ _)
    have hs' : Sim (c.upd β (.deferred none)) { W with heap := W.heap.setIfInBounds (c.φ β) (.deferred none) } := Sim.upd s hl (But.setObj W _ _) (fun _ => ⟨_, rfl⟩) (heap_setObj hW)
    refine ⟨hu.notRun, .inl ⟨c.φ β, _, by rw [hdβ hl], run_takeDeferred hget hset, ?_⟩⟩
    exact leavesK_sound df ds' _ _ u u0 nx hs' (RepDs.abides (hext.abides s) hds) (hu.abides (hext.abides s)) hnx (hG.abides (hext.abides s)) hK fun c1 W1 u1 u01 nx1 h2 h3 h4 h5 h6 h7 h8 => h c1 W1 u1 u01 nx1 (hext.trans h2) h3 h4 h5 h6 h7 h8
  | .fn (.func f) cap args :: df, ds, c, W, u, u0, nx, s, hd, hu, hnx, hG, hK, h => by
    obtain ⟨d, ds', rfl, ⟨l, m, rfl, hcap, hargs⟩, hds⟩ := hd
    refine ⟨hu.notRun, .inr ⟨fun hh => (by cases hh), .func f, ⟨l⟩, f, ⟨m ++ l⟩, rfl, ?_, fun _ _ => trivial, ?_⟩⟩
    · have := hK.1 ⟨m ++ l⟩ W
      rw [← this]
      simp only [invoke]
      congr 2
      apply Array.ext'
      simp
    · obtain ⟨hF, hcall⟩ := hK.2 c W (m ++ l) u0 s rfl hnx hG (RepL.append hargs hcap) hu
      refine ⟨hF, fun c₀ cs hm hroom => ?_⟩
      obtain ⟨e, u', w', fr, ⟨v, c', H', nx', uV, rfl, g1, g2, g3, g4, g5, g6, g7, g8⟩, k2, k3, k4, k5⟩ := hcall c₀ cs hm hroom
      refine ⟨.returned v, u', w', fr, ?_, k2, k3, k4, k5⟩
      subst g3
      exact leavesK_sound df ds' c' w' (settleV uV) (settle u') nx' g2 (RepDs.abides (g1.abides s) hds) g7.settle g5 (hG.abides (g1.abides s)) g8 fun c1 W1 u1 u01 nx1 h2 h3 h4 h5 h6 h7 h8 =>
        h c1 W1 u1 u01 nx1 (g1.trans h2) h3 (fun β hb => by
          rcases h4 β hb with hb | hb
          · exact g4 β hb
          · right; omega) h5 (by omega) h7 h8
  | .fn (.method _) _ _ :: _, _, _, _, _, _, _, _, _, _, _, _, hK, _ => hK.elim
  | .fn (.methodOf ..) _ _ :: _, _, _, _, _, _, _, _, _, _, _, _, hK, _ => hK.elim
  | .fn (.via ..) _ _ :: _, _, _, _, _, _, _, _, _, _, _, _, hK, _ => hK.elim
  | .fn (.yield _) _ _ :: _, _, _, _, _, _, _, _, _, _, _, _, hK, _ => hK.elim
end Go.V
end
section
/- Functions that defer: how they leave; the statement 'defer'. -/
namespace Go.V
open Go

/-- What is left when the deferred calls are through. -/
def finK (P : Program) (fn : Func) (s : St) (R Rp : VV → (Nat → Option VObj) → Nat → Prop) : VMode → (Nat → Option VObj) → Nat → Prop
  | .ret, H, nx => ∃ x, resV P { s with H := H, nx := nx, df := [] } fn.results.toList = some x ∧ R x H nx
  | .pan x false, H, nx => Rp x H nx
  | .pan _ true, _, _ => False

def OpenPostD (P : Program) (G : Glob) (fn : Func) (R Rp : VV → (Nat → Option VObj) → Nat → Prop) : VExit → St → Prop
  | .ret, s => leavesK P G (finK P fn s R Rp) s.df .ret s.H s.nx
  | .normal, s => leavesK P G (finK P fn s R Rp) s.df .ret s.H s.nx
  | .panic x, s => leavesK P G (finK P fn s R Rp) s.df (.pan x false) s.H s.nx
  | _, _ => False

theorem VOpen.of_bodyD {P : Program} {G : Glob} {f : FuncId} {fn : Func} {code : Code} {args : List VV} {H : Nat → Option VObj} {nx : Nat} {R Rp : VV → (Nat → Option VObj) → Nat → Prop} (hc : Callable P f) (hf : P.funcs[f]? = some fn)
    (hb : fn.body = some code) (hn : args.length ≤ fn.ntmps) (h : VWp P (G.at (some none)) fn.ntmps code (OpenPostD P G fn R Rp) { tm := argsTm args, H, nx, df := [] }) : VOpen P G f args H nx R Rp := by
  refine ⟨hc, fun c W vs s hH hnx hG hargs => ?_⟩
  have hlen := hargs.length
  refine callsIn_of_wp_marks hf hb trivial (wpIn_mono (h none c W _ rfl s (StRep.enter (G := G.at (some none)) (k := fn.ntmps) hH hnx hG hargs) (by simp; omega)) ?_) rfl
  rintro e a' W' ⟨ve, c', st', he, hext, hs', hr', hsz, hu, hle, hq⟩
  have finish : ∀ (u : VMode) (u0 : FrameMode), MRep c' W' u u0 → leavesK P G (finK P fn st' R Rp) st'.df u st'.H st'.nx →
      LeavesInM Fence.wide 0 P fn a'.tmps (fun e W' => ∃ c' H' nx', Ext c W c' W' ∧ Sim c' W' ∧ c'.H = H' ∧ (∀ β, c'.used β → c.used β ∨ nx ≤ β) ∧ (∀ β, c'.used β → β < nx') ∧ nx ≤ nx' ∧
        ((∃ x v, e = .returned v ∧ Rep c' W' x v ∧ R x H' nx') ∨ (∃ x v, e = .panicked [{ v, recovered := false }] ∧ Rep c' W' x v ∧ Rp x H' nx'))) a'.defers u0 W' := by
    intro u u0 hm hK
    refine leavesK_sound (G := G) st'.df a'.defers c' W' u u0 st'.nx hs' hr'.df hm hr'.nx (show GOk G c' W' from hr'.G) (by rw [hr'.H]; exact hK) fun c1 W1 u1 u01 nx1 h2 h3 h4 h5 h6 h7 h8 => ?_
    have ab := h2.abides hs'
    have hus : ∀ β, c1.used β → c.used β ∨ nx ≤ β := fun β hb => by
      rcases h4 β hb with hb | hb
      · exact hu β hb
      · right; exact Nat.le_trans hle hb
    have hle1 : nx ≤ nx1 := Nat.le_trans hle h6
    cases u1 with
    | ret =>
      have e1 : u01 = .returning := h7
      subst e1
      obtain ⟨x, hx, hR⟩ := h8
      have hr1 : StRep (G.at (some none)) c1 W1 { st' with H := c1.H, nx := nx1, df := [] } { a' with defers := [] } := ⟨rfl, fun t => Rep.abides ab _ (hr'.tm t), h5, rfl, hr'.G.abides ab⟩
      obtain ⟨v, hv, hrv⟩ := results_run h3 hr1 hx
      exact ⟨v, hv, c1, c1.H, nx1, hext.trans h2, h3, rfl, hus, h5, hle1, .inl ⟨x, v, rfl, hrv, hR⟩⟩
    | pan x r =>
      obtain ⟨v, e1, hv⟩ := h7
      subst e1
      cases r with
      | true => exact h8.elim
      | false => exact ⟨c1, c1.H, nx1, hext.trans h2, h3, rfl, hus, h5, hle1, .inr ⟨x, v, rfl, hv, h8⟩⟩
  cases ve with
  | normal => have e1 : e = .normal := he; subst e1; exact finish .ret .returning rfl hq
  | ret => have e1 : e = .ret := he; subst e1; exact finish .ret .returning rfl hq
  | exit id => exact hq.elim
  | goto l => exact hq.elim
  | panic x =>
    obtain ⟨v, e1, hv⟩ := he
    subst e1
    exact finish (.pan x false) (.panicking [{ v, recovered := false }]) ⟨v, rfl, hv⟩ hq

/-- The statement 'defer', not within a round. -/
theorem SStep.defer {P : Program} {G : Glob} {n : Nat} {ops : Array Oper} {base i : Nat} {o : Oper} {st : St} {K : St → Prop} {Qp : VV → St → Prop} {k : Call} {fo : Operand} {f : Fn} {first captured : List VV} (hrg : G.rg = some none)
    (ho : ops[i]? = some o) (hd : dstsOk n ops = true) (hw : wantV ops st.tm o = some true) (hop : o.op = .defer k) (hk : k.callee = .value fo) (hf : st.ρ G fo = .fn f first captured)
    (h : K { st.put o.dst (.lit undef) with df := .fn f captured (first ++ k.args.toList.map (st.ρ G)) :: st.df }) : SStep P G n ops base i st K Qp := by
  intro ro c W a Kr Q hro s hr hs hγ hnx kk kp
  have hro' : ro = none := by unfold RoOk at hro; rw [hrg] at hro; exact hro
  subst hro'
  unfold wpOpIn
  simp only [ho]
  rw [if_pos (wantV_sound hr.tm hw)]
  refine ⟨fun _ _ => trivial, ?_⟩
  have hfr := hr.eval fo
  rw [hf] at hfr
  obtain ⟨l1, l2, hfv, hl1, hl2⟩ := hfr
  have hargs := repL_ρ hr.eval k.args.toList
  have hrun : (execOp a.eval o).run P W = .ok (.defer { target := .fn f ⟨l2⟩, args := ⟨l1 ++ k.args.toList.map a.eval⟩ }) W := by
    have e : (⟨l1⟩ ++ k.args.map a.eval : Array Value) = ⟨l1 ++ k.args.toList.map a.eval⟩ := by apply Array.ext'; simp
    simp only [execOp, hop, resolve, hk, Deferred.ofValue, hfv, pure_bind, e, Sem.run_pure]
  show Oper.uponIn _ _ _ _ _ _ _ ((Oper.semAt none a.eval o).run P W)
  rw [Oper.semAt_none, hrun, Oper.uponIn_defer]
  have hdd : ∀ d, o.dst = some d → d < a.tmps.size := fun d hd' => by rw [hs]; exact dstsOk_spec hd ho d hd'
  refine kk _ W c { st.put o.dst (.lit undef) with df := .fn f captured (first ++ k.args.toList.map (st.ρ G)) :: st.df } (Ext.refl c W) s ?_ (by simpa using hs) (fun _ h => .inl h) (by simp) h
  refine ⟨by simpa using hr.H, ?_, by simpa using hr.nx, ?_, hr.G⟩
  · have := rep_put (a := { a with defers := { target := .fn f ⟨l2⟩, args := ⟨l1 ++ k.args.toList.map a.eval⟩ } :: a.defers }) (st := st) (dst := o.dst) (x := .lit undef) (v := undef) hr.tm hdd rfl
    exact this
  · rw [defers_put]
    exact ⟨_, _, rfl, ⟨l2, _, rfl, hl2, RepL.append hl1 hargs⟩, hr.df⟩
end Go.V
end
section
/- Calls whose arguments are objects: they are shown their contents. -/
namespace Go.V
open Go

/-- What a value shows, down to some depth. -/
def showV (H : Nat → Option VObj) : Nat → VV → VV
  | 0, x => x
  | d + 1, x => match x with
    | .ref β off len es cp => match H β with
      | some (.cells _ cs) => if off ≤ cs.length then .sl (((cs.drop off).take (len * es)).map (showV H d)) len false else .ref β off len es cp
      | _ => .ref β off len es cp
    | .agg cs => .agg (cs.map (showV H d))
    | .tup cs => .tup (cs.map (showV H d))
    | x => x

theorem repL_mapG {c c' : Ctx} {W : World} {g : VV → VV} : ∀ (xs : List VV) {l : List Value}, treeL (xs.map g) = true → (∀ x ∈ xs, ∀ v, (g x).tree = true → Rep c W x v → Rep c' W (g x) v) → RepL c W xs l → RepL c' W (xs.map g) l
  | [], _, _, _, h => h
  | x :: xs, _, ht, hg, ⟨u, us, e, h1, h2⟩ => by
    simp only [List.map_cons, treeL, Bool.and_eq_true] at ht
    exact ⟨u, us, e, hg x (List.mem_cons_self ..) u ht.1 h1, repL_mapG xs ht.2 (fun y hy => hg y (List.mem_cons_of_mem _ hy)) h2⟩

theorem show_rep {c : Ctx} {W : World} (s : Sim c W) : ∀ (d : Nat) (x : VV) (v : Value), (showV c.H d x).tree = true → Rep c W x v → Rep (PCtx (heldIn c c.H)) W (showV c.H d x) v
  | 0, x, v, ht, h => rep_held ht h
  | d + 1, x, v, ht, h => by
    cases x with
    | ref β off len es cp =>
      simp only [showV] at ht ⊢
      cases hβ : c.H β with
      | none => rw [hβ] at ht; cases ht
      | some o =>
        rw [hβ] at ht
        cases o with
        | cells el cs =>
          by_cases hle : off ≤ cs.length
          · simp only [if_pos hle] at ht ⊢
            obtain ⟨cap, hv, hcap, _, _⟩ := h.2 (by simp [Ctx.live, hβ])
            obtain ⟨l, hl, hcell⟩ := RepC.list (RepC.take (len * es) (RepC.drop off (RepC.of_obj s hβ)))
            exact ⟨_, cap, hv, hcap, fun h => by simp at h, .inr ⟨_, _, rfl, .inr ⟨β, by simp [hβ], rfl⟩, RepC.of_cells (repL_mapG _ ht (fun y _ u hy hr => show_rep s d y u hy hr) hl) (fun i u hu => by have := hcell i u hu; simpa using this)⟩⟩
          · simp only [if_neg hle] at ht; cases ht
        | _ => cases ht
    | agg cs =>
      obtain ⟨l, rfl, hl⟩ := h
      exact ⟨l, rfl, repL_mapG _ ht (fun y _ u hy hr => show_rep s d y u hy hr) hl⟩
    | tup cs =>
      obtain ⟨l, rfl, hl⟩ := h
      exact ⟨l, rfl, repL_mapG _ ht (fun y _ u hy hr => show_rep s d y u hy hr) hl⟩
    | _ => exact rep_held ht h

theorem showL_rep {c : Ctx} {W : World} (s : Sim c W) (d : Nat) (xs : List VV) {l : List Value} (ht : treeL (xs.map (showV c.H d)) = true) (h : RepL c W xs l) : RepL (PCtx (heldIn c c.H)) W (xs.map (showV c.H d)) l :=
  repL_mapG xs ht (fun y _ u hy hr => show_rep s d y u hy hr) h

theorem SStep.shown {P : Program} {G : Glob} {n : Nat} {ops : Array Oper} {base i : Nat} {o : Oper} {st : St} {K : St → Prop} {Qp : VV → St → Prop} {f : FuncId} {args : List VV} {x : VV} (hi : ops[i]? = some o) (hdst : dstsOk n ops = true)
    (hw : wantV ops st.tm o = some true) (hf : callee? G st o.op = some (f, args)) (hse : treeL (args.map (showV st.H 3)) = true) (hp : VPure P G f (args.map (showV st.H 3)) (.tree x)) (hfl : x.flat = true) (hk : K (st.put o.dst x)) : SStep P G n ops base i st K Qp := by
    intro ro c W a Kr Q _ s hr hsz hγ hnx k0 _
    have hd : ∀ d, o.dst = some d → d < a.tmps.size := by rw [hsz]; exact dstsOk_spec hdst hi
    have k : ∀ a' W' c', Ext c W c' W' → Sim c' W' → StRep G c' W' (st.put o.dst x) a' → a'.tmps.size = a.tmps.size → (∀ β, c'.used β → c.used β ∨ β = base + i) → Kr a' W' := fun a' W' c' he hs' hr' hz hu =>
      k0 a' W' c' _ he hs' hr' (hz.trans hsz) (fun β hb => (hu β hb).imp id .inl) (by cases o.dst <;> exact Nat.le_refl _) hk
    unfold wpOpIn
    simp only [hi]
    rw [if_pos (wantV_sound hr.tm hw)]
    obtain ⟨vs, hvs, hrun, hnd⟩ := callee_run hr hf hp.1
    rw [← hr.H] at hse
    have hvs' := showL_rep s 3 args hse hvs
    rw [← hr.H] at hp
    have hA : ∀ b, heldIn c c.H b → b < W.heap.size := by
      rintro b (h | ⟨β, hl, e⟩)
      · exact s.ltA b h
      · exact e ▸ s.lt β hl
    have hG : GOk G (PCtx (heldIn c c.H)) W := hr.G.tree.abides (abides_of_p (fun b hb => Or.inl hb))
    refine ⟨fun _ _ => trivial, ?_⟩
    rw [Oper.semAt_eq _ _ _ hnd, hrun, Oper.uponIn_enter]
    refine ⟨fun h => (by cases h), callsIn_fw ((hp.2 _ W vs hA hG hvs').mono ?_)⟩
    · rintro e W' ⟨A0, g1, g2, g3, hb, v, rfl, hx0⟩
      have h1 : ∀ b, c.A b → c.A b := fun _ h => h
      have h2 : ∀ b, c.A b → c.A b ∨ W.heap.size ≤ b := fun _ h => .inl h
      have h3 : ∀ b, c.A b → b < W'.heap.size := fun b hA => Nat.lt_of_lt_of_le (s.ltA b hA) hb.size
      have he := Ext.more h1 h2 hb
      have hs := Sim.more s h1 h2 h3 hb
      refine k _ W' (c.more c.A) he hs ?_ (by simp) (fun _ h => .inl h)
      have := hr.step (he.abides s) (dst := o.dst) (x := x) (v := v) (H' := st.H) hr.H (rep_flat hfl hx0) hd hr.nx
      cases hdst : o.dst <;> rw [hdst] at this <;> exact this

theorem SStep.shownOwn {P : Program} {G : Glob} {n : Nat} {ops : Array Oper} {base i : Nat} {o : Oper} {st : St} {K : St → Prop} {Qp : VV → St → Prop} {f : FuncId} {args cs : List VV} {len es : Nat} (hi : ops[i]? = some o) (hdst : dstsOk n ops = true)
    (hw : wantV ops st.tm o = some true) (hf : callee? G st o.op = some (f, args)) (hse : treeL (args.map (showV st.H 3)) = true) (hp : VPure P G f (args.map (showV st.H 3)) (.own cs len es)) (hfl : flatL cs = true)
    (hk : K { st.put o.dst (.ref (base + i) 0 len es len) with H := (VEff.new (.cells none cs)).app (base + i) st.H }) : SStep P G n ops base i st K Qp := by
    intro ro c W a Kr Q _ s hr hsz hγ hnx k0 _
    have hd : ∀ d, o.dst = some d → d < a.tmps.size := by rw [hsz]; exact dstsOk_spec hdst hi
    have k : ∀ a' W' c', Ext c W c' W' → Sim c' W' → StRep G c' W' { st.put o.dst (.ref (base + i) 0 len es len) with H := (VEff.new (.cells none cs)).app (base + i) st.H } a' → a'.tmps.size = a.tmps.size → (∀ β, c'.used β → c.used β ∨ β = base + i) → Kr a' W' := fun a' W' c' he hs' hr' hz hu =>
      k0 a' W' c' _ he hs' hr' (hz.trans hsz) (fun β hb => (hu β hb).imp id .inl) (by cases o.dst <;> exact Nat.le_refl _) hk
    unfold wpOpIn
    simp only [hi]
    rw [if_pos (wantV_sound hr.tm hw)]
    obtain ⟨vs, hvs, hrun, hnd⟩ := callee_run hr hf hp.1
    rw [← hr.H] at hse
    have hvs' := showL_rep s 3 args hse hvs
    rw [← hr.H] at hp
    have hA : ∀ b, heldIn c c.H b → b < W.heap.size := by
      rintro b (h | ⟨β, hl, e⟩)
      · exact s.ltA b h
      · exact e ▸ s.lt β hl
    have hG : GOk G (PCtx (heldIn c c.H)) W := hr.G.tree.abides (abides_of_p (fun b hb => Or.inl hb))
    refine ⟨fun _ _ => trivial, ?_⟩
    rw [Oper.semAt_eq _ _ _ hnd, hrun, Oper.uponIn_enter]
    refine ⟨fun h => (by cases h), callsIn_fw ((hp.2 _ W vs hA hG hvs').mono ?_)⟩
    · rintro e W' ⟨A0, g1, g2, g3, hb, b, arr, elem, cap, rfl, q1, q2, q3, q40, q5, q6, q7, q80⟩
      have h1 : ∀ b, c.A b → c.A b := fun _ h => h
      have h2 : ∀ b, c.A b → c.A b ∨ W.heap.size ≤ b := fun _ h => .inl h
      have h3 : ∀ b, c.A b → b < W'.heap.size := fun b hA => Nat.lt_of_lt_of_le (s.ltA b hA) hb.size
      have q4 : ¬ c.A b := fun h => by have := s.ltA b h; omega
      have q8 : RepL (PCtx c.A) W' cs (arr.toList.take cs.length) := repL_flat hfl q80
      have he := Ext.more h1 h2 hb
      have hs := Sim.more s h1 h2 h3 hb
      have hγ' : ¬ (c.more c.A).used (base + i) := hγ
      have hbut : But W' W' b := But.refl W' b
      have e1 : Ext c W ((c.more c.A).push c.H (base + i) (.cells none cs) b arr.size) W' :=
        { Ext.push (c := c) (SubHeap.refl _) hγ (.inl q2) ⟨fun k hk _ => hb.block k hk, hb.size, hb.os, hb.tape, hb.output⟩ with A := h1, newA := fun b hA => (h2 b hA).imp id .inl }
      have s1 : Sim ((c.more c.A).push c.H (base + i) (.cells none cs) b arr.size) W' := by
        have ab1 : Abides (c.more c.A) W' ((c.more c.A).push c.H (base + i) (.cells none cs) b arr.size) W' :=
          ⟨fun _ h => h, fun _ _ => rfl, fun _ h => .inr h, fun β hu hl => by
            rcases Ctx.push_live hl with e | ⟨_, h⟩
            · exact absurd (e ▸ hu) hγ'
            · exact h, fun β hu _ => by
            have : β ≠ base + i := fun e => hγ' (e ▸ hu)
            simp [Ctx.push, this], fun β hu _ => by
            have : β ≠ base + i := fun e => hγ' (e ▸ hu)
            simp [Ctx.push, this]⟩
        refine ⟨fun β hl => ?_, fun β ob hob => ?_, fun β hl => ?_, fun β hl => ?_, fun β δ hl hl' e => ?_, h3⟩
        · rcases Ctx.push_live hl with e | ⟨_, h⟩
          · exact .inl e
          · exact .inr (s.used β h)
        · by_cases e : β = base + i
          · subst e
            simp [Ctx.push] at hob
            subst hob
            exact ⟨arr, elem, by simpa [Ctx.push] using q5, by simp [Ctx.push], q7, RepL.abides (abides_of_p (fun _ h => h)) _ q8, fun _ h => by cases h⟩
          · have hob' : c.H β = some ob := by simpa [Ctx.push, e] using hob
            have hl : c.live β := by simp [Ctx.live, hob']
            refine (hs.obj β ob hob').abides ab1 (s.used β hl) (by simp [Ctx.live, Ctx.push, e, hob']) rfl ?_
            intro st pe tm ps as bo df e'
            subst e'
            obtain ⟨ds, hds⟩ := s.loopOk hob'
            by_cases e2 : df = base + i
            · exact absurd (e2 ▸ s.used df (by simp [Ctx.live, hds])) hγ
            · exact ⟨ds, by simpa [Ctx.push, e2] using hds⟩
        · rcases Ctx.push_live hl with e | ⟨e, h⟩
          · simpa [Ctx.push, e] using q3
          · simp only [Ctx.push, e, if_false]; exact hs.lt β h
        · rcases Ctx.push_live hl with e | ⟨e, h⟩
          · simp only [Ctx.push, e, if_true]; exact q4
          · simp only [Ctx.push, e, if_false]; exact hs.notA β h
        · rcases Ctx.push_live hl with ex | ⟨ex, hx⟩ <;> rcases Ctx.push_live hl' with ey | ⟨ey, hy⟩
          · rw [ex, ey]
          · simp [Ctx.push, ex, ey] at e
            have := s.lt δ hy
            have e' : b = c.φ δ := e
            omega
          · simp [Ctx.push, ex, ey] at e
            have := s.lt β hx
            have e' : c.φ β = b := e
            omega
          · simp [Ctx.push, ex, ey] at e; exact s.inj β δ hx hy e
      refine k _ W' _ e1 s1 ?_ (by simp) (fun β h => h.symm)
      refine hr.step (e1.abides s) (H' := (VEff.new (.cells none cs)).app (base + i) st.H) ?_ ?_ hd ?_
      · rw [← hr.H]; rfl
      · exact rep_ref_push q1 q6 q1
      · intro β hb
        rcases hb with h | h
        · rw [h]; exact hnx
        · exact hr.nx β h

end Go.V
end
