/- Part of a proof. -/
import Derived.Test.YtekhjalgmlflpaaGreatDoorZae
import Derived.RecoverIn
set_option linter.all false
section
namespace Go.V
open Go
inductive VMode where
 | ret
 | pan (x : VV) (recovered : Bool)
def MRep (c : Ctx) (W : World) : VMode → FrameMode → Prop
 | .ret, u => u = .returning
 | .pan x r, u => ∃ v, u = .panicking [{ v, recovered := r }] ∧ Rep c W x v
theorem MRep.abides {c c' : Ctx} {W W' : World} (ab : Abides c W c' W') : ∀ {u : VMode} {u0 : FrameMode}, MRep c W u u0 → MRep c' W' u u0
 | .ret, _, h => h
 | .pan _ _, _, ⟨v, e, h⟩ => ⟨v, e, Rep.abides ab _ h⟩
theorem MRep.notRun {c : Ctx} {W : World} : ∀ {u : VMode} {u0 : FrameMode}, MRep c W u u0 → u0 ≠ .run
 | .ret, _, h => by rw [show _ = _ from h]; simp
 | .pan _ _, _, ⟨v, e, _⟩ => by rw [e]; simp
def settleV : VMode → VMode
 | .pan _ true => .ret
 | u => u
theorem MRep.settle {c : Ctx} {W : World} : ∀ {u : VMode} {u0 : FrameMode}, MRep c W u u0 → MRep c W (settleV u) (settle u0)
 | .ret, _, h => by rw [show _ = _ from h]; rfl
 | .pan x true, _, ⟨v, e, h⟩ => by rw [e]; rfl
 | .pan x false, _, ⟨v, e, h⟩ => by rw [e]; exact ⟨v, rfl, h⟩
def recoverV : VMode → VV × VMode
 | .pan x false => (x, .pan x true)
 | u => (.lit .nilIface, u)
def LiftS (G : Glob) (n eA : Nat) (c0 : Ctx) (W0 : World) (fr : Frame) (cs : List Frame) (Q : VExit → VMode → St → Prop) : Exit → Act → List Frame → World → Prop := fun e a cs' W =>
 ∃ ve c st u u0, cs' = { fr with mode := u0 } :: cs ∧ MRep c W u u0 ∧ ERep c W ve e ∧ Ext c0 W0 c W ∧ Sim c W ∧ StRep G c W st a ∧ a.tmps.size = n ∧ (∀ β, c.used β → c0.used β ∨ eA ≤ β) ∧ eA ≤ st.nx ∧ Q ve u st
def VWpS (P : Program) (G : Glob) (n : Nat) (code : Code) (Q : VExit → VMode → St → Prop) (u : VMode) (st : St) : Prop :=
 ∀ fr cs c W a u0, MRep c W u u0 → Sim c W → StRep G c W st a → a.tmps.size = n → code.wpSIn Fence.wide 0 P (LiftS G n st.nx c W fr cs Q) a ({ fr with mode := u0 } :: cs) W
section rules
variable {P : Program} {G : Glob} {n : Nat} {Q : VExit → VMode → St → Prop} {u : VMode} {st : St}
theorem VWpS.of {code : Code} (hrg : G.rg = some none) (h : VWp P G n code (fun e s => Q e u s) st) : VWpS P G n code Q u st := by
 intro fr cs c W a u0 hu s hr hs
 refine wpSIn_of_wpIn rfl (wpIn_mono (h none c W a (by unfold RoOk; rw [hrg]) s hr hs) ?_)
 rintro e a' W' ⟨ve, c', st', h1, h2, h3, h4, h5, h6, h7, h8⟩
 exact ⟨ve, c', st', u, u0, rfl, hu.abides (h2.abides s), h1, h2, h3, h4, h5, h6, h7, h8⟩
theorem LiftS.of_ext {eA bl : Nat} {c0 c1 : Ctx} {W0 W1 : World} {e : Exit} {a : Act} {W : World} {fr : Frame} {cs cs' : List Frame} (he : Ext c0 W0 c1 W1) (hu : ∀ β, c1.used β → c0.used β ∨ eA ≤ β) (hle : eA ≤ bl)
  (h : LiftS G n bl c1 W1 fr cs Q e a cs' W) : LiftS G n eA c0 W0 fr cs Q e a cs' W := by
 obtain ⟨ve, c, st, u, u0, h0, hm, h1, h2, h3, h4, h5, h6, h7, h8⟩ := h
 refine ⟨ve, c, st, u, u0, h0, hm, h1, he.trans h2, h3, h4, h5, fun β hb => ?_, Nat.le_trans hle h7, h8⟩
 rcases h6 β hb with h | h
 ·exact hu β h
 ·exact .inr (Nat.le_trans hle h)
def VExit.thenS (next : VMode → St → Prop) (Q : VExit → VMode → St → Prop) : VExit → VMode → St → Prop
 | .normal, u, st => next u st
 | e, u, st => Q e u st
theorem LJ {F : Fence} {m : Nat} {code : Code} {R R' : Exit → Act → List Frame → World → Prop} {a : Act} {cs : List Frame} {w : World} (h : code.wpSIn F m P R a cs w) (hR : ∀ e a cs w, R e a cs w → R' e a cs w) : code.wpSIn F m P R' a cs w :=
 fun b k h1 h2 h3 h4 => let ⟨e, a', cs', w', g1, g2, g3⟩ := h b k h1 h2 h3 h4; ⟨e, a', cs', w', g1, hR _ _ _ _ g2, g3⟩
theorem VWpS.seq {x y : Code} (h : VWpS P G n x (VExit.thenS (VWpS P G n y Q) Q) u st) : VWpS P G n (.seq x y) Q u st := by
 intro fr cs c W a u0 hu s hr hs
 refine wpSIn_seq (LJ (h fr cs c W a u0 hu s hr hs) ?_)
 rintro e a' cs' W' ⟨ve, c', st', u', u0', rfl, hm, h1, h2, h3, h4, h5, h6, h7, h8⟩
 cases ve with
 | normal =>
  have e1 : e = .normal := h1
  subst e1
  exact LJ (h8 fr cs c' W' a' u0' hm h3 h4 h5) fun _ _ _ _ hl => hl.of_ext h2 h6 h7
 | exit id => have e1 : e = .exit id := h1; subst e1; exact ⟨_, c', st', u', u0', rfl, hm, h1, h2, h3, h4, h5, h6, h7, h8⟩
 | goto l => have e1 : e = .goto l := h1; subst e1; exact ⟨_, c', st', u', u0', rfl, hm, h1, h2, h3, h4, h5, h6, h7, h8⟩
 | ret => have e1 : e = .ret := h1; subst e1; exact ⟨_, c', st', u', u0', rfl, hm, h1, h2, h3, h4, h5, h6, h7, h8⟩
 | panic x =>
  obtain ⟨v, e1, hv⟩ := h1
  subst e1
  exact ⟨.panic x, c', st', u', u0', rfl, hm, ⟨v, rfl, hv⟩, h2, h3, h4, h5, h6, h7, h8⟩
def VOps (P : Program) (G : Glob) (ops : Array Oper) (base : Nat) (K : St → Prop) : List Nat → St → Prop
 | [], st => K st
 | i :: l, st => ∃ o, ops[i]? = some o ∧ ((aM ops st.tm o = some false ∧ VOps P G ops base K l (st.put o.dst (.lit undef))) ∨
   (aM ops st.tm o = some true ∧ ∃ x eff, vop P o (st.ρ G) st.H (base + i) = some (x, eff) ∧ VOps P G ops base K l { st.put o.dst x with H := eff.app (base + i) st.H }))
theorem LK {ops : Array Oper} {base : Nat} {eA : Nat} {c0 : Ctx} {W0 : World} {fr : Frame} {cs : List Frame} {u0 : FrameMode} (hd : dstsOk n ops = true) : ∀ (l : List Nat) (st : St) (c : Ctx) (W : World) (a : Act),
  VOps P G ops base (fun s => Q .normal u s) l st → l.Nodup → (∀ i ∈ l, i < ops.size) → base + ops.size ≤ st.nx → eA ≤ base → MRep c W u u0 → Sim c W → StRep G c W st a → a.tmps.size = n → (∀ i ∈ l, ¬ c.used (base + i)) →
  Ext c0 W0 c W → (∀ β, c.used β → c0.used β ∨ eA ≤ β) → wpOpsSIn Fence.wide 0 P ops (LiftS G n eA c0 W0 fr cs Q) l a ({ fr with mode := u0 } :: cs) W
 | [], st, c, W, a, h, _, _, hb, hn, hu, s, hr, hs, _, he, hus => ⟨.normal, c, st, u, u0, rfl, hu, rfl, he, s, hr, hs, hus, by omega, h⟩
 | i :: l, st, c, W, a, h, hnd, hlt, hb, hn, hu, s, hr, hs, hf, he, hus => by
  obtain ⟨o, ho, h⟩ := h
  have hi := hlt i (List.mem_cons_self ..)
  rw [List.nodup_cons] at hnd
  have hdd : ∀ d, o.dst = some d → d < a.tmps.size := fun d hd' => by rw [hs]; exact oA hd ho d hd'
  simp only [wpOpsSIn, ho]
  refine ⟨fun _ _ => trivial, ?_⟩
  rcases h with ⟨hw, h⟩ | ⟨hw, x, eff, hv, h⟩
  ·have hw' := lk hr.tm hw
   rw [if_neg (by rw [hw']; simp)]
   have hst := hr.step (w7 rfl) (dst := o.dst) (x := .lit undef) (v := undef) (H' := st.H) hr.H rfl hdd hr.nx
   have hst' : StRep G c W (st.put o.dst (.lit undef)) (a.put o.dst undef) := by cases hdst : o.dst <;> rw [hdst] at hst <;> exact hst
   exact LK hd l _ c W _ h hnd.2 (fun j hj => hlt j (List.mem_cons_of_mem _ hj)) (by simpa using hb) hn hu s hst' (by simpa using hs) (fun j hj => hf j (List.mem_cons_of_mem _ hj)) he hus
  ·have hw' := lk hr.tm hw
   rw [if_pos hw']
   rw [← hr.H] at hv
   obtain ⟨r, v, W', c', hrun, hrv, hx, he', hs', hH, hu'⟩ := RZ s (hf i (List.mem_cons_self ..)) hr.eval hv
   have hr' := hr.step (he'.abides s) (by rw [hH, hr.H]) hx hdd (fun β hb' => by
    rcases hu' β hb' with h | h
    ·exact hr.nx β h
    ·omega)
   have go : wpOpsSIn Fence.wide 0 P ops (LiftS G n eA c0 W0 fr cs Q) l (a.put o.dst v) ({ fr with mode := u0 } :: cs) W' := by
    refine LK hd l _ c' W' _ h hnd.2 (fun j hj => hlt j (List.mem_cons_of_mem _ hj)) ?_ hn (hu.abides (he'.abides s)) hs' hr' (by simpa using hs) (fun j hj hbad => ?_) (he.trans he') (fun β hb' => ?_)
    ·show base + ops.size ≤ (st.put o.dst x).nx
     simpa using hb
    ·rcases hu' _ hbad with h | h
     ·exact hf j (List.mem_cons_of_mem _ hj) h
     ·have : j = i := by omega
      exact hnd.1 (this ▸ hj)
    ·rcases hu' β hb' with h | h
     ·exact hus β h
     ·right; omega
   rw [hrun]
   rcases hrv with rfl | ⟨rfl, rfl⟩
   ·exact go
   ·exact go
theorem VWpS.recover {id : Nat} {ops : Array Oper} {o : Oper} {as : Array Operand} {ats : Array TypeId} (hd : dstsOk n ops = true) (ho : ops[0]? = some o) (hg : o.guard = none) (hop : o.op = .call ⟨.builtin .recover, as, ats⟩)
  (h : VOps P G ops st.nx (fun s => Q .normal (recoverV u).2 s) (List.range' 1 (ops.size - 1)) { st.put o.dst (recoverV u).1 with nx := st.nx + ops.size }) : VWpS P G n (.region id ops false) Q u st := by
 intro fr cs c W a u0 hu s hr hs
 refine wpSIn_region ?_
 have hpos : 0 < ops.size := (Array.getElem?_eq_some_iff.1 ho).1
 have hrng : List.range ops.size = 0 :: List.range' 1 (ops.size - 1) := by
  rw [List.range_eq_range']
  obtain ⟨m, hm⟩ : ∃ m, ops.size = m + 1 := ⟨ops.size - 1, by omega⟩
  rw [hm]; rfl
 rw [hrng]
 simp only [wpOpsSIn, ho]
 refine ⟨fun _ _ => trivial, ?_⟩
 have hw : Region.wanted o (yielded ops a.tmps) = true := by simp [Region.wanted, hg]
 rw [if_pos hw]
 have hrun : (execOp a.eval o).run P W = .ok .recover W := by
  simp [execOp, hop, resolve, invoke, builtin]
 rw [hrun]
 have hdd : ∀ d, o.dst = some d → d < a.tmps.size := fun d hd' => by rw [hs]; exact oA hd ho d hd'
 have go : ∀ (x : VV) (v : Value) (u1 : VMode) (om : FrameMode), Rep c W x v → MRep c W u1 om → VOps P G ops st.nx (fun s => Q .normal u1 s) (List.range' 1 (ops.size - 1)) { st.put o.dst x with nx := st.nx + ops.size } →
   wpOpsSIn Fence.wide 0 P ops (LiftS G n st.nx c W fr cs Q) (List.range' 1 (ops.size - 1)) (a.put o.dst v) ({ fr with mode := om } :: cs) W := by
  intro x v u1 om hx ny hv
  have h0 : StRep G c W { st.put o.dst x with nx := st.nx + ops.size } (a.put o.dst v) := by
   refine ⟨by simpa using hr.H, ?_, fun β hb => Nat.lt_of_lt_of_le (hr.nx β hb) (Nat.le_add_right _ _), ?_, hr.G⟩
   ·exact xv (st := st) (dst := o.dst) hr.tm hdd hx
   ·rw [xw]
    cases o.dst <;> exact hr.df
  refine LK hd _ _ c W _ hv List.nodup_range' (fun i hi => ?_) (Nat.le_refl _) (Nat.le_refl _) ny s h0 (by simpa using hs) (fun i _ hb => ?_) (Ext.refl c W) (fun _ h => .inl h)
  ·rw [List.mem_range'] at hi; omega
  ·have := hr.nx _ hb; omega
 cases u with
 | ret =>
  have e : u0 = .returning := hu
  subst e
  exact go (.lit .nilIface) .nilIface .ret _ rfl hu h
 | pan x r =>
  obtain ⟨v, e, hv⟩ := hu
  subst e
  cases r with
  | false => exact go x v (.pan x true) _ hv ⟨v, rfl, hv⟩ h
  | true => exact go (.lit .nilIface) .nilIface (.pan x true) _ rfl ⟨v, rfl, hv⟩ h
end rules
def VDeferred (P : Program) (G : Glob) (f : FuncId) (args : List VV) (H : Nat → Option VObj) (nx : Nat) (u : VMode) (R : VMode → (Nat → Option VObj) → Nat → Prop) : Prop :=
 Callable P f ∧ ∀ c W vs u0, Sim c W → c.H = H → (∀ β, c.used β → β < nx) → GOk G c W → RepL c W args vs → MRep c W u u0 →
  CallsDIn Fence.wide 0 P f ⟨vs⟩ u0 W fun e u0' W' => ∃ v c' H' nx' u', e = .returned v ∧ Ext c W c' W' ∧ Sim c' W' ∧ c'.H = H' ∧ (∀ β, c'.used β → c.used β ∨ nx ≤ β) ∧ (∀ β, c'.used β → β < nx') ∧ nx ≤ nx' ∧ MRep c' W' u' u0' ∧ R u' H' nx'
def DPost (P : Program) (fn : Func) (R : VMode → (Nat → Option VObj) → Nat → Prop) : VExit → VMode → St → Prop
 | .ret, u, s => s.df = [] ∧ (∃ x, resV P s fn.results.toList = some x) ∧ R u s.H s.nx
 | .normal, u, s => s.df = [] ∧ (∃ x, resV P s fn.results.toList = some x) ∧ R u s.H s.nx
 | _, _, _ => False
theorem VDeferred.of_body {P : Program} {G : Glob} {f : FuncId} {fn : Func} {code : Code} {args : List VV} {H : Nat → Option VObj} {nx : Nat} {u : VMode} {R : VMode → (Nat → Option VObj) → Nat → Prop} (hc : Callable P f) (hf : P.funcs[f]? = some fn)
  (hb : fn.body = some code) (hn : args.length ≤ fn.ntmps) (h : VWpS P (G.at (some none)) fn.ntmps code (DPost P fn R) u { tm := aQ args, H, nx, df := [] }) : VDeferred P G f args H nx u R := by
 refine ⟨hc, fun c W vs u0 s hH hnx hG hargs hu => ?_⟩
 have hlen := hargs.length
 refine callsDIn_of_wpSIn hf hb trivial fun c₀ cs hmode => ?_
 have h0 := h c₀ cs c W _ u0 hu s (StRep.enter (G := G.at (some none)) (k := fn.ntmps) hH hnx hG hargs) (by simp; omega)
 have e0 : ({ c₀ with mode := u0 } : Frame) = c₀ := by subst hmode; rfl
 rw [e0] at h0
 refine LJ h0 ?_
 rintro e a' cs' W' ⟨ve, c', st', u', u0', rfl, hm, he, hext, hs', hr', hsz, hus, hle, hq⟩
 have finish : st'.df = [] ∧ (∃ x, resV P st' fn.results.toList = some x) ∧ R u' st'.H st'.nx → a'.defers = [] ∧ ∃ v, (results fn a'.tmps).run P W' = .ok v W' ∧
   ∃ v' c' H' nx' u', Ending.returned v = .returned v' ∧ Ext c W c' W' ∧ Sim c' W' ∧ c'.H = H' ∧ (∀ β, c'.used β → c.used β ∨ nx ≤ β) ∧ (∀ β, c'.used β → β < nx') ∧ nx ≤ nx' ∧ MRep c' W' u' u0' ∧ R u' H' nx' := by
  rintro ⟨hdf, ⟨x, hx⟩, hR⟩
  obtain ⟨v, hv, _⟩ := zW hs' hr' hx
  have hd := hr'.df
  rw [hdf] at hd
  exact ⟨hd, v, hv, v, c', st'.H, st'.nx, u', rfl, hext, hs', hr'.H, hus, hr'.nx, hle, hm, hR⟩
 cases ve with
 | normal =>
  have e1 : e = .normal := he
  subst e1
  obtain ⟨hd, v, hv, hR⟩ := finish hq
  exact ⟨hd, u0', rfl, v, hv, hR⟩
 | ret =>
  have e1 : e = .ret := he
  subst e1
  obtain ⟨hd, v, hv, hR⟩ := finish hq
  exact ⟨hd, u0', rfl, v, hv, hR⟩
 | exit id => exact hq.elim
 | goto l => exact hq.elim
 | panic x => exact hq.elim
def leavesK (P : Program) (G : Glob) (K : VMode → (Nat → Option VObj) → Nat → Prop) : List VDef → VMode → (Nat → Option VObj) → Nat → Prop
 | [], u, H, nx => K u H nx
 | .coll β :: ds, u, H, nx => H β = some (.deferred (some [])) ∧ leavesK P G K ds u (updH H β (.deferred none)) nx
 | .fn (.func f) cap args :: ds, u, H, nx => VDeferred P G f (args ++ cap) H nx u fun u' H' nx' => leavesK P G K ds (settleV u') H' nx'
 | _ :: _, _, _, _ => False
theorem LL {P : Program} {G : Glob} {fn : Func} {tmps : Array Value} {R : Ending → World → Prop} {K : VMode → (Nat → Option VObj) → Nat → Prop} : ∀ (df : List VDef) (ds : List Deferred) (c : Ctx) (W : World) (u : VMode) (u0 : FrameMode) (nx : Nat),
  Sim c W → RepDs c W df ds → MRep c W u u0 → (∀ β, c.used β → β < nx) → GOk G c W → leavesK P G K df u c.H nx →
  (∀ c1 W1 u1 om bl, Ext c W c1 W1 → Sim c1 W1 → (∀ β, c1.used β → c.used β ∨ nx ≤ β) → (∀ β, c1.used β → β < bl) → nx ≤ bl → MRep c1 W1 u1 om → K u1 c1.H bl → LeavesIn Fence.wide 0 P fn tmps R [] om W1) → LeavesInM Fence.wide 0 P fn tmps R ds u0 W
 | [], ds, c, W, u, u0, nx, s, hd, hu, hnx, hG, hK, h => by
  have hd' : ds = [] := hd
  subst hd'
  exact h c W u u0 nx (Ext.refl c W) s (fun _ h => .inl h) hnx (Nat.le_refl _) hu hK
 | .coll β :: df, ds, c, W, u, u0, nx, s, hd, hu, hnx, hG, hK, h => by
  obtain ⟨d, ds', rfl, ⟨hub, hdβ⟩, hds⟩ := hd
  obtain ⟨hβ, hK⟩ := hK
  have hl : c.live β := by simp [Ctx.live, hβ]
  have hW : W.heap[c.φ β]? = some (.deferred (some [])) := (s.obj β _ hβ).2
  have hget : (getObj (c.φ β)).run P W = .ok (.deferred (some [])) W := by simp [getObj, Sem.run, hW]
  have hset := zu (P := P) (o' := .deferred none) hW (by intros; simp)
  have hext : Ext c W (c.upd β (.deferred none)) { W with heap := W.heap.setIfInBounds (c.φ β) (.deferred none) } := Ext.upd hl (But.setObj W _ _)
  have hs' : Sim (c.upd β (.deferred none)) { W with heap := W.heap.setIfInBounds (c.φ β) (.deferred none) } := Sim.upd s hl (But.setObj W _ _) (fun _ => ⟨_, rfl⟩) (zw hW)
  refine ⟨hu.notRun, .inl ⟨c.φ β, _, by rw [hdβ hl], Wk hget hset, ?_⟩⟩
  exact LL df ds' _ _ u u0 nx hs' (RepDs.abides (hext.abides s) hds) (hu.abides (hext.abides s)) hnx (hG.abides (hext.abides s)) hK fun c1 W1 u1 om bl h2 h3 h4 h5 h6 h7 h8 => h c1 W1 u1 om bl (hext.trans h2) h3 h4 h5 h6 h7 h8
 | .fn (.func f) cap args :: df, ds, c, W, u, u0, nx, s, hd, hu, hnx, hG, hK, h => by
  obtain ⟨d, ds', rfl, ⟨l, m, rfl, hcap, hargs⟩, hds⟩ := hd
  refine ⟨hu.notRun, .inr ⟨fun hh => (by cases hh), .func f, ⟨l⟩, f, ⟨m ++ l⟩, rfl, ?_, fun _ _ => trivial, ?_⟩⟩
  ·have := hK.1 ⟨m ++ l⟩ W
   rw [← this]
   simp only [invoke]
   congr 2
   apply Array.ext'
   simp
  ·obtain ⟨hF, hcall⟩ := hK.2 c W (m ++ l) u0 s rfl hnx hG (RepL.append hargs hcap) hu
   refine ⟨hF, fun c₀ cs hm hroom => ?_⟩
   obtain ⟨e, u', w', fr, ⟨v, c', H', nx', uV, rfl, g1, g2, g3, g4, g5, g6, g7, g8⟩, k2, k3, k4, k5⟩ := hcall c₀ cs hm hroom
   refine ⟨.returned v, u', w', fr, ?_, k2, k3, k4, k5⟩
   subst g3
   exact LL df ds' c' w' (settleV uV) (settle u') nx' g2 (RepDs.abides (g1.abides s) hds) g7.settle g5 (hG.abides (g1.abides s)) g8 fun c1 W1 u1 om bl h2 h3 h4 h5 h6 h7 h8 =>
    h c1 W1 u1 om bl (g1.trans h2) h3 (fun β hb => by
     rcases h4 β hb with hb | hb
     ·exact g4 β hb
     ·right; omega) h5 (by omega) h7 h8
 | .fn (.method _) _ _ :: _, _, _, _, _, _, _, _, _, _, _, _, hK, _ => hK.elim
 | .fn (.methodOf ..) _ _ :: _, _, _, _, _, _, _, _, _, _, _, _, hK, _ => hK.elim
 | .fn (.via ..) _ _ :: _, _, _, _, _, _, _, _, _, _, _, _, hK, _ => hK.elim
 | .fn (.yield _) _ _ :: _, _, _, _, _, _, _, _, _, _, _, _, hK, _ => hK.elim
end Go.V
end
section
namespace Go.V
open Go
def finK (P : Program) (fn : Func) (s : St) (R Rp : VV → (Nat → Option VObj) → Nat → Prop) : VMode → (Nat → Option VObj) → Nat → Prop
 | .ret, H, nx => ∃ x, resV P { s with H := H, nx := nx, df := [] } fn.results.toList = some x ∧ R x H nx
 | .pan x false, H, nx => Rp x H nx
 | .pan _ true, _, _ => False
def OpenPostD (P : Program) (G : Glob) (fn : Func) (R Rp : VV → (Nat → Option VObj) → Nat → Prop) : VExit → St → Prop
 | .ret, s => leavesK P G (finK P fn s R Rp) s.df .ret s.H s.nx
 | .normal, s => leavesK P G (finK P fn s R Rp) s.df .ret s.H s.nx
 | .panic x, s => leavesK P G (finK P fn s R Rp) s.df (.pan x false) s.H s.nx
 | _, _ => False
theorem aE.of_bodyD {P : Program} {G : Glob} {f : FuncId} {fn : Func} {code : Code} {args : List VV} {H : Nat → Option VObj} {nx : Nat} {R Rp : VV → (Nat → Option VObj) → Nat → Prop} (hc : Callable P f) (hf : P.funcs[f]? = some fn)
  (hb : fn.body = some code) (hn : args.length ≤ fn.ntmps) (h : VWp P (G.at (some none)) fn.ntmps code (OpenPostD P G fn R Rp) { tm := aQ args, H, nx, df := [] }) : aE P G f args H nx R Rp := by
 refine ⟨hc, fun c W vs s hH hnx hG hargs => ?_⟩
 have hlen := hargs.length
 refine callsIn_of_wp_marks hf hb trivial (wpIn_mono (h none c W _ rfl s (StRep.enter (G := G.at (some none)) (k := fn.ntmps) hH hnx hG hargs) (by simp; omega)) ?_) rfl
 rintro e a' W' ⟨ve, c', st', he, hext, hs', hr', hsz, hu, hle, hq⟩
 have finish : ∀ (u : VMode) (u0 : FrameMode), MRep c' W' u u0 → leavesK P G (finK P fn st' R Rp) st'.df u st'.H st'.nx →
   LeavesInM Fence.wide 0 P fn a'.tmps (fun e W' => ∃ c' H' nx', Ext c W c' W' ∧ Sim c' W' ∧ c'.H = H' ∧ (∀ β, c'.used β → c.used β ∨ nx ≤ β) ∧ (∀ β, c'.used β → β < nx') ∧ nx ≤ nx' ∧
    ((∃ x v, e = .returned v ∧ Rep c' W' x v ∧ R x H' nx') ∨ (∃ x v, e = .panicked [{ v, recovered := false }] ∧ Rep c' W' x v ∧ Rp x H' nx'))) a'.defers u0 W' := by
  intro u u0 hm hK
  refine LL (G := G) st'.df a'.defers c' W' u u0 st'.nx hs' hr'.df hm hr'.nx (show GOk G c' W' from hr'.G) (by rw [hr'.H]; exact hK) fun c1 W1 u1 om bl h2 h3 h4 h5 h6 h7 h8 => ?_
  have ab := h2.abides hs'
  have hus : ∀ β, c1.used β → c.used β ∨ nx ≤ β := fun β hb => by
   rcases h4 β hb with hb | hb
   ·exact hu β hb
   ·right; exact Nat.le_trans hle hb
  have pb : nx ≤ bl := Nat.le_trans hle h6
  cases u1 with
  | ret =>
   have e1 : om = .returning := h7
   subst e1
   obtain ⟨x, hx, hR⟩ := h8
   have oe : StRep (G.at (some none)) c1 W1 { st' with H := c1.H, nx := bl, df := [] } { a' with defers := [] } := ⟨rfl, fun t => Rep.abides ab _ (hr'.tm t), h5, rfl, hr'.G.abides ab⟩
   obtain ⟨v, hv, hrv⟩ := zW h3 oe hx
   exact ⟨v, hv, c1, c1.H, bl, hext.trans h2, h3, rfl, hus, h5, pb, .inl ⟨x, v, rfl, hrv, hR⟩⟩
  | pan x r =>
   obtain ⟨v, e1, hv⟩ := h7
   subst e1
   cases r with
   | true => exact h8.elim
   | false => exact ⟨c1, c1.H, bl, hext.trans h2, h3, rfl, hus, h5, pb, .inr ⟨x, v, rfl, hv, h8⟩⟩
 cases ve with
 | normal => have e1 : e = .normal := he; subst e1; exact finish .ret .returning rfl hq
 | ret => have e1 : e = .ret := he; subst e1; exact finish .ret .returning rfl hq
 | exit id => exact hq.elim
 | goto l => exact hq.elim
 | panic x =>
  obtain ⟨v, e1, hv⟩ := he
  subst e1
  exact finish (.pan x false) (.panicking [{ v, recovered := false }]) ⟨v, rfl, hv⟩ hq
theorem aS.defer {P : Program} {G : Glob} {n : Nat} {ops : Array Oper} {base i : Nat} {o : Oper} {st : St} {K : St → Prop} {Qp : VV → St → Prop} {k : Call} {fo : Operand} {f : Fn} {first captured : List VV} (hrg : G.rg = some none)
  (ho : ops[i]? = some o) (hd : dstsOk n ops = true) (hw : aM ops st.tm o = some true) (hop : o.op = .defer k) (hk : k.callee = .value fo) (hf : st.ρ G fo = .fn f first captured)
  (h : K { st.put o.dst (.lit undef) with df := .fn f captured (first ++ k.args.toList.map (st.ρ G)) :: st.df }) : aS P G n ops base i st K Qp := by
 intro ro c W a Kr Q hro s hr hs hγ hnx kk kp
 have hro' : ro = none := by unfold RoOk at hro; rw [hrg] at hro; exact hro
 subst hro'
 unfold wpOpIn
 simp only [ho]
 rw [if_pos (lk hr.tm hw)]
 refine ⟨fun _ _ => trivial, ?_⟩
 have hfr := hr.eval fo
 rw [hf] at hfr
 obtain ⟨l1, l2, hfv, pa, rP⟩ := hfr
 have hargs := rM hr.eval k.args.toList
 have hrun : (execOp a.eval o).run P W = .ok (.defer { target := .fn f ⟨l2⟩, args := ⟨l1 ++ k.args.toList.map a.eval⟩ }) W := by
  have e : (⟨l1⟩ ++ k.args.map a.eval : Array Value) = ⟨l1 ++ k.args.toList.map a.eval⟩ := by apply Array.ext'; simp
  simp only [execOp, hop, resolve, hk, Deferred.ofValue, hfv, pure_bind, e, Sem.run_pure]
 show Oper.uponIn _ _ _ _ _ _ _ ((Oper.semAt none a.eval o).run P W)
 rw [Oper.semAt_none, hrun, Oper.uponIn_defer]
 have hdd : ∀ d, o.dst = some d → d < a.tmps.size := fun d hd' => by rw [hs]; exact oA hd ho d hd'
 refine kk _ W c { st.put o.dst (.lit undef) with df := .fn f captured (first ++ k.args.toList.map (st.ρ G)) :: st.df } (Ext.refl c W) s ?_ (by simpa using hs) (fun _ h => .inl h) (by simp) h
 refine ⟨by simpa using hr.H, ?_, by simpa using hr.nx, ?_, hr.G⟩
 ·have := xv (a := { a with defers := { target := .fn f ⟨l2⟩, args := ⟨l1 ++ k.args.toList.map a.eval⟩ } :: a.defers }) (st := st) (dst := o.dst) (x := .lit undef) (v := undef) hr.tm hdd rfl
  exact this
 ·rw [xw]
  exact ⟨_, _, rfl, ⟨l2, _, rfl, rP, RepL.append pa hargs⟩, hr.df⟩
def showV (H : Nat → Option VObj) : Nat → VV → VV
 | 0, x => x
 | d + 1, x => match x with
  | .ref β off len es cp => match H β with
   | some (.cells _ cs) => if off ≤ cs.length then .sl (((cs.drop off).take (len * es)).map (showV H d)) len false else .ref β off len es cp
   | _ => .ref β off len es cp
  | .agg cs => .agg (cs.map (showV H d))
  | .tup cs => .tup (cs.map (showV H d))
  | .mp β => match H β with
   | some (.map es) => .mt (es.map (·.1)) ((es.map (·.2)).map (showV H d))
   | _ => .mp β
  | x => x
theorem xJ {c c' : Ctx} {W : World} {g : VV → VV} : ∀ (xs : List VV) {l : List Value}, treeL (xs.map g) = true → (∀ x ∈ xs, ∀ v, (g x).tree = true → Rep c W x v → Rep c' W (g x) v) → RepL c W xs l → RepL c' W (xs.map g) l
 | [], _, _, _, h => h
 | x :: xs, _, ht, hg, ⟨u, us, e, h1, h2⟩ => by
  simp only [List.map_cons, treeL, Bool.and_eq_true] at ht
  exact ⟨u, us, e, hg x (List.mem_cons_self ..) u ht.1 h1, xJ xs ht.2 (fun y hy => hg y (List.mem_cons_of_mem _ hy)) h2⟩
theorem t7 {c : Ctx} {W : World} (s : Sim c W) : ∀ (d : Nat) (x : VV) (v : Value), (showV c.H d x).tree = true → Rep c W x v → Rep (PCtx (heldIn c c.H)) W (showV c.H d x) v
 | 0, x, v, ht, h => LM ht h
 | d + 1, x, v, ht, h => by
  cases x with
  | ref β off len es cp =>
   simp only [showV] at ht ⊢
   cases hβ : c.H β with
   | none => rw [hβ] at ht; cases ht
   | some o =>
    rw [hβ] at ht
    cases o with
    | cells el cs =>
     by_cases hle : off ≤ cs.length
     ·simp only [if_pos hle] at ht ⊢
      obtain ⟨cap, hv, hcap, _, _⟩ := h.2 (by simp [Ctx.live, hβ])
      obtain ⟨l, hl, hcell⟩ := RepC.list (RepC.take (len * es) (RepC.drop off (RepC.of_obj s hβ)))
      exact ⟨_, cap, hv, hcap, fun h => by simp at h, .inr ⟨_, _, rfl, .inr ⟨β, by simp [hβ], rfl⟩, RepC.of_cells (xJ _ ht (fun y _ u hy hr => t7 s d y u hy hr) hl) (fun i u hu => by have := hcell i u hu; simpa using this)⟩⟩
     ·simp only [if_neg hle] at ht; cases ht
    | _ => cases ht
  | agg cs =>
   obtain ⟨l, rfl, hl⟩ := h
   exact ⟨l, rfl, xJ _ ht (fun y _ u hy hr => t7 s d y u hy hr) hl⟩
  | tup cs =>
   obtain ⟨l, rfl, hl⟩ := h
   exact ⟨l, rfl, xJ _ ht (fun y _ u hy hr => t7 s d y u hy hr) hl⟩
  | mp β =>
   simp only [showV] at ht ⊢
   cases hβ : c.H β with
   | none => rw [hβ] at ht; cases ht
   | some o =>
    rw [hβ] at ht
    cases o with
    | map es =>
     have hv : v = .map (some (c.φ β)) := h.2 (by simp [Ctx.live, hβ])
     obtain ⟨ents, clk, h1, h2, h3⟩ := s.obj β _ hβ
     exact ⟨_, hv, .inr ⟨β, by simp [hβ], rfl⟩, ents, clk, h1, h2, xJ _ ht (fun y _ u hy hr => t7 s d y u hy hr) h3⟩
    | _ => cases ht
  | _ => exact LM ht h
theorem AJ {c : Ctx} {W : World} (s : Sim c W) (d : Nat) (xs : List VV) {l : List Value} (ht : treeL (xs.map (showV c.H d)) = true) (h : RepL c W xs l) : RepL (PCtx (heldIn c c.H)) W (xs.map (showV c.H d)) l :=
 xJ xs ht (fun y _ u hy hr => t7 s d y u hy hr) h
theorem aS.shown {P : Program} {G : Glob} {n : Nat} {ops : Array Oper} {base i : Nat} {o : Oper} {st : St} {K : St → Prop} {Qp : VV → St → Prop} {f : FuncId} {args : List VV} {x : VV} (hi : ops[i]? = some o) (hdst : dstsOk n ops = true)
  (hw : aM ops st.tm o = some true) (hf : callee? G st o.op = some (f, args)) (hse : treeL (args.map (showV st.H 3)) = true) (hp : ad P G f (args.map (showV st.H 3)) (.tree x)) (hfl : x.flat = true) (hk : K (st.put o.dst x)) : aS P G n ops base i st K Qp := by
  intro ro c W a Kr Q _ s hr hsz hγ hnx k0 _
  have hd : ∀ d, o.dst = some d → d < a.tmps.size := by rw [hsz]; exact oA hdst hi
  have k : ∀ a' W' c', Ext c W c' W' → Sim c' W' → StRep G c' W' (st.put o.dst x) a' → a'.tmps.size = a.tmps.size → (∀ β, c'.used β → c.used β ∨ β = base + i) → Kr a' W' := fun a' W' c' he hs' hr' hz hu =>
   k0 a' W' c' _ he hs' hr' (hz.trans hsz) (fun β hb => (hu β hb).imp id .inl) (by cases o.dst <;> exact Nat.le_refl _) hk
  unfold wpOpIn
  simp only [hi]
  rw [if_pos (lk hr.tm hw)]
  obtain ⟨vs, hvs, hrun, hnd⟩ := qo hr hf hp.1
  rw [← hr.H] at hse
  have hvs' := AJ s 3 args hse hvs
  rw [← hr.H] at hp
  have hA : ∀ b, heldIn c c.H b → b < W.heap.size := by
   rintro b (h | ⟨β, hl, e⟩)
   ·exact s.ltA b h
   ·exact e ▸ s.lt β hl
  have hG : GOk G (PCtx (heldIn c c.H)) W := hr.G.tree.abides (mm (fun b hb => Or.inl hb))
  refine ⟨fun _ _ => trivial, ?_⟩
  rw [Oper.semAt_eq _ _ _ hnd, hrun, Oper.uponIn_enter]
  refine ⟨fun h => (by cases h), oZ ((hp.2 _ W vs hA hG hvs').mono ?_)⟩
  ·rintro e W' ⟨A0, g1, g2, g3, hb, v, rfl, gf⟩
   have h1 : ∀ b, c.A b → c.A b := fun _ h => h
   have h2 : ∀ b, c.A b → c.A b ∨ W.heap.size ≤ b := fun _ h => .inl h
   have h3 : ∀ b, c.A b → b < W'.heap.size := fun b hA => Nat.lt_of_lt_of_le (s.ltA b hA) hb.size
   have he := Ext.more h1 h2 hb
   have hs := Sim.more s h1 h2 h3 hb
   refine k _ W' (c.more c.A) he hs ?_ (by simp) (fun _ h => .inl h)
   have := hr.step (he.abides s) (dst := o.dst) (x := x) (v := v) (H' := st.H) hr.H (Dk hfl gf) hd hr.nx
   cases hdst : o.dst <;> rw [hdst] at this <;> exact this
theorem aS.shownOwn {P : Program} {G : Glob} {n : Nat} {ops : Array Oper} {base i : Nat} {o : Oper} {st : St} {K : St → Prop} {Qp : VV → St → Prop} {f : FuncId} {args cs : List VV} {len es : Nat} (hi : ops[i]? = some o) (hdst : dstsOk n ops = true)
  (hw : aM ops st.tm o = some true) (hf : callee? G st o.op = some (f, args)) (hse : treeL (args.map (showV st.H 3)) = true) (hp : ad P G f (args.map (showV st.H 3)) (.own cs len es)) (hfl : flatL cs = true)
  (hk : K { st.put o.dst (.ref (base + i) 0 len es len) with H := (VEff.new (.cells none cs)).app (base + i) st.H }) : aS P G n ops base i st K Qp := by
  intro ro c W a Kr Q _ s hr hsz hγ hnx k0 _
  have hd : ∀ d, o.dst = some d → d < a.tmps.size := by rw [hsz]; exact oA hdst hi
  have k : ∀ a' W' c', Ext c W c' W' → Sim c' W' → StRep G c' W' { st.put o.dst (.ref (base + i) 0 len es len) with H := (VEff.new (.cells none cs)).app (base + i) st.H } a' → a'.tmps.size = a.tmps.size → (∀ β, c'.used β → c.used β ∨ β = base + i) → Kr a' W' := fun a' W' c' he hs' hr' hz hu =>
   k0 a' W' c' _ he hs' hr' (hz.trans hsz) (fun β hb => (hu β hb).imp id .inl) (by cases o.dst <;> exact Nat.le_refl _) hk
  unfold wpOpIn
  simp only [hi]
  rw [if_pos (lk hr.tm hw)]
  obtain ⟨vs, hvs, hrun, hnd⟩ := qo hr hf hp.1
  rw [← hr.H] at hse
  have hvs' := AJ s 3 args hse hvs
  rw [← hr.H] at hp
  have hA : ∀ b, heldIn c c.H b → b < W.heap.size := by
   rintro b (h | ⟨β, hl, e⟩)
   ·exact s.ltA b h
   ·exact e ▸ s.lt β hl
  have hG : GOk G (PCtx (heldIn c c.H)) W := hr.G.tree.abides (mm (fun b hb => Or.inl hb))
  refine ⟨fun _ _ => trivial, ?_⟩
  rw [Oper.semAt_eq _ _ _ hnd, hrun, Oper.uponIn_enter]
  refine ⟨fun h => (by cases h), oZ ((hp.2 _ W vs hA hG hvs').mono ?_)⟩
  ·rintro e W' ⟨A0, g1, g2, g3, hb, b, arr, elem, cap, rfl, q1, q2, q3, WY, q5, q6, q7, LN⟩
   have h1 : ∀ b, c.A b → c.A b := fun _ h => h
   have h2 : ∀ b, c.A b → c.A b ∨ W.heap.size ≤ b := fun _ h => .inl h
   have h3 : ∀ b, c.A b → b < W'.heap.size := fun b hA => Nat.lt_of_lt_of_le (s.ltA b hA) hb.size
   have q4 : ¬ c.A b := fun h => by have := s.ltA b h; omega
   have q8 : RepL (PCtx c.A) W' cs (arr.toList.take cs.length) := vJ hfl LN
   have he := Ext.more h1 h2 hb
   have hs := Sim.more s h1 h2 h3 hb
   have hγ' : ¬ (c.more c.A).used (base + i) := hγ
   have hbut : But W' W' b := But.refl W' b
   have e1 : Ext c W ((c.more c.A).push c.H (base + i) (.cells none cs) b arr.size) W' :=
    { Ext.push (c := c) (al.refl _) hγ (.inl q2) ⟨fun k hk _ => hb.block k hk, hb.size, hb.os, hb.tape, hb.output⟩ with A := h1, newA := fun b hA => (h2 b hA).imp id .inl }
   have s1 : Sim ((c.more c.A).push c.H (base + i) (.cells none cs) b arr.size) W' := by
    have rN : Abides (c.more c.A) W' ((c.more c.A).push c.H (base + i) (.cells none cs) b arr.size) W' :=
     ⟨fun _ h => h, fun _ _ => rfl, fun _ h => .inr h, fun β hu hl => by
      rcases Ctx.push_live hl with e | ⟨_, h⟩
      ·exact absurd (e ▸ hu) hγ'
      ·exact h, fun β hu _ => by
      have : β ≠ base + i := fun e => hγ' (e ▸ hu)
      simp [Ctx.push, this], fun β hu _ => by
      have : β ≠ base + i := fun e => hγ' (e ▸ hu)
      simp [Ctx.push, this]⟩
    refine ⟨fun β hl => ?_, fun β ob hob => ?_, fun β hl => ?_, fun β hl => ?_, fun β δ hl hl' e => ?_, h3⟩
    ·rcases Ctx.push_live hl with e | ⟨_, h⟩
     ·exact .inl e
     ·exact .inr (s.used β h)
    ·by_cases e : β = base + i
     ·subst e
      simp [Ctx.push] at hob
      subst hob
      exact ⟨arr, elem, by simpa [Ctx.push] using q5, by simp [Ctx.push], q7, RepL.abides (mm (fun _ h => h)) _ q8, fun _ h => by cases h⟩
     ·have hob' : c.H β = some ob := by simpa [Ctx.push, e] using hob
      have hl : c.live β := by simp [Ctx.live, hob']
      refine (hs.obj β ob hob').abides rN (s.used β hl) (by simp [Ctx.live, Ctx.push, e, hob']) rfl ?_
      intro st pe tm ps as bo df e'
      subst e'
      obtain ⟨ds, hds⟩ := s.loopOk hob'
      by_cases e2 : df = base + i
      ·exact absurd (e2 ▸ s.used df (by simp [Ctx.live, hds])) hγ
      ·exact ⟨ds, by simpa [Ctx.push, e2] using hds⟩
    ·rcases Ctx.push_live hl with e | ⟨e, h⟩
     ·simpa [Ctx.push, e] using q3
     ·simp only [Ctx.push, e, if_false]; exact hs.lt β h
    ·rcases Ctx.push_live hl with e | ⟨e, h⟩
     ·simp only [Ctx.push, e, if_true]; exact q4
     ·simp only [Ctx.push, e, if_false]; exact hs.notA β h
    ·rcases Ctx.push_live hl with ex | ⟨ex, hx⟩ <;> rcases Ctx.push_live hl' with ey | ⟨ey, hy⟩
     ·rw [ex, ey]
     ·simp [Ctx.push, ex, ey] at e
      have := s.lt δ hy
      have e' : b = c.φ δ := e
      omega
     ·simp [Ctx.push, ex, ey] at e
      have := s.lt β hx
      have e' : c.φ β = b := e
      omega
     ·simp [Ctx.push, ex, ey] at e; exact s.inj β δ hx hy e
   refine k _ W' _ e1 s1 ?_ (by simp) (fun β h => h.symm)
   refine hr.step (e1.abides s) (H' := (VEff.new (.cells none cs)).app (base + i) st.H) ?_ ?_ hd ?_
   ·rw [← hr.H]; rfl
   ·exact rF q1 q6 q1
   ·intro β hb
    rcases hb with h | h
    ·rw [h]; exact hnx
    ·exact hr.nx β h
def openK (P : Program) (G : Glob) (f : FuncId) (args : List VV) (st : St) (dst : Option Tmp) (K : St → Prop) (Qp : VV → St → Prop) : Prop :=
 aE P G f args st.H st.nx (fun x H' nx' => K { st.put dst x with H := H', nx := nx' }) (fun x H' nx' => Qp x { st with H := H', nx := nx' })
def yieldK (P : Program) (G : Glob) (o : Oper) (β : Nat) (args : List VV) (st : St) (K : St → Prop) : Prop :=
 match st.H β with
 | some (.loop .ready _ tm ps as bo _) => args.length = ps.size ∧ VWp P (G.at (some (some β))) tm.length as (RoundStart P G tm.length β bo o st K) { tm := aQ (roundTm tm ps.toList args), H := st.H, nx := st.nx, df := [] }
 | _ => False
def deferK (G : Glob) (o : Oper) (x : VV) (args : List VV) (st : St) (K : St → Prop) : Prop :=
 match x with
 | .fn f first captured => G.rg = some none ∧ K { st.put o.dst (.lit undef) with df := .fn f captured (first ++ args) :: st.df }
 | _ => False
def callK (P : Program) (G : Glob) (f : FuncId) (args : List VV) (st : St) (dst : Option Tmp) (γ : Nat) (K : St → Prop) (Qp : VV → St → Prop) : Prop :=
 (treeL args = true ∧ ∃ r, ad P G f args r ∧ match r with
  | .tree x => K (st.put dst x)
  | .own cs len es => K (stepTo st dst (.ref γ 0 len es len) (.new (.cells none cs)) γ)
  | .panic x => Qp x st) ∨
 (treeL (args.map (showV st.H 3)) = true ∧ ∃ r, ad P G f (args.map (showV st.H 3)) r ∧ match r with
  | .tree x => x.flat = true ∧ K (st.put dst x)
  | .own cs len es => flatL cs = true ∧ K (stepTo st dst (.ref γ 0 len es len) (.new (.cells none cs)) γ)
  | .panic _ => False) ∨ openK P G f args st dst K Qp
def opK (P : Program) (G : Glob) (o : Oper) (γ : Nat) (st : St) (K : St → Prop) : Prop :=
 match vop P o (st.ρ G) st.H γ with
 | some (x, eff) => K (stepTo st o.dst x eff γ)
 | none => False
def aU (P : Program) (G : Glob) (γ : Nat) (o : Oper) (st : St) (K : St → Prop) (Qp : VV → St → Prop) : Prop :=
 match o.op with
 | .call k =>
  match k.callee with
  | .value fo =>
   match st.ρ G fo with
   | .fn (.func f) first captured => callK P G f (first ++ k.args.toList.map (st.ρ G) ++ captured) st o.dst γ K Qp
   | .yl β => yieldK P G o β (k.args.toList.map (st.ρ G)) st K
   | _ => False
  | _ => opK P G o γ st K
 | .defer k =>
  match k.callee with
  | .value fo => deferK G o (st.ρ G fo) (k.args.toList.map (st.ρ G)) st K
  | _ => False
 | .panic x => match st.ρ G x with
  | .ifc t y => Qp (.ifc t y) st
  | _ => False
 | _ => opK P G o γ st K
def stepK (P : Program) (G : Glob) (ops : Array Oper) (γ : Nat) (o : Oper) (st : St) (K : St → Prop) (Qp : VV → St → Prop) : Prop :=
 match aM ops st.tm o with
 | none => False
 | some b => (b = true → aU P G γ o st K Qp) ∧ (b = false → K (st.put o.dst (.lit undef)))
theorem aS.mono {P : Program} {G : Glob} {n : Nat} {ops : Array Oper} {base i : Nat} {st : St} {K K' : St → Prop} {Qp Qp' : VV → St → Prop} (h : aS P G n ops base i st K Qp) (hk : ∀ s, K s → K' s) (hq : ∀ x s, Qp x s → Qp' x s) :
  aS P G n ops base i st K' Qp' := by
 intro ro c W a Kr Q hro s hr hs hγ hnx k kp
 exact h ro c W a Kr Q hro s hr hs hγ hnx (fun a' W' c' st' h1 h2 h3 h4 h5 h6 h7 => k a' W' c' st' h1 h2 h3 h4 h5 h6 (hk _ h7)) (fun a' W' c' st' x v h1 h2 h3 h4 h5 h6 h7 h8 => kp a' W' c' st' x v h1 h2 h3 h4 h5 h6 h7 (hq _ _ h8))
theorem aS.panic {P : Program} {G : Glob} {n : Nat} {ops : Array Oper} {base i : Nat} {o : Oper} {st : St} {K : St → Prop} {Qp : VV → St → Prop} {x : Operand} {t : TypeId} {y : VV} (ho : ops[i]? = some o) (hw : aM ops st.tm o = some true)
  (hop : o.op = .panic x) (hx : st.ρ G x = .ifc t y) (hq : Qp (.ifc t y) st) : aS P G n ops base i st K Qp := by
 intro ro c W a Kr Q hro s hr hs hγ hnx k kp
 unfold wpOpIn
 simp only [ho]
 rw [if_pos (lk hr.tm hw)]
 refine ⟨fun _ _ => trivial, ?_⟩
 have h1 := hr.eval x
 rw [hx] at h1
 obtain ⟨u, e, hu⟩ := h1
 rw [Oper.semAt_eq _ _ _ (by rw [hop]; simp)]
 have hrun : (execOp a.eval o).run P W = .halt (.panic (.iface t u)) W := by
  simp only [execOp, hop, e, Instr.panic]
  rfl
 rw [hrun, Oper.uponIn_panic]
 exact kp a W c st (.ifc t y) (.iface t u) (Ext.refl c W) s hr hs (fun _ h => .inl h) (Nat.le_refl _) ⟨u, rfl, hu⟩ hq
theorem aS.callPanic {P : Program} {G : Glob} {n : Nat} {ops : Array Oper} {base i : Nat} {o : Oper} {st : St} {K : St → Prop} {Qp : VV → St → Prop} {f : FuncId} {args : List VV} {x : VV} (ho : ops[i]? = some o) (hw : aM ops st.tm o = some true)
  (hf : callee? G st o.op = some (f, args)) (ht : treeL args = true) (hp : ad P G f args (.panic x)) (hq : Qp x st) : aS P G n ops base i st K Qp := by
 intro ro c W a Kr Q hro s hr hs hγ hnx k kp
 unfold wpOpIn
 simp only [ho]
 rw [if_pos (lk hr.tm hw)]
 obtain ⟨vs, hvs, hrun, hnd⟩ := qo hr hf hp.1
 refine ⟨fun _ _ => trivial, ?_⟩
 rw [Oper.semAt_eq _ _ _ hnd, hrun, Oper.uponIn_enter]
 refine ⟨fun h => (by cases h), oZ ((hp.2 c.A W vs s.ltA hr.G.tree (nV ht hvs)).mono ?_)⟩
 rintro e W' ⟨A', h1, h2, h3, hb, v, rfl, hx⟩
 have he := Ext.more h1 h2 hb
 have hs' := Sim.more s h1 h2 h3 hb
 have hr' : StRep G (c.more A') W' st a := ⟨hr.H, fun t => Rep.abides (he.abides s) _ (hr.tm t), hr.nx, hr.df.abides (he.abides s), hr.G.abides (he.abides s)⟩
 exact kp a W' (c.more A') st x v he hs' hr' hs (fun _ h => .inl h) (Nat.le_refl _) (Rep.abides (mm (fun _ h => h)) _ hx) hq
theorem EE {P : Program} {G : Glob} {n : Nat} {ops : Array Oper} {base i : Nat} {o : Oper} {st : St} {K : St → Prop} {Qp : VV → St → Prop} (ho : ops[i]? = some o) (hd : dstsOk n ops = true)
  (h : stepK P G ops (base + i) o st K Qp) : aS P G n ops base i st K Qp := by
 have opk : aM ops st.tm o = some true → opK P G o (base + i) st K → aS P G n ops base i st K Qp := by
  intro hw h
  unfold opK at h
  split at h
  ·rename_i x eff hv
   exact aS.quiet ho hd (.op hw hv) h
  ·exact h.elim
 unfold stepK at h
 split at h
 ·exact h.elim
 ·rename_i b hw
  cases b with
  | false => exact aS.quiet ho hd (.skip hw) (h.2 rfl)
  | true =>
  replace h := h.1 rfl
  unfold aU at h
  split at h
  ·rename_i k hop
   split at h
   ·rename_i fo hfo
    split at h
    ·rename_i f first captured hρ
     have hf : callee? G st o.op = some (f, first ++ k.args.toList.map (st.ρ G) ++ captured) := by simp [callee?, hop, hfo, hρ]
     unfold callK at h
     rcases h with ⟨ht, r, hp, h⟩ | ⟨ht, r, hp, h⟩ | h
     ·cases r with
      | tree x => exact aS.quiet ho hd (.call hw hf ht hp) h
      | own cs len es => exact aS.quiet ho hd (.callOwn hw hf ht hp) h
      | panic x => exact aS.callPanic ho hw hf ht hp h
     ·cases r with
      | tree x => exact aS.shown ho hd hw hf ht hp h.1 h.2
      | own cs len es => exact aS.shownOwn ho hd hw hf ht hp h.1 h.2
      | panic x => exact h.elim
     ·exact aS.open ho hd hw hf h
    ·rename_i β hρ
     unfold yieldK at h
     split at h
     ·rename_i pe tm ps as bo df hβ
      exact aS.yield ho hd hw hop hfo hρ hβ (by simpa using h.1) h.2
     ·exact h.elim
    ·exact h.elim
   ·exact opk hw h
  ·rename_i k hop
   split at h
   ·rename_i fo hfo
    unfold deferK at h
    split at h
    ·rename_i f first captured hρ
     exact aS.defer h.1 ho hd hw hop hfo hρ h.2
    ·exact h.elim
   ·exact h.elim
  ·rename_i x hop
   split at h
   ·rename_i t y hx
    exact aS.panic ho hw hop hx h
   ·exact h.elim
  ·exact opk hw h
def seqK (P : Program) (G : Glob) (ops : Array Oper) (base : Nat) (Q : VExit → St → Prop) : Nat → List Oper → St → Prop
 | _, [], st => Q .normal st
 | i, o :: l, st => stepK P G ops (base + i) o st (seqK P G ops base Q (i + 1) l) (fun x st' => Q (.panic x) st')
theorem SG {P : Program} {G : Glob} {n : Nat} {ops : Array Oper} {base : Nat} {Q : VExit → St → Prop} (hd : dstsOk n ops = true) : ∀ (l : List Oper) (i : Nat) (st : St), (∀ k, l[k]? = ops[i + k]?) →
  seqK P G ops base Q i l st → VSeq P G n ops base Q (List.range' i l.length) st
 | [], i, st, _, h => h
 | o :: l, i, st, hl, h => by
  have ho : ops[i]? = some o := by have := hl 0; simpa using this.symm
  show aS P G n ops base i st _ _
  refine (EE ho hd h).mono (fun s hs => SG hd l (i + 1) s (fun k => by have := hl (k + 1); simp at this; rw [this]; congr 1; omega) hs) (fun _ _ h => h)
def dstepK (P : Program) (G : Glob) (ops : Array Oper) (γ : Nat) (o : Oper) (st : St) (K : List Nat → List Nat → St → Prop) : Prop :=
 match aM ops st.tm o with
 | none => False
 | some b => (b = true →
  match o.op with
  | .call { callee := .value fo, args := as, .. } =>
   match st.ρ G fo with
   | .fn (.func f) first captured =>
    (treeL (first ++ as.toList.map (st.ρ G) ++ captured) = true ∧ ∃ r, ad P G f (first ++ as.toList.map (st.ρ G) ++ captured) r ∧ match r with
     | .tree x => K [] [] (st.put o.dst x)
     | .own cs len es => K [] [γ] (stepTo st o.dst (.ref γ 0 len es len) (.new (.cells none cs)) γ)
     | .panic _ => False) ∨
    (∃ args' x, sealL st.H fuelS (first ++ as.toList.map (st.ρ G) ++ captured) = some args' ∧ ad P G f args' (.tree x) ∧ x.flat = true ∧ K (nmL st.H fuelS (first ++ as.toList.map (st.ρ G) ++ captured)) [] (st.put o.dst x))
   | _ => False
  | _ => match vop P o (st.ρ G) st.H γ with
   | some (x, eff) => K (rdV o (st.ρ G)) (eff.wr γ) (stepTo st o.dst x eff γ)
   | none => False) ∧
  (b = false → K [] [] (st.put o.dst (.lit undef)))
theorem Cr {P : Program} {G : Glob} {ops : Array Oper} {base i : Nat} {o : Oper} {st : St} {K : List Nat → List Nat → St → Prop} (h : dstepK P G ops (base + i) o st K) :
  ∃ rd wr st', QStep P G ops base i o st st' rd wr ∧ K rd wr st' := by
 unfold dstepK at h
 split at h
 ·exact h.elim
 ·rename_i b hw
  cases b with
  | false => exact ⟨_, _, _, .skip hw, h.2 rfl⟩
  | true =>
  replace h := h.1 rfl
  split at h
  ·rename_i fo as ats hop
   split at h
   ·rename_i f first captured hρ
    have hf : callee? G st o.op = some (f, first ++ as.toList.map (st.ρ G) ++ captured) := by simp [callee?, hop, hρ]
    rcases h with ⟨ht, r, hp, h⟩ | ⟨args', x, hs, hp, hx, h⟩
    ·cases r with
     | tree x => exact ⟨_, _, _, .call hw hf ht hp, h⟩
     | own cs len es => exact ⟨_, _, _, .callOwn hw hf ht hp, h⟩
     | panic x => exact h.elim
    ·exact ⟨_, _, _, .callSeen hw hf hs hp hx, h⟩
   ·exact h.elim
  ·split at h
   ·rename_i x eff hv
    exact ⟨_, _, _, .op hw hv, h⟩
   ·exact h.elim
def traceK (ops : Array Oper) : Tr → Prop
 | [] => True
 | p :: tr => (∀ q ∈ tr, aC ops ops.size p.1 q.1 = true ∨ Indep p q) ∧ traceK ops tr
def apartOk (ops : Array Oper) : Bool := (List.range ops.size).all fun i => (List.range ops.size).all fun j => !decide (i < j) || aC ops ops.size i j || (match ops[i]?, ops[j]? with
 | some o, some o' => o.apart ops o'
 | _, _ => true)
theorem wA {ops : Array Oper} (hap : apartOk ops = true) : ∀ (tr : Tr), (tr.map (·.1)).Pairwise (· < ·) → traceK ops tr → TraceOk ops tr
 | [], _, _ => List.Pairwise.nil
 | p :: tr, hs, h => by
  simp only [List.map_cons, List.pairwise_cons] at hs
  refine List.pairwise_cons.2 ⟨fun q hq => ?_, wA hap tr hs.2 h.2⟩
  rcases h.1 q hq with hb | hi
  ·exact .inl hb
  ·cases hbb : aC ops ops.size p.1 q.1 with
   | true => exact .inl rfl
   | false =>
    refine .inr ⟨hi, fun o o' ho ho' => ?_⟩
    have hlt := hs.1 q.1 (List.mem_map_of_mem hq)
    have h1 := (Array.getElem?_eq_some_iff.1 ho).1
    have h2 := (Array.getElem?_eq_some_iff.1 ho').1
    unfold apartOk at hap
    rw [List.all_eq_true] at hap
    have := hap p.1 (List.mem_range.2 h1)
    rw [List.all_eq_true] at this
    have := this q.1 (List.mem_range.2 h2)
    simp [hlt, hbb, ho, ho'] at this
    exact this
def drawK (P : Program) (G : Glob) (ops : Array Oper) (base : Nat) (Q : VExit → St → Prop) : Nat → List Oper → Tr → St → Prop
 | _, [], tr, st => traceK ops tr.reverse ∧ Q .normal st
 | i, o :: l, tr, st => dstepK P G ops (base + i) o st fun rd wr st' => drawK P G ops base Q (i + 1) l ((i, rd, wr) :: tr) st'
theorem SH {P : Program} {G : Glob} {ops : Array Oper} {base : Nat} {Q : VExit → St → Prop} : ∀ (l : List Oper) (i : Nat) (tr : Tr) (st : St), (∀ k, l[k]? = ops[i + k]?) →
  drawK P G ops base Q i l tr st → ∃ st' tr', QSteps P G ops base (List.range' i l.length) st st' tr' ∧ traceK ops (tr.reverse ++ tr') ∧ Q .normal st'
 | [], i, tr, st, _, h => ⟨st, [], .nil, by simpa using h.1, h.2⟩
 | o :: l, i, tr, st, hl, h => by
  have ho : ops[i]? = some o := by have := hl 0; simpa using this.symm
  obtain ⟨rd, wr, s1, hq, hk⟩ := Cr h
  obtain ⟨st', tr', hqs, htr, hQ⟩ := SH l (i + 1) ((i, rd, wr) :: tr) s1 (fun k => by have := hl (k + 1); simp at this; rw [this]; congr 1; omega) hk
  exact ⟨st', (i, rd, wr) :: tr', .cons ho hq hqs, by simpa using htr, hQ⟩
def CWp (P : Program) (G : Glob) (n : Nat) : Code → (VExit → St → Prop) → St → Prop
 | .skip, Q, st => Q .normal st
 | .label _, Q, st => Q .normal st
 | .exit id, Q, st => Q (.exit id) st
 | .ret, Q, st => Q .ret st
 | .seq a b, Q, st => CWp P G n a (VExit.then (CWp P G n b Q) Q) st
 | .cond c a b, Q, st => match st.ρ G c with
  | .lit (.bool t) => (t = true → CWp P G n a Q st) ∧ (t = false → CWp P G n b Q st)
  | _ => False
 | .block id a, Q, st => CWp P G n a (VExit.inBlock id Q) st
 | .region _ ops false, Q, st => seqK P G ops st.nx Q 0 ops.toList { st with nx := st.nx + ops.size }
 | .region id ops true, Q, st => drawK P G ops st.nx Q 0 ops.toList [] { st with nx := st.nx + ops.size } ∨ VWp P G n (.region id ops true) Q st
 | .rangeFunc g ps as bo, Q, st => G.rg = some none ∧ (match st.ρ G g with
  | .fn (.func f) first captured => aE P G f (first ++ [.yl (st.nx + 1)] ++ captured) (updH (updH st.H st.nx (.deferred (some []))) (st.nx + 1) (.loop .ready none (tmL n st.tm) ps as bo st.nx)) (st.nx + 2)
   (fun _ H' nx' => RangeEnd P G n Q st H' nx') (fun x H' nx' => Q (.panic x) { st with H := H', nx := nx', df := .coll st.nx :: st.df })
  | _ => False)
 | code, Q, st => VWp P G n code Q st
def codeOk (n : Nat) : Code → Bool
 | .region _ ops false => dstsOk n ops
 | .region _ ops true => backOk ops && dstsOk n ops && apartOk ops
 | .seq a b => codeOk n a && codeOk n b
 | .cond _ a b => codeOk n a && codeOk n b
 | .block _ a => codeOk n a
 | .loop a => codeOk n a
 | .rangeFunc _ _ a b => codeOk n a && codeOk n b
 | .scope a => codeOk n a
 | _ => true
theorem nF {P : Program} {G : Glob} (hm : P.follows .mixedOrders = true) {n : Nat} : ∀ (code : Code) (Q : VExit → St → Prop) (st : St), codeOk n code = true → CWp P G n code Q st → VWp P G n code Q st
 | .skip, Q, st, _, h => VWp.skip h
 | .label _, Q, st, _, h => VWp.label h
 | .exit _, Q, st, _, h => VWp.exit h
 | .ret, Q, st, _, h => VWp.ret h
 | .seq a b, Q, st, ho, h => by
  simp only [codeOk, Bool.and_eq_true] at ho
  refine VWp.seq ((nF hm a _ st ho.1 h).mono fun e s hs => ?_)
  cases e with
  | normal => exact nF hm b Q s ho.2 hs
  | exit id => exact hs
  | goto l => exact hs
  | ret => exact hs
  | panic x => exact hs
 | .cond c a b, Q, st, ho, h => by
  simp only [codeOk, Bool.and_eq_true] at ho
  unfold CWp at h
  split at h
  ·rename_i t ht
   refine VWp.cond ht ?_
   cases t with
   | true => exact nF hm a Q st ho.1 (h.1 rfl)
   | false => exact nF hm b Q st ho.2 (h.2 rfl)
  ·exact h.elim
 | .block id a, Q, st, ho, h => VWp.block (nF hm a _ st ho h)
 | .region id ops false, Q, st, ho, h => by
  refine VWp.region ?_
  have := SG ho ops.toList 0 _ (fun k => by simp) h
  rw [List.range_eq_range']
  simpa using this
 | .region id ops true, Q, st, ho, h => by
  rcases h with h | h
  case inr => exact h
  simp only [codeOk, Bool.and_eq_true] at ho
  obtain ⟨⟨h1, h2⟩, h3⟩ := ho
  obtain ⟨st', tr, hq, htr, hQ⟩ := SH ops.toList 0 [] _ (fun k => by simp) h
  have hrng : List.range' 0 ops.toList.length = List.range ops.size := by rw [List.range_eq_range']; simp
  rw [hrng] at hq
  refine VWp.regionDraw hm [] (List.range ops.size) (by simp [h1, h2, barOk, flat]) ⟨st', tr, hq, wA h3 tr ?_ (by simpa using htr), hQ⟩
  rw [hq.fst]
  exact List.pairwise_lt_range
 | .loop _, _, _, _, h => h
 | .rangeFunc g ps as bo, Q, st, _, h => by
  unfold CWp at h
  obtain ⟨h1, h2⟩ := h
  split at h2
  ·rename_i f first captured hg
   exact VWp.rangeFunc h1 hg h2
  ·exact h2.elim
 | .scope _, _, _, _, h => h
 | .goto _, _, _, _, h => h
 | .refuse _, _, _, _, h => h
theorem loopK {P : Program} {G : Glob} (hm : P.follows .mixedOrders = true) {n : Nat} {x : Code} {Q : VExit → St → Prop} {st : St} (ho : codeOk n x = true) (I : Nat → St → Prop) (m : Nat) (h0 : I m st)
  (round : ∀ m st, I m st → CWp P G n x (VExit.then (fun st' => ∃ m', m' < m ∧ I m' st') Q) st) : CWp P G n (.loop x) Q st :=
 VWp.loop I h0 fun m st hI => nF hm x _ st ho (round m st hI)
theorem ad.run {P : Program} {G : Glob} (hm : P.follows .mixedOrders = true) {f : FuncId} {fn : Func} {code : Code} {args : List VV} {r : PRes} (hc : Callable P f) (hf : P.funcs[f]? = some fn) (hb : fn.body = some code)
  (hst : (decide (args.length ≤ fn.ntmps) && codeOk fn.ntmps code) = true) (h : CWp P (G.at (some none)) fn.ntmps code (PurePost P fn r) { tm := aQ args, H := fun _ => none, nx := 0, df := [] }) : ad P G f args r := by
 simp only [Bool.and_eq_true, decide_eq_true_eq] at hst
 exact ad.of_body hc hf hb hst.1 (nF (G := G.at (some none)) hm code _ _ hst.2 h)
theorem aE.run {P : Program} {G : Glob} (hm : P.follows .mixedOrders = true) {f : FuncId} {fn : Func} {code : Code} {args : List VV} {H : Nat → Option VObj} {nx : Nat} {R Rp : VV → (Nat → Option VObj) → Nat → Prop}
  (hc : Callable P f) (hf : P.funcs[f]? = some fn) (hb : fn.body = some code) (hst : (decide (args.length ≤ fn.ntmps) && codeOk fn.ntmps code) = true)
  (h : CWp P (G.at (some none)) fn.ntmps code (OpenPostD P G fn R Rp) { tm := aQ args, H, nx, df := [] }) : aE P G f args H nx R Rp := by
 simp only [Bool.and_eq_true, decide_eq_true_eq] at hst
 exact aE.of_bodyD hc hf hb hst.1 (nF (G := G.at (some none)) hm code _ _ hst.2 h)
end Go.V
end
section
namespace Go.V
open Go
mutual
def normV : VV → VV
 | .sl cs n _ => .sl (normL cs) n false
 | .lit (.slice none 0 0) => .sl [] 0 false
 | .agg cs => .agg (normL cs)
 | .tup cs => .tup (normL cs)
 | x => x
def normL : List VV → List VV
 | [] => []
 | x :: xs => normV x :: normL xs
end
mutual
theorem AK {c : Ctx} {W : World} : ∀ (x : VV) {v : Value}, Rep c W x v → Rep c W (normV x) v
 | .sl cs n f, _, ⟨base, cap, e, h1, h2, h3⟩ => ⟨base, cap, e, h1, fun h => (by cases h), h3.imp (fun h => by subst h; rfl) fun ⟨b, o, e2, hA, h⟩ => ⟨b, o, e2, hA, SI cs h⟩⟩
 | .agg cs, _, ⟨l, e, h⟩ => ⟨l, e, Dl cs h⟩
 | .tup cs, _, ⟨l, e, h⟩ => ⟨l, e, Dl cs h⟩
 | .lit (.slice none 0 0), v, h => by
  have e : v = .slice none 0 0 := h
  subst e
  exact ⟨none, 0, rfl, Nat.le_refl _, fun h => (by cases h), .inl rfl⟩
 | .lit (.slice none 0 (_ + 1)), _, h => h
 | .lit (.slice none (_ + 1) _), _, h => h
 | .lit (.slice (some _) _ _), _, h => h
 | .lit (.bool _), _, h => h
 | .lit (.int ..), _, h => h
 | .lit (.float ..), _, h => h
 | .lit (.complex ..), _, h => h
 | .lit (.string _), _, h => h
 | .lit (.pointer _), _, h => h
 | .lit (.map _), _, h => h
 | .lit (.chan _), _, h => h
 | .lit (.func ..), _, h => h
 | .lit .nilFunc, _, h => h
 | .lit .nilIface, _, h => h
 | .lit (.iface ..), _, h => h
 | .lit (.agg _), _, h => h
 | .lit (.tuple _), _, h => h
 | .any, _, h => h
 | .tp _, _, h => h
 | .ref .., _, h => h
 | .ptr .., _, h => h
 | .mp _, _, h => h
 | .mt .., _, h => h
 | .it _, _, h => h
 | .yl _, _, h => h
 | .fn .., _, h => h
 | .ifc .., _, h => h
theorem Dl {c : Ctx} {W : World} : ∀ (xs : List VV) {l : List Value}, RepL c W xs l → RepL c W (normL xs) l
 | [], _, h => h
 | x :: xs, _, ⟨u, us, e, h1, h2⟩ => ⟨u, us, e, AK x h1, Dl xs h2⟩
theorem SI {c : Ctx} {W : World} {b : Nat} : ∀ (xs : List VV) {o : Nat}, RepC c W b o xs → RepC c W b o (normL xs)
 | [], _, h => h
 | x :: xs, _, ⟨u, e, h1, h2⟩ => ⟨u, e, AK x h1, SI xs h2⟩
end
theorem ad.norm {P : Program} {G : Glob} {f : FuncId} {args : List VV} {r : PRes} (h : ad P G f (normL args) r) : ad P G f args r :=
 ⟨h.1, fun A W vs hA hG hv => h.2 A W vs hA hG (Dl _ hv)⟩
end Go.V
end
