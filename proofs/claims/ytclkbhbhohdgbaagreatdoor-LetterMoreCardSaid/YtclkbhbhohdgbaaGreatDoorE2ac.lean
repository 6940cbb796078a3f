/- Part of a proof. -/
import Derived.Test.YtclkbhbhohdgbaaGreatDoorE2ab
import Derived.LoopNIn
import Derived.RangeFuncIn
import Derived.RangeFuncLeaves
set_option linter.all false
section
namespace Go.V
open Go
inductive VDef where
 | fn (f : Fn) (captured args : List VV)
 | coll (β : Nat)
structure St where
 tm : Nat → VV
 H : Nat → Option Vo
 nx : Nat
 df : List VDef
structure Gb where
 vars : Nat → Option (List VV)
 rg : Option (Option Nat) := some none
instance : CoeFun Gb (fun _ => Nat → Option (List VV)) := ⟨Gb.vars⟩
def Gb.at (G : Gb) (r : Option (Option Nat)) : Gb := { G with rg := r }
def St.ρ (G : Gb) (st : St) : Operand → VV
 | .tmp t => st.tm t
 | .const v => ofVal v
 | .global g => match G g with
  | some cs => .tp cs
  | none => .lit (.pointer (some ⟨g, 0, none⟩))
 | .func f => .fn (.func f) [] []
def St.put (st : St) (dst : Option Tmp) (x : VV) : St :=
 match dst with
 | none => st
 | some d => { st with tm := fun i => if i = d then x else st.tm i }
@[simp] theorem St.put_H (st : St) (d : Option Tmp) (x : VV) : (st.put d x).H = st.H := by cases d <;> rfl
@[simp] theorem St.put_nx (st : St) (d : Option Tmp) (x : VV) : (st.put d x).nx = st.nx := by cases d <;> rfl
@[simp] theorem St.put_df (st : St) (d : Option Tmp) (x : VV) : (st.put d x).df = st.df := by cases d <;> rfl
def RepD (c : Ctx) (W : World) : VDef → Deferred → Prop
 | .fn f cap args, d => ∃ l m, d = { target := .fn f ⟨l⟩, args := ⟨m⟩ } ∧ Rl c W cap l ∧ Rl c W args m
 | .coll β, d => c.used β ∧ (c.live β → d = { target := .collected (c.φ β), args := #[] })
def RepDs (c : Ctx) (W : World) : List VDef → List Deferred → Prop
 | [], ds => ds = []
 | v :: vs, ds => ∃ d ds', ds = d :: ds' ∧ RepD c W v d ∧ RepDs c W vs ds'
variable {c : Ctx} {W W' : World}
theorem RepD.abides {c' : Ctx} (ab : Abides c W c' W') : ∀ {v : VDef} {d : Deferred}, RepD c W v d → RepD c' W' v d
 | .fn _ _ _, _, ⟨l, m, e, h1, h2⟩ => ⟨l, m, e, Rl.abides ab _ h1, Rl.abides ab _ h2⟩
 | .coll β, _, ⟨hu, h⟩ => ⟨ab.used β hu, fun hl => by rw [ab.φ β hu hl]; exact h (ab.live β hu hl)⟩
theorem RepDs.abides {c c' : Ctx} {W W' : World} (ab : Abides c W c' W') : ∀ {vs : List VDef} {ds : List Deferred}, RepDs c W vs ds → RepDs c' W' vs ds
 | [], _, h => h
 | _ :: _, _, ⟨d, ds', e, h1, h2⟩ => ⟨d, ds', e, h1.abides ab, RepDs.abides ab h2⟩
mutual
def VV.tree : VV → Bool
 | .any | .lit _ => true
 | .agg cs => tl cs
 | .tup cs => tl cs
 | .sl cs _ _ => tl cs
 | .tp cs => tl cs
 | .fn _ a b => tl a && tl b
 | .ifc _ x => x.tree
 | .mt _ vs => tl vs
 | .ref .. | .ptr .. | .mp _ | .it _ | .yl _ => false
def tl : List VV → Bool
 | [] => true
 | x :: xs => x.tree && tl xs
end
def GOk (G : Gb) (c : Ctx) (W : World) : Prop := ∀ g cs, G g = some cs → c.A g ∧ Rc c W g 0 cs ∧ tl cs = true
theorem GOk.abides {G : Gb} {c' : Ctx} (h : GOk G c W) (ab : Abides c W c' W') : GOk G c' W' := fun g cs hg =>
 ⟨ab.A g (h g cs hg).1, Rc.abides ab g 0 cs (h g cs hg).1 (h g cs hg).2.1, (h g cs hg).2.2⟩
structure Sr (G : Gb) (c : Ctx) (W : World) (st : St) (a : Act) : Prop where
 H : c.H = st.H
 tm : ∀ t, Rep c W (st.tm t) (a.tmps.getD t undef)
 nx : ∀ β, c.used β → β < st.nx
 df : RepDs c W st.df a.defers
 G : GOk G c W
theorem Sr.eval {G : Gb} {st : St} {a : Act} (h : Sr G c W st a) : ∀ y, Rep c W (st.ρ G y) (a.eval y) := by
 intro y
 cases y with
 | tmp t => exact h.tm t
 | const v => exact yY c W v
 | global g =>
  simp only [St.ρ, Act.eval]
  split
  ·rename_i cs hg
   exact ⟨g, 0, rfl, (h.G g cs hg).1, (h.G g cs hg).2.1⟩
  ·rfl
 | func f => exact ⟨[], [], rfl, rfl, rfl⟩
def dstIn (n : Nat) (o : Oper) : Bool := match o.dst with | some d => decide (d < n) | none => true
variable {x : VV}
theorem uf {st : St} {a : Act} {dst : Option Tmp} {v : Value} (htm : ∀ t, Rep c W (st.tm t) (a.tmps.getD t undef)) (hd : ∀ d, dst = some d → d < a.tmps.size) (hx : Rep c W x v) :
  ∀ t, Rep c W ((st.put dst x).tm t) ((a.put dst v).tmps.getD t undef) := by
 intro t
 cases dst with
 | none => exact htm t
 | some d =>
  have hlt := hd d rfl
  by_cases e : t = d
  ·subst e; simp [St.put, Act.put, hlt]; exact hx
  ·have e' : ¬ d = t := fun h => e h.symm
   have := htm t
   simp only [St.put, Act.put, e, if_false]
   simpa [Array.getElem?_setIfInBounds_ne e'] using this
@[simp] theorem VM (a : Act) (dst : Option Tmp) (v : Value) : (a.put dst v).tmps.size = a.tmps.size := by cases dst <;> simp [Act.put]
@[simp] theorem ug (a : Act) (dst : Option Tmp) (v : Value) : (a.put dst v).defers = a.defers := by cases dst <;> rfl
def aO (ops : Array Oper) (tm : Nat → VV) (o : Oper) : Option Bool :=
 match o.guard with
 | none => some true
 | some (j, w) =>
  match (ops[j]?).bind (·.dst) with
  | none => some false
  | some d => match tm d with
   | .lit (.bool b) => some (b == w)
   | .lit (.tuple _) => some false
   | _ => none
variable {o : Oper}
theorem j8 {ops : Array Oper} {tm : Nat → VV} {tmps : Array Value} {b : Bool} (htm : ∀ t, Rep c W (tm t) (tmps.getD t undef)) (h : aO ops tm o = some b) :
  Region.wanted o (yielded ops tmps) = b := by
 unfold aO at h
 unfold Region.wanted
 cases hg : o.guard with
 | none => simp [hg] at h; simp [← h]
 | some p =>
  obtain ⟨j, w⟩ := p
  simp only [hg] at h
  simp only [yielded]
  cases hd : (ops[j]?).bind (·.dst) with
  | none => simp [hd] at h; simp [← h]
  | some d =>
   simp only [hd] at h
   have hr := htm d
   split at h
   ·rename_i bb e
    rw [e] at hr
    have e2 : tmps.getD d undef = .bool bb := hr
    cases hq : tmps[d]? with
    | none => simp [Array.getD, Array.getElem?_eq_none_iff.1 hq] at e2; rw [dif_neg (by have := Array.getElem?_eq_none_iff.1 hq; omega)] at e2; cases e2
    | some v =>
     simp [hq] at e2
     subst e2
     simp [hq]
     cases h; rfl
   ·rename_i l e
    rw [e] at hr
    have e2 : tmps.getD d undef = .tuple l := hr
    cases hq : tmps[d]? with
    | none => simp [hq]; cases h; rfl
    | some v =>
     simp [hq] at e2
     subst e2
     simp [hq]
     cases h; rfl
   ·cases h
def topName : VV → Option Nat
 | .ref β _ _ _ _ | .ptr β _ | .mp β | .it β | .yl β => some β
 | _ => none
def rdO : Op → List Operand
 | .move _ | .assign _ => []
 | op => op.operands.toList
theorem G2 {op : Op} {y : Operand} (h : y ∈ rdO op) : y ∈ op.operands := by
 cases op <;> first | (simp [rdO] at h; done) | (simpa [rdO] using h)
def rdV (o : Oper) (ρ : Operand → VV) : List Nat := (rdO o.op).filterMap fun y => topName (ρ y)
def Ve.wr (γ : Nat) : Ve → List Nat
 | .none => []
 | .new _ => [γ]
 | .upd β _ => [β]
 | .mv β _ _ => [β, γ]
 | .kill β => [β]
variable {P : Program} {t src dst : TypeId} {γ : Nat} {y : VV} {lo hi : Option VV} {ρ' : Operand → VV}
section congr
variable {H H' : Nat → Option Vo}
def Agree (H H' : Nat → Option Vo) (x : VV) : Prop := ∀ β, topName x = some β → H β = H' β
theorem G3 (h : Agree H H' x) : tgt H x = tgt H' x := by
 cases x <;> first | rfl | (simp only [tgt]; rw [h _ rfl])
theorem CX (h : Agree H H' x) : sls H x = sls H' x := by
 unfold sls
 split <;> first | rfl | (rw [h _ rfl])
theorem Sl (h : Agree H H' x) : Agree H H' (nilS x) := by
 unfold nilS
 split
 ·intro β hb; cases hb
 ·exact h
theorem G4 (h : Agree H H' x) : vlen P H t x = vlen P H' t x := by
 unfold vlen
 rw [CX h]
 cases P.underlying t with
 | none => rfl
 | some d => cases d <;> first | rfl | (cases x <;> first | rfl | (simp only [h _ rfl]) | (rename_i v; cases v <;> first | rfl | (rename_i r; cases r <;> rfl)))
theorem G5 {d2 : TypeDesc} {size : Nat} (h : Agree H H' x) : srcV H d2 x size = srcV H' d2 x size := by
 cases d2 <;> first | rfl | exact CX h
theorem VN {t2 : TypeId} {s : VV} (hs : Agree H H' s) (h : Agree H H' x) : vappend P H γ t t2 s x = vappend P H' γ t t2 s x := by
 unfold vappend
 replace hs := Sl hs
 generalize nilS s = s at hs
 unfold vappend1
 simp only [G5 h]
 cases s <;> first | rfl | (simp only [hs _ rfl])
theorem G6 (h : Agree H H' x) : vconv P H src dst x = vconv P H' src dst x := by
 unfold vconv
 simp only [CX h]
theorem VO (h : Agree H H' x) : vptrConv P H src dst x = vptrConv P H' src dst x := by
 unfold vptrConv
 cases x <;> first | rfl | (simp only [h _ rfl])
theorem G7 (h : Agree H H' x) (k : Agree H H' y) : vptrEq.eq1 P H t x y = vptrEq.eq1 P H' t x y := by
 unfold vptrEq.eq1
 split
 ·split
  ·split
   ·rfl
   ·split <;> first | rfl | (rw [h _ rfl]; done) | (rw [k _ rfl]; done)
  ·rfl
 ·split <;> first | rfl | (rw [h _ rfl]; done) | (rw [k _ rfl]; done)
 ·rfl
theorem VP {op : BinOp} (h : Agree H H' x) (k : Agree H H' y) : vptrEq P H op t x y = vptrEq P H' op t x y := by
 unfold vptrEq
 rw [G7 h k]
theorem VQ (h : Agree H H' x) : vsliceData H x = vsliceData H' x := by
 unfold vsliceData
 cases x <;> first | rfl | (simp only [h _ rfl])
theorem VR (h : Agree H H' x) : vunsafeString P H t x y = vunsafeString P H' t x y := by
 unfold vunsafeString
 split <;> first | rfl | (rw [h _ rfl])
theorem VS (h : Agree H H' x) : vclear P H t x = vclear P H' t x := by
 unfold vclear
 replace h := Sl h
 generalize nilS x = x at h
 split <;> first | rfl | (rw [h _ rfl])
theorem VT {f : Nat} (h : Agree H H' x) : ag P H t x f = ag P H' t x f := by
 unfold ag
 split <;> try rfl
 split <;> try rfl
 split <;> try rfl
 split <;> try rfl
 cases x <;> first | rfl | (simp only [h _ rfl])
theorem VU {i : VV} (h : Agree H H' x) : aJ P H t x i = aJ P H' t x i := by
 unfold aJ
 split <;> try rfl
 split <;> try rfl
 all_goals (split <;> first | rfl | (rw [h _ rfl]))
theorem VW {mx : Option VV} (h : Agree H H' x) : vslice P H t x lo hi mx = vslice P H' t x lo hi mx := by
 unfold vslice
 rw [CX h]
theorem VX {mx : Option VV} (h : Agree H H' x) : vsliceX P H t x lo hi mx = vsliceX P H' t x lo hi mx := by
 unfold vsliceX
 split <;> try rfl
 split <;> first | rfl | (rw [h _ rfl])
theorem VY {k : VV} {ok : Bool} (h : Agree H H' x) : vlookup P H t x k ok = vlookup P H' t x k ok := by
 unfold vlookup
 have : mapOf H x = mapOf H' x := by cases x <;> first | rfl | (simp only [mapOf]; rw [h _ rfl])
 rw [this]
theorem Sm {k : VV} (h : Agree H H' x) : vmapUpdate P H t x k y = vmapUpdate P H' t x k y := by
 unfold vmapUpdate
 split <;> first | rfl | (rw [h _ rfl])
theorem G8 {b : Bool} (h : Agree H H' x) : vnext H x b = vnext H' x b := by
 unfold vnext
 split <;> first | rfl | (rw [h _ rfl])
theorem VZ {k : Call} {ρ : Operand → VV} (hρ : ∀ y ∈ k.operands, ρ y = ρ' y) (hH : ∀ y ∈ k.operands, Agree H H' (ρ y)) : vbuiltin P k ρ H γ = vbuiltin P k ρ' H' γ := by
 obtain ⟨callee, ⟨args⟩, ⟨ats⟩⟩ := k
 cases callee with
 | value f =>
  have h0 : ρ f = ρ' f := hρ f (by simp [Call.operands])
  have h1 : args.map ρ = args.map ρ' := List.map_congr_left fun y hy => hρ y (by simp [Call.operands, hy])
  unfold vbuiltin
  simp only [h0, h1]
 | invoke r n => rfl
 | builtin b =>
  have ha : ∀ y ∈ args, ρ y = ρ' y := fun y hy => hρ y (by simp [Call.operands, hy])
  have hb : ∀ y ∈ args, Agree H H' (ρ y) := fun y hy => hH y (by simp [Call.operands, hy])
  unfold vbuiltin
  cases b <;> try rfl
  all_goals
   rcases args with _ | ⟨x, _ | ⟨y, _ | ⟨z, args⟩⟩⟩ <;> first
    | rfl
    | (simp only [← ha _ (qZb ..), VQ (hb _ (qZb ..))]; done)
    | (rcases ats with _ | ⟨t, _ | ⟨t2, _ | ⟨t3, ats⟩⟩⟩ <;> first
      | rfl
      | (simp only [← ha _ (qZb ..), G4 (hb _ (qZb ..))]; done)
      | (simp only [← ha _ (qZb ..), VS (hb _ (qZb ..))]; done)
      | (simp only [← ha _ (qZb ..), ← ha _ (qZa _ (qZb ..)), VN (hb _ (qZb ..)) (hb _ (qZa _ (qZb ..)))]; done)
      | (simp only [← ha _ (qZb ..), ← ha _ (qZa _ (qZb ..)), VR (hb _ (qZb ..))]; done)
      | (simp only [← ha _ (qZb ..), ← ha _ (qZa _ (qZb ..))]; done))
theorem G9 {ρ : Operand → VV} (hρ : ∀ y ∈ o.op.operands, ρ y = ρ' y) (hH : ∀ y ∈ o.op.operands, Agree H H' (ρ y)) : vop P o ρ H γ = vop P o ρ' H' γ := by
 unfold vop
 cases ho : o.op <;> rw [ho] at hρ hH <;> simp only [Op.operands] at hρ hH <;> (try dsimp only) <;> first
  | rfl
  | (rw [hρ _ (by simp)]; done)
  | (rw [hρ _ (by simp), hρ _ (by simp)]; done)
  | skip
 case binOp op t x y yt => rw [← hρ x (by simp), ← hρ y (by simp), VP (hH x (by simp)) (hH y (by simp))]
 case convert src dst x => rw [← hρ x (by simp), G6 (hH x (by simp)), VO (hH x (by simp))]
 case pick c a b => simp only [hρ c (by simp), hρ a (by simp), hρ b (by simp)]
 case build t parts =>
  have e : (parts.toList.map fun p => (p.1, ρ p.2)) = (parts.toList.map fun p => (p.1, ρ' p.2)) := List.map_congr_left fun p hp => by rw [hρ p.2 (by simpa using ⟨p.1, by simpa using hp⟩)]
  rw [e]
 case buildSlice t n parts =>
  have e : (parts.toList.map fun p => (p.1, ρ p.2)) = (parts.toList.map fun p => (p.1, ρ' p.2)) := List.map_congr_left fun p hp => by rw [hρ p.2 (by simpa using ⟨p.1, by simpa using hp⟩)]
  rw [e]
 case load t x => rw [← hρ x (by simp), G3 (hH x (by simp))]
 case store t a x =>
  rw [← hρ a (by simp), ← hρ x (by simp)]
  have := hH a (by simp)
  cases h : ρ a <;> first | rfl | (rw [h] at this; simp only [this _ rfl])
 case nilCheck x =>
  rw [← hρ x (by simp)]
  have := hH x (by simp)
  cases h : ρ x <;> first | rfl | (rw [h] at this; simp only [this _ rfl]; done) | (rename_i f _ _; cases f <;> rfl)
 case makeMap t r => cases r <;> rfl
 case makeFunc f a b =>
  have e1 : a.toList.map ρ = a.toList.map ρ' := List.map_congr_left fun y hy => hρ y (by simp at hy ⊢; exact .inl hy)
  have e2 : b.toList.map ρ = b.toList.map ρ' := List.map_congr_left fun y hy => hρ y (by simp at hy ⊢; exact .inr hy)
  rw [e1, e2]
 case slice t x lo hi mx =>
  have hx := hρ x (by simp)
  have e1 : lo.map ρ = lo.map ρ' := by cases lo with | none => rfl | some y => simp [hρ y (by simp)]
  have e2 : hi.map ρ = hi.map ρ' := by cases hi with | none => rfl | some y => simp [hρ y (by simp)]
  have e3 : mx.map ρ = mx.map ρ' := by cases mx with | none => rfl | some y => simp [hρ y (by simp)]
  rw [← hx, ← e1, ← e2, ← e3]
  simp only [VW (hH x (by simp)), VX (hH x (by simp))]
 case fieldAddr t x f => rw [← hρ x (by simp), VT (hH x (by simp))]
 case indexAddr t x i => rw [← hρ x (by simp), ← hρ i (by simp), VU (hH x (by simp))]
 case lookup t x k ok => rw [← hρ x (by simp), ← hρ k (by simp), VY (hH x (by simp))]
 case mapUpdate t x k y => rw [← hρ x (by simp), ← hρ k (by simp), ← hρ y (by simp), Sm (hH x (by simp))]
 case insert t x k y => rw [← hρ x (by simp), ← hρ k (by simp), ← hρ y (by simp), Sm (hH x (by simp))]
 case next x b => rw [← hρ x (by simp), G8 (hH x (by simp))]
 case call k => exact VZ hρ hH
end congr
variable {H H' : Nat → Option Vo}
theorem Sa {ρ : Operand → VV} (hρ : ∀ y ∈ o.op.operands, ρ y = ρ' y) (h : ∀ β ∈ rdV o ρ, H β = H' β) : vop P o ρ H γ = vop P o ρ' H' γ := by
 have key : (∀ y ∈ o.op.operands, y ∈ rdO o.op) → vop P o ρ H γ = vop P o ρ' H' γ := fun hy => G9 hρ fun y hy' β hb => h β (List.mem_filterMap.2 ⟨y, hy y hy', hb⟩)
 obtain ⟨d, op, ty, pos, af, g⟩ := o
 cases op <;> first | (refine key fun y hy => ?_; simpa [rdO] using hy) | skip
 ·rename_i x; simp only [vop]; rw [hρ x (by simp [Op.operands])]
 ·rename_i x; simp only [vop]; rw [hρ x (by simp [Op.operands])]
theorem s6 {eff : Ve} {β : Nat} (h : β ∉ eff.wr γ) : eff.app γ H β = H β := by
 cases eff <;> simp [Ve.wr, Ve.app, without] at * <;> simp [h]
theorem ue {β : Nat} {e : Ve} (h : β ∈ e.wr γ) : e.app γ H β = e.app γ H' β := by
 cases e with
 | none => simp [Ve.wr] at h
 | new o => simp [Ve.wr] at h; simp [Ve.app, h]
 | upd b o => simp [Ve.wr] at h; simp [Ve.app, h]
 | kill b =>
  simp [Ve.wr] at h
  simp [Ve.app, without, h]
 | mv b el cs =>
  simp [Ve.wr] at h
  by_cases e1 : β = γ
  ·simp [Ve.app, e1]
  ·have e2 : β = b := h.resolve_right e1
   simp only [Ve.app, without, e2, if_true]
theorem GA {δ : Nat} {e f : Ve} (h : ∀ β ∈ e.wr γ, β ∉ f.wr δ) : f.app δ (e.app γ H) = e.app γ (f.app δ H) := by
 funext β
 by_cases hf : β ∈ f.wr δ
 ·have he : β ∉ e.wr γ := fun he => h β he hf
  rw [s6 he]
  exact ue hf
 ·rw [s6 hf]
  by_cases he : β ∈ e.wr γ
  ·exact ue he
  ·rw [s6 he, s6 he, s6 hf]
end Go.V
end
section
namespace Go.V
open Go
def PCtx (A : Nat → Prop) : Ctx := { A, φ := id, room := fun _ => 0, used := fun _ => False, H := fun _ => none }
mutual
theorem za {c : Ctx} {W : World} : ∀ {x : VV} {v : Value}, x.tree = true → Rep c W x v → Rep (PCtx c.A) W x v
 | .any, _, _, _ => trivial
 | .lit _, _, _, h => h
 | .agg cs, _, ht, ⟨l, e, h⟩ => ⟨l, e, og (by simpa [VV.tree] using ht) h⟩
 | .tup cs, _, ht, ⟨l, e, h⟩ => ⟨l, e, og (by simpa [VV.tree] using ht) h⟩
 | .sl cs _ _, _, ht, ⟨aa, cap, e, h1, h2, h3⟩ => ⟨aa, cap, e, h1, h2, h3.imp id fun ⟨b, o, e2, hA, h⟩ => ⟨b, o, e2, hA, CY (by simpa [VV.tree] using ht) h⟩⟩
 | .tp cs, _, ht, ⟨b, o, e, hA, h⟩ => ⟨b, o, e, hA, CY (by simpa [VV.tree] using ht) h⟩
 | .fn _ a b, _, ht, ⟨l, m, e, h1, h2⟩ => by
  simp [VV.tree] at ht
  exact ⟨l, m, e, og ht.1 h1, og ht.2 h2⟩
 | .ifc _ x, _, ht, ⟨u, e, h⟩ => ⟨u, e, za (by simpa [VV.tree] using ht) h⟩
 | .ref .., _, ht, _ => by simp [VV.tree] at ht
 | .ptr .., _, ht, _ => by simp [VV.tree] at ht
 | .mp _, _, ht, _ => by simp [VV.tree] at ht
 | .mt _ vs, _, ht, ⟨b, e, hA, ents, clk, h1, h2, h3⟩ => ⟨b, e, hA, ents, clk, h1, h2, og (by simpa [VV.tree] using ht) h3⟩
 | .it _, _, ht, _ => by simp [VV.tree] at ht
 | .yl _, _, ht, _ => by simp [VV.tree] at ht
theorem og {c : Ctx} {W : World} : ∀ {xs : List VV} {l : List Value}, tl xs = true → Rl c W xs l → Rl (PCtx c.A) W xs l
 | [], _, _, h => h
 | x :: xs, _, ht, ⟨u, us, e, h1, h2⟩ => by
  simp [tl] at ht
  exact ⟨u, us, e, za ht.1 h1, og ht.2 h2⟩
theorem CY {c : Ctx} {W : World} {b : Nat} : ∀ {xs : List VV} {o : Nat}, tl xs = true → Rc c W b o xs → Rc (PCtx c.A) W b o xs
 | [], _, _, _ => trivial
 | x :: xs, _, ht, ⟨u, e, h1, h2⟩ => by
  simp [tl] at ht
  exact ⟨u, e, za ht.1 h1, CY ht.2 h2⟩
end
variable {c : Ctx} {W : World}
theorem GOk.tree {G : Gb} (h : GOk G c W) : GOk G (PCtx c.A) W := fun g cs hg =>
 ⟨(h g cs hg).1, CY (h g cs hg).2.2 (h g cs hg).2.1, (h g cs hg).2.2⟩
theorem mD {A : Nat → Prop} (h : ∀ b, A b → c.A b) : Abides (PCtx A) W c W :=
 ⟨h, fun _ _ => rfl, fun _ h => h.elim, fun _ h => h.elim, fun _ h => h.elim, fun _ h => h.elim⟩
inductive PRes where
 | tree (x : VV)
 | own (cs : List VV) (len es : Nat)
 | panic (x : VV)
def PRep (W0 : World) (A' : Nat → Prop) (W' : World) : PRes → Ending → Prop
 | .tree x, e => ∃ v, e = .returned v ∧ Rep (PCtx A') W' x v
 | .own cs len es, e => ∃ b arr elem cap, e = .returned (.slice (some ⟨b, 0, none⟩) len cap) ∧ len ≤ cap ∧ W0.heap.size ≤ b ∧ b < W'.heap.size ∧ ¬ A' b ∧
   W'.heap[b]? = some (.cells arr elem (0, 0)) ∧ cap * es ≤ arr.size ∧ cs.length ≤ arr.size ∧ Rl (PCtx A') W' cs (arr.toList.take cs.length)
 | .panic x, e => ∃ v, e = .panicked [{ v, recovered := false }] ∧ Rep (PCtx A') W' x v
def Callable (P : Program) (f : FuncId) : Prop := ∀ args W, (callFunc f args).run P W = .ok (.enter f args) W
def ah (P : Program) (G : Gb) (f : FuncId) (args : List VV) (r : PRes) : Prop :=
 Callable P f ∧ ∀ A W vs, (∀ b, A b → b < W.heap.size) → GOk G (PCtx A) W → Rl (PCtx A) W args vs →
  CallsIn Fence.wide 0 P f ⟨vs⟩ W fun e W' => ∃ A' : Nat → Prop, (∀ b, A b → A' b) ∧ (∀ b, A' b → A b ∨ W.heap.size ≤ b) ∧ (∀ b, A' b → b < W'.heap.size) ∧
   RowKit.Below W.heap.size W W' ∧ PRep W A' W' r e
def Fw (ro : Option Nat) : Fence := { Fence.wide with round := ro }
theorem np {ro : Option Nat} {n m : Nat} {P : Program} {f : FuncId} {args : Array Value} {R : Ending → World → Prop} (h : CallsIn Fence.wide n P f args W R) : CallsIn (Fw ro) m P f args W R :=
 ⟨trivial, fun cs _ => h.2 cs (fun d hd => by cases hd)⟩
def Ctx.more (c : Ctx) (A' : Nat → Prop) : Ctx := { c with A := A' }
section more
variable {c : Ctx} {W W' : World} {A' : Nat → Prop} (s : Sim c W) (h1 : ∀ b, c.A b → A' b) (h2 : ∀ b, A' b → c.A b ∨ W.heap.size ≤ b) (h3 : ∀ b, A' b → b < W'.heap.size) (hb : RowKit.Below W.heap.size W W')
include h1 h2 hb
theorem Ext.more : Ext c W (c.more A') W' where
 A := h1
 newA b hA := (h2 b hA).imp id .inl
 used _ h := h
 live _ _ h := h
 φ _ _ _ := rfl
 room _ _ _ := rfl
 keep b hlt _ := hb.block b hlt
 old γ h _ := ⟨γ, h, rfl⟩
 size := hb.size
 os := hb.os
 tape := hb.tape
 output := hb.output
include s h3
theorem Sim.more : Sim (c.more A') W' := by
 have ab := (Ext.more h1 h2 hb).abides s
 refine ⟨s.used, fun β o ho => ?_, fun β hl => qZd (s.lt β hl) hb.size, fun β hl hA => ?_, s.inj, h3⟩
 ·have hl : c.live β := by
   have : c.H β = some o := ho
   simp [Ctx.live, this]
  refine (s.obj β o ho).abides ab (s.used β hl) hl (hb.block _ (s.lt β hl)) ?_
  intro st pe tm ps as bo df e
  subst e
  exact s.loopOk ho
 ·rcases h2 _ hA with h | h
  ·exact s.notA β hl h
  ·have := s.lt β hl
   have h' : W.heap.size ≤ c.φ β := h
   omega
end more
mutual
def sealV (H : Nat → Option Vo) : Nat → VV → Option VV
 | 0, _ => none
 | n + 1, x => if x.tree then some x else
  match x with
  | .ref β off len es _ => match H β with
   | some (.cells _ cs) => if off ≤ cs.length then (aW H n ((cs.drop off).take (len * es))).map fun l => .sl l len false else none
   | _ => none
  | .ptr β off => match H β with
   | some (.cells _ cs) => if off ≤ cs.length then (aW H n (cs.drop off)).map .tp else none
   | _ => none
  | .agg cs => (aW H n cs).map .agg
  | .tup cs => (aW H n cs).map .tup
  | .fn f a b => match aW H n a, aW H n b with
   | some a, some b => some (.fn f a b)
   | _, _ => none
  | .ifc t x => (sealV H n x).map (.ifc t)
  | .mp β => match H β with
   | some (.map es) => (aW H n (es.map (·.2))).map fun l => .mt (es.map (·.1)) l
   | _ => none
  | .mt ks vs => (aW H n vs).map (.mt ks)
  | _ => none
def aW (H : Nat → Option Vo) : Nat → List VV → Option (List VV)
 | 0, _ => none
 | _ + 1, [] => some []
 | n + 1, x :: xs => match sealV H n x, aW H n xs with
  | some y, some ys => some (y :: ys)
  | _, _ => none
end
def heldIn (c : Ctx) (H0 : Nat → Option Vo) (b : Nat) : Prop := c.A b ∨ ∃ β, (H0 β).isSome = true ∧ c.φ β = b
variable {H0 : Nat → Option Vo}
theorem GB {x : VV} {v : Value} (ht : x.tree = true) (h : Rep c W x v) : Rep (PCtx (heldIn c H0)) W x v := by
 have h1 := za ht h
 have ab : Abides (PCtx c.A) W (PCtx (heldIn c H0)) W := mD (fun b hb => Or.inl hb)
 exact Rep.abides ab _ h1
theorem rn (s : Sim c W) (hs : aj H0 c.H) : ∀ (n : Nat),
  (∀ x v y, sealV H0 n x = some y → Rep c W x v → Rep (PCtx (heldIn c H0)) W y v) ∧
  (∀ xs l ys, aW H0 n xs = some ys → Rl c W xs l → Rl (PCtx (heldIn c H0)) W ys l) := by
 intro n
 induction n with
 | zero => exact ⟨fun x v y h _ => by simp [sealV] at h, fun xs l ys h _ => by simp [aW] at h⟩
 | succ n ih =>
  have cells : ∀ {b o : Nat} {xs ys : List VV}, aW H0 n xs = some ys → Rc c W b o xs → Rc (PCtx (heldIn c H0)) W b o ys := by
   intro b o xs ys h hc
   obtain ⟨l, hl, hcell⟩ := Rc.list hc
   exact Rc.of_cells (ih.2 _ _ _ h hl) hcell
  constructor
  ·intro x v y h hr
   unfold sealV at h
   split at h
   ·rename_i ht
    cases h
    exact GB ht hr
   ·split at h
    ·rename_i β off len es cp _
     split at h
     ·rename_i cs hβ
      split at h
      ·rename_i hle
       obtain ⟨ys, hys, e⟩ := omap h
       subst e
       have aH := hs β _ hβ
       obtain ⟨cap, hv, hcap, _, _⟩ := hr.2 (by simp [Ctx.live, aH])
       have hc := Rc.take (len * es) (Rc.drop off (Rc.of_obj s aH))
       have := cells hys hc
       exact ⟨_, cap, hv, hcap, fun h => by simp at h, .inr ⟨_, _, rfl, .inr ⟨β, by simp [hβ], rfl⟩, by simpa using this⟩⟩
      ·cases h
     ·cases h
    ·rename_i β off _
     split at h
     ·rename_i cs hβ
      split at h
      ·rename_i hle
       obtain ⟨ys, hys, e⟩ := omap h
       subst e
       have aH := hs β _ hβ
       have hv := hr.2 (by simp [Ctx.live, aH])
       have hc := Rc.drop off (Rc.of_obj s aH)
       have := cells hys hc
       exact ⟨_, _, hv, .inr ⟨β, by simp [hβ], rfl⟩, by simpa using this⟩
      ·cases h
     ·cases h
    ·obtain ⟨ys, hys, e⟩ := omap h
     subst e
     obtain ⟨l, e, hl⟩ := hr
     exact ⟨l, e, ih.2 _ _ _ hys hl⟩
    ·obtain ⟨ys, hys, e⟩ := omap h
     subst e
     obtain ⟨l, e, hl⟩ := hr
     exact ⟨l, e, ih.2 _ _ _ hys hl⟩
    ·split at h
     ·rename_i a b ha hb
      cases h
      obtain ⟨l, m, e, hl, hm⟩ := hr
      exact ⟨l, m, e, ih.2 _ _ _ ha hl, ih.2 _ _ _ hb hm⟩
     ·cases h
    ·obtain ⟨ys, hys, e⟩ := omap h
     subst e
     obtain ⟨u, e, hu⟩ := hr
     exact ⟨u, e, ih.1 _ _ _ hys hu⟩
    ·rename_i β _
     split at h
     ·rename_i es hβ
      obtain ⟨ys, hys, e⟩ := omap h
      subst e
      have aH := hs β _ hβ
      have hv := hr.2 (by simp [Ctx.live, aH])
      obtain ⟨ents, clk, h1, h2, h3⟩ := s.obj β _ aH
      exact ⟨_, hv, .inr ⟨β, by simp [hβ], rfl⟩, ents, clk, h1, h2, ih.2 _ _ _ hys h3⟩
     ·cases h
    ·obtain ⟨ys, hys, e⟩ := omap h
     subst e
     obtain ⟨b, e, hA, ents, clk, h1, h2, h3⟩ := hr
     exact ⟨b, e, .inl hA, ents, clk, h1, h2, ih.2 _ _ _ hys h3⟩
    ·cases h
  ·intro xs l ys h hr
   cases xs with
   | nil => simp [aW] at h; subst h; exact hr
   | cons x xs =>
    obtain ⟨u, us, e, h1, h2⟩ := hr
    unfold aW at h
    split at h
    ·rename_i y ys' hy hys
     cases h
     exact ⟨u, us, e, ih.1 _ _ _ hy h1, ih.2 _ _ _ hys h2⟩
    ·cases h
mutual
def VV.flat : VV → Bool
 | .any | .lit _ => true
 | .agg cs => flatL cs
 | .tup cs => flatL cs
 | .sl cs _ _ => cs.isEmpty
 | .fn _ a b => flatL a && flatL b
 | .ifc _ x => x.flat
 | .tp _ | .ref .. | .ptr .. | .mp _ | .it _ | .yl _ | .mt _ _ => false
def flatL : List VV → Bool
 | [] => true
 | x :: xs => x.flat && flatL xs
end
mutual
theorem CZ {c c' : Ctx} {W W' : World} : ∀ {x : VV} {v : Value}, x.flat = true → Rep c W x v → Rep c' W' x v
 | .any, _, _, _ => trivial
 | .lit _, _, _, h => h
 | .agg cs, _, ht, ⟨l, e, h⟩ => ⟨l, e, um (by simpa [VV.flat] using ht) h⟩
 | .tup cs, _, ht, ⟨l, e, h⟩ => ⟨l, e, um (by simpa [VV.flat] using ht) h⟩
 | .sl cs _ _, _, ht, ⟨aa, cap, e, h1, h2, h3⟩ => ⟨aa, cap, e, h1, h2, .inl (by simpa [VV.flat] using ht)⟩
 | .fn _ a b, _, ht, ⟨l, m, e, h1, h2⟩ => by
  simp [VV.flat] at ht
  exact ⟨l, m, e, um ht.1 h1, um ht.2 h2⟩
 | .ifc _ x, _, ht, ⟨u, e, h⟩ => ⟨u, e, CZ (by simpa [VV.flat] using ht) h⟩
 | .tp _, _, ht, _ => by simp [VV.flat] at ht
 | .ref .., _, ht, _ => by simp [VV.flat] at ht
 | .ptr .., _, ht, _ => by simp [VV.flat] at ht
 | .mp _, _, ht, _ => by simp [VV.flat] at ht
 | .mt _ _, _, ht, _ => by simp [VV.flat] at ht
 | .it _, _, ht, _ => by simp [VV.flat] at ht
 | .yl _, _, ht, _ => by simp [VV.flat] at ht
theorem um {c c' : Ctx} {W W' : World} : ∀ {xs : List VV} {l : List Value}, flatL xs = true → Rl c W xs l → Rl c' W' xs l
 | [], _, _, h => h
 | x :: xs, _, ht, ⟨u, us, e, h1, h2⟩ => by
  simp [flatL] at ht
  exact ⟨u, us, e, CZ ht.1 h1, um ht.2 h2⟩
end
mutual
def nmV (H : Nat → Option Vo) : Nat → VV → List Nat
 | 0, _ => []
 | n + 1, x => if x.tree then [] else
  match x with
  | .ref β off len es _ => β :: (match H β with
   | some (.cells _ cs) => nmL H n ((cs.drop off).take (len * es))
   | _ => [])
  | .ptr β off => β :: (match H β with
   | some (.cells _ cs) => nmL H n (cs.drop off)
   | _ => [])
  | .agg cs => nmL H n cs
  | .tup cs => nmL H n cs
  | .fn _ a b => nmL H n a ++ nmL H n b
  | .ifc _ x => nmV H n x
  | .mp β => β :: (match H β with
   | some (.map es) => nmL H n (es.map (·.2))
   | _ => [])
  | .mt _ vs => nmL H n vs
  | _ => []
def nmL (H : Nat → Option Vo) : Nat → List VV → List Nat
 | 0, _ => []
 | _ + 1, [] => []
 | n + 1, x :: xs => nmV H n x ++ nmL H n xs
end
theorem Sn {H H' : Nat → Option Vo} : ∀ (n : Nat),
  (∀ x, (∀ β ∈ nmV H n x, H' β = H β) → sealV H' n x = sealV H n x ∧ nmV H' n x = nmV H n x) ∧
  (∀ l, (∀ β ∈ nmL H n l, H' β = H β) → aW H' n l = aW H n l ∧ nmL H' n l = nmL H n l) := by
 intro n
 induction n with
 | zero => exact ⟨fun x _ => ⟨by simp [sealV], by simp [nmV]⟩, fun l _ => ⟨by simp [aW], by simp [nmL]⟩⟩
 | succ n ih =>
  constructor
  ·intro x h
   unfold sealV nmV
   unfold nmV at h
   cases ht : x.tree with
   | true => simp
   | false =>
    simp only [ht, Bool.false_eq_true, if_false] at h ⊢
    cases x with
    | ref β off len es cp =>
     have h0 := h β qZb
     simp only [h0]
     cases hb : H β with
     | none => simp
     | some o =>
      cases o with
      | cells _ cs =>
       have h1 := ih.2 ((cs.drop off).take (len * es)) fun β' hb' => h β' (qZa _ (by rw [hb]; exact hb'))
       simp only [h1.1, h1.2, and_self]
      | _ => simp
    | ptr β off =>
     have h0 := h β qZb
     simp only [h0]
     cases hb : H β with
     | none => simp
     | some o =>
      cases o with
      | cells _ cs =>
       have h1 := ih.2 (cs.drop off) fun β' hb' => h β' (qZa _ (by rw [hb]; exact hb'))
       simp only [h1.1, h1.2, and_self]
      | _ => simp
    | agg cs => have h1 := ih.2 cs h; simp only [h1.1, h1.2, and_self]
    | tup cs => have h1 := ih.2 cs h; simp only [h1.1, h1.2, and_self]
    | fn f a b =>
     have h1 := ih.2 a fun β hb => h β (List.mem_append_left _ hb)
     have h2 := ih.2 b fun β hb => h β (List.mem_append_right _ hb)
     simp only [h1.1, h1.2, h2.1, h2.2, and_self]
    | ifc t x => have h1 := ih.1 x h; simp only [h1.1, h1.2, and_self]
    | mp β =>
     have h0 := h β qZb
     simp only [h0]
     cases hb : H β with
     | none => simp
     | some o =>
      cases o with
      | map es =>
       have h1 := ih.2 (es.map (·.2)) fun β' hb' => h β' (qZa _ (by rw [hb]; exact hb'))
       simp only [h1.1, h1.2, and_self]
      | _ => simp
    | mt ks vs => have h1 := ih.2 vs h; simp only [h1.1, h1.2, and_self]
    | _ => simp
  ·intro l h
   cases l with
   | nil => simp [aW, nmL]
   | cons x xs =>
    unfold nmL at h
    have h1 := ih.1 x fun β hb => h β (List.mem_append_left _ hb)
    have h2 := ih.2 xs fun β hb => h β (List.mem_append_right _ hb)
    unfold aW nmL
    simp only [h1.1, h1.2, h2.1, h2.2, and_self]
end Go.V
end
section
namespace Go.V
open Go
def aX (P : Program) (G : Gb) (f : FuncId) (args : List VV) (H : Nat → Option Vo) (nx : Nat) (R : VV → (Nat → Option Vo) → Nat → Prop) (Rp : VV → (Nat → Option Vo) → Nat → Prop) : Prop :=
  Callable P f ∧ ∀ c W vs, Sim c W → c.H = H → (∀ β, c.used β → β < nx) → GOk G c W → Rl c W args vs →
    CallsIn Fence.wide 0 P f ⟨vs⟩ W fun e W' => ∃ c' H' nx', Ext c W c' W' ∧ Sim c' W' ∧ c'.H = H' ∧ (∀ β, c'.used β → c.used β ∨ nx ≤ β) ∧ (∀ β, c'.used β → β < nx') ∧ nx ≤ nx' ∧
      ((∃ x v, e = .returned v ∧ Rep c' W' x v ∧ R x H' nx') ∨ (∃ x v, e = .panicked [{ v, recovered := false }] ∧ Rep c' W' x v ∧ Rp x H' nx'))
variable {P : Program} {G : Gb} {f : FuncId} {args : List VV} {H : Nat → Option Vo}
theorem aX.mono {nx : Nat} {R R' Rp Rp' : VV → (Nat → Option Vo) → Nat → Prop} (h : aX P G f args H nx R Rp) (h1 : ∀ x H n, R x H n → R' x H n)
    (h2 : ∀ x H n, Rp x H n → Rp' x H n) : aX P G f args H nx R' Rp' := by
  refine ⟨h.1, fun c W vs s hH hnx hG ha => (h.2 c W vs s hH hnx hG ha).mono ?_⟩
  rintro e W' ⟨c', H', nx', g1, g2, g3, g4, g5, g6, g7⟩
  refine ⟨c', H', nx', g1, g2, g3, g4, g5, g6, g7.imp ?_ ?_⟩
  · rintro ⟨x, v, k1, k2, k3⟩; exact ⟨x, v, k1, k2, h1 _ _ _ k3⟩
  · rintro ⟨x, v, k1, k2, k3⟩; exact ⟨x, v, k1, k2, h2 _ _ _ k3⟩
def restr (rd : List Nat) (H : Nat → Option Vo) : Nat → Option Vo := fun β => if β ∈ rd then H β else none
theorem GC (rd : List Nat) (H : Nat → Option Vo) : aj (restr rd H) H := fun x o h => by
  unfold restr at h
  split at h
  · exact h
  · cases h
mutual
def sealN (H : Nat → Option Vo) (M : Nat) : Nat → VV → Option VV
  | 0, _ => none
  | n + 1, x => if x.tree then some x else
    match x with
    | .ref β off len es cp => if β < M then (if (H β).isSome then some (.ref β off len es cp) else none) else match H β with
      | some (.cells _ cs) => if off ≤ cs.length then (sealNL H M n ((cs.drop off).take (len * es))).map fun l => .sl l len false else none
      | _ => none
    | .ptr β off => if β < M then (if (H β).isSome then some (.ptr β off) else none) else match H β with
      | some (.cells _ cs) => if off ≤ cs.length then (sealNL H M n (cs.drop off)).map .tp else none
      | _ => none
    | .mp β => if β < M then (if (H β).isSome then some (.mp β) else none) else match H β with
      | some (.map es) => (sealNL H M n (es.map (·.2))).map fun l => .mt (es.map (·.1)) l
      | _ => none
    | .agg cs => (sealNL H M n cs).map .agg
    | .tup cs => (sealNL H M n cs).map .tup
    | .fn f a b => match sealNL H M n a, sealNL H M n b with
      | some a, some b => some (.fn f a b)
      | _, _ => none
    | .ifc t x => (sealN H M n x).map (.ifc t)
    | _ => none
def sealNL (H : Nat → Option Vo) (M : Nat) : Nat → List VV → Option (List VV)
  | 0, _ => none
  | _ + 1, [] => some []
  | n + 1, x :: xs => match sealN H M n x, sealNL H M n xs with
    | some y, some ys => some (y :: ys)
    | _, _ => none
end
variable {W' : World} {M : Nat}
theorem So {c' d : Ctx} (s' : Sim c' W') (hA : ∀ b, c'.A b → d.A b) (hnew : ∀ β, M ≤ β → (c'.H β).isSome = true → d.A (c'.φ β))
    (hold : ∀ β, β < M → (c'.H β).isSome = true → d.used β ∧ (d.live β → d.φ β = c'.φ β ∧ d.room β = c'.room β)) : ∀ (n : Nat),
    (∀ x v y, sealN c'.H M n x = some y → Rep c' W' x v → Rep d W' y v) ∧ (∀ xs l ys, sealNL c'.H M n xs = some ys → Rl c' W' xs l → Rl d W' ys l) := by
  intro n
  induction n with
  | zero => exact ⟨fun x v y h _ => by simp [sealN] at h, fun xs l ys h _ => by simp [sealNL] at h⟩
  | succ n ih =>
    have cells : ∀ {b o : Nat} {xs ys : List VV}, sealNL c'.H M n xs = some ys → Rc c' W' b o xs → Rc d W' b o ys := by
      intro b o xs ys h hc
      obtain ⟨l, hl, hcell⟩ := Rc.list hc
      exact Rc.of_cells (ih.2 _ _ _ h hl) hcell
    constructor
    · intro x v y h hr
      unfold sealN at h
      split at h
      · rename_i ht
        cases h
        exact Rep.abides (mD hA) _ (za ht hr)
      · split at h
        · rename_i β off len es cp _
          split at h
          · rename_i hlt
            split at h
            · rename_i hs
              cases h
              obtain ⟨h1, h2⟩ := hold β hlt hs
              refine ⟨⟨h1, hr.1.2⟩, fun hl => ?_⟩
              obtain ⟨e1, e2⟩ := h2 hl
              rw [e1, e2]
              exact hr.2 hs
            · cases h
          · rename_i hge
            split at h
            · rename_i el cs hβ
              split at h
              · rename_i hle
                obtain ⟨ys, hys, e⟩ := omap h
                subst e
                have aH : c'.live β := by simp [Ctx.live, hβ]
                obtain ⟨cap, hv, hcap, _, _⟩ := hr.2 aH
                have hc := Rc.take (len * es) (Rc.drop off (Rc.of_obj s' hβ))
                have := cells hys hc
                exact ⟨_, cap, hv, hcap, fun h => by simp at h, .inr ⟨_, _, rfl, hnew β (by omega) (by simp [hβ]), by simpa using this⟩⟩
              · cases h
            · cases h
        · rename_i β off _
          split at h
          · rename_i hlt
            split at h
            · rename_i hs
              cases h
              obtain ⟨h1, h2⟩ := hold β hlt hs
              refine ⟨⟨h1, hr.1.2⟩, fun hl => ?_⟩
              obtain ⟨e1, e2⟩ := h2 hl
              rw [e1]
              exact hr.2 hs
            · cases h
          · rename_i hge
            split at h
            · rename_i el cs hβ
              split at h
              · rename_i hle
                obtain ⟨ys, hys, e⟩ := omap h
                subst e
                have aH : c'.live β := by simp [Ctx.live, hβ]
                have hv := hr.2 aH
                have hc := Rc.drop off (Rc.of_obj s' hβ)
                have := cells hys hc
                exact ⟨_, _, hv, hnew β (by omega) (by simp [hβ]), by simpa using this⟩
              · cases h
            · cases h
        · rename_i β _
          split at h
          · rename_i hlt
            split at h
            · rename_i hs
              cases h
              obtain ⟨h1, h2⟩ := hold β hlt hs
              refine ⟨⟨h1, hr.1.2⟩, fun hl => ?_⟩
              obtain ⟨e1, e2⟩ := h2 hl
              rw [e1]
              exact hr.2 hs
            · cases h
          · rename_i hge
            split at h
            · rename_i es hβ
              obtain ⟨ys, hys, e⟩ := omap h
              subst e
              have aH : c'.live β := by simp [Ctx.live, hβ]
              have hv := hr.2 aH
              obtain ⟨ents, clk, h1, h2, h3⟩ := s'.obj β _ hβ
              exact ⟨_, hv, hnew β (by omega) (by simp [hβ]), ents, clk, h1, h2, ih.2 _ _ _ hys h3⟩
            · cases h
        · obtain ⟨ys, hys, e⟩ := omap h
          subst e
          obtain ⟨l, e, hl⟩ := hr
          exact ⟨l, e, ih.2 _ _ _ hys hl⟩
        · obtain ⟨ys, hys, e⟩ := omap h
          subst e
          obtain ⟨l, e, hl⟩ := hr
          exact ⟨l, e, ih.2 _ _ _ hys hl⟩
        · split at h
          · rename_i a b ha hb
            cases h
            obtain ⟨l, m, e, hl, hm⟩ := hr
            exact ⟨l, m, e, ih.2 _ _ _ ha hl, ih.2 _ _ _ hb hm⟩
          · cases h
        · obtain ⟨ys, hys, e⟩ := omap h
          subst e
          obtain ⟨u, e, hu⟩ := hr
          exact ⟨u, e, ih.1 _ _ _ hys hu⟩
        · cases h
    · intro xs l ys h hr
      cases xs with
      | nil => simp [sealNL] at h; subst h; exact hr
      | cons x xs =>
        obtain ⟨u, us, e, h1, h2⟩ := hr
        unfold sealNL at h
        split at h
        · rename_i y ys' hy hys
          cases h
          exact ⟨u, us, e, ih.1 _ _ _ hy h1, ih.2 _ _ _ hys h2⟩
        · cases h
mutual
def okV (K : Nat → Bool) : VV → Bool
  | .any | .lit _ => true
  | .agg cs => okVL K cs
  | .tup cs => okVL K cs
  | .sl cs _ _ => okVL K cs
  | .tp cs => okVL K cs
  | .mt _ vs => okVL K vs
  | .ref β _ _ _ _ => K β
  | .ptr β _ => K β
  | .mp β => K β
  | .it _ | .yl _ => false
  | .fn _ a b => okVL K a && okVL K b
  | .ifc _ x => okV K x
def okVL (K : Nat → Bool) : List VV → Bool
  | [] => true
  | x :: xs => okV K x && okVL K xs
end
section ok
variable {c' d : Ctx} {W' : World} {K : Nat → Bool} (hA : ∀ b, c'.A b → d.A b) (hK : ∀ β, K β = true → d.used β ∧ c'.live β ∧ d.φ β = c'.φ β ∧ d.room β = c'.room β)
include hA hK
mutual
theorem Da : ∀ (x : VV) {v : Value}, okV K x = true → Rep c' W' x v → Rep d W' x v
  | .any, _, _, _ => trivial
  | .lit _, _, _, h => h
  | .agg cs, _, ht, ⟨l, e, h⟩ => ⟨l, e, sB cs (by simpa [okV] using ht) h⟩
  | .tup cs, _, ht, ⟨l, e, h⟩ => ⟨l, e, sB cs (by simpa [okV] using ht) h⟩
  | .sl cs _ _, _, ht, ⟨aa, cap, e, h1, h2, h3⟩ => ⟨aa, cap, e, h1, h2, h3.imp id fun ⟨b, o, e2, hb, h⟩ => ⟨b, o, e2, hA b hb, GD cs (by simpa [okV] using ht) h⟩⟩
  | .tp cs, _, ht, ⟨b, o, e, hb, h⟩ => ⟨b, o, e, hA b hb, GD cs (by simpa [okV] using ht) h⟩
  | .mt _ vs, _, ht, ⟨b, e, hb, ents, clk, h1, h2, h3⟩ => ⟨b, e, hA b hb, ents, clk, h1, h2, sB vs (by simpa [okV] using ht) h3⟩
  | .ref β off len es cp, _, ht, ⟨⟨hu, ho⟩, h⟩ => by
    obtain ⟨k1, k2, k3, k4⟩ := hK β (by simpa [okV] using ht)
    refine ⟨⟨k1, ho⟩, fun _ => ?_⟩
    rw [k3, k4]
    exact h k2
  | .ptr β off, _, ht, ⟨⟨hu, ho⟩, h⟩ => by
    obtain ⟨k1, k2, k3, k4⟩ := hK β (by simpa [okV] using ht)
    refine ⟨⟨k1, ho⟩, fun _ => ?_⟩
    rw [k3]
    exact h k2
  | .mp β, _, ht, ⟨⟨hu, ho⟩, h⟩ => by
    obtain ⟨k1, k2, k3, k4⟩ := hK β (by simpa [okV] using ht)
    refine ⟨⟨k1, ho⟩, fun _ => ?_⟩
    rw [k3]
    exact h k2
  | .it _, _, ht, _ => by simp [okV] at ht
  | .yl _, _, ht, _ => by simp [okV] at ht
  | .fn _ a b, _, ht, ⟨l, m, e, h1, h2⟩ => by
    simp [okV] at ht
    exact ⟨l, m, e, sB a ht.1 h1, sB b ht.2 h2⟩
  | .ifc _ x, _, ht, ⟨u, e, h⟩ => ⟨u, e, Da x (by simpa [okV] using ht) h⟩
theorem sB : ∀ (xs : List VV) {l : List Value}, okVL K xs = true → Rl c' W' xs l → Rl d W' xs l
  | [], _, _, h => h
  | x :: xs, _, ht, ⟨u, us, e, h1, h2⟩ => by
    simp [okVL] at ht
    exact ⟨u, us, e, Da x ht.1 h1, sB xs ht.2 h2⟩
theorem GD : ∀ (xs : List VV) {b o : Nat}, okVL K xs = true → Rc c' W' b o xs → Rc d W' b o xs
  | [], _, _, _, _ => trivial
  | x :: xs, _, _, ht, ⟨u, e, h1, h2⟩ => by
    simp [okVL] at ht
    exact ⟨u, e, Da x ht.1 h1, GD xs ht.2 h2⟩
end
end ok
def okO (K : Nat → Bool) : Option Vo → Bool
  | some (.cells _ cs) => okVL K cs
  | some (.map es) => okVL K (es.map (·.2))
  | some (.stri _ _) => true
  | _ => false
def okR (K : Nat → Bool) (H : Nat → Option Vo) : List Nat → Bool
  | [] => true
  | β :: l => okO K (H β) && okR K H l
theorem zb {K : Nat → Bool} {H : Nat → Option Vo} : ∀ {l : List Nat}, okR K H l = true → ∀ β ∈ l, okO K (H β) = true
  | [], _, β, hb => by cases hb
  | γ :: l, h, β, hb => by
    simp only [okR, Bool.and_eq_true] at h
    rcases List.mem_cons.1 hb with rfl | hb
    · exact h.1
    · exact zb h.2 β hb
theorem Db {c' d : Ctx} {K : Nat → Bool} {β : Nat} {o : Vo} (h : ObjRep c' W' β o) (hφ : d.φ β = c'.φ β) (hr : d.room β = c'.room β) (hok : okO K (some o) = true) (hA : ∀ b, c'.A b → d.A b)
    (hK : ∀ β, K β = true → d.used β ∧ c'.live β ∧ d.φ β = c'.φ β ∧ d.room β = c'.room β) : ObjRep d W' β o := by
  cases o with
  | cells el cs => obtain ⟨arr, e, h1, h2, h3, h4, h5⟩ := h; exact ⟨arr, e, by rw [hφ]; exact h1, by rw [hr]; exact h2, h3, sB hA hK cs hok h4, h5⟩
  | map es => obtain ⟨ents, clk, h1, h2, h3⟩ := h; exact ⟨ents, clk, by rw [hφ]; exact h1, h2, sB hA hK _ hok h3⟩
  | stri s pos => show W'.heap[d.φ β]? = _; rw [hφ]; exact h
  | loop _ _ _ _ _ _ _ => cases hok
  | loopF _ _ _ _ _ _ _ => cases hok
  | deferred _ => cases hok
def memQ (β : Nat) : List Nat → Bool
  | [] => false
  | γ :: l => Nat.beq β γ || memQ β l
theorem ki {β : Nat} : ∀ {l : List Nat}, memQ β l = true ↔ β ∈ l
  | [] => by simp [memQ]
  | γ :: l => by simp [memQ, ki (l := l)]
def inR (rd : List Nat) (H : Nat → Option Vo) (β : Nat) : Bool := memQ β rd && (H β).isSome
variable {rd : List Nat} {H' : Nat → Option Vo}
theorem FM (h : ∀ β ∈ rd, H' β = H β) : restr rd H' = restr rd H := by
  funext β
  unfold restr
  split
  · exact h β ‹_›
  · rfl
theorem Sb (h : ∀ β ∈ rd, H' β = H β) (hok : okR (inR rd H) H rd = true) : okR (inR rd H') H' rd = true := by
  have e : inR rd H' = inR rd H := by
    funext β
    unfold inR
    cases hm : memQ β rd with
    | false => rfl
    | true => rw [h β (ki.1 hm)]
  rw [e]
  have key : ∀ l : List Nat, (∀ β ∈ l, β ∈ rd) → okR (inR rd H) H l = true → okR (inR rd H) H' l = true := by
    intro l
    induction l with
    | nil => intro _ h; exact h
    | cons β l ih =>
      intro hl hh
      simp only [okR, Bool.and_eq_true] at hh ⊢
      refine ⟨?_, ih (fun γ hg => hl γ (qZa _ hg)) hh.2⟩
      rw [h β (hl β (qZb ..))]
      exact hh.1
  exact key rd (fun _ h => h) hok
variable {x : VV}
theorem GF {x0 : VV} {Hn : Nat → Option Vo} {c : Ctx} {W : World} {vs : List Value} (s : Sim c W)
    (hv : aX P G f args (restr rd c.H) M (fun y H1 _ => y = x0 ∧ H1 = Hn) (fun _ _ _ => False)) (hM : ∀ β, c.used β → β < M) (hG : GOk G c W) (bD : Rl c W args vs) (hpl : okR (inR rd c.H) c.H rd = true)
    (hsame : ∀ β ∈ rd, Hn β = c.H β) {n : Nat} (hx : sealN Hn M n x0 = some x) :
    CallsIn Fence.wide 0 P f ⟨vs⟩ W fun e W' => ∃ v A', e = .returned v ∧ Ext c W (c.more A') W' ∧ Sim (c.more A') W' ∧ Rep (c.more A') W' x v := by
  have bh := GC rd c.H
  have sr : Sim (c.sub (restr rd c.H)) W := Sim.sub s bh (fun y st pe tm ps as bo df hy => by
    have h1 := bh y _ hy
    have hmem : y ∈ rd := by
      unfold restr at hy
      split at hy
      · assumption
      · cases hy
    have := zb hpl y hmem
    rw [h1] at this
    cases this)
  have absub : Abides c W (c.sub (restr rd c.H)) W := (Ext.sub (W := W) bh).abides s
  refine (hv.2 (c.sub (restr rd c.H)) W vs sr rfl hM (hG.abides absub) (Rl.abides absub _ bD)).mono ?_
  rintro e W' ⟨c', H', nx', aM, s', hH', hu, hu', hle, hres⟩
  rcases hres with ⟨y, v, rfl, hrv, rfl, rfl⟩ | ⟨_, _, _, _, hf⟩
  · have hlive_rd : ∀ β, β < M → c'.live β → β ∈ rd ∧ c.live β := by
      intro β hlt hl
      have huc : c.used β := by
        rcases hu β (s'.used β hl) with h | h
        · exact h
        · omega
      have nq : (c.sub (restr rd c.H)).live β := aM.live β huc hl
      have lU : (restr rd c.H β).isSome = true := nq
      refine ⟨?_, bh.live lU⟩
      unfold restr at lU
      split at lU
      · assumption
      · cases lU
    have hrd : ∀ β ∈ rd, c.live β → c'.live β ∧ c'.φ β = c.φ β ∧ c'.room β = c.room β := by
      intro β hb hl
      have e1 : c'.H β = c.H β := by rw [hH']; exact hsame β hb
      have hl' : c'.live β := by unfold Ctx.live; rw [e1]; exact hl
      exact ⟨hl', aM.φ β (s.used β hl) hl', aM.room β (s.used β hl) hl'⟩
    have hnewge : ∀ γ, M ≤ γ → c'.live γ → W.heap.size ≤ c'.φ γ := by
      intro γ hM' hl
      rcases Nat.lt_or_ge (c'.φ γ) W.heap.size with h | h
      · obtain ⟨β, hβ, e⟩ := aM.old γ hl h
        have hβ' : (restr rd c.H β).isSome = true := hβ
        have hcl := bh.live hβ'
        have hmem : β ∈ rd := by
          unfold restr at hβ'
          split at hβ'
          · assumption
          · cases hβ'
        obtain ⟨hl', ef, _⟩ := hrd β hmem hcl
        have e2 : c'.φ β = c'.φ γ := by rw [ef]; exact e
        have := s'.inj β γ hl' hl e2
        have hlt := hM β (s.used β hcl)
        omega
      · exact h
    have hAnot : ∀ β, c.live β → ¬ c'.A (c.φ β) := by
      intro β hl hA
      by_cases hb : β ∈ rd
      · obtain ⟨hl', ef, _⟩ := hrd β hb hl
        exact s'.notA β hl' (ef ▸ hA)
      · rcases aM.newA _ hA with h | h | ⟨δ, hδ, e⟩
        · exact s.notA β hl h
        · have := s.lt β hl; omega
        · have hδ' : (restr rd c.H δ).isSome = true := hδ
          have := s.inj δ β (bh.live hδ') hl e
          subst this
          unfold restr at hδ'
          rw [if_neg hb] at hδ'
          cases hδ'
    let A' : Nat → Prop := fun b => c'.A b ∨ ∃ γ, M ≤ γ ∧ c'.live γ ∧ c'.φ γ = b
    have hnotA' : ∀ β, c.live β → ¬ A' (c.φ β) := by
      rintro β hl (h | ⟨γ, h1, h2, h3⟩)
      · exact hAnot β hl h
      · have := hnewge γ h1 h2
        have := s.lt β hl
        omega
    have hkeep : ∀ b, b < W.heap.size → (∀ β, c.live β → β ∈ rd → c.φ β ≠ b) → W'.heap[b]? = W.heap[b]? := by
      intro b hb hn
      refine aM.keep b hb fun β hl => ?_
      have hl' : (restr rd c.H β).isSome = true := hl
      have hmem : β ∈ rd := by
        unfold restr at hl'
        split at hl'
        · assumption
        · cases hl'
      exact hn β (bh.live hl') hmem
    have he : Ext c W (c.more A') W' :=
      { A := fun b h => .inl (aM.A b h)
        newA := by
          rintro b (h | ⟨γ, h1, h2, h3⟩)
          · rcases aM.newA b h with h | h | ⟨δ, hδ, e⟩
            · exact .inl h
            · exact .inr (.inl h)
            · exact .inr (.inr ⟨δ, bh.live hδ, e⟩)
          · exact .inr (.inl (h3 ▸ hnewge γ h1 h2))
        used := fun _ h => h, live := fun _ _ h => h, φ := fun _ _ _ => rfl, room := fun _ _ _ => rfl
        keep := fun b hb hn => hkeep b hb fun β hl _ => hn β hl
        old := fun γ h _ => ⟨γ, h, rfl⟩
        size := aM.size, os := aM.os, tape := aM.tape, output := aM.output }
    have hs : Sim (c.more A') W' := by
      refine ⟨s.used, fun β o ho => ?_, fun β hl => qZd (s.lt β hl) aM.size, fun β hl => hnotA' β hl, s.inj, ?_⟩
      · have ho' : c.H β = some o := ho
        have hl : c.live β := by simp [Ctx.live, ho']
        by_cases hb : β ∈ rd
        · obtain ⟨hl', ef, er⟩ := hrd β hb hl
          have hoc : c'.H β = some o := by rw [hH', hsame β hb, ho']
          have hobj := s'.obj β o hoc
          have hpl' := zb hpl β hb
          rw [ho'] at hpl'
          refine Db hobj ef.symm er.symm hpl' (fun b h => .inl h) fun δ hδ => ?_
          simp only [inR, Bool.and_eq_true, ki] at hδ
          obtain ⟨k1, k2, k3⟩ := hrd δ hδ.1 hδ.2
          exact ⟨s.used δ hδ.2, k1, k2.symm, k3.symm⟩
        · refine (s.obj β o ho').abides (he.abides s) (s.used β hl) hl (hkeep _ (s.lt β hl) fun δ hδ hm e => hb ((s.inj δ β hδ hl e) ▸ hm)) ?_
          intro st pe tm ps as bo df e
          subst e
          exact s.loopOk ho'
      · rintro b (h | ⟨γ, h1, h2, h3⟩)
        · exact s'.ltA b h
        · exact h3 ▸ s'.lt γ h2
    refine ⟨v, A', rfl, he, hs, ?_⟩
    refine (So (d := c.more A') s' (M := M) (fun b h => .inl h) (fun β h1 h2 => .inr ⟨β, h1, h2, rfl⟩) (fun β hlt hsm => ?_) n).1 y v x (by rw [hH']; exact hx) hrv
    obtain ⟨hmem, hcl⟩ := hlive_rd β hlt hsm
    obtain ⟨_, ef, er⟩ := hrd β hmem hcl
    exact ⟨s.used β hcl, fun _ => ⟨ef.symm, er.symm⟩⟩
  · exact hf.elim
def SealP (H : Nat → Option Vo) (M : Nat) (y x : VV) : Prop := ∃ n y0, sealN H M n y = some y0 ∧ ∀ (c : Ctx) (W : World) u, Rep c W y0 u → Rep c W x u
def SealQ (H : Nat → Option Vo) (β M : Nat) (y x : VV) : Prop := (∀ δ, (H δ).isSome = true → δ ≠ β → M ≤ δ) → SealP H M y x
def UpdC (P : Program) (G : Gb) (f : FuncId) (args : List VV) (H : Nat → Option Vo) (nx β : Nat) (es' : List (Value × VV)) (x : VV) : Prop :=
  ∃ es, H β = some (.map es) ∧ okVL (fun _ => false) (es'.map (·.2)) = true ∧
    aX P G f args (restr [β] H) nx (fun y H1 _ => H1 β = some (.map es') ∧ SealQ H1 β nx y x) (fun _ _ _ => False)
variable {es' : List (Value × VV)}
theorem UpdC.congr {nx β : Nat} (h : UpdC P G f args H nx β es' x) (hβ : H' β = H β) : UpdC P G f args H' nx β es' x := by
  obtain ⟨es, h1, h2, h3⟩ := h
  refine ⟨es, hβ.trans h1, h2, ?_⟩
  rw [FM (rd := [β]) (H := H) (H' := H') (fun γ hγ => by rw [List.mem_singleton.1 hγ]; exact hβ)]
  exact h3
theorem GG {β0 : Nat} {es : List (Value × VV)} {c : Ctx} {W : World} {vs : List Value} (s : Sim c W) (hes : c.H β0 = some (.map es)) (hfl : okVL (fun _ => false) (es'.map (·.2)) = true)
    (hv : aX P G f args (restr [β0] c.H) M (fun y H1 _ => H1 β0 = some (.map es') ∧ SealQ H1 β0 M y x) (fun _ _ _ => False)) (hM : ∀ β, c.used β → β < M) (hG : GOk G c W) (bD : Rl c W args vs) :
    CallsIn Fence.wide 0 P f ⟨vs⟩ W fun e W' => ∃ v A', e = .returned v ∧ Ext c W ((c.more A').upd β0 (.map es')) W' ∧ Sim ((c.more A').upd β0 (.map es')) W' ∧ Rep ((c.more A').upd β0 (.map es')) W' x v := by
  have bh := GC [β0] c.H
  have gR : c.live β0 := by simp [Ctx.live, hes]
  have sr : Sim (c.sub (restr [β0] c.H)) W := Sim.sub s bh (fun y st pe tm ps as bo df hy => by
    have h1 := bh y _ hy
    have hmem : y ∈ [β0] := by
      unfold restr at hy
      split at hy
      · assumption
      · cases hy
    rw [List.mem_singleton.1 hmem, hes] at h1
    cases h1)
  have absub : Abides c W (c.sub (restr [β0] c.H)) W := (Ext.sub (W := W) bh).abides s
  refine (hv.2 (c.sub (restr [β0] c.H)) W vs sr rfl hM (hG.abides absub) (Rl.abides absub _ bD)).mono ?_
  rintro e W' ⟨c', H', nx', aM, s', hH', hu, hu', hle, hres⟩
  rcases hres with ⟨y, v, rfl, hrv, hmap, hsq⟩ | ⟨_, _, _, _, hf⟩
  · subst hH'
    have hl0' : c'.live β0 := by simp [Ctx.live, hmap]
    have hlive_rd : ∀ β, β < M → c'.live β → β = β0 := by
      intro β hlt hl
      have huc : c.used β := by
        rcases hu β (s'.used β hl) with h | h
        · exact h
        · omega
      have nq : (c.sub (restr [β0] c.H)).live β := aM.live β huc hl
      have lU : (restr [β0] c.H β).isSome = true := nq
      unfold restr at lU
      split at lU
      · rename_i hm; exact List.mem_singleton.1 hm
      · cases lU
    obtain ⟨n, y0, hx, hweak⟩ := hsq (fun δ hδ hne => by
      rcases Nat.lt_or_ge δ M with h | h
      · exact absurd (hlive_rd δ h hδ) hne
      · exact h)
    have ef : c'.φ β0 = c.φ β0 := aM.φ β0 (s.used β0 gR) hl0'
    have er : c'.room β0 = c.room β0 := aM.room β0 (s.used β0 gR) hl0'
    have onlyβ : ∀ β, (c.sub (restr [β0] c.H)).live β → β = β0 := by
      intro β hl
      have lU : (restr [β0] c.H β).isSome = true := hl
      unfold restr at lU
      split at lU
      · rename_i hm; exact List.mem_singleton.1 hm
      · cases lU
    have hnewge : ∀ γ, M ≤ γ → c'.live γ → W.heap.size ≤ c'.φ γ := by
      intro γ hM' hl
      rcases Nat.lt_or_ge (c'.φ γ) W.heap.size with h | h
      · obtain ⟨β, hβ, e⟩ := aM.old γ hl h
        have := onlyβ β hβ
        subst this
        have e2 : c'.φ β = c'.φ γ := by rw [ef]; exact e
        have := s'.inj β γ hl0' hl e2
        have hlt := hM β (s.used β gR)
        omega
      · exact h
    have hAnot : ∀ β, c.live β → ¬ c'.A (c.φ β) := by
      intro β hl hA
      by_cases hb : β = β0
      · subst hb
        exact s'.notA β hl0' (ef ▸ hA)
      · rcases aM.newA _ hA with h | h | ⟨δ, hδ, e⟩
        · exact s.notA β hl h
        · have := s.lt β hl; omega
        · have h1 := onlyβ δ hδ
          subst h1
          exact hb (s.inj δ β gR hl e).symm
    let A' : Nat → Prop := fun b => c'.A b ∨ ∃ γ, M ≤ γ ∧ c'.live γ ∧ c'.φ γ = b
    have hnotA' : ∀ β, c.live β → ¬ A' (c.φ β) := by
      rintro β hl (h | ⟨γ, h1, h2, h3⟩)
      · exact hAnot β hl h
      · have := hnewge γ h1 h2
        have := s.lt β hl
        omega
    have hkeep : ∀ b, b < W.heap.size → c.φ β0 ≠ b → W'.heap[b]? = W.heap[b]? := by
      intro b hb hn
      refine aM.keep b hb fun β hl => ?_
      rw [onlyβ β hl]
      exact hn
    have aH : ∀ γ, ((c.more A').upd β0 (.map es')).live γ ↔ c.live γ := fun γ => Ctx.upd_live (c := c.more A') gR
    have he : Ext c W ((c.more A').upd β0 (.map es')) W' :=
      { A := fun b h => .inl (aM.A b h)
        newA := by
          rintro b (h | ⟨γ, h1, h2, h3⟩)
          · rcases aM.newA b h with h | h | ⟨δ, hδ, e⟩
            · exact .inl h
            · exact .inr (.inl h)
            · exact .inr (.inr ⟨δ, bh.live hδ, e⟩)
          · exact .inr (.inl (h3 ▸ hnewge γ h1 h2))
        used := fun _ h => h, live := fun γ _ h => (aH γ).1 h, φ := fun _ _ _ => rfl, room := fun _ _ _ => rfl
        keep := fun b hb hn => hkeep b hb (hn β0 gR)
        old := fun γ h _ => ⟨γ, (aH γ).1 h, rfl⟩
        size := aM.size, os := aM.os, tape := aM.tape, output := aM.output }
    have hs : Sim ((c.more A').upd β0 (.map es')) W' := by
      refine ⟨fun γ h => s.used γ ((aH γ).1 h), fun β o ho => ?_, fun β hl => qZd (s.lt β ((aH β).1 hl)) aM.size, fun β hl => hnotA' β ((aH β).1 hl), fun β γ h1 h2 e => s.inj β γ ((aH β).1 h1) ((aH γ).1 h2) e, ?_⟩
      · by_cases hb : β = β0
        · subst hb
          have eo : o = .map es' := by
            have : ((c.more A').upd β (.map es')).H β = some (.map es') := by simp [Ctx.upd]
            rw [this] at ho; cases ho; rfl
          subst eo
          refine Db (c' := c') (s'.obj β _ hmap) ef.symm er.symm (K := fun _ => false) hfl (fun b h => .inl h) (fun δ hδ => by cases hδ)
        · have Wa : (c.more A').H β = some o := by simpa [Ctx.upd, hb] using ho
          have ho' : c.H β = some o := Wa
          have hl : c.live β := by simp [Ctx.live, ho']
          refine (s.obj β o ho').abides (he.abides s) (s.used β hl) ((aH β).2 hl) (hkeep _ (s.lt β hl) fun e => hb (s.inj β0 β gR hl e).symm) ?_
          intro st pe tm ps as bo df e
          subst e
          obtain ⟨ds, hds⟩ := s.loopOk ho'
          have hne : df ≠ β0 := by intro e; subst e; rw [hes] at hds; cases hds
          have hds' : (c.more A').H df = some (.deferred ds) := hds
          exact ⟨ds, by simpa [Ctx.upd, hne] using hds'⟩
      · rintro b (h | ⟨γ, h1, h2, h3⟩)
        · exact s'.ltA b h
        · exact h3 ▸ s'.lt γ h2
    refine ⟨v, A', rfl, he, hs, ?_⟩
    refine hweak _ _ _ ?_
    refine (So (d := (c.more A').upd β0 (.map es')) s' (M := M) (fun b h => .inl h) (fun β h1 h2 => .inr ⟨β, h1, h2, rfl⟩) (fun β hlt hsm => ?_) n).1 y v y0 hx hrv
    have := hlive_rd β hlt hsm
    subst this
    exact ⟨s.used β gR, fun _ => ⟨ef.symm, er.symm⟩⟩
  · exact hf.elim
def NewC (P : Program) (G : Gb) (f : FuncId) (args cs : List VV) : Prop :=
  Callable P f ∧ ∀ A W vs, (∀ b, A b → b < W.heap.size) → GOk G (PCtx A) W → Rl (PCtx A) W args vs →
    CallsIn Fence.wide 0 P f ⟨vs⟩ W fun e W' => ∃ A' : Nat → Prop, (∀ b, A b → A' b) ∧ (∀ b, A' b → A b ∨ W.heap.size ≤ b) ∧ (∀ b, A' b → b < W'.heap.size) ∧
      RowKit.Below W.heap.size W W' ∧ ∃ l b ents clk, e = .returned (.agg ⟨l ++ [.map (some b)]⟩) ∧ Rl (PCtx A') W' cs l ∧ W.heap.size ≤ b ∧ b < W'.heap.size ∧ ¬ A' b ∧ W'.heap[b]? = some (.map ents clk) ∧ ents.toList = []
theorem Sp {c : Ctx} {W : World} {x : VV} : ∀ {xs : List VV} {l : List Value}, Rl c W (xs ++ [x]) l → ∃ l' v, l = l' ++ [v] ∧ Rl c W xs l' ∧ Rep c W x v
  | [], l, ⟨u, us, e, h1, h2⟩ => by
    have h2' : us = [] := h2
    subst h2' e
    exact ⟨[], u, rfl, rfl, h1⟩
  | y :: xs, l, ⟨u, us, e, h1, h2⟩ => by
    obtain ⟨l', v, e2, h3, h4⟩ := Sp h2
    subst e e2
    exact ⟨u :: l', v, rfl, ⟨u, l', rfl, h1, h3⟩, h4⟩
end Go.V
end
section
namespace Go.V
open Go
def recvV (P : Program) (m : String) : VV → VV
 | .ifc t x => match mfun P t m with
  | some f => .fn (.func f) [x] []
  | none => .any
 | _ => .any
theorem Ek (P : Program) (m : String) (x : VV) {β : Nat} : recvV P m x ≠ .yl β := by
 unfold recvV
 split
 ·split <;> simp
 ·simp
def callee? (P : Program) (G : Gb) (st : St) : Op → Option (FuncId × List VV)
 | .call k =>
  match k.callee with
  | .value fo => match st.ρ G fo with
   | .fn (.func f) first captured => some (f, first ++ k.args.toList.map (st.ρ G) ++ captured)
   | _ => none
  | .invoke r m => match recvV P m (st.ρ G r) with
   | .fn (.func f) first captured => some (f, first ++ k.args.toList.map (st.ρ G) ++ captured)
   | _ => none
  | _ => none
 | _ => none
variable {P : Program} {G : Gb} {c : Ctx} {W : World} {a : Act} {o : Oper}
theorem oa {st : St} (hr : Sr G c W st a) {f : FuncId} {args : List VV} (h : callee? P G st o.op = some (f, args)) (hc : Callable P f) :
  ∃ vs, Rl c W args vs ∧ (execOp a.eval o).run P W = .ok (.enter f ⟨vs⟩) W ∧ (∀ k, o.op ≠ .defer k) := by
 unfold callee? at h
 split at h
 ·rename_i k hk
  split at h
  ·rename_i fo hfo
   split at h
   ·rename_i g first captured hρ
    cases h
    have h1 := hr.eval fo
    rw [hρ] at h1
    obtain ⟨l, m, e, hl, hm⟩ := h1
    refine ⟨l ++ (k.args.toList.map a.eval) ++ m, Rl.append (Rl.append hl (oL hr.eval _)) hm, ?_, fun k' => by rw [hk]; simp⟩
    have ha := hc (⟨l ++ (k.args.toList.map a.eval) ++ m⟩) W
    rw [← ha]
    have e2 : (⟨l⟩ ++ k.args.map a.eval ++ ⟨m⟩ : Array Value) = ⟨l ++ k.args.toList.map a.eval ++ m⟩ := by
     apply Array.ext'; simp
    simp only [execOp, hk, resolve, hfo, Deferred.ofValue, e, pure_bind, invoke, e2]
   ·cases h
  ·rename_i r m Dc
   split at h
   ·rename_i g first captured hρ
    cases h
    have h1 := hr.eval r
    cases hx : st.ρ G r with
    | ifc t x =>
     rw [hx] at hρ h1
     simp only [recvV] at hρ
     split at hρ
     ·rename_i f hf
      cases hρ
      obtain ⟨u, e, hu⟩ := h1
      refine ⟨[u] ++ (k.args.toList.map a.eval) ++ [], Rl.append (Rl.append ⟨u, [], rfl, hu, rfl⟩ (oL hr.eval _)) rfl, ?_, fun k' => by rw [hk]; simp⟩
      have ha := hc (⟨[u] ++ (k.args.toList.map a.eval) ++ []⟩) W
      rw [← ha]
      have hp : (program).run P W = .ok P W := rfl
      simp only [execOp, hk, resolve, Dc, e, pure_bind, invoke]
      have e3 : (#[Value.iface t u] ++ Array.map a.eval k.args)[0]? = some (.iface t u) := by rw [Array.getElem?_append_left (by simp)]; rfl
      have e4 : (#[Value.iface t u] ++ Array.map a.eval k.args).extract 1 = Array.map a.eval k.args := by
       apply Array.ext'; simp; exact List.take_of_length_le (by simp)
      have hm := FZ hf (P.types.size + 99) u W
      have e5 : P.types.size + Made.depth = P.types.size + 99 + 1 := rfl
      simp only [e3, e4, callMethod, Sem.run_bind, hp, Result.andThen_ok, e5, hm]
      congr 2
      apply Array.ext'; simp
     ·cases hρ
    | _ => rw [hx] at hρ; cases hρ
   ·cases h
  ·cases h
 ·cases h
abbrev fuelS : Nat := 100000
inductive QStep (P : Program) (G : Gb) (ops : Array Oper) (aa i : Nat) (o : Oper) : St → St → List Nat → List Nat → Prop
 | skip {st : St} : aO ops st.tm o = some false → QStep P G ops aa i o st (st.put o.dst (.lit undef)) [] []
 | op {st : St} {x : VV} {eff : Ve} : aO ops st.tm o = some true → vop P o (st.ρ G) st.H (aa + i) = some (x, eff) →
   QStep P G ops aa i o st { st.put o.dst x with H := eff.app (aa + i) st.H } (rdV o (st.ρ G)) (eff.wr (aa + i))
 | call {st : St} {f : FuncId} {args : List VV} {x : VV} : aO ops st.tm o = some true → callee? P G st o.op = some (f, args) → tl args = true → ah P G f args (.tree x) →
   QStep P G ops aa i o st (st.put o.dst x) [] []
 | callOwn {st : St} {f : FuncId} {args cs : List VV} {len es : Nat} : aO ops st.tm o = some true → callee? P G st o.op = some (f, args) → tl args = true → ah P G f args (.own cs len es) →
   QStep P G ops aa i o st { st.put o.dst (.ref (aa + i) 0 len es len) with H := (Ve.new (.cells none cs)).app (aa + i) st.H } [] [aa + i]
 | callSeen {st : St} {f : FuncId} {args args' : List VV} {x : VV} : aO ops st.tm o = some true → callee? P G st o.op = some (f, args) → aW st.H fuelS args = some args' → ah P G f args' (.tree x) → x.flat = true →
   QStep P G ops aa i o st (st.put o.dst x) (nmL st.H fuelS args) []
 | callSeenOwn {st : St} {f : FuncId} {args args' cs : List VV} {len es : Nat} : aO ops st.tm o = some true → callee? P G st o.op = some (f, args) → aW st.H fuelS args = some args' → ah P G f args' (.own cs len es) → flatL cs = true →
   QStep P G ops aa i o st { st.put o.dst (.ref (aa + i) 0 len es len) with H := (Ve.new (.cells none cs)).app (aa + i) st.H } (nmL st.H fuelS args) [aa + i]
 | callFrame {st : St} {f : FuncId} {args : List VV} {rd : List Nat} {x0 x : VV} {Hn : Nat → Option Vo} {n : Nat} : aO ops st.tm o = some true → callee? P G st o.op = some (f, args) →
   aX P G f args (restr rd st.H) st.nx (fun y H1 _ => y = x0 ∧ H1 = Hn) (fun _ _ _ => False) → okR (inR rd st.H) st.H rd = true → (∀ β ∈ rd, Hn β = st.H β) → sealN Hn st.nx n x0 = some x →
   QStep P G ops aa i o st (st.put o.dst x) rd []
 | callUpd {st : St} {f : FuncId} {args : List VV} {β : Nat} {es' : List (Value × VV)} {x : VV} : aO ops st.tm o = some true → callee? P G st o.op = some (f, args) → UpdC P G f args st.H st.nx β es' x →
   QStep P G ops aa i o st { st.put o.dst x with H := (Ve.upd β (.map es')).app (aa + i) st.H } [β] [β]
 | callNew {st : St} {f : FuncId} {args cs : List VV} : aO ops st.tm o = some true → callee? P G st o.op = some (f, args) → tl args = true → NewC P G f args cs →
   QStep P G ops aa i o st { st.put o.dst (.agg (cs ++ [.mp (aa + i)])) with H := (Ve.new (.map [])).app (aa + i) st.H } [] [aa + i]
variable {dst : Option Tmp} {x : VV}
theorem Sr.step {c' : Ctx} {W' : World} {st : St} (hr : Sr G c W st a) (ab : Abides c W c' W') {v : Value} {H' : Nat → Option Vo} (hH : c'.H = H') (hx : Rep c' W' x v)
  (hd : ∀ d, dst = some d → d < a.tmps.size) (hu : ∀ β, c'.used β → β < st.nx) : Sr G c' W' { st.put dst x with H := H' } (a.put dst v) where
 H := hH
 tm := by
  have := uf (st := st) (dst := dst) (fun t => Rep.abides ab _ (hr.tm t)) hd hx
  intro t
  have h2 := this t
  cases dst <;> exact h2
 nx := by cases dst <;> exact hu
 df := by
  rw [ug]
  cases dst <;> exact hr.df.abides ab
 G := hr.G.abides ab
variable {γ : Nat}
theorem Wb {ρ : Operand → VV} {H : Nat → Option Vo} {r : VV × Ve} (h : vop P o ρ H γ = some r) : ∀ k, o.op ≠ .defer k := by
 intro k e
 simp [vop, e] at h
variable {ops : Array Oper} {aa i : Nat} {rd : List Nat}
theorem CT {ro : Option Nat} {st st' : St} {wr : List Nat} (hi : ops[i]? = some o) (hq : QStep P G ops aa i o st st' rd wr)
  (s : Sim c W) (hr : Sr G c W st a) (hd : ∀ d, o.dst = some d → d < a.tmps.size) (hγ : ¬ c.used (aa + i)) (hnx : aa + i < st.nx)
  {K : Act → World → Prop} {Q : Exit → Act → World → Prop}
  (k : ∀ a' W' c', Ext c W c' W' → Sim c' W' → Sr G c' W' st' a' → a'.tmps.size = a.tmps.size → (∀ β, c'.used β → c.used β ∨ β = aa + i) → K a' W') :
  wpOpIn (Fw ro) 0 P ops Q i K a W := by
 unfold wpOpIn
 simp only [hi]
 cases hq with
 | skip hw =>
  have hw' := j8 hr.tm hw
  rw [if_neg (by rw [hw']; simp)]
  refine ⟨fun _ _ => trivial, k _ W c (Ext.refl c W) s ?_ (by simp) fun _ h => .inl h⟩
  have := hr.step (wA rfl) (dst := o.dst) (x := .lit undef) (v := undef) (H' := st.H) hr.H rfl hd hr.nx
  cases hdst : o.dst <;> rw [hdst] at this <;> exact this
 | @op x eff hw hv =>
  have hw' := j8 hr.tm hw
  rw [if_pos hw']
  rw [← hr.H] at hv
  obtain ⟨r, v, W', c', aN, hrv, hx, he, hs, hH, hu⟩ := yX s hγ hr.eval hv
  have hK : K (a.put o.dst v) W' := k _ W' c' he hs (hr.step (he.abides s) (by rw [hH, hr.H]) hx hd (fun β hb => by
   rcases hu β hb with h | h
   ·exact hr.nx β h
   ·rw [h]; exact hnx)) (by simp) hu
  refine ⟨fun _ _ => trivial, ?_⟩
  rw [Oper.semAt_eq _ _ _ (Wb hv), aN]
  rcases hrv with rfl | ⟨rfl, rfl⟩
  ·exact hK
  ·exact hK
 | @call f args x hw hf ht hp =>
  have hw' := j8 hr.tm hw
  rw [if_pos hw']
  obtain ⟨vs, hvs, aN, hnd⟩ := oa hr hf hp.1
  refine ⟨fun _ _ => trivial, ?_⟩
  rw [Oper.semAt_eq _ _ _ hnd, aN, Oper.uponIn_enter]
  refine ⟨fun h => (by cases h), np ((hp.2 c.A W vs s.ltA (fun g cs hg => ?_) (og ht hvs)).mono ?_)⟩
  ·exact hr.G.tree g cs hg
  ·rintro e W' ⟨A', h1, h2, h3, hb, v, rfl, hx⟩
   have he := Ext.more h1 h2 hb
   have hs := Sim.more s h1 h2 h3 hb
   refine k _ W' (c.more A') he hs ?_ (by simp) (fun _ h => .inl h)
   have := hr.step (he.abides s) (dst := o.dst) (x := x) (v := v) (H' := st.H) hr.H (Rep.abides (mD (fun _ h => h)) _ hx) hd hr.nx
   cases hdst : o.dst <;> rw [hdst] at this <;> exact this
 | @callNew f args cs hw hf ht hp =>
  have hw' := j8 hr.tm hw
  rw [if_pos hw']
  obtain ⟨vs, hvs, aN, hnd⟩ := oa hr hf hp.1
  refine ⟨fun _ _ => trivial, ?_⟩
  rw [Oper.semAt_eq _ _ _ hnd, aN, Oper.uponIn_enter]
  refine ⟨fun h => (by cases h), np ((hp.2 c.A W vs s.ltA (fun g cs hg => ?_) (og ht hvs)).mono ?_)⟩
  ·exact hr.G.tree g cs hg
  ·rintro e W' ⟨A', h1, h2, h3, hb, l, b, ents, clk, rfl, q8, q2, q3, q4, q5, q6⟩
   have he := Ext.more h1 h2 hb
   have hs := Sim.more s h1 h2 h3 hb
   have hγ' : ¬ (c.more A').used (aa + i) := hγ
   have hbut : But W' W' b := But.refl W' b
   have e1 : Ext c W ((c.more A').push c.H (aa + i) (.map []) b 0) W' :=
    { Ext.push (c := c) (aj.refl _) hγ (.inl q2) ⟨fun k hk _ => hb.block k hk, hb.size, hb.os, hb.tape, hb.output⟩ with A := h1, newA := fun b hA => (h2 b hA).imp id .inl }
   have s1 : Sim ((c.more A').push c.H (aa + i) (.map []) b 0) W' := by
    have nr : Abides (c.more A') W' ((c.more A').push c.H (aa + i) (.map []) b 0) W' :=
     ⟨fun _ h => h, fun _ _ => rfl, fun _ h => .inr h, fun β hu hl => by
      rcases Ctx.push_live hl with e | ⟨_, h⟩
      ·exact absurd (e ▸ hu) hγ'
      ·exact h, fun β hu _ => by
      have : β ≠ aa + i := fun e => hγ' (e ▸ hu)
      simp [Ctx.push, this], fun β hu _ => by
      have : β ≠ aa + i := fun e => hγ' (e ▸ hu)
      simp [Ctx.push, this]⟩
    refine ⟨fun β hl => ?_, fun β ob hob => ?_, fun β hl => ?_, fun β hl => ?_, fun β δ hl hl' e => ?_, h3⟩
    ·rcases Ctx.push_live hl with e | ⟨_, h⟩
     ·exact .inl e
     ·exact .inr (s.used β h)
    ·by_cases e : β = aa + i
     ·subst e
      simp [Ctx.push] at hob
      subst hob
      exact ⟨ents, clk, by simpa [Ctx.push] using q5, by simp [q6], by rw [q6]; rfl⟩
     ·have hob' : c.H β = some ob := by simpa [Ctx.push, e] using hob
      have hl : c.live β := by simp [Ctx.live, hob']
      refine (hs.obj β ob hob').abides nr (s.used β hl) (by simp [Ctx.live, Ctx.push, e, hob']) rfl ?_
      intro st pe tm ps as bo df e'
      subst e'
      obtain ⟨ds, hds⟩ := s.loopOk hob'
      by_cases e2 : df = aa + i
      ·exact absurd (e2 ▸ s.used df (by simp [Ctx.live, hds])) hγ
      ·exact ⟨ds, by simpa [Ctx.push, e2] using hds⟩
    ·rcases Ctx.push_live hl with e | ⟨e, h⟩
     ·simpa [Ctx.push, e] using q3
     ·simp only [Ctx.push, e, if_false]; exact hs.lt β h
    ·rcases Ctx.push_live hl with e | ⟨e, h⟩
     ·simp only [Ctx.push, e, if_true]; exact q4
     ·simp only [Ctx.push, e, if_false]; exact hs.notA β h
    ·rcases Ctx.push_live hl with ex | ⟨ex, hx⟩ <;> rcases Ctx.push_live hl' with ey | ⟨ey, hy⟩
     ·rw [ex, ey]
     ·simp [Ctx.push, ex, ey] at e
      have := s.lt δ hy
      have e' : b = c.φ δ := e
      omega
     ·simp [Ctx.push, ex, ey] at e
      have := s.lt β hx
      have e' : c.φ β = b := e
      omega
     ·simp [Ctx.push, ex, ey] at e; exact s.inj β δ hx hy e
   refine k _ W' _ e1 s1 ?_ (by simp) (fun β h => h.symm)
   refine hr.step (e1.abides s) (H' := (Ve.new (.map [])).app (aa + i) st.H) ?_ ?_ hd ?_
   ·rw [← hr.H]; rfl
   ·refine ⟨_, rfl, Rl.append (Rl.abides ?_ _ q8) ⟨_, [], rfl, ⟨⟨.inl rfl, rfl⟩, fun _ => by simp [Ctx.push]⟩, rfl⟩⟩
    exact mD (fun _ h => h)
   ·intro β hb
    rcases hb with h | h
    ·rw [h]; exact hnx
    ·exact hr.nx β h
 | @callOwn f args cs len es hw hf ht hp =>
  have hw' := j8 hr.tm hw
  rw [if_pos hw']
  obtain ⟨vs, hvs, aN, hnd⟩ := oa hr hf hp.1
  refine ⟨fun _ _ => trivial, ?_⟩
  rw [Oper.semAt_eq _ _ _ hnd, aN, Oper.uponIn_enter]
  refine ⟨fun h => (by cases h), np ((hp.2 c.A W vs s.ltA (fun g cs hg => ?_) (og ht hvs)).mono ?_)⟩
  ·exact hr.G.tree g cs hg
  ·rintro e W' ⟨A', h1, h2, h3, hb, b, arr, elem, cap, rfl, q1, q2, q3, q4, q5, q6, q7, q8⟩
   have he := Ext.more h1 h2 hb
   have hs := Sim.more s h1 h2 h3 hb
   have hγ' : ¬ (c.more A').used (aa + i) := hγ
   have hbut : But W' W' b := But.refl W' b
   have e1 : Ext c W ((c.more A').push c.H (aa + i) (.cells none cs) b arr.size) W' :=
    { Ext.push (c := c) (aj.refl _) hγ (.inl q2) ⟨fun k hk _ => hb.block k hk, hb.size, hb.os, hb.tape, hb.output⟩ with A := h1, newA := fun b hA => (h2 b hA).imp id .inl }
   have s1 : Sim ((c.more A').push c.H (aa + i) (.cells none cs) b arr.size) W' := by
    have nr : Abides (c.more A') W' ((c.more A').push c.H (aa + i) (.cells none cs) b arr.size) W' :=
     ⟨fun _ h => h, fun _ _ => rfl, fun _ h => .inr h, fun β hu hl => by
      rcases Ctx.push_live hl with e | ⟨_, h⟩
      ·exact absurd (e ▸ hu) hγ'
      ·exact h, fun β hu _ => by
      have : β ≠ aa + i := fun e => hγ' (e ▸ hu)
      simp [Ctx.push, this], fun β hu _ => by
      have : β ≠ aa + i := fun e => hγ' (e ▸ hu)
      simp [Ctx.push, this]⟩
    refine ⟨fun β hl => ?_, fun β ob hob => ?_, fun β hl => ?_, fun β hl => ?_, fun β δ hl hl' e => ?_, h3⟩
    ·rcases Ctx.push_live hl with e | ⟨_, h⟩
     ·exact .inl e
     ·exact .inr (s.used β h)
    ·by_cases e : β = aa + i
     ·subst e
      simp [Ctx.push] at hob
      subst hob
      exact ⟨arr, elem, by simpa [Ctx.push] using q5, by simp [Ctx.push], q7, Rl.abides (mD (fun _ h => h)) _ q8, fun _ h => by cases h⟩
     ·have hob' : c.H β = some ob := by simpa [Ctx.push, e] using hob
      have hl : c.live β := by simp [Ctx.live, hob']
      refine (hs.obj β ob hob').abides nr (s.used β hl) (by simp [Ctx.live, Ctx.push, e, hob']) rfl ?_
      intro st pe tm ps as bo df e'
      subst e'
      obtain ⟨ds, hds⟩ := s.loopOk hob'
      by_cases e2 : df = aa + i
      ·exact absurd (e2 ▸ s.used df (by simp [Ctx.live, hds])) hγ
      ·exact ⟨ds, by simpa [Ctx.push, e2] using hds⟩
    ·rcases Ctx.push_live hl with e | ⟨e, h⟩
     ·simpa [Ctx.push, e] using q3
     ·simp only [Ctx.push, e, if_false]; exact hs.lt β h
    ·rcases Ctx.push_live hl with e | ⟨e, h⟩
     ·simp only [Ctx.push, e, if_true]; exact q4
     ·simp only [Ctx.push, e, if_false]; exact hs.notA β h
    ·rcases Ctx.push_live hl with ex | ⟨ex, hx⟩ <;> rcases Ctx.push_live hl' with ey | ⟨ey, hy⟩
     ·rw [ex, ey]
     ·simp [Ctx.push, ex, ey] at e
      have := s.lt δ hy
      have e' : b = c.φ δ := e
      omega
     ·simp [Ctx.push, ex, ey] at e
      have := s.lt β hx
      have e' : c.φ β = b := e
      omega
     ·simp [Ctx.push, ex, ey] at e; exact s.inj β δ hx hy e
   refine k _ W' _ e1 s1 ?_ (by simp) (fun β h => h.symm)
   refine hr.step (e1.abides s) (H' := (Ve.new (.cells none cs)).app (aa + i) st.H) ?_ ?_ hd ?_
   ·rw [← hr.H]; rfl
   ·exact rp q1 q6 q1
   ·intro β hb
    rcases hb with h | h
    ·rw [h]; exact hnx
    ·exact hr.nx β h
 | @callFrame f args rd x0 x Hn n hw hf hv hok hsame hx =>
  have hw' := j8 hr.tm hw
  rw [if_pos hw']
  obtain ⟨vs, hvs, aN, hnd⟩ := oa hr hf hv.1
  rw [← hr.H] at hv hok hsame
  refine ⟨fun _ _ => trivial, ?_⟩
  rw [Oper.semAt_eq _ _ _ hnd, aN, Oper.uponIn_enter]
  refine ⟨fun h => (by cases h), np ((GF s hv hr.nx hr.G hvs hok hsame hx).mono ?_)⟩
  rintro e W' ⟨v, A', rfl, he, hs, hrx⟩
  refine k _ W' (c.more A') he hs ?_ (by simp) (fun _ h => .inl h)
  have := hr.step (he.abides s) (dst := o.dst) (x := x) (v := v) (H' := st.H) hr.H hrx hd hr.nx
  cases hdst : o.dst <;> rw [hdst] at this <;> exact this
 | @callUpd f args β es' x hw hf hu =>
  have hw' := j8 hr.tm hw
  rw [if_pos hw']
  obtain ⟨es, h1, h2, h3⟩ := hu
  obtain ⟨vs, hvs, aN, hnd⟩ := oa hr hf h3.1
  rw [← hr.H] at h1 h3
  refine ⟨fun _ _ => trivial, ?_⟩
  rw [Oper.semAt_eq _ _ _ hnd, aN, Oper.uponIn_enter]
  refine ⟨fun h => (by cases h), np ((GG s h1 h2 h3 hr.nx hr.G hvs).mono ?_)⟩
  rintro e W' ⟨v, A', rfl, he, hs, hrx⟩
  refine k _ W' ((c.more A').upd β (.map es')) he hs ?_ (by simp) (fun _ h => .inl h)
  have := hr.step (he.abides s) (dst := o.dst) (x := x) (v := v) (H' := (Ve.upd β (.map es')).app (aa + i) st.H) (by rw [← hr.H]; rfl) hrx hd hr.nx
  exact this
 | @callSeen f args args' x hw hf hse hp hfl =>
  have hw' := j8 hr.tm hw
  rw [if_pos hw']
  obtain ⟨vs, hvs, aN, hnd⟩ := oa hr hf hp.1
  rw [← hr.H] at hse
  have hvs' := (rn s (aj.refl _) fuelS).2 _ _ _ hse hvs
  have hA : ∀ b, heldIn c c.H b → b < W.heap.size := by
   rintro b (h | ⟨β, hl, e⟩)
   ·exact s.ltA b h
   ·exact e ▸ s.lt β hl
  have hG : GOk G (PCtx (heldIn c c.H)) W := hr.G.tree.abides (mD (fun b hb => Or.inl hb))
  refine ⟨fun _ _ => trivial, ?_⟩
  rw [Oper.semAt_eq _ _ _ hnd, aN, Oper.uponIn_enter]
  refine ⟨fun h => (by cases h), np ((hp.2 _ W vs hA hG hvs').mono ?_)⟩
  ·rintro e W' ⟨A0, g1, g2, g3, hb, v, rfl, gh⟩
   have h1 : ∀ b, c.A b → c.A b := fun _ h => h
   have h2 : ∀ b, c.A b → c.A b ∨ W.heap.size ≤ b := fun _ h => .inl h
   have h3 : ∀ b, c.A b → b < W'.heap.size := fun b hA => qZd (s.ltA b hA) hb.size
   have he := Ext.more h1 h2 hb
   have hs := Sim.more s h1 h2 h3 hb
   refine k _ W' (c.more c.A) he hs ?_ (by simp) (fun _ h => .inl h)
   have := hr.step (he.abides s) (dst := o.dst) (x := x) (v := v) (H' := st.H) hr.H (CZ hfl gh) hd hr.nx
   cases hdst : o.dst <;> rw [hdst] at this <;> exact this
 | @callSeenOwn f args args' cs len es hw hf hse hp hfl =>
  have hw' := j8 hr.tm hw
  rw [if_pos hw']
  obtain ⟨vs, hvs, aN, hnd⟩ := oa hr hf hp.1
  rw [← hr.H] at hse
  have hvs' := (rn s (aj.refl _) fuelS).2 _ _ _ hse hvs
  have hA : ∀ b, heldIn c c.H b → b < W.heap.size := by
   rintro b (h | ⟨β, hl, e⟩)
   ·exact s.ltA b h
   ·exact e ▸ s.lt β hl
  have hG : GOk G (PCtx (heldIn c c.H)) W := hr.G.tree.abides (mD (fun b hb => Or.inl hb))
  refine ⟨fun _ _ => trivial, ?_⟩
  rw [Oper.semAt_eq _ _ _ hnd, aN, Oper.uponIn_enter]
  refine ⟨fun h => (by cases h), np ((hp.2 _ W vs hA hG hvs').mono ?_)⟩
  ·rintro e W' ⟨A0, g1, g2, g3, hb, b, arr, elem, cap, rfl, q1, q2, q3, Wc, q5, q6, q7, GH⟩
   have h1 : ∀ b, c.A b → c.A b := fun _ h => h
   have h2 : ∀ b, c.A b → c.A b ∨ W.heap.size ≤ b := fun _ h => .inl h
   have h3 : ∀ b, c.A b → b < W'.heap.size := fun b hA => qZd (s.ltA b hA) hb.size
   have q4 : ¬ c.A b := fun h => by have := s.ltA b h; omega
   have q8 : Rl (PCtx c.A) W' cs (arr.toList.take cs.length) := um hfl GH
   have he := Ext.more h1 h2 hb
   have hs := Sim.more s h1 h2 h3 hb
   have hγ' : ¬ (c.more c.A).used (aa + i) := hγ
   have hbut : But W' W' b := But.refl W' b
   have e1 : Ext c W ((c.more c.A).push c.H (aa + i) (.cells none cs) b arr.size) W' :=
    { Ext.push (c := c) (aj.refl _) hγ (.inl q2) ⟨fun k hk _ => hb.block k hk, hb.size, hb.os, hb.tape, hb.output⟩ with A := h1, newA := fun b hA => (h2 b hA).imp id .inl }
   have s1 : Sim ((c.more c.A).push c.H (aa + i) (.cells none cs) b arr.size) W' := by
    have nr : Abides (c.more c.A) W' ((c.more c.A).push c.H (aa + i) (.cells none cs) b arr.size) W' :=
     ⟨fun _ h => h, fun _ _ => rfl, fun _ h => .inr h, fun β hu hl => by
      rcases Ctx.push_live hl with e | ⟨_, h⟩
      ·exact absurd (e ▸ hu) hγ'
      ·exact h, fun β hu _ => by
      have : β ≠ aa + i := fun e => hγ' (e ▸ hu)
      simp [Ctx.push, this], fun β hu _ => by
      have : β ≠ aa + i := fun e => hγ' (e ▸ hu)
      simp [Ctx.push, this]⟩
    refine ⟨fun β hl => ?_, fun β ob hob => ?_, fun β hl => ?_, fun β hl => ?_, fun β δ hl hl' e => ?_, h3⟩
    ·rcases Ctx.push_live hl with e | ⟨_, h⟩
     ·exact .inl e
     ·exact .inr (s.used β h)
    ·by_cases e : β = aa + i
     ·subst e
      simp [Ctx.push] at hob
      subst hob
      exact ⟨arr, elem, by simpa [Ctx.push] using q5, by simp [Ctx.push], q7, Rl.abides (mD (fun _ h => h)) _ q8, fun _ h => by cases h⟩
     ·have hob' : c.H β = some ob := by simpa [Ctx.push, e] using hob
      have hl : c.live β := by simp [Ctx.live, hob']
      refine (hs.obj β ob hob').abides nr (s.used β hl) (by simp [Ctx.live, Ctx.push, e, hob']) rfl ?_
      intro st pe tm ps as bo df e'
      subst e'
      obtain ⟨ds, hds⟩ := s.loopOk hob'
      by_cases e2 : df = aa + i
      ·exact absurd (e2 ▸ s.used df (by simp [Ctx.live, hds])) hγ
      ·exact ⟨ds, by simpa [Ctx.push, e2] using hds⟩
    ·rcases Ctx.push_live hl with e | ⟨e, h⟩
     ·simpa [Ctx.push, e] using q3
     ·simp only [Ctx.push, e, if_false]; exact hs.lt β h
    ·rcases Ctx.push_live hl with e | ⟨e, h⟩
     ·simp only [Ctx.push, e, if_true]; exact q4
     ·simp only [Ctx.push, e, if_false]; exact hs.notA β h
    ·rcases Ctx.push_live hl with ex | ⟨ex, hx⟩ <;> rcases Ctx.push_live hl' with ey | ⟨ey, hy⟩
     ·rw [ex, ey]
     ·simp [Ctx.push, ex, ey] at e
      have := s.lt δ hy
      have e' : b = c.φ δ := e
      omega
     ·simp [Ctx.push, ex, ey] at e
      have := s.lt β hx
      have e' : c.φ β = b := e
      omega
     ·simp [Ctx.push, ex, ey] at e; exact s.inj β δ hx hy e
   refine k _ W' _ e1 s1 ?_ (by simp) (fun β h => h.symm)
   refine hr.step (e1.abides s) (H' := (Ve.new (.cells none cs)).app (aa + i) st.H) ?_ ?_ hd ?_
   ·rw [← hr.H]; rfl
   ·exact rp q1 q6 q1
   ·intro β hb
    rcases hb with h | h
    ·rw [h]; exact hnx
    ·exact hr.nx β h
def bl (st : St) (dst : Option Tmp) (x : VV) (eff : Ve) (γ : Nat) : St := { st.put dst x with H := eff.app γ st.H }
theorem jP (st : St) (dst : Option Tmp) (x : VV) (γ : Nat) : bl st dst x .none γ = st.put dst x := by cases dst <;> rfl
theorem zc {st : St} {eff : Ve} {t : Nat} (h : ∀ d, dst = some d → d ≠ t) : (bl st dst x eff γ).tm t = st.tm t := by
 cases dst with
 | none => rfl
 | some d =>
  have : ¬ t = d := fun e => h d rfl e.symm
  simp [bl, St.put, this]
variable {dN : St}
theorem ρ_congr {st : St} (h : ∀ t ∈ o.looksAt ops, dN.tm t = st.tm t) : ∀ y ∈ o.op.operands, st.ρ G y = dN.ρ G y := by
 intro y hy
 cases y with
 | tmp t => exact (h t (List.mem_append_left _ (List.mem_filterMap.2 ⟨.tmp t, by simpa using hy, rfl⟩))).symm
 | _ => rfl
theorem nZ {st : St} (h : ∀ t ∈ o.looksAt ops, dN.tm t = st.tm t) : aO ops dN.tm o = aO ops st.tm o := by
 unfold aO
 cases hg : o.guard with
 | none => rfl
 | some p =>
  obtain ⟨j, w⟩ := p
  simp only
  cases hd : (ops[j]?).bind (·.dst) with
  | none => rfl
  | some d =>
   have : dN.tm d = st.tm d := h d (List.mem_append_right _ (by simp [hg, hd]))
   simp only [this]
theorem s8 {st : St} (h : ∀ y ∈ o.op.operands, st.ρ G y = dN.ρ G y) : callee? P G dN o.op = callee? P G st o.op := by
 unfold callee?
 cases ho : o.op <;> try rfl
 rename_i k
 rw [ho] at h
 simp only
 have h2 : k.args.toList.map (dN.ρ G) = k.args.toList.map (st.ρ G) := List.map_congr_left fun y hy => (h y (by simp [Op.operands, Call.operands]; exact .inr (by simpa using hy))).symm
 cases hk : k.callee <;> try rfl
 ·rename_i fo
  have h1 := h fo (by simp [Op.operands, Call.operands, hk])
  simp only [h1, h2]
 ·rename_i r m
  have h1 := h r (by simp [Op.operands, Call.operands, hk])
  simp only [h1, h2]
theorem RZ {ρ ρ' : Operand → VV} (h : ∀ y ∈ o.op.operands, ρ y = ρ' y) : rdV o ρ = rdV o ρ' := by
 unfold rdV
 have : ∀ l : List Operand, (∀ y ∈ l, ρ y = ρ' y) → (l.filterMap fun y => topName (ρ y)) = l.filterMap fun y => topName (ρ' y) := by
  intro l
  induction l with
  | nil => intro _; rfl
  | cons y l ih =>
   intro hl
   simp only [List.filterMap_cons, hl y (by simp), ih (fun z hz => hl z (by simp [hz]))]
 exact this _ (fun y hy => h y (G2 hy))
theorem QStep.transport {st st' : St} {wr : List Nat} (h : QStep P G ops aa i o st st' rd wr) :
  ∃ x eff, st' = bl st o.dst x eff (aa + i) ∧ wr = eff.wr (aa + i) ∧
   ∀ dN : St, (∀ t ∈ o.looksAt ops, dN.tm t = st.tm t) → (∀ β ∈ rd, dN.H β = st.H β) → dN.nx = st.nx → QStep P G ops aa i o dN (bl dN o.dst x eff (aa + i)) rd wr := by
 cases h with
 | skip hw =>
  refine ⟨.lit undef, .none, (jP ..).symm, rfl, fun dN h1 _ _ => ?_⟩
  rw [jP]
  exact .skip (by rw [nZ h1]; exact hw)
 | @op x eff hw hv =>
  refine ⟨x, eff, rfl, rfl, fun dN h1 h2 hn => ?_⟩
  have hρ := ρ_congr (G := G) h1
  rw [RZ hρ]
  refine .op (by rw [nZ h1]; exact hw) ?_
  rw [← hv]
  exact (Sa hρ (fun β hb => (h2 β hb).symm)).symm
 | @call f args x hw hf ht hp =>
  refine ⟨x, .none, (jP ..).symm, rfl, fun dN h1 h2 hn => ?_⟩
  rw [jP]
  exact .call (by rw [nZ h1]; exact hw) (by rw [s8 (ρ_congr h1)]; exact hf) ht hp
 | @callOwn f args cs len es hw hf ht hp =>
  refine ⟨.ref (aa + i) 0 len es len, .new (.cells none cs), rfl, rfl, fun dN h1 h2 hn => ?_⟩
  exact .callOwn (by rw [nZ h1]; exact hw) (by rw [s8 (ρ_congr h1)]; exact hf) ht hp
 | @callNew f args cs hw hf ht hp =>
  refine ⟨.agg (cs ++ [.mp (aa + i)]), .new (.map []), rfl, rfl, fun dN h1 h2 hn => ?_⟩
  exact .callNew (by rw [nZ h1]; exact hw) (by rw [s8 (ρ_congr h1)]; exact hf) ht hp
 | @callUpd f args β es' x hw hf hu =>
  refine ⟨x, .upd β (.map es'), rfl, rfl, fun dN h1 h2 hn => ?_⟩
  exact .callUpd (by rw [nZ h1]; exact hw) (by rw [s8 (ρ_congr h1)]; exact hf) (by rw [hn]; exact hu.congr (h2 β (List.mem_singleton.2 rfl)))
 | @callSeen f args args' x hw hf hse hp hfl =>
  refine ⟨x, .none, (jP ..).symm, rfl, fun dN h1 h2 hn => ?_⟩
  rw [jP]
  have hc := (Sn (H := st.H) (H' := dN.H) fuelS).2 args h2
  rw [← hc.2]
  exact .callSeen (by rw [nZ h1]; exact hw) (by rw [s8 (ρ_congr h1)]; exact hf) (hc.1.trans hse) hp hfl
 | @callSeenOwn f args args' cs len es hw hf hse hp hfl =>
  refine ⟨.ref (aa + i) 0 len es len, .new (.cells none cs), rfl, rfl, fun dN h1 h2 hn => ?_⟩
  have hc := (Sn (H := st.H) (H' := dN.H) fuelS).2 args h2
  rw [← hc.2]
  exact .callSeenOwn (by rw [nZ h1]; exact hw) (by rw [s8 (ρ_congr h1)]; exact hf) (hc.1.trans hse) hp hfl
 | @callFrame f args rd x0 x Hn n hw hf hv hok hsame hx =>
  refine ⟨x, .none, (jP ..).symm, rfl, fun dN h1 h2 hn => ?_⟩
  rw [jP]
  exact .callFrame (by rw [nZ h1]; exact hw) (by rw [s8 (ρ_congr h1)]; exact hf) (by rw [FM h2, hn]; exact hv) (Sb h2 hok) (fun β hb => (hsame β hb).trans (h2 β hb).symm)
   (by rw [hn]; exact hx)
theorem GI {st : St} {d d' : Option Tmp} {x' : VV} {e e' : Ve} {γ' : Nat} (hd : ∀ t, d = some t → d' ≠ some t) (hw : ∀ β ∈ e.wr γ, β ∉ e'.wr γ') :
  bl (bl st d x e γ) d' x' e' γ' = bl (bl st d' x' e' γ') d x e γ := by
 have h1 : ((bl st d x e γ).put d' x').tm = ((bl st d' x' e' γ').put d x).tm := by
  cases d <;> cases d' <;> simp only [bl, St.put] <;> try rfl
  rename_i t t'
  funext i
  have hne : t ≠ t' := fun h => hd t rfl (by rw [h])
  by_cases e1 : i = t
  ·subst e1; simp [hne]
  ·simp [e1]
 have h2 : e'.app γ' (e.app γ st.H) = e.app γ (e'.app γ' st.H) := GA hw
 unfold bl at h1 ⊢
 cases d <;> cases d' <;> simp only [St.put] at h1 ⊢ <;> simp [h2, h1]
theorem QStep.comm {j : Nat} {oi oj : Oper} {st s1 s2 : St} {rdi wri rdj wrj : List Nat} (hi : QStep P G ops aa i oi st s1 rdi wri) (hj : QStep P G ops aa j oj s1 s2 rdj wrj)
  (hap : oi.apart ops oj = true) (h1 : ∀ β ∈ wri, β ∉ rdj) (h2 : ∀ β ∈ wri, β ∉ wrj) (h3 : ∀ β ∈ wrj, β ∉ rdi) :
  ∃ s1', QStep P G ops aa j oj st s1' rdj wrj ∧ QStep P G ops aa i oi s1' s2 rdi wri := by
 obtain ⟨a1, a2, a3⟩ := Oper.apart_spec hap
 obtain ⟨x, e, rfl, rfl, ti⟩ := hi.transport
 obtain ⟨y, f, rfl, rfl, tj⟩ := hj.transport
 have hj' := tj st (fun t ht => (zc fun d hd e => a1 d hd (e ▸ ht)).symm) (fun β hb => by
  show st.H β = e.app (aa + i) st.H β
  rw [s6 fun hm => h1 β hm hb]) (by cases oi.dst <;> rfl)
 have hi' := ti (bl st oj.dst y f (aa + j)) (fun t ht => zc fun d hd e => a3 d hd (e ▸ ht)) (fun β hb => by
  show f.app (aa + j) st.H β = st.H β
  rw [s6 fun hm => h3 β hm hb]) (by cases oj.dst <;> rfl)
 refine ⟨_, hj', ?_⟩
 rw [GI a2 h2]
 exact hi'
def aK (ops : Array Oper) : Nat → Nat → Nat → Bool
 | 0, _, _ => false
 | n + 1, i, j => match ops[j]? with
  | some o => o.after.any fun e => Region.binds .any e && (e.on == i || aK ops n i e.on)
  | none => false
def Closed (ops : Array Oper) (listed : Array Bool) : Prop :=
 ∀ j, listed.getD j false = true → ∀ o, ops[j]? = some o → ∀ e ∈ o.after, Region.binds .any e = true → listed.getD e.on false = true
def preOk (ops : Array Oper) (listed : Array Bool) (j : Nat) : Prop := ∀ o, ops[j]? = some o → ∀ e ∈ o.after, Region.binds .any e = true → listed.getD e.on false = true
theorem CV {ops : Array Oper} {listed : Array Bool} (hc : Closed ops listed) : ∀ (n i j : Nat), preOk ops listed j → aK ops n i j = true → listed.getD i false = true
 | 0, _, _, _, h => by simp [aK] at h
 | n + 1, i, j, hp, h => by
  unfold aK at h
  split at h
  ·rename_i o ho
   rw [Array.any_eq_true'] at h
   obtain ⟨e, he, hb⟩ := h
   simp only [Bool.and_eq_true, Bool.or_eq_true, beq_iff_eq] at hb
   have hl := hp o ho e he hb.1
   rcases hb.2 with h | h
   ·rw [← h]; exact hl
   ·exact CV hc n i e.on (fun o' ho' e' he' hb' => hc e.on hl o' ho' e' he' hb') h
  ·cases h
theorem CU {listed : Array Bool} {j : Nat} (h : j ∈ Region.ready .any ops listed) : j < ops.size ∧ listed.getD j true = false ∧ preOk ops listed j := by
 unfold Region.ready at h
 rw [List.mem_filter] at h
 obtain ⟨h1, h2⟩ := h
 simp only [Bool.and_eq_true, Bool.not_eq_true'] at h2
 refine ⟨by simpa using h1, h2.1, fun o ho e he hb => ?_⟩
 have h3 := h2.2
 simp only [ho, Option.map_some, Option.getD_some] at h3
 have := Array.all_eq_true'.1 h3 e he
 simpa [hb] using this
abbrev Tr := List (Nat × List Nat × List Nat)
def Indep (p q : Nat × List Nat × List Nat) : Prop := (∀ β ∈ p.2.2, β ∉ q.2.1 ∧ β ∉ q.2.2) ∧ (∀ β ∈ q.2.2, β ∉ p.2.1)
def TraceOk (ops : Array Oper) (tr : Tr) : Prop :=
 tr.Pairwise fun p q => aK ops ops.size p.1 q.1 = true ∨ (Indep p q ∧ ∀ o o', ops[p.1]? = some o → ops[q.1]? = some o' → o.apart ops o' = true)
inductive QSteps (P : Program) (G : Gb) (ops : Array Oper) (aa : Nat) : List Nat → St → St → Tr → Prop
 | nil {st : St} : QSteps P G ops aa [] st st []
 | cons {i : Nat} {l : List Nat} {o : Oper} {st s1 s2 : St} {rd wr : List Nat} {tr : Tr} : ops[i]? = some o → QStep P G ops aa i o st s1 rd wr → QSteps P G ops aa l s1 s2 tr →
   QSteps P G ops aa (i :: l) st s2 ((i, rd, wr) :: tr)
theorem QSteps.fst : ∀ {l : List Nat} {st st' : St} {tr : Tr}, QSteps P G ops aa l st st' tr → tr.map (·.1) = l
 | _, _, _, _, .nil => rfl
 | _, _, _, _, .cons _ _ h => by simp [h.fst]
theorem QSteps.pull {P : Program} {G : Gb} {ops : Array Oper} {aa : Nat} {j : Nat} : ∀ {l : List Nat} {st st' : St} {tr : Tr}, QSteps P G ops aa l st st' tr → j ∈ l → TraceOk ops tr →
  (∀ i ∈ l, aK ops ops.size i j = false) →
  ∃ o rd wr s1 tr', ops[j]? = some o ∧ QStep P G ops aa j o st s1 rd wr ∧ QSteps P G ops aa (l.erase j) s1 st' tr' ∧ TraceOk ops tr' ∧ (∀ p ∈ tr', p ∈ tr) ∧ (j, rd, wr) ∈ tr
 | _, _, _, _, .nil, hj, _, _ => by cases hj
 | _, _, _, _, @QSteps.cons _ _ _ _ i l o st s1 s2 rd wr tr ho hq hs, hj, htr, hb => by
  by_cases e : i = j
  ·subst e
   refine ⟨o, rd, wr, s1, tr, ho, hq, ?_, (List.pairwise_cons.1 htr).2, fun p hp => qZa _ hp, qZb ..⟩
   rw [List.erase_cons_head]
   exact hs
  ·have hj' : j ∈ l := by
    rcases List.mem_cons.1 hj with h | h
    ·exact absurd h.symm e
    ·exact h
   obtain ⟨oj, rdj, wrj, t1, tr', hoj, hqj, hsj, htr', bh, hmem⟩ := QSteps.pull hs hj' (List.pairwise_cons.1 htr).2 (fun k hk => hb k (qZa _ hk))
   have hpair := (List.pairwise_cons.1 htr).1 (j, rdj, wrj) hmem
   rcases hpair with h | ⟨⟨i1, i2⟩, hap⟩
   ·rw [hb i (qZb ..)] at h; cases h
   ·obtain ⟨u, kK, iC⟩ := hq.comm hqj (hap o oj ho hoj) (fun β hb => (i1 β hb).1) (fun β hb => (i1 β hb).2) i2
    refine ⟨oj, rdj, wrj, u, (i, rd, wr) :: tr', hoj, kK, ?_, ?_, ?_, qZa _ hmem⟩
    ·rw [List.erase_cons_tail (by simpa using e)]
     exact .cons ho iC hsj
    ·exact List.pairwise_cons.2 ⟨fun p hp => (List.pairwise_cons.1 htr).1 p (bh p hp), htr'⟩
    ·intro p hp
     rcases List.mem_cons.1 hp with rfl | hp
     ·exact qZb ..
     ·exact qZa _ (bh p hp)
end Go.V
end
section
namespace Go.V
open Go
inductive Vx where
 | normal
 | exit (id : Nat)
 | goto (l : Nat)
 | ret
 | panic (x : VV)
def ERep (c : Ctx) (W : World) : Vx → Exit → Prop
 | .normal, e => e = .normal
 | .exit id, e => e = .exit id
 | .goto l, e => e = .goto l
 | .ret, e => e = .ret
 | .panic x, e => ∃ v, e = .panic [{ v, recovered := false }] ∧ Rep c W x v
def Lift (G : Gb) (n : Nat) (eT : Nat) (c0 : Ctx) (W0 : World) (Q : Vx → St → Prop) : Exit → Act → World → Prop := fun e a W =>
 ∃ ve c st, ERep c W ve e ∧ Ext c0 W0 c W ∧ Sim c W ∧ Sr G c W st a ∧ a.tmps.size = n ∧ (∀ β, c.used β → c0.used β ∨ eT ≤ β) ∧ eT ≤ st.nx ∧ Q ve st
def RoOk (G : Gb) (c : Ctx) (ro : Option Nat) : Prop := match G.rg with
 | none => True
 | some none => ro = none
 | some (some β) => c.used β ∧ (c.live β → ro = some (c.φ β))
variable {G : Gb} {W : World}
theorem RoOk.ext {c c' : Ctx} {W' : World} {ro : Option Nat} (h : RoOk G c ro) (he : Ext c W c' W') : RoOk G c' ro := by
 unfold RoOk at h ⊢
 split
 ·trivial
 ·rename_i e; rw [e] at h; exact h
 ·rename_i β e; rw [e] at h
  exact ⟨he.used β h.1, fun hl => by rw [he.φ β h.1 hl]; exact h.2 (he.live β h.1 hl)⟩
def VWp (P : Program) (G : Gb) (n : Nat) (code : Code) (Q : Vx → St → Prop) (st : St) : Prop :=
 ∀ ro c W a, RoOk G c ro → Sim c W → Sr G c W st a → a.tmps.size = n → code.wpIn (Fw ro) 0 P (Lift G n st.nx c W Q) a W
def Vx.then (next : St → Prop) (Q : Vx → St → Prop) : Vx → St → Prop
 | .normal, st => next st
 | e, st => Q e st
variable {id : Nat} {x : Code}
section rules
variable {P : Program} {G : Gb} {n : Nat} {Q : Vx → St → Prop} {st : St}
theorem Lift.of_ext {eT br : Nat} {c0 c1 : Ctx} {W0 W1 : World} {e : Exit} {a : Act} (he : Ext c0 W0 c1 W1) (hu : ∀ β, c1.used β → c0.used β ∨ eT ≤ β) (hle : eT ≤ br) (h : Lift G n br c1 W1 Q e a W) :
  Lift G n eT c0 W0 Q e a W := by
 obtain ⟨ve, c, st, h1, h2, h3, h4, h5, h6, h7, h8⟩ := h
 refine ⟨ve, c, st, h1, he.trans h2, h3, h4, h5, fun β hb => ?_, qZh hle h7, h8⟩
 rcases h6 β hb with h | h
 ·exact hu β h
 ·exact .inr (qZh hle h)
theorem VWp.mono {code : Code} {Q' : Vx → St → Prop} (h : VWp P G n code Q st) (hq : ∀ e s, Q e s → Q' e s) : VWp P G n code Q' st :=
 fun ro c W a hro s hr hs => wpIn_mono (h ro c W a hro s hr hs) fun _ _ _ ⟨ve, c', st', h1, h2, h3, h4, h5, h6, h7, h8⟩ => ⟨ve, c', st', h1, h2, h3, h4, h5, h6, h7, hq _ _ h8⟩
theorem Lift.mk' {ve : Vx} {e : Exit} {c : Ctx} {a : Act} (s : Sim c W) (hr : Sr G c W st a) (hs : a.tmps.size = n) (he : ERep c W ve e) (hq : Q ve st) : Lift G n st.nx c W Q e a W :=
 ⟨ve, c, st, he, Ext.refl c W, s, hr, hs, fun _ h => .inl h, qZg _, hq⟩
theorem VWp.skip (h : Q .normal st) : VWp P G n .skip Q st := fun _ _ _ _ _ s hr hs => wpIn_skip (Lift.mk' (ve := .normal) s hr hs rfl h)
theorem VWp.label {l : Nat} (h : Q .normal st) : VWp P G n (.label l) Q st := fun _ _ _ _ _ s hr hs => wpIn_label (Lift.mk' (ve := .normal) s hr hs rfl h)
theorem VWp.exit (h : Q (.exit id) st) : VWp P G n (.exit id) Q st := fun _ _ _ _ _ s hr hs => wpIn_exit (Lift.mk' (ve := .exit id) s hr hs rfl h)
theorem VWp.ret (h : Q .ret st) : VWp P G n .ret Q st := fun _ _ _ _ _ s hr hs => wpIn_ret (Lift.mk' (ve := .ret) s hr hs rfl h)
theorem VWp.seq {y : Code} (h : VWp P G n x (Vx.then (VWp P G n y Q) Q) st) : VWp P G n (.seq x y) Q st := by
 intro ro c W a hro s hr hs
 refine wpIn_seq (wpIn_mono (h ro c W a hro s hr hs) ?_)
 rintro e a' W' ⟨ve, c', st', h1, h2, h3, h4, h5, h6, h7, h8⟩
 cases ve with
 | normal =>
  have e1 : e = .normal := h1
  subst e1
  exact wpIn_mono (h8 ro c' W' a' (hro.ext h2) h3 h4 h5) fun _ _ _ hl => hl.of_ext h2 h6 h7
 | exit id => have e1 : e = .exit id := h1; subst e1; exact ⟨_, c', st', h1, h2, h3, h4, h5, h6, h7, h8⟩
 | goto l => have e1 : e = .goto l := h1; subst e1; exact ⟨_, c', st', h1, h2, h3, h4, h5, h6, h7, h8⟩
 | ret => have e1 : e = .ret := h1; subst e1; exact ⟨_, c', st', h1, h2, h3, h4, h5, h6, h7, h8⟩
 | panic x =>
  obtain ⟨v, e1, hv⟩ := h1
  subst e1
  exact ⟨.panic x, c', st', ⟨v, rfl, hv⟩, h2, h3, h4, h5, h6, h7, h8⟩
theorem VWp.cond {cnd : Operand} {y : Code} {t : Bool} (hc : st.ρ G cnd = .lit (.bool t)) (h : VWp P G n (if t then x else y) Q st) : VWp P G n (.cond cnd x y) Q st := by
 intro ro c W a hro s hr hs
 have := hr.eval cnd
 rw [hc] at this
 exact wpIn_cond (show a.eval cnd = .bool t from this) (h ro c W a hro s hr hs)
def Vx.inBlock (id : Nat) (Q : Vx → St → Prop) : Vx → St → Prop
 | .exit id', st => if id' = id then Q .normal st else Q (.exit id') st
 | e, st => Q e st
theorem VWp.block (h : VWp P G n x (Vx.inBlock id Q) st) : VWp P G n (.block id x) Q st := by
 intro ro c W a hro s hr hs
 refine wpIn_block (wpIn_mono (h ro c W a hro s hr hs) ?_)
 rintro e a' W' ⟨ve, c', st', h1, h2, h3, h4, h5, h6, h7, h8⟩
 cases ve with
 | exit i =>
  have e1 : e = .exit i := h1
  subst e1
  simp only [Exit.inBlock]
  simp only [Vx.inBlock] at h8
  split
  ·rename_i hi
   rw [if_pos hi] at h8
   exact ⟨.normal, c', st', rfl, h2, h3, h4, h5, h6, h7, h8⟩
  ·rename_i hi
   rw [if_neg hi] at h8
   exact ⟨.exit i, c', st', rfl, h2, h3, h4, h5, h6, h7, h8⟩
 | normal => have e1 : e = .normal := h1; subst e1; exact ⟨_, c', st', h1, h2, h3, h4, h5, h6, h7, h8⟩
 | goto l => have e1 : e = .goto l := h1; subst e1; exact ⟨_, c', st', h1, h2, h3, h4, h5, h6, h7, h8⟩
 | ret => have e1 : e = .ret := h1; subst e1; exact ⟨_, c', st', h1, h2, h3, h4, h5, h6, h7, h8⟩
 | panic x =>
  obtain ⟨v, e1, hv⟩ := h1
  subst e1
  exact ⟨.panic x, c', st', ⟨v, rfl, hv⟩, h2, h3, h4, h5, h6, h7, h8⟩
theorem VWp.loop (I : Nat → St → Prop) {m : Nat} (h0 : I m st) (round : ∀ m st, I m st → VWp P G n x (Vx.then (fun st' => ∃ m', m' < m ∧ I m' st') Q) st) : VWp P G n (.loop x) Q st := by
 intro ro c W a hro s hr hs
 have key : ∀ m st, I m st → ∀ c W a, RoOk G c ro → Sim c W → Sr G c W st a → a.tmps.size = n → Code.roundsIn (Fw ro) 0 P x (Lift G n st.nx c W Q) (m + 1) a W := by
  intro m
  induction m using Nat.strongRecOn with
  | _ m ih =>
   intro st hI c W a hro s hr hs
   rw [roundsIn_succ]
   refine wpIn_mono (round m st hI ro c W a hro s hr hs) ?_
   rintro e a' W' ⟨ve, c', st', h1, h2, h3, h4, h5, h6, h7, h8⟩
   cases ve with
   | normal =>
    have e1 : e = .normal := h1
    subst e1
    obtain ⟨m', hlt, hI'⟩ := h8
    have hrec := ih m' hlt st' hI' c' W' a' (hro.ext h2) h3 h4 h5
    show Code.roundsIn (Fw ro) 0 P x (Lift G n st.nx c W Q) m a' W'
    have more : ∀ k k' a W (Q Q' : Exit → Act → World → Prop), k ≤ k' → (∀ e a w, Q e a w → Q' e a w) → Code.roundsIn (Fw ro) 0 P x Q k a W → Code.roundsIn (Fw ro) 0 P x Q' k' a W := by
     intro k
     induction k with
     | zero => intro k' a W Q Q' _ _ h; exact h.elim
     | succ k ihk =>
      intro k' a W Q Q' hle hq h
      obtain ⟨k'', rfl⟩ : ∃ k'', k' = k'' + 1 := ⟨k' - 1, by omega⟩
      rw [roundsIn_succ] at h ⊢
      refine wpIn_mono h fun e a w he => ?_
      cases e with
      | normal => exact ihk k'' a w Q Q' (by omega) hq he
      | exit id => exact hq _ _ _ he
      | goto l => exact hq _ _ _ he
      | ret => exact hq _ _ _ he
      | panic ch => exact hq _ _ _ he
      | outgrown => exact hq _ _ _ he
    exact more (m' + 1) m a' W' _ _ hlt (fun _ _ _ hl => hl.of_ext h2 h6 h7) hrec
   | exit id => have e1 : e = .exit id := h1; subst e1; exact ⟨_, c', st', h1, h2, h3, h4, h5, h6, h7, h8⟩
   | goto l => have e1 : e = .goto l := h1; subst e1; exact ⟨_, c', st', h1, h2, h3, h4, h5, h6, h7, h8⟩
   | ret => have e1 : e = .ret := h1; subst e1; exact ⟨_, c', st', h1, h2, h3, h4, h5, h6, h7, h8⟩
   | panic x =>
    obtain ⟨v, e1, hv⟩ := h1
    subst e1
    exact ⟨.panic x, c', st', ⟨v, rfl, hv⟩, h2, h3, h4, h5, h6, h7, h8⟩
 exact wpIn_loop_rounds (m + 1) (key m st h0 c W a hro s hr hs)
end rules
def aP (P : Program) (G : Gb) (n : Nat) (ops : Array Oper) (aa i : Nat) (st : St) (K : St → Prop) (Qp : VV → St → Prop) : Prop :=
 ∀ ro c W a (Kr : Act → World → Prop) (Q : Exit → Act → World → Prop), RoOk G c ro → Sim c W → Sr G c W st a → a.tmps.size = n → ¬ c.used (aa + i) → aa + i < st.nx →
  (∀ a' W' c' st', Ext c W c' W' → Sim c' W' → Sr G c' W' st' a' → a'.tmps.size = n → (∀ β, c'.used β → c.used β ∨ β = aa + i ∨ st.nx ≤ β) → st.nx ≤ st'.nx → K st' → Kr a' W') →
  (∀ a' W' c' st' x v, Ext c W c' W' → Sim c' W' → Sr G c' W' st' a' → a'.tmps.size = n → (∀ β, c'.used β → c.used β ∨ β = aa + i ∨ st.nx ≤ β) → st.nx ≤ st'.nx → Rep c' W' x v → Qp x st' →
   Q (.panic [{ v, recovered := false }]) a' W') →
  wpOpIn (Fw ro) 0 P ops Q i Kr a W
def dstsOk (n : Nat) (ops : Array Oper) : Bool := ops.all (dstIn n)
variable {n i : Nat} {ops : Array Oper} {o : Oper}
theorem oc (h : dstsOk n ops = true) (ho : ops[i]? = some o) : ∀ d, o.dst = some d → d < n := by
 intro d hd
 have := (Array.all_eq_true_iff_forall_mem.1 h) o (Array.mem_of_getElem? ho)
 simpa [dstIn, hd] using this
variable {P : Program} {rd : List Nat}
theorem QStep.nx {aa : Nat} {st st' : St} {wr : List Nat} (h : QStep P G ops aa i o st st' rd wr) : st'.nx = st.nx := by
 obtain ⟨x, eff, rfl, _⟩ := h.transport
 cases o.dst <;> rfl
theorem aP.quiet {aa : Nat} {st st' : St} {wr : List Nat} {K : St → Prop} {Qp : VV → St → Prop} (ho : ops[i]? = some o) (hd : dstsOk n ops = true)
  (hq : QStep P G ops aa i o st st' rd wr) (hk : K st') : aP P G n ops aa i st K Qp := by
 intro ro c W a Kr Q _ s hr hs hγ hnx k _
 refine CT ho hq s hr (by rw [hs]; exact oc hd ho) hγ hnx ?_
 intro a' W' c' he hs' hr' hsz hu
 exact k a' W' c' st' he hs' hr' (hsz.trans hs) (fun β hb => (hu β hb).imp id .inl) (by rw [hq.nx]; exact qZg _) hk
def VSeq (P : Program) (G : Gb) (n : Nat) (ops : Array Oper) (aa : Nat) (Q : Vx → St → Prop) : List Nat → St → Prop
 | [], st => Q .normal st
 | i :: l, st => aP P G n ops aa i st (VSeq P G n ops aa Q l) (fun x st' => Q (.panic x) st')
theorem Sq {P : Program} {G : Gb} {n : Nat} {ops : Array Oper} {aa : Nat} {Q : Vx → St → Prop} {ro : Option Nat} {eT : Nat} {c0 : Ctx} {W0 : World} : ∀ (l : List Nat) (st : St) (c : Ctx) (W : World) (a : Act),
  VSeq P G n ops aa Q l st → l.Nodup → (∀ i ∈ l, i < ops.size) → aa + ops.size ≤ st.nx → eT ≤ aa → RoOk G c ro → Sim c W → Sr G c W st a → a.tmps.size = n → (∀ i ∈ l, ¬ c.used (aa + i)) →
  Ext c0 W0 c W → (∀ β, c.used β → c0.used β ∨ eT ≤ β) → wpOpsIn (Fw ro) 0 P ops (Lift G n eT c0 W0 Q) l a W
 | [], st, c, W, a, h, _, _, hb, hn, _, s, hr, hs, _, he, hu => ⟨.normal, c, st, rfl, he, s, hr, hs, hu, by omega, h⟩
 | i :: l, st, c, W, a, h, hnd, hlt, hb, hn, hro, s, hr, hs, hf, he, hu => by
  rw [wpOpsIn_cons]
  have hi := hlt i (qZb ..)
  rw [List.nodup_cons] at hnd
  have hu' : ∀ {c' : Ctx}, (∀ β, c'.used β → c.used β ∨ β = aa + i ∨ st.nx ≤ β) → ∀ β, c'.used β → c0.used β ∨ eT ≤ β := by
   intro c' h1 β hβ
   rcases h1 β hβ with h | h | h
   ·exact hu β h
   ·right; omega
   ·right; omega
  refine h ro c W a _ _ hro s hr hs (hf i (qZb ..)) (by omega) ?_ ?_
  ·intro a' W' c' st' he' hs' hr' hsz h1 h2 hk
   refine Sq l st' c' W' a' hk hnd.2 (fun j hj => hlt j (qZa _ hj)) (by omega) hn (hro.ext he') hs' hr' hsz (fun j hj hbad => ?_) (he.trans he') (hu' h1)
   have hj' := hlt j (qZa _ hj)
   rcases h1 _ hbad with h | h | h
   ·exact hf j (qZa _ hj) h
   ·have : j = i := by omega
    exact hnd.1 (this ▸ hj)
   ·omega
  ·intro a' W' c' st' x v he' hs' hr' hsz h1 h2 hv hq
   exact ⟨.panic x, c', st', ⟨v, rfl, hv⟩, he.trans he', hs', hr', hsz, hu' h1, by omega, hq⟩
theorem VWp.region {Q : Vx → St → Prop} {st : St} (h : VSeq P G n ops st.nx Q (List.range ops.size) { st with nx := st.nx + ops.size }) :
  VWp P G n (.region id ops false) Q st := by
 intro ro c W a hro s hr hs
 refine wpIn_region (Sq (List.range ops.size) _ c W a h List.nodup_range (fun i hi => List.mem_range.1 hi) (qZg _) (qZg _) hro s ?_ hs ?_ (Ext.refl c W) (fun _ h => .inl h))
 ·exact ⟨hr.H, hr.tm, fun β hb => qZd (hr.nx β hb) (qZe _ _), hr.df, hr.G⟩
 ·intro i _ hb
  have := hr.nx _ hb
  omega
def backOk (ops : Array Oper) : Bool := (List.range ops.size).all fun j => match ops[j]? with
 | some o => o.after.all fun e => !Region.binds .any e || decide (e.on < j)
 | none => true
theorem Ss (h : backOk ops = true) {j : Nat} (ho : ops[j]? = some o) {e : Edge} (he : e ∈ o.after) (hb : Region.binds .any e = true) : e.on < j := by
 unfold backOk at h
 rw [List.all_eq_true] at h
 have h1 := h j (List.mem_range.2 (Array.getElem?_eq_some_iff.1 ho).1)
 rw [ho] at h1
 have := Array.all_eq_true'.1 h1 e he
 simpa [hb] using this
def VDraw (P : Program) (G : Gb) (n : Nat) (ops : Array Oper) (aa : Nat) (Q : Vx → St → Prop) : List (List Nat × Nat) → List Nat → St → Prop
 | [], l, st => ∃ st' tr, QSteps P G ops aa l st st' tr ∧ TraceOk ops tr ∧ Q .normal st'
 | (l, b) :: rest, last, st => ∃ st' tr, QSteps P G ops aa l st st' tr ∧ TraceOk ops tr ∧ aP P G n ops aa b st' (VDraw P G n ops aa Q rest last) (fun x st' => Q (.panic x) st')
def flat : List (List Nat × Nat) → List Nat → List Nat
 | [], l => l
 | (l, b) :: rest, last => l ++ b :: flat rest last
def barOk (ops : Array Oper) : List (List Nat × Nat) → List Nat → Bool
 | [], _ => true
 | (l, b) :: rest, last => (l.all fun i => aK ops ops.size i b) && ((flat rest last).all fun i => aK ops ops.size b i) && barOk ops rest last
end Go.V
end
section
namespace Go.V
open Go
def Left (ops : Array Oper) (listed : Array Bool) (l : List Nat) : Prop :=
 listed.size = ops.size ∧ l.Nodup ∧ ∀ i, i ∈ l ↔ (i < ops.size ∧ listed.getD i true = false)
variable {ops : Array Oper} {listed : Array Bool} {l : List Nat} {j : Nat}
theorem Left.set (h : Left ops listed l) (hj : j ∈ l) : Left ops (listed.setIfInBounds j true) (l.erase j) := by
 obtain ⟨h1, h2, h3⟩ := h
 refine ⟨by simpa using h1, h2.erase j, fun i => ?_⟩
 rw [h2.mem_erase_iff, h3 i]
 have hjlt : j < listed.size := by rw [h1]; exact ((h3 j).1 hj).1
 by_cases e : i = j
 ·subst e
  simp [hjlt]
 ·have e' : ¬ j = i := fun h => e h.symm
  simp [e, Array.getElem?_setIfInBounds_ne e']
theorem Left.unlisted (h : Left ops listed l) {i : Nat} (hi : i ∈ l) : listed.getD i false = false := by
 obtain ⟨h1, _, h3⟩ := h
 have := (h3 i).1 hi
 have hlt : i < listed.size := by rw [h1]; exact this.1
 simpa [hlt] using this.2
theorem Closed.set (hc : Closed ops listed) (hp : preOk ops listed j) (hj : j < listed.size) : Closed ops (listed.setIfInBounds j true) := by
 have mono : ∀ k, listed.getD k false = true → (listed.setIfInBounds j true).getD k false = true := by
  intro k hk
  by_cases e : k = j
  ·subst e; simp [hj]
  ·have e' : ¬ j = k := fun h => e h.symm
   simpa [Array.getElem?_setIfInBounds_ne e'] using hk
 intro k hk o ho e he hb
 by_cases ek : k = j
 ·subst ek; exact mono _ (hp o ho e he hb)
 ·have e' : ¬ j = k := fun h => ek h.symm
  have hk' : listed.getD k false = true := by simpa [Array.getElem?_setIfInBounds_ne e'] using hk
  exact mono _ (hc k hk' o ho e he hb)
theorem w9 (h : Left ops listed l) (hj : j ∈ Region.ready .any ops listed) : j ∈ l := by
 obtain ⟨h1, h2, _⟩ := CU hj
 exact (h.2.2 j).2 ⟨h1, h2⟩
theorem FP (hb : backOk ops = true) (h : Left ops listed l) (hr : Region.ready .any ops listed = []) : l = [] := by
 have key : ∀ n i, i ≤ n → i ∉ l := by
  intro n
  induction n with
  | zero =>
   intro i hi hmem
   have GJ : i = 0 := by omega
   subst GJ
   have hm : 0 ∈ Region.ready .any ops listed := by
    unfold Region.ready
    rw [List.mem_filter]
    have := (h.2.2 0).1 hmem
    refine ⟨by simpa using this.1, ?_⟩
    simp only [this.2, Bool.not_false, Bool.true_and]
    have ho : ops[0]? = some ops[0] := Array.getElem?_eq_getElem this.1
    simp only [ho, Option.map_some, Option.getD_some]
    rw [Array.all_eq_true']
    intro e he
    cases hbe : Region.binds .any e with
    | false => simp
    | true => have := Ss hb ho he hbe; omega
   rw [hr] at hm; cases hm
  | succ n ih =>
   intro i hi hmem
   rcases Nat.lt_or_ge i (n + 1) with hlt | hge
   ·exact ih i (by omega) hmem
   ·have GJ : i = n + 1 := by omega
    subst GJ
    have hm : n + 1 ∈ Region.ready .any ops listed := by
     unfold Region.ready
     rw [List.mem_filter]
     have := (h.2.2 (n + 1)).1 hmem
     refine ⟨by simpa using this.1, ?_⟩
     simp only [this.2, Bool.not_false, Bool.true_and]
     have ho : ops[n + 1]? = some ops[n + 1] := Array.getElem?_eq_getElem this.1
     simp only [ho, Option.map_some, Option.getD_some]
     rw [Array.all_eq_true']
     intro e he
     cases hbe : Region.binds .any e with
     | false => simp
     | true =>
      have hlt := Ss hb ho he hbe
      have hn := ih e.on (by omega)
      have zd : e.on < listed.size := by rw [h.1]; have := this.1; omega
      have : listed.getD e.on true = true := by
       cases hg : listed.getD e.on true with
       | true => rfl
       | false => exact absurd ((h.2.2 e.on).2 ⟨by rw [← h.1]; exact zd, hg⟩) hn
      simp [zd] at this ⊢
      exact this
    rw [hr] at hm; cases hm
 cases l with
 | nil => rfl
 | cons i l => exact absurd (qZb ..) (key i i (qZg _))
variable {P : Program} {G : Gb} {n : Nat} {Q : Vx → St → Prop}
theorem GK {aa : Nat} {ro : Option Nat} {eT : Nat} {c0 : Ctx} {W0 : World} (hback : backOk ops = true) (hdst : dstsOk n ops = true) :
  ∀ (fuel : Nat) (segs : List (List Nat × Nat)) (last : List Nat) (listed : Array Bool) (st : St) (c : Ctx) (W : World) (a : Act),
  VDraw P G n ops aa Q segs last st → Left ops listed (flat segs last) → (flat segs last).length ≤ fuel → Closed ops listed → barOk ops segs last = true → aa + ops.size ≤ st.nx → eT ≤ aa →
  RoOk G c ro → Sim c W → Sr G c W st a → a.tmps.size = n → (∀ i ∈ flat segs last, ¬ c.used (aa + i)) → Ext c0 W0 c W → (∀ β, c.used β → c0.used β ∨ eT ≤ β) →
  wpAnyIn (Fw ro) 0 P .any ops (Lift G n eT c0 W0 Q) fuel listed a W := by
 intro fuel
 induction fuel with
 | zero =>
  intro segs last listed st c W a h hleft bn hcl hbar hb hn hro s hr hs hf he hu
  have hnil : flat segs last = [] := List.eq_nil_of_length_eq_zero (by omega)
  cases segs with
  | cons p rest => obtain ⟨l, b⟩ := p; simp [flat] at hnil
  | nil =>
   simp only [flat] at hnil hleft
   subst hnil
   obtain ⟨st', tr, hq, _, hQ⟩ := h
   cases hq
   refine ⟨?_, .normal, c, st, rfl, he, s, hr, hs, hu, by omega, hQ⟩
   cases hrd : Region.ready .any ops listed with
   | nil => rfl
   | cons i l => have := w9 hleft (j := i) (by rw [hrd]; exact qZb ..); cases this
 | succ fuel ih =>
  intro segs last listed st c W a h hleft bn hcl hbar hb hn hro s hr hs hf he hu
  refine ⟨fun hrd => ?_, fun j hj => ?_⟩
  ·have hnil := FP hback hleft hrd
   cases segs with
   | cons p rest => obtain ⟨l, b⟩ := p; simp [flat] at hnil
   | nil =>
    simp only [flat] at hnil hleft
    subst hnil
    obtain ⟨st', tr, hq, _, hQ⟩ := h
    cases hq
    exact ⟨.normal, c, st, rfl, he, s, hr, hs, hu, by omega, hQ⟩
  ·have hjl := w9 hleft hj
   obtain ⟨hjlt, _, hpre⟩ := CU hj
   have hjlt' : j < listed.size := by rw [hleft.1]; exact hjlt
   have hno : ∀ i ∈ flat segs last, aK ops ops.size i j = false := by
    intro i hi
    cases hbf : aK ops ops.size i j with
    | false => rfl
    | true =>
     have h1 := CV hcl _ _ _ hpre hbf
     rw [hleft.unlisted hi] at h1
     cases h1
   have hcl' := hcl.set hpre hjlt'
   have hnd := hleft.2.1
   have hlt : ∀ i ∈ flat segs last, i < ops.size := fun i hi => ((hleft.2.2 i).1 hi).1
   have quiet : ∀ (l : List Nat) (tail : List Nat) (st' : St) (tr : Tr) (mk : List Nat → List Nat), QSteps P G ops aa l st st' tr → TraceOk ops tr → j ∈ l → (∀ i ∈ l, i ∈ flat segs last) →
     (∀ (s1 : St) (tr' : Tr), QSteps P G ops aa (l.erase j) s1 st' tr' → TraceOk ops tr' → ∃ segs' last', VDraw P G n ops aa Q segs' last' s1 ∧ flat segs' last' = (flat segs last).erase j ∧ barOk ops segs' last' = true) →
     wpOpIn (Fw ro) 0 P ops (Lift G n eT c0 W0 Q) j (wpAnyIn (Fw ro) 0 P .any ops (Lift G n eT c0 W0 Q) fuel (listed.setIfInBounds j true)) a W := by
    intro l tail st' tr _ hq htr hjm bh hgo
    obtain ⟨o, rd, wr, s1, tr', ho, hqj, hqs, htr', _, _⟩ := hq.pull hjm htr (fun i hi => hno i (bh i hi))
    obtain ⟨segs', last', hd', hflat, hbar'⟩ := hgo s1 tr' hqs htr'
    refine CT ho hqj s hr (by rw [hs]; exact oc hdst ho) (hf j hjl) (by omega) ?_
    intro a' W' c' he' hs' hr' hsz hu'
    refine ih segs' last' _ s1 c' W' a' hd' (by rw [hflat]; exact hleft.set hjl) ?_ hcl' hbar' (by rw [hqj.nx]; exact hb) hn (hro.ext he') hs' hr' (hsz.trans hs) ?_ (he.trans he') ?_
    ·rw [hflat, List.length_erase_of_mem hjl]; omega
    ·intro i hi hbad
     rw [hflat, hnd.mem_erase_iff] at hi
     rcases hu' _ hbad with h | h
     ·exact hf i hi.2 h
     ·exact hi.1 (by omega)
    ·intro β hβ
     rcases hu' β hβ with h | h
     ·exact hu β h
     ·right; omega
   cases segs with
   | nil =>
    obtain ⟨st', tr, hq, htr, hQ⟩ := h
    refine quiet last [] st' tr id hq htr hjl (fun i hi => hi) fun s1 tr' hqs htr' => ⟨[], last.erase j, ⟨st', tr', hqs, htr', hQ⟩, rfl, rfl⟩
   | cons p rest =>
    obtain ⟨l, b⟩ := p
    obtain ⟨st', tr, hq, htr, hB⟩ := h
    simp only [flat] at hjl hno hnd hlt hleft bn hf hno
    simp only [barOk, Bool.and_eq_true, List.all_eq_true] at hbar
    by_cases hjm : j ∈ l
    ·refine quiet l [] st' tr id hq htr hjm (fun i hi => by simp only [flat]; exact List.mem_append_left _ hi) fun s1 tr' hqs htr' => ⟨(l.erase j, b) :: rest, last, ⟨st', tr', hqs, htr', hB⟩, ?_, ?_⟩
     ·simp only [flat]
      rw [List.erase_append_left _ hjm]
     ·simp only [barOk, Bool.and_eq_true, List.all_eq_true]
      exact ⟨⟨fun i hi => hbar.1.1 i (List.mem_of_mem_erase hi), hbar.1.2⟩, hbar.2⟩
    ·have hjb : j = b := by
      rcases List.mem_append.1 hjl with h | h
      ·exact absurd h hjm
      ·rcases List.mem_cons.1 h with h | h
       ·exact h
       ·have h1 := hbar.1.2 j h
        rw [hno b (by simp)] at h1; cases h1
     subst hjb
     have hlnil : l = [] := by
      cases l with
      | nil => rfl
      | cons i l' =>
       have h1 := hbar.1.1 i (qZb ..)
       rw [hno i (by simp)] at h1; cases h1
     subst hlnil
     cases hq
     simp only [List.nil_append] at *
     refine hB ro c W a _ _ hro s hr hs (hf j (qZb ..)) (by omega) ?_ ?_
     ·intro a' W' c' s1 he' hs' hr' hsz hu' hnx hk
      have her : (j :: flat rest last).erase j = flat rest last := List.erase_cons_head ..
      refine ih rest last _ s1 c' W' a' hk (by have := hleft.set hjl; rwa [her] at this) (by simp at bn; omega) hcl' hbar.2 (by omega) hn (hro.ext he') hs' hr' hsz ?_ (he.trans he') ?_
      ·intro i hi hbad
       have hi' := hlt i (qZa _ hi)
       rcases hu' _ hbad with h | h | h
       ·exact hf i (qZa _ hi) h
       ·have : i = j := by omega
        exact (List.nodup_cons.1 hnd).1 (this ▸ hi)
       ·omega
      ·intro β hβ
       rcases hu' β hβ with h | h | h
       ·exact hu β h
       ·right; omega
       ·right; omega
     ·intro a' W' c' s1 x v he' hs' hr' hsz hu' hnx hv hq
      refine ⟨.panic x, c', s1, ⟨v, rfl, hv⟩, he.trans he', hs', hr', hsz, fun β hβ => ?_, by omega, hq⟩
      rcases hu' β hβ with h | h | h
      ·exact hu β h
      ·right; omega
      ·right; omega
theorem VWp.regionDraw {id : Nat} {st : St} (hm : P.follows .mixedOrders = true) (segs : List (List Nat × Nat)) (last : List Nat)
  (hstat : (backOk ops && dstsOk n ops && barOk ops segs last && decide (flat segs last = List.range ops.size)) = true) (h : VDraw P G n ops st.nx Q segs last { st with nx := st.nx + ops.size }) :
  VWp P G n (.region id ops true) Q st := by
 intro ro c W a hro s hr hs
 simp only [Bool.and_eq_true, decide_eq_true_eq] at hstat
 obtain ⟨⟨⟨hback, hdst⟩, hbar⟩, hflat⟩ := hstat
 refine wpIn_region_any hm (GK hback hdst ops.size segs last _ _ c W.drew a h ?_ (by rw [hflat]; simp) ?_ hbar (qZg _) (qZg _) (hro.ext (Ext.drew c W)) s.drew ?_ hs ?_ (Ext.drew c W) (fun _ h => .inl h))
 ·refine ⟨by simp, by rw [hflat]; exact List.nodup_range, fun i => ?_⟩
  rw [hflat, List.mem_range]
  constructor
  ·intro hi; exact ⟨hi, by simp [hi]⟩
  ·intro hi; exact hi.1
 ·intro j hj
  exfalso
  by_cases hlt : j < ops.size
  ·simp [hlt] at hj
  ·simp [hlt] at hj
 ·have ab : Abides c W c W.drew := wA rfl
  exact ⟨hr.H, fun t => Rep.abides ab _ (hr.tm t), fun β hb => qZd (hr.nx β hb) (qZe _ _), hr.df.abides ab, hr.G.abides ab⟩
 ·intro i _ hb
  have := hr.nx _ hb
  omega
def aw (P : Program) (st : St) : ResultVar → Option VV
 | .tmp t => some (st.tm t)
 | .cell a t => match tgt st.H (st.tm a) with
  | some cs => aS P t cs
  | none => none
def resL (P : Program) (st : St) : List ResultVar → Option (List VV)
 | [] => some []
 | r :: rs => match aw P st r, resL P st rs with
  | some x, some xs => some (x :: xs)
  | _, _ => none
def resV (P : Program) (st : St) (rs : List ResultVar) : Option VV :=
 match resL P st rs with
 | some [x] => some x
 | some xs => some (.tup xs)
 | none => none
theorem Su {P : Program} {G : Gb} {c : Ctx} {W : World} {st : St} {a : Act} (s : Sim c W) (hr : Sr G c W st a) : ∀ (rs : List ResultVar) {xs : List VV}, resL P st rs = some xs →
  ∃ l, (rs.mapM (fun (r : ResultVar) => (match r with
   | .tmp t => pure (a.tmps.getD t undef)
   | .cell x t => do loadVar t (← asAddr (a.tmps.getD x undef)) : Sem Value))).run P W = .ok l W ∧ Rl c W xs l
 | [], xs, h => by simp [resL] at h; subst h; exact ⟨[], by simp, rfl⟩
 | r :: rs, xs, h => by
  unfold resL at h
  split at h
  ·rename_i x ys hx hys
   cases h
   obtain ⟨l, hl, hrl⟩ := Su s hr rs hys
   have h1 : ∃ v, (match r with
     | .tmp t => pure (a.tmps.getD t undef)
     | .cell x t => do loadVar t (← asAddr (a.tmps.getD x undef)) : Sem Value).run P W = .ok v W ∧ Rep c W x v := by
    cases r with
    | tmp t => simp [aw] at hx; subst hx; exact ⟨_, rfl, hr.tm t⟩
    | cell p t =>
     simp only [aw] at hx
     split at hx
     ·rename_i cs hcs
      rw [← hr.H] at hcs
      obtain ⟨b, o, hv, hc⟩ := ze s hcs (hr.tm p)
      obtain ⟨v, hload, hrv⟩ := Sv hx hc
      exact ⟨v, by simp only [Sem.run_bind]; rw [hv]; simp only [asAddr, Sem.run_pure, Result.andThen_ok, hload], hrv⟩
     ·cases hx
   obtain ⟨v, hv, hrv⟩ := h1
   exact ⟨v :: l, by simp only [List.mapM_cons, Sem.run_bind, hv, Result.andThen_ok, hl, Sem.run_pure], v, l, rfl, hrv, hrl⟩
  ·cases h
variable {W : World}
theorem GL {c : Ctx} {st : St} {a : Act} (s : Sim c W) (hr : Sr G c W st a) {fn : Func} {x : VV} (h : resV P st fn.results.toList = some x) :
  ∃ v, (results fn a.tmps).run P W = .ok v W ∧ Rep c W x v := by
 unfold resV at h
 have main : ∀ xs, resL P st fn.results.toList = some xs → ∃ l, (fn.results.mapM (fun (r : ResultVar) => (match r with
   | .tmp t => pure (a.tmps.getD t undef)
   | .cell x t => do loadVar t (← asAddr (a.tmps.getD x undef)) : Sem Value))).run P W = .ok ⟨l⟩ W ∧ Rl c W xs l := by
  intro xs hxs
  obtain ⟨l, hl, hrl⟩ := Su (P := P) s hr _ hxs
  refine ⟨l, ?_, hrl⟩
  rw [Array.mapM_eq_mapM_toList, Sem.run_map, hl]
  rfl
 split at h
 ·rename_i y hy
  cases h
  obtain ⟨l, hl, hrl⟩ := main _ hy
  obtain ⟨u, us, rfl, h1, h2⟩ := hrl
  have : us = [] := h2
  subst this
  refine ⟨u, ?_, h1⟩
  simp only [results, Sem.run_bind]
  exact (congrArg (fun r => Result.andThen r _) hl).trans rfl
 ·rename_i xs hne hxs
  cases h
  obtain ⟨l, hl, hrl⟩ := main _ hxs
  have bn := hrl.length
  have h1 : l.length ≠ 1 := by
   intro e
   rw [e] at bn
   cases xs with
   | nil => simp at bn
   | cons y ys => cases ys with
    | nil => exact hne y rfl
    | cons z zs => simp at bn
  refine ⟨.tuple ⟨l⟩, ?_, l, rfl, hrl⟩
  simp only [results, Sem.run_bind]
  refine (congrArg (fun r => Result.andThen r _) hl).trans ?_
  show Sem.run P (pure (if h : (⟨l⟩ : Array Value).size = 1 then (⟨l⟩ : Array Value)[0] else .tuple ⟨l⟩)) W = _
  rw [dif_neg (by simpa using h1)]
  rfl
 ·cases h
def bk (args : List VV) : Nat → VV := fun t => (args[t]?).getD (.lit undef)
def SealsTo (H : Nat → Option Vo) (x : VV) : PRes → Prop
 | .tree y => ∃ n, sealV H n x = some y
 | .own cs len es => ∃ n β el mU, (∃ cp, x = .ref β 0 len es cp) ∧ H β = some (.cells el mU) ∧ aW (without H β) n mU = some cs
 | .panic _ => False
def PurePost (P : Program) (fn : Func) (r : PRes) : Vx → St → Prop
 | .normal, st | .ret, st => st.df = [] ∧ ∃ x, resV P st fn.results.toList = some x ∧ SealsTo st.H x r
 | .panic x, st => st.df = [] ∧ ∃ y n, r = .panic y ∧ sealV st.H n x = some y
 | _, _ => False
variable {A : Nat → Prop}
theorem zf (h : ∀ b, A b → b < W.heap.size) : Sim (PCtx A) W :=
 ⟨fun _ h => by simp [PCtx, Ctx.live] at h, fun _ _ h => by simp [PCtx] at h, fun _ h => by simp [PCtx, Ctx.live] at h, fun _ h => by simp [PCtx, Ctx.live] at h, fun _ _ h => by simp [PCtx, Ctx.live] at h, h⟩
theorem zg {c' : Ctx} {W' : World} (h : Ext (PCtx A) W c' W') : RowKit.Below W.heap.size W W' :=
 ⟨h.os, h.tape, h.output, h.size, fun k hk => h.keep k hk fun β hl => by simp [PCtx, Ctx.live] at hl⟩
variable {f : FuncId} {args : List VV}
theorem ah.of_body {fn : Func} {code : Code} {r : PRes} (hc : Callable P f) (hf : P.funcs[f]? = some fn) (hb : fn.body = some code) (hn : args.length ≤ fn.ntmps)
  (h : VWp P (G.at (some none)) fn.ntmps code (PurePost P fn r) { tm := bk args, H := fun _ => none, nx := 0, df := [] }) : ah P G f args r := by
 refine ⟨hc, fun A W vs hA hG bD => ?_⟩
 have bn := bD.length
 have s := zf hA
 have hr : Sr (G.at (some none)) (PCtx A) W { tm := bk args, H := fun _ => none, nx := 0, df := [] } { tmps := (⟨vs⟩ : Array Value) ++ Array.replicate (fn.ntmps - vs.length) undef, defers := [] } := by
  refine ⟨rfl, fun t => ?_, fun β h => h.elim, rfl, hG⟩
  simp only [bk]
  by_cases ht : t < vs.length
  ·obtain ⟨x, hx⟩ : ∃ x, args[t]? = some x := ⟨_, qZi (by omega)⟩
   obtain ⟨u, hu, hru⟩ := Rl.get t bD hx
   rw [hx]
   have e : ((⟨vs⟩ : Array Value) ++ Array.replicate (fn.ntmps - vs.length) undef).getD t undef = u := by
    have h1 : ((⟨vs⟩ : Array Value) ++ Array.replicate (fn.ntmps - vs.length) undef)[t]? = some u := by
     rw [Array.getElem?_append_left (by simpa using ht)]
     simpa using hu
    rw [Array.getD_eq_getD_getElem?, h1]; rfl
   rw [e]
   exact hru
  ·have hx : args[t]? = none := List.getElem?_eq_none (by omega)
   rw [hx]
   have e : ((⟨vs⟩ : Array Value) ++ Array.replicate (fn.ntmps - vs.length) undef).getD t undef = undef := by
    rw [Array.getD_eq_getD_getElem?, Array.getElem?_append_right (by simpa using ht), Array.getElem?_replicate]
    split <;> rfl
   rw [e]
   rfl
 refine callsIn_of_wp hf hb trivial (wpIn_mono (h none (PCtx A) W _ rfl s hr (by simp; omega)) ?_) rfl
 rintro e a' W' ⟨ve, c', st', he, aM, hs', hr', hsz, hu, _, hq⟩
 have hbelow := zg aM
 have hge : ∀ β, c'.live β → W.heap.size ≤ c'.φ β := by
  intro β hl
  rcases Nat.lt_or_ge (c'.φ β) W.heap.size with h | h
  ·obtain ⟨γ, hγ, _⟩ := aM.old β hl h
   simp [PCtx, Ctx.live] at hγ
  ·exact h
 have Sw : ∀ b, A b → heldIn c' st'.H b := fun b hb => .inl (aM.A b hb)
 have hold : ∀ b, c'.A b → A b ∨ W.heap.size ≤ b := by
  intro b hb
  rcases aM.newA b hb with h | h | ⟨β, h, _⟩
  ·exact .inl h
  ·exact .inr h
  ·simp [PCtx, Ctx.live] at h
 have held : ∀ {H0 : Nat → Option Vo}, aj H0 c'.H → ∀ b, heldIn c' H0 b → A b ∨ W.heap.size ≤ b := by
  intro H0 bh b hb
  rcases hb with h | ⟨β, h, e⟩
  ·exact hold b h
  ·exact .inr (e ▸ hge β (bh.live h))
 have heldlt : ∀ {H0 : Nat → Option Vo}, aj H0 c'.H → ∀ b, heldIn c' H0 b → b < W'.heap.size := by
  intro H0 bh b hb
  rcases hb with h | ⟨β, h, e⟩
  ·exact hs'.ltA b h
  ·exact e ▸ hs'.lt β (bh.live h)
 have bh : aj st'.H c'.H := by rw [hr'.H]; exact aj.refl _
 have finish : ∀ {x : VV}, resV P st' fn.results.toList = some x → SealsTo st'.H x r → ∃ v, (results fn a'.tmps).run P W' = .ok v W' ∧
   (∃ A' : Nat → Prop, (∀ b, A b → A' b) ∧ (∀ b, A' b → A b ∨ W.heap.size ≤ b) ∧ (∀ b, A' b → b < W'.heap.size) ∧ RowKit.Below W.heap.size W W' ∧ PRep W A' W' r (.returned v)) := by
  intro x hx hseal
  obtain ⟨v, hv, hrv⟩ := GL hs' hr' hx
  refine ⟨v, hv, ?_⟩
  cases r with
  | tree y =>
   obtain ⟨n, hn⟩ := hseal
   exact ⟨_, Sw, held bh, heldlt bh, hbelow, v, rfl, (rn hs' bh n).1 _ _ _ hn hrv⟩
  | own cs len es =>
   obtain ⟨n, β, m5, mU, ⟨cp, rfl⟩, hβ, hn⟩ := hseal
   have aH : c'.live β := by simp [Ctx.live, hr'.H, hβ]
   obtain ⟨cap, e1, hcap, hroom, _⟩ := hrv.2 aH
   have hsub' : aj (without st'.H β) c'.H := fun q o ho => bh q o (aj.without _ _ q o ho)
   obtain ⟨arr, el, g1, g2, g3, g4, _⟩ := hs'.obj β _ (by rw [hr'.H]; exact hβ)
   have hrl := (rn hs' hsub' n).2 _ _ _ hn g4
   have hll := hrl.length
   simp at hll
   refine ⟨heldIn c' (without st'.H β), fun b hb => .inl (aM.A b hb), held hsub', heldlt hsub', hbelow, c'.φ β, arr, el, cap, by rw [e1], hcap, hge β aH, hs'.lt β aH, ?_, g1, by omega, by omega, ?_⟩
   ·rintro (h | ⟨γ, h, e⟩)
    ·exact hs'.notA β aH h
    ·have := hs'.inj γ β (hsub'.live h) aH e
     subst this
     simp [without] at h
   ·rw [show cs.length = mU.length by omega]; exact hrl
  | panic y => exact hseal.elim
 cases ve with
 | normal =>
  have e1 : e = .normal := he
  subst e1
  obtain ⟨hdf, x, hx, hseal⟩ := hq
  obtain ⟨v, hv, hpost⟩ := finish hx hseal
  have hd := hr'.df
  rw [hdf] at hd
  exact ⟨hd, v, hv, hpost⟩
 | ret =>
  have e1 : e = .ret := he
  subst e1
  obtain ⟨hdf, x, hx, hseal⟩ := hq
  obtain ⟨v, hv, hpost⟩ := finish hx hseal
  have hd := hr'.df
  rw [hdf] at hd
  exact ⟨hd, v, hv, hpost⟩
 | exit id => exact hq.elim
 | goto l => exact hq.elim
 | panic x =>
  obtain ⟨v, e1, hv⟩ := he
  subst e1
  obtain ⟨hdf, y, n, rfl, hn⟩ := hq
  have hd := hr'.df
  rw [hdf] at hd
  exact ⟨hd, _, Sw, held bh, heldlt bh, hbelow, v, rfl, (rn hs' bh n).1 _ _ _ hn hv⟩
def upd (f : Nat → VV) (d : Nat) (x : VV) : Nat → VV := fun i => if i = d then x else f i
def updH (H : Nat → Option Vo) (d : Nat) (o : Vo) : Nat → Option Vo := fun i => if i = d then some o else H i
theorem Sr.enter {c : Ctx} {H : Nat → Option Vo} {nx k : Nat} {vs : List Value} (hH : c.H = H) (hnx : ∀ β, c.used β → β < nx) (hG : GOk G c W) (bD : Rl c W args vs) :
  Sr G c W { tm := bk args, H := H, nx := nx, df := [] } { tmps := (⟨vs⟩ : Array Value) ++ Array.replicate (k - vs.length) undef, defers := [] } := by
 have bn := bD.length
 refine ⟨hH, fun t => ?_, hnx, rfl, hG⟩
 simp only [bk]
 by_cases ht : t < vs.length
 ·obtain ⟨x, hx⟩ : ∃ x, args[t]? = some x := ⟨_, qZi (by omega)⟩
  obtain ⟨u, hu, hru⟩ := Rl.get t bD hx
  rw [hx]
  have e : ((⟨vs⟩ : Array Value) ++ Array.replicate (k - vs.length) undef).getD t undef = u := by
   have h1 : ((⟨vs⟩ : Array Value) ++ Array.replicate (k - vs.length) undef)[t]? = some u := by
    rw [Array.getElem?_append_left (by simpa using ht)]
    simpa using hu
   rw [Array.getD_eq_getD_getElem?, h1]; rfl
  rw [e]
  exact hru
 ·have hx : args[t]? = none := List.getElem?_eq_none (by omega)
  rw [hx]
  have e : ((⟨vs⟩ : Array Value) ++ Array.replicate (k - vs.length) undef).getD t undef = undef := by
   rw [Array.getD_eq_getD_getElem?, Array.getElem?_append_right (by simpa using ht), Array.getElem?_replicate]
   split <;> rfl
  rw [e]
  rfl
theorem aP.open {aa i : Nat} {o : Oper} {st : St} {K : St → Prop} {Qp : VV → St → Prop} (ho : ops[i]? = some o) (hd : dstsOk n ops = true)
  (hw : aO ops st.tm o = some true) (hf : callee? P G st o.op = some (f, args))
  (hv : aX P G f args st.H st.nx (fun x H' nx' => K { st.put o.dst x with H := H', nx := nx' }) (fun x H' nx' => Qp x { st with H := H', nx := nx' })) : aP P G n ops aa i st K Qp := by
 intro ro c W a Kr Q hro s hr hs hγ hnx k kp
 unfold wpOpIn
 simp only [ho]
 rw [if_pos (j8 hr.tm hw)]
 obtain ⟨vs, hvs, aN, hnd⟩ := oa hr hf hv.1
 refine ⟨fun _ _ => trivial, ?_⟩
 rw [Oper.semAt_eq _ _ _ hnd, aN, Oper.uponIn_enter]
 refine ⟨fun h => (by cases h), np ((hv.2 c W vs s hr.H hr.nx hr.G hvs).mono ?_)⟩
 rintro e W' ⟨c', H', nx', aM, hs', hH', hu, hu', hle, hres⟩
 have ab := aM.abides s
 rcases hres with ⟨x, v, rfl, hx, hR⟩ | ⟨x, v, rfl, hx, hR⟩
 ·have h0 : Sr G c' W' { st.put o.dst x with H := H', nx := nx' } (a.put o.dst v) := by
   refine ⟨hH', ?_, ?_, ?_, hr.G.abides ab⟩
   ·have h2 := uf (st := st) (dst := o.dst) (fun t => Rep.abides ab _ (hr.tm t)) (fun d hd' => by rw [hs]; exact oc hd ho d hd') hx
    exact h2
   ·exact hu'
   ·rw [ug]
    cases o.dst <;> exact hr.df.abides ab
  exact k _ W' c' _ aM hs' h0 (by simpa using hs) (fun β hb => (hu β hb).imp id .inr) hle hR
 ·have h0 : Sr G c' W' { st with H := H', nx := nx' } a := ⟨hH', fun t => Rep.abides ab _ (hr.tm t), hu', hr.df.abides ab, hr.G.abides ab⟩
  exact kp _ W' c' _ x v aM hs' h0 hs (fun β hb => (hu β hb).imp id .inr) hle hx hR
end Go.V
end
section
namespace Go.V
open Go
theorem Rl.of_get {c : Ctx} {W : World} : ∀ {xs : List VV} {l : List Value}, l.length = xs.length → (∀ (i : Nat) (x : VV) (v : Value), xs[i]? = some x → l[i]? = some v → Rep c W x v) → Rl c W xs l
 | [], [], _, _ => rfl
 | [], _ :: _, h, _ => by simp at h
 | _ :: _, [], h, _ => by simp at h
 | x :: xs, v :: l, h, h' => ⟨v, l, rfl, h' 0 x v rfl rfl, Rl.of_get (by simpa using h) fun i y u hy hu => h' (i + 1) y u (by simpa using hy) (by simpa using hu)⟩
def tmL (n : Nat) (tm : Nat → VV) : List VV := (List.range n).map tm
variable {c : Ctx} {W : World}
theorem zh {tm : Nat → VV} {arr : Array Value} (h : ∀ t, Rep c W (tm t) (arr.getD t undef)) : Rl c W (tmL arr.size tm) arr.toList := by
 refine Rl.of_get (by simp [tmL]) fun i x v hx hv => ?_
 have hi : i < arr.size := by
  rcases Nat.lt_or_ge i arr.size with h | h
  ·exact h
  ·rw [List.getElem?_eq_none (by simpa using h)] at hv; cases hv
 have h1 := h i
 simp [tmL, hi] at hx
 subst hx
 have : arr.getD i undef = v := by
  have hv' : arr[i]? = some v := by simpa using hv
  rw [Array.getD_eq_getD_getElem?, hv']; rfl
 rwa [this] at h1
def loopRec (s : LoopState) (pe : Option Code) (fn : FuncId) (l : List Value) (ps : Array Tmp) (as bo : Code) (b : Nat) : Loop :=
 { state := s, pending := pe, fn, tmps := ⟨l⟩, params := ps, assign := as, body := bo, defers := b }
section record
variable {P : Program} {W W' : World} {b : Nat} {r : Loop}
theorem Dd (h : (getObj b).run P W = .ok (.loop r) W) : (Instr.getLoop b).run P W = .ok r W := by
 simp [Instr.getLoop, Sem.run_bind, h]
theorem Sx (h : (getObj b).run P W = .ok (.loop r) W) (hb : r.state ≠ .busy) (hset : (setObj b (.loop { r with state := .exhausted })).run P W = .ok () W') : (Instr.endLoop b).run P W = .ok r.pending W' := by
 have hb' : (r.state == .busy) = false := by simpa using hb
 unfold Instr.endLoop
 rw [Sem.run_bind, Dd h, Result.andThen_ok]
 simp [hb', hset]
theorem Sy (h : (getObj b).run P W = .ok (.loop r) W) (hb : r.state = .ready) (hset : (setObj b (.loop { r with state := .busy })).run P W = .ok () W') : (Instr.beginRound b).run P W = .ok () W' := by
 unfold Instr.beginRound
 rw [Sem.run_bind, Dd h, Result.andThen_ok]
 simp [hb, hset]
theorem Sz {jump : Option Code} (h : (getObj b).run P W = .ok (.loop r) W) (hset : (setObj b (.loop { r with state := if jump.isNone then .ready else .done, pending := jump })).run P W = .ok () W') :
  (Instr.endRound b jump).run P W = .ok (.bool jump.isNone) W' := by
 unfold Instr.endRound
 rw [Sem.run_bind, Dd h, Result.andThen_ok, Sem.run_bind, hset]
 rfl
end record
variable {P : Program} {s0 : LoopState} {pe : Option Code} {tm : List VV} {ps : Array Tmp} {as bo : Code}
theorem De (s : Sim c W) {β : Nat} {df : Nat} (h : c.H β = some (.loop s0 pe tm ps as bo df)) :
  ∃ l fn, Rl c W tm l ∧ (getObj (c.φ β)).run P W = .ok (.loop (loopRec s0 pe fn l ps as bo (c.φ df))) W ∧ ∀ s1 fD, ∃ W', (setObj (c.φ β) (.loop (loopRec s1 fD fn l ps as bo (c.φ df)))).run P W = .ok () W' ∧
   Ext c W (c.upd β (.loop s1 fD tm ps as bo df)) W' ∧ Sim (c.upd β (.loop s1 fD tm ps as bo df)) W' := by
 have hl : c.live β := by simp [Ctx.live, h]
 obtain ⟨l, fn, h1, h2, h3, h4⟩ := s.obj β _ h
 refine ⟨l, fn, h2, by simp [getObj, Sem.run, h1, loopRec], fun s1 fD => ?_⟩
 have hset := wC (P := P) (o' := .loop (loopRec s1 fD fn l ps as bo (c.φ df))) h1 (by intros; simp)
 have aM : Ext c W (c.upd β (.loop s1 fD tm ps as bo df)) { W with heap := W.heap.setIfInBounds (c.φ β) (.loop (loopRec s1 fD fn l ps as bo (c.φ df))) } := Ext.upd hl (But.setObj W _ _)
 refine ⟨_, hset, aM, Sim.upd s hl (But.setObj W _ _) (fun ⟨ds, hd⟩ => by rw [h] at hd; cases hd) ⟨l, fn, wD h1, Rl.abides (aM.abides s) _ h2, h3, ?_⟩⟩
 obtain ⟨ds, hd⟩ := h4
 refine ⟨ds, ?_⟩
 have : df ≠ β := by intro e; subst e; rw [h] at hd; cases hd
 simpa [Ctx.upd, this] using hd
theorem GM (s : Sim c W) {γ : Nat} (hγ : ¬ c.used γ) {fn : FuncId} {l : List Value} {df : Nat} (htm : Rl c W tm l)
  (hu : c.used df) (hd : isDef c.H df) (hne : df ≠ γ) :
  Ext c W (c.push c.H γ (.loop s0 pe tm ps as bo df) W.heap.size 0) (W.alloc (.loop (loopRec s0 pe fn l ps as bo (c.φ df)))) ∧ Sim (c.push c.H γ (.loop s0 pe tm ps as bo df) W.heap.size 0) (W.alloc (.loop (loopRec s0 pe fn l ps as bo (c.φ df)))) := by
 have ab : Abides c W (c.push c.H γ (.loop s0 pe tm ps as bo df) W.heap.size 0) (W.alloc (.loop (loopRec s0 pe fn l ps as bo (c.φ df)))) := uo s (aj.refl _) hγ (.inl (qZg _)) (But.alloc W _)
 refine uq s hγ ⟨l, fn, ?_, Rl.abides ab _ htm, .inr hu, ?_⟩
 ·simp only [Ctx.push, if_true, if_neg hne]
  exact rq _ _
 ·obtain ⟨ds, hd⟩ := hd
  exact ⟨ds, by simpa [Ctx.push, hne] using hd⟩
def jumpK (P : Program) (G : Gb) (n : Nat) (Q : Vx → St → Prop) : Option Code → St → Prop
 | none, st => Q .normal st
 | some c, st => VWp P G n c Q st
def RangeEnd (P : Program) (G : Gb) (n : Nat) (Q : Vx → St → Prop) (st : St) (H' : Nat → Option Vo) (nx' : Nat) : Prop :=
 ∃ s pe tm ps as bo df, H' (st.nx + 1) = some (.loop s pe tm ps as bo df) ∧ s ≠ .busy ∧ jumpK P G n Q pe { st with H := updH H' (st.nx + 1) (.loop .exhausted pe tm ps as bo df), nx := nx', df := .coll st.nx :: st.df }
theorem VWp.rangeFunc {G : Gb} {n : Nat} {Q : Vx → St → Prop} {st : St} {g : Operand} {f : FuncId} {first captured : List VV} (hrg : G.rg = some none)
  (hg : st.ρ G g = .fn (.func f) first captured)
  (h : aX P G f (first ++ [.yl (st.nx + 1)] ++ captured) (updH (updH st.H st.nx (.deferred (some []))) (st.nx + 1) (.loop .ready none (tmL n st.tm) ps as bo st.nx)) (st.nx + 2)
   (fun _ H' nx' => RangeEnd P G n Q st H' nx') (fun x H' nx' => Q (.panic x) { st with H := H', nx := nx', df := .coll st.nx :: st.df })) : VWp P G n (.rangeFunc g ps as bo) Q st := by
 intro ro c W a hro s hr hs
 have hro' : ro = none := by unfold RoOk at hro; rw [hrg] at hro; exact hro
 subst hro'
 refine wpIn_rangeFunc fun fn _ => ?_
 have hv := h
 have zi : ¬ c.used st.nx := fun hb => Nat.lt_irrefl _ (hr.nx _ hb)
 obtain ⟨e1, s1⟩ := uq (rm := 0) (o := .deferred (some [])) (ob := .deferred (some [])) s zi ⟨rfl, by simp only [Ctx.push, if_true]; exact rq _ _⟩
 have kK : ¬ (c.push c.H st.nx (.deferred (some [])) W.heap.size 0).used (st.nx + 1) := by
  rintro (hb | hb)
  ·omega
  ·have := hr.nx _ hb; omega
 have nr := e1.abides s
 have htm : Rl (c.push c.H st.nx (.deferred (some [])) W.heap.size 0) (W.alloc (.deferred (some []))) (tmL n st.tm) a.tmps.toList := by
  rw [← hs]; exact zh fun t => Rep.abides nr _ (hr.tm t)
 have hφ : (c.push c.H st.nx (.deferred (some [])) W.heap.size 0).φ st.nx = W.heap.size := by simp [Ctx.push]
 generalize sC : c.push c.H st.nx (.deferred (some [])) W.heap.size 0 = c1 at *
 generalize GN : W.alloc (.deferred (some [])) = W1 at *
 have Df : c1.H = updH st.H st.nx (.deferred (some [])) := by rw [← sC, ← hr.H]; rfl
 obtain ⟨e2, s2⟩ := GM s1 kK htm (s0 := .ready) (pe := none) (fn := fn) (ps := ps) (as := as) (bo := bo) (df := st.nx) (by rw [← sC]; exact .inl rfl) ⟨_, by rw [Df]; simp [updH]; rfl⟩ (by omega)
 rw [hφ] at e2 s2
 have GO : (c1.push c1.H (st.nx + 1) (.loop .ready none (tmL n st.tm) ps as bo st.nx) W1.heap.size 0).H = updH (updH st.H st.nx (.deferred (some []))) (st.nx + 1) (.loop .ready none (tmL n st.tm) ps as bo st.nx) := by
  rw [← Df]; rfl
 have hy : Rep (c1.push c1.H (st.nx + 1) (.loop .ready none (tmL n st.tm) ps as bo st.nx) W1.heap.size 0) (W1.alloc (.loop (loopRec .ready none fn a.tmps.toList ps as bo W.heap.size))) (.yl (st.nx + 1)) (.func (.yield W1.heap.size) #[] #[]) :=
  ⟨⟨.inl rfl, rfl⟩, fun _ => by simp [Ctx.push]⟩
 have hused2 : ∀ β, (c1.push c1.H (st.nx + 1) (.loop .ready none (tmL n st.tm) ps as bo st.nx) W1.heap.size 0).used β → c.used β ∨ β = st.nx ∨ β = st.nx + 1 := by
  rintro β (hb | hb)
  ·exact .inr (.inr hb)
  ·rw [← sC] at hb
   rcases hb with hb | hb
   ·exact .inr (.inl hb)
   ·exact .inl hb
 have hφ2 : (c1.push c1.H (st.nx + 1) (.loop .ready none (tmL n st.tm) ps as bo st.nx) W1.heap.size 0).φ (st.nx + 1) = W1.heap.size := by simp [Ctx.push]
 have hφ3 : (c1.push c1.H (st.nx + 1) (.loop .ready none (tmL n st.tm) ps as bo st.nx) W1.heap.size 0).φ st.nx = W.heap.size := by simp [Ctx.push, hφ]
 have hus : (c1.push c1.H (st.nx + 1) (.loop .ready none (tmL n st.tm) ps as bo st.nx) W1.heap.size 0).used (st.nx + 1) := .inl rfl
 have jQ : (c1.push c1.H (st.nx + 1) (.loop .ready none (tmL n st.tm) ps as bo st.nx) W1.heap.size 0).used st.nx := .inr (by rw [← sC]; exact .inl rfl)
 generalize w8 : c1.push c1.H (st.nx + 1) (.loop .ready none (tmL n st.tm) ps as bo st.nx) W1.heap.size 0 = c2 at *
 generalize GP : W1.alloc (.loop (loopRec .ready none fn a.tmps.toList ps as bo W.heap.size)) = W2 at *
 have zj := e1.trans e2
 have lV := zj.abides s
 have hgr := Rep.abides lV _ (hr.eval g)
 rw [hg] at hgr
 obtain ⟨l1, l2, hgv, eQ, nq⟩ := hgr
 have henter : (Instr.enterLoop fn a.tmps ps as bo none).run P W = .ok (W1.heap.size, [{ target := .collected W.heap.size, args := #[] }]) W2 := by
  rw [← GP, ← GN]
  simp only [Instr.enterLoop, Sem.run_bind, run_newObj, Sem.run_pure, Result.andThen_ok]
  rfl
 refine ⟨W1.heap.size, [{ target := .collected W.heap.size, args := #[] }], W2, { target := .fn (.func f) ⟨l2⟩, args := ⟨l1⟩ ++ #[.func (.yield W1.heap.size) #[] #[]] }, W2, f, ⟨l1 ++ [.func (.yield W1.heap.size) #[] #[]] ++ l2⟩, W2, henter, ?_, fun _ _ => trivial, ?_, (fun hd => by cases hd), ?_⟩
 ·simp only [resolve, Deferred.ofValue, hgv, Sem.run_pure]
  simp [Act.eval]
 ·have := hv.1 ⟨l1 ++ [.func (.yield W1.heap.size) #[] #[]] ++ l2⟩ W2
  rw [← this]
  simp only [invoke]
  congr 2
  apply Array.ext'
  simp
 ·have GQ : GOk G c2 W2 := hr.G.abides lV
  have hcall := hv.2 c2 W2 (l1 ++ [.func (.yield W1.heap.size) #[] #[]] ++ l2) s2 GO (fun β hb => by
   rcases hused2 β hb with hb | hb | hb
   ·have := hr.nx β hb; omega
   ·omega
   ·omega) GQ (Rl.append (Rl.append eQ ⟨_, [], rfl, hy, rfl⟩) nq)
  refine np (hcall.mono ?_)
  rintro e W' ⟨c', H', nx', aM, hs', hH', hu, hu', hle, hres⟩
  have eall := zj.trans aM
  have aball := eall.abides s
  have husd : ∀ β, c'.used β → c.used β ∨ st.nx ≤ β := by
   intro β hb
   rcases hu β hb with hb | hb
   ·rcases hused2 β hb with hb | hb | hb
    ·exact .inl hb
    ·right; omega
    ·right; omega
   ·right; omega
  have hdf : ∀ (c3 : Ctx) (W3 : World), Abides c' W' c3 W3 → RepDs c3 W3 (.coll st.nx :: st.df) ([{ target := .collected W.heap.size, args := #[] }] ++ a.defers) := by
   intro c3 W3 iT
   refine ⟨_, _, rfl, ⟨iT.used _ (aM.used _ jQ), fun hl => ?_⟩, RepDs.abides iT (hr.df.abides aball)⟩
   have hl' := iT.live _ (aM.used _ jQ) hl
   rw [iT.φ _ (aM.used _ jQ) hl, aM.φ _ jQ hl', hφ3]
  rcases hres with ⟨x, v, rfl, hx, s', pe, tm', ps', as', bo', df', hloop, hnb, hj⟩ | ⟨x, v, rfl, hx, hR⟩
  ·have hl : c'.live (st.nx + 1) := by simp [Ctx.live, hH', hloop]
   have hφ' : c'.φ (st.nx + 1) = W1.heap.size := by rw [aM.φ _ hus hl, hφ2]
   obtain ⟨l, fn', eQ, hget, hset⟩ := De (P := P) hs' (by rw [hH']; exact hloop)
   obtain ⟨W3, hset3, e3, s3⟩ := hset .exhausted pe
   have iT := e3.abides hs'
   have hend : (Instr.endLoop W1.heap.size).run P W' = .ok pe W3 := by
    rw [← hφ']
    exact Sx hget hnb hset3
   have j9 : Sr G (c'.upd (st.nx + 1) (.loop .exhausted pe tm' ps' as' bo' df')) W3 { st with H := updH H' (st.nx + 1) (.loop .exhausted pe tm' ps' as' bo' df'), nx := nx', df := .coll st.nx :: st.df } { a with defers := [{ target := .collected W.heap.size, args := #[] }] ++ a.defers } := by
    refine ⟨by rw [← hH']; rfl, fun t => Rep.abides iT _ (Rep.abides aball _ (hr.tm t)), fun β hb => hu' β hb, hdf _ _ iT, (hr.G.abides aball).abides iT⟩
   refine ⟨pe, W3, hend, ?_⟩
   have zk := eall.trans e3
   cases pe with
   | none => exact ⟨.normal, _, _, rfl, zk, s3, j9, hs, fun β hb => husd β hb, (show st.nx ≤ nx' by omega), hj⟩
   | some cd =>
    have hwp := hj none _ W3 _ (show RoOk G _ none by unfold RoOk; rw [hrg]) s3 j9 hs
    exact wpIn_mono hwp fun _ _ _ hl => hl.of_ext zk (fun β hb => husd β hb) (show st.nx ≤ nx' by omega)
  ·have j9 : Sr G c' W' { st with H := H', nx := nx', df := .coll st.nx :: st.df } { a with defers := [{ target := .collected W.heap.size, args := #[] }] ++ a.defers } :=
    ⟨hH', fun t => Rep.abides aball _ (hr.tm t), fun β hb => hu' β hb, hdf _ _ ((Ext.refl c' W').abides hs'), hr.G.abides aball⟩
   exact ⟨.panic x, c', _, ⟨v, rfl, hx⟩, eall, hs', j9, hs, husd, (show st.nx ≤ nx' by omega), hR⟩
end Go.V
end
