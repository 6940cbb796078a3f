/- Part of a proof. -/
import Derived.Test.YtmhlghgbfmcdaaaGreatDoorG7ac
set_option linter.all false
section
namespace Go.V
open Go
inductive VDef where
 | fn (f : Fn) (captured args : List VV)
 | coll (β : Nat)
structure St where
 tm : Nat → VV
 H : Nat → Option VObj
 nx : Nat
 df : List VDef
structure Glob where
 vars : Nat → Option (List VV)
 rg : Option (Option Nat) := some none
instance : CoeFun Glob (fun _ => Nat → Option (List VV)) := ⟨Glob.vars⟩
def Glob.at (G : Glob) (r : Option (Option Nat)) : Glob := { G with rg := r }
def St.ρ (G : Glob) (st : St) : Operand → VV
 | .tmp t => st.tm t
 | .const v => ofVal v
 | .global g => match G g with
  | some cs => .tp cs
  | none => .lit (.pointer (some ⟨g, 0, none⟩))
 | .func f => .fn (.func f) [] []
def St.put (st : St) (dst : Option Tmp) (x : VV) : St :=
 match dst with
 | none => st
 | some d => { st with tm := fun i => if i = d then x else st.tm i }
@[simp] theorem St.put_H (st : St) (d : Option Tmp) (x : VV) : (st.put d x).H = st.H := by cases d <;> rfl
@[simp] theorem St.put_nx (st : St) (d : Option Tmp) (x : VV) : (st.put d x).nx = st.nx := by cases d <;> rfl
@[simp] theorem St.put_df (st : St) (d : Option Tmp) (x : VV) : (st.put d x).df = st.df := by cases d <;> rfl
def RepD (c : Ctx) (W : World) : VDef → Deferred → Prop
 | .fn f cap args, d => ∃ l m, d = { target := .fn f ⟨l⟩, args := ⟨m⟩ } ∧ RepL c W cap l ∧ RepL c W args m
 | .coll β, d => c.used β ∧ (c.live β → d = { target := .collected (c.φ β), args := #[] })
def RepDs (c : Ctx) (W : World) : List VDef → List Deferred → Prop
 | [], ds => ds = []
 | v :: vs, ds => ∃ d ds', ds = d :: ds' ∧ RepD c W v d ∧ RepDs c W vs ds'
theorem RepD.abides {c c' : Ctx} {W W' : World} (ab : Abides c W c' W') : ∀ {v : VDef} {d : Deferred}, RepD c W v d → RepD c' W' v d
 | .fn _ _ _, _, ⟨l, m, e, h1, h2⟩ => ⟨l, m, e, RepL.abides ab _ h1, RepL.abides ab _ h2⟩
 | .coll β, _, ⟨hu, h⟩ => ⟨ab.used β hu, fun hl => by rw [ab.φ β hu hl]; exact h (ab.live β hu hl)⟩
theorem RepDs.abides {c c' : Ctx} {W W' : World} (ab : Abides c W c' W') : ∀ {vs : List VDef} {ds : List Deferred}, RepDs c W vs ds → RepDs c' W' vs ds
 | [], _, h => h
 | _ :: _, _, ⟨d, ds', e, h1, h2⟩ => ⟨d, ds', e, h1.abides ab, RepDs.abides ab h2⟩
mutual
def VV.tree : VV → Bool
 | .any | .lit _ => true
 | .agg cs => treeL cs
 | .tup cs => treeL cs
 | .sl cs _ _ => treeL cs
 | .tp cs => treeL cs
 | .fn _ a b => treeL a && treeL b
 | .ifc _ x => x.tree
 | .mt _ vs => treeL vs
 | .ref .. | .ptr .. | .mp _ | .it _ | .yl _ => false
def treeL : List VV → Bool
 | [] => true
 | x :: xs => x.tree && treeL xs
end
def GOk (G : Glob) (c : Ctx) (W : World) : Prop := ∀ g cs, G g = some cs → c.A g ∧ RepC c W g 0 cs ∧ treeL cs = true
theorem GOk.abides {G : Glob} {c c' : Ctx} {W W' : World} (h : GOk G c W) (ab : Abides c W c' W') : GOk G c' W' := fun g cs hg =>
 ⟨ab.A g (h g cs hg).1, RepC.abides ab g 0 cs (h g cs hg).1 (h g cs hg).2.1, (h g cs hg).2.2⟩
structure StRep (G : Glob) (c : Ctx) (W : World) (st : St) (a : Act) : Prop where
 H : c.H = st.H
 tm : ∀ t, Rep c W (st.tm t) (a.tmps.getD t undef)
 nx : ∀ β, c.used β → β < st.nx
 df : RepDs c W st.df a.defers
 G : GOk G c W
theorem StRep.eval {G : Glob} {c : Ctx} {W : World} {st : St} {a : Act} (h : StRep G c W st a) : ∀ y, Rep c W (st.ρ G y) (a.eval y) := by
 intro y
 cases y with
 | tmp t => exact h.tm t
 | const v => exact sn c W v
 | global g =>
  simp only [St.ρ, Act.eval]
  split
  ·rename_i cs hg
   exact ⟨g, 0, rfl, (h.G g cs hg).1, (h.G g cs hg).2.1⟩
  ·rfl
 | func f => exact ⟨[], [], rfl, rfl, rfl⟩
def dstIn (n : Nat) (o : Oper) : Bool := match o.dst with | some d => decide (d < n) | none => true
theorem ow {c : Ctx} {W : World} {st : St} {a : Act} {dst : Option Tmp} {x : VV} {v : Value} (htm : ∀ t, Rep c W (st.tm t) (a.tmps.getD t undef)) (hd : ∀ d, dst = some d → d < a.tmps.size) (hx : Rep c W x v) :
  ∀ t, Rep c W ((st.put dst x).tm t) ((a.put dst v).tmps.getD t undef) := by
 intro t
 cases dst with
 | none => exact htm t
 | some d =>
  have hlt := hd d rfl
  by_cases e : t = d
  ·subst e; simp [St.put, Act.put, hlt]; exact hx
  ·have e' : ¬ d = t := fun h => e h.symm
   have := htm t
   simp only [St.put, Act.put, e, if_false]
   simpa [Array.getElem?_setIfInBounds_ne e'] using this
@[simp] theorem Ns (a : Act) (dst : Option Tmp) (v : Value) : (a.put dst v).tmps.size = a.tmps.size := by cases dst <;> simp [Act.put]
@[simp] theorem oy (a : Act) (dst : Option Tmp) (v : Value) : (a.put dst v).defers = a.defers := by cases dst <;> rfl
def aG (ops : Array Oper) (tm : Nat → VV) (o : Oper) : Option Bool :=
 match o.guard with
 | none => some true
 | some (j, w) =>
  match (ops[j]?).bind (·.dst) with
  | none => some false
  | some d => match tm d with
   | .lit (.bool b) => some (b == w)
   | .lit (.tuple _) => some false
   | _ => none
theorem fk {ops : Array Oper} {c : Ctx} {W : World} {tm : Nat → VV} {tmps : Array Value} {o : Oper} {b : Bool} (htm : ∀ t, Rep c W (tm t) (tmps.getD t undef)) (h : aG ops tm o = some b) :
  Region.wanted o (yielded ops tmps) = b := by
 unfold aG at h
 unfold Region.wanted
 cases hg : o.guard with
 | none => simp [hg] at h; simp [← h]
 | some p =>
  obtain ⟨j, w⟩ := p
  simp only [hg] at h
  simp only [yielded]
  cases hd : (ops[j]?).bind (·.dst) with
  | none => simp [hd] at h; simp [← h]
  | some d =>
   simp only [hd] at h
   have hr := htm d
   split at h
   ·rename_i bb e
    rw [e] at hr
    have e2 : tmps.getD d undef = .bool bb := hr
    cases hq : tmps[d]? with
    | none => simp [Array.getD, Array.getElem?_eq_none_iff.1 hq] at e2; rw [dif_neg (by have := Array.getElem?_eq_none_iff.1 hq; omega)] at e2; cases e2
    | some v =>
     simp [hq] at e2
     subst e2
     simp [hq]
     cases h; rfl
   ·rename_i l e
    rw [e] at hr
    have e2 : tmps.getD d undef = .tuple l := hr
    cases hq : tmps[d]? with
    | none => simp [hq]; cases h; rfl
    | some v =>
     simp [hq] at e2
     subst e2
     simp [hq]
     cases h; rfl
   ·cases h
def topName : VV → Option Nat
 | .ref β _ _ _ _ | .ptr β _ | .mp β | .it β | .yl β => some β
 | _ => none
def rdO : Op → List Operand
 | .move _ | .assign _ => []
 | op => op.operands.toList
theorem Af {op : Op} {y : Operand} (h : y ∈ rdO op) : y ∈ op.operands := by
 cases op <;> first | (simp [rdO] at h; done) | (simpa [rdO] using h)
def rdV (o : Oper) (ρ : Operand → VV) : List Nat := (rdO o.op).filterMap fun y => topName (ρ y)
def VEff.wr (γ : Nat) : VEff → List Nat
 | .none => []
 | .new _ => [γ]
 | .upd β _ => [β]
 | .mv β _ _ => [β, γ]
 | .kill β => [β]
section congr
variable {H H' : Nat → Option VObj}
def Agree (H H' : Nat → Option VObj) (x : VV) : Prop := ∀ β, topName x = some β → H β = H' β
theorem Ag {x : VV} (h : Agree H H' x) : tgt H x = tgt H' x := by
 cases x <;> first | rfl | (simp only [tgt]; rw [h _ rfl])
theorem wo {x : VV} (h : Agree H H' x) : sls H x = sls H' x := by
 unfold sls
 split <;> first | rfl | (rw [h _ rfl])
theorem Js {x : VV} (h : Agree H H' x) : Agree H H' (nilS x) := by
 unfold nilS
 split
 ·intro β hb; cases hb
 ·exact h
theorem Ah {P : Program} {t : TypeId} {x : VV} (h : Agree H H' x) : vlen P H t x = vlen P H' t x := by
 unfold vlen
 rw [wo h]
 cases P.underlying t with
 | none => rfl
 | some d => cases d <;> first | rfl | (cases x <;> first | rfl | (simp only [h _ rfl]) | (rename_i v; cases v <;> first | rfl | (rename_i r; cases r <;> rfl)))
theorem Nt {d2 : TypeDesc} {x : VV} {size : Nat} (h : Agree H H' x) : srcV H d2 x size = srcV H' d2 x size := by
 cases d2 <;> first | rfl | exact wo h
theorem Nu {P : Program} {γ : Nat} {t t2 : TypeId} {s x : VV} (hs : Agree H H' s) (h : Agree H H' x) : vappend P H γ t t2 s x = vappend P H' γ t t2 s x := by
 unfold vappend
 replace hs := Js hs
 generalize nilS s = s at hs
 unfold vappend1
 simp only [Nt h]
 cases s <;> first | rfl | (simp only [hs _ rfl])
theorem Nv {P : Program} {src dst : TypeId} {x : VV} (h : Agree H H' x) : vconv P H src dst x = vconv P H' src dst x := by
 unfold vconv
 simp only [wo h]
theorem Nw {P : Program} {src dst : TypeId} {x : VV} (h : Agree H H' x) : vptrConv P H src dst x = vptrConv P H' src dst x := by
 unfold vptrConv
 cases x <;> first | rfl | (simp only [h _ rfl])
theorem Ai {P : Program} {t : TypeId} {x y : VV} (h : Agree H H' x) (k : Agree H H' y) : vptrEq.eq1 P H t x y = vptrEq.eq1 P H' t x y := by
 unfold vptrEq.eq1
 split
 ·split
  ·split
   ·rfl
   ·split <;> first | rfl | (rw [h _ rfl]; done) | (rw [k _ rfl]; done)
  ·rfl
 ·split <;> first | rfl | (rw [h _ rfl]; done) | (rw [k _ rfl]; done)
 ·rfl
theorem Nx {P : Program} {op : BinOp} {t : TypeId} {x y : VV} (h : Agree H H' x) (k : Agree H H' y) : vptrEq P H op t x y = vptrEq P H' op t x y := by
 unfold vptrEq
 rw [Ai h k]
theorem Ny {x : VV} (h : Agree H H' x) : vsliceData H x = vsliceData H' x := by
 unfold vsliceData
 cases x <;> first | rfl | (simp only [h _ rfl])
theorem Nz {P : Program} {t : TypeId} {x y : VV} (h : Agree H H' x) : vunsafeString P H t x y = vunsafeString P H' t x y := by
 unfold vunsafeString
 split <;> first | rfl | (rw [h _ rfl])
theorem N0 {P : Program} {t : TypeId} {x : VV} (h : Agree H H' x) : vclear P H t x = vclear P H' t x := by
 unfold vclear
 replace h := Js h
 generalize nilS x = x at h
 split <;> first | rfl | (rw [h _ rfl])
theorem N1 {P : Program} {t : TypeId} {x : VV} {f : Nat} (h : Agree H H' x) : al P H t x f = al P H' t x f := by
 unfold al
 split <;> try rfl
 split <;> try rfl
 split <;> try rfl
 split <;> try rfl
 cases x <;> first | rfl | (simp only [h _ rfl])
theorem N2 {P : Program} {t : TypeId} {x i : VV} (h : Agree H H' x) : aB P H t x i = aB P H' t x i := by
 unfold aB
 split <;> try rfl
 split <;> try rfl
 all_goals (split <;> first | rfl | (rw [h _ rfl]))
theorem N3 {P : Program} {t : TypeId} {x : VV} {lo hi mx : Option VV} (h : Agree H H' x) : vslice P H t x lo hi mx = vslice P H' t x lo hi mx := by
 unfold vslice
 rw [wo h]
theorem N4 {P : Program} {t : TypeId} {x : VV} {lo hi mx : Option VV} (h : Agree H H' x) : vsliceX P H t x lo hi mx = vsliceX P H' t x lo hi mx := by
 unfold vsliceX
 split <;> try rfl
 split <;> first | rfl | (rw [h _ rfl])
theorem N5 {P : Program} {t : TypeId} {x k : VV} {ok : Bool} (h : Agree H H' x) : vlookup P H t x k ok = vlookup P H' t x k ok := by
 unfold vlookup
 have : mapOf H x = mapOf H' x := by cases x <;> first | rfl | (simp only [mapOf]; rw [h _ rfl])
 rw [this]
theorem Jt {P : Program} {t : TypeId} {x k y : VV} (h : Agree H H' x) : vmapUpdate P H t x k y = vmapUpdate P H' t x k y := by
 unfold vmapUpdate
 split <;> first | rfl | (rw [h _ rfl])
theorem N6 {x : VV} {b : Bool} (h : Agree H H' x) : vnext H x b = vnext H' x b := by
 unfold vnext
 split <;> first | rfl | (rw [h _ rfl])
theorem N7 {P : Program} {k : Call} {ρ ρ' : Operand → VV} {γ : Nat} (hρ : ∀ y ∈ k.operands, ρ y = ρ' y) (hH : ∀ y ∈ k.operands, Agree H H' (ρ y)) : vbuiltin P k ρ H γ = vbuiltin P k ρ' H' γ := by
 obtain ⟨callee, ⟨args⟩, ⟨ats⟩⟩ := k
 cases callee with
 | value f =>
  have h0 : ρ f = ρ' f := hρ f (by simp [Call.operands])
  have h1 : args.map ρ = args.map ρ' := List.map_congr_left fun y hy => hρ y (by simp [Call.operands, hy])
  unfold vbuiltin
  simp only [h0, h1]
 | invoke r n => rfl
 | builtin b =>
  have ha : ∀ y ∈ args, ρ y = ρ' y := fun y hy => hρ y (by simp [Call.operands, hy])
  have hb : ∀ y ∈ args, Agree H H' (ρ y) := fun y hy => hH y (by simp [Call.operands, hy])
  unfold vbuiltin
  cases b <;> try rfl
  all_goals
   rcases args with _ | ⟨x, _ | ⟨y, _ | ⟨z, args⟩⟩⟩ <;> first
    | rfl
    | (simp only [← ha _ (List.mem_cons_self ..), Ny (hb _ (List.mem_cons_self ..))]; done)
    | (rcases ats with _ | ⟨t, _ | ⟨t2, _ | ⟨t3, ats⟩⟩⟩ <;> first
      | rfl
      | (simp only [← ha _ (List.mem_cons_self ..), Ah (hb _ (List.mem_cons_self ..))]; done)
      | (simp only [← ha _ (List.mem_cons_self ..), N0 (hb _ (List.mem_cons_self ..))]; done)
      | (simp only [← ha _ (List.mem_cons_self ..), ← ha _ (List.mem_cons_of_mem _ (List.mem_cons_self ..)), Nu (hb _ (List.mem_cons_self ..)) (hb _ (List.mem_cons_of_mem _ (List.mem_cons_self ..)))]; done)
      | (simp only [← ha _ (List.mem_cons_self ..), ← ha _ (List.mem_cons_of_mem _ (List.mem_cons_self ..)), Nz (hb _ (List.mem_cons_self ..))]; done)
      | (simp only [← ha _ (List.mem_cons_self ..), ← ha _ (List.mem_cons_of_mem _ (List.mem_cons_self ..))]; done))
theorem Aj {P : Program} {o : Oper} {ρ ρ' : Operand → VV} {γ : Nat} (hρ : ∀ y ∈ o.op.operands, ρ y = ρ' y) (hH : ∀ y ∈ o.op.operands, Agree H H' (ρ y)) : vop P o ρ H γ = vop P o ρ' H' γ := by
 unfold vop
 cases ho : o.op <;> rw [ho] at hρ hH <;> simp only [Op.operands] at hρ hH <;> (try dsimp only) <;> first
  | rfl
  | (rw [hρ _ (by simp)]; done)
  | (rw [hρ _ (by simp), hρ _ (by simp)]; done)
  | skip
 case binOp op t x y yt => rw [← hρ x (by simp), ← hρ y (by simp), Nx (hH x (by simp)) (hH y (by simp))]
 case convert src dst x => rw [← hρ x (by simp), Nv (hH x (by simp)), Nw (hH x (by simp))]
 case pick c a b => simp only [hρ c (by simp), hρ a (by simp), hρ b (by simp)]
 case build t parts =>
  have e : (parts.toList.map fun p => (p.1, ρ p.2)) = (parts.toList.map fun p => (p.1, ρ' p.2)) := List.map_congr_left fun p hp => by rw [hρ p.2 (by simpa using ⟨p.1, by simpa using hp⟩)]
  rw [e]
 case buildSlice t n parts =>
  have e : (parts.toList.map fun p => (p.1, ρ p.2)) = (parts.toList.map fun p => (p.1, ρ' p.2)) := List.map_congr_left fun p hp => by rw [hρ p.2 (by simpa using ⟨p.1, by simpa using hp⟩)]
  rw [e]
 case load t x => rw [← hρ x (by simp), Ag (hH x (by simp))]
 case store t a x =>
  rw [← hρ a (by simp), ← hρ x (by simp)]
  have := hH a (by simp)
  cases h : ρ a <;> first | rfl | (rw [h] at this; simp only [this _ rfl])
 case nilCheck x =>
  rw [← hρ x (by simp)]
  have := hH x (by simp)
  cases h : ρ x <;> first | rfl | (rw [h] at this; simp only [this _ rfl]; done) | (rename_i f _ _; cases f <;> rfl)
 case makeMap t r => cases r <;> rfl
 case makeFunc f a b =>
  have e1 : a.toList.map ρ = a.toList.map ρ' := List.map_congr_left fun y hy => hρ y (by simp at hy ⊢; exact .inl hy)
  have e2 : b.toList.map ρ = b.toList.map ρ' := List.map_congr_left fun y hy => hρ y (by simp at hy ⊢; exact .inr hy)
  rw [e1, e2]
 case slice t x lo hi mx =>
  have hx := hρ x (by simp)
  have e1 : lo.map ρ = lo.map ρ' := by cases lo with | none => rfl | some y => simp [hρ y (by simp)]
  have e2 : hi.map ρ = hi.map ρ' := by cases hi with | none => rfl | some y => simp [hρ y (by simp)]
  have e3 : mx.map ρ = mx.map ρ' := by cases mx with | none => rfl | some y => simp [hρ y (by simp)]
  rw [← hx, ← e1, ← e2, ← e3]
  simp only [N3 (hH x (by simp)), N4 (hH x (by simp))]
 case fieldAddr t x f => rw [← hρ x (by simp), N1 (hH x (by simp))]
 case indexAddr t x i => rw [← hρ x (by simp), ← hρ i (by simp), N2 (hH x (by simp))]
 case lookup t x k ok => rw [← hρ x (by simp), ← hρ k (by simp), N5 (hH x (by simp))]
 case mapUpdate t x k y => rw [← hρ x (by simp), ← hρ k (by simp), ← hρ y (by simp), Jt (hH x (by simp))]
 case insert t x k y => rw [← hρ x (by simp), ← hρ k (by simp), ← hρ y (by simp), Jt (hH x (by simp))]
 case next x b => rw [← hρ x (by simp), N6 (hH x (by simp))]
 case call k => exact N7 hρ hH
end congr
theorem Ju {P : Program} {o : Oper} {ρ ρ' : Operand → VV} {H H' : Nat → Option VObj} {γ : Nat} (hρ : ∀ y ∈ o.op.operands, ρ y = ρ' y) (h : ∀ β ∈ rdV o ρ, H β = H' β) : vop P o ρ H γ = vop P o ρ' H' γ := by
 have key : (∀ y ∈ o.op.operands, y ∈ rdO o.op) → vop P o ρ H γ = vop P o ρ' H' γ := fun hy => Aj hρ fun y hy' β hb => h β (List.mem_filterMap.2 ⟨y, hy y hy', hb⟩)
 obtain ⟨d, op, ty, pos, af, g⟩ := o
 cases op <;> first | (refine key fun y hy => ?_; simpa [rdO] using hy) | skip
 ·rename_i x; simp only [vop]; rw [hρ x (by simp [Op.operands])]
 ·rename_i x; simp only [vop]; rw [hρ x (by simp [Op.operands])]
theorem mX {γ : Nat} {H : Nat → Option VObj} {eff : VEff} {β : Nat} (h : β ∉ eff.wr γ) : eff.app γ H β = H β := by
 cases eff <;> simp [VEff.wr, VEff.app, without] at * <;> simp [h]
theorem Ak {γ β : Nat} {H H' : Nat → Option VObj} {e : VEff} (h : β ∈ e.wr γ) : e.app γ H β = e.app γ H' β := by
 cases e with
 | none => simp [VEff.wr] at h
 | new o => simp [VEff.wr] at h; simp [VEff.app, h]
 | upd b o => simp [VEff.wr] at h; simp [VEff.app, h]
 | kill b =>
  simp [VEff.wr] at h
  simp [VEff.app, without, h]
 | mv b el cs =>
  simp [VEff.wr] at h
  by_cases e1 : β = γ
  ·simp [VEff.app, e1]
  ·have e2 : β = b := h.resolve_right e1
   simp only [VEff.app, without, e2, if_true]
theorem Al {γ δ : Nat} {H : Nat → Option VObj} {e f : VEff} (h : ∀ β ∈ e.wr γ, β ∉ f.wr δ) : f.app δ (e.app γ H) = e.app γ (f.app δ H) := by
 funext β
 by_cases hf : β ∈ f.wr δ
 ·have he : β ∉ e.wr γ := fun he => h β he hf
  rw [mX he]
  exact Ak hf
 ·rw [mX hf]
  by_cases he : β ∈ e.wr γ
  ·exact Ak he
  ·rw [mX he, mX he, mX hf]
end Go.V
end
section
namespace Go.V
open Go
def PCtx (A : Nat → Prop) : Ctx := { A, φ := id, room := fun _ => 0, used := fun _ => False, H := fun _ => none }
mutual
theorem so {c : Ctx} {W : World} : ∀ {x : VV} {v : Value}, x.tree = true → Rep c W x v → Rep (PCtx c.A) W x v
 | .any, _, _, _ => trivial
 | .lit _, _, _, h => h
 | .agg cs, _, ht, ⟨l, e, h⟩ => ⟨l, e, iS (by simpa [VV.tree] using ht) h⟩
 | .tup cs, _, ht, ⟨l, e, h⟩ => ⟨l, e, iS (by simpa [VV.tree] using ht) h⟩
 | .sl cs _ _, _, ht, ⟨base, cap, e, h1, h2, h3⟩ => ⟨base, cap, e, h1, h2, h3.imp id fun ⟨b, o, e2, hA, h⟩ => ⟨b, o, e2, hA, wq (by simpa [VV.tree] using ht) h⟩⟩
 | .tp cs, _, ht, ⟨b, o, e, hA, h⟩ => ⟨b, o, e, hA, wq (by simpa [VV.tree] using ht) h⟩
 | .fn _ a b, _, ht, ⟨l, m, e, h1, h2⟩ => by
  simp [VV.tree] at ht
  exact ⟨l, m, e, iS ht.1 h1, iS ht.2 h2⟩
 | .ifc _ x, _, ht, ⟨u, e, h⟩ => ⟨u, e, so (by simpa [VV.tree] using ht) h⟩
 | .ref .., _, ht, _ => by simp [VV.tree] at ht
 | .ptr .., _, ht, _ => by simp [VV.tree] at ht
 | .mp _, _, ht, _ => by simp [VV.tree] at ht
 | .mt _ vs, _, ht, ⟨b, e, hA, ents, clk, h1, h2, h3⟩ => ⟨b, e, hA, ents, clk, h1, h2, iS (by simpa [VV.tree] using ht) h3⟩
 | .it _, _, ht, _ => by simp [VV.tree] at ht
 | .yl _, _, ht, _ => by simp [VV.tree] at ht
theorem iS {c : Ctx} {W : World} : ∀ {xs : List VV} {l : List Value}, treeL xs = true → RepL c W xs l → RepL (PCtx c.A) W xs l
 | [], _, _, h => h
 | x :: xs, _, ht, ⟨u, us, e, h1, h2⟩ => by
  simp [treeL] at ht
  exact ⟨u, us, e, so ht.1 h1, iS ht.2 h2⟩
theorem wq {c : Ctx} {W : World} {b : Nat} : ∀ {xs : List VV} {o : Nat}, treeL xs = true → RepC c W b o xs → RepC (PCtx c.A) W b o xs
 | [], _, _, _ => trivial
 | x :: xs, _, ht, ⟨u, e, h1, h2⟩ => by
  simp [treeL] at ht
  exact ⟨u, e, so ht.1 h1, wq ht.2 h2⟩
end
theorem GOk.tree {G : Glob} {c : Ctx} {W : World} (h : GOk G c W) : GOk G (PCtx c.A) W := fun g cs hg =>
 ⟨(h g cs hg).1, wq (h g cs hg).2.2 (h g cs hg).2.1, (h g cs hg).2.2⟩
theorem h9 {A : Nat → Prop} {W : World} {c : Ctx} (h : ∀ b, A b → c.A b) : Abides (PCtx A) W c W :=
 ⟨h, fun _ _ => rfl, fun _ h => h.elim, fun _ h => h.elim, fun _ h => h.elim, fun _ h => h.elim⟩
inductive PRes where
 | tree (x : VV)
 | own (cs : List VV) (len es : Nat)
 | panic (x : VV)
def PRep (W0 : World) (A' : Nat → Prop) (W' : World) : PRes → Ending → Prop
 | .tree x, e => ∃ v, e = .returned v ∧ Rep (PCtx A') W' x v
 | .own cs len es, e => ∃ b arr elem cap, e = .returned (.slice (some ⟨b, 0, none⟩) len cap) ∧ len ≤ cap ∧ W0.heap.size ≤ b ∧ b < W'.heap.size ∧ ¬ A' b ∧
   W'.heap[b]? = some (.cells arr elem (0, 0)) ∧ cap * es ≤ arr.size ∧ cs.length ≤ arr.size ∧ RepL (PCtx A') W' cs (arr.toList.take cs.length)
 | .panic x, e => ∃ v, e = .panicked [{ v, recovered := false }] ∧ Rep (PCtx A') W' x v
def Callable (P : Program) (f : FuncId) : Prop := ∀ args W, (callFunc f args).run P W = .ok (.enter f args) W
def aj (P : Program) (G : Glob) (f : FuncId) (args : List VV) (r : PRes) : Prop :=
 Callable P f ∧ ∀ A W vs, (∀ b, A b → b < W.heap.size) → GOk G (PCtx A) W → RepL (PCtx A) W args vs →
  CallsIn Fence.wide 0 P f ⟨vs⟩ W fun e W' => ∃ A' : Nat → Prop, (∀ b, A b → A' b) ∧ (∀ b, A' b → A b ∨ W.heap.size ≤ b) ∧ (∀ b, A' b → b < W'.heap.size) ∧
   RowKit.Below W.heap.size W W' ∧ PRep W A' W' r e
def Fw (ro : Option Nat) : Fence := { Fence.wide with round := ro }
theorem jh {ro : Option Nat} {n m : Nat} {P : Program} {f : FuncId} {args : Array Value} {W : World} {R : Ending → World → Prop} (h : CallsIn Fence.wide n P f args W R) : CallsIn (Fw ro) m P f args W R :=
 ⟨trivial, fun cs _ => h.2 cs (fun d hd => by cases hd)⟩
def Ctx.more (c : Ctx) (A' : Nat → Prop) : Ctx := { c with A := A' }
section more
variable {c : Ctx} {W W' : World} {A' : Nat → Prop} (s : Sim c W) (h1 : ∀ b, c.A b → A' b) (h2 : ∀ b, A' b → c.A b ∨ W.heap.size ≤ b) (h3 : ∀ b, A' b → b < W'.heap.size) (hb : RowKit.Below W.heap.size W W')
include h1 h2 hb
theorem Ext.more : Ext c W (c.more A') W' where
 A := h1
 newA b hA := (h2 b hA).imp id .inl
 used _ h := h
 live _ _ h := h
 φ _ _ _ := rfl
 room _ _ _ := rfl
 keep b hlt _ := hb.block b hlt
 old γ h _ := ⟨γ, h, rfl⟩
 size := hb.size
 os := hb.os
 tape := hb.tape
 output := hb.output
include s h3
theorem Sim.more : Sim (c.more A') W' := by
 have ab := (Ext.more h1 h2 hb).abides s
 refine ⟨s.used, fun β o ho => ?_, fun β hl => Nat.lt_of_lt_of_le (s.lt β hl) hb.size, fun β hl hA => ?_, s.inj, h3⟩
 ·have hl : c.live β := by
   have : c.H β = some o := ho
   simp [Ctx.live, this]
  refine (s.obj β o ho).abides ab (s.used β hl) hl (hb.block _ (s.lt β hl)) ?_
  intro st pe tm ps as bo df e
  subst e
  exact s.loopOk ho
 ·rcases h2 _ hA with h | h
  ·exact s.notA β hl h
  ·have := s.lt β hl
   have h' : W.heap.size ≤ c.φ β := h
   omega
end more
mutual
def sealV (H : Nat → Option VObj) : Nat → VV → Option VV
 | 0, _ => none
 | n + 1, x => if x.tree then some x else
  match x with
  | .ref β off len es _ => match H β with
   | some (.cells _ cs) => if off ≤ cs.length then (sealL H n ((cs.drop off).take (len * es))).map fun l => .sl l len false else none
   | _ => none
  | .ptr β off => match H β with
   | some (.cells _ cs) => if off ≤ cs.length then (sealL H n (cs.drop off)).map .tp else none
   | _ => none
  | .agg cs => (sealL H n cs).map .agg
  | .tup cs => (sealL H n cs).map .tup
  | .fn f a b => match sealL H n a, sealL H n b with
   | some a, some b => some (.fn f a b)
   | _, _ => none
  | .ifc t x => (sealV H n x).map (.ifc t)
  | .mp β => match H β with
   | some (.map es) => (sealL H n (es.map (·.2))).map fun l => .mt (es.map (·.1)) l
   | _ => none
  | .mt ks vs => (sealL H n vs).map (.mt ks)
  | _ => none
def sealL (H : Nat → Option VObj) : Nat → List VV → Option (List VV)
 | 0, _ => none
 | _ + 1, [] => some []
 | n + 1, x :: xs => match sealV H n x, sealL H n xs with
  | some y, some ys => some (y :: ys)
  | _, _ => none
end
def heldIn (c : Ctx) (H0 : Nat → Option VObj) (b : Nat) : Prop := c.A b ∨ ∃ β, (H0 β).isSome = true ∧ c.φ β = b
theorem Ad {c : Ctx} {W : World} {H0 : Nat → Option VObj} {x : VV} {v : Value} (ht : x.tree = true) (h : Rep c W x v) : Rep (PCtx (heldIn c H0)) W x v := by
 have h1 := so ht h
 have ab : Abides (PCtx c.A) W (PCtx (heldIn c H0)) W := h9 (fun b hb => Or.inl hb)
 exact Rep.abides ab _ h1
theorem lZ {c : Ctx} {W : World} (s : Sim c W) {H0 : Nat → Option VObj} (hs : au H0 c.H) : ∀ (n : Nat),
  (∀ x v y, sealV H0 n x = some y → Rep c W x v → Rep (PCtx (heldIn c H0)) W y v) ∧
  (∀ xs l ys, sealL H0 n xs = some ys → RepL c W xs l → RepL (PCtx (heldIn c H0)) W ys l) := by
 intro n
 induction n with
 | zero => exact ⟨fun x v y h _ => by simp [sealV] at h, fun xs l ys h _ => by simp [sealL] at h⟩
 | succ n ih =>
  have cells : ∀ {b o : Nat} {xs ys : List VV}, sealL H0 n xs = some ys → RepC c W b o xs → RepC (PCtx (heldIn c H0)) W b o ys := by
   intro b o xs ys h hc
   obtain ⟨l, hl, hcell⟩ := RepC.list hc
   exact RepC.of_cells (ih.2 _ _ _ h hl) hcell
  constructor
  ·intro x v y h hr
   unfold sealV at h
   split at h
   ·rename_i ht
    cases h
    exact Ad ht hr
   ·split at h
    ·rename_i β off len es cp _
     split at h
     ·rename_i cs hβ
      split at h
      ·rename_i hle
       obtain ⟨ys, hys, e⟩ := omap h
       subst e
       have hlive := hs β _ hβ
       obtain ⟨cap, hv, hcap, _, _⟩ := hr.2 (by simp [Ctx.live, hlive])
       have hc := RepC.take (len * es) (RepC.drop off (RepC.of_obj s hlive))
       have := cells hys hc
       exact ⟨_, cap, hv, hcap, fun h => by simp at h, .inr ⟨_, _, rfl, .inr ⟨β, by simp [hβ], rfl⟩, by simpa using this⟩⟩
      ·cases h
     ·cases h
    ·rename_i β off _
     split at h
     ·rename_i cs hβ
      split at h
      ·rename_i hle
       obtain ⟨ys, hys, e⟩ := omap h
       subst e
       have hlive := hs β _ hβ
       have hv := hr.2 (by simp [Ctx.live, hlive])
       have hc := RepC.drop off (RepC.of_obj s hlive)
       have := cells hys hc
       exact ⟨_, _, hv, .inr ⟨β, by simp [hβ], rfl⟩, by simpa using this⟩
      ·cases h
     ·cases h
    ·obtain ⟨ys, hys, e⟩ := omap h
     subst e
     obtain ⟨l, e, hl⟩ := hr
     exact ⟨l, e, ih.2 _ _ _ hys hl⟩
    ·obtain ⟨ys, hys, e⟩ := omap h
     subst e
     obtain ⟨l, e, hl⟩ := hr
     exact ⟨l, e, ih.2 _ _ _ hys hl⟩
    ·split at h
     ·rename_i a b ha hb
      cases h
      obtain ⟨l, m, e, hl, hm⟩ := hr
      exact ⟨l, m, e, ih.2 _ _ _ ha hl, ih.2 _ _ _ hb hm⟩
     ·cases h
    ·obtain ⟨ys, hys, e⟩ := omap h
     subst e
     obtain ⟨u, e, hu⟩ := hr
     exact ⟨u, e, ih.1 _ _ _ hys hu⟩
    ·rename_i β _
     split at h
     ·rename_i es hβ
      obtain ⟨ys, hys, e⟩ := omap h
      subst e
      have hlive := hs β _ hβ
      have hv := hr.2 (by simp [Ctx.live, hlive])
      obtain ⟨ents, clk, h1, h2, h3⟩ := s.obj β _ hlive
      exact ⟨_, hv, .inr ⟨β, by simp [hβ], rfl⟩, ents, clk, h1, h2, ih.2 _ _ _ hys h3⟩
     ·cases h
    ·obtain ⟨ys, hys, e⟩ := omap h
     subst e
     obtain ⟨b, e, hA, ents, clk, h1, h2, h3⟩ := hr
     exact ⟨b, e, .inl hA, ents, clk, h1, h2, ih.2 _ _ _ hys h3⟩
    ·cases h
  ·intro xs l ys h hr
   cases xs with
   | nil => simp [sealL] at h; subst h; exact hr
   | cons x xs =>
    obtain ⟨u, us, e, h1, h2⟩ := hr
    unfold sealL at h
    split at h
    ·rename_i y ys' hy hys
     cases h
     exact ⟨u, us, e, ih.1 _ _ _ hy h1, ih.2 _ _ _ hys h2⟩
    ·cases h
mutual
def VV.flat : VV → Bool
 | .any | .lit _ => true
 | .agg cs => flatL cs
 | .tup cs => flatL cs
 | .sl cs _ _ => cs.isEmpty
 | .fn _ a b => flatL a && flatL b
 | .ifc _ x => x.flat
 | .tp _ | .ref .. | .ptr .. | .mp _ | .it _ | .yl _ | .mt _ _ => false
def flatL : List VV → Bool
 | [] => true
 | x :: xs => x.flat && flatL xs
end
mutual
theorem wm {c c' : Ctx} {W W' : World} : ∀ {x : VV} {v : Value}, x.flat = true → Rep c W x v → Rep c' W' x v
 | .any, _, _, _ => trivial
 | .lit _, _, _, h => h
 | .agg cs, _, ht, ⟨l, e, h⟩ => ⟨l, e, oz (by simpa [VV.flat] using ht) h⟩
 | .tup cs, _, ht, ⟨l, e, h⟩ => ⟨l, e, oz (by simpa [VV.flat] using ht) h⟩
 | .sl cs _ _, _, ht, ⟨base, cap, e, h1, h2, h3⟩ => ⟨base, cap, e, h1, h2, .inl (by simpa [VV.flat] using ht)⟩
 | .fn _ a b, _, ht, ⟨l, m, e, h1, h2⟩ => by
  simp [VV.flat] at ht
  exact ⟨l, m, e, oz ht.1 h1, oz ht.2 h2⟩
 | .ifc _ x, _, ht, ⟨u, e, h⟩ => ⟨u, e, wm (by simpa [VV.flat] using ht) h⟩
 | .tp _, _, ht, _ => by simp [VV.flat] at ht
 | .ref .., _, ht, _ => by simp [VV.flat] at ht
 | .ptr .., _, ht, _ => by simp [VV.flat] at ht
 | .mp _, _, ht, _ => by simp [VV.flat] at ht
 | .mt _ _, _, ht, _ => by simp [VV.flat] at ht
 | .it _, _, ht, _ => by simp [VV.flat] at ht
 | .yl _, _, ht, _ => by simp [VV.flat] at ht
theorem oz {c c' : Ctx} {W W' : World} : ∀ {xs : List VV} {l : List Value}, flatL xs = true → RepL c W xs l → RepL c' W' xs l
 | [], _, _, h => h
 | x :: xs, _, ht, ⟨u, us, e, h1, h2⟩ => by
  simp [flatL] at ht
  exact ⟨u, us, e, wm ht.1 h1, oz ht.2 h2⟩
end
mutual
def nmV (H : Nat → Option VObj) : Nat → VV → List Nat
 | 0, _ => []
 | n + 1, x => if x.tree then [] else
  match x with
  | .ref β off len es _ => β :: (match H β with
   | some (.cells _ cs) => nmL H n ((cs.drop off).take (len * es))
   | _ => [])
  | .ptr β off => β :: (match H β with
   | some (.cells _ cs) => nmL H n (cs.drop off)
   | _ => [])
  | .agg cs => nmL H n cs
  | .tup cs => nmL H n cs
  | .fn _ a b => nmL H n a ++ nmL H n b
  | .ifc _ x => nmV H n x
  | .mp β => β :: (match H β with
   | some (.map es) => nmL H n (es.map (·.2))
   | _ => [])
  | .mt _ vs => nmL H n vs
  | _ => []
def nmL (H : Nat → Option VObj) : Nat → List VV → List Nat
 | 0, _ => []
 | _ + 1, [] => []
 | n + 1, x :: xs => nmV H n x ++ nmL H n xs
end
theorem Jv {H H' : Nat → Option VObj} : ∀ (n : Nat),
  (∀ x, (∀ β ∈ nmV H n x, H' β = H β) → sealV H' n x = sealV H n x ∧ nmV H' n x = nmV H n x) ∧
  (∀ l, (∀ β ∈ nmL H n l, H' β = H β) → sealL H' n l = sealL H n l ∧ nmL H' n l = nmL H n l) := by
 intro n
 induction n with
 | zero => exact ⟨fun x _ => ⟨by simp [sealV], by simp [nmV]⟩, fun l _ => ⟨by simp [sealL], by simp [nmL]⟩⟩
 | succ n ih =>
  constructor
  ·intro x h
   unfold sealV nmV
   unfold nmV at h
   cases ht : x.tree with
   | true => simp
   | false =>
    simp only [ht, Bool.false_eq_true, if_false] at h ⊢
    cases x with
    | ref β off len es cp =>
     have h0 := h β List.mem_cons_self
     simp only [h0]
     cases hb : H β with
     | none => simp
     | some o =>
      cases o with
      | cells _ cs =>
       have h1 := ih.2 ((cs.drop off).take (len * es)) fun β' hb' => h β' (List.mem_cons_of_mem _ (by rw [hb]; exact hb'))
       simp only [h1.1, h1.2, and_self]
      | _ => simp
    | ptr β off =>
     have h0 := h β List.mem_cons_self
     simp only [h0]
     cases hb : H β with
     | none => simp
     | some o =>
      cases o with
      | cells _ cs =>
       have h1 := ih.2 (cs.drop off) fun β' hb' => h β' (List.mem_cons_of_mem _ (by rw [hb]; exact hb'))
       simp only [h1.1, h1.2, and_self]
      | _ => simp
    | agg cs => have h1 := ih.2 cs h; simp only [h1.1, h1.2, and_self]
    | tup cs => have h1 := ih.2 cs h; simp only [h1.1, h1.2, and_self]
    | fn f a b =>
     have h1 := ih.2 a fun β hb => h β (List.mem_append_left _ hb)
     have h2 := ih.2 b fun β hb => h β (List.mem_append_right _ hb)
     simp only [h1.1, h1.2, h2.1, h2.2, and_self]
    | ifc t x => have h1 := ih.1 x h; simp only [h1.1, h1.2, and_self]
    | mp β =>
     have h0 := h β List.mem_cons_self
     simp only [h0]
     cases hb : H β with
     | none => simp
     | some o =>
      cases o with
      | map es =>
       have h1 := ih.2 (es.map (·.2)) fun β' hb' => h β' (List.mem_cons_of_mem _ (by rw [hb]; exact hb'))
       simp only [h1.1, h1.2, and_self]
      | _ => simp
    | mt ks vs => have h1 := ih.2 vs h; simp only [h1.1, h1.2, and_self]
    | _ => simp
  ·intro l h
   cases l with
   | nil => simp [sealL, nmL]
   | cons x xs =>
    unfold nmL at h
    have h1 := ih.1 x fun β hb => h β (List.mem_append_left _ hb)
    have h2 := ih.2 xs fun β hb => h β (List.mem_append_right _ hb)
    unfold sealL nmL
    simp only [h1.1, h1.2, h2.1, h2.2, and_self]
end Go.V
end
section
namespace Go.V
open Go
def an (P : Program) (G : Glob) (f : FuncId) (args : List VV) (H : Nat → Option VObj) (nx : Nat) (R : VV → (Nat → Option VObj) → Nat → Prop) (Rp : VV → (Nat → Option VObj) → Nat → Prop) : Prop :=
  Callable P f ∧ ∀ c W vs, Sim c W → c.H = H → (∀ β, c.used β → β < nx) → GOk G c W → RepL c W args vs →
    CallsIn Fence.wide 0 P f ⟨vs⟩ W fun e W' => ∃ c' H' nx', Ext c W c' W' ∧ Sim c' W' ∧ c'.H = H' ∧ (∀ β, c'.used β → c.used β ∨ nx ≤ β) ∧ (∀ β, c'.used β → β < nx') ∧ nx ≤ nx' ∧
      ((∃ x v, e = .returned v ∧ Rep c' W' x v ∧ R x H' nx') ∨ (∃ x v, e = .panicked [{ v, recovered := false }] ∧ Rep c' W' x v ∧ Rp x H' nx'))
theorem an.mono {P : Program} {G : Glob} {f : FuncId} {args : List VV} {H : Nat → Option VObj} {nx : Nat} {R R' Rp Rp' : VV → (Nat → Option VObj) → Nat → Prop} (h : an P G f args H nx R Rp) (h1 : ∀ x H n, R x H n → R' x H n)
    (h2 : ∀ x H n, Rp x H n → Rp' x H n) : an P G f args H nx R' Rp' := by
  refine ⟨h.1, fun c W vs s hH hnx hG ha => (h.2 c W vs s hH hnx hG ha).mono ?_⟩
  rintro e W' ⟨c', H', nx', g1, g2, g3, g4, g5, g6, g7⟩
  refine ⟨c', H', nx', g1, g2, g3, g4, g5, g6, g7.imp ?_ ?_⟩
  · rintro ⟨x, v, k1, k2, k3⟩; exact ⟨x, v, k1, k2, h1 _ _ _ k3⟩
  · rintro ⟨x, v, k1, k2, k3⟩; exact ⟨x, v, k1, k2, h2 _ _ _ k3⟩
def restr (rd : List Nat) (H : Nat → Option VObj) : Nat → Option VObj := fun β => if β ∈ rd then H β else none
theorem xF (rd : List Nat) (H : Nat → Option VObj) : au (restr rd H) H := fun x o h => by
  unfold restr at h
  split at h
  · exact h
  · cases h
mutual
def sealN (H : Nat → Option VObj) (M : Nat) : Nat → VV → Option VV
  | 0, _ => none
  | n + 1, x => if x.tree then some x else
    match x with
    | .ref β off len es cp => if β < M then (if (H β).isSome then some (.ref β off len es cp) else none) else match H β with
      | some (.cells _ cs) => if off ≤ cs.length then (sealNL H M n ((cs.drop off).take (len * es))).map fun l => .sl l len false else none
      | _ => none
    | .ptr β off => if β < M then (if (H β).isSome then some (.ptr β off) else none) else match H β with
      | some (.cells _ cs) => if off ≤ cs.length then (sealNL H M n (cs.drop off)).map .tp else none
      | _ => none
    | .mp β => if β < M then (if (H β).isSome then some (.mp β) else none) else match H β with
      | some (.map es) => (sealNL H M n (es.map (·.2))).map fun l => .mt (es.map (·.1)) l
      | _ => none
    | .agg cs => (sealNL H M n cs).map .agg
    | .tup cs => (sealNL H M n cs).map .tup
    | .fn f a b => match sealNL H M n a, sealNL H M n b with
      | some a, some b => some (.fn f a b)
      | _, _ => none
    | .ifc t x => (sealN H M n x).map (.ifc t)
    | _ => none
def sealNL (H : Nat → Option VObj) (M : Nat) : Nat → List VV → Option (List VV)
  | 0, _ => none
  | _ + 1, [] => some []
  | n + 1, x :: xs => match sealN H M n x, sealNL H M n xs with
    | some y, some ys => some (y :: ys)
    | _, _ => none
end
theorem Jw {c' d : Ctx} {W' : World} (s' : Sim c' W') {M : Nat} (hA : ∀ b, c'.A b → d.A b) (hnew : ∀ β, M ≤ β → (c'.H β).isSome = true → d.A (c'.φ β))
    (hold : ∀ β, β < M → (c'.H β).isSome = true → d.used β ∧ (d.live β → d.φ β = c'.φ β ∧ d.room β = c'.room β)) : ∀ (n : Nat),
    (∀ x v y, sealN c'.H M n x = some y → Rep c' W' x v → Rep d W' y v) ∧ (∀ xs l ys, sealNL c'.H M n xs = some ys → RepL c' W' xs l → RepL d W' ys l) := by
  intro n
  induction n with
  | zero => exact ⟨fun x v y h _ => by simp [sealN] at h, fun xs l ys h _ => by simp [sealNL] at h⟩
  | succ n ih =>
    have cells : ∀ {b o : Nat} {xs ys : List VV}, sealNL c'.H M n xs = some ys → RepC c' W' b o xs → RepC d W' b o ys := by
      intro b o xs ys h hc
      obtain ⟨l, hl, hcell⟩ := RepC.list hc
      exact RepC.of_cells (ih.2 _ _ _ h hl) hcell
    constructor
    · intro x v y h hr
      unfold sealN at h
      split at h
      · rename_i ht
        cases h
        exact Rep.abides (h9 hA) _ (so ht hr)
      · split at h
        · rename_i β off len es cp _
          split at h
          · rename_i hlt
            split at h
            · rename_i hs
              cases h
              obtain ⟨h1, h2⟩ := hold β hlt hs
              refine ⟨⟨h1, hr.1.2⟩, fun hl => ?_⟩
              obtain ⟨e1, e2⟩ := h2 hl
              rw [e1, e2]
              exact hr.2 hs
            · cases h
          · rename_i hge
            split at h
            · rename_i el cs hβ
              split at h
              · rename_i hle
                obtain ⟨ys, hys, e⟩ := omap h
                subst e
                have hlive : c'.live β := by simp [Ctx.live, hβ]
                obtain ⟨cap, hv, hcap, _, _⟩ := hr.2 hlive
                have hc := RepC.take (len * es) (RepC.drop off (RepC.of_obj s' hβ))
                have := cells hys hc
                exact ⟨_, cap, hv, hcap, fun h => by simp at h, .inr ⟨_, _, rfl, hnew β (by omega) (by simp [hβ]), by simpa using this⟩⟩
              · cases h
            · cases h
        · rename_i β off _
          split at h
          · rename_i hlt
            split at h
            · rename_i hs
              cases h
              obtain ⟨h1, h2⟩ := hold β hlt hs
              refine ⟨⟨h1, hr.1.2⟩, fun hl => ?_⟩
              obtain ⟨e1, e2⟩ := h2 hl
              rw [e1]
              exact hr.2 hs
            · cases h
          · rename_i hge
            split at h
            · rename_i el cs hβ
              split at h
              · rename_i hle
                obtain ⟨ys, hys, e⟩ := omap h
                subst e
                have hlive : c'.live β := by simp [Ctx.live, hβ]
                have hv := hr.2 hlive
                have hc := RepC.drop off (RepC.of_obj s' hβ)
                have := cells hys hc
                exact ⟨_, _, hv, hnew β (by omega) (by simp [hβ]), by simpa using this⟩
              · cases h
            · cases h
        · rename_i β _
          split at h
          · rename_i hlt
            split at h
            · rename_i hs
              cases h
              obtain ⟨h1, h2⟩ := hold β hlt hs
              refine ⟨⟨h1, hr.1.2⟩, fun hl => ?_⟩
              obtain ⟨e1, e2⟩ := h2 hl
              rw [e1]
              exact hr.2 hs
            · cases h
          · rename_i hge
            split at h
            · rename_i es hβ
              obtain ⟨ys, hys, e⟩ := omap h
              subst e
              have hlive : c'.live β := by simp [Ctx.live, hβ]
              have hv := hr.2 hlive
              obtain ⟨ents, clk, h1, h2, h3⟩ := s'.obj β _ hβ
              exact ⟨_, hv, hnew β (by omega) (by simp [hβ]), ents, clk, h1, h2, ih.2 _ _ _ hys h3⟩
            · cases h
        · obtain ⟨ys, hys, e⟩ := omap h
          subst e
          obtain ⟨l, e, hl⟩ := hr
          exact ⟨l, e, ih.2 _ _ _ hys hl⟩
        · obtain ⟨ys, hys, e⟩ := omap h
          subst e
          obtain ⟨l, e, hl⟩ := hr
          exact ⟨l, e, ih.2 _ _ _ hys hl⟩
        · split at h
          · rename_i a b ha hb
            cases h
            obtain ⟨l, m, e, hl, hm⟩ := hr
            exact ⟨l, m, e, ih.2 _ _ _ ha hl, ih.2 _ _ _ hb hm⟩
          · cases h
        · obtain ⟨ys, hys, e⟩ := omap h
          subst e
          obtain ⟨u, e, hu⟩ := hr
          exact ⟨u, e, ih.1 _ _ _ hys hu⟩
        · cases h
    · intro xs l ys h hr
      cases xs with
      | nil => simp [sealNL] at h; subst h; exact hr
      | cons x xs =>
        obtain ⟨u, us, e, h1, h2⟩ := hr
        unfold sealNL at h
        split at h
        · rename_i y ys' hy hys
          cases h
          exact ⟨u, us, e, ih.1 _ _ _ hy h1, ih.2 _ _ _ hys h2⟩
        · cases h
mutual
def okV (K : Nat → Bool) : VV → Bool
  | .any | .lit _ => true
  | .agg cs => okVL K cs
  | .tup cs => okVL K cs
  | .sl cs _ _ => okVL K cs
  | .tp cs => okVL K cs
  | .mt _ vs => okVL K vs
  | .ref β _ _ _ _ => K β
  | .ptr β _ => K β
  | .mp β => K β
  | .it _ | .yl _ => false
  | .fn _ a b => okVL K a && okVL K b
  | .ifc _ x => okV K x
def okVL (K : Nat → Bool) : List VV → Bool
  | [] => true
  | x :: xs => okV K x && okVL K xs
end
section ok
variable {c' d : Ctx} {W' : World} {K : Nat → Bool} (hA : ∀ b, c'.A b → d.A b) (hK : ∀ β, K β = true → d.used β ∧ c'.live β ∧ d.φ β = c'.φ β ∧ d.room β = c'.room β)
include hA hK
mutual
theorem vU : ∀ (x : VV) {v : Value}, okV K x = true → Rep c' W' x v → Rep d W' x v
  | .any, _, _, _ => trivial
  | .lit _, _, _, h => h
  | .agg cs, _, ht, ⟨l, e, h⟩ => ⟨l, e, mY cs (by simpa [okV] using ht) h⟩
  | .tup cs, _, ht, ⟨l, e, h⟩ => ⟨l, e, mY cs (by simpa [okV] using ht) h⟩
  | .sl cs _ _, _, ht, ⟨base, cap, e, h1, h2, h3⟩ => ⟨base, cap, e, h1, h2, h3.imp id fun ⟨b, o, e2, hb, h⟩ => ⟨b, o, e2, hA b hb, Am cs (by simpa [okV] using ht) h⟩⟩
  | .tp cs, _, ht, ⟨b, o, e, hb, h⟩ => ⟨b, o, e, hA b hb, Am cs (by simpa [okV] using ht) h⟩
  | .mt _ vs, _, ht, ⟨b, e, hb, ents, clk, h1, h2, h3⟩ => ⟨b, e, hA b hb, ents, clk, h1, h2, mY vs (by simpa [okV] using ht) h3⟩
  | .ref β off len es cp, _, ht, ⟨⟨hu, ho⟩, h⟩ => by
    obtain ⟨k1, k2, k3, k4⟩ := hK β (by simpa [okV] using ht)
    refine ⟨⟨k1, ho⟩, fun _ => ?_⟩
    rw [k3, k4]
    exact h k2
  | .ptr β off, _, ht, ⟨⟨hu, ho⟩, h⟩ => by
    obtain ⟨k1, k2, k3, k4⟩ := hK β (by simpa [okV] using ht)
    refine ⟨⟨k1, ho⟩, fun _ => ?_⟩
    rw [k3]
    exact h k2
  | .mp β, _, ht, ⟨⟨hu, ho⟩, h⟩ => by
    obtain ⟨k1, k2, k3, k4⟩ := hK β (by simpa [okV] using ht)
    refine ⟨⟨k1, ho⟩, fun _ => ?_⟩
    rw [k3]
    exact h k2
  | .it _, _, ht, _ => by simp [okV] at ht
  | .yl _, _, ht, _ => by simp [okV] at ht
  | .fn _ a b, _, ht, ⟨l, m, e, h1, h2⟩ => by
    simp [okV] at ht
    exact ⟨l, m, e, mY a ht.1 h1, mY b ht.2 h2⟩
  | .ifc _ x, _, ht, ⟨u, e, h⟩ => ⟨u, e, vU x (by simpa [okV] using ht) h⟩
theorem mY : ∀ (xs : List VV) {l : List Value}, okVL K xs = true → RepL c' W' xs l → RepL d W' xs l
  | [], _, _, h => h
  | x :: xs, _, ht, ⟨u, us, e, h1, h2⟩ => by
    simp [okVL] at ht
    exact ⟨u, us, e, vU x ht.1 h1, mY xs ht.2 h2⟩
theorem Am : ∀ (xs : List VV) {b o : Nat}, okVL K xs = true → RepC c' W' b o xs → RepC d W' b o xs
  | [], _, _, _, _ => trivial
  | x :: xs, _, _, ht, ⟨u, e, h1, h2⟩ => by
    simp [okVL] at ht
    exact ⟨u, e, vU x ht.1 h1, Am xs ht.2 h2⟩
end
end ok
def okO (K : Nat → Bool) : Option VObj → Bool
  | some (.cells _ cs) => okVL K cs
  | some (.map es) => okVL K (es.map (·.2))
  | some (.stri _ _) => true
  | _ => false
def okR (K : Nat → Bool) (H : Nat → Option VObj) : List Nat → Bool
  | [] => true
  | β :: l => okO K (H β) && okR K H l
theorem rK {K : Nat → Bool} {H : Nat → Option VObj} : ∀ {l : List Nat}, okR K H l = true → ∀ β ∈ l, okO K (H β) = true
  | [], _, β, hb => by cases hb
  | γ :: l, h, β, hb => by
    simp only [okR, Bool.and_eq_true] at h
    rcases List.mem_cons.1 hb with rfl | hb
    · exact h.1
    · exact rK h.2 β hb
theorem vT {c' d : Ctx} {W' : World} {K : Nat → Bool} {β : Nat} {o : VObj} (h : ObjRep c' W' β o) (hφ : d.φ β = c'.φ β) (hr : d.room β = c'.room β) (hok : okO K (some o) = true) (hA : ∀ b, c'.A b → d.A b)
    (hK : ∀ β, K β = true → d.used β ∧ c'.live β ∧ d.φ β = c'.φ β ∧ d.room β = c'.room β) : ObjRep d W' β o := by
  cases o with
  | cells el cs => obtain ⟨arr, e, h1, h2, h3, h4, h5⟩ := h; exact ⟨arr, e, by rw [hφ]; exact h1, by rw [hr]; exact h2, h3, mY hA hK cs hok h4, h5⟩
  | map es => obtain ⟨ents, clk, h1, h2, h3⟩ := h; exact ⟨ents, clk, by rw [hφ]; exact h1, h2, mY hA hK _ hok h3⟩
  | stri s pos => show W'.heap[d.φ β]? = _; rw [hφ]; exact h
  | loop _ _ _ _ _ _ _ => cases hok
  | loopF _ _ _ _ _ _ _ => cases hok
  | deferred _ => cases hok
def memQ (β : Nat) : List Nat → Bool
  | [] => false
  | γ :: l => Nat.beq β γ || memQ β l
theorem gp {β : Nat} : ∀ {l : List Nat}, memQ β l = true ↔ β ∈ l
  | [] => by simp [memQ]
  | γ :: l => by simp [memQ, gp (l := l)]
def inR (rd : List Nat) (H : Nat → Option VObj) (β : Nat) : Bool := memQ β rd && (H β).isSome
theorem An {rd : List Nat} {H H' : Nat → Option VObj} (h : ∀ β ∈ rd, H' β = H β) : restr rd H' = restr rd H := by
  funext β
  unfold restr
  split
  · exact h β ‹_›
  · rfl
theorem Jx {rd : List Nat} {H H' : Nat → Option VObj} (h : ∀ β ∈ rd, H' β = H β) (hok : okR (inR rd H) H rd = true) : okR (inR rd H') H' rd = true := by
  have e : inR rd H' = inR rd H := by
    funext β
    unfold inR
    cases hm : memQ β rd with
    | false => rfl
    | true => rw [h β (gp.1 hm)]
  rw [e]
  have key : ∀ l : List Nat, (∀ β ∈ l, β ∈ rd) → okR (inR rd H) H l = true → okR (inR rd H) H' l = true := by
    intro l
    induction l with
    | nil => intro _ h; exact h
    | cons β l ih =>
      intro hl hh
      simp only [okR, Bool.and_eq_true] at hh ⊢
      refine ⟨?_, ih (fun γ hg => hl γ (List.mem_cons_of_mem _ hg)) hh.2⟩
      rw [h β (hl β (List.mem_cons_self ..))]
      exact hh.1
  exact key rd (fun _ h => h) hok
theorem N8 {P : Program} {G : Glob} {f : FuncId} {args : List VV} {rd : List Nat} {M : Nat} {x0 x : VV} {Hn : Nat → Option VObj} {c : Ctx} {W : World} {vs : List Value} (s : Sim c W)
    (hv : an P G f args (restr rd c.H) M (fun y H1 _ => y = x0 ∧ H1 = Hn) (fun _ _ _ => False)) (hM : ∀ β, c.used β → β < M) (hG : GOk G c W) (hargs : RepL c W args vs) (hpl : okR (inR rd c.H) c.H rd = true)
    (hsame : ∀ β ∈ rd, Hn β = c.H β) {n : Nat} (hx : sealN Hn M n x0 = some x) :
    CallsIn Fence.wide 0 P f ⟨vs⟩ W fun e W' => ∃ v A', e = .returned v ∧ Ext c W (c.more A') W' ∧ Sim (c.more A') W' ∧ Rep (c.more A') W' x v := by
  have hsub := xF rd c.H
  have sr : Sim (c.sub (restr rd c.H)) W := Sim.sub s hsub (fun y st pe tm ps as bo df hy => by
    have h1 := hsub y _ hy
    have hmem : y ∈ rd := by
      unfold restr at hy
      split at hy
      · assumption
      · cases hy
    have := rK hpl y hmem
    rw [h1] at this
    cases this)
  have absub : Abides c W (c.sub (restr rd c.H)) W := (Ext.sub (W := W) hsub).abides s
  refine (hv.2 (c.sub (restr rd c.H)) W vs sr rfl hM (hG.abides absub) (RepL.abides absub _ hargs)).mono ?_
  rintro e W' ⟨c', H', nx', hext, s', hH', hu, hu', hle, hres⟩
  rcases hres with ⟨y, v, rfl, hrv, rfl, rfl⟩ | ⟨_, _, _, _, hf⟩
  · have hlive_rd : ∀ β, β < M → c'.live β → β ∈ rd ∧ c.live β := by
      intro β hlt hl
      have huc : c.used β := by
        rcases hu β (s'.used β hl) with h | h
        · exact h
        · omega
      have dA : (c.sub (restr rd c.H)).live β := hext.live β huc hl
      have ij : (restr rd c.H β).isSome = true := dA
      refine ⟨?_, hsub.live ij⟩
      unfold restr at ij
      split at ij
      · assumption
      · cases ij
    have hrd : ∀ β ∈ rd, c.live β → c'.live β ∧ c'.φ β = c.φ β ∧ c'.room β = c.room β := by
      intro β hb hl
      have e1 : c'.H β = c.H β := by rw [hH']; exact hsame β hb
      have hl' : c'.live β := by unfold Ctx.live; rw [e1]; exact hl
      exact ⟨hl', hext.φ β (s.used β hl) hl', hext.room β (s.used β hl) hl'⟩
    have hnewge : ∀ γ, M ≤ γ → c'.live γ → W.heap.size ≤ c'.φ γ := by
      intro γ hM' hl
      rcases Nat.lt_or_ge (c'.φ γ) W.heap.size with h | h
      · obtain ⟨β, hβ, e⟩ := hext.old γ hl h
        have hβ' : (restr rd c.H β).isSome = true := hβ
        have hcl := hsub.live hβ'
        have hmem : β ∈ rd := by
          unfold restr at hβ'
          split at hβ'
          · assumption
          · cases hβ'
        obtain ⟨hl', ef, _⟩ := hrd β hmem hcl
        have e2 : c'.φ β = c'.φ γ := by rw [ef]; exact e
        have := s'.inj β γ hl' hl e2
        have hlt := hM β (s.used β hcl)
        omega
      · exact h
    have hAnot : ∀ β, c.live β → ¬ c'.A (c.φ β) := by
      intro β hl hA
      by_cases hb : β ∈ rd
      · obtain ⟨hl', ef, _⟩ := hrd β hb hl
        exact s'.notA β hl' (ef ▸ hA)
      · rcases hext.newA _ hA with h | h | ⟨δ, hδ, e⟩
        · exact s.notA β hl h
        · have := s.lt β hl; omega
        · have hδ' : (restr rd c.H δ).isSome = true := hδ
          have := s.inj δ β (hsub.live hδ') hl e
          subst this
          unfold restr at hδ'
          rw [if_neg hb] at hδ'
          cases hδ'
    let A' : Nat → Prop := fun b => c'.A b ∨ ∃ γ, M ≤ γ ∧ c'.live γ ∧ c'.φ γ = b
    have hnotA' : ∀ β, c.live β → ¬ A' (c.φ β) := by
      rintro β hl (h | ⟨γ, h1, h2, h3⟩)
      · exact hAnot β hl h
      · have := hnewge γ h1 h2
        have := s.lt β hl
        omega
    have hkeep : ∀ b, b < W.heap.size → (∀ β, c.live β → β ∈ rd → c.φ β ≠ b) → W'.heap[b]? = W.heap[b]? := by
      intro b hb hn
      refine hext.keep b hb fun β hl => ?_
      have hl' : (restr rd c.H β).isSome = true := hl
      have hmem : β ∈ rd := by
        unfold restr at hl'
        split at hl'
        · assumption
        · cases hl'
      exact hn β (hsub.live hl') hmem
    have he : Ext c W (c.more A') W' :=
      { A := fun b h => .inl (hext.A b h)
        newA := by
          rintro b (h | ⟨γ, h1, h2, h3⟩)
          · rcases hext.newA b h with h | h | ⟨δ, hδ, e⟩
            · exact .inl h
            · exact .inr (.inl h)
            · exact .inr (.inr ⟨δ, hsub.live hδ, e⟩)
          · exact .inr (.inl (h3 ▸ hnewge γ h1 h2))
        used := fun _ h => h, live := fun _ _ h => h, φ := fun _ _ _ => rfl, room := fun _ _ _ => rfl
        keep := fun b hb hn => hkeep b hb fun β hl _ => hn β hl
        old := fun γ h _ => ⟨γ, h, rfl⟩
        size := hext.size, os := hext.os, tape := hext.tape, output := hext.output }
    have hs : Sim (c.more A') W' := by
      refine ⟨s.used, fun β o ho => ?_, fun β hl => Nat.lt_of_lt_of_le (s.lt β hl) hext.size, fun β hl => hnotA' β hl, s.inj, ?_⟩
      · have ho' : c.H β = some o := ho
        have hl : c.live β := by simp [Ctx.live, ho']
        by_cases hb : β ∈ rd
        · obtain ⟨hl', ef, er⟩ := hrd β hb hl
          have hoc : c'.H β = some o := by rw [hH', hsame β hb, ho']
          have hobj := s'.obj β o hoc
          have hpl' := rK hpl β hb
          rw [ho'] at hpl'
          refine vT hobj ef.symm er.symm hpl' (fun b h => .inl h) fun δ hδ => ?_
          simp only [inR, Bool.and_eq_true, gp] at hδ
          obtain ⟨k1, k2, k3⟩ := hrd δ hδ.1 hδ.2
          exact ⟨s.used δ hδ.2, k1, k2.symm, k3.symm⟩
        · refine (s.obj β o ho').abides (he.abides s) (s.used β hl) hl (hkeep _ (s.lt β hl) fun δ hδ hm e => hb ((s.inj δ β hδ hl e) ▸ hm)) ?_
          intro st pe tm ps as bo df e
          subst e
          exact s.loopOk ho'
      · rintro b (h | ⟨γ, h1, h2, h3⟩)
        · exact s'.ltA b h
        · exact h3 ▸ s'.lt γ h2
    refine ⟨v, A', rfl, he, hs, ?_⟩
    refine (Jw (d := c.more A') s' (M := M) (fun b h => .inl h) (fun β h1 h2 => .inr ⟨β, h1, h2, rfl⟩) (fun β hlt hsm => ?_) n).1 y v x (by rw [hH']; exact hx) hrv
    obtain ⟨hmem, hcl⟩ := hlive_rd β hlt hsm
    obtain ⟨_, ef, er⟩ := hrd β hmem hcl
    exact ⟨s.used β hcl, fun _ => ⟨ef.symm, er.symm⟩⟩
  · exact hf.elim
def SealP (H : Nat → Option VObj) (M : Nat) (y x : VV) : Prop := ∃ n y0, sealN H M n y = some y0 ∧ ∀ (c : Ctx) (W : World) u, Rep c W y0 u → Rep c W x u
def SealQ (H : Nat → Option VObj) (β M : Nat) (y x : VV) : Prop := (∀ δ, (H δ).isSome = true → δ ≠ β → M ≤ δ) → SealP H M y x
def UpdC (P : Program) (G : Glob) (f : FuncId) (args : List VV) (H : Nat → Option VObj) (nx β : Nat) (es' : List (Value × VV)) (x : VV) : Prop :=
  ∃ es, H β = some (.map es) ∧ okVL (fun _ => false) (es'.map (·.2)) = true ∧
    an P G f args (restr [β] H) nx (fun y H1 _ => H1 β = some (.map es') ∧ SealQ H1 β nx y x) (fun _ _ _ => False)
theorem UpdC.congr {P : Program} {G : Glob} {f : FuncId} {args : List VV} {H H' : Nat → Option VObj} {nx β : Nat} {es' : List (Value × VV)} {x : VV} (h : UpdC P G f args H nx β es' x) (hβ : H' β = H β) : UpdC P G f args H' nx β es' x := by
  obtain ⟨es, h1, h2, h3⟩ := h
  refine ⟨es, hβ.trans h1, h2, ?_⟩
  rw [An (rd := [β]) (H := H) (H' := H') (fun γ hγ => by rw [List.mem_singleton.1 hγ]; exact hβ)]
  exact h3
theorem Jy {P : Program} {G : Glob} {f : FuncId} {args : List VV} {M β0 : Nat} {es es' : List (Value × VV)} {x : VV} {c : Ctx} {W : World} {vs : List Value} (s : Sim c W) (hes : c.H β0 = some (.map es)) (hfl : okVL (fun _ => false) (es'.map (·.2)) = true)
    (hv : an P G f args (restr [β0] c.H) M (fun y H1 _ => H1 β0 = some (.map es') ∧ SealQ H1 β0 M y x) (fun _ _ _ => False)) (hM : ∀ β, c.used β → β < M) (hG : GOk G c W) (hargs : RepL c W args vs) :
    CallsIn Fence.wide 0 P f ⟨vs⟩ W fun e W' => ∃ v A', e = .returned v ∧ Ext c W ((c.more A').upd β0 (.map es')) W' ∧ Sim ((c.more A').upd β0 (.map es')) W' ∧ Rep ((c.more A').upd β0 (.map es')) W' x v := by
  have hsub := xF [β0] c.H
  have iV : c.live β0 := by simp [Ctx.live, hes]
  have sr : Sim (c.sub (restr [β0] c.H)) W := Sim.sub s hsub (fun y st pe tm ps as bo df hy => by
    have h1 := hsub y _ hy
    have hmem : y ∈ [β0] := by
      unfold restr at hy
      split at hy
      · assumption
      · cases hy
    rw [List.mem_singleton.1 hmem, hes] at h1
    cases h1)
  have absub : Abides c W (c.sub (restr [β0] c.H)) W := (Ext.sub (W := W) hsub).abides s
  refine (hv.2 (c.sub (restr [β0] c.H)) W vs sr rfl hM (hG.abides absub) (RepL.abides absub _ hargs)).mono ?_
  rintro e W' ⟨c', H', nx', hext, s', hH', hu, hu', hle, hres⟩
  rcases hres with ⟨y, v, rfl, hrv, hmap, hsq⟩ | ⟨_, _, _, _, hf⟩
  · subst hH'
    have hl0' : c'.live β0 := by simp [Ctx.live, hmap]
    have hlive_rd : ∀ β, β < M → c'.live β → β = β0 := by
      intro β hlt hl
      have huc : c.used β := by
        rcases hu β (s'.used β hl) with h | h
        · exact h
        · omega
      have dA : (c.sub (restr [β0] c.H)).live β := hext.live β huc hl
      have ij : (restr [β0] c.H β).isSome = true := dA
      unfold restr at ij
      split at ij
      · rename_i hm; exact List.mem_singleton.1 hm
      · cases ij
    obtain ⟨n, y0, hx, hweak⟩ := hsq (fun δ hδ hne => by
      rcases Nat.lt_or_ge δ M with h | h
      · exact absurd (hlive_rd δ h hδ) hne
      · exact h)
    have ef : c'.φ β0 = c.φ β0 := hext.φ β0 (s.used β0 iV) hl0'
    have er : c'.room β0 = c.room β0 := hext.room β0 (s.used β0 iV) hl0'
    have onlyβ : ∀ β, (c.sub (restr [β0] c.H)).live β → β = β0 := by
      intro β hl
      have ij : (restr [β0] c.H β).isSome = true := hl
      unfold restr at ij
      split at ij
      · rename_i hm; exact List.mem_singleton.1 hm
      · cases ij
    have hnewge : ∀ γ, M ≤ γ → c'.live γ → W.heap.size ≤ c'.φ γ := by
      intro γ hM' hl
      rcases Nat.lt_or_ge (c'.φ γ) W.heap.size with h | h
      · obtain ⟨β, hβ, e⟩ := hext.old γ hl h
        have := onlyβ β hβ
        subst this
        have e2 : c'.φ β = c'.φ γ := by rw [ef]; exact e
        have := s'.inj β γ hl0' hl e2
        have hlt := hM β (s.used β iV)
        omega
      · exact h
    have hAnot : ∀ β, c.live β → ¬ c'.A (c.φ β) := by
      intro β hl hA
      by_cases hb : β = β0
      · subst hb
        exact s'.notA β hl0' (ef ▸ hA)
      · rcases hext.newA _ hA with h | h | ⟨δ, hδ, e⟩
        · exact s.notA β hl h
        · have := s.lt β hl; omega
        · have h1 := onlyβ δ hδ
          subst h1
          exact hb (s.inj δ β iV hl e).symm
    let A' : Nat → Prop := fun b => c'.A b ∨ ∃ γ, M ≤ γ ∧ c'.live γ ∧ c'.φ γ = b
    have hnotA' : ∀ β, c.live β → ¬ A' (c.φ β) := by
      rintro β hl (h | ⟨γ, h1, h2, h3⟩)
      · exact hAnot β hl h
      · have := hnewge γ h1 h2
        have := s.lt β hl
        omega
    have hkeep : ∀ b, b < W.heap.size → c.φ β0 ≠ b → W'.heap[b]? = W.heap[b]? := by
      intro b hb hn
      refine hext.keep b hb fun β hl => ?_
      rw [onlyβ β hl]
      exact hn
    have hlive : ∀ γ, ((c.more A').upd β0 (.map es')).live γ ↔ c.live γ := fun γ => Ctx.upd_live (c := c.more A') iV
    have he : Ext c W ((c.more A').upd β0 (.map es')) W' :=
      { A := fun b h => .inl (hext.A b h)
        newA := by
          rintro b (h | ⟨γ, h1, h2, h3⟩)
          · rcases hext.newA b h with h | h | ⟨δ, hδ, e⟩
            · exact .inl h
            · exact .inr (.inl h)
            · exact .inr (.inr ⟨δ, hsub.live hδ, e⟩)
          · exact .inr (.inl (h3 ▸ hnewge γ h1 h2))
        used := fun _ h => h, live := fun γ _ h => (hlive γ).1 h, φ := fun _ _ _ => rfl, room := fun _ _ _ => rfl
        keep := fun b hb hn => hkeep b hb (hn β0 iV)
        old := fun γ h _ => ⟨γ, (hlive γ).1 h, rfl⟩
        size := hext.size, os := hext.os, tape := hext.tape, output := hext.output }
    have hs : Sim ((c.more A').upd β0 (.map es')) W' := by
      refine ⟨fun γ h => s.used γ ((hlive γ).1 h), fun β o ho => ?_, fun β hl => Nat.lt_of_lt_of_le (s.lt β ((hlive β).1 hl)) hext.size, fun β hl => hnotA' β ((hlive β).1 hl), fun β γ h1 h2 e => s.inj β γ ((hlive β).1 h1) ((hlive γ).1 h2) e, ?_⟩
      · by_cases hb : β = β0
        · subst hb
          have eo : o = .map es' := by
            have : ((c.more A').upd β (.map es')).H β = some (.map es') := by simp [Ctx.upd]
            rw [this] at ho; cases ho; rfl
          subst eo
          refine vT (c' := c') (s'.obj β _ hmap) ef.symm er.symm (K := fun _ => false) hfl (fun b h => .inl h) (fun δ hδ => by cases hδ)
        · have N9 : (c.more A').H β = some o := by simpa [Ctx.upd, hb] using ho
          have ho' : c.H β = some o := N9
          have hl : c.live β := by simp [Ctx.live, ho']
          refine (s.obj β o ho').abides (he.abides s) (s.used β hl) ((hlive β).2 hl) (hkeep _ (s.lt β hl) fun e => hb (s.inj β0 β iV hl e).symm) ?_
          intro st pe tm ps as bo df e
          subst e
          obtain ⟨ds, hds⟩ := s.loopOk ho'
          have hne : df ≠ β0 := by intro e; subst e; rw [hes] at hds; cases hds
          have hds' : (c.more A').H df = some (.deferred ds) := hds
          exact ⟨ds, by simpa [Ctx.upd, hne] using hds'⟩
      · rintro b (h | ⟨γ, h1, h2, h3⟩)
        · exact s'.ltA b h
        · exact h3 ▸ s'.lt γ h2
    refine ⟨v, A', rfl, he, hs, ?_⟩
    refine hweak _ _ _ ?_
    refine (Jw (d := (c.more A').upd β0 (.map es')) s' (M := M) (fun b h => .inl h) (fun β h1 h2 => .inr ⟨β, h1, h2, rfl⟩) (fun β hlt hsm => ?_) n).1 y v y0 hx hrv
    have := hlive_rd β hlt hsm
    subst this
    exact ⟨s.used β iV, fun _ => ⟨ef.symm, er.symm⟩⟩
  · exact hf.elim
theorem UpdC.open {P : Program} {G : Glob} {f : FuncId} {args : List VV} {H : Nat → Option VObj} {nx β : Nat} {es' : List (Value × VV)} {x : VV} (h : UpdC P G f args H nx β es' x) :
    an P G f args H nx (fun y H1 n1 => y = x ∧ H1 = (VEff.upd β (.map es')).app 0 H ∧ n1 = nx) (fun _ _ _ => False) := by
  obtain ⟨es, h1, h2, h3⟩ := h
  refine ⟨h3.1, fun c W vs s hH hnx hG ha => ?_⟩
  subst hH
  refine (Jy s h1 h2 h3 hnx hG ha).mono ?_
  rintro e W' ⟨v, A', rfl, he, hs, hr⟩
  exact ⟨_, _, _, he, hs, rfl, fun γ h => .inl h, hnx, Nat.le_refl _, .inl ⟨x, v, rfl, hr, rfl, rfl, rfl⟩⟩
def NewC (P : Program) (G : Glob) (f : FuncId) (args cs : List VV) : Prop :=
  Callable P f ∧ ∀ A W vs, (∀ b, A b → b < W.heap.size) → GOk G (PCtx A) W → RepL (PCtx A) W args vs →
    CallsIn Fence.wide 0 P f ⟨vs⟩ W fun e W' => ∃ A' : Nat → Prop, (∀ b, A b → A' b) ∧ (∀ b, A' b → A b ∨ W.heap.size ≤ b) ∧ (∀ b, A' b → b < W'.heap.size) ∧
      RowKit.Below W.heap.size W W' ∧ ∃ l b ents clk, e = .returned (.agg ⟨l ++ [.map (some b)]⟩) ∧ RepL (PCtx A') W' cs l ∧ W.heap.size ≤ b ∧ b < W'.heap.size ∧ ¬ A' b ∧ W'.heap[b]? = some (.map ents clk) ∧ ents.toList = []
theorem Jz {c : Ctx} {W : World} {x : VV} : ∀ {xs : List VV} {l : List Value}, RepL c W (xs ++ [x]) l → ∃ l' v, l = l' ++ [v] ∧ RepL c W xs l' ∧ Rep c W x v
  | [], l, ⟨u, us, e, h1, h2⟩ => by
    have h2' : us = [] := h2
    subst h2' e
    exact ⟨[], u, rfl, rfl, h1⟩
  | y :: xs, l, ⟨u, us, e, h1, h2⟩ => by
    obtain ⟨l', v, e2, h3, h4⟩ := Jz h2
    subst e e2
    exact ⟨u :: l', v, rfl, ⟨u, l', rfl, h1, h3⟩, h4⟩
end Go.V
end
