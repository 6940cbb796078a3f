/- Part of a proof. -/
import Derived.Below
import Derived.OrdersIn
import Derived.KernelRfl
import Derived.Laws.Sem
import Derived.Laws.AppendOwn
import Derived.Laws.CopyRow
import Derived.IntWalk
import Derived.Laws.BytesString
import Derived.Lib.UnsafeStr
import Derived.Laws.Cover3
set_option linter.all false
section
namespace Go.V
open Go IntKind
set_option linter.defProp false
abbrev qZa := @List.mem_cons_of_mem
abbrev qZb := @List.mem_cons_self
abbrev qZc := @Nat.lt_succ_self
abbrev qZd := @Nat.lt_of_lt_of_le
abbrev qZe := @Nat.le_add_right
abbrev qZf := @List.mem_append_left
abbrev qZg := @Int.le_refl
abbrev qZh := @Nat.le_refl
abbrev qZi := @Nat.le_trans
abbrev qZj := @List.getElem?_eq_getElem
abbrev qZk := @And.intro
abbrev qZl := @Int.le_add_one
abbrev qZm := @Int.le_trans
abbrev qZn := @Nat.zero_lt_succ
inductive VV where
 | any
 | lit (v : Value)
 | agg (cs : List VV)
 | tup (vs : List VV)
 | sl (cs : List VV) (len : Nat) (full : Bool)
 | tp (cs : List VV)
 | ref (b off len es cp : Nat)
 | ptr (b off : Nat)
 | mp (b : Nat)
 | mt (ks : List Value) (vs : List VV)
 | it (b : Nat)
 | yl (b : Nat)
 | fn (f : Fn) (first captured : List VV)
 | ifc (t : TypeId) (x : VV)
 deriving Inhabited
inductive Vo where
 | cells (el : Option TypeId) (cs : List VV)
 | map (es : List (Value × VV))
 | stri (s : ByteArray) (pos : Nat)
 | loop (st : LoopState) (pending : Option Code) (tm : List VV) (ps : Array Tmp) (assign body : Code) (df : Nat)
 | deferred (calls : Option (List (VV × List VV)))
 | loopF (st : LoopState) (pending : Option Code) (tm : List VV) (ps : Array Tmp) (assign body : Code) (fn : Nat)
structure Ctx where
 A : Nat → Prop
 φ : Nat → Nat
 room : Nat → Nat
 used : Nat → Prop
 H : Nat → Option Vo
abbrev Ctx.live (c : Ctx) (β : Nat) : Prop := (c.H β).isSome = true
mutual
def Rep (c : Ctx) (W : World) : VV → Value → Prop
 | .any, _ => True
 | .lit u, v => v = u
 | .agg cs, v => ∃ l, v = .agg ⟨l⟩ ∧ Rl c W cs l
 | .tup vs, v => ∃ l, v = .tuple ⟨l⟩ ∧ Rl c W vs l
 | .sl cs len full, v => ∃ aa cap, v = .slice aa len cap ∧ len ≤ cap ∧ (full = true → cap = len) ∧
   (cs = [] ∨ ∃ b o, aa = some ⟨b, o, none⟩ ∧ c.A b ∧ Rc c W b o cs)
 | .tp cs, v => ∃ b o, v = .pointer (some ⟨b, o, none⟩) ∧ c.A b ∧ Rc c W b o cs
 | .ref β off len es cp, v => (c.used β ∧ v.oneCell' = true) ∧ (c.live β → ∃ cap, v = .slice (some ⟨c.φ β, off, none⟩) len cap ∧ len ≤ cap ∧ off + cap * es ≤ c.room β ∧ cp ≤ cap)
 | .ptr β off, v => (c.used β ∧ v.oneCell' = true) ∧ (c.live β → v = .pointer (some ⟨c.φ β, off, none⟩))
 | .mp β, v => (c.used β ∧ v.oneCell' = true) ∧ (c.live β → v = .map (some (c.φ β)))
 | .mt ks vs, v => ∃ b, v = .map (some b) ∧ c.A b ∧ ∃ ents clk, W.heap[b]? = some (.map ents clk) ∧ ents.toList.map (·.key) = ks ∧ Rl c W vs (ents.toList.map (·.val))
 | .it β, v => (c.used β ∧ v.oneCell' = true) ∧ (c.live β → v = .pointer (some ⟨c.φ β, 0, none⟩))
 | .yl β, v => (c.used β ∧ v.oneCell' = true) ∧ (c.live β → v = .func (.yield (c.φ β)) #[] #[])
 | .fn f first captured, v => ∃ l₁ l₂, v = .func f ⟨l₁⟩ ⟨l₂⟩ ∧ Rl c W first l₁ ∧ Rl c W captured l₂
 | .ifc t x, v => ∃ u, v = .iface t u ∧ Rep c W x u
def Rl (c : Ctx) (W : World) : List VV → List Value → Prop
 | [], l => l = []
 | x :: xs, l => ∃ u us, l = u :: us ∧ Rep c W x u ∧ Rl c W xs us
def Rc (c : Ctx) (W : World) (b o : Nat) : List VV → Prop
 | [] => True
 | x :: xs => ∃ u, W.cell? ⟨b, o, none⟩ = some u ∧ Rep c W x u ∧ Rc c W b (o + 1) xs
end
structure Abides (c : Ctx) (W : World) (c' : Ctx) (W' : World) : Prop where
 A : ∀ b, c.A b → c'.A b
 cells : ∀ b, c.A b → W'.heap[b]? = W.heap[b]?
 used : ∀ β, c.used β → c'.used β
 live : ∀ β, c.used β → c'.live β → c.live β
 φ : ∀ β, c.used β → c'.live β → c'.φ β = c.φ β
 room : ∀ β, c.used β → c'.live β → c'.room β = c.room β
variable {W W' : World}
theorem cell?_of_heap {a : Addr} (h : W'.heap[a.block]? = W.heap[a.block]?) : W'.cell? a = W.cell? a := by
 unfold World.cell?; rw [h]
section
variable {c c' : Ctx} {W W' : World} (ab : Abides c W c' W')
include ab
mutual
theorem Rep.abides : ∀ (x : VV) {v : Value}, Rep c W x v → Rep c' W' x v
 | .any, _, _ => trivial
 | .lit _, _, h => h
 | .agg _, _, ⟨l, e, h⟩ => ⟨l, e, Rl.abides _ h⟩
 | .tup _, _, ⟨l, e, h⟩ => ⟨l, e, Rl.abides _ h⟩
 | .sl _ _ _, _, ⟨aa, cap, e, h1, h2, h3⟩ => ⟨aa, cap, e, h1, h2, h3.imp id fun ⟨b, o, e2, hA, h⟩ => ⟨b, o, e2, ab.A b hA, Rc.abides b o _ hA h⟩⟩
 | .tp _, _, ⟨b, o, e, hA, h⟩ => ⟨b, o, e, ab.A b hA, Rc.abides b o _ hA h⟩
 | .ref β _ _ _ _, _, ⟨⟨hu, ho⟩, h⟩ => ⟨⟨ab.used β hu, ho⟩, fun hl => by rw [ab.φ β hu hl, ab.room β hu hl]; exact h (ab.live β hu hl)⟩
 | .ptr β _, _, ⟨⟨hu, ho⟩, h⟩ => ⟨⟨ab.used β hu, ho⟩, fun hl => by rw [ab.φ β hu hl]; exact h (ab.live β hu hl)⟩
 | .mp β, _, ⟨⟨hu, ho⟩, h⟩ => ⟨⟨ab.used β hu, ho⟩, fun hl => by rw [ab.φ β hu hl]; exact h (ab.live β hu hl)⟩
 | .mt _ vs, _, ⟨b, e, hA, ents, clk, h1, h2, h3⟩ => ⟨b, e, ab.A b hA, ents, clk, by rw [ab.cells b hA]; exact h1, h2, Rl.abides vs h3⟩
 | .it β, _, ⟨⟨hu, ho⟩, h⟩ => ⟨⟨ab.used β hu, ho⟩, fun hl => by rw [ab.φ β hu hl]; exact h (ab.live β hu hl)⟩
 | .yl β, _, ⟨⟨hu, ho⟩, h⟩ => ⟨⟨ab.used β hu, ho⟩, fun hl => by rw [ab.φ β hu hl]; exact h (ab.live β hu hl)⟩
 | .fn _ _ _, _, ⟨l₁, l₂, e, h1, h2⟩ => ⟨l₁, l₂, e, Rl.abides _ h1, Rl.abides _ h2⟩
 | .ifc _ x, _, ⟨u, e, h⟩ => ⟨u, e, Rep.abides x h⟩
theorem Rl.abides : ∀ (xs : List VV) {l : List Value}, Rl c W xs l → Rl c' W' xs l
 | [], _, h => h
 | x :: xs, _, ⟨u, us, e, h1, h2⟩ => ⟨u, us, e, Rep.abides x h1, Rl.abides xs h2⟩
theorem Rc.abides (b o : Nat) : ∀ (xs : List VV), c.A b → Rc c W b o xs → Rc c' W' b o xs
 | [], _, _ => trivial
 | x :: xs, hA, ⟨u, e, h1, h2⟩ => ⟨u, by rw [cell?_of_heap (ab.cells b hA)]; exact e, Rep.abides x h1, Rc.abides b (o + 1) xs hA h2⟩
end
end
theorem Rl.length {c : Ctx} {W : World} : ∀ {xs : List VV} {l : List Value}, Rl c W xs l → l.length = xs.length
 | [], _, h => by simp [Rl] at h; simp [h]
 | _ :: _, _, ⟨_, _, e, _, h⟩ => by subst e; simp [Rl.length h]
theorem Rl.get {c : Ctx} {W : World} : ∀ {xs : List VV} {l : List Value} (i : Nat) {x : VV}, Rl c W xs l → xs[i]? = some x → ∃ u, l[i]? = some u ∧ Rep c W x u
 | [], _, _, _, _, h => by simp at h
 | _ :: _, _, 0, _, ⟨u, us, e, h, _⟩, hx => by subst e; simp at hx; subst hx; exact ⟨u, by simp, h⟩
 | _ :: _, _, i + 1, _, ⟨u, us, e, _, h⟩, hx => by
  subst e
  obtain ⟨w, hw, hr⟩ := Rl.get i h (by simpa using hx)
  exact ⟨w, by simpa using hw, hr⟩
theorem Rl.append {c : Ctx} {W : World} : ∀ {xs ys : List VV} {l m : List Value}, Rl c W xs l → Rl c W ys m → Rl c W (xs ++ ys) (l ++ m)
 | [], _, _, _, h, h' => by simp [Rl] at h; subst h; simpa using h'
 | _ :: _, _, _, _, ⟨u, us, e, h1, h2⟩, h' => by subst e; exact ⟨u, us ++ _, rfl, h1, Rl.append h2 h'⟩
theorem Rl.take {c : Ctx} {W : World} : ∀ {xs : List VV} {l : List Value} (n : Nat), Rl c W xs l → Rl c W (xs.take n) (l.take n)
 | [], _, n, h => by simp [Rl] at h; subst h; simp [Rl]
 | _ :: _, _, 0, _ => by simp [Rl]
 | _ :: _, _, n + 1, ⟨u, us, e, h1, h2⟩ => by subst e; exact ⟨u, us.take n, rfl, h1, Rl.take n h2⟩
theorem Rl.drop {c : Ctx} {W : World} : ∀ {xs : List VV} {l : List Value} (n : Nat), Rl c W xs l → Rl c W (xs.drop n) (l.drop n)
 | [], _, n, h => by simp [Rl] at h; subst h; simp [Rl]
 | _ :: _, _, 0, h => by simpa using h
 | _ :: _, _, n + 1, ⟨u, us, e, h1, h2⟩ => by subst e; simpa using Rl.drop n h2
theorem Rl.set {c : Ctx} {W : World} : ∀ {xs : List VV} {l : List Value} (n : Nat) {x : VV} {v : Value}, Rl c W xs l → Rep c W x v → Rl c W (xs.set n x) (l.set n v)
 | [], _, n, _, _, h, _ => by simp [Rl] at h; subst h; simp [Rl]
 | _ :: _, _, 0, _, v, ⟨u, us, e, h1, h2⟩, h => by subst e; exact ⟨v, us, rfl, h, h2⟩
 | _ :: _, _, n + 1, _, _, ⟨u, us, e, h1, h2⟩, h => by subst e; exact ⟨u, us.set n _, rfl, h1, Rl.set n h2 h⟩
theorem Rc.drop {c : Ctx} {W : World} {b : Nat} : ∀ {xs : List VV} {o : Nat} (n : Nat), Rc c W b o xs → Rc c W b (o + n) (xs.drop n)
 | [], _, n, _ => by simp [Rc]
 | _ :: _, _, 0, h => by simpa using h
 | _ :: xs, o, n + 1, ⟨_, _, _, h⟩ => by
  have := Rc.drop (b := b) (xs := xs) (o := o + 1) n h
  rw [show o + (n + 1) = o + 1 + n by omega]; simpa using this
theorem Rc.take {c : Ctx} {W : World} {b : Nat} : ∀ {xs : List VV} {o : Nat} (n : Nat), Rc c W b o xs → Rc c W b o (xs.take n)
 | [], _, n, _ => by simp [Rc]
 | _ :: _, _, 0, _ => by simp [Rc]
 | _ :: _, _, n + 1, ⟨u, e, h1, h2⟩ => ⟨u, e, h1, Rc.take n h2⟩
theorem Rc.get {c : Ctx} {W : World} {b : Nat} : ∀ {xs : List VV} {o : Nat} (i : Nat) {x : VV}, Rc c W b o xs → xs[i]? = some x → ∃ u, W.cell? ⟨b, o + i, none⟩ = some u ∧ Rep c W x u
 | [], _, _, _, _, h => by simp at h
 | _ :: _, _, 0, _, ⟨u, e, h, _⟩, hx => by simp at hx; subst hx; exact ⟨u, e, h⟩
 | _ :: xs, o, i + 1, _, ⟨_, _, _, h⟩, hx => by
  obtain ⟨w, hw, hr⟩ := Rc.get (b := b) (xs := xs) (o := o + 1) i h (by simpa using hx)
  exact ⟨w, by rw [show o + (i + 1) = o + 1 + i by omega]; exact hw, hr⟩
theorem Rc.of_cells {c : Ctx} {W : World} {b : Nat} : ∀ {xs : List VV} {l : List Value} {o : Nat}, Rl c W xs l → (∀ i u, l[i]? = some u → W.cell? ⟨b, o + i, none⟩ = some u) → Rc c W b o xs
 | [], _, _, _, _ => trivial
 | x :: xs, _, o, ⟨u, us, e, h1, h2⟩, h => by
  subst e
  refine ⟨u, by simpa using h 0 u (by simp), h1, Rc.of_cells h2 fun i w hw => ?_⟩
  rw [show o + 1 + i = o + (i + 1) by omega]
  exact h (i + 1) w (by simpa using hw)
theorem Rc.list {c : Ctx} {W : World} {b : Nat} : ∀ {xs : List VV} {o : Nat}, Rc c W b o xs → ∃ l, Rl c W xs l ∧ ∀ i u, l[i]? = some u → W.cell? ⟨b, o + i, none⟩ = some u
 | [], _, _ => ⟨[], rfl, fun i u h => by simp at h⟩
 | x :: xs, o, ⟨u, e, h1, h2⟩ => by
  obtain ⟨l, hl, hc⟩ := Rc.list h2
  refine ⟨u :: l, ⟨u, l, rfl, h1, hl⟩, fun i w hw => ?_⟩
  cases i with
  | zero => simp at hw; subst hw; exact e
  | succ i => rw [show o + (i + 1) = o + 1 + i by omega]; exact hc i w (by simpa using hw)
def isDef (H : Nat → Option Vo) (β : Nat) : Prop := ∃ ds, H β = some (.deferred ds)
theorem isDef.live {H : Nat → Option Vo} {β : Nat} (h : isDef H β) : (H β).isSome = true := by obtain ⟨_, h⟩ := h; simp [h]
def ObjRep (c : Ctx) (W : World) (β : Nat) : Vo → Prop
 | .cells el cs => ∃ arr e, W.heap[c.φ β]? = some (.cells arr e (0, 0)) ∧ arr.size = c.room β ∧ cs.length ≤ arr.size ∧ Rl c W cs (arr.toList.take cs.length) ∧ ∀ t, el = some t → e = t
 | .map es => ∃ ents clk, W.heap[c.φ β]? = some (.map ents clk) ∧ ents.toList.map (·.key) = es.map (·.1) ∧ Rl c W (es.map (·.2)) (ents.toList.map (·.val))
 | .stri s pos => W.heap[c.φ β]? = some (.stringIter s pos)
 | .loop st pe tm ps as bo df => ∃ l fn, W.heap[c.φ β]? = some (.loop { state := st, pending := pe, fn := fn, tmps := ⟨l⟩, params := ps, assign := as, body := bo, defers := c.φ df }) ∧ Rl c W tm l ∧ c.used df ∧ isDef c.H df
 | .loopF st pe tm ps as bo fn => ∃ l dn, W.heap[c.φ β]? = some (.loop { state := st, pending := pe, fn := fn, tmps := ⟨l⟩, params := ps, assign := as, body := bo, defers := dn }) ∧ Rl c W tm l
 | .deferred none => W.heap[c.φ β]? = some (.deferred none)
 | .deferred (some ds) => ds = [] ∧ W.heap[c.φ β]? = some (.deferred (some []))
structure Sim (c : Ctx) (W : World) : Prop where
 used : ∀ β, c.live β → c.used β
 obj : ∀ β o, c.H β = some o → ObjRep c W β o
 lt : ∀ β, c.live β → c.φ β < W.heap.size
 notA : ∀ β, c.live β → ¬ c.A (c.φ β)
 inj : ∀ β γ, c.live β → c.live γ → c.φ β = c.φ γ → β = γ
 ltA : ∀ b, c.A b → b < W.heap.size
structure Ext (c : Ctx) (W : World) (c' : Ctx) (W' : World) : Prop where
 A : ∀ b, c.A b → c'.A b
 newA : ∀ b, c'.A b → c.A b ∨ W.heap.size ≤ b ∨ ∃ β, c.live β ∧ c.φ β = b
 used : ∀ β, c.used β → c'.used β
 live : ∀ β, c.used β → c'.live β → c.live β
 φ : ∀ β, c.used β → c'.live β → c'.φ β = c.φ β
 room : ∀ β, c.used β → c'.live β → c'.room β = c.room β
 keep : ∀ b, b < W.heap.size → (∀ β, c.live β → c.φ β ≠ b) → W'.heap[b]? = W.heap[b]?
 old : ∀ γ, c'.live γ → c'.φ γ < W.heap.size → ∃ β, c.live β ∧ c.φ β = c'.φ γ
 size : W.heap.size ≤ W'.heap.size
 os : W'.os = W.os
 tape : W'.tape = W.tape
 output : W'.output = W.output
variable {c c' : Ctx}
theorem Ext.abides (h : Ext c W c' W') (s : Sim c W) : Abides c W c' W' :=
 ⟨h.A, fun b hA => h.keep b (s.ltA b hA) fun β hl e => s.notA β hl (e ▸ hA), h.used, h.live, h.φ, h.room⟩
theorem Ext.refl (c : Ctx) (W : World) : Ext c W c W :=
 ⟨fun _ h => h, fun _ h => .inl h, fun _ h => h, fun _ _ h => h, fun _ _ _ => rfl, fun _ _ _ => rfl, fun _ _ _ => rfl,
  fun γ h _ => ⟨γ, h, rfl⟩, qZh _, rfl, rfl, rfl⟩
theorem Ext.trans {c'' : Ctx} {W'' : World} (h : Ext c W c' W') (k : Ext c' W' c'' W'') : Ext c W c'' W'' where
 A b hb := k.A b (h.A b hb)
 newA b hb := by
  rcases k.newA b hb with g | g | ⟨γ, hl, e⟩
  ·exact h.newA b g
  ·exact .inr (.inl (qZi h.size g))
  ·rcases Nat.lt_or_ge b W.heap.size with hlt | hge
   ·obtain ⟨β, hβ, e'⟩ := h.old γ hl (e ▸ hlt)
    exact .inr (.inr ⟨β, hβ, e'.trans e⟩)
   ·exact .inr (.inl hge)
 used β hb := k.used β (h.used β hb)
 live β hu hl := h.live β hu (k.live β (h.used β hu) hl)
 φ β hu hl := (k.φ β (h.used β hu) hl).trans (h.φ β hu (k.live β (h.used β hu) hl))
 room β hu hl := (k.room β (h.used β hu) hl).trans (h.room β hu (k.live β (h.used β hu) hl))
 keep b hb hn := by
  refine (k.keep b (qZd hb h.size) fun γ hl e => ?_).trans (h.keep b hb hn)
  obtain ⟨β, hβ, e'⟩ := h.old γ hl (e ▸ hb)
  exact hn β hβ (e'.trans e)
 old γ hl hlt := by
  obtain ⟨β, hβ, e⟩ := k.old γ hl (qZd hlt h.size)
  obtain ⟨α, hα, e'⟩ := h.old β hβ (by rw [e]; exact hlt)
  exact ⟨α, hα, e'.trans e⟩
 size := qZi h.size k.size
 os := k.os.trans h.os
 tape := k.tape.trans h.tape
 output := k.output.trans h.output
theorem Ext.drew (c : Ctx) (W : World) : Ext c W c W.drew :=
 ⟨fun _ h => h, fun _ h => .inl h, fun _ h => h, fun _ _ h => h, fun _ _ _ => rfl, fun _ _ _ => rfl, fun _ _ _ => rfl,
  fun γ h _ => ⟨γ, h, rfl⟩, qZh _, rfl, rfl, rfl⟩
theorem wE (h : W'.heap = W.heap) : Abides c W c W' :=
 ⟨fun _ h => h, fun _ _ => by rw [h], fun _ h => h, fun _ _ h => h, fun _ _ _ => rfl, fun _ _ _ => rfl⟩
theorem ObjRep.abides (ab : Abides c W c' W') {β : Nat} {o : Vo} (h : ObjRep c W β o)
  (hu : c.used β) (hl : c'.live β) (hh : W'.heap[c.φ β]? = W.heap[c.φ β]?) (hdf : ∀ st pe tm ps as bo df, o = .loop st pe tm ps as bo df → isDef c'.H df) : ObjRep c' W' β o := by
 have e := ab.φ β hu hl
 have er := ab.room β hu hl
 cases o with
 | cells mR cs => obtain ⟨arr, el, h1, h2, h3, h4, h5⟩ := h; exact ⟨arr, el, by rw [e, hh]; exact h1, by rw [er]; exact h2, h3, Rl.abides ab _ h4, h5⟩
 | map es => obtain ⟨ents, clk, h1, h2, h3⟩ := h; exact ⟨ents, clk, by rw [e, hh]; exact h1, h2, Rl.abides ab _ h3⟩
 | stri s pos => show W'.heap[c'.φ β]? = _; rw [e, hh]; exact h
 | loop st pe tm ps as bo df =>
  obtain ⟨l, fn, h1, h2, h3, h4⟩ := h
  have hd := hdf _ _ _ _ _ _ _ rfl
  exact ⟨l, fn, by rw [e, hh, ab.φ df h3 hd.live]; exact h1, Rl.abides ab _ h2, ab.used df h3, hd⟩
 | loopF st pe tm ps as bo fn =>
  obtain ⟨l, dn, h1, h2⟩ := h
  exact ⟨l, dn, by rw [e, hh]; exact h1, Rl.abides ab _ h2⟩
 | deferred ds =>
  cases ds with
  | none => show W'.heap[c'.φ β]? = _; rw [e, hh]; exact h
  | some ds => exact ⟨h.1, by rw [e, hh]; exact h.2⟩
theorem Sim.of_heap (s : Sim c W) (h : W'.heap = W.heap) : Sim c W' where
 used := s.used
 obj β o ho := (s.obj β o ho).abides (wE h) (s.used β (by simp [Ctx.live, ho])) (by simp [Ctx.live, ho]) (by rw [h]) (fun _ _ _ _ _ _ df e => by
  subst e; obtain ⟨_, _, _, _, _, hd⟩ := s.obj β _ ho; exact hd)
 lt β hl := by rw [h]; exact s.lt β hl
 notA := s.notA
 inj := s.inj
 ltA b hb := by rw [h]; exact s.ltA b hb
theorem Sim.drew (s : Sim c W) : Sim c W.drew := s.of_heap rfl
end Go.V
end
section
namespace Go.V
open Go IntKind
structure But (W W' : World) (b : Nat) : Prop where
 keep : ∀ k, k < W.heap.size → k ≠ b → W'.heap[k]? = W.heap[k]?
 size : W.heap.size ≤ W'.heap.size
 os : W'.os = W.os
 tape : W'.tape = W.tape
 output : W'.output = W.output
theorem But.alloc (W : World) (o : Obj) : But W (W.alloc o) W.heap.size :=
 ⟨fun k hk _ => RowKit.Below.heap_alloc W o k hk, by simp, rfl, rfl, rfl⟩
variable {W : World}
theorem But.trans {W' W'' : World} {b : Nat} (h : But W W' b) (k : But W' W'' b) : But W W'' b :=
 ⟨fun i hi hb => (k.keep i (qZd hi h.size) hb).trans (h.keep i hi hb), qZi h.size k.size, k.os.trans h.os, k.tape.trans h.tape, k.output.trans h.output⟩
theorem But.refl (W : World) (b : Nat) : But W W b := ⟨fun _ _ _ => rfl, qZh _, rfl, rfl, rfl⟩
theorem But.drew (W : World) (b : Nat) : But W W.drew b := ⟨fun _ _ _ => rfl, qZh _, rfl, rfl, rfl⟩
def Ctx.push (c : Ctx) (H0 : Nat → Option Vo) (γ : Nat) (o : Vo) (b rm : Nat) : Ctx where
 A := c.A
 φ x := if x = γ then b else c.φ x
 room x := if x = γ then rm else c.room x
 used x := x = γ ∨ c.used x
 H x := if x = γ then some o else H0 x
variable {c : Ctx} {H0 : Nat → Option Vo} {γ x : Nat} {o : Vo}
theorem Ctx.push_live {b rm : Nat} (h : (c.push H0 γ o b rm).live x) : x = γ ∨ (x ≠ γ ∧ (H0 x).isSome = true) := by
 by_cases e : x = γ
 ·exact .inl e
 ·right; refine ⟨e, ?_⟩; simpa [Ctx.live, Ctx.push, e] using h
def ai (H0 H : Nat → Option Vo) : Prop := ∀ x o, H0 x = some o → H x = some o
theorem ai.refl (H : Nat → Option Vo) : ai H H := fun _ _ h => h
def without (H : Nat → Option Vo) (β : Nat) : Nat → Option Vo := fun x => if x = β then none else H x
theorem ai.without (H : Nat → Option Vo) (β : Nat) : ai (without H β) H := fun x o h => by
 unfold V.without at h; split at h
 ·cases h
 ·exact h
variable {H : Nat → Option Vo} {el : Option TypeId} {cs : List VV}
theorem isDef.without {β df : Nat} (h : H β = some (.cells el cs)) (hd : isDef H df) : isDef (without H β) df := by
 obtain ⟨ds, hd⟩ := hd
 have : df ≠ β := by intro e; subst e; rw [h] at hd; cases hd
 exact ⟨ds, by simpa [V.without, this] using hd⟩
theorem ai.live (h : ai H0 H) (hx : (H0 x).isSome = true) : (H x).isSome = true := by
 obtain ⟨o, ho⟩ := Option.isSome_iff_exists.1 hx
 simp [h x o ho]
section push
variable {c : Ctx} {W W' : World} {H0 : Nat → Option Vo} {γ b rm : Nat} {o : Vo}
theorem Ext.push (hs : ai H0 c.H) (hγ : ¬ c.used γ) (hb : W.heap.size ≤ b ∨ ∃ β, c.live β ∧ c.φ β = b) (hW : But W W' b) :
  Ext c W (c.push H0 γ o b rm) W' where
 A _ h := h
 newA _ h := .inl h
 used _ h := .inr h
 live β hu hl := by
  rcases Ctx.push_live hl with e | ⟨_, h⟩
  ·subst e; exact absurd hu hγ
  ·exact hs.live h
 φ β hu _ := by
  have : β ≠ γ := fun e => hγ (e ▸ hu)
  simp [Ctx.push, this]
 room β hu _ := by
  have : β ≠ γ := fun e => hγ (e ▸ hu)
  simp [Ctx.push, this]
 keep k hk hn := hW.keep k hk fun e => by
  subst e
  rcases hb with h | ⟨β, hl, e⟩
  ·omega
  ·exact hn β hl e
 old x hl hlt := by
  rcases Ctx.push_live hl with e | ⟨e, h⟩
  ·subst e
   rcases hb with h | h
   ·simp [Ctx.push] at hlt; omega
   ·simpa [Ctx.push] using h
  ·exact ⟨x, hs.live h, by simp [Ctx.push, e]⟩
 size := hW.size
 os := hW.os
 tape := hW.tape
 output := hW.output
theorem tK (s : Sim c W) (hs : ai H0 c.H) (hγ : ¬ c.used γ) (hb : W.heap.size ≤ b ∨ ∃ β, c.live β ∧ c.φ β = b) (hW : But W W' b) :
  Abides c W (c.push H0 γ o b rm) W' := (Ext.push hs hγ hb hW).abides s
theorem Sim.push (s : Sim c W) (hs : ai H0 c.H) (hγ : ¬ c.used γ) (hb : W.heap.size ≤ b ∨ ∃ β, c.live β ∧ c.φ β = b) (hW : But W W' b)
  (hlt : b < W'.heap.size) (hfree : ∀ x, (H0 x).isSome = true → c.φ x ≠ b) (hloop : ∀ x st pe tm ps as bo df, H0 x = some (.loop st pe tm ps as bo df) → isDef H0 df)
  (ho : ObjRep (c.push H0 γ o b rm) W' γ o) : Sim (c.push H0 γ o b rm) W' := by
 have ab := tK (o := o) (rm := rm) s hs hγ hb hW
 refine ⟨fun x hl => ?_, fun x ox hx => ?_, fun x hl => ?_, fun x hl => ?_, fun x y hx hy e => ?_, fun k hk => qZd (s.ltA k hk) hW.size⟩
 ·rcases Ctx.push_live hl with e | ⟨_, h⟩
  ·exact .inl e
  ·exact .inr (s.used x (hs.live h))
 ·by_cases e : x = γ
  ·subst e; simp [Ctx.push] at hx; subst hx; exact ho
  ·have gp : H0 x = some ox := by simpa [Ctx.push, e] using hx
   have hT : (H0 x).isSome = true := by simp [gp]
   have hl := hs.live hT
   refine (s.obj x ox (hs x ox gp)).abides ab (s.used x hl) (by simp [Ctx.live, Ctx.push, e, hT]) (hW.keep _ (s.lt x hl) (hfree x hT)) ?_
   intro st pe tm ps as bo df e'
   subst e'
   obtain ⟨ds, hd⟩ := hloop x st pe tm ps as bo df gp
   by_cases e2 : df = γ
   ·exact absurd (e2 ▸ s.used df (by simp [Ctx.live, hs df _ hd])) hγ
   ·exact ⟨ds, by simpa [Ctx.push, e2] using hd⟩
 ·rcases Ctx.push_live hl with e | ⟨e, h⟩
  ·simpa [Ctx.push, e] using hlt
  ·simp only [Ctx.push, e, if_false]; exact qZd (s.lt x (hs.live h)) hW.size
 ·rcases Ctx.push_live hl with e | ⟨e, h⟩
  ·subst e
   simp only [Ctx.push, if_true]
   intro hA
   rcases hb with h | ⟨β, hl, e⟩
   ·have := s.ltA b hA; omega
   ·exact s.notA β hl (e ▸ hA)
  ·simp only [Ctx.push, e, if_false]; exact s.notA x (hs.live h)
 ·rcases Ctx.push_live hx with ex | ⟨ex, hx⟩ <;> rcases Ctx.push_live hy with ey | ⟨ey, hy⟩
  ·rw [ex, ey]
  ·simp [Ctx.push, ex, ey] at e; exact absurd e.symm (hfree y hy)
  ·simp [Ctx.push, ex, ey] at e; exact absurd e (hfree x hx)
  ·simp [Ctx.push, ex, ey] at e; exact s.inj x y (hs.live hx) (hs.live hy) e
end push
theorem Sim.loopOk (s : Sim c W) {st pe tm ps as bo df} (h : c.H x = some (.loop st pe tm ps as bo df)) : isDef c.H df := by
 obtain ⟨_, _, _, _, _, hd⟩ := s.obj x _ h
 exact hd
theorem ru (W : World) (o : Obj) : (W.alloc o).heap[W.heap.size]? = some o := by
 show (W.heap.push o)[W.heap.size]? = some o
 simp
theorem tL (s : Sim c W) {rm : Nat} {ob : Obj} (hγ : ¬ c.used γ)
  (ho : ObjRep (c.push c.H γ o W.heap.size rm) (W.alloc ob) γ o) :
  Ext c W (c.push c.H γ o W.heap.size rm) (W.alloc ob) ∧ Sim (c.push c.H γ o W.heap.size rm) (W.alloc ob) :=
 ⟨Ext.push (ai.refl _) hγ (.inl (qZh _)) (But.alloc W ob),
  Sim.push s (ai.refl _) hγ (.inl (qZh _)) (But.alloc W ob) (by simp) (fun x hx e => by have := s.lt x hx; omega)
   (fun _ _ _ _ _ _ _ _ h => s.loopOk h) ho⟩
theorem E2 (s : Sim c W) {arr : Array Value} {e : TypeId} (hγ : ¬ c.used γ) (hel : ∀ t, el = some t → e = t)
  (hle : cs.length ≤ arr.size) (hr : Rl c W cs (arr.toList.take cs.length)) :
  Ext c W (c.push c.H γ (.cells el cs) W.heap.size arr.size) (W.alloc (.cells arr e)) ∧ Sim (c.push c.H γ (.cells el cs) W.heap.size arr.size) (W.alloc (.cells arr e)) :=
 tL s hγ ⟨arr, e, by simp only [Ctx.push, if_true]; exact ru _ _, by simp [Ctx.push], hle, Rl.abides (tK s (ai.refl _) hγ (.inl (qZh _)) (But.alloc W _)) _ hr, hel⟩
def Ctx.upd (c : Ctx) (β : Nat) (o : Vo) : Ctx := { c with H := fun x => if x = β then some o else c.H x }
theorem Ctx.upd_live {β : Nat} (hl : c.live β) : (c.upd β o).live x ↔ c.live x := by
 by_cases e : x = β
 ·subst e; simp [Ctx.live, Ctx.upd] at *; exact hl
 ·simp [Ctx.live, Ctx.upd, e]
section upd
variable {c : Ctx} {W W' : World} {β : Nat} {o : Vo}
theorem Ext.upd (hl : c.live β) (hW : But W W' (c.φ β)) : Ext c W (c.upd β o) W' where
 A _ h := h
 newA _ h := .inl h
 used _ h := h
 live x _ h := (Ctx.upd_live hl).1 h
 φ _ _ _ := rfl
 room _ _ _ := rfl
 keep k hk hn := hW.keep k hk fun e => hn β hl e.symm
 old x h _ := ⟨x, (Ctx.upd_live hl).1 h, rfl⟩
 size := hW.size
 os := hW.os
 tape := hW.tape
 output := hW.output
theorem Sim.upd (s : Sim c W) (hl : c.live β) (hW : But W W' (c.φ β)) (hdef : isDef c.H β → ∃ ds, o = .deferred ds) (ho : ObjRep (c.upd β o) W' β o) : Sim (c.upd β o) W' := by
 have ab := (Ext.upd (o := o) hl hW).abides s
 refine ⟨fun x h => s.used x ((Ctx.upd_live hl).1 h), fun x ox hx => ?_, fun x h => qZd (s.lt x ((Ctx.upd_live hl).1 h)) hW.size,
  fun x h => s.notA x ((Ctx.upd_live hl).1 h), fun x y hx hy e => s.inj x y ((Ctx.upd_live hl).1 hx) ((Ctx.upd_live hl).1 hy) e, fun k hk => qZd (s.ltA k hk) hW.size⟩
 by_cases e : x = β
 ·subst e; simp [Ctx.upd] at hx; subst hx; exact ho
 ·have gp : c.H x = some ox := by simpa [Ctx.upd, e] using hx
  have hlx : c.live x := by simp [Ctx.live, gp]
  refine (s.obj x ox gp).abides ab (s.used x hlx) ((Ctx.upd_live hl).2 hlx) (hW.keep _ (s.lt x hlx) fun ee => e (s.inj x β hlx hl ee)) ?_
  intro st pe tm ps as bo df e'
  subst e'
  have hd := s.loopOk gp
  by_cases e2 : df = β
  ·subst e2; obtain ⟨ds, rfl⟩ := hdef hd; exact ⟨ds, by simp [Ctx.upd]⟩
  ·obtain ⟨ds, hd⟩ := hd; exact ⟨ds, by simpa [Ctx.upd, e2] using hd⟩
end upd
def Ctx.sub (c : Ctx) (H0 : Nat → Option Vo) : Ctx := { c with H := H0 }
theorem Ext.sub (hs : ai H0 c.H) : Ext c W (c.sub H0) W where
 A _ h := h
 newA _ h := .inl h
 used _ h := h
 live x _ h := hs.live h
 φ _ _ _ := rfl
 room _ _ _ := rfl
 keep _ _ _ := rfl
 old x h _ := ⟨x, hs.live h, rfl⟩
 size := qZh _
 os := rfl
 tape := rfl
 output := rfl
theorem Sim.sub (s : Sim c W) (hs : ai H0 c.H)
  (hloop : ∀ x st pe tm ps as bo df, H0 x = some (.loop st pe tm ps as bo df) → isDef H0 df) : Sim (c.sub H0) W := by
 have ab := (Ext.sub (W := W) hs).abides s
 refine ⟨fun x h => s.used x (hs.live h), fun x ox hx => ?_, fun x h => s.lt x (hs.live h), fun x h => s.notA x (hs.live h), fun x y hx hy e => s.inj x y (hs.live hx) (hs.live hy) e, s.ltA⟩
 have gp : H0 x = some ox := hx
 refine (s.obj x ox (hs x ox gp)).abides ab (s.used x (hs.live (by simp [gp]))) (by simp [Ctx.live, Ctx.sub, gp]) rfl ?_
 intro st pe tm ps as bo df e'
 subst e'
 exact hloop x st pe tm ps as bo df gp
def Ctx.sealx (c : Ctx) (H0 : Nat → Option Vo) : Ctx := { c with H := H0, A := fun b => c.A b ∨ ∃ β, c.live β ∧ (H0 β).isSome = false ∧ c.φ β = b }
theorem Ext.sealx (hs : ai H0 c.H) : Ext c W (c.sealx H0) W where
 A _ h := .inl h
 newA b h := h.imp id fun ⟨β, hl, _, e⟩ => .inr ⟨β, hl, e⟩
 used _ h := h
 live _ _ h := hs.live h
 φ _ _ _ := rfl
 room _ _ _ := rfl
 keep _ _ _ := rfl
 old x h _ := ⟨x, hs.live h, rfl⟩
 size := qZh _
 os := rfl
 tape := rfl
 output := rfl
theorem Sim.sealx (s : Sim c W) (hs : ai H0 c.H)
  (hloop : ∀ x st pe tm ps as bo df, H0 x = some (.loop st pe tm ps as bo df) → isDef H0 df) : Sim (c.sealx H0) W := by
 have ab : Abides c W (c.sealx H0) W := ⟨fun _ h => .inl h, fun _ _ => rfl, fun _ h => h, fun _ _ h => hs.live h, fun _ _ _ => rfl, fun _ _ _ => rfl⟩
 refine ⟨fun x h => s.used x (hs.live h), fun x ox hx => ?_, fun x h => s.lt x (hs.live h), fun x h => ?_, fun x y hx hy e => s.inj x y (hs.live hx) (hs.live hy) e, fun b hb => ?_⟩
 ·have gp : H0 x = some ox := hx
  refine (s.obj x ox (hs x ox gp)).abides ab (s.used x (hs.live (by simp [gp]))) (by simp [Ctx.live, Ctx.sealx, gp]) rfl ?_
  intro st pe tm ps as bo df e'
  subst e'
  exact hloop x st pe tm ps as bo df gp
 ·rintro (hA | ⟨β, hl, hn, e⟩)
  ·exact s.notA x (hs.live h) hA
  ·have := s.inj β x hl (hs.live h) e
   subst this
   have h' : (H0 β).isSome = true := h
   rw [h'] at hn; cases hn
 ·rcases hb with hA | ⟨β, hl, _, e⟩
  ·exact s.ltA b hA
  ·rw [← e]; exact s.lt β hl
end Go.V
end
section
namespace Go.V
open Go IntKind
def ofVal1 (v : Value) : VV := .lit v
def ofVal2 : Value → VV
 | .agg ⟨l⟩ => .agg (l.map ofVal1)
 | v => ofVal1 v
def ofVal : Value → VV
 | .tuple ⟨l⟩ => .tup (l.map ofVal2)
 | v => ofVal2 v
theorem wF (c : Ctx) (W : World) (v : Value) : Rep c W (ofVal1 v) v := by
 rfl
theorem wG {c : Ctx} {W : World} {f : Value → VV} (h : ∀ v, Rep c W (f v) v) : ∀ l : List Value, Rl c W (l.map f) l
 | [] => rfl
 | v :: l => ⟨v, l, rfl, h v, wG h l⟩
theorem yg (c : Ctx) (W : World) (v : Value) : Rep c W (ofVal2 v) v := by
 unfold ofVal2
 split
 ·exact ⟨_, rfl, wG (wF c W) _⟩
 ·exact wF c W v
theorem yh (c : Ctx) (W : World) (v : Value) : Rep c W (ofVal v) v := by
 unfold ofVal
 split
 ·exact ⟨_, rfl, wG (yg c W) _⟩
 ·exact yg c W v
mutual
def VV.val? : VV → Option Value
 | .lit v => some v
 | .agg cs => match valL? cs with | some l => some (.agg ⟨l⟩) | none => none
 | .tup cs => match valL? cs with | some l => some (.tuple ⟨l⟩) | none => none
 | .ifc t x => match x.val? with | some u => some (.iface t u) | none => none
 | .fn f a b => match valL? a, valL? b with | some l, some m => some (.func f ⟨l⟩ ⟨m⟩) | _, _ => none
 | _ => none
def valL? : List VV → Option (List Value)
 | [] => some []
 | x :: xs => match x.val?, valL? xs with | some u, some us => some (u :: us) | _, _ => none
end
mutual
theorem oQ {c : Ctx} {W : World} : ∀ {x : VV} {u v : Value}, x.val? = some u → Rep c W x v → v = u
 | .lit v, u, _, h, hr => by
  have e : v = u := by simpa [VV.val?] using h
  have h2 : _ = v := hr
  rw [h2, e]
 | .agg cs, u, v, h, ⟨l, e, hr⟩ => by
  unfold VV.val? at h; split at h
  ·rename_i l' h'
   cases h; rw [e, wH h' hr]
  ·cases h
 | .tup cs, u, v, h, ⟨l, e, hr⟩ => by
  unfold VV.val? at h; split at h
  ·rename_i l' h'
   cases h; rw [e, wH h' hr]
  ·cases h
 | .ifc t x, u, v, h, ⟨w, e, hr⟩ => by
  unfold VV.val? at h; split at h
  ·rename_i l' h'
   cases h; rw [e, oQ h' hr]
  ·cases h
 | .fn f a b, u, v, h, ⟨l, m, e, hr, hs⟩ => by
  unfold VV.val? at h; split at h
  ·rename_i l' m' h' h''
   cases h; rw [e, wH h' hr, wH h'' hs]
  ·cases h
 | .any, _, _, h, _ => by simp [VV.val?] at h
 | .sl _ _ _, _, _, h, _ => by simp [VV.val?] at h
 | .tp _, _, _, h, _ => by simp [VV.val?] at h
 | .ref _ _ _ _ _, _, _, h, _ => by simp [VV.val?] at h
 | .ptr _ _, _, _, h, _ => by simp [VV.val?] at h
 | .mp _, _, _, h, _ => by simp [VV.val?] at h
 | .mt _ _, _, _, h, _ => by simp [VV.val?] at h
 | .it _, _, _, h, _ => by simp [VV.val?] at h
 | .yl _, _, _, h, _ => by simp [VV.val?] at h
theorem wH {c : Ctx} {W : World} : ∀ {xs : List VV} {us vs : List Value}, valL? xs = some us → Rl c W xs vs → vs = us
 | [], us, vs, h, hr => by simp [valL?] at h; have : vs = [] := hr; rw [this, h]
 | x :: xs, us, vs, h, ⟨u, w, e, h1, h2⟩ => by
  unfold valL? at h; split at h
  ·rename_i u' us' h' h''
   cases h; rw [e, oQ h' h1, wH h'' h2]
  ·cases h
end
def VV.leaf : VV → Bool
 | .any | .agg _ | .tup _ => false
 | .lit v => v.oneCell'
 | _ => true
variable {c : Ctx} {W : World} {x : VV} {v : Value}
theorem E3 (h : x.leaf = true) (hr : Rep c W x v) : v.oneCell' = true := by
 cases x with
 | any => cases h
 | agg => cases h
 | tup => cases h
 | lit u => have : v = u := hr; subst this; exact h
 | sl cs len full => obtain ⟨_, _, rfl, _⟩ := hr; rfl
 | tp cs => obtain ⟨_, _, rfl, _⟩ := hr; rfl
 | ref β off len es cp => exact hr.1.2
 | ptr β off => exact hr.1.2
 | mp β => exact hr.1.2
 | mt ks vs => obtain ⟨_, rfl, _⟩ := hr; rfl
 | it β => exact hr.1.2
 | yl β => exact hr.1.2
 | fn f a b => obtain ⟨_, _, rfl, _⟩ := hr; rfl
 | ifc t x => obtain ⟨_, rfl, _⟩ := hr; rfl
def aW : VV → Option (List VV)
 | .agg cs => if cs.all VV.leaf then some cs else none
 | x => if x.leaf then some [x] else none
variable {cs : List VV}
theorem E4 (h : aW x = some cs) (hr : Rep c W x v) :
  Rl c W cs v.cells.toList ∧ (∀ u ∈ v.cells.toList, u.oneCell' = true) := by
 have one : ∀ {cs : List VV} {l : List Value}, cs.all VV.leaf = true → Rl c W cs l → ∀ u ∈ l, u.oneCell' = true := by
  intro cs
  induction cs with
  | nil => intro l _ h u hu; have : l = [] := h; subst this; cases hu
  | cons y ys ih =>
   intro l ha h u hu
   obtain ⟨w, ws, rfl, h1, h2⟩ := h
   simp only [List.all_cons, Bool.and_eq_true] at ha
   rcases List.mem_cons.1 hu with rfl | hu
   ·exact E3 ha.1 h1
   ·exact ih ha.2 h2 u hu
 have single : ∀ {x : VV}, x.leaf = true → Rep c W x v → Rl c W [x] v.cells.toList ∧ (∀ u ∈ v.cells.toList, u.oneCell' = true) := by
  intro x hg hr
  have h1 := E3 hg hr
  have hc : v.cells = #[v] := by cases v <;> first | rfl | cases h1
  rw [hc]
  exact ⟨⟨v, [], rfl, hr, rfl⟩, fun u hu => by simp at hu; subst hu; exact h1⟩
 cases x with
 | agg l =>
  simp only [aW] at h; split at h
  ·rename_i hall
   cases h
   obtain ⟨m, rfl, hm⟩ := hr
   exact ⟨hm, one hall hm⟩
  ·cases h
 | _ =>
  simp only [aW] at h; split at h
  ·rename_i hg; cases h; exact single hg hr
  ·cases h
def tgt (H : Nat → Option Vo) : VV → Option (List VV)
 | .tp cs => some cs
 | .ptr β off => match H β with | some (.cells _ cs) => if off ≤ cs.length then some (cs.drop off) else none | _ => none
 | _ => none
variable {el : Option TypeId}
theorem Rc.of_obj {β : Nat} (s : Sim c W) (h : c.H β = some (.cells el cs)) : Rc c W (c.φ β) 0 cs := by
 obtain ⟨arr, e, h1, h2, h3, h4, _⟩ := s.obj β _ h
 refine Rc.of_cells h4 fun i u hu => ?_
 rw [List.getElem?_take] at hu
 split at hu
 ·simp [World.cell?, h1]; simpa using hu
 ·cases hu
theorem yi (s : Sim c W) (h : tgt c.H x = some cs) (hr : Rep c W x v) :
  ∃ b o, v = .pointer (some ⟨b, o, none⟩) ∧ Rc c W b o cs := by
 cases x with
 | tp l => simp [tgt] at h; subst h; obtain ⟨b, o, e, _, h⟩ := hr; exact ⟨b, o, e, h⟩
 | ptr β off =>
  simp only [tgt] at h; split at h
  ·rename_i l hl
   split at h
   ·cases h
    exact ⟨c.φ β, off, hr.2 (by simp [Ctx.live, hl]), by have := Rc.drop off (Rc.of_obj s hl); simpa using this⟩
   ·cases h
  ·cases h
 | _ => simp [tgt] at h
def sls (H : Nat → Option Vo) : VV → Option (List VV × Nat)
 | .sl cs len _ => some (cs, len)
 | .ref β off len _ _ => match H β with | some (.cells _ cs) => if off ≤ cs.length then some (cs.drop off, len) else none | _ => none
 | .lit (.slice none 0 0) => some ([], 0)
 | _ => none
def nilS : VV → VV
 | .lit (.slice none 0 0) => .sl [] 0 true
 | x => x
theorem yj (hr : Rep c W x v) : Rep c W (nilS x) v := by
 unfold nilS
 split
 ·have e : v = .slice none 0 0 := hr
  subst e
  exact ⟨none, 0, rfl, qZh _, fun _ => rfl, .inl rfl⟩
 ·exact hr
theorem Da (s : Sim c W) {len : Nat} (h : sls c.H x = some (cs, len)) (hr : Rep c W x v) :
  ∃ aa cap, v = .slice aa len cap ∧ len ≤ cap ∧ (cs = [] ∨ ∃ b o, aa = some ⟨b, o, none⟩ ∧ Rc c W b o cs) := by
 cases x with
 | sl l n full =>
  simp [sls] at h; obtain ⟨rfl, rfl⟩ := h
  obtain ⟨aa, cap, e, h1, _, h2⟩ := hr
  exact ⟨aa, cap, e, h1, h2.imp id fun ⟨b, o, e, _, h⟩ => ⟨b, o, e, h⟩⟩
 | ref β off n es cp =>
  simp only [sls] at h; split at h
  ·rename_i l hl
   split at h
   ·cases h
    obtain ⟨cap, e, h1, h2⟩ := hr.2 (by simp [Ctx.live, hl])
    exact ⟨_, cap, e, h1, .inr ⟨_, _, rfl, by have := Rc.drop off (Rc.of_obj s hl); simpa using this⟩⟩
   ·cases h
  ·cases h
 | lit u =>
  unfold sls at h
  split at h
  ·rename_i e; cases e
  ·rename_i e; cases e
  ·rename_i e
   cases h
   have e2 : v = u := hr
   cases e
   exact ⟨none, 0, e2, qZh _, .inl rfl⟩
  ·cases h
 | _ => simp [sls] at h
def aggT (P : Program) (t : TypeId) : Option Bool :=
 match P.underlying t with
 | some (.struct _) | some (.array ..) => some true
 | some _ => some false
 | none => none
def szT (P : Program) (t : TypeId) : Option Nat := (P.info? t).map (·.size)
variable {P : Program} {t : TypeId}
theorem Db {b : Bool} (h : aggT P t = some b) (W : World) : (isAgg t).run P W = .ok b W := by
 unfold aggT at h
 cases hu : P.underlying t with
 | none => simp [hu] at h
 | some d => cases d <;> simp [hu] at h <;> subst h <;> simp [isAgg, run_underlying hu]
theorem kh {n : Nat} (h : szT P t = some n) (W : World) : (sizeOf t).run P W = .ok n W := by
 unfold szT at h
 cases hi : P.info? t with
 | none => simp [hi] at h
 | some i => simp [hi] at h; subst h; simp [sizeOf, typeInfo, hi]
theorem mf (b o n : Nat) : (⟨b, o, none⟩ : Addr).add n = ⟨b, o + n, none⟩ := by unfold Addr.add; split <;> simp_all
def vpart (P : Program) (t : TypeId) (cs : List VV) (off : Nat) : Option VV :=
 match aggT P t, szT P t with
 | some true, some n => if off + n ≤ cs.length then some (.agg ((cs.drop off).take n)) else none
 | some false, _ => cs[off]?
 | _, _ => none
variable {off : Nat} {l : List Value}
theorem Sa (h : vpart P t cs off = some x) (hr : Rl c W cs l) :
  ∃ v, (part t ⟨l⟩ off).run P W = .ok v W ∧ Rep c W x v := by
 unfold vpart at h
 split at h
 ·rename_i n ha hn
  split at h
  ·cases h
   refine ⟨.agg ⟨(l.drop off).take n⟩, ?_, _, rfl, Rl.take n (Rl.drop off hr)⟩
   simp only [part, Sem.run_bind, Db ha, kh hn, Result.andThen_ok, if_true, Sem.run_pure]
   congr 2
   apply Array.ext'
   simp
  ·cases h
 ·rename_i ha
  obtain ⟨u, hu, hru⟩ := Rl.get off hr h
  refine ⟨u, ?_, hru⟩
  simp [part, Db ha, hu]
 ·cases h
def aN (P : Program) (t : TypeId) (cs : List VV) : Option VV := vpart P t cs 0
theorem VI {b o : Nat} (n : Nat) (hr : Rc c W b o cs) (hn : n ≤ cs.length) :
  ∃ l, l.length = n ∧ (loadCells ⟨b, o, none⟩ n).run P W = .ok ⟨l⟩ W ∧ Rl c W (cs.take n) l ∧ ∀ i u, l[i]? = some u → W.cell? ⟨b, o + i, none⟩ = some u := by
 obtain ⟨l, hl, hc⟩ := Rc.list (Rc.take n hr)
 have ba : l.length = n := by rw [hl.length]; simp; omega
 refine ⟨l, ba, ?_, hl, hc⟩
 have := run_loadCells_list (P := P) W ⟨b, o, none⟩ l (fun j v hv => by rw [mf]; exact hc j v hv)
 rw [ba] at this
 exact this
theorem Sb {b o : Nat} (h : aN P t cs = some x) (hr : Rc c W b o cs) :
  ∃ v, (loadVar t ⟨b, o, none⟩).run P W = .ok v W ∧ Rep c W x v := by
 unfold aN vpart at h
 split at h
 ·rename_i n ha hn
  split at h
  ·rename_i hle
   cases h
   obtain ⟨l, _, hl, hrl, _⟩ := VI (P := P) n hr (by simpa using hle)
   refine ⟨.agg ⟨l⟩, ?_, l, rfl, by simpa using hrl⟩
   simp [loadVar, Db ha, kh hn, hl]
  ·cases h
 ·rename_i ha
  obtain ⟨u, hu, hru⟩ := Rc.get 0 hr h
  refine ⟨u, ?_, hru⟩
  have hu' : W.cell? ⟨b, o, none⟩ = some u := by simpa using hu
  simp [loadVar, Db ha, hu']
 ·cases h
def overwrite (cs : List VV) (off : Nat) (xs : List VV) : List VV := cs.take off ++ xs ++ cs.drop (off + xs.length)
variable {xs : List VV}
theorem E5 (h : off + xs.length ≤ cs.length) : (overwrite cs off xs).length = cs.length := by
 simp [overwrite]; omega
theorem But.setRow (W : World) (g : Nat) (a : Array Value) : But W (W.setRow g a) g :=
 ⟨fun k _ hb => setRow_other W g k a hb, by simp, rfl, rfl, rfl⟩
theorem E6 (s : Sim c W) {β : Nat} (h : c.H β = some (.cells el cs)) (hl : Rl c W xs l)
  (h1 : ∀ u ∈ l, u.oneCell' = true) (hle : off + xs.length ≤ cs.length) :
  ∃ W', (storeCells ⟨c.φ β, off, none⟩ l).run P W = .ok () W' ∧ Ext c W (c.upd β (.cells el (overwrite cs off xs))) W' ∧ Sim (c.upd β (.cells el (overwrite cs off xs))) W' := by
 obtain ⟨arr, e, g1, g2, g3, g4, g5⟩ := s.obj β _ h
 have aw : c.live β := by simp [Ctx.live, h]
 have ba := hl.length
 have hst := run_storeCells_at P (c.φ β) off e l 0 arr W g1 (by omega) h1
 refine ⟨_, hst, Ext.upd aw (But.setRow W _ _), Sim.upd s aw (But.setRow W _ _) (fun ⟨ds, hd⟩ => by rw [h] at hd; cases hd) ?_⟩
 refine ⟨_, e, setRow_heap W (c.φ β) arr _ e (0, 0) g1, ?_, ?_, ?_, g5⟩
 ·show _ = c.room β
  rw [← g2]; simp; omega
 ·rw [E5 hle]; simp; omega
 ·rw [E5 hle]
  have ab := (Ext.upd (o := .cells el (overwrite cs off xs)) aw (But.setRow W (c.φ β) (arr.toList.take (off + 0) ++ l ++ arr.toList.drop (off + 0 + l.length)).toArray)).abides s
  apply Rl.abides ab
  have e1 : ((arr.toList.take (off + 0) ++ l ++ arr.toList.drop (off + 0 + l.length)).toArray.toList).take cs.length
    = (arr.toList.take cs.length).take off ++ l ++ (arr.toList.take cs.length).drop (off + l.length) := by
   simp only [Nat.add_zero, List.append_assoc]
   rw [List.take_append, List.take_append, List.take_take]
   simp only [List.length_take, Array.length_toList]
   have a1 : min off arr.size = off := by omega
   rw [a1, List.take_take, Nat.min_eq_right (by omega : off ≤ cs.length), Nat.min_eq_left (by omega : off ≤ cs.length), List.take_of_length_le (by omega : l.length ≤ cs.length - off), List.drop_take]
   congr 3
   omega
  rw [e1]
  unfold overwrite
  rw [← ba]
  exact Rl.append (Rl.append (Rl.take off g4) hl) (Rl.drop _ g4)
end Go.V
end
section
namespace Go.V
open Go IntKind
inductive Ve where
  | none
  | new (o : Vo)
  | upd (β : Nat) (o : Vo)
  | mv (β : Nat) (el : Option TypeId) (cs : List VV)
  | kill (β : Nat)
def Ve.app (γ : Nat) (H : Nat → Option Vo) : Ve → Nat → Option Vo
  | .none => H
  | .new o => fun x => if x = γ then some o else H x
  | .upd β o => fun x => if x = β then some o else H x
  | .mv β el cs => fun x => if x = γ then some (.cells el cs) else without H β x
  | .kill β => without H β
def Stp (P : Program) (e : Sem Next) (c : Ctx) (W : World) (γ : Nat) (x : VV) (eff : Ve) : Prop :=
  ∃ r v W' c', e.run P W = .ok r W' ∧ (r = .value v ∨ (r = .skip ∧ v = undef)) ∧ Rep c' W' x v ∧ Ext c W c' W' ∧ Sim c' W' ∧
    c'.H = eff.app γ c.H ∧ (∀ β, c'.used β → c.used β ∨ β = γ)
variable {P : Program} {c : Ctx} {W : World} {γ : Nat} {x : VV} {v : Value}
theorem Stp.same {e : Sem Next} (s : Sim c W) (h : e.run P W = .ok (.value v) W) (hr : Rep c W x v) :
    Stp P e c W γ x .none := ⟨_, v, W, c, h, .inl rfl, hr, Ext.refl c W, s, rfl, fun _ h => .inl h⟩
def aZ (s : Sem Value) : Sem Next := do pure (.value (← s))
variable {W' : World}
theorem cP {s : Sem Value} (h : s.run P W = .ok v W') : (aZ s).run P W = .ok (.value v) W' := by
  simp [aZ, h]
def aA {α : Type} (P : Program) : Sem α → Option α
  | .pure a => some a
  | .program k => aA P (k P)
  | .mark _ k => aA P k
  | _ => none
theorem mS {α : Type} {P : Program} : ∀ {e : Sem α} {a : α}, aA P e = some a → ∀ W, e.run P W = .ok a W
  | .pure a, b, h, W => by simp [aA] at h; subst h; rfl
  | .program k, b, h, W => by
    have := mS (e := k P) (a := b) (by simpa [aA] using h) W
    simpa [Sem.run] using this
  | .load .., _, h, _ => by simp [aA] at h
  | .store .., _, h, _ => by simp [aA] at h
  | .new .., _, h, _ => by simp [aA] at h
  | .shape .., _, h, _ => by simp [aA] at h
  | .freeze .., _, h, _ => by simp [aA] at h
  | .frozen .., _, h, _ => by simp [aA] at h
  | .getObj .., _, h, _ => by simp [aA] at h
  | .setObj .., _, h, _ => by simp [aA] at h
  | .choose .., _, h, _ => by simp [aA] at h
  | .sys .., _, h, _ => by simp [aA] at h
  | .mark _ k, b, h, W => by
    have := mS (e := k) (a := b) (by simpa [aA] using h) W
    simpa [Sem.run] using this
  | .halt .., _, h, _ => by simp [aA] at h
def vbin (P : Program) (op : BinOp) (t : TypeId) (x y : Operand) (a b : Value) : Option Value :=
  match a, b with
  | .int k m, .int k' n =>
    if k = k' then
      match op with
      | .add => some (.int k (k.wrap (m + n)))
      | .sub => some (.int k (k.wrap (m - n)))
      | .mul => some (.int k (k.wrap (m * n)))
      | .eql => some (.bool (m == n))
      | .neq => some (.bool (m != n))
      | .lss => some (.bool (m < n))
      | .leq => some (.bool (m ≤ n))
      | .gtr => some (.bool (m > n))
      | .geq => some (.bool (m ≥ n))
      | .quo => if n = 0 then none else some (.int k (k.wrap (m.tdiv n)))
      | .rem => if n = 0 then none else some (.int k (m.tmod n))
      | op => aA P (binOp op t (.int k m) (.int k' n))
    else aA P (binOp op t (.int k m) (.int k' n))
  | .string m, .string n =>
    match op with
    | .add => if m.size + n.size ≤ 140737488355328 then some (.string (m ++ n)) else none
    | .eql => some (.bool (m.toList == n.toList))
    | .neq => some (.bool !(m.toList == n.toList))
    | op => aA P (binOp op t (.string m) (.string n))
  | a, b => aA P (do eqGuard op t x y a b; binOp op t a b)
variable {op : BinOp} {t : TypeId}
theorem E7 {x y : Operand} {a b : Value} (h : vbin P op t x y a b = some v) (W : World) :
    ((do eqGuard op t x y a b; binOp op t a b) : Sem Value).run P W = .ok v W := by
  unfold vbin at h
  split at h
  · rename_i k m k' n
    have hg : eqGuard op t x y (.int k m) (.int k' n) = pure () := by
      unfold eqGuard; split <;> rfl
    rw [hg]
    split at h
    · rename_i hk; subst hk
      cases op <;> simp only at h <;> first
        | (cases h; simp [binOp, Op.intArith, Op.intCmp])
        | (split at h
           · cases h
           · rename_i hn; cases h; simp [binOp, Op.intDiv, hn])
        | (have := mS h W; simpa using this)
    · have := mS h W; simpa using this
  · rename_i m n
    have hg : eqGuard op t x y (.string m) (.string n) = pure () := by
      unfold eqGuard; split <;> rfl
    rw [hg]
    cases op <;> simp only at h <;> first
      | (cases h; simp [binOp, Op.stringOp])
      | (split at h
         · rename_i hn
           cases h
           have : ¬ (((m.size + n.size : Nat) : Int) > IntKind.i64.max) := by
             have e : IntKind.i64.max = 9223372036854775807 := by decide
             omega
           simp only [pure_bind, binOp, Op.stringOp, this, if_false]
           rfl
         · cases h)
      | (have := mS h W; simpa using this)
  · exact mS h W
def vzero (P : Program) (t : TypeId) : Option (Array Value) := ((P.info? t).bind (·.zero)).map (·.cells)
theorem yk {a : Array Value} (h : vzero P t = some a) (W : World) : ∃ z, (zeroValue t).run P W = .ok z W ∧ z.cells = a ∧ (P.info? t).bind (·.zero) = some z := by
  unfold vzero at h
  cases hi : P.info? t with
  | none => simp [hi] at h
  | some i =>
    cases hz : i.zero with
    | none => simp [hi, hz] at h
    | some z => simp [hi, hz] at h; subst h; exact ⟨z, by simp [zeroValue, typeInfo, hi, hz], rfl, by simp [hz]⟩
def vfill (place : Nat → Option (Nat × Nat)) : List VV → List (Nat × VV) → Option (List VV)
  | cs, [] => some cs
  | cs, (i, x) :: rest =>
    match place i, aW x with
    | some (off, size), some xs => if xs.length = size ∧ off + size ≤ cs.length then vfill place (overwrite cs off xs) rest else none
    | _, _ => none
theorem E8 {pl : Nat → Option (Nat × Nat)} : ∀ {parts : List (Nat × VV)} {cs cs' : List VV}, vfill pl cs parts = some cs' → cs'.length = cs.length
  | [], cs, cs', h => by simp [vfill] at h; rw [h]
  | p :: ps, cs, cs', h => by
    unfold vfill at h
    split at h
    · split at h
      · rename_i hc; rw [E8 h, E5 (by omega)]
      · cases h
    · cases h
theorem Sc : ∀ (l : List Value) (off k : Nat) (a : Array Value), off + k + l.length ≤ a.size →
    (l.zipIdx k).foldl (fun cs (p : Value × Nat) => cs.setIfInBounds (off + p.2) p.1) a = (a.toList.take (off + k) ++ l ++ a.toList.drop (off + k + l.length)).toArray
  | [], off, k, a, _ => by simp
  | v :: l, off, k, a, h => by
    simp only [List.zipIdx_cons, List.foldl_cons]
    rw [Sc l off (k + 1) _ (by simp at h ⊢; omega)]
    congr 1
    simp only [Array.toList_setIfInBounds, List.length_cons] at *
    have hlt : off + k < a.toList.length := by simp; omega
    rw [show off + (k + 1) = off + k + 1 by omega]
    rw [List.take_succ_eq_append_getElem (by simpa using hlt)]
    rw [List.take_set_of_le (by omega)]
    rw [List.drop_set_of_lt (by omega)]
    simp
    omega
variable {cs xs : List VV}
theorem Rl.overwrite {l m : List Value} {off : Nat} (h : Rl c W cs l) (hx : Rl c W xs m) :
    Rl c W (overwrite cs off xs) (l.take off ++ m ++ l.drop (off + xs.length)) := by
  unfold V.overwrite
  exact Rl.append (Rl.append (Rl.take off h) hx) (Rl.drop _ h)
theorem ym {c : Ctx} {W : World} {place place' : Nat → Option (Nat × Nat)} (hp : ∀ i p, place i = some p → place' i = some p) : ∀ {parts : List (Nat × VV)} {vals : List (Nat × Value)} {cs cs' : List VV} {a : Array Value},
    vfill place cs parts = some cs' → Rl c W cs a.toList → vals.map (·.1) = parts.map (·.1) → Rl c W (parts.map (·.2)) (vals.map (·.2)) →
    ∃ a', Instr.fill place' a vals = some a' ∧ Rl c W cs' a'.toList
  | [], vals, cs, cs', a, h, hr, hm, _ => by
    have : vals = [] := by simpa using hm
    subst this
    simp [vfill] at h; subst h
    exact ⟨a, rfl, hr⟩
  | (i, x) :: rest, vals, cs, cs', a, h, hr, hm, hv => by
    cases vals with
    | nil => simp at hm
    | cons p vals =>
      obtain ⟨j, v⟩ := p
      simp only [List.map_cons, List.cons.injEq] at hm
      obtain ⟨rfl, hm⟩ := hm
      simp only [List.map_cons] at hv
      obtain ⟨u, us, e, h1, h2⟩ := hv
      simp only [List.cons.injEq] at e
      obtain ⟨rfl, rfl⟩ := e
      unfold vfill at h
      split at h
      · rename_i off size xs hpl hxs
        split at h
        · rename_i hc
          obtain ⟨ba, hle⟩ := hc
          obtain ⟨hrx, _⟩ := E4 hxs h1
          have dH := hrx.length
          have nB := hr.length
          simp only [Array.length_toList] at dH nB
          have hs : v.cells.size = size := by omega
          have key := Sc v.cells.toList off 0 a (by simp; omega)
          have hrep : Rl c W (overwrite cs off xs) (((a.toList.take off ++ v.cells.toList ++ a.toList.drop (off + xs.length)).toArray).toList) := by
            simpa using Rl.overwrite (off := off) hr hrx
          obtain ⟨a', ha', hra'⟩ := ym hp h hrep hm h2
          refine ⟨a', ?_, hra'⟩
          have hp' : place' j = some (off, size) := hp _ _ hpl
          simp only [Instr.fill, hp', hs, ne_eq, not_true_eq_false, decide_false, Bool.false_or]
          have hgt : ¬ (off + size > a.size) := by omega
          simp only [hgt, decide_false, Bool.false_eq_true, if_false]
          rw [← ha']
          congr 1
          have e2 : v.cells.zipIdx.foldl (fun cs (p : Value × Nat) => cs.setIfInBounds (off + p.2) p.1) a = (v.cells.toList.zipIdx 0).foldl (fun cs (p : Value × Nat) => cs.setIfInBounds (off + p.2) p.1) a := by
            rw [← Array.foldl_toList]; simp
          rw [show (fun (cs : Array Value) (x : Value × Nat) => match x with | (c, j) => cs.setIfInBounds (off + j) c) = (fun cs (p : Value × Nat) => cs.setIfInBounds (off + p.2) p.1) from rfl, e2, key]
          congr 4
        · cases h
      · cases h
def placeS (P : Program) (fields : Array Field) (i : Nat) : Option (Nat × Nat) :=
  match fields[i]? with
  | some f => (szT P f.type).map fun n => (f.offset, n)
  | none => none
theorem Sd {P : Program} {W : World} : ∀ (l : List Field), (∀ f ∈ l, (szT P f.type).isSome = true) →
    (l.mapM (fun (f : Field) => (do pure (f.offset, ← sizeOf f.type) : Sem (Nat × Nat)))).run P W = .ok (l.map fun f => (f.offset, (szT P f.type).getD 0)) W
  | [], _ => by simp
  | f :: l, h => by
    obtain ⟨n, hn⟩ := Option.isSome_iff_exists.1 (h f (by simp))
    have ih := Sd (W := W) l (fun g hg => h g (by simp [hg]))
    simp only [List.mapM_cons, Sem.run_bind, kh hn, Result.andThen_ok, Sem.run_pure, ih, hn, Option.getD_some, List.map_cons]
def vbuild (P : Program) (t : TypeId) (parts : List (Nat × VV)) : Option VV :=
  match vzero P t, P.underlying t with
  | some z, some (.struct fields) =>
    if fields.all (fun f => (szT P f.type).isSome) then (vfill (placeS P fields) (z.toList.map ofVal1) parts).map .agg else none
  | some z, some (.array _ e) =>
    match szT P e with
    | some n => (vfill (fun i => some (i * n, n)) (z.toList.map ofVal1) parts).map .agg
    | none => none
  | _, _ => none
variable {parts : List (Nat × VV)} {vals : Array (Nat × Value)}
theorem E9 (h : vbuild P t parts = some x)
    (hm : vals.toList.map (·.1) = parts.map (·.1)) (hv : Rl c W (parts.map (·.2)) (vals.toList.map (·.2))) : ∃ v, (Instr.build t vals).run P W = .ok v W ∧ Rep c W x v := by
  unfold vbuild at h
  split at h
  · rename_i z fields hz hu
    obtain ⟨zv, hzr, hzc, _⟩ := yk hz W
    split at h
    · rename_i hall
      cases hf : vfill (placeS P fields) (z.toList.map ofVal1) parts with
      | none => simp [hf] at h
      | some cs =>
        simp [hf] at h; subst h
        have hall' : ∀ f ∈ fields.toList, (szT P f.type).isSome = true := by
          intro f hf'
          exact (Array.all_eq_true_iff_forall_mem.1 hall) f (by simpa using hf')
        have hp : ∀ i p, placeS P fields i = some p → ((fields.map fun f => (f.offset, (szT P f.type).getD 0))[i]?) = some p := by
          intro i p hp
          unfold placeS at hp
          split at hp
          · rename_i f hf'
            obtain ⟨n, hn⟩ := Option.isSome_iff_exists.1 (hall' f (Array.mem_toList_iff.2 (Array.mem_of_getElem? hf')))
            simp [hn] at hp; subst hp
            simp [hf', hn]
          · cases hp
        obtain ⟨a', ha', hra'⟩ := ym (a := z) hp hf (wG (wF c W) _) hm hv
        refine ⟨.agg a', ?_, a'.toList, rfl, hra'⟩
        have hmm := Sd (P := P) (W := W) fields.toList hall'
        have hmm' : (fields.mapM (fun (f : Field) => (do pure (f.offset, ← sizeOf f.type) : Sem (Nat × Nat)))).run P W = .ok (fields.map fun f => (f.offset, (szT P f.type).getD 0)) W := by
          rw [Array.mapM_eq_mapM_toList, Sem.run_map, hmm]
          simp only [Result.andThen_ok, ← Array.toList_map, Array.toArray_toList]
        simp only [Instr.build, Sem.run_bind, hzr, Result.andThen_ok, run_underlying hu, hmm', hzc, ha', Sem.run_pure]
    · cases h
  · rename_i z n e hz hu
    obtain ⟨zv, hzr, hzc, _⟩ := yk hz W
    split at h
    · rename_i m hm'
      cases hf : vfill (fun i => some (i * m, m)) (z.toList.map ofVal1) parts with
      | none => simp [hf] at h
      | some cs =>
        simp [hf] at h; subst h
        obtain ⟨a', ha', hra'⟩ := ym (a := z) (fun i p hp => hp) hf (wG (wF c W) _) hm hv
        refine ⟨.agg a', ?_, a'.toList, rfl, hra'⟩
        simp only [Instr.build, Sem.run_bind, hzr, Result.andThen_ok, run_underlying hu, kh hm', hzc, ha', Sem.run_pure]
    · cases h
  · cases h
theorem yn {e : Sem Next} (s : Sim c W) (hγ : ¬ c.used γ) {arr : Array Value} 
    (h : e.run P W = .ok (.value v) (W.alloc (.cells arr t))) (hle : cs.length ≤ arr.size) (hr : Rl c W cs (arr.toList.take cs.length))
    (hx : Rep (c.push c.H γ (.cells (some t) cs) W.heap.size arr.size) (W.alloc (.cells arr t)) x v) : Stp P e c W γ x (.new (.cells (some t) cs)) := by
  obtain ⟨h1, h2⟩ := E2 (e := t) (el := some t) s hγ (fun _ h => by cases h; rfl) hle hr
  exact ⟨_, v, _, _, h, .inl rfl, hx, h1, h2, rfl, fun β hb => hb.symm⟩
variable {H0 : Nat → Option Vo} {b : Nat}
theorem Se {o : Vo} {rm : Nat} : Rep (c.push H0 γ o b rm) W (.ptr γ 0) (.pointer (some ⟨b, 0, none⟩)) :=
  ⟨⟨.inl rfl, rfl⟩, fun _ => by simp [Ctx.push]⟩
theorem EA (s : Sim c W) (hγ : ¬ c.used γ) {z : Array Value} (h : vzero P t = some z) :
    Stp P (aZ (Instr.alloc t true (.tuple #[]))) c W γ (.ptr γ 0) (.new (.cells (some t) (z.toList.map ofVal1))) := by
  obtain ⟨zv, hzr, hzc, _⟩ := yk h W
  refine yn (arr := z) (t := t) s hγ ?_ (by simp) (by rw [List.take_of_length_le (by simp)]; exact wG (wF c W) z.toList) Se
  simp [aZ, Instr.alloc, hzr, newVar, newRow, hzc]
theorem EB (s : Sim c W) (hγ : ¬ c.used γ) (h : aW x = some cs) (hr : Rep c W x v) :
    Stp P (aZ (Instr.box t v)) c W γ (.ptr γ 0) (.new (.cells (some t) cs)) := by
  obtain ⟨h1, _⟩ := E4 h hr
  have hl := h1.length
  simp only [Array.length_toList] at hl
  refine yn (arr := v.cells) (t := t) s hγ ?_ (by omega) (by rw [List.take_of_length_le (by simp; omega)]; exact h1) Se
  simp [aZ, Instr.box, newVar, newRow]
def vzeros (z : Array Value) (n : Nat) : List VV := (List.range n).map fun i => ofVal1 (z[i % z.size]!)
theorem EC (z : Array Value) (n : Nat) : Rl c W (vzeros z n) ((Array.range n).map (fun i => z[i % z.size]!)).toList := by
  unfold vzeros
  simp only [Array.toList_map, Array.toList_range]
  generalize List.range n = l
  induction l with
  | nil => rfl
  | cons a l ih => exact ⟨_, _, rfl, wF _ _ _, ih⟩
variable {len cap : Nat}
theorem rv {o : Vo} {rm es cp : Nat} (h1 : len ≤ cap) (h2 : cap * es ≤ rm) (h3 : cp ≤ cap) :
    Rep (c.push H0 γ o b rm) W (.ref γ 0 len es cp) (.slice (some ⟨b, 0, none⟩) len cap) :=
  ⟨⟨.inl rfl, rfl⟩, fun _ => ⟨cap, by simp [Ctx.push], h1, by simpa [Ctx.push] using h2, h3⟩⟩
def elemT (P : Program) (t : TypeId) : Option TypeId := match P.underlying t with
  | some (.slice e) => some e
  | _ => none
def sameEl (el : Option TypeId) (e : TypeId) : Option TypeId := match el with
  | some t => if t = e then some e else none
  | none => none
variable {e : TypeId} {el : Option TypeId}
theorem Sf (h : sameEl el e = some t) : t = e ∧ el = some e := by
  unfold sameEl at h
  split at h
  · split at h
    · rename_i h1; cases h; subst h1; exact ⟨rfl, rfl⟩
    · cases h
  · cases h
def aq (P : Program) (t : TypeId) (len : Nat) (parts : List (Nat × VV)) : Option (List VV × Nat) :=
  match P.underlying t with
  | some (.slice e) =>
    match szT P e, vzero P e with
    | some n, some z => if len * n ≤ 16777216 ∧ z.size = n then (vfill (fun i => some (i * n, n)) (vzeros z (len * n)) parts).map fun cs => (cs, n) else none
    | _, _ => none
  | _ => none
variable {n : Nat}
theorem VJ (s : Sim c W) (hγ : ¬ c.used γ) 
    (h : aq P t len parts = some (cs, n)) (hm : vals.toList.map (·.1) = parts.map (·.1)) (hv : Rl c W (parts.map (·.2)) (vals.toList.map (·.2))) :
    Stp P (aZ (Instr.buildSlice t len vals)) c W γ (.ref γ 0 len n len) (.new (.cells (elemT P t) cs)) := by
  unfold aq at h
  split at h
  · rename_i e hu
    have hel : elemT P t = some e := by simp [elemT, hu]
    rw [hel]
    split at h
    · rename_i m z hn hz
      split at h
      · rename_i hc
        obtain ⟨hc, hzs⟩ := hc
        cases hf : vfill (fun i => some (i * m, m)) (vzeros z (len * m)) parts with
        | none => simp [hf] at h
        | some cs' =>
          simp [hf] at h
          obtain ⟨rfl, rfl⟩ := h
          obtain ⟨zv, hzr, hzc, _⟩ := yk hz W
          by_cases h0 : len * m = 0
          · have e0 : ∀ f : Nat → Value, (Array.range (len * m)).map f = #[] := by intro f; rw [h0]; simp
            obtain ⟨a', ha', hra'⟩ := ym (a := #[]) (fun i p hp => hp) hf (by rw [h0]; simp [vzeros, Rl]) hm hv
            have hl := hra'.length
            simp only [Array.length_toList] at hl
            have hsz : cs'.length = len * m := by rw [E8 hf]; simp [vzeros]
            refine yn (arr := a') (t := e) s hγ ?_ (by omega) (by rw [List.take_of_length_le (by simp; omega)]; exact hra') (rv (qZh _) (by omega) (qZh _))
            have hgt : ¬ (len * m > 2 ^ 24) := by omega
            simp only [aZ, Instr.buildSlice, Sem.run_bind, run_underlying hu, Result.andThen_ok, kh hn, hgt, if_false, if_pos h0, e0, ha', newRow, run_newObj, Sem.run_pure, pure_bind]
            rfl
          · obtain ⟨a', ha', hra'⟩ := ym (a := (Array.range (len * m)).map (fun i => z[i % z.size]!)) (fun i p hp => hp) hf (EC z _) hm hv
            have hl := hra'.length
            simp only [Array.length_toList] at hl
            have hsz : cs'.length = len * m := by rw [E8 hf]; simp [vzeros]
            refine yn (arr := a') (t := e) s hγ ?_ (by omega) (by rw [List.take_of_length_le (by simp; omega)]; exact hra') (rv (qZh _) (by omega) (qZh _))
            have hgt : ¬ (len * m > 2 ^ 24) := by omega
            simp only [aZ, Instr.buildSlice, Sem.run_bind, run_underlying hu, Result.andThen_ok, kh hn, hgt, if_false, h0, hzr, hzc, ha', Sem.run_pure, newRow, run_newObj]
            rfl
      · cases h
    · cases h
  · cases h
variable {y : VV}
theorem ED (s : Sim c W) (ht : tgt c.H x = some cs) (h : aN P t cs = some y) (hr : Rep c W x v) :
  Stp P (aZ (Instr.loadAt t v)) c W γ y .none := by
 obtain ⟨b, o, rfl, hc⟩ := yi s ht hr
 obtain ⟨u, hu, hru⟩ := Sb h hc
 exact Stp.same s (cP (by simpa [Instr.loadAt, Instr.sureAddr] using hu)) hru
variable {w : Value}
theorem EE (s : Sim c W) {β off : Nat} (hβ : c.H β = some (.cells el cs)) (hx : aW x = some xs)
  (hn : szT P t = some n) (hl : xs.length = n) (hle : off + n ≤ cs.length) (hr : Rep c W (.ptr β off) w) (hv : Rep c W x v) :
  Stp P (do Instr.storeAt t w v; pure .skip) c W γ .any (.upd β (.cells el (overwrite cs off xs))) := by
 obtain ⟨h1, h2⟩ := E4 hx hv
 have aw : c.live β := by simp [Ctx.live, hβ]
 have hw : w = .pointer (some ⟨c.φ β, off, none⟩) := hr.2 aw
 subst hw
 obtain ⟨W', hst, he, hs⟩ := E6 (P := P) (off := off) s hβ h1 h2 (by omega)
 have ba := h1.length
 simp only [Array.length_toList] at ba
 refine ⟨.skip, undef, W', _, ?_, .inr ⟨rfl, rfl⟩, trivial, he, hs, rfl, fun _ h => .inl h⟩
 simp only [Instr.storeAt, Instr.sureAddr, storeVar, Sem.run_bind, kh hn, Result.andThen_ok, pure_bind]
 rw [if_neg (by omega)]
 simp [hst]
def ag (P : Program) (H : Nat → Option Vo) (s : TypeId) (x : VV) (f : Nat) : Option VV :=
 match P.underlying s with
 | some (.struct fields) =>
  match fields[f]? with
  | some fd =>
   match szT P fd.type with
   | some n => if n = 0 then none else
    match x with
    | .tp cs => some (.tp (cs.drop fd.offset))
    | .ptr β off => if (H β).isSome then some (.ptr β (off + fd.offset)) else none
    | _ => none
   | none => none
  | none => none
 | _ => none
theorem VK (s : Sim c W) {f : Nat} (h : ag P c.H t x f = some y) (hr : Rep c W x v) :
  Stp P (aZ (Instr.fieldAt t v f)) c W γ y .none := by
 unfold ag at h
 split at h
 ·rename_i fields hu
  split at h
  ·rename_i fd hf
   split at h
   ·rename_i n hn
    split at h
    ·cases h
    ·rename_i h0
     have go : ∀ b o, v = .pointer (some ⟨b, o, none⟩) → (Instr.fieldAt t v f).run P W = .ok (.pointer (some ⟨b, o + fd.offset, none⟩)) W := by
      intro b o e
      subst e
      simp [Instr.fieldAt, run_underlying hu, hf, Instr.sureAddr, fieldPlace, kh hn, h0, mf]
     split at h
     ·rename_i cs
      cases h
      obtain ⟨b, o, e, hA, hc⟩ := hr
      exact Stp.same s (cP (go b o e)) ⟨b, _, rfl, hA, Rc.drop fd.offset hc⟩
     ·rename_i β off
      split at h
      ·rename_i hl
       cases h
       exact Stp.same s (cP (go _ _ (hr.2 hl))) ⟨⟨hr.1.1, rfl⟩, fun _ => rfl⟩
      ·cases h
     ·cases h
   ·cases h
  ·cases h
 ·cases h
def vfield (P : Program) (t : TypeId) (x : VV) (f : Nat) : Option VV :=
 match P.underlying t, x with
 | some (.struct fields), .agg cs => match fields[f]? with | some fd => vpart P fd.type cs fd.offset | none => none
 | _, _ => none
theorem EF (s : Sim c W) {f : Nat} (h : vfield P t x f = some y) (hr : Rep c W x v) :
  Stp P (aZ (Instr.field t v f)) c W γ y .none := by
 unfold vfield at h
 split at h
 ·rename_i fields cs hu
  split at h
  ·rename_i fd hf
   obtain ⟨l, rfl, hl⟩ := hr
   obtain ⟨u, hu', hru⟩ := Sa h hl
   exact Stp.same s (cP (by simp [Instr.field, run_underlying hu, hf, asAgg, hu'])) hru
  ·cases h
 ·cases h
def aH (P : Program) (H : Nat → Option Vo) (t : TypeId) (x : VV) (i : VV) : Option VV :=
 match i with
 | .lit (.int _ i) =>
  match P.underlying t with
  | some (.slice e) =>
   match szT P e, x with
   | some n, .sl cs len _ => if 0 ≤ i ∧ i < len ∧ cs ≠ [] then some (.tp (cs.drop (i.toNat * n))) else none
   | some n, .ref β off len _ _ => if 0 ≤ i ∧ i < len ∧ (H β).isSome = true then some (.ptr β (off + i.toNat * n)) else none
   | _, _ => none
  | some (.array len e) =>
   match szT P e, x with
   | some n, .tp cs => if 0 ≤ i ∧ i < len then some (.tp (cs.drop (i.toNat * n))) else none
   | some n, .ptr β off => if 0 ≤ i ∧ i < len ∧ (H β).isSome = true then some (.ptr β (off + i.toNat * n)) else none
   | _, _ => none
  | _ => none
 | _ => none
theorem VL (s : Sim c W) {i : VV} (h : aH P c.H t x i = some y) (hr : Rep c W x v) (hi : Rep c W i w) :
  Stp P (aZ (Instr.indexAt t v w)) c W γ y .none := by
 unfold aH at h
 split at h
 ·rename_i k i
  have hw : w = .int k i := hi
  subst hw
  split at h
  ·rename_i e hu
   split at h
   ·rename_i n cs len full hn
    split at h
    ·rename_i hc
     cases h
     obtain ⟨aa, cap, rfl, h1, h2, h3⟩ := hr
     rcases h3 with h3 | ⟨b, o, rfl, hA, hcs⟩
     ·exact absurd h3 hc.2.2
     ·refine Stp.same s (cP (v := .pointer (some ⟨b, o + i.toNat * n, none⟩)) ?_) ⟨b, _, rfl, hA, Rc.drop _ hcs⟩
      simp [Instr.indexAt, asIntOf, run_underlying hu, hc.1, hc.2.1, kh hn, mf]
    ·cases h
   ·rename_i n β off len es cp hn
    split at h
    ·rename_i hc
     cases h
     obtain ⟨cap, rfl, h1, h2, _⟩ := hr.2 hc.2.2
     refine Stp.same s (cP (v := .pointer (some ⟨c.φ β, off + i.toNat * n, none⟩)) ?_) ⟨⟨hr.1.1, rfl⟩, fun _ => rfl⟩
     simp [Instr.indexAt, asIntOf, run_underlying hu, hc.1, hc.2.1, kh hn, mf]
    ·cases h
   ·cases h
  ·rename_i len e hu
   split at h
   ·rename_i n cs hn
    split at h
    ·rename_i hc
     cases h
     obtain ⟨b, o, rfl, hA, hcs⟩ := hr
     refine Stp.same s (cP (v := .pointer (some ⟨b, o + i.toNat * n, none⟩)) ?_) ⟨b, _, rfl, hA, Rc.drop _ hcs⟩
     simp [Instr.indexAt, asIntOf, run_underlying hu, hc.1, hc.2, kh hn, mf, Instr.sureAddr]
    ·cases h
   ·rename_i n β off hn
    split at h
    ·rename_i hc
     cases h
     have := hr.2 hc.2.2
     subst this
     refine Stp.same s (cP (v := .pointer (some ⟨c.φ β, off + i.toNat * n, none⟩)) ?_) ⟨⟨hr.1.1, rfl⟩, fun _ => rfl⟩
     simp [Instr.indexAt, asIntOf, run_underlying hu, hc.1, hc.2.1, kh hn, mf, Instr.sureAddr]
    ·cases h
   ·cases h
  ·cases h
 ·cases h
def vindex (P : Program) (t : TypeId) (x i : VV) : Option VV :=
 match i, P.underlying t, x with
 | .lit (.int _ i), some (.array len e), .agg cs =>
  match szT P e with
  | some n => if 0 ≤ i ∧ i < len then vpart P e cs (i.toNat * n) else none
  | none => none
 | .lit (.int _ i), some .string, .lit (.string s) =>
  if 0 ≤ i then match s[i.toNat]? with | some b => some (.lit (.int .u8 b.toNat)) | none => none else none
 | _, _, _ => none
theorem EG (s : Sim c W) {i : VV} (h : vindex P t x i = some y) (hr : Rep c W x v) (hi : Rep c W i w) :
  Stp P (aZ (Instr.index t v w)) c W γ y .none := by
 unfold vindex at h
 split at h
 ·rename_i k i len e cs hu
  have hw : w = .int k i := hi
  subst hw
  split at h
  ·rename_i n hn
   split at h
   ·rename_i hc
    obtain ⟨l, rfl, hl⟩ := hr
    obtain ⟨u, hu', hru⟩ := Sa h hl
    exact Stp.same s (cP (by simp [Instr.index, asIntOf, run_underlying hu, hc.1, hc.2, kh hn, hu'])) hru
   ·cases h
  ·cases h
 ·rename_i k i st hu
  have hw : w = .int k i := hi
  subst hw
  have hv : v = .string st := hr
  subst hv
  split at h
  ·rename_i h0
   split at h
   ·rename_i b hb
    cases h
    exact Stp.same s (cP (by simp [Instr.index, asIntOf, run_underlying hu, h0, hb])) rfl
   ·cases h
  ·cases h
 ·cases h
def vbound (d : Nat) : Option VV → Option Nat
 | none => some d
 | some (.lit (.int _ i)) => if 0 ≤ i then some i.toNat else none
 | _ => none
def vslice (P : Program) (H : Nat → Option Vo) (t : TypeId) (x : VV) (lo hi mx : Option VV) : Option VV :=
 match P.underlying t with
 | some (.slice e) =>
  match szT P e, sls H x with
  | some n, some (cs, len) =>
   match vbound 0 lo, vbound len hi, vbound len mx with
   | some l, some h, some m =>
    if l ≤ h ∧ h ≤ m ∧ m ≤ len ∧ (mx.isSome = true → hi.isSome = true) then
     match x with
     | .sl cs _ full => some (.sl ((cs.drop (l * n)).take ((h - l) * n)) (h - l) ((mx.isSome && m == h) || (!mx.isSome && full && h == len)))
     | .ref β off _ es cp => if h = l ∧ ¬ (mx.isSome = false ∧ l < cp ∧ n = es) then some (.sl [] 0 (mx.isSome && m == h)) else if n = es then some (.ref β (off + l * n) (h - l) n ((if mx.isSome then m else cp) - l)) else none
     | .lit _ => some (.lit (.slice none 0 0))
     | _ => none
    else none
   | _, _, _ => none
  | _, _ => none
 | _ => none
def RepO (c : Ctx) (W : World) : Option VV → Option Value → Prop
 | none, none => True
 | some x, some v => Rep c W x v
 | _, _ => False
variable {l : Nat}
theorem kS {d y : Nat} {code : BoundsCode} (h : vbound d (some x) = some l) (hr : Rep c W x v) (hle : l ≤ y) :
  (Instr.sliceBound v y code).run P W = .ok l W := by
 unfold vbound at h
 split at h
 ·rename_i heq; cases heq
 ·rename_i k i heq
  cases heq
  have : v = .int k i := hr
  subst this
  split at h
  ·rename_i h0
   cases h
   have : i ≤ (y : Int) := by omega
   simp [Instr.sliceBound, asIntOf, h0, this]
  ·cases h
 ·cases h
theorem qB {d : Nat} (h : vbound d none = some l) : l = d := by simp [vbound] at h; exact h.symm
variable {lo hi : Option VV} {vlo vhi vmx : Option Value}
theorem VM {mx : Option VV} {h m : Nat} (hlo : vbound 0 lo = some l) (hhi : vbound len hi = some h) (hmx : vbound len mx = some m)
  (rlo : RepO c W lo vlo) (rhi : RepO c W hi vhi) (rmx : RepO c W mx vmx) (h1 : l ≤ h) (h2 : h ≤ m) (h3 : m ≤ len) (h4 : mx.isSome = true → hi.isSome = true) (hcap : len ≤ cap) :
  (Instr.sliceBounds true len cap vlo vhi vmx).run P W = .ok (l, h, if mx.isSome then m else cap) W := by
 unfold Instr.sliceBounds
 cases mx with
 | none =>
  cases vmx with
  | some _ => exact rmx.elim
  | none =>
   cases hi with
   | none =>
    cases vhi with
    | some _ => exact rhi.elim
    | none =>
     have e := qB hhi
     subst e
     cases lo with
     | none =>
      cases vlo with
      | some _ => exact rlo.elim
      | none => have e := qB hlo; subst e; simp
     | some x =>
      cases vlo with
      | none => exact rlo.elim
      | some v => simp [kS hlo rlo h1]
   | some y =>
    cases vhi with
    | none => exact rhi.elim
    | some u =>
     cases lo with
     | none =>
      cases vlo with
      | some _ => exact rlo.elim
      | none => have e := qB hlo; subst e; simp [kS hhi rhi (show h ≤ cap by omega)]
     | some x =>
      cases vlo with
      | none => exact rlo.elim
      | some v => simp [kS hhi rhi (show h ≤ cap by omega), kS hlo rlo h1]
 | some z =>
  cases vmx with
  | none => exact rmx.elim
  | some q =>
   cases hi with
   | none => exact absurd (h4 rfl) (by simp)
   | some y =>
    cases vhi with
    | none => exact rhi.elim
    | some u =>
     cases lo with
     | none =>
      cases vlo with
      | some _ => exact rlo.elim
      | none => have e := qB hlo; subst e; simp [kS hmx rmx (show m ≤ cap by omega), kS hhi rhi h2]
     | some x =>
      cases vlo with
      | none => exact rlo.elim
      | some v => simp [kS hmx rmx (show m ≤ cap by omega), kS hhi rhi h2, kS hlo rlo h1]
theorem EH (s : Sim c W) {mx : Option VV} (h : vslice P c.H t x lo hi mx = some y) (hr : Rep c W x v)
  (rlo : RepO c W lo vlo) (rhi : RepO c W hi vhi) (rmx : RepO c W mx vmx) : Stp P (aZ (Instr.sliceAt t v vlo vhi vmx)) c W γ y .none := by
 unfold vslice at h
 split at h
 ·rename_i e hu
  split at h
  ·rename_i n cs len hn hsl
   split at h
   ·rename_i l hh m hlo hhi hmx
    split at h
    ·rename_i hc
     obtain ⟨c1, c2, c3, c4⟩ := hc
     have body : ∀ aa cap, v = .slice aa len cap → len ≤ cap →
       (Instr.sliceAt t v vlo vhi vmx).run P W = .ok (.slice (if (if mx.isSome then m else cap) = l then aa else aa.map (·.add (l * n))) (hh - l) ((if mx.isSome then m else cap) - l)) W := by
      intro aa cap e1 hcap
      subst e1
      have hb := VM (P := P) (cap := cap) hlo hhi hmx rlo rhi rmx c1 c2 c3 c4 hcap
      simp only [Instr.sliceAt, Sem.run_bind, run_underlying hu, Result.andThen_ok, Instr.slice, hb, kh hn, Sem.run_pure]
     split at h
     ·rename_i l0 yo full
      cases h
      simp [sls] at hsl
      obtain ⟨rfl, rfl⟩ := hsl
      obtain ⟨aa, cap, e1, h1, h2, h3⟩ := hr
      refine Stp.same s (cP (body aa cap e1 h1)) ⟨_, _, rfl, ?_, ?_, ?_⟩
      ·cases mx <;> simp <;> omega
      ·intro hfull
       cases mx with
       | none =>
        simp at hfull
        have := h2 hfull.1
        simp; omega
       | some q => simp at hfull; simp; omega
      ·by_cases hz : ((l0.drop (l * n)).take ((hh - l) * n)) = []
       ·exact .inl hz
       ·right
        rcases h3 with h3 | ⟨b, o, rfl, hA, hcs⟩
        ·subst h3; simp at hz
        ·have hlt : l < hh := by
          rcases Nat.lt_or_ge l hh with g | g
          ·exact g
          ·rw [show hh - l = 0 by omega] at hz; simp at hz
         have hne : ¬ ((if mx.isSome then m else cap) = l) := by
          cases mx <;> simp <;> omega
         exact ⟨b, o + l * n, by rw [if_neg hne]; simp [mf], hA, Rc.take _ (Rc.drop _ hcs)⟩
     ·rename_i β off yo es cp
      simp only [sls] at hsl
      split at hsl
      ·rename_i nC hβ
       split at hsl
       ·cases hsl
        have aw : c.live β := by simp [Ctx.live, hβ]
        obtain ⟨cap, e1, h1, h2, h3⟩ := hr.2 aw
        split at h
        ·rename_i VN
         have hz := VN.1
         cases h
         refine Stp.same s (cP (body _ cap e1 h1)) ⟨_, _, by rw [hz]; simp; exact ⟨rfl, rfl⟩, by simp, ?_, .inl rfl⟩
         intro hfull
         cases mx with
         | none => simp at hfull
         | some q => simp at hfull; simp; omega
        ·rename_i hz
         split at h
         ·rename_i hes
          subst hes
          cases h
          refine Stp.same s (cP (body _ cap e1 h1)) ⟨⟨hr.1.1, rfl⟩, fun _ => ⟨_, by
           have hne : ¬ ((if mx.isSome then m else cap) = l) := by
            by_cases hhl : hh = l
            ·have VO : mx.isSome = false ∧ l < cp := by
              by_cases hq : mx.isSome = false ∧ l < cp ∧ n = n
              ·exact ⟨hq.1, hq.2.1⟩
              ·exact absurd ⟨hhl, hq⟩ hz
             rw [VO.1]
             simp
             omega
            ·cases mx <;> simp <;> omega
           rw [if_neg hne]; simp [mf]; rfl, ?_, ?_, by cases mx <;> simp <;> omega⟩⟩
          ·cases mx <;> simp <;> omega
          ·have key : ∀ k, k ≤ cap → l ≤ k → off + l * n + (k - l) * n ≤ c.room β := by
            intro k hk hlk
            have e3 : l * n + (k - l) * n = k * n := by rw [← Nat.add_mul]; congr 1; omega
            have e4 : k * n ≤ cap * n := Nat.mul_le_mul_right _ hk
            omega
           cases mx with
           | none => simpa using key cap (qZh _) (by omega)
           | some q => simpa using key m (by omega) (by omega)
         ·cases h
       ·cases hsl
      ·cases hsl
     ·rename_i u
      obtain ⟨aa, cap, e1, h1, _⟩ := Da s hsl hr
      have e2 : v = u := hr
      unfold sls at hsl
      split at hsl
      ·rename_i e; cases e
      ·rename_i e; cases e
      ·rename_i e
       cases e
       cases hsl
       cases h
       rw [e2] at e1
       cases e1
       have hl : l = 0 := by omega
       have hm : m = 0 := by omega
       have VP : hh = 0 := by omega
       refine Stp.same s (cP (body none 0 e2 (qZh _))) ?_
       subst hl hm VP
       simp only [Nat.zero_le, Nat.sub_zero, ite_self]
       rfl
      ·cases hsl
     ·cases h
    ·cases h
   ·cases h
  ·cases h
 ·cases h
def vlen (P : Program) (H : Nat → Option Vo) (t : TypeId) (x : VV) : Option VV :=
 match P.underlying t with
 | some .string => match x with | .lit (.string s) => some (.lit (.int .i64 s.size)) | _ => none
 | some (.slice _) => match sls H x with | some (_, len) => some (.lit (.int .i64 len)) | none => none
 | some (.array n _) => some (.lit (.int .i64 n))
 | some (.map _ _) => match x with
  | .lit (.map none) => some (.lit (.int .i64 0))
  | .mp β => match H β with | some (.map es) => some (.lit (.int .i64 es.length)) | _ => none
  | .mt ks _ => some (.lit (.int .i64 ks.length))
  | _ => none
 | _ => none
variable {ty : TypeId}
theorem EI (s : Sim c W) (h : vlen P c.H t x = some y) (hr : Rep c W x v) :
  Stp P (aZ (Builtin.len_ #[t] ty #[v])) c W γ y .none := by
 unfold vlen at h
 split at h
 ·rename_i hu
  split at h
  ·rename_i st
   cases h
   have : v = .string st := hr
   subst this
   exact Stp.same s (cP (by simp [Builtin.len_, run_underlying hu, goInt])) rfl
  ·cases h
 ·rename_i e hu
  split at h
  ·rename_i cs len hs
   cases h
   obtain ⟨aa, cap, rfl, _⟩ := Da s hs hr
   exact Stp.same s (cP (v := .int .i64 len) (by simp [Builtin.len_, run_underlying hu, goInt])) rfl
  ·cases h
 ·rename_i n e hu
  cases h
  exact Stp.same s (cP (by simp [Builtin.len_, run_underlying hu, goInt])) rfl
 ·rename_i k e hu
  split at h
  ·cases h
   have : v = .map none := hr
   subst this
   exact Stp.same s (cP (by simp [Builtin.len_, run_underlying hu, goInt])) rfl
  ·rename_i β
   split at h
   ·rename_i es hβ
    cases h
    have : v = .map (some (c.φ β)) := hr.2 (by simp [Ctx.live, hβ])
    subst this
    obtain ⟨ents, clk, h1, h2, _⟩ := s.obj β _ hβ
    have hl : ents.size = es.length := by
     have := congrArg List.length h2
     simpa using this
    refine Stp.same s (cP (v := .int .i64 es.length) ?_) rfl
    have hg : (getObj (c.φ β)).run P W = .ok (.map ents clk) W := by simp [getObj, Sem.run, h1]
    simp [Builtin.len_, run_underlying hu, hg, goInt, hl]
   ·cases h
  ·rename_i ks vs
   cases h
   obtain ⟨b, e, _, ents, clk, h1, h2, _⟩ := hr
   subst e
   have hl : ents.size = ks.length := by
    have := congrArg List.length h2
    simpa using this
   refine Stp.same s (cP (v := .int .i64 ks.length) ?_) rfl
   have hg : (getObj b).run P W = .ok (.map ents clk) W := by simp [getObj, Sem.run, h1]
   simp [Builtin.len_, run_underlying hu, hg, goInt, hl]
  ·cases h
 ·cases h
def srcT (d : TypeDesc) : Prop := (∃ e, d = .slice e) ∨ d = .string
def srcV (H : Nat → Option Vo) (d2 : TypeDesc) (x : VV) (size : Nat) : Option (List VV × Nat) :=
 match d2 with
 | .slice _ => sls H x
 | .string => match x with
  | .lit (.string s) => if size = 1 then some (s.data.toList.map fun b => .lit (.int .u8 b.toNat), s.size) else none
  | _ => none
 | _ => none
def vappend1 (P : Program) (H : Nat → Option Vo) (γ : Nat) (t t2 : TypeId) (s x : VV) : Option (VV × Ve) :=
 match P.underlying t, P.underlying t2 with
 | some (.slice e), some d2 =>
  match P.info? e with
  | none => none
  | some inf =>
  match srcV H d2 x inf.size with
  | some (xs, n) =>
   match inf.zero with
   | some z =>
    if 0 < inf.size ∧ 0 < inf.bytes ∧ z.cells.size = inf.size ∧ n * inf.size ≤ xs.length ∧ (xs.take (n * inf.size)).all VV.leaf = true then
     match s with
     | .sl cs len full =>
      if n = 0 then some (s, .none)
      else if full = true ∧ cs.length = len * inf.size ∧ (len + n) * inf.bytes ≤ 140737488355328 then
       some (.ref γ 0 (len + n) inf.size (len + n), .new (.cells (some e) (cs ++ xs.take (n * inf.size))))
      else none
     | .ref β off len es cp =>
      match H β with
      | some (.cells el cs) =>
       if es = inf.size ∧ len + n ≤ cp ∧ off + (len + n) * inf.size ≤ cs.length then
        some (.ref β off (len + n) inf.size cp, .upd β (.cells el (overwrite cs (off + len * inf.size) (xs.take (n * inf.size)))))
       else if off = 0 ∧ es = inf.size ∧ cs.length = len * inf.size ∧ (len + n) * inf.bytes ≤ 140737488355328 then
        some (.ref γ 0 (len + n) inf.size (len + n), .mv β (sameEl el e) (cs ++ xs.take (n * inf.size)))
       else none
      | _ => none
     | _ => none
    else none
   | none => none
  | none => none
 | _, _ => none
def vappend (P : Program) (H : Nat → Option Vo) (γ : Nat) (t t2 : TypeId) (s x : VV) : Option (VV × Ve) := vappend1 P H γ t t2 (nilS s) x
variable {size : Nat}
theorem EJ (s : Sim c W) (h : sls c.H x = some (cs, len)) (hr : Rep c W x v) (hle : len * size ≤ cs.length) :
  ∃ aa cap l, v = .slice aa len cap ∧ len ≤ cap ∧ l.length = len * size ∧ Rl c W (cs.take (len * size)) l ∧
   (∀ W', W'.heap = W.heap → (Builtin.firstCells size len v).run P W' = .ok ⟨l⟩ W') ∧ (∀ W', (Builtin.lenOf v).run P W' = .ok len W') := by
 obtain ⟨aa, cap, e, hcap, h3⟩ := Da s h hr
 subst e
 rcases h3 with h3 | ⟨b, o, rfl, hcs⟩
 ·subst h3
  have h0 : len * size = 0 := by simpa using hle
  refine ⟨aa, cap, [], rfl, hcap, by simp [h0], by simp [Rl], fun W' _ => ?_, fun W' => by simp [Builtin.lenOf]⟩
  cases aa with
  | none => simp [Builtin.firstCells]
  | some a => simp [Builtin.firstCells, h0, loadCells, loadCellsFrom]
 ·obtain ⟨l, hl, hc⟩ := Rc.list (Rc.take (len * size) hcs)
  have ba : l.length = len * size := by rw [hl.length]; simp; omega
  refine ⟨_, cap, l, rfl, hcap, ba, hl, fun W' hW => ?_, fun W' => by simp [Builtin.lenOf]⟩
  have hcell : ∀ a, W'.cell? a = W.cell? a := fun a => by unfold World.cell?; rw [hW]
  have := run_loadCells_list (P := P) W' ⟨b, o, none⟩ l (fun j u hu => by rw [hcell, mf]; exact hc j u hu)
  rw [ba] at this
  simpa [Builtin.firstCells] using this
theorem Sg {c : Ctx} {W : World} : ∀ l : List UInt8, Rl c W (l.map fun b => .lit (.int .u8 b.toNat)) (l.map fun b => Value.int .u8 b.toNat)
 | [] => rfl
 | _ :: l => ⟨_, _, rfl, rfl, Sg l⟩
variable {d2 : TypeDesc}
theorem EK (s : Sim c W) (h : srcV c.H d2 x size = some (cs, len)) (hr : Rep c W x v) (hle : len * size ≤ cs.length) :
  srcT d2 ∧ ∃ l : List Value, l.length = len * size ∧ Rl c W (cs.take (len * size)) l ∧
   (∀ W', W'.heap = W.heap → (Builtin.firstCells size len v).run P W' = .ok ⟨l⟩ W') ∧ (∀ W', (Builtin.lenOf v).run P W' = .ok len W') := by
 cases d2 with
 | slice e2 =>
  obtain ⟨_, _, l, _, _, h1, h2, h3, h4⟩ := EJ (P := P) s (show sls c.H x = some (cs, len) from h) hr hle
  exact ⟨.inl ⟨e2, rfl⟩, l, h1, h2, h3, h4⟩
 | string =>
  simp only [srcV] at h
  split at h
  ·rename_i st
   split at h
   ·rename_i hs
    cases h
    subst hs
    have e : v = .string st := hr
    subst e
    have hsz : st.data.toList.length = st.size := Array.length_toList
    refine ⟨.inr rfl, st.data.toList.map fun b => Value.int .u8 b.toNat, by rw [List.length_map, hsz, Nat.mul_one], ?_, fun W' _ => ?_, fun W' => by simp [Builtin.lenOf]⟩
    ·rw [List.take_of_length_le (by rw [List.length_map, hsz, Nat.mul_one]; exact qZh _)]
     exact Sg _
    ·simp only [Builtin.firstCells, Sem.run_pure]
     congr 1
     apply Array.ext'
     have : st.extract 0 st.size = st := by simp
     rw [this]
     simp
   ·cases h
  ·cases h
 | _ => simp [srcV] at h
theorem Dc {c : Ctx} {W : World} : ∀ {cs : List VV} {l : List Value}, cs.all VV.leaf = true → Rl c W cs l → ∀ u ∈ l, u.oneCell' = true
 | [], l, _, h, u, hu => by have : l = [] := h; subst this; cases hu
 | y :: ys, _, ha, ⟨w, ws, e, h1, h2⟩, u, hu => by
  subst e
  simp only [List.all_cons, Bool.and_eq_true] at ha
  rcases List.mem_cons.1 hu with rfl | hu
  ·exact E3 ha.1 h1
  ·exact Dc ha.2 h2 u hu
theorem But.drew_alloc (W : World) (o : Obj) : But W (W.drew.alloc o) W.heap.size :=
 (But.drew W _).trans (But.alloc W.drew o)
variable {t2 : TypeId} {i : TypeInfo} {z : Value} {sLen sCap : Nat} {news : List Value}
theorem Si {aa : Option Addr} {olds : List Value}
  (ht : P.underlying t = some (.slice e)) (EL : P.underlying t2 = some d2) (mT : srcT d2) (hi : P.info? e = some i) (hz : i.zero = some z)
  (ho : ∀ W', W'.heap = W.heap → (Builtin.firstCells i.size sLen (.slice aa sLen sCap)).run P W' = .ok ⟨olds⟩ W')
  (hn : ∀ W', W'.heap = W.heap → (Builtin.firstCells i.size n v).run P W' = .ok ⟨news⟩ W') (ba : ∀ W', (Builtin.lenOf v).run P W' = .ok n W')
  (hg : sCap < sLen + n) (hb : (sLen + n) * i.bytes ≤ 140737488355328) (wI : 0 < i.bytes) :
  (Builtin.append_ #[t, t2] ty #[.slice aa sLen sCap, v]).run P W =
   .ok (.slice (some ⟨W.heap.size, 0, none⟩) (sLen + n) (grownCap W (sLen + n) sCap e))
    (W.drew.alloc (.cells (⟨olds ++ news⟩ ++ Builtin.zeroCells z.cells (grownCap W (sLen + n) sCap e - (sLen + n))) e)) := by
 have h1 : ¬ (sLen + n ≤ sCap) := by omega
 have h47 : sLen + n ≤ 140737488355328 := qZi (Nat.le_mul_of_pos_right _ wI) hb
 have h63' : ¬ (9223372036854775807 < ((sLen : Int) + (n : Int))) := by omega
 have h48' : ¬ (281474976710656 < Builtin.nextslicecap (sLen + n) sCap * i.bytes) := Nat.not_lt.2 (growslice_fits hg hb)
 have hn' := hn W.drew rfl
 have ho' := ho W.drew rfl
 rcases mT with ⟨e2, rfl⟩ | rfl <;>
  simp [Builtin.append_, run_underlying ht, run_underlying EL, sizeOf, typeInfo, zeroValue, hi, hz, ba, h1, h63', h48', Question.forced, hn', ho', newRow, grownCap]
 all_goals
  congr 2
  apply Array.ext'
  simp
theorem VQ 
  (ht : P.underlying t = some (.slice e)) (EL : P.underlying t2 = some d2) (mT : srcT d2) (hi : P.info? e = some i)
  (hn : ∀ W', W'.heap = W.heap → (Builtin.firstCells i.size n v).run P W' = .ok ⟨news⟩ W') (ba : ∀ W', (Builtin.lenOf v).run P W' = .ok n W')
  (hl : news.length = n * i.size) (h1 : ∀ u ∈ news, u.oneCell' = true) {cur : Array Value} {e' : TypeId} (hg : W.heap[b]? = some (.cells cur e' (0, 0)))
  (hroom : sLen + n ≤ sCap) (hfit : sLen * i.size + news.length ≤ cur.size) :
  (Builtin.append_ #[t, t2] ty #[.slice (some ⟨b, 0, none⟩) sLen sCap, v]).run P W =
   .ok (.slice (some ⟨b, 0, none⟩) (sLen + n) sCap) (W.setRow b (cur.toList.take (sLen * i.size) ++ news ++ cur.toList.drop (sLen * i.size + news.length)).toArray) := by
 have hst := run_storeCells_at P b (sLen * i.size) e' news 0 cur W hg (by simpa using hfit) h1
 simp only [Nat.add_zero] at hst
 have ha : (⟨b, 0, none⟩ : Addr).add (sLen * i.size) = ⟨b, sLen * i.size, none⟩ := by rw [mf]; simp
 rcases mT with ⟨e2, rfl⟩ | rfl <;>
  simp [Builtin.append_, run_underlying ht, run_underlying EL, sizeOf, typeInfo, hi, ba, hroom, hn W rfl, ha, hst]
variable {eff : Ve}
theorem EM (s : Sim c W) (hγ : ¬ c.used γ) {z : VV} (h : vappend1 P c.H γ t t2 x y = some (z, eff)) (hr : Rep c W x v) (hw : Rep c W y w) :
  Stp P (aZ (Builtin.append_ #[t, t2] ty #[v, w])) c W γ z eff := by
 unfold vappend1 at h
 split at h
 ·rename_i e d2 hu ju
  split at h
  ·cases h
  rename_i inf hi
  split at h
  ·rename_i xs n hx
   split at h
   ·rename_i zv hz
    split at h
    ·rename_i hc
     obtain ⟨c1, c2, c3, c4, c5⟩ := hc
     obtain ⟨mT, news, hnl, hnr, hnf, hnlen⟩ := EK (P := P) s hx hw c4
     split at h
     ·rename_i cs len full
      split at h
      ·rename_i h0
       cases h
       subst h0
       obtain ⟨aa, cap, rfl, hcap, h2, h3⟩ := hr
       have hne : news = [] := by simpa using hnl
       subst hne
       have Dd := hnf W rfl
       refine Stp.same s (cP (v := .slice aa len cap) ?_) ⟨aa, cap, rfl, hcap, h2, h3⟩
       cases aa with
       | none => rcases mT with ⟨e2, rfl⟩ | rfl <;> simp [Builtin.append_, run_underlying hu, run_underlying ju, sizeOf, typeInfo, hi, hnlen, hcap, Dd]
       | some a => rcases mT with ⟨e2, rfl⟩ | rfl <;> simp [Builtin.append_, run_underlying hu, run_underlying ju, sizeOf, typeInfo, hi, hnlen, hcap, Dd, storeCells]
      ·split at h
       ·rename_i h0 hcc
        obtain ⟨d1, d2, d3⟩ := hcc
        cases h
        obtain ⟨aa, cap, olds, hve, hcap, hol, hor, hof, _⟩ := EJ (P := P) (cs := cs) (len := len) (size := inf.size) s rfl hr (by omega)
        subst hve
        have hfull : cap = len := by
         obtain ⟨_, _, e1, _, h2, _⟩ := hr
         cases e1
         exact h2 d1
        subst hfull
        have aI := Si (ty := ty) hu ju mT hi hz hof hnf hnlen (by omega) d3 c2
        have hge := grownCap_ge W (cap + n) cap e
        refine ⟨_, _, _, _, cP aI, .inl rfl, ?_, Ext.push (o := .cells (some e) (cs ++ xs.take (n * inf.size))) (rm := (⟨olds ++ news⟩ ++ Builtin.zeroCells zv.cells (grownCap W (cap + n) cap e - (cap + n)) : Array Value).size) (ai.refl _) hγ (.inl (qZh _)) (But.drew_alloc W _), ?_, rfl, fun β hb => hb.symm⟩
        ·refine rv hge ?_ (by omega)
         simp only [Array.size_append, List.size_toArray, size_zeroCells, c3, List.length_append, hol, hnl]
         rw [← Nat.add_mul, ← Nat.add_mul]
         exact Nat.mul_le_mul_right _ (by omega)
        ·refine Sim.push s (ai.refl _) hγ (.inl (qZh _)) (But.drew_alloc W _) (by simp) (fun q hq e => by have := s.lt q hq; omega) (fun _ _ _ _ _ _ _ _ h => s.loopOk h) ?_
         have hcsl : cs.take (cap * inf.size) = cs := List.take_of_length_le (by omega)
         rw [hcsl] at hor
         refine ⟨⟨olds ++ news⟩ ++ Builtin.zeroCells zv.cells (grownCap W (cap + n) cap e - (cap + n)), e, ?_, ?_, ?_, ?_, fun _ h => by cases h; rfl⟩
         ·simp only [Ctx.push, if_true]; exact ru W.drew _
         ·simp only [Ctx.push, if_true]
         ·simp [hol, hnl, d2]; omega
         ·refine Rl.abides (tK s (ai.refl _) hγ (.inl (qZh _)) (But.drew_alloc W _)) _ ?_
          have := Rl.append hor hnr
          have hlen2 := this.length
          rw [show ((⟨olds ++ news⟩ ++ Builtin.zeroCells zv.cells (grownCap W (cap + n) cap e - (cap + n)) : Array Value).toList).take (cs ++ xs.take (n * inf.size)).length = olds ++ news from ?_]
          ·exact this
          ·rw [← hlen2]
           simp only [Array.toList_append]
           rw [List.take_left']
           rfl
       ·cases h
     ·rename_i β off len es cp
      split at h
      ·rename_i el cs hβ
       split at h
       ·rename_i hcc
        obtain ⟨d0, d1, d2⟩ := hcc
        cases h
        subst d0
        have aw : c.live β := by simp [Ctx.live, hβ]
        obtain ⟨cap, hve, hcap, hrm, hcp⟩ := hr.2 aw
        subst hve
        have hml : (len + n) * inf.size = len * inf.size + n * inf.size := Nat.add_mul _ _ _
        have hxl : (xs.take (n * inf.size)).length = n * inf.size := by simp; omega
        obtain ⟨W', hst, he, hs⟩ := E6 (P := P) (off := off + len * inf.size) s hβ hnr (Dc c5 hnr) (by omega)
        have Dd := hnf W rfl
        have hroom : len + n ≤ cap := by omega
        refine ⟨_, .slice (some ⟨c.φ β, off, none⟩) (len + n) cap, W', c.upd β (.cells el (overwrite cs (off + len * inf.size) (xs.take (n * inf.size)))), cP ?_, .inl rfl, ⟨⟨s.used β aw, rfl⟩, fun _ => ⟨cap, rfl, hroom, hrm, hcp⟩⟩, he, hs, rfl, fun _ h => .inl h⟩
        rcases mT with ⟨e2, rfl⟩ | rfl <;> simp [Builtin.append_, run_underlying hu, run_underlying ju, sizeOf, typeInfo, hi, hnlen, hroom, Dd, mf, hst]
       ·split at h
        rotate_left
        ·cases h
        rename_i hcc
        obtain ⟨d0, d1, d2, d3⟩ := hcc
        cases h
        subst d0 d1
        have aw : c.live β := by simp [Ctx.live, hβ]
        obtain ⟨cap, hve, hcap, hrm, _⟩ := hr.2 aw
        have hsl : sls c.H (.ref β 0 len inf.size cp) = some (cs, len) := by simp [sls, hβ]
        obtain ⟨aa, cap', olds, hve', _, hol, hor, hof, _⟩ := EJ (P := P) (size := inf.size) s hsl hr (by omega)
        rw [hve] at hve'
        cases hve'
        subst hve
        have hcsl : cs.take (len * inf.size) = cs := List.take_of_length_le (by omega)
        rw [hcsl] at hor
        have hrep := Rl.append hor hnr
        have hlen2 := hrep.length
        have hfree : ∀ q, (without c.H β q).isSome = true → c.φ q ≠ c.φ β := by
         intro q hq e
         have hq' := (ai.without c.H β).live hq
         have := s.inj q β hq' aw e
         subst this
         simp [without] at hq
        have hloop : ∀ x st pe tm ps as bo df, without c.H β x = some (.loop st pe tm ps as bo df) → isDef (without c.H β) df := by
         intro x st pe tm ps as bo df hx
         exact isDef.without hβ (s.loopOk (ai.without c.H β _ _ hx))
        by_cases hroom : len + n ≤ cap
        ·obtain ⟨arr, e', g1, g2, g3, g4, g5⟩ := s.obj β _ hβ
         have hbound : (len + n) * inf.size ≤ arr.size := by
          rw [g2]
          have := Nat.mul_le_mul_right inf.size hroom
          omega
         rw [Nat.add_mul] at hbound
         have aI := VQ (ty := ty) (b := c.φ β) hu ju mT hi hnf hnlen hnl (Dc c5 hnr) g1 hroom (by omega)
         refine ⟨_, _, _, _, cP aI, .inl rfl, ?_, Ext.push (o := .cells (sameEl el e) (cs ++ xs.take (n * inf.size))) (rm := c.room β) (ai.without _ β) hγ (.inr ⟨β, aw, rfl⟩) (But.setRow W _ _), ?_, rfl, fun β hb => hb.symm⟩
         ·exact rv hroom (by omega) hroom
         ·refine Sim.push s (ai.without _ β) hγ (.inr ⟨β, aw, rfl⟩) (But.setRow W _ _) (by simpa using s.lt β aw) hfree hloop ?_
          refine ⟨(arr.toList.take (len * inf.size) ++ news ++ arr.toList.drop (len * inf.size + news.length)).toArray, e', ?_, ?_, ?_, ?_, fun _ h => by obtain ⟨rfl, h2⟩ := Sf h; exact g5 _ h2⟩
          ·simp only [Ctx.push, if_true]; exact setRow_heap W (c.φ β) arr _ e' (0, 0) g1
          ·simp only [Ctx.push, if_true]; rw [← g2]; simp; omega
          ·simp [hnl]; omega
          ·refine Rl.abides (tK s (ai.without _ β) hγ (.inr ⟨β, aw, rfl⟩) (But.setRow W _ _)) _ ?_
           have e1 : ((arr.toList.take (len * inf.size) ++ news ++ arr.toList.drop (len * inf.size + news.length)).toArray.toList).take (cs ++ xs.take (n * inf.size)).length = arr.toList.take cs.length ++ news := by
            rw [← hlen2]
            simp only [d2]
            rw [List.take_left']
            simp; omega
           rw [e1]
           exact Rl.append g4 hnr
        ·have aI := Si (ty := ty) hu ju mT hi hz hof hnf hnlen (by omega) d3 c2
         have hge := grownCap_ge W (len + n) cap e
         refine ⟨_, _, _, _, cP aI, .inl rfl, ?_, Ext.push (o := .cells (sameEl el e) (cs ++ xs.take (n * inf.size))) (rm := (⟨olds ++ news⟩ ++ Builtin.zeroCells zv.cells (grownCap W (len + n) cap e - (len + n)) : Array Value).size) (ai.without _ β) hγ (.inl (qZh _)) (But.drew_alloc W _), ?_, rfl, fun β hb => hb.symm⟩
         ·refine rv hge ?_ (by omega)
          simp only [Array.size_append, List.size_toArray, size_zeroCells, c3, List.length_append, hol, hnl]
          rw [← Nat.add_mul, ← Nat.add_mul]
          exact Nat.mul_le_mul_right _ (by omega)
         ·refine Sim.push s (ai.without _ β) hγ (.inl (qZh _)) (But.drew_alloc W _) (by simp) (fun q hq e => by have := s.lt q ((ai.without c.H β).live hq); omega) hloop ?_
          refine ⟨⟨olds ++ news⟩ ++ Builtin.zeroCells zv.cells (grownCap W (len + n) cap e - (len + n)), e, ?_, ?_, ?_, ?_, fun _ h => (Sf h).1.symm⟩
          ·simp only [Ctx.push, if_true]; exact ru W.drew _
          ·simp only [Ctx.push, if_true]
          ·simp [hol, hnl, d2]; omega
          ·refine Rl.abides (tK s (ai.without _ β) hγ (.inl (qZh _)) (But.drew_alloc W _)) _ ?_
           rw [show ((⟨olds ++ news⟩ ++ Builtin.zeroCells zv.cells (grownCap W (len + n) cap e - (len + n)) : Array Value).toList).take (cs ++ xs.take (n * inf.size)).length = olds ++ news from ?_]
           ·exact hrep
           ·rw [← hlen2]
            simp only [Array.toList_append]
            rw [List.take_left']
            rfl
      ·cases h
     ·cases h
    ·cases h
   ·cases h
  ·cases h
 ·cases h
theorem EN (s : Sim c W) (hγ : ¬ c.used γ) {z : VV} (h : vappend P c.H γ t t2 x y = some (z, eff)) (hr : Rep c W x v) (hw : Rep c W y w) :
  Stp P (aZ (Builtin.append_ #[t, t2] ty #[v, w])) c W γ z eff := EM s hγ h (yj hr) hw
def vmakeSlice (P : Program) (t : TypeId) (l k : VV) : Option (List VV × Nat × Nat) :=
 match P.underlying t, l, k with
 | some (.slice e), .lit (.int _ l), .lit (.int _ k) =>
  match P.info? e with
  | some inf =>
   match inf.zero with
   | some z =>
    if 0 ≤ l ∧ l ≤ k ∧ 0 < inf.size ∧ 0 < inf.bytes ∧ inf.bytes * k ≤ 140737488355328 ∧ z.cells.size = inf.size then
     some (vzeros z.cells (l.toNat * inf.size), l.toNat, inf.size)
    else none
   | none => none
  | none => none
 | _, _, _ => none
theorem yp {n : Int} (h0 : 0 ≤ n) (h : n ≤ 140737488355328) : i64.wrap n = n := by
 have : i64.wrap n = n := IntWalk.i64_in _ ⟨by omega, by omega⟩
 exact this
theorem VR (s : Sim c W) (hγ : ¬ c.used γ) {es : Nat} (h : vmakeSlice P t x y = some (cs, len, es))
  (hr : Rep c W x v) (hw : Rep c W y w) : Stp P (aZ (Instr.makeSlice t v w)) c W γ (.ref γ 0 len es len) (.new (.cells (elemT P t) cs)) := by
 unfold vmakeSlice at h
 split at h
 ·rename_i e k1 l k2 k hu
  have hel : elemT P t = some e := by simp [elemT, hu]
  rw [hel]
  split at h
  ·rename_i inf hi
   split at h
   ·rename_i z hz
    split at h
    ·rename_i hc
     obtain ⟨c1, c2, c3, c4, c5, c6⟩ := hc
     cases h
     have hv : v = .int k1 l := hr
     have hw' : w = .int k2 k := hw
     subst hv hw'
     have hk : k ≤ 140737488355328 := by
      have h1 : (1 : Int) ≤ inf.bytes := by omega
      have := Int.mul_le_mul_of_nonneg_right h1 (show 0 ≤ k by omega)
      omega
     have wl := yp (n := l) (by omega) (by omega)
     have wk := yp (n := k) (by omega) (by omega)
     have hle : l.toNat * inf.size ≤ k.toNat * inf.size := Nat.mul_le_mul_right _ (by omega)
     refine yn (arr := (Array.range (k.toNat * inf.size)).map (fun i => z.cells[i % z.cells.size]!)) (t := e) s hγ ?_ (by simp [vzeros]; omega) ?_ (rv (cap := k.toNat) (by omega) (by simp) (by omega))
     ·have t1 : ¬ (k < 0 ∨ 281474976710656 < (inf.bytes : Int) * k) := by omega
      have t2 : ¬ (l < 0) := by omega
      have t3 : ¬ (k < l) := by omega
      have hn : inf.size ≠ 0 := by omega
      by_cases pg : k.toNat * inf.size = 0
      ·have ry : k = 0 := by
        rcases Nat.mul_eq_zero.1 pg with h | h <;> omega
       have hT : l = 0 := by omega
       subst ry hT
       have w0 : i64.wrap 0 = 0 := by decide
       simp [aZ, Instr.makeSlice, run_underlying hu, asInt, asIntOf, typeInfo, hi, sizeOf, newRow, w0]
       have e0 : ∀ f : Nat → Value, (Array.range 0).map f = #[] := by intro f; simp
       rw [e0, e0]
      ·simp [aZ, Instr.makeSlice, run_underlying hu, asInt, asIntOf, typeInfo, hi, wl, wk, t1, t2, t3, sizeOf, newRow, zeroValue, hz]
       intro h
       exact absurd h pg
     ·have : (vzeros z.cells (l.toNat * inf.size)).length = l.toNat * inf.size := by simp [vzeros]
      rw [this]
      have e1 : vzeros z.cells (l.toNat * inf.size) = (vzeros z.cells (k.toNat * inf.size)).take (l.toNat * inf.size) := by
       unfold vzeros
       rw [← List.map_take, List.take_range, Nat.min_eq_left hle]
      rw [e1]
      exact Rl.take _ (EC z.cells _)
    ·cases h
   ·cases h
  ·cases h
 ·cases h
theorem dM {α β : Type} {P : Program} : ∀ (x : Sem α) (f : α → Sem β), aA P (x >>= f) = (aA P x).bind fun a => aA P (f a)
 | .pure a, f => rfl
 | .program k, f => by
  show aA P ((k P).bind f) = _
  exact dM (k P) f
 | .load .., _ => rfl
 | .store .., _ => rfl
 | .new .., _ => rfl
 | .shape .., _ => rfl
 | .freeze .., _ => rfl
 | .frozen .., _ => rfl
 | .getObj .., _ => rfl
 | .setObj .., _ => rfl
 | .choose .., _ => rfl
 | .sys .., _ => rfl
 | .mark _ k, f => dM k f
 | .halt .., _ => rfl
theorem jz {α : Type} (P : Program) (a : α) : aA P (pure a : Sem α) = some a := rfl
def dummy (k : Value) : MapEntry := { key := k, val := .bool false, born := 0 }
def kfind (P : Program) (kt : TypeId) (k : Value) (keys : List Value) : Option (Option Nat) :=
 (aA P (Instr.findKey kt k (keys.map dummy))).map fun r => r.map (·.1)
def pairAt (es : List MapEntry) (i : Nat) : Option Nat → Option (Nat × Value)
 | none => none
 | some j => (es[j - i]?).map fun e => (j, e.val)
theorem Sj (kind : TypeDesc) (k : Value) : ∀ (es : List MapEntry) (i : Nat),
  match Instr.findNow kind k ((es.map (·.key)).map dummy) i with
  | none => Instr.findNow kind k es i = none
  | some none => Instr.findNow kind k es i = some none
  | some (some (j, _)) => ∃ e, i ≤ j ∧ es[j - i]? = some e ∧ Instr.findNow kind k es i = some (some (j, e.val))
 | [], i => by simp [Instr.findNow]
 | e :: es, i => by
  have ih := Sj kind k es (i + 1)
  simp only [List.map_cons, Instr.findNow, dummy]
  cases hs : Instr.sameNow kind k e.key with
  | none => simp
  | some b =>
   cases b with
   | true => exact ⟨e, qZh _, by simp, rfl⟩
   | false =>
    simp only
    split at ih
    ·exact ih
    ·exact ih
    ·rename_i j v h
     obtain ⟨e', hle, he', hf⟩ := ih
     exact ⟨e', by omega, by rw [show j - i = (j - (i + 1)) + 1 by omega]; simpa using he', hf⟩
theorem Sk {P : Program} (kt : TypeId) (k : Value) (W : World) : ∀ (es : List MapEntry) (i : Nat) (r : Option (Nat × Value)),
  aA P (Instr.findAsking kt k ((es.map (·.key)).map dummy) i) = some r →
  (∀ p, r = some p → i ≤ p.1 ∧ p.1 - i < es.length) ∧ (Instr.findAsking kt k es i).run P W = .ok (pairAt es i (r.map (·.1))) W
 | [], i, r, h => by
  simp only [List.map_nil, Instr.findAsking, jz, Option.some.injEq] at h
  subst h
  exact ⟨fun p hp => (by cases hp), by simp [Instr.findAsking, pairAt]⟩
 | e :: es, i, r, h => by
  simp only [List.map_cons, Instr.findAsking, dM] at h
  cases hq : aA P (Op.equal kt k (dummy e.key).key) with
  | none => simp [hq] at h
  | some b =>
   simp only [hq, Option.bind_some] at h
   have hr := mS hq W
   simp only [dummy] at hr
   cases b with
   | true =>
    simp only [if_true] at h
    have : r = some (i, (dummy e.key).val) := by
     simp only [jz, Option.some.injEq] at h
     exact h.symm
    subst this
    exact ⟨fun p hp => by cases hp; simp, by simp [Instr.findAsking, hr, pairAt]⟩
   | false =>
    simp at h
    have ih := Sk (P := P) kt k W es (i + 1) r (by simpa using h)
    refine ⟨fun p hp => by have := ih.1 p hp; simp; omega, ?_⟩
    simp only [Instr.findAsking, Sem.run_bind, hr, Result.andThen_ok, Bool.false_eq_true, if_false, ih.2]
    congr 1
    cases r with
    | none => rfl
    | some p =>
     have := (ih.1 p rfl).1
     simp only [Option.map_some, pairAt]
     rw [show p.1 - i = (p.1 - (i + 1)) + 1 by omega]
     simp
theorem EO {kt : TypeId} {k : Value} {es : List MapEntry} {r : Option Nat} (h : kfind P kt k (es.map (·.key)) = some r) (W : World) :
  (∀ j, r = some j → j < es.length) ∧ (Instr.findKey kt k es).run P W = .ok (pairAt es 0 r) W := by
 unfold kfind at h
 cases hq : aA P (Instr.findKey kt k ((es.map (·.key)).map dummy)) with
 | none => rw [hq] at h; cases h
 | some q =>
  simp only [hq, Option.map_some, Option.some.injEq] at h
  subst h
  unfold Instr.findKey at hq ⊢
  rw [dM] at hq
  cases hu : aA P (underlying kt) with
  | none => simp [hu] at hq
  | some d =>
   simp only [hu, Option.bind_some] at hq
   simp only [Sem.run_bind, mS hu, Result.andThen_ok]
   have hfn := Sj d k es 0
   split at hfn
   ·rename_i hn
    rw [hn] at hq
    simp only [hfn]
    have ha := Sk (P := P) kt k W es 0 q (by simpa using hq)
    refine ⟨fun j hj => ?_, ha.2⟩
    cases q with
    | none => simp at hj
    | some p => simp at hj; have := (ha.1 p rfl).2; omega
   ·rename_i hn
    rw [hn] at hq
    simp only [jz, Option.some.injEq] at hq
    subst hq
    simp [hfn, pairAt]
   ·rename_i j v hn
    rw [hn] at hq
    simp only [jz, Option.some.injEq] at hq
    subst hq
    obtain ⟨e, _, he, hf⟩ := hfn
    refine ⟨fun i hi => by
     simp at hi; subst hi
     simp at he
     exact (List.getElem?_eq_some_iff.1 he).1, ?_⟩
    simp at he
    simp [hf, pairAt, he]
def mapOf (H : Nat → Option Vo) : VV → Option (List (Value × VV))
 | .mp β => match H β with
  | some (.map es) => some es
  | _ => none
 | .mt ks vs => some (ks.zip vs)
 | _ => none
theorem EP (s : Sim c W) {es : List (Value × VV)} (h : mapOf c.H x = some es) (hr : Rep c W x v) :
  ∃ b ents clk, v = .map (some b) ∧ W.heap[b]? = some (.map ents clk) ∧ ents.toList.map (·.key) = es.map (·.1) ∧ Rl c W (es.map (·.2)) (ents.toList.map (·.val)) := by
 cases x with
 | mp β =>
  unfold mapOf at h
  simp only at h
  split at h
  ·rename_i es' hβ
   cases h
   have hv : v = .map (some (c.φ β)) := hr.2 (by simp [Ctx.live, hβ])
   obtain ⟨ents, clk, h1, h2, h3⟩ := s.obj β _ hβ
   exact ⟨_, ents, clk, hv, h1, h2, h3⟩
  ·cases h
 | mt ks vs =>
  cases h
  obtain ⟨b, e, hA, ents, clk, h1, h2, h3⟩ := hr
  have hl := h3.length
  have hk : ks.length = vs.length := by rw [← h2, ← hl]; simp
  refine ⟨b, ents, clk, e, h1, ?_, ?_⟩
  ·rw [h2, List.map_fst_zip (by omega)]
  ·rw [List.map_snd_zip (by omega)]; exact h3
 | _ => simp [mapOf] at h
def vlookup (P : Program) (H : Nat → Option Vo) (t : TypeId) (x k : VV) (ok : Bool) : Option VV :=
 match P.underlying t, k.val? with
 | some (.map kt et), some k =>
  match mapOf H x with
  | some es =>
   match aA P (Instr.checkKey es.isEmpty 10000 kt k), kfind P kt k (es.map (·.1)), (P.info? et).bind (·.zero) with
   | some (), some r, some z =>
    match r with
    | some i => match es[i]? with
     | some p => some (if ok then .tup [p.2, .lit (.bool true)] else p.2)
     | none => none
    | none => some (if ok then .tup [ofVal2 z, .lit (.bool false)] else ofVal2 z)
   | _, _, _ => none
  | none => none
 | _, _ => none
variable {ok : Bool}
theorem ES (s : Sim c W) {k : VV} (h : vlookup P c.H t x k ok = some y) (hr : Rep c W x v) (hk : Rep c W k w) :
  Stp P (aZ (Instr.lookup t v w ok)) c W γ y .none := by
 unfold vlookup at h
 split at h
 ·rename_i kt et kv hu hkv
  have hw := oQ hkv hk
  subst hw
  split at h
  ·rename_i es hβ
   split at h
   ·rename_i r z hck hkf hz
    obtain ⟨bq, ents, clk, hv, h1, h2, h3⟩ := EP s hβ hr
    subst hv
    have hg : (getObj bq).run P W = .ok (.map ents clk) W := by simp [getObj, Sem.run, h1]
    rw [← h2] at hkf
    obtain ⟨hlt, aI⟩ := EO hkf W
    have hl : ents.toList.length = es.length := by
     have := congrArg List.length h2
     simpa using this
    have hemp : ents.isEmpty = es.isEmpty := by
     rw [Bool.eq_iff_iff]; simp only [Array.isEmpty_iff_size_eq_zero, List.isEmpty_iff_length_eq_zero]; simp at hl; omega
    have hck' := mS hck W
    rw [← hemp] at hck'
    have hzr : (zeroValue et).run P W = .ok z W := by
     cases hi : P.info? et with
     | none => simp [hi] at hz
     | some i => simp [hi] at hz; simp [zeroValue, typeInfo, hi, hz]
    cases r with
    | some i =>
     have hi := hlt i rfl
     simp only at h
     split at h
     ·rename_i p hp
      cases h
      have hpe : ents.toList[i]? = some (ents.toList[i]'hi) := qZj hi
      obtain ⟨u, hu', hru⟩ := Rl.get i h3 (x := p.2) (by simp [hp])
      have hue : u = (ents.toList[i]'hi).val := by
       simp [hpe] at hu'
       exact hu'.symm
      refine Stp.same s (cP (v := if ok then .tuple #[u, .bool true] else u) ?_) ?_
      ·simp only [Instr.lookup, Sem.run_bind, run_underlying hu, Result.andThen_ok, hg, Sem.run_pure, hck', aI, pairAt, Nat.sub_zero, hpe, Option.map_some]
       rw [hue]
      ·cases ok
       ·simpa using hru
       ·exact ⟨[u, .bool true], rfl, u, _, rfl, hru, _, _, rfl, rfl, rfl⟩
     ·cases h
    | none =>
     simp only at h
     cases h
     refine Stp.same s (cP (v := if ok then .tuple #[z, .bool false] else z) ?_) ?_
     ·simp only [Instr.lookup, Sem.run_bind, run_underlying hu, Result.andThen_ok, hg, Sem.run_pure, hck', aI, pairAt, hzr]
     ·cases ok
      ·simpa using yg c W z
      ·exact ⟨[z, .bool false], rfl, z, _, rfl, yg c W z, _, _, rfl, rfl, rfl⟩
   ·cases h
  ·cases h
 ·cases h
theorem ET (s : Sim c W) (hγ : ¬ c.used γ) :
  Stp P (aZ (Instr.makeMap t none)) c W γ (.mp γ) (.new (.map [])) := by
 obtain ⟨h1, h2⟩ := tL (ob := .map #[] 0) (o := .map []) (rm := 0) s hγ ⟨#[], 0, by simp only [Ctx.push, if_true]; exact ru _ _, by simp, by simp [Rl]⟩
 refine ⟨_, .map (some W.heap.size), _, c.push c.H γ (.map []) W.heap.size 0, cP (by simp [Instr.makeMap]), .inl rfl, ⟨⟨.inl rfl, rfl⟩, fun _ => by simp [Ctx.push]⟩, h1, h2, rfl, fun β hb => hb.symm⟩
def vmapUpdate (P : Program) (H : Nat → Option Vo) (t : TypeId) (x k y : VV) : Option Ve :=
 match P.underlying t, x, k.val? with
 | some (.map kt _), .mp β, some kv =>
  match H β with
  | some (.map es) =>
   match aA P (Instr.checkKey false 10000 kt kv), kfind P kt kv (es.map (·.1)) with
   | some (), some (some i) =>
    match es[i]? with
    | some p => if Instr.sameBits 10000 p.1 kv then some (.upd β (.map (es.set i (kv, y)))) else none
    | none => none
   | some (), some none => some (.upd β (.map (es ++ [(kv, y)])))
   | _, _ => none
  | _ => none
 | _, _, _ => none
theorem But.setObj (W : World) (b : Nat) (o : Obj) : But W { W with heap := W.heap.setIfInBounds b o } b :=
 ⟨fun k _ hb => by
  show (W.heap.setIfInBounds b o)[k]? = W.heap[k]?
  rw [Array.getElem?_setIfInBounds_ne (fun e => hb e.symm)], by simp, rfl, rfl, rfl⟩
theorem wJ {o o' : Obj} (h : W.heap[b]? = some o) (hc : ∀ c e f, o ≠ .cells c e f) :
  (setObj b o').run P W = .ok () { W with heap := W.heap.setIfInBounds b o' } := by
 simp only [setObj, Sem.run, h]
theorem wK {o o' : Obj} (h : W.heap[b]? = some o) : ({ W with heap := W.heap.setIfInBounds b o' } : World).heap[b]? = some o' := by
 have := (Array.getElem?_eq_some_iff.1 h).1
 show (W.heap.setIfInBounds b o')[b]? = _
 simp [this]
variable {u : Value}
theorem Sl (s : Sim c W) {k : VV} (h : vmapUpdate P c.H t x k y = some eff) (hr : Rep c W x v) (hk : Rep c W k w) (hy : Rep c W y u) :
  Stp P (do Instr.mapUpdate t v w u; pure .skip) c W γ .any eff := by
 unfold vmapUpdate at h
 split at h
 ·rename_i kt et β kv hu hkv
  have hw := oQ hkv hk
  subst hw
  split at h
  ·rename_i es hβ
   have aw : c.live β := by simp [Ctx.live, hβ]
   have hv : v = .map (some (c.φ β)) := hr.2 aw
   subst hv
   obtain ⟨ents, clk, h1, h2, h3⟩ := s.obj β _ hβ
   have hg : (getObj (c.φ β)).run P W = .ok (.map ents clk) W := by simp [getObj, Sem.run, h1]
   have hnd : isDef c.H β → ∀ o, ∃ ds, o = Vo.deferred ds := fun ⟨ds, hd⟩ => by rw [hβ] at hd; cases hd
   split at h
   ·rename_i i hck hkf
    rw [← h2] at hkf
    obtain ⟨hlt, aI⟩ := EO hkf W
    have hi := hlt i rfl
    have hpe : ents.toList[i]? = some (ents.toList[i]'hi) := qZj hi
    split at h
    ·rename_i p hp
     split at h
     ·rename_i hsb
      cases h
      have hkey : (ents.toList[i]'hi).key = p.1 := by
       have := congrArg (fun l => l[i]?) h2
       simp only [List.getElem?_map, hpe, hp, Option.map_some, Option.some.injEq] at this
       exact this
      have hmod : (ents.modify i fun e => { e with key := w, val := u }).toList = ents.toList.set i { (ents.toList[i]'hi) with key := w, val := u } := by
       rw [Array.toList_modify, List.modify_eq_set, hpe]; rfl
      have hpa : ents[i]? = some (ents.toList[i]'hi) := by rw [← Array.getElem?_toList]; exact hpe
      have hset := wJ (P := P) (o' := .map (ents.modify i fun e => { e with key := w, val := u }) clk) h1 (by intros; simp)
      have ab := (Ext.upd (o := .map (es.set i (w, y))) aw (But.setObj W (c.φ β) (.map (ents.modify i fun e => { e with key := w, val := u }) clk))).abides s
      refine ⟨.skip, undef, _, c.upd β (.map (es.set i (w, y))), ?_, .inr ⟨rfl, rfl⟩, trivial, Ext.upd aw (But.setObj W _ _), Sim.upd s aw (But.setObj W _ _) (fun hd => hnd hd _) ⟨ents.modify i fun e => { e with key := w, val := u }, clk, wK h1, ?_, ?_⟩, rfl, fun _ h => .inl h⟩
      ·simp only [Instr.mapUpdate, Sem.run_bind, run_underlying hu, Result.andThen_ok, hg, mS hck W, aI, pairAt, Nat.sub_zero, hpe, Option.map_some, hpa, Option.getD_some, hkey, Instr.keyThatStays, hsb, if_true, Sem.run_pure, hset]
      ·rw [hmod, List.map_set, List.map_set, h2]
      ·apply Rl.abides ab
       rw [hmod, List.map_set, List.map_set]
       exact Rl.set i h3 hy
     ·cases h
    ·cases h
   ·rename_i hck hkf
    cases h
    rw [← h2] at hkf
    obtain ⟨_, aI⟩ := EO hkf W
    have hset := wJ (P := P) (o' := .map (ents.push { key := w, val := u, born := clk }) (clk + 1)) h1 (by intros; simp)
    have ab := (Ext.upd (o := .map (es ++ [(w, y)])) aw (But.setObj W (c.φ β) (.map (ents.push { key := w, val := u, born := clk }) (clk + 1)))).abides s
    refine ⟨.skip, undef, _, c.upd β (.map (es ++ [(w, y)])), ?_, .inr ⟨rfl, rfl⟩, trivial, Ext.upd aw (But.setObj W _ _), Sim.upd s aw (But.setObj W _ _) (fun hd => hnd hd _) ⟨ents.push { key := w, val := u, born := clk }, clk + 1, wK h1, ?_, ?_⟩, rfl, fun _ h => .inl h⟩
    ·simp only [Instr.mapUpdate, Sem.run_bind, run_underlying hu, Result.andThen_ok, hg, mS hck W, aI, pairAt, Sem.run_pure, hset]
    ·simp [h2]
    ·apply Rl.abides ab
     have j0 : Rl c W [y] [u] := ⟨u, [], rfl, hy, rfl⟩
     have := Rl.append h3 j0
     simpa using this
   ·cases h
  ·cases h
 ·cases h
theorem VS (s : Sim c W) (hγ : ¬ c.used γ) {st : ByteArray} (hu : P.underlying t = some .string) :
  Stp P (aZ (Instr.range t (.string st))) c W γ (.it γ) (.new (.stri st 0)) := by
 obtain ⟨h1, h2⟩ := tL (ob := .stringIter st 0) (o := .stri st 0) (rm := 0) s hγ (by show (W.alloc _).heap[_]? = _; simp only [Ctx.push, if_true]; exact ru _ _)
 exact ⟨_, .pointer (some ⟨W.heap.size, 0, none⟩), _, c.push c.H γ (.stri st 0) W.heap.size 0, cP (by simp [Instr.range, run_underlying hu]), .inl rfl, ⟨⟨.inl rfl, rfl⟩, fun _ => by simp [Ctx.push]⟩, h1, h2, rfl, fun β hb => hb.symm⟩
def vnext (H : Nat → Option Vo) (x : VV) (isString : Bool) : Option (VV × Ve) :=
 match x, isString with
 | .it β, true =>
  match H β with
  | some (.stri s pos) =>
   if pos < s.size then
    some (.tup [.lit (.bool true), .lit (.int .i64 pos), .lit (.int .i32 (Utf8.decode s pos).1)], .upd β (.stri s (pos + (Utf8.decode s pos).2)))
   else some (.tup [.lit (.bool false)], .none)
  | _ => none
 | _, _ => none
theorem EU (s : Sim c W) {b : Bool} (h : vnext c.H x b = some (y, eff)) (hr : Rep c W x v) :
  Stp P (aZ (Instr.next v b t)) c W γ y eff := by
 unfold vnext at h
 split at h
 ·rename_i β
  split at h
  ·rename_i st pos hβ
   have aw : c.live β := by simp [Ctx.live, hβ]
   have hv : v = .pointer (some ⟨c.φ β, 0, none⟩) := hr.2 aw
   subst hv
   have h1 : W.heap[c.φ β]? = some (.stringIter st pos) := s.obj β _ hβ
   have hg : (getObj (c.φ β)).run P W = .ok (.stringIter st pos) W := by simp [getObj, Sem.run, h1]
   split at h
   ·rename_i hlt
    cases h
    have hset := wJ (P := P) (o' := .stringIter st (pos + (Utf8.decode st pos).2)) h1 (by intros; simp)
    refine ⟨_, .tuple #[.bool true, .int .i64 pos, .int .i32 (Utf8.decode st pos).1], _, c.upd β (.stri st (pos + (Utf8.decode st pos).2)), cP ?_, .inl rfl, ⟨_, rfl, _, _, rfl, rfl, _, _, rfl, rfl, _, _, rfl, rfl, rfl⟩,
     Ext.upd aw (But.setObj W _ (.stringIter st (pos + (Utf8.decode st pos).2))), Sim.upd s aw (But.setObj W _ _) (fun ⟨ds, hd⟩ => by rw [hβ] at hd; cases hd) (wK h1), rfl, fun _ h => .inl h⟩
    simp [Instr.next, hg, hlt, hset, goInt]
   ·rename_i hlt
    cases h
    exact Stp.same s (cP (v := .tuple #[.bool false]) (by simp [Instr.next, hg, hlt])) ⟨_, rfl, _, _, rfl, rfl, rfl⟩
  ·cases h
 ·cases h
def vtypeAssert (P : Program) (x : VV) (asserted : TypeId) (ok : Bool) : Option VV :=
 let holds (y : VV) : VV := if ok then .tup [y, .lit (.bool true)] else y
 let fails : Option VV := if ok then ((P.info? asserted).bind (·.zero)).map fun z => .tup [ofVal2 z, .lit (.bool false)] else none
 match P.underlying asserted, x with
 | some (.interface want), .ifc t _ =>
  match P.info? t with
  | some inf => match Instr.missingMethod want inf.methods with
   | none => some (holds x)
   | some _ => fails
  | none => none
 | some (.interface _), .lit .nilIface => fails
 | some (.interface _), _ => none
 | some _, .ifc t y => if t = asserted then some (holds y) else fails
 | some _, .lit .nilIface => fails
 | _, _ => none
def taHolds (ok : Bool) (v : Value) : Value := if ok then .tuple #[v, .bool true] else v
variable {a t' : TypeId} {want : Array (String × TypeId)} {inf : TypeInfo}
theorem EV (hu : P.underlying a = some (.interface want)) (hi : P.info? t' = some inf)
  (hm : Instr.missingMethod want inf.methods = none) : (Instr.typeAssert (.iface t' u) t a ok).run P W = .ok (taHolds ok (.iface t' u)) W := by
 have hti : (typeInfo t').run P W = .ok inf W := by simp [typeInfo, hi]
 simp only [Instr.typeAssert, Sem.run_bind, run_underlying hu, Result.andThen_ok, hti, hm, Sem.run_pure]
 rfl
theorem EW {m : String} (hu : P.underlying a = some (.interface want)) (hi : P.info? t' = some inf)
  (hm : Instr.missingMethod want inf.methods = some m) (hz : (zeroValue a).run P W = .ok z W) : (Instr.typeAssert (.iface t' u) t a true).run P W = .ok (.tuple #[z, .bool false]) W := by
 have hti : (typeInfo t').run P W = .ok inf W := by simp [typeInfo, hi]
 simp only [Instr.typeAssert, Sem.run_bind, run_underlying hu, Result.andThen_ok, hti, hm, if_true, hz, Sem.run_pure]
variable {d : TypeDesc}
theorem yq (hu : P.underlying a = some d) (hz : (zeroValue a).run P W = .ok z W) :
  (Instr.typeAssert .nilIface t a true).run P W = .ok (.tuple #[z, .bool false]) W := by
 simp only [Instr.typeAssert, Sem.run_bind, run_underlying hu, Result.andThen_ok]
 cases d <;> simp only [Sem.run_bind, if_true, hz, Result.andThen_ok, Sem.run_pure]
theorem EX (hu : P.underlying a = some d) (hne : ∀ w, d ≠ .interface w) :
  (Instr.typeAssert (.iface a u) t a ok).run P W = .ok (taHolds ok u) W := by
 simp only [Instr.typeAssert, Sem.run_bind, run_underlying hu, Result.andThen_ok]
 cases d <;> first | exact absurd rfl (hne _) | (simp only [if_true, Sem.run_pure]; rfl)
theorem EY (hu : P.underlying a = some d) (hne : ∀ w, d ≠ .interface w) (ht : t' ≠ a) (hz : (zeroValue a).run P W = .ok z W) :
  (Instr.typeAssert (.iface t' u) t a true).run P W = .ok (.tuple #[z, .bool false]) W := by
 simp only [Instr.typeAssert, Sem.run_bind, run_underlying hu, Result.andThen_ok]
 cases d <;> first | exact absurd rfl (hne _) | simp only [if_neg ht, Sem.run_bind, if_true, hz, Result.andThen_ok, Sem.run_pure]
theorem VT (s : Sim c W) (h : vtypeAssert P x a ok = some y) (hr : Rep c W x v) :
  Stp P (aZ (Instr.typeAssert v t a ok)) c W γ y .none := by
 have holds : ∀ {z : VV} {u : Value}, Rep c W z u → Rep c W (if ok then .tup [z, .lit (.bool true)] else z) (taHolds ok u) := by
  intro z u hz
  cases ok
  ·exact hz
  ·exact ⟨_, rfl, _, _, rfl, hz, _, _, rfl, rfl, rfl⟩
 have fails : ∀ {y : VV}, (if ok then ((P.info? a).bind (·.zero)).map fun z => VV.tup [ofVal2 z, .lit (.bool false)] else none) = some y →
   ∃ z, ok = true ∧ (zeroValue a).run P W = .ok z W ∧ y = .tup [ofVal2 z, .lit (.bool false)] := by
  intro y hy
  cases ok
  ·cases hy
  ·cases hi : P.info? a with
   | none => rw [hi] at hy; cases hy
   | some i =>
    cases hz : i.zero with
    | none => rw [hi] at hy; simp only [Option.bind_some, hz] at hy; cases hy
    | some z =>
     rw [hi] at hy; simp only [Option.bind_some, hz, Option.map_some, if_true, Option.some.injEq] at hy
     exact ⟨z, rfl, by simp [zeroValue, typeInfo, hi, hz], hy.symm⟩
 have rf : ∀ z, Rep c W (.tup [ofVal2 z, .lit (.bool false)]) (.tuple #[z, .bool false]) := fun z => ⟨_, rfl, _, _, rfl, yg c W z, _, _, rfl, rfl, rfl⟩
 unfold vtypeAssert at h
 simp only at h
 split at h
 ·rename_i want t' y' hu
  obtain ⟨u, rfl, hru⟩ := hr
  split at h
  ·rename_i inf hi
   split at h
   ·rename_i hm
    cases h
    exact Stp.same s (cP (EV hu hi hm)) (holds (z := .ifc t' y') ⟨u, rfl, hru⟩)
   ·rename_i m hm
    obtain ⟨z, rfl, hz, rfl⟩ := fails h
    exact Stp.same s (cP (EW hu hi hm hz)) (rf z)
  ·cases h
 ·rename_i want hu
  have : v = .nilIface := hr
  subst this
  obtain ⟨z, rfl, hz, rfl⟩ := fails h
  exact Stp.same s (cP (yq hu hz)) (rf z)
 ·cases h
 ·rename_i d t' y' hne hu
  obtain ⟨u, rfl, hru⟩ := hr
  split at h
  ·rename_i ht
   subst ht
   cases h
   exact Stp.same s (cP (EX hu (fun w e => hne w e))) (holds hru)
  ·rename_i ht
   obtain ⟨z, rfl, hz, rfl⟩ := fails h
   exact Stp.same s (cP (EY hu (fun w e => hne w e) ht hz)) (rf z)
 ·rename_i d hne hu
  have : v = .nilIface := hr
  subst this
  obtain ⟨z, rfl, hz, rfl⟩ := fails h
  exact Stp.same s (cP (yq hu hz)) (rf z)
 ·cases h
def byteL : List VV → Option (List UInt8)
  | [] => some []
  | x :: xs => match x with
    | .lit (.int .u8 n) => if 0 ≤ n ∧ n < 256 then match byteL xs with | some l => some (UInt8.ofNat n.toNat :: l) | none => none else none
    | _ => none
theorem EZ {c : Ctx} {W : World} : ∀ {xs : List VV} {l : List UInt8} {vs : List Value}, byteL xs = some l → Rl c W xs vs → vs = l.map fun b => Value.int .u8 b.toNat
  | [], l, vs, h, hr => by
    have e : vs = [] := hr
    subst e
    simp [byteL] at h
    subst h; rfl
  | x :: xs, l, vs, h, ⟨u, us, e, h1, h2⟩ => by
    subst e
    unfold byteL at h
    split at h
    · rename_i n
      split at h
      · rename_i hn
        split at h
        · rename_i l' hl
          cases h
          have := EZ hl h2
          have e1 : u = .int .u8 n := h1
          rw [this, e1]
          have e2 : ((UInt8.ofNat n.toNat).toNat : Int) = n := by
            rw [UInt8.toNat_ofNat']
            omega
          rw [List.map_cons, e2]
        · cases h
      · cases h
    · cases h
theorem Sm : ∀ (l : List UInt8) (acc : ByteArray), (l.map fun b => (b.toNat : Int)).foldl (fun r n => r.push (UInt8.ofNat n.toNat)) acc = ⟨acc.data ++ l.toArray⟩
  | [], acc => by simp
  | x :: l, acc => by
    simp only [List.map_cons, List.foldl_cons]
    rw [Sm l]
    apply ByteArray.ext
    simp [ByteArray.push]
def vconv (P : Program) (H : Nat → Option Vo) (src dst : TypeId) (x : VV) : Option VV :=
  match P.underlying src, P.underlying dst with
  | some (.slice e), some .string => match P.underlying e, sls H x with
    | some (.int .u8), some (cs, len) => if len ≤ cs.length then (byteL (cs.take len)).map fun l => .lit (.string ⟨⟨l⟩⟩) else none
    | _, _ => none
  | _, _ => none
variable {src dst : TypeId}
theorem Fa (s : Sim c W) (h : vconv P c.H src dst x = some y) (hr : Rep c W x v) : Stp P (aZ (convert src dst v)) c W γ y .none := by
  unfold vconv at h
  split at h
  · rename_i e hs hd
    split at h
    · rename_i cs len he hx
      split at h
      · rename_i hle
        cases hb : byteL (cs.take len) with
        | none => simp [hb] at h
        | some l =>
          simp [hb] at h
          subst h
          obtain ⟨aa, cap, e1, hcap, h3⟩ := Da s hx hr
          subst e1
          refine Stp.same s (cP (v := .string ⟨⟨l⟩⟩) ?_) rfl
          rw [run_convert_bytes_string W src dst e aa len cap hs he hd]
          rcases h3 with h3 | ⟨b, o, rfl, hcs⟩
          · subst h3
            have h0 : len = 0 := by simpa using hle
            subst h0
            simp [byteL] at hb
            subst hb
            cases aa with
            | none => rfl
            | some a => rfl
          · obtain ⟨vs, hvs, hcell⟩ := Rc.list (Rc.take len hcs)
            have ba : vs.length = len := by rw [hvs.length]; simp; omega
            have hvb := EZ hb hvs
            have aI := run_loadCells_list (P := P) W ⟨b, o, none⟩ vs (fun j u hu => by rw [mf]; exact hcell j u hu)
            rw [ba, hvb] at aI
            have := run_bytesToString (P := P) W ⟨b, o, none⟩ len cap (l.map fun b => (b.toNat : Int)) (by rw [aI]; simp)
            rw [this, Sm]
            congr 2
            apply ByteArray.ext
            simp [ByteArray.empty, ByteArray.emptyWithCapacity]
            try rfl
      · cases h
    · cases h
  · cases h
def vsliceData (H : Nat → Option Vo) (x : VV) : Option VV :=
  match x with
  | .ref β off len _ _ => if 0 < len ∧ (H β).isSome = true then some (.ptr β off) else none
  | .sl cs len _ => if 0 < len ∧ cs ≠ [] then some (.tp cs) else none
  | _ => none
theorem VU (s : Sim c W) {ts : Array TypeId} (h : vsliceData c.H x = some y) (hr : Rep c W x v) : Stp P (aZ (Builtin.unsafeSliceData_ ts ty #[v])) c W γ y .none := by
  unfold vsliceData at h
  split at h
  · rename_i β off len es cp
    split at h
    · rename_i hc
      cases h
      obtain ⟨cap, rfl, h1, h2, h3⟩ := hr.2 hc.2
      exact Stp.same s (cP (Lib.run_unsafeSliceData_row (P := P) W ts ty ⟨c.φ β, off, none⟩ len cap (by omega))) ⟨⟨hr.1.1, rfl⟩, fun _ => rfl⟩
    · cases h
  · rename_i cs len full
    split at h
    · rename_i hc
      cases h
      obtain ⟨aa, cap, rfl, h1, h2, h3⟩ := hr
      rcases h3 with h3 | ⟨b, o, rfl, hA, hcs⟩
      · exact absurd h3 hc.2
      · exact Stp.same s (cP (Lib.run_unsafeSliceData_row (P := P) W ts ty ⟨b, o, none⟩ len cap (by omega))) ⟨b, o, rfl, hA, hcs⟩
    · cases h
  · cases h
theorem Fb (s : Sim c W) {β : Nat} (hβ : c.H β = some (.cells el cs)) (hb : But W W' (c.φ β)) :
    Ext c W (c.sub (without c.H β)) W' ∧ Sim (c.sub (without c.H β)) W' := by
  have aw : c.live β := by simp [Ctx.live, hβ]
  have aY := ai.without c.H β
  have hne : ∀ x, (without c.H β x).isSome = true → c.φ x ≠ c.φ β := by
    intro x hx e
    have := s.inj x β (aY.live hx) aw e
    subst this
    simp [without] at hx
  have he : Ext c W (c.sub (without c.H β)) W' :=
    { A := fun _ h => h, newA := fun _ h => .inl h, used := fun _ h => h, live := fun x _ h => aY.live h, φ := fun _ _ _ => rfl, room := fun _ _ _ => rfl,
      keep := fun b hlt hn => hb.keep b hlt (fun e => hn β aw e.symm), old := fun x h _ => ⟨x, aY.live h, rfl⟩, size := hb.size, os := hb.os, tape := hb.tape, output := hb.output }
  refine ⟨he, fun x h => s.used x (aY.live h), fun x ox hx => ?_, fun x h => qZd (s.lt x (aY.live h)) hb.size, fun x h => s.notA x (aY.live h), fun x y hx hy e => s.inj x y (aY.live hx) (aY.live hy) e, fun b hA => qZd (s.ltA b hA) hb.size⟩
  have gp : without c.H β x = some ox := hx
  have hxs : (without c.H β x).isSome = true := by simp [gp]
  refine (s.obj x ox (aY x ox gp)).abides (he.abides s) (s.used x (aY.live hxs)) (by simp [Ctx.live, Ctx.sub, gp]) (hb.keep _ (s.lt x (aY.live hxs)) (hne x hxs)) ?_
  intro st pe tm ps as bo df e'
  subst e'
  exact isDef.without hβ (s.loopOk (aY x _ gp))
def vunsafeString (P : Program) (H : Nat → Option Vo) (pt : TypeId) (p n : VV) : Option (VV × Ve) :=
  match p, n with
  | .ptr β 0, .lit (.int .i64 n) => match H β, P.underlying pt with
    | some (.cells (some e) cs), some (.pointer e') => if e' = e ∧ P.cellsOf e = 1 ∧ 0 < n ∧ n ≤ 9223372036854775807 ∧ n.toNat ≤ cs.length then (byteL (cs.take n.toNat)).map fun l => (.lit (.string ⟨⟨l⟩⟩), .kill β) else none
    | _, _ => none
  | _, _ => none
theorem But.freeze (W : World) (b n : Nat) : But W (W.freeze ⟨b, 0, none⟩ n) b := by
  unfold World.freeze
  split
  · exact But.refl W b
  · exact ⟨fun k hk hne => by simp [Array.getElem?_modify, hne, Ne.symm hne], by simp, rfl, rfl, rfl⟩
theorem VW (s : Sim c W) {pt it : TypeId} {p n : VV} (h : vunsafeString P c.H pt p n = some (x, eff)) (hr : Rep c W p v) (hn : Rep c W n w) :
    Stp P (aZ (Builtin.unsafeString_ #[pt, it] ty #[v, w])) c W γ x eff := by
  unfold vunsafeString at h
  split at h
  · rename_i β k
    split at h
    · rename_i e cs e' hβ hp
      split at h
      · rename_i hc
        obtain ⟨c1, c2, c3, c4, c5⟩ := hc
        subst c1
        cases hb : byteL (cs.take k.toNat) with
        | none => simp [hb] at h
        | some l =>
          simp [hb] at h
          obtain ⟨rfl, rfl⟩ := h
          have aw : c.live β := by simp [Ctx.live, hβ]
          have hv : v = .pointer (some ⟨c.φ β, 0, none⟩) := hr.2 aw
          have hw : w = .int .i64 k := hn
          subst hv hw
          obtain ⟨arr, e0, g1, g2, g3, g4, g5⟩ := s.obj β _ hβ
          have Fc := g5 _ rfl
          subst Fc
          obtain ⟨vs, hvs, hcell⟩ := Rc.list (Rc.take k.toNat (Rc.of_obj s hβ))
          have hvb := EZ hb hvs
          have ba : l.length = k.toNat := by
            have h1 := hvs.length
            rw [hvb] at h1
            simp at h1
            omega
          have hkl : (k : Int) = (l.length : Int) := by omega
          rw [hkl]
          have aI := Lib.run_unsafeString_row (P := P) W pt it ty e0 hp c2 (c.φ β) arr.size (by simp [World.shape?, g1]) l (by intro e; subst e; simp at ba; omega) (by omega) (by omega) (fun j u hu => by
            rw [mf]
            exact hcell j _ (by rw [hvb]; simp [hu]))
          obtain ⟨k1, k2⟩ := Fb s hβ (But.freeze W (c.φ β) l.length)
          exact ⟨_, _, _, _, cP aI, .inl rfl, rfl, k1, k2, rfl, fun _ h => .inl h⟩
      · cases h
    · cases h
  · cases h
def posSz (P : Program) (t : TypeId) : Bool := match szT P t with
  | some n => n != 0
  | none => false
theorem Sn (h : posSz P t = true) : ∃ n, szT P t = some n ∧ n ≠ 0 := by
  unfold posSz at h
  split at h
  · rename_i n hn; exact ⟨n, hn, by simpa using h⟩
  · cases h
def vptrConv (P : Program) (H : Nat → Option Vo) (src dst : TypeId) (x : VV) : Option VV :=
  match x with
  | .ptr β off => match P.underlying src, P.underlying dst, H β with
    | some (.pointer t), some .unsafePointer, some (.cells _ cs) => if off < cs.length ∧ posSz P t = true then some (.ptr β off) else none
    | some .unsafePointer, some (.pointer u), some (.cells (some e) cs) => if e = u ∧ off = 0 ∧ P.cellsOf u ≠ 0 ∧ P.cellsOf u ≤ cs.length ∧ posSz P u = true then some (.ptr β 0) else none
    | _, _, _ => none
  | _ => none
theorem Fe (hc : P.cellsOf e ≠ 0) {count : Nat} (hn : 1 ≤ count) : liesAt P P.depth e count 0 e 1 = true := by
  have hd : P.depth = (2 * (P.types.size + Made.depth) + 1) + 1 := rfl
  rw [hd]
  simp only [liesAt, Bool.or_eq_true]
  left
  rw [hd]
  simp [rowAt, hc, hn, sameLayout]
theorem Ff (s : Sim c W) (h : vptrConv P c.H src dst x = some y) (hr : Rep c W x v) : Stp P (aZ (convert src dst v)) c W γ y .none := by
  unfold vptrConv at h
  split at h
  · rename_i β off
    split at h
    · rename_i t el cs hs hd hβ
      split at h
      · rename_i hc
        cases h
        obtain ⟨c1, c2⟩ := hc
        have aw : c.live β := by simp [Ctx.live, hβ]
        have hv : v = .pointer (some ⟨c.φ β, off, none⟩) := hr.2 aw
        subst hv
        obtain ⟨arr, e0, g1, g2, g3, g4, g5⟩ := s.obj β _ hβ
        have hsh : W.shape? (c.φ β) = some (e0, arr.size) := by simp [World.shape?, g1]
        obtain ⟨n, hn, c2⟩ := Sn c2
        · refine Stp.same s (cP (v := .pointer (some ⟨c.φ β, off, none⟩)) ?_) ⟨hr.1, fun _ => rfl⟩
          have hlt : ¬ arr.size ≤ off := by omega
          simp [convert, run_underlying hs, run_underlying hd, Conv.unsafePointer, Conv.seenAt, viewAt, hsh, cellsIn, kh hn, c2, hlt]
      · cases h
    · rename_i u e cs hs hd hβ
      split at h
      · rename_i hc
        cases h
        obtain ⟨c1, c2, c3, c4, c5⟩ := hc
        subst c1 c2
        have aw : c.live β := by simp [Ctx.live, hβ]
        have hv : v = .pointer (some ⟨c.φ β, 0, none⟩) := hr.2 aw
        subst hv
        obtain ⟨arr, e0, g1, g2, g3, g4, g5⟩ := s.obj β _ hβ
        have Fc := g5 _ rfl
        subst Fc
        have hsh : W.shape? (c.φ β) = some (e0, arr.size) := by simp [World.shape?, g1]
        obtain ⟨n, hn, c5⟩ := Sn c5
        · have hlies := Fe (P := P) c3 (count := arr.size / P.cellsOf e0) ((Nat.one_le_div_iff (Nat.pos_of_ne_zero c3)).2 (by omega))
          refine Stp.same s (cP (v := .pointer (some ⟨c.φ β, 0, none⟩)) ?_) ⟨hr.1, fun _ => rfl⟩
          simp [convert, run_underlying hs, run_underlying hd, Conv.unsafePointer, Conv.seenAt, viewAt, hsh, variablesAt, kh hn, c5, hlies]
      · cases h
    · cases h
  · cases h
def vptrEq (P : Program) (H : Nat → Option Vo) (op : BinOp) (t : TypeId) (a b : VV) : Option VV :=
  match op with
  | .eql => (eq1 P H t a b).map fun r => .lit (.bool r)
  | .neq => (eq1 P H t a b).map fun r => .lit (.bool !r)
  | _ => none
 where eq1 (P : Program) (H : Nat → Option Vo) (t : TypeId) (a b : VV) : Option Bool :=
  match P.underlying t with
  | some (.pointer el) => match szT P el with
    | some n => if n = 0 then none else match a, b with
      | .ptr β o1, .ptr δ o2 => if β = δ ∧ (H β).isSome = true then some (o1 == o2) else none
      | .ptr β _, .lit (.pointer none) => if (H β).isSome = true then some false else none
      | .lit (.pointer none), .ptr β _ => if (H β).isSome = true then some false else none
      | _, _ => none
    | none => none
  | some (.slice _) => match a, b with
    | .ref β _ _ _ _, .lit (.slice none 0 0) => if (H β).isSome = true then some false else none
    | .sl cs _ _, .lit (.slice none 0 0) => if cs ≠ [] then some false else none
    | _, _ => none
  | _ => none
theorem VX (W : World) (d : Nat) (t el : TypeId) (b o1 o2 n : Nat) (hu : P.underlying t = some (.pointer el)) (hn : szT P el = some n) (h0 : n ≠ 0) :
    (Op.equalIn (d + 1) t (.pointer (some ⟨b, o1, none⟩)) (.pointer (some ⟨b, o2, none⟩))).run P W = .ok (o1 == o2) W := by
  have e3 : ((⟨b, o1, none⟩ : Addr) == ⟨b, o2, none⟩) = (o1 == o2) := by
    rw [Bool.eq_iff_iff]; simp
  simp [Op.equalIn, run_underlying hu, kh hn, h0, sameAddr, e3]
theorem VY (W : World) (d : Nat) (t el : TypeId) (a : Addr) (hu : P.underlying t = some (.pointer el)) :
    (Op.equalIn (d + 1) t (.pointer (some a)) (.pointer none)).run P W = .ok false W := by
  simp [Op.equalIn, run_underlying hu]
theorem VZ (W : World) (d : Nat) (t el : TypeId) (a : Addr) (hu : P.underlying t = some (.pointer el)) :
    (Op.equalIn (d + 1) t (.pointer none) (.pointer (some a))).run P W = .ok false W := by
  simp [Op.equalIn, run_underlying hu]
theorem yr {a b : VV} {r : Bool} (h : vptrEq.eq1 P c.H t a b = some r) (ha : Rep c W a u) (hb : Rep c W b v) :
    (Op.equal t u v).run P W = .ok r W ∧ ((∃ p q, u = .pointer p ∧ v = .pointer q) ∨ ∃ a1 l1 c1 a2 l2 c2, u = .slice a1 l1 c1 ∧ v = .slice a2 l2 c2) := by
  unfold vptrEq.eq1 at h
  split at h
  · rename_i el hu
    split at h
    · rename_i n hn
      split at h
      · cases h
      · rename_i h0
        split at h
        · rename_i β o1 δ o2
          split at h
          · rename_i hc
            cases h
            obtain ⟨c1, c2⟩ := hc
            subst c1
            have e1 : u = .pointer (some ⟨c.φ β, o1, none⟩) := ha.2 c2
            have e2 : v = .pointer (some ⟨c.φ β, o2, none⟩) := hb.2 c2
            subst e1 e2
            refine ⟨?_, .inl ⟨_, _, rfl, rfl⟩⟩
            exact VX W 9999 t el (c.φ β) o1 o2 n hu hn h0
          · cases h
        · rename_i β o1
          split at h
          · rename_i hc
            cases h
            have e1 : u = .pointer (some ⟨c.φ β, o1, none⟩) := ha.2 hc
            have e2 : v = .pointer none := hb
            subst e1 e2
            exact ⟨VY W 9999 t el _ hu, .inl ⟨_, _, rfl, rfl⟩⟩
          · cases h
        · rename_i β o1
          split at h
          · rename_i hc
            cases h
            have e1 : u = .pointer none := ha
            have e2 : v = .pointer (some ⟨c.φ β, o1, none⟩) := hb.2 hc
            subst e1 e2
            exact ⟨VZ W 9999 t el _ hu, .inl ⟨_, _, rfl, rfl⟩⟩
          · cases h
        · cases h
    · cases h
  · rename_i el hu
    split at h
    · rename_i β off len es cp
      split at h
      · rename_i hc
        cases h
        obtain ⟨cap, e1, _⟩ := ha.2 hc
        have e2 : v = .slice none 0 0 := hb
        subst e1 e2
        exact ⟨run_equal_slice_nil W t el _ _ _ hu, .inr ⟨_, _, _, _, _, _, rfl, rfl⟩⟩
      · cases h
    · rename_i cs len full
      split at h
      · rename_i hc
        cases h
        obtain ⟨aa, cap, e1, _, _, h3⟩ := ha
        have e2 : v = .slice none 0 0 := hb
        subst e1 e2
        rcases h3 with h3 | ⟨b, o, rfl, _⟩
        · exact absurd h3 hc
        · exact ⟨run_equal_slice_nil W t el _ _ _ hu, .inr ⟨_, _, _, _, _, _, rfl, rfl⟩⟩
      · cases h
    · cases h
  · cases h
theorem Fg {x y : Operand} {a b z : VV} (h : vptrEq P c.H op t a b = some z) (ha : Rep c W a u) (hb : Rep c W b v) :
    ∃ w, ((do eqGuard op t x y u v; binOp op t u v) : Sem Value).run P W = .ok w W ∧ Rep c W z w := by
  unfold vptrEq at h
  split at h
  · cases hq : vptrEq.eq1 P c.H t a b with
    | none => simp [hq] at h
    | some r =>
      simp [hq] at h
      subst h
      obtain ⟨h1, ⟨p, q, rfl, rfl⟩ | ⟨_, _, _, _, _, _, rfl, rfl⟩⟩ := yr hq ha hb
      all_goals exact ⟨.bool r, by simp [eqGuard, binOp, h1], rfl⟩
  · cases hq : vptrEq.eq1 P c.H t a b with
    | none => simp [hq] at h
    | some r =>
      simp [hq] at h
      subst h
      obtain ⟨h1, ⟨p, q, rfl, rfl⟩ | ⟨_, _, _, _, _, _, rfl, rfl⟩⟩ := yr hq ha hb
      all_goals exact ⟨.bool !r, by simp [eqGuard, binOp, h1], rfl⟩
  · cases h
def vclear (P : Program) (H : Nat → Option Vo) (t : TypeId) (x : VV) : Option (VV × Ve) :=
  match P.underlying t, nilS x with
  | some (.slice _), .sl [] 0 _ => some (.tup [], .none)
  | some (.slice e), .ref β off len es _ => match H β, vzero P e with
    | some (.cells el cs), some z => if 0 < len ∧ z.size = es ∧ off + len * es ≤ cs.length ∧ (vzeros z (len * es)).all VV.leaf = true then some (.tup [], .upd β (.cells el (overwrite cs off (vzeros z (len * es))))) else none
    | _, _ => none
  | _, _ => none
theorem Fh (s : Sim c W) (h : vclear P c.H t x = some (y, eff)) (hr : Rep c W x v) : Stp P (aZ (Builtin.clear_ #[t] ty #[v])) c W γ y eff := by
  replace hr := yj hr
  unfold vclear at h
  generalize nilS x = x' at h hr
  split at h
  · rename_i e full hu
    cases h
    obtain ⟨aa, cap, rfl, h1, h2, h3⟩ := hr
    refine Stp.same s (cP (v := .tuple #[]) ?_) ⟨[], rfl, rfl⟩
    cases aa <;> simp [Builtin.clear_, run_underlying hu]
  · rename_i e β off len es cp hu
    split at h
    · rename_i el cs z hβ hz
      split at h
      · rename_i hc
        obtain ⟨c1, c2, c3, c4⟩ := hc
        cases h
        subst c2
        have aw : c.live β := by simp [Ctx.live, hβ]
        obtain ⟨cap, hv, hcap, hrm, _⟩ := hr.2 aw
        subst hv
        obtain ⟨zv, hzr, hzc, _⟩ := yk hz W
        have hrep := EC (c := c) (W := W) z (len * z.size)
        have hl := hrep.length
        simp only [Array.length_toList, Array.size_map, Array.size_range] at hl
        obtain ⟨W', hst, he, hs⟩ := E6 (P := P) (off := off) s hβ hrep (Dc c4 hrep) (by omega)
        refine ⟨_, .tuple #[], W', c.upd β (.cells el (overwrite cs off (vzeros z (len * z.size)))), cP ?_, .inl rfl, ⟨[], rfl, rfl⟩, he, hs, rfl, fun _ h => .inl h⟩
        have hne : len ≠ 0 := by omega
        obtain ⟨k, rfl⟩ : ∃ k, len = k + 1 := ⟨len - 1, by omega⟩
        simp only [Array.toList_map, Array.toList_range] at hst
        simp [Builtin.clear_, run_underlying hu, hzr, Builtin.zeroCells, hzc, hst]
      · cases h
    · cases h
  · cases h
def vnative (P : Program) (f : FuncId) (args : List VV) : Option VV :=
  match P.funcs[f]? with
  | some fn => match fn.body with
    | some _ => none
    | none => if fn.name = "internal/abi.NoEscape" ∧ (Extern.findNext fn).isNone = true then match args with
        | [x] => some x
        | _ => none
      else match valL? args with
      | some vs => match aA P (callFunc f ⟨vs⟩) with
        | some (.value v) => some (ofVal v)
        | _ => none
      | none => none
  | none => none
theorem Wa (fn : Func) (h : fn.name = "internal/abi.NoEscape") : Extern.find fn = some Extern.AbiNoEscape.same := by
  have h1 : Extern.allGenericRows.lookup "internal/abi.NoEscape" = none := by kernel_rfl
  have h2 : Extern.allTypedRows.lookup "internal/abi.NoEscape" = none := by kernel_rfl
  have h3 : Extern.allRows.lookup "internal/abi.NoEscape" = some Extern.AbiNoEscape.same := by kernel_rfl
  simp [Extern.find, h, h1, h2, h3]
theorem Fi {f : FuncId} {args : List VV} {vs : List Value} (h : vnative P f args = some y) (hr : Rl c W args vs) : ∃ v, (callFunc f ⟨vs⟩).run P W = .ok (.value v) W ∧ Rep c W y v := by
  unfold vnative at h
  split at h
  · rename_i fn hf
    split at h
    · cases h
    · rename_i hb
      split at h
      · rename_i hn
        split at h
        · rename_i x
          cases h
          obtain ⟨u, us, e, h1, h2⟩ := hr
          have e2 : us = [] := h2
          subst e2
          subst e
          have hnx : Extern.findNext fn = none := by simpa using hn.2
          have hng : ¬ fn.name = "runtime.NumGoroutine" := by rw [hn.1]; decide
          refine ⟨u, ?_, h1⟩
          have hs : Extern.AbiNoEscape.same (⟨[u]⟩ : Array Value) = pure u := rfl
          simp [callFunc, hf, hb, hng, hnx, Wa fn hn.1, hs]
        · cases h
      · split at h
        · rename_i vs' hvs
          split at h
          · rename_i v hv
            cases h
            have e := wH hvs hr
            subst e
            exact ⟨v, mS hv W, yh c W v⟩
          · cases h
        · cases h
  · cases h
def vsliceX (P : Program) (H : Nat → Option Vo) (t : TypeId) (x : VV) (lo hi mx : Option VV) : Option VV :=
  match mx with
  | some _ => none
  | none => match P.underlying t, x with
    | some (.slice e), .ref β off _ es cp => match hi with
      | none => none
      | some z => match szT P e, vbound 0 lo, vbound 0 (some z) with
        | some n, some l, some h => if l < h ∧ h ≤ cp ∧ n = es ∧ (H β).isSome = true then some (.ref β (off + l * n) (h - l) n (cp - l)) else none
        | _, _, _ => none
    | some (.array n e), .ptr β off => match H β with
      | some (.cells _ cs) => match szT P e, vbound 0 lo, vbound n hi with
        | some sz, some l, some h => if l ≤ h ∧ h ≤ n ∧ l < n ∧ off + n * sz ≤ cs.length then some (.ref β (off + l * sz) (h - l) sz (n - l)) else none
        | _, _, _ => none
      | _ => none
    | _, _ => none
theorem Fj (d d' : Nat) (z : VV) : vbound d (some z) = vbound d' (some z) := by
  cases z <;> try rfl
  rename_i v
  cases v <;> rfl
theorem So {h : Nat} {b : Bool} (hlo : vbound 0 lo = some l) (hhi : vbound len hi = some h)
    (rlo : RepO c W lo vlo) (rhi : RepO c W hi vhi) (h1 : l ≤ h) (h2 : h ≤ cap) : (Instr.sliceBounds b len cap vlo vhi none).run P W = .ok (l, h, cap) W := by
  unfold Instr.sliceBounds
  cases hi with
  | none =>
    cases vhi with
    | some _ => exact rhi.elim
    | none =>
      have e := qB hhi
      subst e
      cases lo with
      | none =>
        cases vlo with
        | some _ => exact rlo.elim
        | none => have e := qB hlo; subst e; simp
      | some x =>
        cases vlo with
        | none => exact rlo.elim
        | some v => simp [kS hlo rlo h1]
  | some y =>
    cases vhi with
    | none => exact rhi.elim
    | some u =>
      cases lo with
      | none =>
        cases vlo with
        | some _ => exact rlo.elim
        | none => have e := qB hlo; subst e; simp [kS hhi rhi h2]
      | some x =>
        cases vlo with
        | none => exact rlo.elim
        | some v => simp [kS hhi rhi h2, kS hlo rlo h1]
theorem Fk (s : Sim c W) {mx : Option VV} (h : vsliceX P c.H t x lo hi mx = some y) (hr : Rep c W x v)
    (rlo : RepO c W lo vlo) (rhi : RepO c W hi vhi) (rmx : RepO c W mx vmx) : Stp P (aZ (Instr.sliceAt t v vlo vhi vmx)) c W γ y .none := by
  unfold vsliceX at h
  split at h
  · cases h
  · have hmx : vmx = none := by cases vmx with | none => rfl | some _ => exact rmx.elim
    subst hmx
    split at h
    · rename_i e β off len es cp hu
      split at h
      · cases h
      · rename_i z
        split at h
        · rename_i n l hh hn hlo hhi
          split at h
          · rename_i hc
            obtain ⟨c1, c2, c3, c4⟩ := hc
            cases h
            subst c3
            obtain ⟨cap, e1, h1, h2, h3⟩ := hr.2 c4
            subst e1
            have hhi' : vbound len (some z) = some hh := by rw [Fj len 0]; exact hhi
            have hb := So (P := P) (b := true) (cap := cap) hlo hhi' rlo rhi (by omega) (by omega)
            have hne : ¬ (cap = l) := by omega
            refine Stp.same s (cP (v := .slice (some ⟨c.φ β, off + l * n, none⟩) (hh - l) (cap - l)) ?_) ⟨hr.1.imp id (fun _ => rfl), fun _ => ⟨cap - l, rfl, by omega, ?_, by omega⟩⟩
            · simp [Instr.sliceAt, run_underlying hu, Instr.slice, hb, kh hn, hne, mf]
            · have e3 : l * n + (cap - l) * n = cap * n := by rw [← Nat.add_mul]; congr 1; omega
              omega
          · cases h
        · cases h
    · rename_i n e β off hu
      split at h
      · rename_i el cs hβ
        split at h
        · rename_i sz l hh hn hlo hhi
          split at h
          · rename_i hc
            obtain ⟨c1, c2, c3, c4⟩ := hc
            cases h
            have aw : c.live β := by simp [Ctx.live, hβ]
            have hv : v = .pointer (some ⟨c.φ β, off, none⟩) := hr.2 aw
            subst hv
            obtain ⟨Wb, e0, g1, g2, g3, g4, g5⟩ := s.obj β _ hβ
            have hb := So (P := P) (b := false) (cap := n) hlo hhi rlo rhi c1 c2
            have hne : ¬ (n = l) := by omega
            refine Stp.same s (cP (v := .slice (some ⟨c.φ β, off + l * sz, none⟩) (hh - l) (n - l)) ?_) ⟨⟨s.used β aw, rfl⟩, fun _ => ⟨n - l, rfl, by omega, ?_, qZh _⟩⟩
            · simp [Instr.sliceAt, Instr.sureAddr, run_underlying hu, hb, kh hn, hne, mf]
            · have e3 : l * sz + (n - l) * sz = n * sz := by rw [← Nat.add_mul]; congr 1; omega
              rw [← g2]
              omega
          · cases h
        · cases h
      · cases h
    · cases h
end Go.V
end
