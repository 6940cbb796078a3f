/- Part of a proof. -/
import Derived.Below
import Derived.OrdersIn
import Derived.KernelRfl
import Derived.Laws.Sem
import Derived.Laws.AppendOwn
import Derived.Laws.CopyRow
set_option linter.all false
section
namespace Go.V
open Go
inductive VV where
 | any
 | lit (v : Value)
 | agg (cs : List VV)
 | tup (vs : List VV)
 | sl (cs : List VV) (len : Nat) (full : Bool)
 | tp (cs : List VV)
 | ref (b off len es cp : Nat)
 | ptr (b off : Nat)
 | mp (b : Nat)
 | mt (ks : List Value) (vs : List VV)
 | it (b : Nat)
 | yl (b : Nat)
 | fn (f : Fn) (first captured : List VV)
 | ifc (t : TypeId) (x : VV)
 deriving Inhabited
inductive VObj where
 | cells (el : Option TypeId) (cs : List VV)
 | map (es : List (Value × VV))
 | stri (s : ByteArray) (pos : Nat)
 | loop (st : LoopState) (pending : Option Code) (tm : List VV) (ps : Array Tmp) (assign body : Code) (df : Nat)
 | deferred (calls : Option (List (VV × List VV)))
 | loopF (st : LoopState) (pending : Option Code) (tm : List VV) (ps : Array Tmp) (assign body : Code) (fn : Nat)
structure Ctx where
 A : Nat → Prop
 φ : Nat → Nat
 room : Nat → Nat
 used : Nat → Prop
 H : Nat → Option VObj
abbrev Ctx.live (c : Ctx) (β : Nat) : Prop := (c.H β).isSome = true
mutual
def Rep (c : Ctx) (W : World) : VV → Value → Prop
 | .any, _ => True
 | .lit u, v => v = u
 | .agg cs, v => ∃ l, v = .agg ⟨l⟩ ∧ RepL c W cs l
 | .tup vs, v => ∃ l, v = .tuple ⟨l⟩ ∧ RepL c W vs l
 | .sl cs len full, v => ∃ base cap, v = .slice base len cap ∧ len ≤ cap ∧ (full = true → cap = len) ∧
   (cs = [] ∨ ∃ b o, base = some ⟨b, o, none⟩ ∧ c.A b ∧ RepC c W b o cs)
 | .tp cs, v => ∃ b o, v = .pointer (some ⟨b, o, none⟩) ∧ c.A b ∧ RepC c W b o cs
 | .ref β off len es cp, v => (c.used β ∧ v.oneCell' = true) ∧ (c.live β → ∃ cap, v = .slice (some ⟨c.φ β, off, none⟩) len cap ∧ len ≤ cap ∧ off + cap * es ≤ c.room β ∧ cp ≤ cap)
 | .ptr β off, v => (c.used β ∧ v.oneCell' = true) ∧ (c.live β → v = .pointer (some ⟨c.φ β, off, none⟩))
 | .mp β, v => (c.used β ∧ v.oneCell' = true) ∧ (c.live β → v = .map (some (c.φ β)))
 | .mt ks vs, v => ∃ b, v = .map (some b) ∧ c.A b ∧ ∃ ents clk, W.heap[b]? = some (.map ents clk) ∧ ents.toList.map (·.key) = ks ∧ RepL c W vs (ents.toList.map (·.val))
 | .it β, v => (c.used β ∧ v.oneCell' = true) ∧ (c.live β → v = .pointer (some ⟨c.φ β, 0, none⟩))
 | .yl β, v => (c.used β ∧ v.oneCell' = true) ∧ (c.live β → v = .func (.yield (c.φ β)) #[] #[])
 | .fn f first captured, v => ∃ l₁ l₂, v = .func f ⟨l₁⟩ ⟨l₂⟩ ∧ RepL c W first l₁ ∧ RepL c W captured l₂
 | .ifc t x, v => ∃ u, v = .iface t u ∧ Rep c W x u
def RepL (c : Ctx) (W : World) : List VV → List Value → Prop
 | [], l => l = []
 | x :: xs, l => ∃ u us, l = u :: us ∧ Rep c W x u ∧ RepL c W xs us
def RepC (c : Ctx) (W : World) (b o : Nat) : List VV → Prop
 | [] => True
 | x :: xs => ∃ u, W.cell? ⟨b, o, none⟩ = some u ∧ Rep c W x u ∧ RepC c W b (o + 1) xs
end
structure Abides (c : Ctx) (W : World) (c' : Ctx) (W' : World) : Prop where
 A : ∀ b, c.A b → c'.A b
 cells : ∀ b, c.A b → W'.heap[b]? = W.heap[b]?
 used : ∀ β, c.used β → c'.used β
 live : ∀ β, c.used β → c'.live β → c.live β
 φ : ∀ β, c.used β → c'.live β → c'.φ β = c.φ β
 room : ∀ β, c.used β → c'.live β → c'.room β = c.room β
theorem cell?_of_heap {W W' : World} {a : Addr} (h : W'.heap[a.block]? = W.heap[a.block]?) : W'.cell? a = W.cell? a := by
 unfold World.cell?; rw [h]
section
variable {c c' : Ctx} {W W' : World} (ab : Abides c W c' W')
include ab
mutual
theorem Rep.abides : ∀ (x : VV) {v : Value}, Rep c W x v → Rep c' W' x v
 | .any, _, _ => trivial
 | .lit _, _, h => h
 | .agg _, _, ⟨l, e, h⟩ => ⟨l, e, RepL.abides _ h⟩
 | .tup _, _, ⟨l, e, h⟩ => ⟨l, e, RepL.abides _ h⟩
 | .sl _ _ _, _, ⟨base, cap, e, h1, h2, h3⟩ => ⟨base, cap, e, h1, h2, h3.imp id fun ⟨b, o, e2, hA, h⟩ => ⟨b, o, e2, ab.A b hA, RepC.abides b o _ hA h⟩⟩
 | .tp _, _, ⟨b, o, e, hA, h⟩ => ⟨b, o, e, ab.A b hA, RepC.abides b o _ hA h⟩
 | .ref β _ _ _ _, _, ⟨⟨hu, ho⟩, h⟩ => ⟨⟨ab.used β hu, ho⟩, fun hl => by rw [ab.φ β hu hl, ab.room β hu hl]; exact h (ab.live β hu hl)⟩
 | .ptr β _, _, ⟨⟨hu, ho⟩, h⟩ => ⟨⟨ab.used β hu, ho⟩, fun hl => by rw [ab.φ β hu hl]; exact h (ab.live β hu hl)⟩
 | .mp β, _, ⟨⟨hu, ho⟩, h⟩ => ⟨⟨ab.used β hu, ho⟩, fun hl => by rw [ab.φ β hu hl]; exact h (ab.live β hu hl)⟩
 | .mt _ vs, _, ⟨b, e, hA, ents, clk, h1, h2, h3⟩ => ⟨b, e, ab.A b hA, ents, clk, by rw [ab.cells b hA]; exact h1, h2, RepL.abides vs h3⟩
 | .it β, _, ⟨⟨hu, ho⟩, h⟩ => ⟨⟨ab.used β hu, ho⟩, fun hl => by rw [ab.φ β hu hl]; exact h (ab.live β hu hl)⟩
 | .yl β, _, ⟨⟨hu, ho⟩, h⟩ => ⟨⟨ab.used β hu, ho⟩, fun hl => by rw [ab.φ β hu hl]; exact h (ab.live β hu hl)⟩
 | .fn _ _ _, _, ⟨l₁, l₂, e, h1, h2⟩ => ⟨l₁, l₂, e, RepL.abides _ h1, RepL.abides _ h2⟩
 | .ifc _ x, _, ⟨u, e, h⟩ => ⟨u, e, Rep.abides x h⟩
theorem RepL.abides : ∀ (xs : List VV) {l : List Value}, RepL c W xs l → RepL c' W' xs l
 | [], _, h => h
 | x :: xs, _, ⟨u, us, e, h1, h2⟩ => ⟨u, us, e, Rep.abides x h1, RepL.abides xs h2⟩
theorem RepC.abides (b o : Nat) : ∀ (xs : List VV), c.A b → RepC c W b o xs → RepC c' W' b o xs
 | [], _, _ => trivial
 | x :: xs, hA, ⟨u, e, h1, h2⟩ => ⟨u, by rw [cell?_of_heap (ab.cells b hA)]; exact e, Rep.abides x h1, RepC.abides b (o + 1) xs hA h2⟩
end
end
theorem RepL.length {c : Ctx} {W : World} : ∀ {xs : List VV} {l : List Value}, RepL c W xs l → l.length = xs.length
 | [], _, h => by simp [RepL] at h; simp [h]
 | _ :: _, _, ⟨_, _, e, _, h⟩ => by subst e; simp [RepL.length h]
theorem RepL.get {c : Ctx} {W : World} : ∀ {xs : List VV} {l : List Value} (i : Nat) {x : VV}, RepL c W xs l → xs[i]? = some x → ∃ u, l[i]? = some u ∧ Rep c W x u
 | [], _, _, _, _, h => by simp at h
 | _ :: _, _, 0, _, ⟨u, us, e, h, _⟩, hx => by subst e; simp at hx; subst hx; exact ⟨u, by simp, h⟩
 | _ :: _, _, i + 1, _, ⟨u, us, e, _, h⟩, hx => by
  subst e
  obtain ⟨w, hw, hr⟩ := RepL.get i h (by simpa using hx)
  exact ⟨w, by simpa using hw, hr⟩
theorem RepL.append {c : Ctx} {W : World} : ∀ {xs ys : List VV} {l m : List Value}, RepL c W xs l → RepL c W ys m → RepL c W (xs ++ ys) (l ++ m)
 | [], _, _, _, h, h' => by simp [RepL] at h; subst h; simpa using h'
 | _ :: _, _, _, _, ⟨u, us, e, h1, h2⟩, h' => by subst e; exact ⟨u, us ++ _, rfl, h1, RepL.append h2 h'⟩
theorem RepL.take {c : Ctx} {W : World} : ∀ {xs : List VV} {l : List Value} (n : Nat), RepL c W xs l → RepL c W (xs.take n) (l.take n)
 | [], _, n, h => by simp [RepL] at h; subst h; simp [RepL]
 | _ :: _, _, 0, _ => by simp [RepL]
 | _ :: _, _, n + 1, ⟨u, us, e, h1, h2⟩ => by subst e; exact ⟨u, us.take n, rfl, h1, RepL.take n h2⟩
theorem RepL.drop {c : Ctx} {W : World} : ∀ {xs : List VV} {l : List Value} (n : Nat), RepL c W xs l → RepL c W (xs.drop n) (l.drop n)
 | [], _, n, h => by simp [RepL] at h; subst h; simp [RepL]
 | _ :: _, _, 0, h => by simpa using h
 | _ :: _, _, n + 1, ⟨u, us, e, h1, h2⟩ => by subst e; simpa using RepL.drop n h2
theorem RepL.set {c : Ctx} {W : World} : ∀ {xs : List VV} {l : List Value} (n : Nat) {x : VV} {v : Value}, RepL c W xs l → Rep c W x v → RepL c W (xs.set n x) (l.set n v)
 | [], _, n, _, _, h, _ => by simp [RepL] at h; subst h; simp [RepL]
 | _ :: _, _, 0, _, v, ⟨u, us, e, h1, h2⟩, h => by subst e; exact ⟨v, us, rfl, h, h2⟩
 | _ :: _, _, n + 1, _, _, ⟨u, us, e, h1, h2⟩, h => by subst e; exact ⟨u, us.set n _, rfl, h1, RepL.set n h2 h⟩
theorem RepC.drop {c : Ctx} {W : World} {b : Nat} : ∀ {xs : List VV} {o : Nat} (n : Nat), RepC c W b o xs → RepC c W b (o + n) (xs.drop n)
 | [], _, n, _ => by simp [RepC]
 | _ :: _, _, 0, h => by simpa using h
 | _ :: xs, o, n + 1, ⟨_, _, _, h⟩ => by
  have := RepC.drop (b := b) (xs := xs) (o := o + 1) n h
  rw [show o + (n + 1) = o + 1 + n by omega]; simpa using this
theorem RepC.take {c : Ctx} {W : World} {b : Nat} : ∀ {xs : List VV} {o : Nat} (n : Nat), RepC c W b o xs → RepC c W b o (xs.take n)
 | [], _, n, _ => by simp [RepC]
 | _ :: _, _, 0, _ => by simp [RepC]
 | _ :: _, _, n + 1, ⟨u, e, h1, h2⟩ => ⟨u, e, h1, RepC.take n h2⟩
theorem RepC.get {c : Ctx} {W : World} {b : Nat} : ∀ {xs : List VV} {o : Nat} (i : Nat) {x : VV}, RepC c W b o xs → xs[i]? = some x → ∃ u, W.cell? ⟨b, o + i, none⟩ = some u ∧ Rep c W x u
 | [], _, _, _, _, h => by simp at h
 | _ :: _, _, 0, _, ⟨u, e, h, _⟩, hx => by simp at hx; subst hx; exact ⟨u, e, h⟩
 | _ :: xs, o, i + 1, _, ⟨_, _, _, h⟩, hx => by
  obtain ⟨w, hw, hr⟩ := RepC.get (b := b) (xs := xs) (o := o + 1) i h (by simpa using hx)
  exact ⟨w, by rw [show o + (i + 1) = o + 1 + i by omega]; exact hw, hr⟩
theorem RepC.of_cells {c : Ctx} {W : World} {b : Nat} : ∀ {xs : List VV} {l : List Value} {o : Nat}, RepL c W xs l → (∀ i u, l[i]? = some u → W.cell? ⟨b, o + i, none⟩ = some u) → RepC c W b o xs
 | [], _, _, _, _ => trivial
 | x :: xs, _, o, ⟨u, us, e, h1, h2⟩, h => by
  subst e
  refine ⟨u, by simpa using h 0 u (by simp), h1, RepC.of_cells h2 fun i w hw => ?_⟩
  rw [show o + 1 + i = o + (i + 1) by omega]
  exact h (i + 1) w (by simpa using hw)
theorem RepC.list {c : Ctx} {W : World} {b : Nat} : ∀ {xs : List VV} {o : Nat}, RepC c W b o xs → ∃ l, RepL c W xs l ∧ ∀ i u, l[i]? = some u → W.cell? ⟨b, o + i, none⟩ = some u
 | [], _, _ => ⟨[], rfl, fun i u h => by simp at h⟩
 | x :: xs, o, ⟨u, e, h1, h2⟩ => by
  obtain ⟨l, hl, hc⟩ := RepC.list h2
  refine ⟨u :: l, ⟨u, l, rfl, h1, hl⟩, fun i w hw => ?_⟩
  cases i with
  | zero => simp at hw; subst hw; exact e
  | succ i => rw [show o + (i + 1) = o + 1 + i by omega]; exact hc i w (by simpa using hw)
def isDef (H : Nat → Option VObj) (β : Nat) : Prop := ∃ ds, H β = some (.deferred ds)
theorem isDef.live {H : Nat → Option VObj} {β : Nat} (h : isDef H β) : (H β).isSome = true := by obtain ⟨_, h⟩ := h; simp [h]
def ObjRep (c : Ctx) (W : World) (β : Nat) : VObj → Prop
 | .cells el cs => ∃ arr e, W.heap[c.φ β]? = some (.cells arr e (0, 0)) ∧ arr.size = c.room β ∧ cs.length ≤ arr.size ∧ RepL c W cs (arr.toList.take cs.length) ∧ ∀ t, el = some t → e = t
 | .map es => ∃ ents clk, W.heap[c.φ β]? = some (.map ents clk) ∧ ents.toList.map (·.key) = es.map (·.1) ∧ RepL c W (es.map (·.2)) (ents.toList.map (·.val))
 | .stri s pos => W.heap[c.φ β]? = some (.stringIter s pos)
 | .loop st pe tm ps as bo df => ∃ l fn, W.heap[c.φ β]? = some (.loop { state := st, pending := pe, fn := fn, tmps := ⟨l⟩, params := ps, assign := as, body := bo, defers := c.φ df }) ∧ RepL c W tm l ∧ c.used df ∧ isDef c.H df
 | .loopF st pe tm ps as bo fn => ∃ l dn, W.heap[c.φ β]? = some (.loop { state := st, pending := pe, fn := fn, tmps := ⟨l⟩, params := ps, assign := as, body := bo, defers := dn }) ∧ RepL c W tm l
 | .deferred none => W.heap[c.φ β]? = some (.deferred none)
 | .deferred (some ds) => ds = [] ∧ W.heap[c.φ β]? = some (.deferred (some []))
structure Sim (c : Ctx) (W : World) : Prop where
 used : ∀ β, c.live β → c.used β
 obj : ∀ β o, c.H β = some o → ObjRep c W β o
 lt : ∀ β, c.live β → c.φ β < W.heap.size
 notA : ∀ β, c.live β → ¬ c.A (c.φ β)
 inj : ∀ β γ, c.live β → c.live γ → c.φ β = c.φ γ → β = γ
 ltA : ∀ b, c.A b → b < W.heap.size
structure Ext (c : Ctx) (W : World) (c' : Ctx) (W' : World) : Prop where
 A : ∀ b, c.A b → c'.A b
 newA : ∀ b, c'.A b → c.A b ∨ W.heap.size ≤ b ∨ ∃ β, c.live β ∧ c.φ β = b
 used : ∀ β, c.used β → c'.used β
 live : ∀ β, c.used β → c'.live β → c.live β
 φ : ∀ β, c.used β → c'.live β → c'.φ β = c.φ β
 room : ∀ β, c.used β → c'.live β → c'.room β = c.room β
 keep : ∀ b, b < W.heap.size → (∀ β, c.live β → c.φ β ≠ b) → W'.heap[b]? = W.heap[b]?
 old : ∀ γ, c'.live γ → c'.φ γ < W.heap.size → ∃ β, c.live β ∧ c.φ β = c'.φ γ
 size : W.heap.size ≤ W'.heap.size
 os : W'.os = W.os
 tape : W'.tape = W.tape
 output : W'.output = W.output
theorem Ext.abides {c c' : Ctx} {W W' : World} (h : Ext c W c' W') (s : Sim c W) : Abides c W c' W' :=
 ⟨h.A, fun b hA => h.keep b (s.ltA b hA) fun β hl e => s.notA β hl (e ▸ hA), h.used, h.live, h.φ, h.room⟩
theorem Ext.refl (c : Ctx) (W : World) : Ext c W c W :=
 ⟨fun _ h => h, fun _ h => .inl h, fun _ h => h, fun _ _ h => h, fun _ _ _ => rfl, fun _ _ _ => rfl, fun _ _ _ => rfl,
  fun γ h _ => ⟨γ, h, rfl⟩, Nat.le_refl _, rfl, rfl, rfl⟩
theorem Ext.trans {c c' c'' : Ctx} {W W' W'' : World} (h : Ext c W c' W') (k : Ext c' W' c'' W'') : Ext c W c'' W'' where
 A b hb := k.A b (h.A b hb)
 newA b hb := by
  rcases k.newA b hb with g | g | ⟨γ, hl, e⟩
  ·exact h.newA b g
  ·exact .inr (.inl (Nat.le_trans h.size g))
  ·rcases Nat.lt_or_ge b W.heap.size with hlt | hge
   ·obtain ⟨β, hβ, e'⟩ := h.old γ hl (e ▸ hlt)
    exact .inr (.inr ⟨β, hβ, e'.trans e⟩)
   ·exact .inr (.inl hge)
 used β hb := k.used β (h.used β hb)
 live β hu hl := h.live β hu (k.live β (h.used β hu) hl)
 φ β hu hl := (k.φ β (h.used β hu) hl).trans (h.φ β hu (k.live β (h.used β hu) hl))
 room β hu hl := (k.room β (h.used β hu) hl).trans (h.room β hu (k.live β (h.used β hu) hl))
 keep b hb hn := by
  refine (k.keep b (Nat.lt_of_lt_of_le hb h.size) fun γ hl e => ?_).trans (h.keep b hb hn)
  obtain ⟨β, hβ, e'⟩ := h.old γ hl (e ▸ hb)
  exact hn β hβ (e'.trans e)
 old γ hl hlt := by
  obtain ⟨β, hβ, e⟩ := k.old γ hl (Nat.lt_of_lt_of_le hlt h.size)
  obtain ⟨α, hα, e'⟩ := h.old β hβ (by rw [e]; exact hlt)
  exact ⟨α, hα, e'.trans e⟩
 size := Nat.le_trans h.size k.size
 os := k.os.trans h.os
 tape := k.tape.trans h.tape
 output := k.output.trans h.output
theorem Ext.drew (c : Ctx) (W : World) : Ext c W c W.drew :=
 ⟨fun _ h => h, fun _ h => .inl h, fun _ h => h, fun _ _ h => h, fun _ _ _ => rfl, fun _ _ _ => rfl, fun _ _ _ => rfl,
  fun γ h _ => ⟨γ, h, rfl⟩, Nat.le_refl _, rfl, rfl, rfl⟩
theorem oO {c : Ctx} {W W' : World} (h : W'.heap = W.heap) : Abides c W c W' :=
 ⟨fun _ h => h, fun _ _ => by rw [h], fun _ h => h, fun _ _ h => h, fun _ _ _ => rfl, fun _ _ _ => rfl⟩
theorem ObjRep.abides {c c' : Ctx} {W W' : World} (ab : Abides c W c' W') {β : Nat} {o : VObj} (h : ObjRep c W β o)
  (hu : c.used β) (hl : c'.live β) (hh : W'.heap[c.φ β]? = W.heap[c.φ β]?) (hdf : ∀ st pe tm ps as bo df, o = .loop st pe tm ps as bo df → isDef c'.H df) : ObjRep c' W' β o := by
 have e := ab.φ β hu hl
 have er := ab.room β hu hl
 cases o with
 | cells KV cs => obtain ⟨arr, el, h1, h2, h3, h4, h5⟩ := h; exact ⟨arr, el, by rw [e, hh]; exact h1, by rw [er]; exact h2, h3, RepL.abides ab _ h4, h5⟩
 | map es => obtain ⟨ents, clk, h1, h2, h3⟩ := h; exact ⟨ents, clk, by rw [e, hh]; exact h1, h2, RepL.abides ab _ h3⟩
 | stri s pos => show W'.heap[c'.φ β]? = _; rw [e, hh]; exact h
 | loop st pe tm ps as bo df =>
  obtain ⟨l, fn, h1, h2, h3, h4⟩ := h
  have hd := hdf _ _ _ _ _ _ _ rfl
  exact ⟨l, fn, by rw [e, hh, ab.φ df h3 hd.live]; exact h1, RepL.abides ab _ h2, ab.used df h3, hd⟩
 | loopF st pe tm ps as bo fn =>
  obtain ⟨l, dn, h1, h2⟩ := h
  exact ⟨l, dn, by rw [e, hh]; exact h1, RepL.abides ab _ h2⟩
 | deferred ds =>
  cases ds with
  | none => show W'.heap[c'.φ β]? = _; rw [e, hh]; exact h
  | some ds => exact ⟨h.1, by rw [e, hh]; exact h.2⟩
theorem Sim.of_heap {c : Ctx} {W W' : World} (s : Sim c W) (h : W'.heap = W.heap) : Sim c W' where
 used := s.used
 obj β o ho := (s.obj β o ho).abides (oO h) (s.used β (by simp [Ctx.live, ho])) (by simp [Ctx.live, ho]) (by rw [h]) (fun _ _ _ _ _ _ df e => by
  subst e; obtain ⟨_, _, _, _, _, hd⟩ := s.obj β _ ho; exact hd)
 lt β hl := by rw [h]; exact s.lt β hl
 notA := s.notA
 inj := s.inj
 ltA b hb := by rw [h]; exact s.ltA b hb
theorem Sim.drew {c : Ctx} {W : World} (s : Sim c W) : Sim c W.drew := s.of_heap rfl
end Go.V
end
section
namespace Go.V
open Go
structure But (W W' : World) (b : Nat) : Prop where
 keep : ∀ k, k < W.heap.size → k ≠ b → W'.heap[k]? = W.heap[k]?
 size : W.heap.size ≤ W'.heap.size
 os : W'.os = W.os
 tape : W'.tape = W.tape
 output : W'.output = W.output
theorem But.alloc (W : World) (o : Obj) : But W (W.alloc o) W.heap.size :=
 ⟨fun k hk _ => RowKit.Below.heap_alloc W o k hk, by simp, rfl, rfl, rfl⟩
theorem But.trans {W W' W'' : World} {b : Nat} (h : But W W' b) (k : But W' W'' b) : But W W'' b :=
 ⟨fun i hi hb => (k.keep i (Nat.lt_of_lt_of_le hi h.size) hb).trans (h.keep i hi hb), Nat.le_trans h.size k.size, k.os.trans h.os, k.tape.trans h.tape, k.output.trans h.output⟩
theorem But.refl (W : World) (b : Nat) : But W W b := ⟨fun _ _ _ => rfl, Nat.le_refl _, rfl, rfl, rfl⟩
theorem But.drew (W : World) (b : Nat) : But W W.drew b := ⟨fun _ _ _ => rfl, Nat.le_refl _, rfl, rfl, rfl⟩
def Ctx.push (c : Ctx) (H0 : Nat → Option VObj) (γ : Nat) (o : VObj) (b rm : Nat) : Ctx where
 A := c.A
 φ x := if x = γ then b else c.φ x
 room x := if x = γ then rm else c.room x
 used x := x = γ ∨ c.used x
 H x := if x = γ then some o else H0 x
theorem Ctx.push_live {c : Ctx} {H0 : Nat → Option VObj} {γ : Nat} {o : VObj} {b rm x : Nat} (h : (c.push H0 γ o b rm).live x) : x = γ ∨ (x ≠ γ ∧ (H0 x).isSome = true) := by
 by_cases e : x = γ
 ·exact .inl e
 ·right; refine ⟨e, ?_⟩; simpa [Ctx.live, Ctx.push, e] using h
def ar (H0 H : Nat → Option VObj) : Prop := ∀ x o, H0 x = some o → H x = some o
theorem ar.refl (H : Nat → Option VObj) : ar H H := fun _ _ h => h
def without (H : Nat → Option VObj) (β : Nat) : Nat → Option VObj := fun x => if x = β then none else H x
theorem ar.without (H : Nat → Option VObj) (β : Nat) : ar (without H β) H := fun x o h => by
 unfold V.without at h; split at h
 ·cases h
 ·exact h
theorem isDef.without {H : Nat → Option VObj} {β df : Nat} {el : Option TypeId} {cs : List VV} (h : H β = some (.cells el cs)) (hd : isDef H df) : isDef (without H β) df := by
 obtain ⟨ds, hd⟩ := hd
 have : df ≠ β := by intro e; subst e; rw [h] at hd; cases hd
 exact ⟨ds, by simpa [V.without, this] using hd⟩
theorem ar.live {H0 H : Nat → Option VObj} (h : ar H0 H) {x : Nat} (hx : (H0 x).isSome = true) : (H x).isSome = true := by
 obtain ⟨o, ho⟩ := Option.isSome_iff_exists.1 hx
 simp [h x o ho]
section push
variable {c : Ctx} {W W' : World} {H0 : Nat → Option VObj} {γ b rm : Nat} {o : VObj}
theorem Ext.push (hs : ar H0 c.H) (hγ : ¬ c.used γ) (hb : W.heap.size ≤ b ∨ ∃ β, c.live β ∧ c.φ β = b) (hW : But W W' b) :
  Ext c W (c.push H0 γ o b rm) W' where
 A _ h := h
 newA _ h := .inl h
 used _ h := .inr h
 live β hu hl := by
  rcases Ctx.push_live hl with e | ⟨_, h⟩
  ·subst e; exact absurd hu hγ
  ·exact hs.live h
 φ β hu _ := by
  have : β ≠ γ := fun e => hγ (e ▸ hu)
  simp [Ctx.push, this]
 room β hu _ := by
  have : β ≠ γ := fun e => hγ (e ▸ hu)
  simp [Ctx.push, this]
 keep k hk hn := hW.keep k hk fun e => by
  subst e
  rcases hb with h | ⟨β, hl, e⟩
  ·omega
  ·exact hn β hl e
 old x hl hlt := by
  rcases Ctx.push_live hl with e | ⟨e, h⟩
  ·subst e
   rcases hb with h | h
   ·simp [Ctx.push] at hlt; omega
   ·simpa [Ctx.push] using h
  ·exact ⟨x, hs.live h, by simp [Ctx.push, e]⟩
 size := hW.size
 os := hW.os
 tape := hW.tape
 output := hW.output
theorem oX (s : Sim c W) (hs : ar H0 c.H) (hγ : ¬ c.used γ) (hb : W.heap.size ≤ b ∨ ∃ β, c.live β ∧ c.φ β = b) (hW : But W W' b) :
  Abides c W (c.push H0 γ o b rm) W' := (Ext.push hs hγ hb hW).abides s
theorem Sim.push (s : Sim c W) (hs : ar H0 c.H) (hγ : ¬ c.used γ) (hb : W.heap.size ≤ b ∨ ∃ β, c.live β ∧ c.φ β = b) (hW : But W W' b)
  (hlt : b < W'.heap.size) (hfree : ∀ x, (H0 x).isSome = true → c.φ x ≠ b) (hloop : ∀ x st pe tm ps as bo df, H0 x = some (.loop st pe tm ps as bo df) → isDef H0 df)
  (ho : ObjRep (c.push H0 γ o b rm) W' γ o) : Sim (c.push H0 γ o b rm) W' := by
 have ab := oX (o := o) (rm := rm) s hs hγ hb hW
 refine ⟨fun x hl => ?_, fun x ox hx => ?_, fun x hl => ?_, fun x hl => ?_, fun x y hx hy e => ?_, fun k hk => Nat.lt_of_lt_of_le (s.ltA k hk) hW.size⟩
 ·rcases Ctx.push_live hl with e | ⟨_, h⟩
  ·exact .inl e
  ·exact .inr (s.used x (hs.live h))
 ·by_cases e : x = γ
  ·subst e; simp [Ctx.push] at hx; subst hx; exact ho
  ·have dq : H0 x = some ox := by simpa [Ctx.push, e] using hx
   have gh : (H0 x).isSome = true := by simp [dq]
   have hl := hs.live gh
   refine (s.obj x ox (hs x ox dq)).abides ab (s.used x hl) (by simp [Ctx.live, Ctx.push, e, gh]) (hW.keep _ (s.lt x hl) (hfree x gh)) ?_
   intro st pe tm ps as bo df e'
   subst e'
   obtain ⟨ds, hd⟩ := hloop x st pe tm ps as bo df dq
   by_cases e2 : df = γ
   ·exact absurd (e2 ▸ s.used df (by simp [Ctx.live, hs df _ hd])) hγ
   ·exact ⟨ds, by simpa [Ctx.push, e2] using hd⟩
 ·rcases Ctx.push_live hl with e | ⟨e, h⟩
  ·simpa [Ctx.push, e] using hlt
  ·simp only [Ctx.push, e, if_false]; exact Nat.lt_of_lt_of_le (s.lt x (hs.live h)) hW.size
 ·rcases Ctx.push_live hl with e | ⟨e, h⟩
  ·subst e
   simp only [Ctx.push, if_true]
   intro hA
   rcases hb with h | ⟨β, hl, e⟩
   ·have := s.ltA b hA; omega
   ·exact s.notA β hl (e ▸ hA)
  ·simp only [Ctx.push, e, if_false]; exact s.notA x (hs.live h)
 ·rcases Ctx.push_live hx with ex | ⟨ex, hx⟩ <;> rcases Ctx.push_live hy with ey | ⟨ey, hy⟩
  ·rw [ex, ey]
  ·simp [Ctx.push, ex, ey] at e; exact absurd e.symm (hfree y hy)
  ·simp [Ctx.push, ex, ey] at e; exact absurd e (hfree x hx)
  ·simp [Ctx.push, ex, ey] at e; exact s.inj x y (hs.live hx) (hs.live hy) e
end push
theorem Sim.loopOk {c : Ctx} {W : World} (s : Sim c W) {x : Nat} {st pe tm ps as bo df} (h : c.H x = some (.loop st pe tm ps as bo df)) : isDef c.H df := by
 obtain ⟨_, _, _, _, _, hd⟩ := s.obj x _ h
 exact hd
theorem ml (W : World) (o : Obj) : (W.alloc o).heap[W.heap.size]? = some o := by
 show (W.heap.push o)[W.heap.size]? = some o
 simp
theorem oZ {c : Ctx} {W : World} (s : Sim c W) {γ rm : Nat} {o : VObj} {ob : Obj} (hγ : ¬ c.used γ)
  (ho : ObjRep (c.push c.H γ o W.heap.size rm) (W.alloc ob) γ o) :
  Ext c W (c.push c.H γ o W.heap.size rm) (W.alloc ob) ∧ Sim (c.push c.H γ o W.heap.size rm) (W.alloc ob) :=
 ⟨Ext.push (ar.refl _) hγ (.inl (Nat.le_refl _)) (But.alloc W ob),
  Sim.push s (ar.refl _) hγ (.inl (Nat.le_refl _)) (But.alloc W ob) (by simp) (fun x hx e => by have := s.lt x hx; omega)
   (fun _ _ _ _ _ _ _ _ h => s.loopOk h) ho⟩
theorem E5 {c : Ctx} {W : World} (s : Sim c W) {γ : Nat} {cs : List VV} {arr : Array Value} {e : TypeId} {el : Option TypeId} (hγ : ¬ c.used γ) (hel : ∀ t, el = some t → e = t)
  (hle : cs.length ≤ arr.size) (hr : RepL c W cs (arr.toList.take cs.length)) :
  Ext c W (c.push c.H γ (.cells el cs) W.heap.size arr.size) (W.alloc (.cells arr e)) ∧ Sim (c.push c.H γ (.cells el cs) W.heap.size arr.size) (W.alloc (.cells arr e)) :=
 oZ s hγ ⟨arr, e, by simp only [Ctx.push, if_true]; exact ml _ _, by simp [Ctx.push], hle, RepL.abides (oX s (ar.refl _) hγ (.inl (Nat.le_refl _)) (But.alloc W _)) _ hr, hel⟩
def Ctx.upd (c : Ctx) (β : Nat) (o : VObj) : Ctx := { c with H := fun x => if x = β then some o else c.H x }
theorem Ctx.upd_live {c : Ctx} {β : Nat} {o : VObj} (hl : c.live β) {x : Nat} : (c.upd β o).live x ↔ c.live x := by
 by_cases e : x = β
 ·subst e; simp [Ctx.live, Ctx.upd] at *; exact hl
 ·simp [Ctx.live, Ctx.upd, e]
section upd
variable {c : Ctx} {W W' : World} {β : Nat} {o : VObj}
theorem Ext.upd (hl : c.live β) (hW : But W W' (c.φ β)) : Ext c W (c.upd β o) W' where
 A _ h := h
 newA _ h := .inl h
 used _ h := h
 live x _ h := (Ctx.upd_live hl).1 h
 φ _ _ _ := rfl
 room _ _ _ := rfl
 keep k hk hn := hW.keep k hk fun e => hn β hl e.symm
 old x h _ := ⟨x, (Ctx.upd_live hl).1 h, rfl⟩
 size := hW.size
 os := hW.os
 tape := hW.tape
 output := hW.output
theorem Sim.upd (s : Sim c W) (hl : c.live β) (hW : But W W' (c.φ β)) (hdef : isDef c.H β → ∃ ds, o = .deferred ds) (ho : ObjRep (c.upd β o) W' β o) : Sim (c.upd β o) W' := by
 have ab := (Ext.upd (o := o) hl hW).abides s
 refine ⟨fun x h => s.used x ((Ctx.upd_live hl).1 h), fun x ox hx => ?_, fun x h => Nat.lt_of_lt_of_le (s.lt x ((Ctx.upd_live hl).1 h)) hW.size,
  fun x h => s.notA x ((Ctx.upd_live hl).1 h), fun x y hx hy e => s.inj x y ((Ctx.upd_live hl).1 hx) ((Ctx.upd_live hl).1 hy) e, fun k hk => Nat.lt_of_lt_of_le (s.ltA k hk) hW.size⟩
 by_cases e : x = β
 ·subst e; simp [Ctx.upd] at hx; subst hx; exact ho
 ·have dq : c.H x = some ox := by simpa [Ctx.upd, e] using hx
  have hlx : c.live x := by simp [Ctx.live, dq]
  refine (s.obj x ox dq).abides ab (s.used x hlx) ((Ctx.upd_live hl).2 hlx) (hW.keep _ (s.lt x hlx) fun ee => e (s.inj x β hlx hl ee)) ?_
  intro st pe tm ps as bo df e'
  subst e'
  have hd := s.loopOk dq
  by_cases e2 : df = β
  ·subst e2; obtain ⟨ds, rfl⟩ := hdef hd; exact ⟨ds, by simp [Ctx.upd]⟩
  ·obtain ⟨ds, hd⟩ := hd; exact ⟨ds, by simpa [Ctx.upd, e2] using hd⟩
end upd
def Ctx.sub (c : Ctx) (H0 : Nat → Option VObj) : Ctx := { c with H := H0 }
theorem Ext.sub {c : Ctx} {W : World} {H0 : Nat → Option VObj} (hs : ar H0 c.H) : Ext c W (c.sub H0) W where
 A _ h := h
 newA _ h := .inl h
 used _ h := h
 live x _ h := hs.live h
 φ _ _ _ := rfl
 room _ _ _ := rfl
 keep _ _ _ := rfl
 old x h _ := ⟨x, hs.live h, rfl⟩
 size := Nat.le_refl _
 os := rfl
 tape := rfl
 output := rfl
theorem Sim.sub {c : Ctx} {W : World} {H0 : Nat → Option VObj} (s : Sim c W) (hs : ar H0 c.H)
  (hloop : ∀ x st pe tm ps as bo df, H0 x = some (.loop st pe tm ps as bo df) → isDef H0 df) : Sim (c.sub H0) W := by
 have ab := (Ext.sub (W := W) hs).abides s
 refine ⟨fun x h => s.used x (hs.live h), fun x ox hx => ?_, fun x h => s.lt x (hs.live h), fun x h => s.notA x (hs.live h), fun x y hx hy e => s.inj x y (hs.live hx) (hs.live hy) e, s.ltA⟩
 have dq : H0 x = some ox := hx
 refine (s.obj x ox (hs x ox dq)).abides ab (s.used x (hs.live (by simp [dq]))) (by simp [Ctx.live, Ctx.sub, dq]) rfl ?_
 intro st pe tm ps as bo df e'
 subst e'
 exact hloop x st pe tm ps as bo df dq
def Ctx.sealx (c : Ctx) (H0 : Nat → Option VObj) : Ctx := { c with H := H0, A := fun b => c.A b ∨ ∃ β, c.live β ∧ (H0 β).isSome = false ∧ c.φ β = b }
theorem Ext.sealx {c : Ctx} {W : World} {H0 : Nat → Option VObj} (hs : ar H0 c.H) : Ext c W (c.sealx H0) W where
 A _ h := .inl h
 newA b h := h.imp id fun ⟨β, hl, _, e⟩ => .inr ⟨β, hl, e⟩
 used _ h := h
 live _ _ h := hs.live h
 φ _ _ _ := rfl
 room _ _ _ := rfl
 keep _ _ _ := rfl
 old x h _ := ⟨x, hs.live h, rfl⟩
 size := Nat.le_refl _
 os := rfl
 tape := rfl
 output := rfl
theorem Sim.sealx {c : Ctx} {W : World} {H0 : Nat → Option VObj} (s : Sim c W) (hs : ar H0 c.H)
  (hloop : ∀ x st pe tm ps as bo df, H0 x = some (.loop st pe tm ps as bo df) → isDef H0 df) : Sim (c.sealx H0) W := by
 have ab : Abides c W (c.sealx H0) W := ⟨fun _ h => .inl h, fun _ _ => rfl, fun _ h => h, fun _ _ h => hs.live h, fun _ _ _ => rfl, fun _ _ _ => rfl⟩
 refine ⟨fun x h => s.used x (hs.live h), fun x ox hx => ?_, fun x h => s.lt x (hs.live h), fun x h => ?_, fun x y hx hy e => s.inj x y (hs.live hx) (hs.live hy) e, fun b hb => ?_⟩
 ·have dq : H0 x = some ox := hx
  refine (s.obj x ox (hs x ox dq)).abides ab (s.used x (hs.live (by simp [dq]))) (by simp [Ctx.live, Ctx.sealx, dq]) rfl ?_
  intro st pe tm ps as bo df e'
  subst e'
  exact hloop x st pe tm ps as bo df dq
 ·rintro (hA | ⟨β, hl, hn, e⟩)
  ·exact s.notA x (hs.live h) hA
  ·have := s.inj β x hl (hs.live h) e
   subst this
   have h' : (H0 β).isSome = true := h
   rw [h'] at hn; cases hn
 ·rcases hb with hA | ⟨β, hl, _, e⟩
  ·exact s.ltA b hA
  ·rw [← e]; exact s.lt β hl
end Go.V
end
section
namespace Go.V
open Go
def ofVal1 (v : Value) : VV := .lit v
def ofVal2 : Value → VV
 | .agg ⟨l⟩ => .agg (l.map ofVal1)
 | v => ofVal1 v
def ofVal : Value → VV
 | .tuple ⟨l⟩ => .tup (l.map ofVal2)
 | v => ofVal2 v
theorem rM (c : Ctx) (W : World) (v : Value) : Rep c W (ofVal1 v) v := by
 rfl
theorem rN {c : Ctx} {W : World} {f : Value → VV} (h : ∀ v, Rep c W (f v) v) : ∀ l : List Value, RepL c W (l.map f) l
 | [] => rfl
 | v :: l => ⟨v, l, rfl, h v, rN h l⟩
theorem tZ (c : Ctx) (W : World) (v : Value) : Rep c W (ofVal2 v) v := by
 unfold ofVal2
 split
 ·exact ⟨_, rfl, rN (rM c W) _⟩
 ·exact rM c W v
theorem ub (c : Ctx) (W : World) (v : Value) : Rep c W (ofVal v) v := by
 unfold ofVal
 split
 ·exact ⟨_, rfl, rN (tZ c W) _⟩
 ·exact tZ c W v
mutual
def VV.val? : VV → Option Value
 | .lit v => some v
 | .agg cs => match valL? cs with | some l => some (.agg ⟨l⟩) | none => none
 | .tup cs => match valL? cs with | some l => some (.tuple ⟨l⟩) | none => none
 | .ifc t x => match x.val? with | some u => some (.iface t u) | none => none
 | .fn f a b => match valL? a, valL? b with | some l, some m => some (.func f ⟨l⟩ ⟨m⟩) | _, _ => none
 | _ => none
def valL? : List VV → Option (List Value)
 | [] => some []
 | x :: xs => match x.val?, valL? xs with | some u, some us => some (u :: us) | _, _ => none
end
mutual
theorem km {c : Ctx} {W : World} : ∀ {x : VV} {u v : Value}, x.val? = some u → Rep c W x v → v = u
 | .lit v, u, _, h, hr => by
  have e : v = u := by simpa [VV.val?] using h
  have h2 : _ = v := hr
  rw [h2, e]
 | .agg cs, u, v, h, ⟨l, e, hr⟩ => by
  unfold VV.val? at h; split at h
  ·rename_i l' h'
   cases h; rw [e, rO h' hr]
  ·cases h
 | .tup cs, u, v, h, ⟨l, e, hr⟩ => by
  unfold VV.val? at h; split at h
  ·rename_i l' h'
   cases h; rw [e, rO h' hr]
  ·cases h
 | .ifc t x, u, v, h, ⟨w, e, hr⟩ => by
  unfold VV.val? at h; split at h
  ·rename_i l' h'
   cases h; rw [e, km h' hr]
  ·cases h
 | .fn f a b, u, v, h, ⟨l, m, e, hr, hs⟩ => by
  unfold VV.val? at h; split at h
  ·rename_i l' m' h' h''
   cases h; rw [e, rO h' hr, rO h'' hs]
  ·cases h
 | .any, _, _, h, _ => by simp [VV.val?] at h
 | .sl _ _ _, _, _, h, _ => by simp [VV.val?] at h
 | .tp _, _, _, h, _ => by simp [VV.val?] at h
 | .ref _ _ _ _ _, _, _, h, _ => by simp [VV.val?] at h
 | .ptr _ _, _, _, h, _ => by simp [VV.val?] at h
 | .mp _, _, _, h, _ => by simp [VV.val?] at h
 | .mt _ _, _, _, h, _ => by simp [VV.val?] at h
 | .it _, _, _, h, _ => by simp [VV.val?] at h
 | .yl _, _, _, h, _ => by simp [VV.val?] at h
theorem rO {c : Ctx} {W : World} : ∀ {xs : List VV} {us vs : List Value}, valL? xs = some us → RepL c W xs vs → vs = us
 | [], us, vs, h, hr => by simp [valL?] at h; have : vs = [] := hr; rw [this, h]
 | x :: xs, us, vs, h, ⟨u, w, e, h1, h2⟩ => by
  unfold valL? at h; split at h
  ·rename_i u' us' h' h''
   cases h; rw [e, km h' h1, rO h'' h2]
  ·cases h
end
def VV.leaf : VV → Bool
 | .any | .agg _ | .tup _ => false
 | .lit v => v.oneCell'
 | _ => true
theorem E6 {c : Ctx} {W : World} {x : VV} {v : Value} (h : x.leaf = true) (hr : Rep c W x v) : v.oneCell' = true := by
 cases x with
 | any => cases h
 | agg => cases h
 | tup => cases h
 | lit u => have : v = u := hr; subst this; exact h
 | sl cs len full => obtain ⟨_, _, rfl, _⟩ := hr; rfl
 | tp cs => obtain ⟨_, _, rfl, _⟩ := hr; rfl
 | ref β off len es cp => exact hr.1.2
 | ptr β off => exact hr.1.2
 | mp β => exact hr.1.2
 | mt ks vs => obtain ⟨_, rfl, _⟩ := hr; rfl
 | it β => exact hr.1.2
 | yl β => exact hr.1.2
 | fn f a b => obtain ⟨_, _, rfl, _⟩ := hr; rfl
 | ifc t x => obtain ⟨_, rfl, _⟩ := hr; rfl
def aY : VV → Option (List VV)
 | .agg cs => if cs.all VV.leaf then some cs else none
 | x => if x.leaf then some [x] else none
theorem E7 {c : Ctx} {W : World} {x : VV} {v : Value} {cs : List VV} (h : aY x = some cs) (hr : Rep c W x v) :
  RepL c W cs v.cells.toList ∧ (∀ u ∈ v.cells.toList, u.oneCell' = true) := by
 have one : ∀ {cs : List VV} {l : List Value}, cs.all VV.leaf = true → RepL c W cs l → ∀ u ∈ l, u.oneCell' = true := by
  intro cs
  induction cs with
  | nil => intro l _ h u hu; have : l = [] := h; subst this; cases hu
  | cons y ys ih =>
   intro l ha h u hu
   obtain ⟨w, ws, rfl, h1, h2⟩ := h
   simp only [List.all_cons, Bool.and_eq_true] at ha
   rcases List.mem_cons.1 hu with rfl | hu
   ·exact E6 ha.1 h1
   ·exact ih ha.2 h2 u hu
 have single : ∀ {x : VV}, x.leaf = true → Rep c W x v → RepL c W [x] v.cells.toList ∧ (∀ u ∈ v.cells.toList, u.oneCell' = true) := by
  intro x hg hr
  have h1 := E6 hg hr
  have hc : v.cells = #[v] := by cases v <;> first | rfl | cases h1
  rw [hc]
  exact ⟨⟨v, [], rfl, hr, rfl⟩, fun u hu => by simp at hu; subst hu; exact h1⟩
 cases x with
 | agg l =>
  simp only [aY] at h; split at h
  ·rename_i hall
   cases h
   obtain ⟨m, rfl, hm⟩ := hr
   exact ⟨hm, one hall hm⟩
  ·cases h
 | _ =>
  simp only [aY] at h; split at h
  ·rename_i hg; cases h; exact single hg hr
  ·cases h
def tgt (H : Nat → Option VObj) : VV → Option (List VV)
 | .tp cs => some cs
 | .ptr β off => match H β with | some (.cells _ cs) => if off ≤ cs.length then some (cs.drop off) else none | _ => none
 | _ => none
theorem RepC.of_obj {c : Ctx} {W : World} {β : Nat} {el : Option TypeId} {cs : List VV} (s : Sim c W) (h : c.H β = some (.cells el cs)) : RepC c W (c.φ β) 0 cs := by
 obtain ⟨arr, e, h1, h2, h3, h4, _⟩ := s.obj β _ h
 refine RepC.of_cells h4 fun i u hu => ?_
 rw [List.getElem?_take] at hu
 split at hu
 ·simp [World.cell?, h1]; simpa using hu
 ·cases hu
theorem tg {c : Ctx} {W : World} (s : Sim c W) {x : VV} {v : Value} {cs : List VV} (h : tgt c.H x = some cs) (hr : Rep c W x v) :
  ∃ b o, v = .pointer (some ⟨b, o, none⟩) ∧ RepC c W b o cs := by
 cases x with
 | tp l => simp [tgt] at h; subst h; obtain ⟨b, o, e, _, h⟩ := hr; exact ⟨b, o, e, h⟩
 | ptr β off =>
  simp only [tgt] at h; split at h
  ·rename_i l hl
   split at h
   ·cases h
    exact ⟨c.φ β, off, hr.2 (by simp [Ctx.live, hl]), by have := RepC.drop off (RepC.of_obj s hl); simpa using this⟩
   ·cases h
  ·cases h
 | _ => simp [tgt] at h
def sls (H : Nat → Option VObj) : VV → Option (List VV × Nat)
 | .sl cs len _ => some (cs, len)
 | .ref β off len _ _ => match H β with | some (.cells _ cs) => if off ≤ cs.length then some (cs.drop off, len) else none | _ => none
 | .lit (.slice none 0 0) => some ([], 0)
 | _ => none
def nilS : VV → VV
 | .lit (.slice none 0 0) => .sl [] 0 true
 | x => x
theorem uc {c : Ctx} {W : World} {x : VV} {v : Value} (hr : Rep c W x v) : Rep c W (nilS x) v := by
 unfold nilS
 split
 ·have e : v = .slice none 0 0 := hr
  subst e
  exact ⟨none, 0, rfl, Nat.le_refl _, fun _ => rfl, .inl rfl⟩
 ·exact hr
theorem xD {c : Ctx} {W : World} (s : Sim c W) {x : VV} {v : Value} {cs : List VV} {len : Nat} (h : sls c.H x = some (cs, len)) (hr : Rep c W x v) :
  ∃ base cap, v = .slice base len cap ∧ len ≤ cap ∧ (cs = [] ∨ ∃ b o, base = some ⟨b, o, none⟩ ∧ RepC c W b o cs) := by
 cases x with
 | sl l n full =>
  simp [sls] at h; obtain ⟨rfl, rfl⟩ := h
  obtain ⟨base, cap, e, h1, _, h2⟩ := hr
  exact ⟨base, cap, e, h1, h2.imp id fun ⟨b, o, e, _, h⟩ => ⟨b, o, e, h⟩⟩
 | ref β off n es cp =>
  simp only [sls] at h; split at h
  ·rename_i l hl
   split at h
   ·cases h
    obtain ⟨cap, e, h1, h2⟩ := hr.2 (by simp [Ctx.live, hl])
    exact ⟨_, cap, e, h1, .inr ⟨_, _, rfl, by have := RepC.drop off (RepC.of_obj s hl); simpa using this⟩⟩
   ·cases h
  ·cases h
 | lit u =>
  unfold sls at h
  split at h
  ·rename_i e; cases e
  ·rename_i e; cases e
  ·rename_i e
   cases h
   have e2 : v = u := hr
   cases e
   exact ⟨none, 0, e2, Nat.le_refl _, .inl rfl⟩
  ·cases h
 | _ => simp [sls] at h
def aggT (P : Program) (t : TypeId) : Option Bool :=
 match P.underlying t with
 | some (.struct _) | some (.array ..) => some true
 | some _ => some false
 | none => none
def szT (P : Program) (t : TypeId) : Option Nat := (P.info? t).map (·.size)
theorem xE {P : Program} {t : TypeId} {b : Bool} (h : aggT P t = some b) (W : World) : (isAgg t).run P W = .ok b W := by
 unfold aggT at h
 cases hu : P.underlying t with
 | none => simp [hu] at h
 | some d => cases d <;> simp [hu] at h <;> subst h <;> simp [isAgg, run_underlying hu]
theorem gQ {P : Program} {t : TypeId} {n : Nat} (h : szT P t = some n) (W : World) : (sizeOf t).run P W = .ok n W := by
 unfold szT at h
 cases hi : P.info? t with
 | none => simp [hi] at h
 | some i => simp [hi] at h; subst h; simp [sizeOf, typeInfo, hi]
theorem iW (b o n : Nat) : (⟨b, o, none⟩ : Addr).add n = ⟨b, o + n, none⟩ := by unfold Addr.add; split <;> simp_all
def vpart (P : Program) (t : TypeId) (cs : List VV) (off : Nat) : Option VV :=
 match aggT P t, szT P t with
 | some true, some n => if off + n ≤ cs.length then some (.agg ((cs.drop off).take n)) else none
 | some false, _ => cs[off]?
 | _, _ => none
theorem Mf {P : Program} {c : Ctx} {W : World} {t : TypeId} {cs : List VV} {off : Nat} {x : VV} {l : List Value} (h : vpart P t cs off = some x) (hr : RepL c W cs l) :
  ∃ v, (part t ⟨l⟩ off).run P W = .ok v W ∧ Rep c W x v := by
 unfold vpart at h
 split at h
 ·rename_i n ha hn
  split at h
  ·cases h
   refine ⟨.agg ⟨(l.drop off).take n⟩, ?_, _, rfl, RepL.take n (RepL.drop off hr)⟩
   simp only [part, Sem.run_bind, xE ha, gQ hn, Result.andThen_ok, if_true, Sem.run_pure]
   congr 2
   apply Array.ext'
   simp
  ·cases h
 ·rename_i ha
  obtain ⟨u, hu, hru⟩ := RepL.get off hr h
  refine ⟨u, ?_, hru⟩
  simp [part, xE ha, hu]
 ·cases h
def vload (P : Program) (t : TypeId) (cs : List VV) : Option VV := vpart P t cs 0
theorem Ql {P : Program} {c : Ctx} {W : World} {b o : Nat} {cs : List VV} (n : Nat) (hr : RepC c W b o cs) (hn : n ≤ cs.length) :
  ∃ l, l.length = n ∧ (loadCells ⟨b, o, none⟩ n).run P W = .ok ⟨l⟩ W ∧ RepL c W (cs.take n) l ∧ ∀ i u, l[i]? = some u → W.cell? ⟨b, o + i, none⟩ = some u := by
 obtain ⟨l, hl, hc⟩ := RepC.list (RepC.take n hr)
 have hlen : l.length = n := by rw [hl.length]; simp; omega
 refine ⟨l, hlen, ?_, hl, hc⟩
 have := run_loadCells_list (P := P) W ⟨b, o, none⟩ l (fun j v hv => by rw [iW]; exact hc j v hv)
 rw [hlen] at this
 exact this
theorem KT {P : Program} {c : Ctx} {W : World} {t : TypeId} {cs : List VV} {b o : Nat} {x : VV} (h : vload P t cs = some x) (hr : RepC c W b o cs) :
  ∃ v, (loadVar t ⟨b, o, none⟩).run P W = .ok v W ∧ Rep c W x v := by
 unfold vload vpart at h
 split at h
 ·rename_i n ha hn
  split at h
  ·rename_i hle
   cases h
   obtain ⟨l, _, hl, hrl, _⟩ := Ql (P := P) n hr (by simpa using hle)
   refine ⟨.agg ⟨l⟩, ?_, l, rfl, by simpa using hrl⟩
   simp [loadVar, xE ha, gQ hn, hl]
  ·cases h
 ·rename_i ha
  obtain ⟨u, hu, hru⟩ := RepC.get 0 hr h
  refine ⟨u, ?_, hru⟩
  have hu' : W.cell? ⟨b, o, none⟩ = some u := by simpa using hu
  simp [loadVar, xE ha, hu']
 ·cases h
def overwrite (cs : List VV) (off : Nat) (xs : List VV) : List VV := cs.take off ++ xs ++ cs.drop (off + xs.length)
theorem E8 {cs xs : List VV} {off : Nat} (h : off + xs.length ≤ cs.length) : (overwrite cs off xs).length = cs.length := by
 simp [overwrite]; omega
theorem But.setRow (W : World) (g : Nat) (a : Array Value) : But W (W.setRow g a) g :=
 ⟨fun k _ hb => setRow_other W g k a hb, by simp, rfl, rfl, rfl⟩
theorem E9 {P : Program} {c : Ctx} {W : World} (s : Sim c W) {β off : Nat} {el : Option TypeId} {cs xs : List VV} {l : List Value} (h : c.H β = some (.cells el cs)) (hl : RepL c W xs l)
  (h1 : ∀ u ∈ l, u.oneCell' = true) (hle : off + xs.length ≤ cs.length) :
  ∃ W', (storeCells ⟨c.φ β, off, none⟩ l).run P W = .ok () W' ∧ Ext c W (c.upd β (.cells el (overwrite cs off xs))) W' ∧ Sim (c.upd β (.cells el (overwrite cs off xs))) W' := by
 obtain ⟨arr, e, g1, g2, g3, g4, g5⟩ := s.obj β _ h
 have hlive : c.live β := by simp [Ctx.live, h]
 have hlen := hl.length
 have hst := run_storeCells_at P (c.φ β) off e l 0 arr W g1 (by omega) h1
 refine ⟨_, hst, Ext.upd hlive (But.setRow W _ _), Sim.upd s hlive (But.setRow W _ _) (fun ⟨ds, hd⟩ => by rw [h] at hd; cases hd) ?_⟩
 refine ⟨_, e, setRow_heap W (c.φ β) arr _ e (0, 0) g1, ?_, ?_, ?_, g5⟩
 ·show _ = c.room β
  rw [← g2]; simp; omega
 ·rw [E8 hle]; simp; omega
 ·rw [E8 hle]
  have ab := (Ext.upd (o := .cells el (overwrite cs off xs)) hlive (But.setRow W (c.φ β) (arr.toList.take (off + 0) ++ l ++ arr.toList.drop (off + 0 + l.length)).toArray)).abides s
  apply RepL.abides ab
  have e1 : ((arr.toList.take (off + 0) ++ l ++ arr.toList.drop (off + 0 + l.length)).toArray.toList).take cs.length
    = (arr.toList.take cs.length).take off ++ l ++ (arr.toList.take cs.length).drop (off + l.length) := by
   simp only [Nat.add_zero, List.append_assoc]
   rw [List.take_append, List.take_append, List.take_take]
   simp only [List.length_take, Array.length_toList]
   have a1 : min off arr.size = off := by omega
   rw [a1, List.take_take, Nat.min_eq_right (by omega : off ≤ cs.length), Nat.min_eq_left (by omega : off ≤ cs.length), List.take_of_length_le (by omega : l.length ≤ cs.length - off), List.drop_take]
   congr 3
   omega
  rw [e1]
  unfold overwrite
  rw [← hlen]
  exact RepL.append (RepL.append (RepL.take off g4) hl) (RepL.drop _ g4)
end Go.V
end
section
namespace Go.V
open Go
inductive VEff where
  | none
  | new (o : VObj)
  | upd (β : Nat) (o : VObj)
  | mv (β : Nat) (el : Option TypeId) (cs : List VV)
  | kill (β : Nat)
def VEff.app (γ : Nat) (H : Nat → Option VObj) : VEff → Nat → Option VObj
  | .none => H
  | .new o => fun x => if x = γ then some o else H x
  | .upd β o => fun x => if x = β then some o else H x
  | .mv β el cs => fun x => if x = γ then some (.cells el cs) else without H β x
  | .kill β => without H β
def Stp (P : Program) (e : Sem Next) (c : Ctx) (W : World) (γ : Nat) (x : VV) (eff : VEff) : Prop :=
  ∃ r v W' c', e.run P W = .ok r W' ∧ (r = .value v ∨ (r = .skip ∧ v = undef)) ∧ Rep c' W' x v ∧ Ext c W c' W' ∧ Sim c' W' ∧
    c'.H = eff.app γ c.H ∧ (∀ β, c'.used β → c.used β ∨ β = γ)
theorem Stp.same {P : Program} {e : Sem Next} {c : Ctx} {W : World} {γ : Nat} {x : VV} {v : Value} (s : Sim c W) (h : e.run P W = .ok (.value v) W) (hr : Rep c W x v) :
    Stp P e c W γ x .none := ⟨_, v, W, c, h, .inl rfl, hr, Ext.refl c W, s, rfl, fun _ h => .inl h⟩
def aU (s : Sem Value) : Sem Next := do pure (.value (← s))
theorem bU {P : Program} {s : Sem Value} {W W' : World} {v : Value} (h : s.run P W = .ok v W') : (aU s).run P W = .ok (.value v) W' := by
  simp [aU, h]
def aE {α : Type} (P : Program) : Sem α → Option α
  | .pure a => some a
  | .program k => aE P (k P)
  | .mark _ k => aE P k
  | _ => none
theorem ju {α : Type} {P : Program} : ∀ {e : Sem α} {a : α}, aE P e = some a → ∀ W, e.run P W = .ok a W
  | .pure a, b, h, W => by simp [aE] at h; subst h; rfl
  | .program k, b, h, W => by
    have := ju (e := k P) (a := b) (by simpa [aE] using h) W
    simpa [Sem.run] using this
  | .load .., _, h, _ => by simp [aE] at h
  | .store .., _, h, _ => by simp [aE] at h
  | .new .., _, h, _ => by simp [aE] at h
  | .shape .., _, h, _ => by simp [aE] at h
  | .freeze .., _, h, _ => by simp [aE] at h
  | .frozen .., _, h, _ => by simp [aE] at h
  | .getObj .., _, h, _ => by simp [aE] at h
  | .setObj .., _, h, _ => by simp [aE] at h
  | .choose .., _, h, _ => by simp [aE] at h
  | .sys .., _, h, _ => by simp [aE] at h
  | .mark _ k, b, h, W => by
    have := ju (e := k) (a := b) (by simpa [aE] using h) W
    simpa [Sem.run] using this
  | .halt .., _, h, _ => by simp [aE] at h
def vbin (P : Program) (op : BinOp) (t : TypeId) (x y : Operand) (a b : Value) : Option Value :=
  match a, b with
  | .int k m, .int k' n =>
    if k = k' then
      match op with
      | .add => some (.int k (k.wrap (m + n)))
      | .sub => some (.int k (k.wrap (m - n)))
      | .mul => some (.int k (k.wrap (m * n)))
      | .eql => some (.bool (m == n))
      | .neq => some (.bool (m != n))
      | .lss => some (.bool (m < n))
      | .leq => some (.bool (m ≤ n))
      | .gtr => some (.bool (m > n))
      | .geq => some (.bool (m ≥ n))
      | .quo => if n = 0 then none else some (.int k (k.wrap (m.tdiv n)))
      | .rem => if n = 0 then none else some (.int k (m.tmod n))
      | op => aE P (binOp op t (.int k m) (.int k' n))
    else aE P (binOp op t (.int k m) (.int k' n))
  | .string m, .string n =>
    match op with
    | .add => if m.size + n.size ≤ 140737488355328 then some (.string (m ++ n)) else none
    | .eql => some (.bool (m.toList == n.toList))
    | .neq => some (.bool !(m.toList == n.toList))
    | op => aE P (binOp op t (.string m) (.string n))
  | a, b => aE P (do eqGuard op t x y a b; binOp op t a b)
theorem EA {P : Program} {op : BinOp} {t : TypeId} {x y : Operand} {a b v : Value} (h : vbin P op t x y a b = some v) (W : World) :
    ((do eqGuard op t x y a b; binOp op t a b) : Sem Value).run P W = .ok v W := by
  unfold vbin at h
  split at h
  · rename_i k m k' n
    have hg : eqGuard op t x y (.int k m) (.int k' n) = pure () := by
      unfold eqGuard; split <;> rfl
    rw [hg]
    split at h
    · rename_i hk; subst hk
      cases op <;> simp only at h <;> first
        | (cases h; simp [binOp, Op.intArith, Op.intCmp])
        | (split at h
           · cases h
           · rename_i hn; cases h; simp [binOp, Op.intDiv, hn])
        | (have := ju h W; simpa using this)
    · have := ju h W; simpa using this
  · rename_i m n
    have hg : eqGuard op t x y (.string m) (.string n) = pure () := by
      unfold eqGuard; split <;> rfl
    rw [hg]
    cases op <;> simp only at h <;> first
      | (cases h; simp [binOp, Op.stringOp])
      | (split at h
         · rename_i hn
           cases h
           have : ¬ (((m.size + n.size : Nat) : Int) > IntKind.i64.max) := by
             have e : IntKind.i64.max = 9223372036854775807 := by decide
             omega
           simp only [pure_bind, binOp, Op.stringOp, this, if_false]
           rfl
         · cases h)
      | (have := ju h W; simpa using this)
  · exact ju h W
def vzero (P : Program) (t : TypeId) : Option (Array Value) := ((P.info? t).bind (·.zero)).map (·.cells)
theorem ud {P : Program} {t : TypeId} {a : Array Value} (h : vzero P t = some a) (W : World) : ∃ z, (zeroValue t).run P W = .ok z W ∧ z.cells = a ∧ (P.info? t).bind (·.zero) = some z := by
  unfold vzero at h
  cases hi : P.info? t with
  | none => simp [hi] at h
  | some i =>
    cases hz : i.zero with
    | none => simp [hi, hz] at h
    | some z => simp [hi, hz] at h; subst h; exact ⟨z, by simp [zeroValue, typeInfo, hi, hz], rfl, by simp [hz]⟩
def vfill (place : Nat → Option (Nat × Nat)) : List VV → List (Nat × VV) → Option (List VV)
  | cs, [] => some cs
  | cs, (i, x) :: rest =>
    match place i, aY x with
    | some (off, size), some xs => if xs.length = size ∧ off + size ≤ cs.length then vfill place (overwrite cs off xs) rest else none
    | _, _ => none
theorem EB {pl : Nat → Option (Nat × Nat)} : ∀ {parts : List (Nat × VV)} {cs cs' : List VV}, vfill pl cs parts = some cs' → cs'.length = cs.length
  | [], cs, cs', h => by simp [vfill] at h; rw [h]
  | p :: ps, cs, cs', h => by
    unfold vfill at h
    split at h
    · split at h
      · rename_i hc; rw [EB h, E8 (by omega)]
      · cases h
    · cases h
theorem Mg : ∀ (l : List Value) (off k : Nat) (a : Array Value), off + k + l.length ≤ a.size →
    (l.zipIdx k).foldl (fun cs (p : Value × Nat) => cs.setIfInBounds (off + p.2) p.1) a = (a.toList.take (off + k) ++ l ++ a.toList.drop (off + k + l.length)).toArray
  | [], off, k, a, _ => by simp
  | v :: l, off, k, a, h => by
    simp only [List.zipIdx_cons, List.foldl_cons]
    rw [Mg l off (k + 1) _ (by simp at h ⊢; omega)]
    congr 1
    simp only [Array.toList_setIfInBounds, List.length_cons] at *
    have hlt : off + k < a.toList.length := by simp; omega
    rw [show off + (k + 1) = off + k + 1 by omega]
    rw [List.take_succ_eq_append_getElem (by simpa using hlt)]
    rw [List.take_set_of_le (by omega)]
    rw [List.drop_set_of_lt (by omega)]
    simp
    omega
theorem RepL.overwrite {c : Ctx} {W : World} {cs xs : List VV} {l m : List Value} {off : Nat} (h : RepL c W cs l) (hx : RepL c W xs m) :
    RepL c W (overwrite cs off xs) (l.take off ++ m ++ l.drop (off + xs.length)) := by
  unfold V.overwrite
  exact RepL.append (RepL.append (RepL.take off h) hx) (RepL.drop _ h)
theorem ue {c : Ctx} {W : World} {place place' : Nat → Option (Nat × Nat)} (hp : ∀ i p, place i = some p → place' i = some p) : ∀ {parts : List (Nat × VV)} {vals : List (Nat × Value)} {cs cs' : List VV} {a : Array Value},
    vfill place cs parts = some cs' → RepL c W cs a.toList → vals.map (·.1) = parts.map (·.1) → RepL c W (parts.map (·.2)) (vals.map (·.2)) →
    ∃ a', Instr.fill place' a vals = some a' ∧ RepL c W cs' a'.toList
  | [], vals, cs, cs', a, h, hr, hm, _ => by
    have : vals = [] := by simpa using hm
    subst this
    simp [vfill] at h; subst h
    exact ⟨a, rfl, hr⟩
  | (i, x) :: rest, vals, cs, cs', a, h, hr, hm, hv => by
    cases vals with
    | nil => simp at hm
    | cons p vals =>
      obtain ⟨j, v⟩ := p
      simp only [List.map_cons, List.cons.injEq] at hm
      obtain ⟨rfl, hm⟩ := hm
      simp only [List.map_cons] at hv
      obtain ⟨u, us, e, h1, h2⟩ := hv
      simp only [List.cons.injEq] at e
      obtain ⟨rfl, rfl⟩ := e
      unfold vfill at h
      split at h
      · rename_i off size xs hpl hxs
        split at h
        · rename_i hc
          obtain ⟨hlen, hle⟩ := hc
          obtain ⟨hrx, _⟩ := E7 hxs h1
          have ep := hrx.length
          have fk := hr.length
          simp only [Array.length_toList] at ep fk
          have hs : v.cells.size = size := by omega
          have key := Mg v.cells.toList off 0 a (by simp; omega)
          have hrep : RepL c W (overwrite cs off xs) (((a.toList.take off ++ v.cells.toList ++ a.toList.drop (off + xs.length)).toArray).toList) := by
            simpa using RepL.overwrite (off := off) hr hrx
          obtain ⟨a', ha', hra'⟩ := ue hp h hrep hm h2
          refine ⟨a', ?_, hra'⟩
          have hp' : place' j = some (off, size) := hp _ _ hpl
          simp only [Instr.fill, hp', hs, ne_eq, not_true_eq_false, decide_false, Bool.false_or]
          have hgt : ¬ (off + size > a.size) := by omega
          simp only [hgt, decide_false, Bool.false_eq_true, if_false]
          rw [← ha']
          congr 1
          have e2 : v.cells.zipIdx.foldl (fun cs (p : Value × Nat) => cs.setIfInBounds (off + p.2) p.1) a = (v.cells.toList.zipIdx 0).foldl (fun cs (p : Value × Nat) => cs.setIfInBounds (off + p.2) p.1) a := by
            rw [← Array.foldl_toList]; simp
          rw [show (fun (cs : Array Value) (x : Value × Nat) => match x with | (c, j) => cs.setIfInBounds (off + j) c) = (fun cs (p : Value × Nat) => cs.setIfInBounds (off + p.2) p.1) from rfl, e2, key]
          congr 4
        · cases h
      · cases h
def placeS (P : Program) (fields : Array Field) (i : Nat) : Option (Nat × Nat) :=
  match fields[i]? with
  | some f => (szT P f.type).map fun n => (f.offset, n)
  | none => none
theorem Mh {P : Program} {W : World} : ∀ (l : List Field), (∀ f ∈ l, (szT P f.type).isSome = true) →
    (l.mapM (fun (f : Field) => (do pure (f.offset, ← sizeOf f.type) : Sem (Nat × Nat)))).run P W = .ok (l.map fun f => (f.offset, (szT P f.type).getD 0)) W
  | [], _ => by simp
  | f :: l, h => by
    obtain ⟨n, hn⟩ := Option.isSome_iff_exists.1 (h f (by simp))
    have ih := Mh (W := W) l (fun g hg => h g (by simp [hg]))
    simp only [List.mapM_cons, Sem.run_bind, gQ hn, Result.andThen_ok, Sem.run_pure, ih, hn, Option.getD_some, List.map_cons]
def vbuild (P : Program) (t : TypeId) (parts : List (Nat × VV)) : Option VV :=
  match vzero P t, P.underlying t with
  | some z, some (.struct fields) =>
    if fields.all (fun f => (szT P f.type).isSome) then (vfill (placeS P fields) (z.toList.map ofVal1) parts).map .agg else none
  | some z, some (.array _ e) =>
    match szT P e with
    | some n => (vfill (fun i => some (i * n, n)) (z.toList.map ofVal1) parts).map .agg
    | none => none
  | _, _ => none
theorem EC {P : Program} {c : Ctx} {W : World} {t : TypeId} {parts : List (Nat × VV)} {vals : Array (Nat × Value)} {x : VV} (h : vbuild P t parts = some x)
    (hm : vals.toList.map (·.1) = parts.map (·.1)) (hv : RepL c W (parts.map (·.2)) (vals.toList.map (·.2))) : ∃ v, (Instr.build t vals).run P W = .ok v W ∧ Rep c W x v := by
  unfold vbuild at h
  split at h
  · rename_i z fields hz hu
    obtain ⟨zv, hzr, hzc, _⟩ := ud hz W
    split at h
    · rename_i hall
      cases hf : vfill (placeS P fields) (z.toList.map ofVal1) parts with
      | none => simp [hf] at h
      | some cs =>
        simp [hf] at h; subst h
        have hall' : ∀ f ∈ fields.toList, (szT P f.type).isSome = true := by
          intro f hf'
          exact (Array.all_eq_true_iff_forall_mem.1 hall) f (by simpa using hf')
        have hp : ∀ i p, placeS P fields i = some p → ((fields.map fun f => (f.offset, (szT P f.type).getD 0))[i]?) = some p := by
          intro i p hp
          unfold placeS at hp
          split at hp
          · rename_i f hf'
            obtain ⟨n, hn⟩ := Option.isSome_iff_exists.1 (hall' f (Array.mem_toList_iff.2 (Array.mem_of_getElem? hf')))
            simp [hn] at hp; subst hp
            simp [hf', hn]
          · cases hp
        obtain ⟨a', ha', hra'⟩ := ue (a := z) hp hf (rN (rM c W) _) hm hv
        refine ⟨.agg a', ?_, a'.toList, rfl, hra'⟩
        have hmm := Mh (P := P) (W := W) fields.toList hall'
        have hmm' : (fields.mapM (fun (f : Field) => (do pure (f.offset, ← sizeOf f.type) : Sem (Nat × Nat)))).run P W = .ok (fields.map fun f => (f.offset, (szT P f.type).getD 0)) W := by
          rw [Array.mapM_eq_mapM_toList, Sem.run_map, hmm]
          simp only [Result.andThen_ok, ← Array.toList_map, Array.toArray_toList]
        simp only [Instr.build, Sem.run_bind, hzr, Result.andThen_ok, run_underlying hu, hmm', hzc, ha', Sem.run_pure]
    · cases h
  · rename_i z n e hz hu
    obtain ⟨zv, hzr, hzc, _⟩ := ud hz W
    split at h
    · rename_i m hm'
      cases hf : vfill (fun i => some (i * m, m)) (z.toList.map ofVal1) parts with
      | none => simp [hf] at h
      | some cs =>
        simp [hf] at h; subst h
        obtain ⟨a', ha', hra'⟩ := ue (a := z) (fun i p hp => hp) hf (rN (rM c W) _) hm hv
        refine ⟨.agg a', ?_, a'.toList, rfl, hra'⟩
        simp only [Instr.build, Sem.run_bind, hzr, Result.andThen_ok, run_underlying hu, gQ hm', hzc, ha', Sem.run_pure]
    · cases h
  · cases h
theorem uf {P : Program} {e : Sem Next} {c : Ctx} {W : World} (s : Sim c W) {γ : Nat} (hγ : ¬ c.used γ) {cs : List VV} {arr : Array Value} {t : TypeId} {v : Value} {x : VV}
    (h : e.run P W = .ok (.value v) (W.alloc (.cells arr t))) (hle : cs.length ≤ arr.size) (hr : RepL c W cs (arr.toList.take cs.length))
    (hx : Rep (c.push c.H γ (.cells (some t) cs) W.heap.size arr.size) (W.alloc (.cells arr t)) x v) : Stp P e c W γ x (.new (.cells (some t) cs)) := by
  obtain ⟨h1, h2⟩ := E5 (e := t) (el := some t) s hγ (fun _ h => by cases h; rfl) hle hr
  exact ⟨_, v, _, _, h, .inl rfl, hx, h1, h2, rfl, fun β hb => hb.symm⟩
theorem Mi {c : Ctx} {W : World} {H0 : Nat → Option VObj} {γ : Nat} {o : VObj} {b rm : Nat} : Rep (c.push H0 γ o b rm) W (.ptr γ 0) (.pointer (some ⟨b, 0, none⟩)) :=
  ⟨⟨.inl rfl, rfl⟩, fun _ => by simp [Ctx.push]⟩
theorem ED {P : Program} {c : Ctx} {W : World} (s : Sim c W) {γ : Nat} (hγ : ¬ c.used γ) {t : TypeId} {z : Array Value} (h : vzero P t = some z) :
    Stp P (aU (Instr.alloc t true (.tuple #[]))) c W γ (.ptr γ 0) (.new (.cells (some t) (z.toList.map ofVal1))) := by
  obtain ⟨zv, hzr, hzc, _⟩ := ud h W
  refine uf (arr := z) (t := t) s hγ ?_ (by simp) (by rw [List.take_of_length_le (by simp)]; exact rN (rM c W) z.toList) Mi
  simp [aU, Instr.alloc, hzr, newVar, newRow, hzc]
theorem EF {P : Program} {c : Ctx} {W : World} (s : Sim c W) {γ : Nat} (hγ : ¬ c.used γ) {t : TypeId} {x : VV} {v : Value} {cs : List VV} (h : aY x = some cs) (hr : Rep c W x v) :
    Stp P (aU (Instr.box t v)) c W γ (.ptr γ 0) (.new (.cells (some t) cs)) := by
  obtain ⟨h1, _⟩ := E7 h hr
  have hl := h1.length
  simp only [Array.length_toList] at hl
  refine uf (arr := v.cells) (t := t) s hγ ?_ (by omega) (by rw [List.take_of_length_le (by simp; omega)]; exact h1) Mi
  simp [aU, Instr.box, newVar, newRow]
def vzeros (z : Array Value) (n : Nat) : List VV := (List.range n).map fun i => ofVal1 (z[i % z.size]!)
theorem EG {c : Ctx} {W : World} (z : Array Value) (n : Nat) : RepL c W (vzeros z n) ((Array.range n).map (fun i => z[i % z.size]!)).toList := by
  unfold vzeros
  simp only [Array.toList_map, Array.toList_range]
  generalize List.range n = l
  induction l with
  | nil => rfl
  | cons a l ih => exact ⟨_, _, rfl, rM _ _ _, ih⟩
theorem mg {c : Ctx} {W : World} {H0 : Nat → Option VObj} {γ : Nat} {o : VObj} {b rm len cap es cp : Nat} (h1 : len ≤ cap) (h2 : cap * es ≤ rm) (h3 : cp ≤ cap) :
    Rep (c.push H0 γ o b rm) W (.ref γ 0 len es cp) (.slice (some ⟨b, 0, none⟩) len cap) :=
  ⟨⟨.inl rfl, rfl⟩, fun _ => ⟨cap, by simp [Ctx.push], h1, by simpa [Ctx.push] using h2, h3⟩⟩
def elemT (P : Program) (t : TypeId) : Option TypeId := match P.underlying t with
  | some (.slice e) => some e
  | _ => none
def sameEl (el : Option TypeId) (e : TypeId) : Option TypeId := match el with
  | some t => if t = e then some e else none
  | none => none
theorem Mj {el : Option TypeId} {e t : TypeId} (h : sameEl el e = some t) : t = e ∧ el = some e := by
  unfold sameEl at h
  split at h
  · split at h
    · rename_i h1; cases h; subst h1; exact ⟨rfl, rfl⟩
    · cases h
  · cases h
def aL (P : Program) (t : TypeId) (len : Nat) (parts : List (Nat × VV)) : Option (List VV × Nat) :=
  match P.underlying t with
  | some (.slice e) =>
    match szT P e, vzero P e with
    | some n, some z => if len * n ≤ 16777216 ∧ z.size = n then (vfill (fun i => some (i * n, n)) (vzeros z (len * n)) parts).map fun cs => (cs, n) else none
    | _, _ => none
  | _ => none
theorem Qm {P : Program} {c : Ctx} {W : World} (s : Sim c W) {γ : Nat} (hγ : ¬ c.used γ) {t : TypeId} {len : Nat} {parts : List (Nat × VV)} {vals : Array (Nat × Value)} {cs : List VV} {n : Nat}
    (h : aL P t len parts = some (cs, n)) (hm : vals.toList.map (·.1) = parts.map (·.1)) (hv : RepL c W (parts.map (·.2)) (vals.toList.map (·.2))) :
    Stp P (aU (Instr.buildSlice t len vals)) c W γ (.ref γ 0 len n len) (.new (.cells (elemT P t) cs)) := by
  unfold aL at h
  split at h
  · rename_i e hu
    have hel : elemT P t = some e := by simp [elemT, hu]
    rw [hel]
    split at h
    · rename_i m z hn hz
      split at h
      · rename_i hc
        obtain ⟨hc, hzs⟩ := hc
        cases hf : vfill (fun i => some (i * m, m)) (vzeros z (len * m)) parts with
        | none => simp [hf] at h
        | some cs' =>
          simp [hf] at h
          obtain ⟨rfl, rfl⟩ := h
          obtain ⟨zv, hzr, hzc, _⟩ := ud hz W
          by_cases h0 : len * m = 0
          · have e0 : ∀ f : Nat → Value, (Array.range (len * m)).map f = #[] := by intro f; rw [h0]; simp
            obtain ⟨a', ha', hra'⟩ := ue (a := #[]) (fun i p hp => hp) hf (by rw [h0]; simp [vzeros, RepL]) hm hv
            have hl := hra'.length
            simp only [Array.length_toList] at hl
            have hsz : cs'.length = len * m := by rw [EB hf]; simp [vzeros]
            refine uf (arr := a') (t := e) s hγ ?_ (by omega) (by rw [List.take_of_length_le (by simp; omega)]; exact hra') (mg (Nat.le_refl _) (by omega) (Nat.le_refl _))
            have hgt : ¬ (len * m > 2 ^ 24) := by omega
            simp only [aU, Instr.buildSlice, Sem.run_bind, run_underlying hu, Result.andThen_ok, gQ hn, hgt, if_false, if_pos h0, e0, ha', newRow, run_newObj, Sem.run_pure, pure_bind]
            rfl
          · obtain ⟨a', ha', hra'⟩ := ue (a := (Array.range (len * m)).map (fun i => z[i % z.size]!)) (fun i p hp => hp) hf (EG z _) hm hv
            have hl := hra'.length
            simp only [Array.length_toList] at hl
            have hsz : cs'.length = len * m := by rw [EB hf]; simp [vzeros]
            refine uf (arr := a') (t := e) s hγ ?_ (by omega) (by rw [List.take_of_length_le (by simp; omega)]; exact hra') (mg (Nat.le_refl _) (by omega) (Nat.le_refl _))
            have hgt : ¬ (len * m > 2 ^ 24) := by omega
            simp only [aU, Instr.buildSlice, Sem.run_bind, run_underlying hu, Result.andThen_ok, gQ hn, hgt, if_false, h0, hzr, hzc, ha', Sem.run_pure, newRow, run_newObj]
            rfl
      · cases h
    · cases h
  · cases h
theorem EH {P : Program} {c : Ctx} {W : World} (s : Sim c W) {γ : Nat} {t : TypeId} {x y : VV} {v : Value} {cs : List VV} (ht : tgt c.H x = some cs) (h : vload P t cs = some y) (hr : Rep c W x v) :
  Stp P (aU (Instr.loadAt t v)) c W γ y .none := by
 obtain ⟨b, o, rfl, hc⟩ := tg s ht hr
 obtain ⟨u, hu, hru⟩ := KT h hc
 exact Stp.same s (bU (by simpa [Instr.loadAt, Instr.sureAddr] using hu)) hru
theorem EI {P : Program} {c : Ctx} {W : World} (s : Sim c W) {γ : Nat} {t : TypeId} {β off n : Nat} {x : VV} {v w : Value} {el : Option TypeId} {cs xs : List VV} (hβ : c.H β = some (.cells el cs)) (hx : aY x = some xs)
  (hn : szT P t = some n) (hl : xs.length = n) (hle : off + n ≤ cs.length) (hr : Rep c W (.ptr β off) w) (hv : Rep c W x v) :
  Stp P (do Instr.storeAt t w v; pure .skip) c W γ .any (.upd β (.cells el (overwrite cs off xs))) := by
 obtain ⟨h1, h2⟩ := E7 hx hv
 have hlive : c.live β := by simp [Ctx.live, hβ]
 have hw : w = .pointer (some ⟨c.φ β, off, none⟩) := hr.2 hlive
 subst hw
 obtain ⟨W', hst, he, hs⟩ := E9 (P := P) (off := off) s hβ h1 h2 (by omega)
 have hlen := h1.length
 simp only [Array.length_toList] at hlen
 refine ⟨.skip, undef, W', _, ?_, .inr ⟨rfl, rfl⟩, trivial, he, hs, rfl, fun _ h => .inl h⟩
 simp only [Instr.storeAt, Instr.sureAddr, storeVar, Sem.run_bind, gQ hn, Result.andThen_ok, pure_bind]
 rw [if_neg (by omega)]
 simp [hst]
def an (P : Program) (H : Nat → Option VObj) (s : TypeId) (x : VV) (f : Nat) : Option VV :=
 match P.underlying s with
 | some (.struct fields) =>
  match fields[f]? with
  | some fd =>
   match szT P fd.type with
   | some n => if n = 0 then none else
    match x with
    | .tp cs => some (.tp (cs.drop fd.offset))
    | .ptr β off => if (H β).isSome then some (.ptr β (off + fd.offset)) else none
    | _ => none
   | none => none
  | none => none
 | _ => none
theorem Qn {P : Program} {c : Ctx} {W : World} (s : Sim c W) {γ : Nat} {t : TypeId} {x y : VV} {v : Value} {f : Nat} (h : an P c.H t x f = some y) (hr : Rep c W x v) :
  Stp P (aU (Instr.fieldAt t v f)) c W γ y .none := by
 unfold an at h
 split at h
 ·rename_i fields hu
  split at h
  ·rename_i fd hf
   split at h
   ·rename_i n hn
    split at h
    ·cases h
    ·rename_i h0
     have go : ∀ b o, v = .pointer (some ⟨b, o, none⟩) → (Instr.fieldAt t v f).run P W = .ok (.pointer (some ⟨b, o + fd.offset, none⟩)) W := by
      intro b o e
      subst e
      simp [Instr.fieldAt, run_underlying hu, hf, Instr.sureAddr, fieldPlace, gQ hn, h0, iW]
     split at h
     ·rename_i cs
      cases h
      obtain ⟨b, o, e, hA, hc⟩ := hr
      exact Stp.same s (bU (go b o e)) ⟨b, _, rfl, hA, RepC.drop fd.offset hc⟩
     ·rename_i β off
      split at h
      ·rename_i hl
       cases h
       exact Stp.same s (bU (go _ _ (hr.2 hl))) ⟨⟨hr.1.1, rfl⟩, fun _ => rfl⟩
      ·cases h
     ·cases h
   ·cases h
  ·cases h
 ·cases h
def vfield (P : Program) (t : TypeId) (x : VV) (f : Nat) : Option VV :=
 match P.underlying t, x with
 | some (.struct fields), .agg cs => match fields[f]? with | some fd => vpart P fd.type cs fd.offset | none => none
 | _, _ => none
theorem EJ {P : Program} {c : Ctx} {W : World} (s : Sim c W) {γ : Nat} {t : TypeId} {x y : VV} {v : Value} {f : Nat} (h : vfield P t x f = some y) (hr : Rep c W x v) :
  Stp P (aU (Instr.field t v f)) c W γ y .none := by
 unfold vfield at h
 split at h
 ·rename_i fields cs hu
  split at h
  ·rename_i fd hf
   obtain ⟨l, rfl, hl⟩ := hr
   obtain ⟨u, hu', hru⟩ := Mf h hl
   exact Stp.same s (bU (by simp [Instr.field, run_underlying hu, hf, asAgg, hu'])) hru
  ·cases h
 ·cases h
def aC (P : Program) (H : Nat → Option VObj) (t : TypeId) (x : VV) (i : VV) : Option VV :=
 match i with
 | .lit (.int _ i) =>
  match P.underlying t with
  | some (.slice e) =>
   match szT P e, x with
   | some n, .sl cs len _ => if 0 ≤ i ∧ i < len ∧ cs ≠ [] then some (.tp (cs.drop (i.toNat * n))) else none
   | some n, .ref β off len _ _ => if 0 ≤ i ∧ i < len ∧ (H β).isSome = true then some (.ptr β (off + i.toNat * n)) else none
   | _, _ => none
  | some (.array len e) =>
   match szT P e, x with
   | some n, .tp cs => if 0 ≤ i ∧ i < len then some (.tp (cs.drop (i.toNat * n))) else none
   | some n, .ptr β off => if 0 ≤ i ∧ i < len ∧ (H β).isSome = true then some (.ptr β (off + i.toNat * n)) else none
   | _, _ => none
  | _ => none
 | _ => none
theorem Qo {P : Program} {c : Ctx} {W : World} (s : Sim c W) {γ : Nat} {t : TypeId} {x i y : VV} {v w : Value} (h : aC P c.H t x i = some y) (hr : Rep c W x v) (hi : Rep c W i w) :
  Stp P (aU (Instr.indexAt t v w)) c W γ y .none := by
 unfold aC at h
 split at h
 ·rename_i k i
  have hw : w = .int k i := hi
  subst hw
  split at h
  ·rename_i e hu
   split at h
   ·rename_i n cs len full hn
    split at h
    ·rename_i hc
     cases h
     obtain ⟨base, cap, rfl, h1, h2, h3⟩ := hr
     rcases h3 with h3 | ⟨b, o, rfl, hA, hcs⟩
     ·exact absurd h3 hc.2.2
     ·refine Stp.same s (bU (v := .pointer (some ⟨b, o + i.toNat * n, none⟩)) ?_) ⟨b, _, rfl, hA, RepC.drop _ hcs⟩
      simp [Instr.indexAt, asIntOf, run_underlying hu, hc.1, hc.2.1, gQ hn, iW]
    ·cases h
   ·rename_i n β off len es cp hn
    split at h
    ·rename_i hc
     cases h
     obtain ⟨cap, rfl, h1, h2, _⟩ := hr.2 hc.2.2
     refine Stp.same s (bU (v := .pointer (some ⟨c.φ β, off + i.toNat * n, none⟩)) ?_) ⟨⟨hr.1.1, rfl⟩, fun _ => rfl⟩
     simp [Instr.indexAt, asIntOf, run_underlying hu, hc.1, hc.2.1, gQ hn, iW]
    ·cases h
   ·cases h
  ·rename_i len e hu
   split at h
   ·rename_i n cs hn
    split at h
    ·rename_i hc
     cases h
     obtain ⟨b, o, rfl, hA, hcs⟩ := hr
     refine Stp.same s (bU (v := .pointer (some ⟨b, o + i.toNat * n, none⟩)) ?_) ⟨b, _, rfl, hA, RepC.drop _ hcs⟩
     simp [Instr.indexAt, asIntOf, run_underlying hu, hc.1, hc.2, gQ hn, iW, Instr.sureAddr]
    ·cases h
   ·rename_i n β off hn
    split at h
    ·rename_i hc
     cases h
     have := hr.2 hc.2.2
     subst this
     refine Stp.same s (bU (v := .pointer (some ⟨c.φ β, off + i.toNat * n, none⟩)) ?_) ⟨⟨hr.1.1, rfl⟩, fun _ => rfl⟩
     simp [Instr.indexAt, asIntOf, run_underlying hu, hc.1, hc.2.1, gQ hn, iW, Instr.sureAddr]
    ·cases h
   ·cases h
  ·cases h
 ·cases h
def vindex (P : Program) (t : TypeId) (x i : VV) : Option VV :=
 match i, P.underlying t, x with
 | .lit (.int _ i), some (.array len e), .agg cs =>
  match szT P e with
  | some n => if 0 ≤ i ∧ i < len then vpart P e cs (i.toNat * n) else none
  | none => none
 | .lit (.int _ i), some .string, .lit (.string s) =>
  if 0 ≤ i then match s[i.toNat]? with | some b => some (.lit (.int .u8 b.toNat)) | none => none else none
 | _, _, _ => none
theorem EK {P : Program} {c : Ctx} {W : World} (s : Sim c W) {γ : Nat} {t : TypeId} {x i y : VV} {v w : Value} (h : vindex P t x i = some y) (hr : Rep c W x v) (hi : Rep c W i w) :
  Stp P (aU (Instr.index t v w)) c W γ y .none := by
 unfold vindex at h
 split at h
 ·rename_i k i len e cs hu
  have hw : w = .int k i := hi
  subst hw
  split at h
  ·rename_i n hn
   split at h
   ·rename_i hc
    obtain ⟨l, rfl, hl⟩ := hr
    obtain ⟨u, hu', hru⟩ := Mf h hl
    exact Stp.same s (bU (by simp [Instr.index, asIntOf, run_underlying hu, hc.1, hc.2, gQ hn, hu'])) hru
   ·cases h
  ·cases h
 ·rename_i k i st hu
  have hw : w = .int k i := hi
  subst hw
  have hv : v = .string st := hr
  subst hv
  split at h
  ·rename_i h0
   split at h
   ·rename_i b hb
    cases h
    exact Stp.same s (bU (by simp [Instr.index, asIntOf, run_underlying hu, h0, hb])) rfl
   ·cases h
  ·cases h
 ·cases h
def vbound (d : Nat) : Option VV → Option Nat
 | none => some d
 | some (.lit (.int _ i)) => if 0 ≤ i then some i.toNat else none
 | _ => none
def vslice (P : Program) (H : Nat → Option VObj) (t : TypeId) (x : VV) (lo hi mx : Option VV) : Option VV :=
 match P.underlying t with
 | some (.slice e) =>
  match szT P e, sls H x with
  | some n, some (cs, len) =>
   match vbound 0 lo, vbound len hi, vbound len mx with
   | some l, some h, some m =>
    if l ≤ h ∧ h ≤ m ∧ m ≤ len ∧ (mx.isSome = true → hi.isSome = true) then
     match x with
     | .sl cs _ full => some (.sl ((cs.drop (l * n)).take ((h - l) * n)) (h - l) ((mx.isSome && m == h) || (!mx.isSome && full && h == len)))
     | .ref β off _ es cp => if h = l ∧ ¬ (mx.isSome = false ∧ l < cp ∧ n = es) then some (.sl [] 0 (mx.isSome && m == h)) else if n = es then some (.ref β (off + l * n) (h - l) n ((if mx.isSome then m else cp) - l)) else none
     | .lit _ => some (.lit (.slice none 0 0))
     | _ => none
    else none
   | _, _, _ => none
  | _, _ => none
 | _ => none
def RepO (c : Ctx) (W : World) : Option VV → Option Value → Prop
 | none, none => True
 | some x, some v => Rep c W x v
 | _, _ => False
theorem ie {P : Program} {c : Ctx} {W : World} {x : VV} {v : Value} {d l y : Nat} {code : BoundsCode} (h : vbound d (some x) = some l) (hr : Rep c W x v) (hle : l ≤ y) :
  (Instr.sliceBound v y code).run P W = .ok l W := by
 unfold vbound at h
 split at h
 ·rename_i heq; cases heq
 ·rename_i k i heq
  cases heq
  have : v = .int k i := hr
  subst this
  split at h
  ·rename_i h0
   cases h
   have : i ≤ (y : Int) := by omega
   simp [Instr.sliceBound, asIntOf, h0, this]
  ·cases h
 ·cases h
theorem lR {d l : Nat} (h : vbound d none = some l) : l = d := by simp [vbound] at h; exact h.symm
theorem Qq {P : Program} {c : Ctx} {W : World} {lo hi mx : Option VV} {vlo vhi vmx : Option Value} {l h m len cap : Nat} (hlo : vbound 0 lo = some l) (hhi : vbound len hi = some h) (hmx : vbound len mx = some m)
  (rlo : RepO c W lo vlo) (rhi : RepO c W hi vhi) (rmx : RepO c W mx vmx) (h1 : l ≤ h) (h2 : h ≤ m) (h3 : m ≤ len) (h4 : mx.isSome = true → hi.isSome = true) (hcap : len ≤ cap) :
  (Instr.sliceBounds true len cap vlo vhi vmx).run P W = .ok (l, h, if mx.isSome then m else cap) W := by
 unfold Instr.sliceBounds
 cases mx with
 | none =>
  cases vmx with
  | some _ => exact rmx.elim
  | none =>
   cases hi with
   | none =>
    cases vhi with
    | some _ => exact rhi.elim
    | none =>
     have e := lR hhi
     subst e
     cases lo with
     | none =>
      cases vlo with
      | some _ => exact rlo.elim
      | none => have e := lR hlo; subst e; simp
     | some x =>
      cases vlo with
      | none => exact rlo.elim
      | some v => simp [ie hlo rlo h1]
   | some y =>
    cases vhi with
    | none => exact rhi.elim
    | some u =>
     cases lo with
     | none =>
      cases vlo with
      | some _ => exact rlo.elim
      | none => have e := lR hlo; subst e; simp [ie hhi rhi (show h ≤ cap by omega)]
     | some x =>
      cases vlo with
      | none => exact rlo.elim
      | some v => simp [ie hhi rhi (show h ≤ cap by omega), ie hlo rlo h1]
 | some z =>
  cases vmx with
  | none => exact rmx.elim
  | some q =>
   cases hi with
   | none => exact absurd (h4 rfl) (by simp)
   | some y =>
    cases vhi with
    | none => exact rhi.elim
    | some u =>
     cases lo with
     | none =>
      cases vlo with
      | some _ => exact rlo.elim
      | none => have e := lR hlo; subst e; simp [ie hmx rmx (show m ≤ cap by omega), ie hhi rhi h2]
     | some x =>
      cases vlo with
      | none => exact rlo.elim
      | some v => simp [ie hmx rmx (show m ≤ cap by omega), ie hhi rhi h2, ie hlo rlo h1]
theorem EL {P : Program} {c : Ctx} {W : World} (s : Sim c W) {γ : Nat} {t : TypeId} {x y : VV} {v : Value} {lo hi mx : Option VV} {vlo vhi vmx : Option Value} (h : vslice P c.H t x lo hi mx = some y) (hr : Rep c W x v)
  (rlo : RepO c W lo vlo) (rhi : RepO c W hi vhi) (rmx : RepO c W mx vmx) : Stp P (aU (Instr.sliceAt t v vlo vhi vmx)) c W γ y .none := by
 unfold vslice at h
 split at h
 ·rename_i e hu
  split at h
  ·rename_i n cs len hn hsl
   split at h
   ·rename_i l hh m hlo hhi hmx
    split at h
    ·rename_i hc
     obtain ⟨c1, c2, c3, c4⟩ := hc
     have body : ∀ base cap, v = .slice base len cap → len ≤ cap →
       (Instr.sliceAt t v vlo vhi vmx).run P W = .ok (.slice (if (if mx.isSome then m else cap) = l then base else base.map (·.add (l * n))) (hh - l) ((if mx.isSome then m else cap) - l)) W := by
      intro base cap e1 hcap
      subst e1
      have hb := Qq (P := P) (cap := cap) hlo hhi hmx rlo rhi rmx c1 c2 c3 c4 hcap
      simp only [Instr.sliceAt, Sem.run_bind, run_underlying hu, Result.andThen_ok, Instr.slice, hb, gQ hn, Sem.run_pure]
     split at h
     ·rename_i l0 ug full
      cases h
      simp [sls] at hsl
      obtain ⟨rfl, rfl⟩ := hsl
      obtain ⟨base, cap, e1, h1, h2, h3⟩ := hr
      refine Stp.same s (bU (body base cap e1 h1)) ⟨_, _, rfl, ?_, ?_, ?_⟩
      ·cases mx <;> simp <;> omega
      ·intro hfull
       cases mx with
       | none =>
        simp at hfull
        have := h2 hfull.1
        simp; omega
       | some q => simp at hfull; simp; omega
      ·by_cases hz : ((l0.drop (l * n)).take ((hh - l) * n)) = []
       ·exact .inl hz
       ·right
        rcases h3 with h3 | ⟨b, o, rfl, hA, hcs⟩
        ·subst h3; simp at hz
        ·have hlt : l < hh := by
          rcases Nat.lt_or_ge l hh with g | g
          ·exact g
          ·rw [show hh - l = 0 by omega] at hz; simp at hz
         have hne : ¬ ((if mx.isSome then m else cap) = l) := by
          cases mx <;> simp <;> omega
         exact ⟨b, o + l * n, by rw [if_neg hne]; simp [iW], hA, RepC.take _ (RepC.drop _ hcs)⟩
     ·rename_i β off ug es cp
      simp only [sls] at hsl
      split at hsl
      ·rename_i j7 hβ
       split at hsl
       ·cases hsl
        have hlive : c.live β := by simp [Ctx.live, hβ]
        obtain ⟨cap, e1, h1, h2, h3⟩ := hr.2 hlive
        split at h
        ·rename_i Qr
         have hz := Qr.1
         cases h
         refine Stp.same s (bU (body _ cap e1 h1)) ⟨_, _, by rw [hz]; simp; exact ⟨rfl, rfl⟩, by simp, ?_, .inl rfl⟩
         intro hfull
         cases mx with
         | none => simp at hfull
         | some q => simp at hfull; simp; omega
        ·rename_i hz
         split at h
         ·rename_i hes
          subst hes
          cases h
          refine Stp.same s (bU (body _ cap e1 h1)) ⟨⟨hr.1.1, rfl⟩, fun _ => ⟨_, by
           have hne : ¬ ((if mx.isSome then m else cap) = l) := by
            by_cases hhl : hh = l
            ·have Qs : mx.isSome = false ∧ l < cp := by
              by_cases hq : mx.isSome = false ∧ l < cp ∧ n = n
              ·exact ⟨hq.1, hq.2.1⟩
              ·exact absurd ⟨hhl, hq⟩ hz
             rw [Qs.1]
             simp
             omega
            ·cases mx <;> simp <;> omega
           rw [if_neg hne]; simp [iW]; rfl, ?_, ?_, by cases mx <;> simp <;> omega⟩⟩
          ·cases mx <;> simp <;> omega
          ·have key : ∀ k, k ≤ cap → l ≤ k → off + l * n + (k - l) * n ≤ c.room β := by
            intro k hk hlk
            have e3 : l * n + (k - l) * n = k * n := by rw [← Nat.add_mul]; congr 1; omega
            have e4 : k * n ≤ cap * n := Nat.mul_le_mul_right _ hk
            omega
           cases mx with
           | none => simpa using key cap (Nat.le_refl _) (by omega)
           | some q => simpa using key m (by omega) (by omega)
         ·cases h
       ·cases hsl
      ·cases hsl
     ·rename_i u
      obtain ⟨base, cap, e1, h1, _⟩ := xD s hsl hr
      have e2 : v = u := hr
      unfold sls at hsl
      split at hsl
      ·rename_i e; cases e
      ·rename_i e; cases e
      ·rename_i e
       cases e
       cases hsl
       cases h
       rw [e2] at e1
       cases e1
       have hl : l = 0 := by omega
       have hm : m = 0 := by omega
       have Qt : hh = 0 := by omega
       refine Stp.same s (bU (body none 0 e2 (Nat.le_refl _))) ?_
       subst hl hm Qt
       simp only [Nat.zero_le, Nat.sub_zero, ite_self]
       rfl
      ·cases hsl
     ·cases h
    ·cases h
   ·cases h
  ·cases h
 ·cases h
end Go.V
end
