/- Part of a proof: a logic of values by content, lifted functions, what follows. -/
import Derived.Test.YtekhjalgmlflpaaGreatDoorQaa
set_option linter.all false
section
namespace Go.V
open Go
inductive VEff where
  | none
  | new (o : VObj)
  | upd (β : Nat) (o : VObj)
  | mv (β : Nat) (el : Option TypeId) (cs : List VV)
  | kill (β : Nat)
def VEff.app (γ : Nat) (H : Nat → Option VObj) : VEff → Nat → Option VObj
  | .none => H
  | .new o => fun x => if x = γ then some o else H x
  | .upd β o => fun x => if x = β then some o else H x
  | .mv β el cs => fun x => if x = γ then some (.cells el cs) else without H β x
  | .kill β => without H β
def Stp (P : Program) (e : Sem Next) (c : Ctx) (W : World) (γ : Nat) (x : VV) (eff : VEff) : Prop :=
  ∃ r v W' c', e.run P W = .ok r W' ∧ (r = .value v ∨ (r = .skip ∧ v = undef)) ∧ Rep c' W' x v ∧ Ext c W c' W' ∧ Sim c' W' ∧
    c'.H = eff.app γ c.H ∧ (∀ β, c'.used β → c.used β ∨ β = γ)
theorem Stp.same {P : Program} {e : Sem Next} {c : Ctx} {W : World} {γ : Nat} {x : VV} {v : Value} (s : Sim c W) (h : e.run P W = .ok (.value v) W) (hr : Rep c W x v) :
    Stp P e c W γ x .none := ⟨_, v, W, c, h, .inl rfl, hr, Ext.refl c W, s, rfl, fun _ h => .inl h⟩
def asNext (s : Sem Value) : Sem Next := do pure (.value (← s))
theorem zad {P : Program} {s : Sem Value} {W W' : World} {v : Value} (h : s.run P W = .ok v W') : (asNext s).run P W = .ok (.value v) W' := by
  simp [asNext, h]
def evalP {α : Type} (P : Program) : Sem α → Option α
  | .pure a => some a
  | .program k => evalP P (k P)
  | .mark _ k => evalP P k
  | _ => none
theorem zet {α : Type} {P : Program} : ∀ {e : Sem α} {a : α}, evalP P e = some a → ∀ W, e.run P W = .ok a W
  | .pure a, b, h, W => by simp [evalP] at h; subst h; rfl
  | .program k, b, h, W => by
    have := zet (e := k P) (a := b) (by simpa [evalP] using h) W
    simpa [Sem.run] using this
  | .load .., _, h, _ => by simp [evalP] at h
  | .store .., _, h, _ => by simp [evalP] at h
  | .new .., _, h, _ => by simp [evalP] at h
  | .shape .., _, h, _ => by simp [evalP] at h
  | .freeze .., _, h, _ => by simp [evalP] at h
  | .frozen .., _, h, _ => by simp [evalP] at h
  | .getObj .., _, h, _ => by simp [evalP] at h
  | .setObj .., _, h, _ => by simp [evalP] at h
  | .choose .., _, h, _ => by simp [evalP] at h
  | .sys .., _, h, _ => by simp [evalP] at h
  | .mark _ k, b, h, W => by
    have := zet (e := k) (a := b) (by simpa [evalP] using h) W
    simpa [Sem.run] using this
  | .halt .., _, h, _ => by simp [evalP] at h
def vbin (P : Program) (op : BinOp) (t : TypeId) (x y : Operand) (a b : Value) : Option Value :=
  match a, b with
  | .int k m, .int k' n =>
    if k = k' then
      match op with
      | .add => some (.int k (k.wrap (m + n)))
      | .sub => some (.int k (k.wrap (m - n)))
      | .mul => some (.int k (k.wrap (m * n)))
      | .eql => some (.bool (m == n))
      | .neq => some (.bool (m != n))
      | .lss => some (.bool (m < n))
      | .leq => some (.bool (m ≤ n))
      | .gtr => some (.bool (m > n))
      | .geq => some (.bool (m ≥ n))
      | .quo => if n = 0 then none else some (.int k (k.wrap (m.tdiv n)))
      | .rem => if n = 0 then none else some (.int k (m.tmod n))
      | op => evalP P (binOp op t (.int k m) (.int k' n))
    else evalP P (binOp op t (.int k m) (.int k' n))
  | .string m, .string n =>
    match op with
    | .add => if m.size + n.size ≤ 140737488355328 then some (.string (m ++ n)) else none
    | .eql => some (.bool (m.toList == n.toList))
    | .neq => some (.bool !(m.toList == n.toList))
    | op => evalP P (binOp op t (.string m) (.string n))
  | a, b => evalP P (do eqGuard op t x y a b; binOp op t a b)
theorem zake {P : Program} {op : BinOp} {t : TypeId} {x y : Operand} {a b v : Value} (h : vbin P op t x y a b = some v) (W : World) :
    ((do eqGuard op t x y a b; binOp op t a b) : Sem Value).run P W = .ok v W := by
  unfold vbin at h
  split at h
  · rename_i k m k' n
    have hg : eqGuard op t x y (.int k m) (.int k' n) = pure () := by
      unfold eqGuard; split <;> rfl
    rw [hg]
    split at h
    · rename_i hk; subst hk
      cases op <;> simp only at h <;> first
        | (cases h; simp [binOp, Op.intArith, Op.intCmp])
        | (split at h
           · cases h
           · rename_i hn; cases h; simp [binOp, Op.intDiv, hn])
        | (have := zet h W; simpa using this)
    · have := zet h W; simpa using this
  · rename_i m n
    have hg : eqGuard op t x y (.string m) (.string n) = pure () := by
      unfold eqGuard; split <;> rfl
    rw [hg]
    cases op <;> simp only at h <;> first
      | (cases h; simp [binOp, Op.stringOp])
      | (split at h
         · rename_i hn
           cases h
           have : ¬ (((m.size + n.size : Nat) : Int) > IntKind.i64.max) := by
             have e : IntKind.i64.max = 9223372036854775807 := by decide
             omega
           simp only [pure_bind, binOp, Op.stringOp, this, if_false]
           rfl
         · cases h)
      | (have := zet h W; simpa using this)
  · exact zet h W
def vzero (P : Program) (t : TypeId) : Option (Array Value) := ((P.info? t).bind (·.zero)).map (·.cells)
theorem zlr {P : Program} {t : TypeId} {a : Array Value} (h : vzero P t = some a) (W : World) : ∃ z, (zeroValue t).run P W = .ok z W ∧ z.cells = a ∧ (P.info? t).bind (·.zero) = some z := by
  unfold vzero at h
  cases hi : P.info? t with
  | none => simp [hi] at h
  | some i =>
    cases hz : i.zero with
    | none => simp [hi, hz] at h
    | some z => simp [hi, hz] at h; subst h; exact ⟨z, by simp [zeroValue, typeInfo, hi, hz], rfl, by simp [hz]⟩
def vfill (place : Nat → Option (Nat × Nat)) : List VV → List (Nat × VV) → Option (List VV)
  | cs, [] => some cs
  | cs, (i, x) :: rest =>
    match place i, vcells x with
    | some (off, size), some xs => if xs.length = size ∧ off + size ≤ cs.length then vfill place (overwrite cs off xs) rest else none
    | _, _ => none
theorem zlb {pl : Nat → Option (Nat × Nat)} : ∀ {parts : List (Nat × VV)} {cs cs' : List VV}, vfill pl cs parts = some cs' → cs'.length = cs.length
  | [], cs, cs', h => by simp [vfill] at h; rw [h]
  | p :: ps, cs, cs', h => by
    unfold vfill at h
    split at h
    · split at h
      · rename_i hc; rw [zlb h, zhk (by omega)]
      · cases h
    · cases h
theorem zyv : ∀ (l : List Value) (off k : Nat) (a : Array Value), off + k + l.length ≤ a.size →
    (l.zipIdx k).foldl (fun cs (p : Value × Nat) => cs.setIfInBounds (off + p.2) p.1) a = (a.toList.take (off + k) ++ l ++ a.toList.drop (off + k + l.length)).toArray
  | [], off, k, a, _ => by simp
  | v :: l, off, k, a, h => by
    simp only [List.zipIdx_cons, List.foldl_cons]
    rw [zyv l off (k + 1) _ (by simp at h ⊢; omega)]
    congr 1
    simp only [Array.toList_setIfInBounds, List.length_cons] at *
    have hlt : off + k < a.toList.length := by simp; omega
    rw [show off + (k + 1) = off + k + 1 by omega]
    rw [List.take_succ_eq_append_getElem (by simpa using hlt)]
    rw [List.take_set_of_le (by omega)]
    rw [List.drop_set_of_lt (by omega)]
    simp
    omega
theorem RepL.overwrite {c : Ctx} {W : World} {cs xs : List VV} {l m : List Value} {off : Nat} (h : RepL c W cs l) (hx : RepL c W xs m) :
    RepL c W (overwrite cs off xs) (l.take off ++ m ++ l.drop (off + xs.length)) := by
  unfold V.overwrite
  exact RepL.append (RepL.append (RepL.take off h) hx) (RepL.drop _ h)
theorem zlq {c : Ctx} {W : World} {place place' : Nat → Option (Nat × Nat)} (hp : ∀ i p, place i = some p → place' i = some p) : ∀ {parts : List (Nat × VV)} {vals : List (Nat × Value)} {cs cs' : List VV} {a : Array Value},
    vfill place cs parts = some cs' → RepL c W cs a.toList → vals.map (·.1) = parts.map (·.1) → RepL c W (parts.map (·.2)) (vals.map (·.2)) →
    ∃ a', Instr.fill place' a vals = some a' ∧ RepL c W cs' a'.toList
  | [], vals, cs, cs', a, h, hr, hm, _ => by
    have : vals = [] := by simpa using hm
    subst this
    simp [vfill] at h; subst h
    exact ⟨a, rfl, hr⟩
  | (i, x) :: rest, vals, cs, cs', a, h, hr, hm, hv => by
    cases vals with
    | nil => simp at hm
    | cons p vals =>
      obtain ⟨j, v⟩ := p
      simp only [List.map_cons, List.cons.injEq] at hm
      obtain ⟨rfl, hm⟩ := hm
      simp only [List.map_cons] at hv
      obtain ⟨u, us, e, h1, h2⟩ := hv
      simp only [List.cons.injEq] at e
      obtain ⟨rfl, rfl⟩ := e
      unfold vfill at h
      split at h
      · rename_i off size xs hpl hxs
        split at h
        · rename_i hc
          obtain ⟨hlen, hle⟩ := hc
          obtain ⟨hrx, _⟩ := zpa hxs h1
          have hl1 := hrx.length
          have hl2 := hr.length
          simp only [Array.length_toList] at hl1 hl2
          have hs : v.cells.size = size := by omega
          have key := zyv v.cells.toList off 0 a (by simp; omega)
          have hrep : RepL c W (overwrite cs off xs) (((a.toList.take off ++ v.cells.toList ++ a.toList.drop (off + xs.length)).toArray).toList) := by
            simpa using RepL.overwrite (off := off) hr hrx
          obtain ⟨a', ha', hra'⟩ := zlq hp h hrep hm h2
          refine ⟨a', ?_, hra'⟩
          have hp' : place' j = some (off, size) := hp _ _ hpl
          simp only [Instr.fill, hp', hs, ne_eq, not_true_eq_false, decide_false, Bool.false_or]
          have hgt : ¬ (off + size > a.size) := by omega
          simp only [hgt, decide_false, Bool.false_eq_true, if_false]
          rw [← ha']
          congr 1
          have e2 : v.cells.zipIdx.foldl (fun cs (p : Value × Nat) => cs.setIfInBounds (off + p.2) p.1) a = (v.cells.toList.zipIdx 0).foldl (fun cs (p : Value × Nat) => cs.setIfInBounds (off + p.2) p.1) a := by
            rw [← Array.foldl_toList]; simp
          rw [show (fun (cs : Array Value) (x : Value × Nat) => match x with | (c, j) => cs.setIfInBounds (off + j) c) = (fun cs (p : Value × Nat) => cs.setIfInBounds (off + p.2) p.1) from rfl, e2, key]
          congr 4
        · cases h
      · cases h
def placeS (P : Program) (fields : Array Field) (i : Nat) : Option (Nat × Nat) :=
  match fields[i]? with
  | some f => (szT P f.type).map fun n => (f.offset, n)
  | none => none
theorem zlo {P : Program} {W : World} : ∀ (l : List Field), (∀ f ∈ l, (szT P f.type).isSome = true) →
    (l.mapM (fun (f : Field) => (do pure (f.offset, ← sizeOf f.type) : Sem (Nat × Nat)))).run P W = .ok (l.map fun f => (f.offset, (szT P f.type).getD 0)) W
  | [], _ => by simp
  | f :: l, h => by
    obtain ⟨n, hn⟩ := Option.isSome_iff_exists.1 (h f (by simp))
    have ih := zlo (W := W) l (fun g hg => h g (by simp [hg]))
    simp only [List.mapM_cons, Sem.run_bind, zbw hn, Result.andThen_ok, Sem.run_pure, ih, hn, Option.getD_some, List.map_cons]
def vbuild (P : Program) (t : TypeId) (parts : List (Nat × VV)) : Option VV :=
  match vzero P t, P.underlying t with
  | some z, some (.struct fields) =>
    if fields.all (fun f => (szT P f.type).isSome) then (vfill (placeS P fields) (z.toList.map ofVal1) parts).map .agg else none
  | some z, some (.array _ e) =>
    match szT P e with
    | some n => (vfill (fun i => some (i * n, n)) (z.toList.map ofVal1) parts).map .agg
    | none => none
  | _, _ => none
theorem zaeu {P : Program} {c : Ctx} {W : World} {t : TypeId} {parts : List (Nat × VV)} {vals : Array (Nat × Value)} {x : VV} (h : vbuild P t parts = some x)
    (hm : vals.toList.map (·.1) = parts.map (·.1)) (hv : RepL c W (parts.map (·.2)) (vals.toList.map (·.2))) : ∃ v, (Instr.build t vals).run P W = .ok v W ∧ Rep c W x v := by
  unfold vbuild at h
  split at h
  · rename_i z fields hz hu
    obtain ⟨zv, hzr, hzc, _⟩ := zlr hz W
    split at h
    · rename_i hall
      cases hf : vfill (placeS P fields) (z.toList.map ofVal1) parts with
      | none => simp [hf] at h
      | some cs =>
        simp [hf] at h; subst h
        have hall' : ∀ f ∈ fields.toList, (szT P f.type).isSome = true := by
          intro f hf'
          exact (Array.all_eq_true_iff_forall_mem.1 hall) f (by simpa using hf')
        have hp : ∀ i p, placeS P fields i = some p → ((fields.map fun f => (f.offset, (szT P f.type).getD 0))[i]?) = some p := by
          intro i p hp
          unfold placeS at hp
          split at hp
          · rename_i f hf'
            obtain ⟨n, hn⟩ := Option.isSome_iff_exists.1 (hall' f (Array.mem_toList_iff.2 (Array.mem_of_getElem? hf')))
            simp [hn] at hp; subst hp
            simp [hf', hn]
          · cases hp
        obtain ⟨a', ha', hra'⟩ := zlq (a := z) hp hf (zma (zid c W) _) hm hv
        refine ⟨.agg a', ?_, a'.toList, rfl, hra'⟩
        have hmm := zlo (P := P) (W := W) fields.toList hall'
        have hmm' : (fields.mapM (fun (f : Field) => (do pure (f.offset, ← sizeOf f.type) : Sem (Nat × Nat)))).run P W = .ok (fields.map fun f => (f.offset, (szT P f.type).getD 0)) W := by
          rw [Array.mapM_eq_mapM_toList, Sem.run_map, hmm]
          simp only [Result.andThen_ok, ← Array.toList_map, Array.toArray_toList]
        simp only [Instr.build, Sem.run_bind, hzr, Result.andThen_ok, run_underlying hu, hmm', hzc, ha', Sem.run_pure]
    · cases h
  · rename_i z n e hz hu
    obtain ⟨zv, hzr, hzc, _⟩ := zlr hz W
    split at h
    · rename_i m hm'
      cases hf : vfill (fun i => some (i * m, m)) (z.toList.map ofVal1) parts with
      | none => simp [hf] at h
      | some cs =>
        simp [hf] at h; subst h
        obtain ⟨a', ha', hra'⟩ := zlq (a := z) (fun i p hp => hp) hf (zma (zid c W) _) hm hv
        refine ⟨.agg a', ?_, a'.toList, rfl, hra'⟩
        simp only [Instr.build, Sem.run_bind, hzr, Result.andThen_ok, run_underlying hu, zbw hm', hzc, ha', Sem.run_pure]
    · cases h
  · cases h
theorem zul {P : Program} {e : Sem Next} {c : Ctx} {W : World} (s : Sim c W) {γ : Nat} (hγ : ¬ c.used γ) {cs : List VV} {arr : Array Value} {t : TypeId} {v : Value} {x : VV}
    (h : e.run P W = .ok (.value v) (W.alloc (.cells arr t))) (hle : cs.length ≤ arr.size) (hr : RepL c W cs (arr.toList.take cs.length))
    (hx : Rep (c.push c.H γ (.cells (some t) cs) W.heap.size arr.size) (W.alloc (.cells arr t)) x v) : Stp P e c W γ x (.new (.cells (some t) cs)) := by
  obtain ⟨h1, h2⟩ := zaey (e := t) (el := some t) s hγ (fun _ h => by cases h; rfl) hle hr
  exact ⟨_, v, _, _, h, .inl rfl, hx, h1, h2, rfl, fun β hb => hb.symm⟩
theorem znp {c : Ctx} {W : World} {H0 : Nat → Option VObj} {γ : Nat} {o : VObj} {b rm : Nat} : Rep (c.push H0 γ o b rm) W (.ptr γ 0) (.pointer (some ⟨b, 0, none⟩)) :=
  ⟨⟨.inl rfl, rfl⟩, fun _ => by simp [Ctx.push]⟩
theorem zagz {P : Program} {c : Ctx} {W : World} (s : Sim c W) {γ : Nat} (hγ : ¬ c.used γ) {t : TypeId} {z : Array Value} (h : vzero P t = some z) :
    Stp P (asNext (Instr.alloc t true (.tuple #[]))) c W γ (.ptr γ 0) (.new (.cells (some t) (z.toList.map ofVal1))) := by
  obtain ⟨zv, hzr, hzc, _⟩ := zlr h W
  refine zul (arr := z) (t := t) s hγ ?_ (by simp) (by rw [List.take_of_length_le (by simp)]; exact zma (zid c W) z.toList) znp
  simp [asNext, Instr.alloc, hzr, newVar, newRow, hzc]
theorem zamv {P : Program} {c : Ctx} {W : World} (s : Sim c W) {γ : Nat} (hγ : ¬ c.used γ) {t : TypeId} {x : VV} {v : Value} {cs : List VV} (h : vcells x = some cs) (hr : Rep c W x v) :
    Stp P (asNext (Instr.box t v)) c W γ (.ptr γ 0) (.new (.cells (some t) cs)) := by
  obtain ⟨h1, _⟩ := zpa h hr
  have hl := h1.length
  simp only [Array.length_toList] at hl
  refine zul (arr := v.cells) (t := t) s hγ ?_ (by omega) (by rw [List.take_of_length_le (by simp; omega)]; exact h1) znp
  simp [asNext, Instr.box, newVar, newRow]
def vzeros (z : Array Value) (n : Nat) : List VV := (List.range n).map fun i => ofVal1 (z[i % z.size]!)
theorem zon {c : Ctx} {W : World} (z : Array Value) (n : Nat) : RepL c W (vzeros z n) ((Array.range n).map (fun i => z[i % z.size]!)).toList := by
  unfold vzeros
  simp only [Array.toList_map, Array.toList_range]
  generalize List.range n = l
  induction l with
  | nil => rfl
  | cons a l ih => exact ⟨_, _, rfl, zid _ _ _, ih⟩
theorem zeh {c : Ctx} {W : World} {H0 : Nat → Option VObj} {γ : Nat} {o : VObj} {b rm len cap es cp : Nat} (h1 : len ≤ cap) (h2 : cap * es ≤ rm) (h3 : cp ≤ cap) :
    Rep (c.push H0 γ o b rm) W (.ref γ 0 len es cp) (.slice (some ⟨b, 0, none⟩) len cap) :=
  ⟨⟨.inl rfl, rfl⟩, fun _ => ⟨cap, by simp [Ctx.push], h1, by simpa [Ctx.push] using h2, h3⟩⟩
def elemT (P : Program) (t : TypeId) : Option TypeId := match P.underlying t with
  | some (.slice e) => some e
  | _ => none
def sameEl (el : Option TypeId) (e : TypeId) : Option TypeId := match el with
  | some t => if t = e then some e else none
  | none => none
theorem zqi {el : Option TypeId} {e t : TypeId} (h : sameEl el e = some t) : t = e ∧ el = some e := by
  unfold sameEl at h
  split at h
  · split at h
    · rename_i h1; cases h; subst h1; exact ⟨rfl, rfl⟩
    · cases h
  · cases h
def vbuildSlice (P : Program) (t : TypeId) (len : Nat) (parts : List (Nat × VV)) : Option (List VV × Nat) :=
  match P.underlying t with
  | some (.slice e) =>
    match szT P e, vzero P e with
    | some n, some z => if len * n ≤ 16777216 ∧ z.size = n then (vfill (fun i => some (i * n, n)) (vzeros z (len * n)) parts).map fun cs => (cs, n) else none
    | _, _ => none
  | _ => none
theorem zsd {P : Program} {c : Ctx} {W : World} (s : Sim c W) {γ : Nat} (hγ : ¬ c.used γ) {t : TypeId} {len : Nat} {parts : List (Nat × VV)} {vals : Array (Nat × Value)} {cs : List VV} {n : Nat}
    (h : vbuildSlice P t len parts = some (cs, n)) (hm : vals.toList.map (·.1) = parts.map (·.1)) (hv : RepL c W (parts.map (·.2)) (vals.toList.map (·.2))) :
    Stp P (asNext (Instr.buildSlice t len vals)) c W γ (.ref γ 0 len n len) (.new (.cells (elemT P t) cs)) := by
  unfold vbuildSlice at h
  split at h
  · rename_i e hu
    have hel : elemT P t = some e := by simp [elemT, hu]
    rw [hel]
    split at h
    · rename_i m z hn hz
      split at h
      · rename_i hc
        obtain ⟨hc, hzs⟩ := hc
        cases hf : vfill (fun i => some (i * m, m)) (vzeros z (len * m)) parts with
        | none => simp [hf] at h
        | some cs' =>
          simp [hf] at h
          obtain ⟨rfl, rfl⟩ := h
          obtain ⟨zv, hzr, hzc, _⟩ := zlr hz W
          by_cases h0 : len * m = 0
          · have e0 : ∀ f : Nat → Value, (Array.range (len * m)).map f = #[] := by intro f; rw [h0]; simp
            obtain ⟨a', ha', hra'⟩ := zlq (a := #[]) (fun i p hp => hp) hf (by rw [h0]; simp [vzeros, RepL]) hm hv
            have hl := hra'.length
            simp only [Array.length_toList] at hl
            have hsz : cs'.length = len * m := by rw [zlb hf]; simp [vzeros]
            refine zul (arr := a') (t := e) s hγ ?_ (by omega) (by rw [List.take_of_length_le (by simp; omega)]; exact hra') (zeh (Nat.le_refl _) (by omega) (Nat.le_refl _))
            have hgt : ¬ (len * m > 2 ^ 24) := by omega
            simp only [asNext, Instr.buildSlice, Sem.run_bind, run_underlying hu, Result.andThen_ok, zbw hn, hgt, if_false, if_pos h0, e0, ha', newRow, run_newObj, Sem.run_pure, pure_bind]
            rfl
          · obtain ⟨a', ha', hra'⟩ := zlq (a := (Array.range (len * m)).map (fun i => z[i % z.size]!)) (fun i p hp => hp) hf (zon z _) hm hv
            have hl := hra'.length
            simp only [Array.length_toList] at hl
            have hsz : cs'.length = len * m := by rw [zlb hf]; simp [vzeros]
            refine zul (arr := a') (t := e) s hγ ?_ (by omega) (by rw [List.take_of_length_le (by simp; omega)]; exact hra') (zeh (Nat.le_refl _) (by omega) (Nat.le_refl _))
            have hgt : ¬ (len * m > 2 ^ 24) := by omega
            simp only [asNext, Instr.buildSlice, Sem.run_bind, run_underlying hu, Result.andThen_ok, zbw hn, hgt, if_false, h0, hzr, hzc, ha', Sem.run_pure, newRow, run_newObj]
            rfl
      · cases h
    · cases h
  · cases h
end Go.V
end
section
namespace Go.V
open Go
theorem zajd {P : Program} {c : Ctx} {W : World} (s : Sim c W) {γ : Nat} {t : TypeId} {x y : VV} {v : Value} {cs : List VV} (ht : tgt c.H x = some cs) (h : vload P t cs = some y) (hr : Rep c W x v) :
  Stp P (asNext (Instr.loadAt t v)) c W γ y .none := by
 obtain ⟨b, o, rfl, hc⟩ := zaim s ht hr
 obtain ⟨u, hu, hru⟩ := zyn h hc
 exact Stp.same s (zad (by simpa [Instr.loadAt, Instr.sureAddr] using hu)) hru
theorem zahj {P : Program} {c : Ctx} {W : World} (s : Sim c W) {γ : Nat} {t : TypeId} {β off n : Nat} {x : VV} {v w : Value} {el : Option TypeId} {cs xs : List VV} (hβ : c.H β = some (.cells el cs)) (hx : vcells x = some xs)
  (hn : szT P t = some n) (hl : xs.length = n) (hle : off + n ≤ cs.length) (hr : Rep c W (.ptr β off) w) (hv : Rep c W x v) :
  Stp P (do Instr.storeAt t w v; pure .skip) c W γ .any (.upd β (.cells el (overwrite cs off xs))) := by
 obtain ⟨h1, h2⟩ := zpa hx hv
 have hlive : c.live β := by simp [Ctx.live, hβ]
 have hw : w = .pointer (some ⟨c.φ β, off, none⟩) := hr.2 hlive
 subst hw
 obtain ⟨W', hst, he, hs⟩ := zrx (P := P) (off := off) s hβ h1 h2 (by omega)
 have hlen := h1.length
 simp only [Array.length_toList] at hlen
 refine ⟨.skip, undef, W', _, ?_, .inr ⟨rfl, rfl⟩, trivial, he, hs, rfl, fun _ h => .inl h⟩
 simp only [Instr.storeAt, Instr.sureAddr, storeVar, Sem.run_bind, zbw hn, Result.andThen_ok, pure_bind]
 rw [if_neg (by omega)]
 simp [hst]
def vfieldAddr (P : Program) (H : Nat → Option VObj) (s : TypeId) (x : VV) (f : Nat) : Option VV :=
 match P.underlying s with
 | some (.struct fields) =>
  match fields[f]? with
  | some fd =>
   match szT P fd.type with
   | some n => if n = 0 then none else
    match x with
    | .tp cs => some (.tp (cs.drop fd.offset))
    | .ptr β off => if (H β).isSome then some (.ptr β (off + fd.offset)) else none
    | _ => none
   | none => none
  | none => none
 | _ => none
theorem zte {P : Program} {c : Ctx} {W : World} (s : Sim c W) {γ : Nat} {t : TypeId} {x y : VV} {v : Value} {f : Nat} (h : vfieldAddr P c.H t x f = some y) (hr : Rep c W x v) :
  Stp P (asNext (Instr.fieldAt t v f)) c W γ y .none := by
 unfold vfieldAddr at h
 split at h
 ·rename_i fields hu
  split at h
  ·rename_i fd hf
   split at h
   ·rename_i n hn
    split at h
    ·cases h
    ·rename_i h0
     have go : ∀ b o, v = .pointer (some ⟨b, o, none⟩) → (Instr.fieldAt t v f).run P W = .ok (.pointer (some ⟨b, o + fd.offset, none⟩)) W := by
      intro b o e
      subst e
      simp [Instr.fieldAt, run_underlying hu, hf, Instr.sureAddr, fieldPlace, zbw hn, h0, zfm]
     split at h
     ·rename_i cs
      cases h
      obtain ⟨b, o, e, hA, hc⟩ := hr
      exact Stp.same s (zad (go b o e)) ⟨b, _, rfl, hA, RepC.drop fd.offset hc⟩
     ·rename_i β off
      split at h
      ·rename_i hl
       cases h
       exact Stp.same s (zad (go _ _ (hr.2 hl))) ⟨⟨hr.1.1, rfl⟩, fun _ => rfl⟩
      ·cases h
     ·cases h
   ·cases h
  ·cases h
 ·cases h
def vfield (P : Program) (t : TypeId) (x : VV) (f : Nat) : Option VV :=
 match P.underlying t, x with
 | some (.struct fields), .agg cs => match fields[f]? with | some fd => vpart P fd.type cs fd.offset | none => none
 | _, _ => none
theorem zagj {P : Program} {c : Ctx} {W : World} (s : Sim c W) {γ : Nat} {t : TypeId} {x y : VV} {v : Value} {f : Nat} (h : vfield P t x f = some y) (hr : Rep c W x v) :
  Stp P (asNext (Instr.field t v f)) c W γ y .none := by
 unfold vfield at h
 split at h
 ·rename_i fields cs hu
  split at h
  ·rename_i fd hf
   obtain ⟨l, rfl, hl⟩ := hr
   obtain ⟨u, hu', hru⟩ := zxt h hl
   exact Stp.same s (zad (by simp [Instr.field, run_underlying hu, hf, asAgg, hu'])) hru
  ·cases h
 ·cases h
def vindexAddr (P : Program) (H : Nat → Option VObj) (t : TypeId) (x : VV) (i : VV) : Option VV :=
 match i with
 | .lit (.int _ i) =>
  match P.underlying t with
  | some (.slice e) =>
   match szT P e, x with
   | some n, .sl cs len _ => if 0 ≤ i ∧ i < len ∧ cs ≠ [] then some (.tp (cs.drop (i.toNat * n))) else none
   | some n, .ref β off len _ _ => if 0 ≤ i ∧ i < len ∧ (H β).isSome = true then some (.ptr β (off + i.toNat * n)) else none
   | _, _ => none
  | some (.array len e) =>
   match szT P e, x with
   | some n, .tp cs => if 0 ≤ i ∧ i < len then some (.tp (cs.drop (i.toNat * n))) else none
   | some n, .ptr β off => if 0 ≤ i ∧ i < len ∧ (H β).isSome = true then some (.ptr β (off + i.toNat * n)) else none
   | _, _ => none
  | _ => none
 | _ => none
theorem ztn {P : Program} {c : Ctx} {W : World} (s : Sim c W) {γ : Nat} {t : TypeId} {x i y : VV} {v w : Value} (h : vindexAddr P c.H t x i = some y) (hr : Rep c W x v) (hi : Rep c W i w) :
  Stp P (asNext (Instr.indexAt t v w)) c W γ y .none := by
 unfold vindexAddr at h
 split at h
 ·rename_i k i
  have hw : w = .int k i := hi
  subst hw
  split at h
  ·rename_i e hu
   split at h
   ·rename_i n cs len full hn
    split at h
    ·rename_i hc
     cases h
     obtain ⟨base, cap, rfl, h1, h2, h3⟩ := hr
     rcases h3 with h3 | ⟨b, o, rfl, hA, hcs⟩
     ·exact absurd h3 hc.2.2
     ·refine Stp.same s (zad (v := .pointer (some ⟨b, o + i.toNat * n, none⟩)) ?_) ⟨b, _, rfl, hA, RepC.drop _ hcs⟩
      simp [Instr.indexAt, asIntOf, run_underlying hu, hc.1, hc.2.1, zbw hn, zfm]
    ·cases h
   ·rename_i n β off len es cp hn
    split at h
    ·rename_i hc
     cases h
     obtain ⟨cap, rfl, h1, h2, _⟩ := hr.2 hc.2.2
     refine Stp.same s (zad (v := .pointer (some ⟨c.φ β, off + i.toNat * n, none⟩)) ?_) ⟨⟨hr.1.1, rfl⟩, fun _ => rfl⟩
     simp [Instr.indexAt, asIntOf, run_underlying hu, hc.1, hc.2.1, zbw hn, zfm]
    ·cases h
   ·cases h
  ·rename_i len e hu
   split at h
   ·rename_i n cs hn
    split at h
    ·rename_i hc
     cases h
     obtain ⟨b, o, rfl, hA, hcs⟩ := hr
     refine Stp.same s (zad (v := .pointer (some ⟨b, o + i.toNat * n, none⟩)) ?_) ⟨b, _, rfl, hA, RepC.drop _ hcs⟩
     simp [Instr.indexAt, asIntOf, run_underlying hu, hc.1, hc.2, zbw hn, zfm, Instr.sureAddr]
    ·cases h
   ·rename_i n β off hn
    split at h
    ·rename_i hc
     cases h
     have := hr.2 hc.2.2
     subst this
     refine Stp.same s (zad (v := .pointer (some ⟨c.φ β, off + i.toNat * n, none⟩)) ?_) ⟨⟨hr.1.1, rfl⟩, fun _ => rfl⟩
     simp [Instr.indexAt, asIntOf, run_underlying hu, hc.1, hc.2.1, zbw hn, zfm, Instr.sureAddr]
    ·cases h
   ·cases h
  ·cases h
 ·cases h
def vindex (P : Program) (t : TypeId) (x i : VV) : Option VV :=
 match i, P.underlying t, x with
 | .lit (.int _ i), some (.array len e), .agg cs =>
  match szT P e with
  | some n => if 0 ≤ i ∧ i < len then vpart P e cs (i.toNat * n) else none
  | none => none
 | .lit (.int _ i), some .string, .lit (.string s) =>
  if 0 ≤ i then match s[i.toNat]? with | some b => some (.lit (.int .u8 b.toNat)) | none => none else none
 | _, _, _ => none
theorem zafp {P : Program} {c : Ctx} {W : World} (s : Sim c W) {γ : Nat} {t : TypeId} {x i y : VV} {v w : Value} (h : vindex P t x i = some y) (hr : Rep c W x v) (hi : Rep c W i w) :
  Stp P (asNext (Instr.index t v w)) c W γ y .none := by
 unfold vindex at h
 split at h
 ·rename_i k i len e cs hu
  have hw : w = .int k i := hi
  subst hw
  split at h
  ·rename_i n hn
   split at h
   ·rename_i hc
    obtain ⟨l, rfl, hl⟩ := hr
    obtain ⟨u, hu', hru⟩ := zxt h hl
    exact Stp.same s (zad (by simp [Instr.index, asIntOf, run_underlying hu, hc.1, hc.2, zbw hn, hu'])) hru
   ·cases h
  ·cases h
 ·rename_i k i st hu
  have hw : w = .int k i := hi
  subst hw
  have hv : v = .string st := hr
  subst hv
  split at h
  ·rename_i h0
   split at h
   ·rename_i b hb
    cases h
    exact Stp.same s (zad (by simp [Instr.index, asIntOf, run_underlying hu, h0, hb])) rfl
   ·cases h
  ·cases h
 ·cases h
def vbound (d : Nat) : Option VV → Option Nat
 | none => some d
 | some (.lit (.int _ i)) => if 0 ≤ i then some i.toNat else none
 | _ => none
def vslice (P : Program) (H : Nat → Option VObj) (t : TypeId) (x : VV) (lo hi mx : Option VV) : Option VV :=
 match P.underlying t with
 | some (.slice e) =>
  match szT P e, sls H x with
  | some n, some (cs, len) =>
   match vbound 0 lo, vbound len hi, vbound len mx with
   | some l, some h, some m =>
    if l ≤ h ∧ h ≤ m ∧ m ≤ len ∧ (mx.isSome = true → hi.isSome = true) then
     match x with
     | .sl cs _ full => some (.sl ((cs.drop (l * n)).take ((h - l) * n)) (h - l) ((mx.isSome && m == h) || (!mx.isSome && full && h == len)))
     | .ref β off _ es cp => if h = l ∧ ¬ (mx.isSome = false ∧ l < cp ∧ n = es) then some (.sl [] 0 (mx.isSome && m == h)) else if n = es then some (.ref β (off + l * n) (h - l) n ((if mx.isSome then m else cp) - l)) else none
     | .lit _ => some (.lit (.slice none 0 0))
     | _ => none
    else none
   | _, _, _ => none
  | _, _ => none
 | _ => none
def RepO (c : Ctx) (W : World) : Option VV → Option Value → Prop
 | none, none => True
 | some x, some v => Rep c W x v
 | _, _ => False
theorem zbe {P : Program} {c : Ctx} {W : World} {x : VV} {v : Value} {d l y : Nat} {code : BoundsCode} (h : vbound d (some x) = some l) (hr : Rep c W x v) (hle : l ≤ y) :
  (Instr.sliceBound v y code).run P W = .ok l W := by
 unfold vbound at h
 split at h
 ·rename_i heq; cases heq
 ·rename_i k i heq
  cases heq
  have : v = .int k i := hr
  subst this
  split at h
  ·rename_i h0
   cases h
   have : i ≤ (y : Int) := by omega
   simp [Instr.sliceBound, asIntOf, h0, this]
  ·cases h
 ·cases h
theorem zem {d l : Nat} (h : vbound d none = some l) : l = d := by simp [vbound] at h; exact h.symm
theorem zpk {P : Program} {c : Ctx} {W : World} {lo hi mx : Option VV} {vlo vhi vmx : Option Value} {l h m len cap : Nat} (hlo : vbound 0 lo = some l) (hhi : vbound len hi = some h) (hmx : vbound len mx = some m)
  (rlo : RepO c W lo vlo) (rhi : RepO c W hi vhi) (rmx : RepO c W mx vmx) (h1 : l ≤ h) (h2 : h ≤ m) (h3 : m ≤ len) (h4 : mx.isSome = true → hi.isSome = true) (hcap : len ≤ cap) :
  (Instr.sliceBounds true len cap vlo vhi vmx).run P W = .ok (l, h, if mx.isSome then m else cap) W := by
 unfold Instr.sliceBounds
 cases mx with
 | none =>
  cases vmx with
  | some _ => exact rmx.elim
  | none =>
   cases hi with
   | none =>
    cases vhi with
    | some _ => exact rhi.elim
    | none =>
     have e := zem hhi
     subst e
     cases lo with
     | none =>
      cases vlo with
      | some _ => exact rlo.elim
      | none => have e := zem hlo; subst e; simp
     | some x =>
      cases vlo with
      | none => exact rlo.elim
      | some v => simp [zbe hlo rlo h1]
   | some y =>
    cases vhi with
    | none => exact rhi.elim
    | some u =>
     cases lo with
     | none =>
      cases vlo with
      | some _ => exact rlo.elim
      | none => have e := zem hlo; subst e; simp [zbe hhi rhi (show h ≤ cap by omega)]
     | some x =>
      cases vlo with
      | none => exact rlo.elim
      | some v => simp [zbe hhi rhi (show h ≤ cap by omega), zbe hlo rlo h1]
 | some z =>
  cases vmx with
  | none => exact rmx.elim
  | some q =>
   cases hi with
   | none => exact absurd (h4 rfl) (by simp)
   | some y =>
    cases vhi with
    | none => exact rhi.elim
    | some u =>
     cases lo with
     | none =>
      cases vlo with
      | some _ => exact rlo.elim
      | none => have e := zem hlo; subst e; simp [zbe hmx rmx (show m ≤ cap by omega), zbe hhi rhi h2]
     | some x =>
      cases vlo with
      | none => exact rlo.elim
      | some v => simp [zbe hmx rmx (show m ≤ cap by omega), zbe hhi rhi h2, zbe hlo rlo h1]
theorem zagb {P : Program} {c : Ctx} {W : World} (s : Sim c W) {γ : Nat} {t : TypeId} {x y : VV} {v : Value} {lo hi mx : Option VV} {vlo vhi vmx : Option Value} (h : vslice P c.H t x lo hi mx = some y) (hr : Rep c W x v)
  (rlo : RepO c W lo vlo) (rhi : RepO c W hi vhi) (rmx : RepO c W mx vmx) : Stp P (asNext (Instr.sliceAt t v vlo vhi vmx)) c W γ y .none := by
 unfold vslice at h
 split at h
 ·rename_i e hu
  split at h
  ·rename_i n cs len hn hsl
   split at h
   ·rename_i l hh m hlo hhi hmx
    split at h
    ·rename_i hc
     obtain ⟨c1, c2, c3, c4⟩ := hc
     have body : ∀ base cap, v = .slice base len cap → len ≤ cap →
       (Instr.sliceAt t v vlo vhi vmx).run P W = .ok (.slice (if (if mx.isSome then m else cap) = l then base else base.map (·.add (l * n))) (hh - l) ((if mx.isSome then m else cap) - l)) W := by
      intro base cap e1 hcap
      subst e1
      have hb := zpk (P := P) (cap := cap) hlo hhi hmx rlo rhi rmx c1 c2 c3 c4 hcap
      simp only [Instr.sliceAt, Sem.run_bind, run_underlying hu, Result.andThen_ok, Instr.slice, hb, zbw hn, Sem.run_pure]
     split at h
     ·rename_i l0 len0 full
      cases h
      simp [sls] at hsl
      obtain ⟨rfl, rfl⟩ := hsl
      obtain ⟨base, cap, e1, h1, h2, h3⟩ := hr
      refine Stp.same s (zad (body base cap e1 h1)) ⟨_, _, rfl, ?_, ?_, ?_⟩
      ·cases mx <;> simp <;> omega
      ·intro hfull
       cases mx with
       | none =>
        simp at hfull
        have := h2 hfull.1
        simp; omega
       | some q => simp at hfull; simp; omega
      ·by_cases hz : ((l0.drop (l * n)).take ((hh - l) * n)) = []
       ·exact .inl hz
       ·right
        rcases h3 with h3 | ⟨b, o, rfl, hA, hcs⟩
        ·subst h3; simp at hz
        ·have hlt : l < hh := by
          rcases Nat.lt_or_ge l hh with g | g
          ·exact g
          ·rw [show hh - l = 0 by omega] at hz; simp at hz
         have hne : ¬ ((if mx.isSome then m else cap) = l) := by
          cases mx <;> simp <;> omega
         exact ⟨b, o + l * n, by rw [if_neg hne]; simp [zfm], hA, RepC.take _ (RepC.drop _ hcs)⟩
     ·rename_i β off len0 es cp
      simp only [sls] at hsl
      split at hsl
      ·rename_i cs0 hβ
       split at hsl
       ·cases hsl
        have hlive : c.live β := by simp [Ctx.live, hβ]
        obtain ⟨cap, e1, h1, h2, h3⟩ := hr.2 hlive
        split at h
        ·rename_i hz0
         have hz := hz0.1
         cases h
         refine Stp.same s (zad (body _ cap e1 h1)) ⟨_, _, by rw [hz]; simp; exact ⟨rfl, rfl⟩, by simp, ?_, .inl rfl⟩
         intro hfull
         cases mx with
         | none => simp at hfull
         | some q => simp at hfull; simp; omega
        ·rename_i hz
         split at h
         ·rename_i hes
          subst hes
          cases h
          refine Stp.same s (zad (body _ cap e1 h1)) ⟨⟨hr.1.1, rfl⟩, fun _ => ⟨_, by
           have hne : ¬ ((if mx.isSome then m else cap) = l) := by
            by_cases hhl : hh = l
            ·have hz2 : mx.isSome = false ∧ l < cp := by
              by_cases hq : mx.isSome = false ∧ l < cp ∧ n = n
              ·exact ⟨hq.1, hq.2.1⟩
              ·exact absurd ⟨hhl, hq⟩ hz
             rw [hz2.1]
             simp
             omega
            ·cases mx <;> simp <;> omega
           rw [if_neg hne]; simp [zfm]; rfl, ?_, ?_, by cases mx <;> simp <;> omega⟩⟩
          ·cases mx <;> simp <;> omega
          ·have key : ∀ k, k ≤ cap → l ≤ k → off + l * n + (k - l) * n ≤ c.room β := by
            intro k hk hlk
            have e3 : l * n + (k - l) * n = k * n := by rw [← Nat.add_mul]; congr 1; omega
            have e4 : k * n ≤ cap * n := Nat.mul_le_mul_right _ hk
            omega
           cases mx with
           | none => simpa using key cap (Nat.le_refl _) (by omega)
           | some q => simpa using key m (by omega) (by omega)
         ·cases h
       ·cases hsl
      ·cases hsl
     ·rename_i u
      obtain ⟨base, cap, e1, h1, _⟩ := zxv s hsl hr
      have e2 : v = u := hr
      unfold sls at hsl
      split at hsl
      ·rename_i e; cases e
      ·rename_i e; cases e
      ·rename_i e
       cases e
       cases hsl
       cases h
       rw [e2] at e1
       cases e1
       have hl : l = 0 := by omega
       have hm : m = 0 := by omega
       have hh0 : hh = 0 := by omega
       refine Stp.same s (zad (body none 0 e2 (Nat.le_refl _))) ?_
       subst hl hm hh0
       simp only [Nat.zero_le, Nat.sub_zero, ite_self]
       rfl
      ·cases hsl
     ·cases h
    ·cases h
   ·cases h
  ·cases h
 ·cases h
end Go.V
end
section
namespace Go.V
open Go
def vlen (P : Program) (H : Nat → Option VObj) (t : TypeId) (x : VV) : Option VV :=
 match P.underlying t with
 | some .string => match x with | .lit (.string s) => some (.lit (.int .i64 s.size)) | _ => none
 | some (.slice _) => match sls H x with | some (_, len) => some (.lit (.int .i64 len)) | none => none
 | some (.array n _) => some (.lit (.int .i64 n))
 | some (.map _ _) => match x with
  | .lit (.map none) => some (.lit (.int .i64 0))
  | .mp β => match H β with | some (.map es) => some (.lit (.int .i64 es.length)) | _ => none
  | .mt ks _ => some (.lit (.int .i64 ks.length))
  | _ => none
 | _ => none
theorem zaqi {P : Program} {c : Ctx} {W : World} (s : Sim c W) {γ : Nat} {t ty : TypeId} {x y : VV} {v : Value} (h : vlen P c.H t x = some y) (hr : Rep c W x v) :
  Stp P (asNext (Builtin.len_ #[t] ty #[v])) c W γ y .none := by
 unfold vlen at h
 split at h
 ·rename_i hu
  split at h
  ·rename_i st
   cases h
   have : v = .string st := hr
   subst this
   exact Stp.same s (zad (by simp [Builtin.len_, run_underlying hu, goInt])) rfl
  ·cases h
 ·rename_i e hu
  split at h
  ·rename_i cs len hs
   cases h
   obtain ⟨base, cap, rfl, _⟩ := zxv s hs hr
   exact Stp.same s (zad (v := .int .i64 len) (by simp [Builtin.len_, run_underlying hu, goInt])) rfl
  ·cases h
 ·rename_i n e hu
  cases h
  exact Stp.same s (zad (by simp [Builtin.len_, run_underlying hu, goInt])) rfl
 ·rename_i k e hu
  split at h
  ·cases h
   have : v = .map none := hr
   subst this
   exact Stp.same s (zad (by simp [Builtin.len_, run_underlying hu, goInt])) rfl
  ·rename_i β
   split at h
   ·rename_i es hβ
    cases h
    have : v = .map (some (c.φ β)) := hr.2 (by simp [Ctx.live, hβ])
    subst this
    obtain ⟨ents, clk, h1, h2, _⟩ := s.obj β _ hβ
    have hl : ents.size = es.length := by
     have := congrArg List.length h2
     simpa using this
    refine Stp.same s (zad (v := .int .i64 es.length) ?_) rfl
    have hg : (getObj (c.φ β)).run P W = .ok (.map ents clk) W := by simp [getObj, Sem.run, h1]
    simp [Builtin.len_, run_underlying hu, hg, goInt, hl]
   ·cases h
  ·rename_i ks vs
   cases h
   obtain ⟨b, e, _, ents, clk, h1, h2, _⟩ := hr
   subst e
   have hl : ents.size = ks.length := by
    have := congrArg List.length h2
    simpa using this
   refine Stp.same s (zad (v := .int .i64 ks.length) ?_) rfl
   have hg : (getObj b).run P W = .ok (.map ents clk) W := by simp [getObj, Sem.run, h1]
   simp [Builtin.len_, run_underlying hu, hg, goInt, hl]
  ·cases h
 ·cases h
def srcT (d : TypeDesc) : Prop := (∃ e, d = .slice e) ∨ d = .string
def srcV (H : Nat → Option VObj) (d2 : TypeDesc) (x : VV) (size : Nat) : Option (List VV × Nat) :=
 match d2 with
 | .slice _ => sls H x
 | .string => match x with
  | .lit (.string s) => if size = 1 then some (s.data.toList.map fun b => .lit (.int .u8 b.toNat), s.size) else none
  | _ => none
 | _ => none
def vappend1 (P : Program) (H : Nat → Option VObj) (γ : Nat) (t t2 : TypeId) (s x : VV) : Option (VV × VEff) :=
 match P.underlying t, P.underlying t2 with
 | some (.slice e), some d2 =>
  match P.info? e with
  | none => none
  | some inf =>
  match srcV H d2 x inf.size with
  | some (xs, n) =>
   match inf.zero with
   | some z =>
    if 0 < inf.size ∧ 0 < inf.bytes ∧ z.cells.size = inf.size ∧ n * inf.size ≤ xs.length ∧ (xs.take (n * inf.size)).all VV.leaf = true then
     match s with
     | .sl cs len full =>
      if n = 0 then some (s, .none)
      else if full = true ∧ cs.length = len * inf.size ∧ (len + n) * inf.bytes ≤ 140737488355328 then
       some (.ref γ 0 (len + n) inf.size (len + n), .new (.cells (some e) (cs ++ xs.take (n * inf.size))))
      else none
     | .ref β off len es cp =>
      match H β with
      | some (.cells el cs) =>
       if es = inf.size ∧ len + n ≤ cp ∧ off + (len + n) * inf.size ≤ cs.length then
        some (.ref β off (len + n) inf.size cp, .upd β (.cells el (overwrite cs (off + len * inf.size) (xs.take (n * inf.size)))))
       else if off = 0 ∧ es = inf.size ∧ cs.length = len * inf.size ∧ (len + n) * inf.bytes ≤ 140737488355328 then
        some (.ref γ 0 (len + n) inf.size (len + n), .mv β (sameEl el e) (cs ++ xs.take (n * inf.size)))
       else none
      | _ => none
     | _ => none
    else none
   | none => none
  | none => none
 | _, _ => none
def vappend (P : Program) (H : Nat → Option VObj) (γ : Nat) (t t2 : TypeId) (s x : VV) : Option (VV × VEff) := vappend1 P H γ t t2 (nilS s) x
theorem zrm {P : Program} {c : Ctx} {W : World} (s : Sim c W) {x : VV} {v : Value} {cs : List VV} {len size : Nat} (h : sls c.H x = some (cs, len)) (hr : Rep c W x v) (hle : len * size ≤ cs.length) :
  ∃ base cap l, v = .slice base len cap ∧ len ≤ cap ∧ l.length = len * size ∧ RepL c W (cs.take (len * size)) l ∧
   (∀ W', W'.heap = W.heap → (Builtin.firstCells size len v).run P W' = .ok ⟨l⟩ W') ∧ (∀ W', (Builtin.lenOf v).run P W' = .ok len W') := by
 obtain ⟨base, cap, e, hcap, h3⟩ := zxv s h hr
 subst e
 rcases h3 with h3 | ⟨b, o, rfl, hcs⟩
 ·subst h3
  have h0 : len * size = 0 := by simpa using hle
  refine ⟨base, cap, [], rfl, hcap, by simp [h0], by simp [RepL], fun W' _ => ?_, fun W' => by simp [Builtin.lenOf]⟩
  cases base with
  | none => simp [Builtin.firstCells]
  | some a => simp [Builtin.firstCells, h0, loadCells, loadCellsFrom]
 ·obtain ⟨l, hl, hc⟩ := RepC.list (RepC.take (len * size) hcs)
  have hlen : l.length = len * size := by rw [hl.length]; simp; omega
  refine ⟨_, cap, l, rfl, hcap, hlen, hl, fun W' hW => ?_, fun W' => by simp [Builtin.lenOf]⟩
  have hcell : ∀ a, W'.cell? a = W.cell? a := fun a => by unfold World.cell?; rw [hW]
  have := run_loadCells_list (P := P) W' ⟨b, o, none⟩ l (fun j u hu => by rw [hcell, zfm]; exact hc j u hu)
  rw [hlen] at this
  simpa [Builtin.firstCells] using this
theorem ztw {c : Ctx} {W : World} : ∀ l : List UInt8, RepL c W (l.map fun b => .lit (.int .u8 b.toNat)) (l.map fun b => Value.int .u8 b.toNat)
 | [] => rfl
 | _ :: l => ⟨_, _, rfl, rfl, ztw l⟩
theorem zapg {P : Program} {c : Ctx} {W : World} (s : Sim c W) {d2 : TypeDesc} {x : VV} {v : Value} {cs : List VV} {len size : Nat} (h : srcV c.H d2 x size = some (cs, len)) (hr : Rep c W x v) (hle : len * size ≤ cs.length) :
  srcT d2 ∧ ∃ l : List Value, l.length = len * size ∧ RepL c W (cs.take (len * size)) l ∧
   (∀ W', W'.heap = W.heap → (Builtin.firstCells size len v).run P W' = .ok ⟨l⟩ W') ∧ (∀ W', (Builtin.lenOf v).run P W' = .ok len W') := by
 cases d2 with
 | slice e2 =>
  obtain ⟨_, _, l, _, _, h1, h2, h3, h4⟩ := zrm (P := P) s (show sls c.H x = some (cs, len) from h) hr hle
  exact ⟨.inl ⟨e2, rfl⟩, l, h1, h2, h3, h4⟩
 | string =>
  simp only [srcV] at h
  split at h
  ·rename_i st
   split at h
   ·rename_i hs
    cases h
    subst hs
    have e : v = .string st := hr
    subst e
    have hsz : st.data.toList.length = st.size := Array.length_toList
    refine ⟨.inr rfl, st.data.toList.map fun b => Value.int .u8 b.toNat, by rw [List.length_map, hsz, Nat.mul_one], ?_, fun W' _ => ?_, fun W' => by simp [Builtin.lenOf]⟩
    ·rw [List.take_of_length_le (by rw [List.length_map, hsz, Nat.mul_one]; exact Nat.le_refl _)]
     exact ztw _
    ·simp only [Builtin.firstCells, Sem.run_pure]
     congr 1
     apply Array.ext'
     have : st.extract 0 st.size = st := by simp
     rw [this]
     simp
   ·cases h
  ·cases h
 | _ => simp [srcV] at h
theorem zxh {c : Ctx} {W : World} : ∀ {cs : List VV} {l : List Value}, cs.all VV.leaf = true → RepL c W cs l → ∀ u ∈ l, u.oneCell' = true
 | [], l, _, h, u, hu => by have : l = [] := h; subst this; cases hu
 | y :: ys, _, ha, ⟨w, ws, e, h1, h2⟩, u, hu => by
  subst e
  simp only [List.all_cons, Bool.and_eq_true] at ha
  rcases List.mem_cons.1 hu with rfl | hu
  ·exact zvb ha.1 h1
  ·exact zxh ha.2 h2 u hu
theorem But.drew_alloc (W : World) (o : Obj) : But W (W.drew.alloc o) W.heap.size :=
 (But.drew W _).trans (But.alloc W.drew o)
theorem zkr {P : Program} {W : World} {t t2 ty e : TypeId} {d2 : TypeDesc} {i : TypeInfo} {z v : Value} {base : Option Addr} {sLen sCap n : Nat} {olds news : List Value}
  (ht : P.underlying t = some (.slice e)) (ht2 : P.underlying t2 = some d2) (hd2 : srcT d2) (hi : P.info? e = some i) (hz : i.zero = some z)
  (ho : ∀ W', W'.heap = W.heap → (Builtin.firstCells i.size sLen (.slice base sLen sCap)).run P W' = .ok ⟨olds⟩ W')
  (hn : ∀ W', W'.heap = W.heap → (Builtin.firstCells i.size n v).run P W' = .ok ⟨news⟩ W') (hlen : ∀ W', (Builtin.lenOf v).run P W' = .ok n W')
  (hg : sCap < sLen + n) (hb : (sLen + n) * i.bytes ≤ 140737488355328) (hb1 : 0 < i.bytes) :
  (Builtin.append_ #[t, t2] ty #[.slice base sLen sCap, v]).run P W =
   .ok (.slice (some ⟨W.heap.size, 0, none⟩) (sLen + n) (grownCap W (sLen + n) sCap e))
    (W.drew.alloc (.cells (⟨olds ++ news⟩ ++ Builtin.zeroCells z.cells (grownCap W (sLen + n) sCap e - (sLen + n))) e)) := by
 have h1 : ¬ (sLen + n ≤ sCap) := by omega
 have h47 : sLen + n ≤ 140737488355328 := Nat.le_trans (Nat.le_mul_of_pos_right _ hb1) hb
 have h63' : ¬ (9223372036854775807 < ((sLen : Int) + (n : Int))) := by omega
 have h48' : ¬ (281474976710656 < Builtin.nextslicecap (sLen + n) sCap * i.bytes) := Nat.not_lt.2 (growslice_fits hg hb)
 have hn' := hn W.drew rfl
 have ho' := ho W.drew rfl
 rcases hd2 with ⟨e2, rfl⟩ | rfl <;>
  simp [Builtin.append_, run_underlying ht, run_underlying ht2, sizeOf, typeInfo, zeroValue, hi, hz, hlen, h1, h63', h48', Question.forced, hn', ho', newRow, grownCap]
 all_goals
  congr 2
  apply Array.ext'
  simp
theorem zpu {P : Program} {W : World} {t t2 ty e : TypeId} {d2 : TypeDesc} {i : TypeInfo} {v : Value} {b sLen sCap n : Nat} {news : List Value}
  (ht : P.underlying t = some (.slice e)) (ht2 : P.underlying t2 = some d2) (hd2 : srcT d2) (hi : P.info? e = some i)
  (hn : ∀ W', W'.heap = W.heap → (Builtin.firstCells i.size n v).run P W' = .ok ⟨news⟩ W') (hlen : ∀ W', (Builtin.lenOf v).run P W' = .ok n W')
  (hl : news.length = n * i.size) (h1 : ∀ u ∈ news, u.oneCell' = true) {cur : Array Value} {e' : TypeId} (hg : W.heap[b]? = some (.cells cur e' (0, 0)))
  (hroom : sLen + n ≤ sCap) (hfit : sLen * i.size + news.length ≤ cur.size) :
  (Builtin.append_ #[t, t2] ty #[.slice (some ⟨b, 0, none⟩) sLen sCap, v]).run P W =
   .ok (.slice (some ⟨b, 0, none⟩) (sLen + n) sCap) (W.setRow b (cur.toList.take (sLen * i.size) ++ news ++ cur.toList.drop (sLen * i.size + news.length)).toArray) := by
 have hst := run_storeCells_at P b (sLen * i.size) e' news 0 cur W hg (by simpa using hfit) h1
 simp only [Nat.add_zero] at hst
 have ha : (⟨b, 0, none⟩ : Addr).add (sLen * i.size) = ⟨b, sLen * i.size, none⟩ := by rw [zfm]; simp
 rcases hd2 with ⟨e2, rfl⟩ | rfl <;>
  simp [Builtin.append_, run_underlying ht, run_underlying ht2, sizeOf, typeInfo, hi, hlen, hroom, hn W rfl, ha, hst]
theorem zza {P : Program} {c : Ctx} {W : World} (s : Sim c W) {γ : Nat} (hγ : ¬ c.used γ) {t t2 ty : TypeId} {x y z : VV} {v w : Value} {eff : VEff} (h : vappend1 P c.H γ t t2 x y = some (z, eff)) (hr : Rep c W x v) (hw : Rep c W y w) :
  Stp P (asNext (Builtin.append_ #[t, t2] ty #[v, w])) c W γ z eff := by
 unfold vappend1 at h
 split at h
 ·rename_i e d2 hu hu2
  split at h
  ·cases h
  rename_i inf hi
  split at h
  ·rename_i xs n hx
   split at h
   ·rename_i zv hz
    split at h
    ·rename_i hc
     obtain ⟨c1, c2, c3, c4, c5⟩ := hc
     obtain ⟨hd2, news, hnl, hnr, hnf, hnlen⟩ := zapg (P := P) s hx hw c4
     split at h
     ·rename_i cs len full
      split at h
      ·rename_i h0
       cases h
       subst h0
       obtain ⟨base, cap, rfl, hcap, h2, h3⟩ := hr
       have hne : news = [] := by simpa using hnl
       subst hne
       have h00 := hnf W rfl
       refine Stp.same s (zad (v := .slice base len cap) ?_) ⟨base, cap, rfl, hcap, h2, h3⟩
       cases base with
       | none => rcases hd2 with ⟨e2, rfl⟩ | rfl <;> simp [Builtin.append_, run_underlying hu, run_underlying hu2, sizeOf, typeInfo, hi, hnlen, hcap, h00]
       | some a => rcases hd2 with ⟨e2, rfl⟩ | rfl <;> simp [Builtin.append_, run_underlying hu, run_underlying hu2, sizeOf, typeInfo, hi, hnlen, hcap, h00, storeCells]
      ·split at h
       ·rename_i h0 hcc
        obtain ⟨d1, d2, d3⟩ := hcc
        cases h
        obtain ⟨base, cap, olds, hve, hcap, hol, hor, hof, _⟩ := zrm (P := P) (cs := cs) (len := len) (size := inf.size) s rfl hr (by omega)
        subst hve
        have hfull : cap = len := by
         obtain ⟨_, _, e1, _, h2, _⟩ := hr
         cases e1
         exact h2 d1
        subst hfull
        have hrun := zkr (ty := ty) hu hu2 hd2 hi hz hof hnf hnlen (by omega) d3 c2
        have hge := grownCap_ge W (cap + n) cap e
        refine ⟨_, _, _, _, zad hrun, .inl rfl, ?_, Ext.push (o := .cells (some e) (cs ++ xs.take (n * inf.size))) (rm := (⟨olds ++ news⟩ ++ Builtin.zeroCells zv.cells (grownCap W (cap + n) cap e - (cap + n)) : Array Value).size) (SubHeap.refl _) hγ (.inl (Nat.le_refl _)) (But.drew_alloc W _), ?_, rfl, fun β hb => hb.symm⟩
        ·refine zeh hge ?_ (by omega)
         simp only [Array.size_append, List.size_toArray, size_zeroCells, c3, List.length_append, hol, hnl]
         rw [← Nat.add_mul, ← Nat.add_mul]
         exact Nat.mul_le_mul_right _ (by omega)
        ·refine Sim.push s (SubHeap.refl _) hγ (.inl (Nat.le_refl _)) (But.drew_alloc W _) (by simp) (fun q hq e => by have := s.lt q hq; omega) (fun _ _ _ _ _ _ _ _ h => s.loopOk h) ?_
         have hcsl : cs.take (cap * inf.size) = cs := List.take_of_length_le (by omega)
         rw [hcsl] at hor
         refine ⟨⟨olds ++ news⟩ ++ Builtin.zeroCells zv.cells (grownCap W (cap + n) cap e - (cap + n)), e, ?_, ?_, ?_, ?_, fun _ h => by cases h; rfl⟩
         ·simp only [Ctx.push, if_true]; exact zjd W.drew _
         ·simp only [Ctx.push, if_true]
         ·simp [hol, hnl, d2]; omega
         ·refine RepL.abides (zgx s (SubHeap.refl _) hγ (.inl (Nat.le_refl _)) (But.drew_alloc W _)) _ ?_
          have := RepL.append hor hnr
          have hlen2 := this.length
          rw [show ((⟨olds ++ news⟩ ++ Builtin.zeroCells zv.cells (grownCap W (cap + n) cap e - (cap + n)) : Array Value).toList).take (cs ++ xs.take (n * inf.size)).length = olds ++ news from ?_]
          ·exact this
          ·rw [← hlen2]
           simp only [Array.toList_append]
           rw [List.take_left']
           rfl
       ·cases h
     ·rename_i β off len es cp
      split at h
      ·rename_i el cs hβ
       split at h
       ·rename_i hcc
        obtain ⟨d0, d1, d2⟩ := hcc
        cases h
        subst d0
        have hlive : c.live β := by simp [Ctx.live, hβ]
        obtain ⟨cap, hve, hcap, hrm, hcp⟩ := hr.2 hlive
        subst hve
        have hml : (len + n) * inf.size = len * inf.size + n * inf.size := Nat.add_mul _ _ _
        have hxl : (xs.take (n * inf.size)).length = n * inf.size := by simp; omega
        obtain ⟨W', hst, he, hs⟩ := zrx (P := P) (off := off + len * inf.size) s hβ hnr (zxh c5 hnr) (by omega)
        have h00 := hnf W rfl
        have hroom : len + n ≤ cap := by omega
        refine ⟨_, .slice (some ⟨c.φ β, off, none⟩) (len + n) cap, W', c.upd β (.cells el (overwrite cs (off + len * inf.size) (xs.take (n * inf.size)))), zad ?_, .inl rfl, ⟨⟨s.used β hlive, rfl⟩, fun _ => ⟨cap, rfl, hroom, hrm, hcp⟩⟩, he, hs, rfl, fun _ h => .inl h⟩
        rcases hd2 with ⟨e2, rfl⟩ | rfl <;> simp [Builtin.append_, run_underlying hu, run_underlying hu2, sizeOf, typeInfo, hi, hnlen, hroom, h00, zfm, hst]
       ·split at h
        rotate_left
        ·cases h
        rename_i hcc
        obtain ⟨d0, d1, d2, d3⟩ := hcc
        cases h
        subst d0 d1
        have hlive : c.live β := by simp [Ctx.live, hβ]
        obtain ⟨cap, hve, hcap, hrm, _⟩ := hr.2 hlive
        have hsl : sls c.H (.ref β 0 len inf.size cp) = some (cs, len) := by simp [sls, hβ]
        obtain ⟨base, cap', olds, hve', _, hol, hor, hof, _⟩ := zrm (P := P) (size := inf.size) s hsl hr (by omega)
        rw [hve] at hve'
        cases hve'
        subst hve
        have hcsl : cs.take (len * inf.size) = cs := List.take_of_length_le (by omega)
        rw [hcsl] at hor
        have hrep := RepL.append hor hnr
        have hlen2 := hrep.length
        have hfree : ∀ q, (without c.H β q).isSome = true → c.φ q ≠ c.φ β := by
         intro q hq e
         have hq' := (SubHeap.without c.H β).live hq
         have := s.inj q β hq' hlive e
         subst this
         simp [without] at hq
        have hloop : ∀ x st pe tm ps as bo df, without c.H β x = some (.loop st pe tm ps as bo df) → isDef (without c.H β) df := by
         intro x st pe tm ps as bo df hx
         exact isDef.without hβ (s.loopOk (SubHeap.without c.H β _ _ hx))
        by_cases hroom : len + n ≤ cap
        ·obtain ⟨arr, e', g1, g2, g3, g4, g5⟩ := s.obj β _ hβ
         have hbound : (len + n) * inf.size ≤ arr.size := by
          rw [g2]
          have := Nat.mul_le_mul_right inf.size hroom
          omega
         rw [Nat.add_mul] at hbound
         have hrun := zpu (ty := ty) (b := c.φ β) hu hu2 hd2 hi hnf hnlen hnl (zxh c5 hnr) g1 hroom (by omega)
         refine ⟨_, _, _, _, zad hrun, .inl rfl, ?_, Ext.push (o := .cells (sameEl el e) (cs ++ xs.take (n * inf.size))) (rm := c.room β) (SubHeap.without _ β) hγ (.inr ⟨β, hlive, rfl⟩) (But.setRow W _ _), ?_, rfl, fun β hb => hb.symm⟩
         ·exact zeh hroom (by omega) hroom
         ·refine Sim.push s (SubHeap.without _ β) hγ (.inr ⟨β, hlive, rfl⟩) (But.setRow W _ _) (by simpa using s.lt β hlive) hfree hloop ?_
          refine ⟨(arr.toList.take (len * inf.size) ++ news ++ arr.toList.drop (len * inf.size + news.length)).toArray, e', ?_, ?_, ?_, ?_, fun _ h => by obtain ⟨rfl, h2⟩ := zqi h; exact g5 _ h2⟩
          ·simp only [Ctx.push, if_true]; exact setRow_heap W (c.φ β) arr _ e' (0, 0) g1
          ·simp only [Ctx.push, if_true]; rw [← g2]; simp; omega
          ·simp [hnl]; omega
          ·refine RepL.abides (zgx s (SubHeap.without _ β) hγ (.inr ⟨β, hlive, rfl⟩) (But.setRow W _ _)) _ ?_
           have e1 : ((arr.toList.take (len * inf.size) ++ news ++ arr.toList.drop (len * inf.size + news.length)).toArray.toList).take (cs ++ xs.take (n * inf.size)).length = arr.toList.take cs.length ++ news := by
            rw [← hlen2]
            simp only [d2]
            rw [List.take_left']
            simp; omega
           rw [e1]
           exact RepL.append g4 hnr
        ·have hrun := zkr (ty := ty) hu hu2 hd2 hi hz hof hnf hnlen (by omega) d3 c2
         have hge := grownCap_ge W (len + n) cap e
         refine ⟨_, _, _, _, zad hrun, .inl rfl, ?_, Ext.push (o := .cells (sameEl el e) (cs ++ xs.take (n * inf.size))) (rm := (⟨olds ++ news⟩ ++ Builtin.zeroCells zv.cells (grownCap W (len + n) cap e - (len + n)) : Array Value).size) (SubHeap.without _ β) hγ (.inl (Nat.le_refl _)) (But.drew_alloc W _), ?_, rfl, fun β hb => hb.symm⟩
         ·refine zeh hge ?_ (by omega)
          simp only [Array.size_append, List.size_toArray, size_zeroCells, c3, List.length_append, hol, hnl]
          rw [← Nat.add_mul, ← Nat.add_mul]
          exact Nat.mul_le_mul_right _ (by omega)
         ·refine Sim.push s (SubHeap.without _ β) hγ (.inl (Nat.le_refl _)) (But.drew_alloc W _) (by simp) (fun q hq e => by have := s.lt q ((SubHeap.without c.H β).live hq); omega) hloop ?_
          refine ⟨⟨olds ++ news⟩ ++ Builtin.zeroCells zv.cells (grownCap W (len + n) cap e - (len + n)), e, ?_, ?_, ?_, ?_, fun _ h => (zqi h).1.symm⟩
          ·simp only [Ctx.push, if_true]; exact zjd W.drew _
          ·simp only [Ctx.push, if_true]
          ·simp [hol, hnl, d2]; omega
          ·refine RepL.abides (zgx s (SubHeap.without _ β) hγ (.inl (Nat.le_refl _)) (But.drew_alloc W _)) _ ?_
           rw [show ((⟨olds ++ news⟩ ++ Builtin.zeroCells zv.cells (grownCap W (len + n) cap e - (len + n)) : Array Value).toList).take (cs ++ xs.take (n * inf.size)).length = olds ++ news from ?_]
           ·exact hrep
           ·rw [← hlen2]
            simp only [Array.toList_append]
            rw [List.take_left']
            rfl
      ·cases h
     ·cases h
    ·cases h
   ·cases h
  ·cases h
 ·cases h
theorem zacr {P : Program} {c : Ctx} {W : World} (s : Sim c W) {γ : Nat} (hγ : ¬ c.used γ) {t t2 ty : TypeId} {x y z : VV} {v w : Value} {eff : VEff} (h : vappend P c.H γ t t2 x y = some (z, eff)) (hr : Rep c W x v) (hw : Rep c W y w) :
  Stp P (asNext (Builtin.append_ #[t, t2] ty #[v, w])) c W γ z eff := zza s hγ h (zacf hr) hw
end Go.V
end
