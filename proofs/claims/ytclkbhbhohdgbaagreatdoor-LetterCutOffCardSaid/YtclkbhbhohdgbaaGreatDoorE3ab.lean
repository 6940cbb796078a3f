/- Part of a proof. -/
import Derived.Test.YtclkbhbhohdgbaaGreatDoorE3aa
set_option linter.all false
section
namespace Go.V
open Go
def mfun (P : Program) (t : TypeId) (name : String) : Option FuncId :=
 match P.info? t, P.underlying t with
 | some i, some u => match i.methods.find? (·.name == name) with
  | some m => match m.path.toList, m.func, u with
   | [], some (_, false), .pointer _ => none
   | [], some (f, false), _ => some f
   | _, _, _ => none
  | none => none
 | _, _ => none
def nilOkM (P : Program) (m : String) (a b : List VV) : Bool := match a, b with
 | [.ifc t _], [] => (mfun P t m).isSome
 | _, _ => false
variable {P : Program}
theorem FH {m : String} {a b : List VV} (h : nilOkM P m a b = true) : ∃ t y f, a = [.ifc t y] ∧ b = [] ∧ mfun P t m = some f := by
 unfold nilOkM at h
 split at h
 ·rename_i t y
  cases hf : mfun P t m with
  | none => rw [hf] at h; cases h
  | some f => exact ⟨t, y, f, rfl, rfl, hf⟩
 ·cases h
variable {W : World} {t : TypeId}
theorem SB {i : TypeInfo} (h : P.info? t = some i) : (typeInfo t).run P W = .ok i W := by
 unfold typeInfo
 simp [Sem.run_bind, Sem.run, program, h]
theorem yB {u : TypeDesc} (h : P.underlying t = some u) : (underlying t).run P W = .ok u W := by
 unfold underlying
 simp [Sem.run_bind, Sem.run, program, h]
variable {name : String} {f : FuncId}
theorem SC (h : mfun P t name = some f) : ∃ i u m, P.info? t = some i ∧ P.underlying t = some u ∧ i.methods.find? (·.name == name) = some m ∧ m.path.toList = [] ∧ m.func = some (f, false) ∧ ∀ e, u ≠ .pointer e := by
 unfold mfun at h
 split at h
 ·rename_i i _ hi hu
  split at h
  ·rename_i m hm
   split at h
   ·cases h
   ·rename_i hp hf hne
    cases h
    exact ⟨i, _, m, hi, hu, hm, hp, hf, fun e he => hne e he⟩
   ·cases h
  ·cases h
 ·cases h
theorem F4 (h : mfun P t name = some f) (n : Nat) (v : Value) (W : World) : (method (n + 1) t v name).run P W = .ok (f, v) W := by
 obtain ⟨i, u, m, hi, hu, hm, hp, hf, hne⟩ := SC h
 unfold method
 rw [Sem.run_bind, SB hi, Result.andThen_ok]
 simp only [hm, hp, follow, hf, Sem.run_bind, Sem.run_pure, Result.andThen_ok]
 simp only [receiverAt, Sem.run_bind, yB hu, Result.andThen_ok]
 cases u <;> first | exact absurd rfl (hne _) | rfl
theorem FI (h : mfun P t name = some f) (n : Nat) (v : Value) (W : World) : (nilAhead (n + 1) t v name).run P W = .ok (some false) W := by
 obtain ⟨i, u, m, hi, hu, hm, hp, hf, hne⟩ := SC h
 unfold nilAhead
 rw [Sem.run_bind, SB hi, Result.andThen_ok]
 simp only [hm, hp, followBlind, hf, Sem.run_bind, Sem.run_pure, Result.andThen_ok, yB hu]
 cases u <;> first | exact absurd rfl (hne _) | rfl
def vstrSlice (s : ByteArray) (lo hi : Option VV) : Option VV :=
 match vbound 0 lo, vbound s.size hi with
 | some l, some h => if l ≤ h ∧ h ≤ s.size then some (.lit (.string (s.extract l h))) else none
 | _, _ => none
def vbuiltin (P : Program) (c : Call) (ρ : Operand → VV) (H : Nat → Option Vo) (γ : Nat) : Option (VV × Ve) :=
 match c.callee, c.args.toList, c.argTypes.toList with
 | .builtin .len, [x], [t] => (vlen P H t (ρ x)).map fun y => (y, .none)
 | .builtin .append, [s, x], [t, t2] => vappend P H γ t t2 (ρ s) (ρ x)
 | .builtin .unsafeSliceData, [x], _ => (vsliceData H (ρ x)).map fun y => (y, .none)
 | .builtin .unsafeString, [p, n], [pt, _] => vunsafeString P H pt (ρ p) (ρ n)
 | .builtin .clear, [x], [t] => vclear P H t (ρ x)
 | .value f, args, _ => match ρ f with
  | .fn (.func f) first captured => (vnative P f (first ++ args.map ρ ++ captured)).map fun y => (y, .none)
  | _ => none
 | .builtin .min, [x, y], _ => match (ρ x).val?, (ρ y).val? with
  | some (.int k a), some (.int _ b) => some (.lit (.int k (if b < a then b else a)), .none)
  | _, _ => none
 | .builtin .max, [x, y], _ => match (ρ x).val?, (ρ y).val? with
  | some (.int k a), some (.int _ b) => some (.lit (.int k (if a < b then b else a)), .none)
  | _, _ => none
 | _, _, _ => none
def vop (P : Program) (o : Oper) (ρ : Operand → VV) (H : Nat → Option Vo) (γ : Nat) : Option (VV × Ve) :=
 match o.op with
 | .move x | .assign x => some (ρ x, .none)
 | .pick c a b => match ρ c with
  | .lit (.bool t) => some (if t then ρ a else ρ b, .none)
  | _ => none
 | .alloc e => (vzero P e).map fun z => (.ptr γ 0, .new (.cells (some e) (z.toList.map ofVal1)))
 | .box e x => (aW (ρ x)).map fun cs => (.ptr γ 0, .new (.cells (some e) cs))
 | .build t parts => (vbuild P t (parts.toList.map fun p => (p.1, ρ p.2))).map fun y => (y, .none)
 | .buildSlice t len parts => (aq P t len (parts.toList.map fun p => (p.1, ρ p.2))).map fun p => (.ref γ 0 len p.2 len, .new (.cells (elemT P t) p.1))
 | .load t x => match tgt H (ρ x) with
  | some cs => (aN P t cs).map fun y => (y, .none)
  | none => none
 | .store t a x => match ρ a with
  | .ptr β off => match H β, aW (ρ x), szT P t with
   | some (.cells el cs), some xs, some n => if xs.length = n ∧ off + n ≤ cs.length then some (.any, .upd β (.cells el (overwrite cs off xs))) else none
   | _, _, _ => none
  | _ => none
 | .nilCheck x => match ρ x with
  | .tp cs => some (.tp cs, .none)
  | .ptr β off => if (H β).isSome then some (.ptr β off, .none) else none
  | .fn (.func f) a b => some (.fn (.func f) a b, .none)
  | .fn (.method m) a b => if nilOkM P m a b then some (.fn (.method m) a b, .none) else none
  | .yl β => if (H β).isSome then some (.yl β, .none) else none
  | _ => none
 | .binOp op t x y _ => match (ρ x).val?, (ρ y).val? with
  | some a, some b => (vbin P op t x y a b).map fun v => (ofVal v, .none)
  | _, _ => (vptrEq P H op t (ρ x) (ρ y)).map fun z => (z, .none)
 | .unOp op _ x => match (ρ x).val? with
  | some a => (aA P (Op.unary op a)).map fun v => (ofVal v, .none)
  | none => none
 | .convert src dst x => match (ρ x).val? with
  | some a => (aA P (convert src dst a)).map fun v => (ofVal v, .none)
  | none => match vconv P H src dst (ρ x) with
   | some y => some (y, .none)
   | none => (vptrConv P H src dst (ρ x)).map fun y => (y, .none)
 | .makeInterface t x => match P.underlying t with
  | some (.interface _) => none
  | some _ => some (.ifc t (ρ x), .none)
  | none => none
 | .makeFunc fn first captured => some (.fn fn (first.toList.map ρ) (captured.toList.map ρ), .none)
 | .makeMap _ none => some (.mp γ, .new (.map []))
 | .makeSlice t l k => (vmakeSlice P t (ρ l) (ρ k)).map fun p => (.ref γ 0 p.2.1 p.2.2 p.2.1, .new (.cells (elemT P t) p.1))
 | .slice t x lo hi mx =>
  match P.underlying t, ρ x, mx with
  | some .string, .lit (.string s), none => (vstrSlice s (lo.map ρ) (hi.map ρ)).map fun y => (y, .none)
  | _, _, _ => match vslice P H t (ρ x) (lo.map ρ) (hi.map ρ) (mx.map ρ) with
   | some y => some (y, .none)
   | none => (vsliceX P H t (ρ x) (lo.map ρ) (hi.map ρ) (mx.map ρ)).map fun y => (y, .none)
 | .fieldAddr t x f => (ag P H t (ρ x) f).map fun y => (y, .none)
 | .field t x f => (vfield P t (ρ x) f).map fun y => (y, .none)
 | .indexAddr t x i => (aH P H t (ρ x) (ρ i)).map fun y => (y, .none)
 | .index t x i => (vindex P t (ρ x) (ρ i)).map fun y => (y, .none)
 | .lookup t x k ok => (vlookup P H t (ρ x) (ρ k) ok).map fun y => (y, .none)
 | .mapUpdate t m k x | .insert t m k x => (vmapUpdate P H t (ρ m) (ρ k) (ρ x)).map fun e => (.any, e)
 | .range t x => match P.underlying t, ρ x with
  | some .string, .lit (.string s) => some (.it γ, .new (.stri s 0))
  | _, _ => none
 | .next it b => vnext H (ρ it) b
 | .typeAssert x _ a ok => (vtypeAssert P (ρ x) a ok).map fun y => (y, .none)
 | .extract t i => match ρ t with
  | .tup vs => (vs[i]?).map fun y => (y, .none)
  | _ => none
 | .call c => vbuiltin P c ρ H γ
 | _ => none
theorem ph {c : Ctx} {W : World} {ρV : Operand → VV} {ρ : Operand → Value} (h : ∀ y, Rep c W (ρV y) (ρ y)) : ∀ l : List Operand, Rl c W (l.map ρV) (l.map ρ)
 | [] => rfl
 | x :: l => ⟨_, _, rfl, h x, ph h l⟩
variable {c : Ctx} {ρV : Operand → VV}
theorem sG {ρ : Operand → Value} (h : ∀ y, Rep c W (ρV y) (ρ y)) : ∀ l : Option Operand, RepO c W (l.map ρV) (l.map ρ)
 | none => trivial
 | some x => h x
theorem omap {α β : Type} {x : Option α} {f : α → β} {r : β} (h : x.map f = some r) : ∃ a, x = some a ∧ r = f a := by
 cases x with
 | none => cases h
 | some a => simp at h; exact ⟨a, rfl, h.symm⟩
theorem Wt (s : Sim c W) {γ : Nat} {st : ByteArray} {y : VV} {lo hi : Option VV} {vlo vhi : Option Value} (hu : P.underlying t = some .string) (h : vstrSlice st lo hi = some y)
  (rlo : RepO c W lo vlo) (rhi : RepO c W hi vhi) : Stp P (aZ (Instr.sliceAt t (.string st) vlo vhi none)) c W γ y .none := by
 unfold vstrSlice at h
 split at h
 ·rename_i l hh hlo hhi
  split at h
  ·rename_i hc
   cases h
   refine Stp.same s (cP (v := .string (st.extract l hh)) ?_) rfl
   have hb : (Instr.sliceBounds false st.size st.size vlo vhi none).run P W = .ok (l, hh, st.size) W := by
    unfold Instr.sliceBounds
    cases hi with
    | none =>
     cases vhi with
     | some _ => exact rhi.elim
     | none =>
      have e := qB hhi
      subst e
      cases lo with
      | none =>
       cases vlo with
       | some _ => exact rlo.elim
       | none => have e := qB hlo; subst e; simp
      | some x =>
       cases vlo with
       | none => exact rlo.elim
       | some v => simp [kS hlo rlo hc.1]
    | some z =>
     cases vhi with
     | none => exact rhi.elim
     | some u =>
      cases lo with
      | none =>
       cases vlo with
       | some _ => exact rlo.elim
       | none => have e := qB hlo; subst e; simp [kS hhi rhi hc.2]
      | some x =>
       cases vlo with
       | none => exact rlo.elim
       | some v => simp [kS hhi rhi hc.2, kS hlo rlo hc.1]
   simp only [Instr.sliceAt, Sem.run_bind, run_underlying hu, Result.andThen_ok, Instr.slice, Option.isSome_none, Bool.false_eq_true, if_false, hb, Sem.run_pure, pure_bind]
  ·cases h
 ·cases h
theorem FJ (s : Sim c W) {γ : Nat} (hγ : ¬ c.used γ) {k : Call} {ty : TypeId} {ρ : Operand → Value} {x : VV} {eff : Ve} (hρ : ∀ y, Rep c W (ρV y) (ρ y))
  (h : vbuiltin P k ρV c.H γ = some (x, eff)) : Stp P (do let d ← resolve ρ k ty; invoke d.target d.args) c W γ x eff := by
 obtain ⟨callee, ⟨args⟩, ⟨ats⟩⟩ := k
 unfold vbuiltin at h
 simp only at h
 split at h
 ·rename_i y t
  obtain ⟨a, ha, e⟩ := omap h
  cases e
  have := EI (P := P) (γ := γ) (ty := ty) s ha (hρ y)
  simpa [resolve, invoke, builtin, aZ] using this
 ·rename_i y z t t2
  have := EN (P := P) (ty := ty) s hγ h (hρ y) (hρ z)
  simpa [resolve, invoke, builtin, aZ] using this
 ·rename_i y
  obtain ⟨a, ha, e⟩ := omap h
  cases e
  have := VU (P := P) (γ := γ) (ts := ⟨ats⟩) (ty := ty) s ha (hρ y)
  simpa [resolve, invoke, builtin, aZ] using this
 ·rename_i p n pt it
  have := VW (P := P) (γ := γ) (it := it) (ty := ty) s h (hρ p) (hρ n)
  simpa [resolve, invoke, builtin, aZ] using this
 ·rename_i y t
  have := Fh (P := P) (γ := γ) (ty := ty) s h (hρ y)
  simpa [resolve, invoke, builtin, aZ] using this
 ·rename_i fo
  split at h
  ·rename_i f first captured hf
   obtain ⟨y, hy, e⟩ := omap h
   cases e
   have h1 := hρ fo
   rw [hf] at h1
   obtain ⟨l, m, e, hl, hm⟩ := h1
   obtain ⟨v, hv, hrv⟩ := Fi (W := W) hy (Rl.append (Rl.append hl (ph hρ args)) hm)
   refine Stp.same s (v := v) ?_ hrv
   have e2 : (⟨l⟩ ++ (args.map ρ).toArray ++ ⟨m⟩ : Array Value) = ⟨l ++ args.map ρ ++ m⟩ := by
    apply Array.ext'; simp
   rw [← hv, ← e2]
   simp [resolve, Deferred.ofValue, e, invoke]
  ·cases h
 ·rename_i y z
  split at h
  ·rename_i k1 a k2 b ha hb
   cases h
   have ea := oQ ha (hρ y)
   have eb := oQ hb (hρ z)
   refine Stp.same s (v := .int k1 (if b < a then b else a)) ?_ rfl
   simp [resolve, invoke, builtin, Builtin.min_, Builtin.min2, ea, eb]
  ·cases h
 ·rename_i y z
  split at h
  ·rename_i k1 a k2 b ha hb
   cases h
   have ea := oQ ha (hρ y)
   have eb := oQ hb (hρ z)
   refine Stp.same s (v := .int k1 (if a < b then b else a)) ?_ rfl
   simp [resolve, invoke, builtin, Builtin.max_, Builtin.max2, ea, eb]
  ·cases h
 ·cases h
set_option maxHeartbeats 9000000 in
theorem yw {P : Program} {c : Ctx} {W : World} (s : Sim c W) {γ : Nat} (hγ : ¬ c.used γ) {o : Oper} {ρV : Operand → VV} {ρ : Operand → Value} {x : VV} {eff : Ve} (hρ : ∀ y, Rep c W (ρV y) (ρ y))
  (h : vop P o ρV c.H γ = some (x, eff)) : Stp P (execOp ρ o) c W γ x eff := by
 unfold vop at h
 unfold execOp
 split at h <;> rename_i hop <;> simp only [hop]
 ·cases h; exact Stp.same s rfl (hρ _)
 ·cases h; exact Stp.same s rfl (hρ _)
 ·rename_i cc a b
  split at h
  ·rename_i t ht
   cases h
   have := hρ cc
   rw [ht] at this
   have e : ρ cc = .bool t := this
   refine Stp.same s (v := if t then ρ a else ρ b) (by simp [e, asBool]) ?_
   cases t
   ·exact hρ b
   ·exact hρ a
  ·cases h
 ·obtain ⟨z, hz, e⟩ := omap h
  cases e
  exact EA s hγ hz
 ·obtain ⟨z, hz, e⟩ := omap h
  cases e
  exact EB s hγ hz (hρ _)
 ·rename_i t parts
  obtain ⟨y, hy, e⟩ := omap h
  cases e
  obtain ⟨v, hv, hr⟩ := E9 (vals := parts.map fun (i, x) => (i, ρ x)) hy (by simp [Function.comp_def]) (by
   simp only [List.map_map, Array.toList_map, Function.comp_def]
   have := ph hρ (parts.toList.map (·.2))
   simpa [List.map_map, Function.comp_def] using this)
  exact Stp.same s (cP hv) hr
 ·rename_i t len parts
  obtain ⟨y, hy, e⟩ := omap h
  cases e
  exact VJ s hγ (vals := parts.map fun (i, x) => (i, ρ x)) hy (by simp [Function.comp_def]) (by
   simp only [List.map_map, Array.toList_map, Function.comp_def]
   have := ph hρ (parts.toList.map (·.2))
   simpa [List.map_map, Function.comp_def] using this)
 ·rename_i t y
  split at h
  ·rename_i cs hcs
   obtain ⟨z, hz, e⟩ := omap h
   cases e
   exact ED s hcs hz (hρ y)
  ·cases h
 ·rename_i t a y
  split at h
  ·rename_i β off ha
   split at h
   ·rename_i el cs xs n hβ hxs hn
    split at h
    ·rename_i hc
     cases h
     have := hρ a
     rw [ha] at this
     exact EE s hβ hxs hn hc.1 hc.2 this (hρ y)
    ·cases h
   ·cases h
  ·cases h
 ·rename_i y
  have hy := hρ y
  split at h
  ·rename_i cs hcs
   cases h
   rw [hcs] at hy
   obtain ⟨b, off, e, hA⟩ := hy
   exact Stp.same s (v := ρ y) (by rw [e]; rfl) ⟨b, off, e, hA⟩
  ·rename_i β off hb
   split at h
   ·rename_i hl
    cases h
    rw [hb] at hy
    exact Stp.same s (v := ρ y) (by rw [hy.2 hl]; rfl) hy
   ·cases h
  ·rename_i f a b hb
   cases h
   rw [hb] at hy
   obtain ⟨l, m, e, h1, h2⟩ := hy
   exact Stp.same s (v := ρ y) (by rw [e]; rfl) ⟨l, m, e, h1, h2⟩
  ·rename_i nm a b hb
   split at h
   ·rename_i hok
    cases h
    obtain ⟨t, z, f, rfl, rfl, hf⟩ := FH hok
    rw [hb] at hy
    have nF := hy
    obtain ⟨l, m, e, h1, h2⟩ := hy
    obtain ⟨u, us, rfl, ⟨w, rfl, hw⟩, h3⟩ := h1
    have h3' : us = [] := h3
    have h2' : m = [] := h2
    subst h3' h2'
    refine Stp.same s (v := ρ y) ?_ nF
    rw [e]
    have ha := FI hf (P.types.size + 99) w W
    show (do
      if (← nilAhead ((← program).types.size + Made.depth) t w nm) != some false then
       unsupported _
      pure (Next.value _) : Sem Next).run P W = _
    have hp : (program).run P W = .ok P W := rfl
    rw [Sem.run_bind, hp, Result.andThen_ok, Sem.run_bind]
    have e2 : P.types.size + Made.depth = P.types.size + 99 + 1 := rfl
    rw [e2, ha]
    rfl
   ·cases h
  ·rename_i β hb
   split at h
   ·rename_i hl
    cases h
    rw [hb] at hy
    exact Stp.same s (v := ρ y) (by rw [hy.2 hl]; rfl) hy
   ·cases h
  ·cases h
 ·rename_i op t y z _
  split at h
  ·rename_i a b ha hb
   obtain ⟨v, hv, e⟩ := omap h
   cases e
   have ea := oQ ha (hρ y)
   have eb := oQ hb (hρ z)
   rw [ea, eb]
   exact Stp.same s (cP (E7 hv W)) (yh c W v)
  ·obtain ⟨z', hz, e⟩ := omap h
   cases e
   obtain ⟨w, hw, hrw⟩ := Fg (W := W) (x := y) (y := z) hz (hρ y) (hρ z)
   exact Stp.same s (cP hw) hrw
 ·rename_i op _ y
  split at h
  ·rename_i a ha
   obtain ⟨v, hv, e⟩ := omap h
   cases e
   rw [oQ ha (hρ y)]
   exact Stp.same s (cP (mS hv W)) (yh c W v)
  ·cases h
 ·rename_i src dst y
  split at h
  ·rename_i a ha
   obtain ⟨v, hv, e⟩ := omap h
   cases e
   rw [oQ ha (hρ y)]
   exact Stp.same s (cP (mS hv W)) (yh c W v)
  ·split at h
   ·rename_i z hz
    cases h
    exact Fa s hz (hρ y)
   ·obtain ⟨z, hz, e⟩ := omap h
    cases e
    exact Ff s hz (hρ y)
 ·rename_i t y
  split at h
  ·cases h
  ·rename_i d hne hu
   cases h
   refine Stp.same s (cP (v := .iface t (ρ y)) ?_) ⟨_, rfl, hρ y⟩
   simp only [Instr.makeInterface, Sem.run_bind, run_underlying hu, Result.andThen_ok]
   cases d <;> first | exact absurd rfl (hne _) | rfl
  ·cases h
 ·rename_i fn first captured
  cases h
  refine Stp.same s (v := .func fn (first.map ρ) (captured.map ρ)) rfl ⟨(first.map ρ).toList, (captured.map ρ).toList, rfl, ?_, ?_⟩
  ·simpa using ph hρ first.toList
  ·simpa using ph hρ captured.toList
 ·cases h
  exact ET s hγ
 ·obtain ⟨p, hp, e⟩ := omap h
  cases e
  exact VR s hγ hp (hρ _) (hρ _)
 ·rename_i t y lo hi mx
  split at h
  ·rename_i st hu hst
   obtain ⟨p, hp, e⟩ := omap h
   cases e
   have := hρ y
   rw [hst] at this
   have e : ρ y = .string st := this
   rw [e]
   exact Wt s hu hp (sG hρ lo) (sG hρ hi)
  ·split at h
   ·rename_i p hp
    cases h
    exact EH s hp (hρ _) (sG hρ _) (sG hρ _) (sG hρ _)
   ·obtain ⟨p, hp, e⟩ := omap h
    cases e
    exact Fk s hp (hρ _) (sG hρ _) (sG hρ _) (sG hρ _)
 ·obtain ⟨p, hp, e⟩ := omap h
  cases e
  exact VK s hp (hρ _)
 ·obtain ⟨p, hp, e⟩ := omap h
  cases e
  exact EF s hp (hρ _)
 ·obtain ⟨p, hp, e⟩ := omap h
  cases e
  exact VL s hp (hρ _) (hρ _)
 ·obtain ⟨p, hp, e⟩ := omap h
  cases e
  exact EG s hp (hρ _) (hρ _)
 ·obtain ⟨p, hp, e⟩ := omap h
  cases e
  exact ES s hp (hρ _) (hρ _)
 ·obtain ⟨p, hp, e⟩ := omap h
  cases e
  exact Sl s hp (hρ _) (hρ _) (hρ _)
 ·obtain ⟨p, hp, e⟩ := omap h
  cases e
  exact Sl s hp (hρ _) (hρ _) (hρ _)
 ·rename_i t y
  split at h
  ·rename_i st hu hst
   cases h
   have := hρ y
   rw [hst] at this
   have e : ρ y = .string st := this
   rw [e]
   exact VS s hγ hu
  ·cases h
 ·exact EU s h (hρ _)
 ·obtain ⟨p, hp, e⟩ := omap h
  cases e
  exact VT s hp (hρ _)
 ·rename_i t i
  split at h
  ·rename_i vs hvs
   obtain ⟨p, hp, e⟩ := omap h
   cases e
   have := hρ t
   rw [hvs] at this
   obtain ⟨l, e, hl⟩ := this
   obtain ⟨u, hu, hru⟩ := Rl.get i hl hp
   refine Stp.same s (cP (v := u) ?_) hru
   simp [Instr.extract, e, hu]
  ·cases h
 ·exact FJ s hγ hρ h
 ·cases h
end Go.V
end
