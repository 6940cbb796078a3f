/- Part of a proof: a logic of values by content, lifted functions, what follows. -/
import Derived.Test.YtbpeickbdiihcaaGreatDoorZab
import Derived.IntWalk
import Derived.Laws.BytesString
import Derived.Lib.UnsafeStr
import Derived.Laws.Cover3
set_option linter.all false
section
namespace Go.V
open Go
def vmakeSlice (P : Program) (t : TypeId) (l k : VV) : Option (List VV × Nat × Nat) :=
 match P.underlying t, l, k with
 | some (.slice e), .lit (.int _ l), .lit (.int _ k) =>
  match P.info? e with
  | some inf =>
   match inf.zero with
   | some z =>
    if 0 ≤ l ∧ l ≤ k ∧ 0 < inf.size ∧ 0 < inf.bytes ∧ inf.bytes * k ≤ 140737488355328 ∧ z.cells.size = inf.size then
     some (vzeros z.cells (l.toNat * inf.size), l.toNat, inf.size)
    else none
   | none => none
  | none => none
 | _, _, _ => none
theorem wrap_id {n : Int} (h0 : 0 ≤ n) (h : n ≤ 140737488355328) : IntKind.i64.wrap n = n := by
 have : IntKind.i64.wrap n = n := IntWalk.i64_in _ ⟨by omega, by omega⟩
 exact this
theorem stp_makeSlice {P : Program} {c : Ctx} {W : World} (s : Sim c W) {γ : Nat} (hγ : ¬ c.used γ) {t : TypeId} {x y : VV} {v w : Value} {cs : List VV} {len es : Nat} (h : vmakeSlice P t x y = some (cs, len, es))
  (hr : Rep c W x v) (hw : Rep c W y w) : Stp P (asNext (Instr.makeSlice t v w)) c W γ (.ref γ 0 len es len) (.new (.cells (elemT P t) cs)) := by
 unfold vmakeSlice at h
 split at h
 ·rename_i e k1 l k2 k hu
  have hel : elemT P t = some e := by simp [elemT, hu]
  rw [hel]
  split at h
  ·rename_i inf hi
   split at h
   ·rename_i z hz
    split at h
    ·rename_i hc
     obtain ⟨c1, c2, c3, c4, c5, c6⟩ := hc
     cases h
     have hv : v = .int k1 l := hr
     have hw' : w = .int k2 k := hw
     subst hv hw'
     have hk : k ≤ 140737488355328 := by
      have h1 : (1 : Int) ≤ inf.bytes := by omega
      have := Int.mul_le_mul_of_nonneg_right h1 (show 0 ≤ k by omega)
      omega
     have wl := wrap_id (n := l) (by omega) (by omega)
     have wk := wrap_id (n := k) (by omega) (by omega)
     have hle : l.toNat * inf.size ≤ k.toNat * inf.size := Nat.mul_le_mul_right _ (by omega)
     refine stp_new (arr := (Array.range (k.toNat * inf.size)).map (fun i => z.cells[i % z.cells.size]!)) (t := e) s hγ ?_ (by simp [vzeros]; omega) ?_ (rep_ref_push (cap := k.toNat) (by omega) (by simp) (by omega))
     ·have t1 : ¬ (k < 0 ∨ 281474976710656 < (inf.bytes : Int) * k) := by omega
      have t2 : ¬ (l < 0) := by omega
      have t3 : ¬ (k < l) := by omega
      have hn : inf.size ≠ 0 := by omega
      by_cases hk0 : k.toNat * inf.size = 0
      ·have hk1 : k = 0 := by
        rcases Nat.mul_eq_zero.1 hk0 with h | h <;> omega
       have hl0 : l = 0 := by omega
       subst hk1 hl0
       have w0 : IntKind.i64.wrap 0 = 0 := by decide
       simp [asNext, Instr.makeSlice, run_underlying hu, asInt, asIntOf, typeInfo, hi, sizeOf, newRow, w0]
       have e0 : ∀ f : Nat → Value, (Array.range 0).map f = #[] := by intro f; simp
       rw [e0, e0]
      ·simp [asNext, Instr.makeSlice, run_underlying hu, asInt, asIntOf, typeInfo, hi, wl, wk, t1, t2, t3, sizeOf, newRow, zeroValue, hz]
       intro h
       exact absurd h hk0
     ·have : (vzeros z.cells (l.toNat * inf.size)).length = l.toNat * inf.size := by simp [vzeros]
      rw [this]
      have e1 : vzeros z.cells (l.toNat * inf.size) = (vzeros z.cells (k.toNat * inf.size)).take (l.toNat * inf.size) := by
       unfold vzeros
       rw [← List.map_take, List.take_range, Nat.min_eq_left hle]
      rw [e1]
      exact RepL.take _ (vzeros_rep z.cells _)
    ·cases h
   ·cases h
  ·cases h
 ·cases h
theorem evalP_bind {α β : Type} {P : Program} : ∀ (x : Sem α) (f : α → Sem β), evalP P (x >>= f) = (evalP P x).bind fun a => evalP P (f a)
 | .pure a, f => rfl
 | .program k, f => by
  show evalP P ((k P).bind f) = _
  exact evalP_bind (k P) f
 | .load .., _ => rfl
 | .store .., _ => rfl
 | .new .., _ => rfl
 | .shape .., _ => rfl
 | .freeze .., _ => rfl
 | .frozen .., _ => rfl
 | .getObj .., _ => rfl
 | .setObj .., _ => rfl
 | .choose .., _ => rfl
 | .sys .., _ => rfl
 | .mark _ k, f => evalP_bind k f
 | .halt .., _ => rfl
theorem evalP_pure {α : Type} (P : Program) (a : α) : evalP P (pure a : Sem α) = some a := rfl
def dummy (k : Value) : MapEntry := { key := k, val := .bool false, born := 0 }
def kfind (P : Program) (kt : TypeId) (k : Value) (keys : List Value) : Option (Option Nat) :=
 (evalP P (Instr.findKey kt k (keys.map dummy))).map fun r => r.map (·.1)
def pairAt (es : List MapEntry) (i : Nat) : Option Nat → Option (Nat × Value)
 | none => none
 | some j => (es[j - i]?).map fun e => (j, e.val)
theorem findNow_dummy (kind : TypeDesc) (k : Value) : ∀ (es : List MapEntry) (i : Nat),
  match Instr.findNow kind k ((es.map (·.key)).map dummy) i with
  | none => Instr.findNow kind k es i = none
  | some none => Instr.findNow kind k es i = some none
  | some (some (j, _)) => ∃ e, i ≤ j ∧ es[j - i]? = some e ∧ Instr.findNow kind k es i = some (some (j, e.val))
 | [], i => by simp [Instr.findNow]
 | e :: es, i => by
  have ih := findNow_dummy kind k es (i + 1)
  simp only [List.map_cons, Instr.findNow, dummy]
  cases hs : Instr.sameNow kind k e.key with
  | none => simp
  | some b =>
   cases b with
   | true => exact ⟨e, Nat.le_refl _, by simp, rfl⟩
   | false =>
    simp only
    split at ih
    ·exact ih
    ·exact ih
    ·rename_i j v h
     obtain ⟨e', hle, he', hf⟩ := ih
     exact ⟨e', by omega, by rw [show j - i = (j - (i + 1)) + 1 by omega]; simpa using he', hf⟩
theorem findAsking_dummy {P : Program} (kt : TypeId) (k : Value) (W : World) : ∀ (es : List MapEntry) (i : Nat) (r : Option (Nat × Value)),
  evalP P (Instr.findAsking kt k ((es.map (·.key)).map dummy) i) = some r →
  (∀ p, r = some p → i ≤ p.1 ∧ p.1 - i < es.length) ∧ (Instr.findAsking kt k es i).run P W = .ok (pairAt es i (r.map (·.1))) W
 | [], i, r, h => by
  simp only [List.map_nil, Instr.findAsking, evalP_pure, Option.some.injEq] at h
  subst h
  exact ⟨fun p hp => (by cases hp), by simp [Instr.findAsking, pairAt]⟩
 | e :: es, i, r, h => by
  simp only [List.map_cons, Instr.findAsking, evalP_bind] at h
  cases hq : evalP P (Op.equal kt k (dummy e.key).key) with
  | none => simp [hq] at h
  | some b =>
   simp only [hq, Option.bind_some] at h
   have hr := evalP_run hq W
   simp only [dummy] at hr
   cases b with
   | true =>
    simp only [if_true] at h
    have : r = some (i, (dummy e.key).val) := by
     simp only [evalP_pure, Option.some.injEq] at h
     exact h.symm
    subst this
    exact ⟨fun p hp => by cases hp; simp, by simp [Instr.findAsking, hr, pairAt]⟩
   | false =>
    simp at h
    have ih := findAsking_dummy (P := P) kt k W es (i + 1) r (by simpa using h)
    refine ⟨fun p hp => by have := ih.1 p hp; simp; omega, ?_⟩
    simp only [Instr.findAsking, Sem.run_bind, hr, Result.andThen_ok, Bool.false_eq_true, if_false, ih.2]
    congr 1
    cases r with
    | none => rfl
    | some p =>
     have := (ih.1 p rfl).1
     simp only [Option.map_some, pairAt]
     rw [show p.1 - i = (p.1 - (i + 1)) + 1 by omega]
     simp
theorem kfind_run {P : Program} {kt : TypeId} {k : Value} {es : List MapEntry} {r : Option Nat} (h : kfind P kt k (es.map (·.key)) = some r) (W : World) :
  (∀ j, r = some j → j < es.length) ∧ (Instr.findKey kt k es).run P W = .ok (pairAt es 0 r) W := by
 unfold kfind at h
 cases hq : evalP P (Instr.findKey kt k ((es.map (·.key)).map dummy)) with
 | none => rw [hq] at h; cases h
 | some q =>
  simp only [hq, Option.map_some, Option.some.injEq] at h
  subst h
  unfold Instr.findKey at hq ⊢
  rw [evalP_bind] at hq
  cases hu : evalP P (underlying kt) with
  | none => simp [hu] at hq
  | some d =>
   simp only [hu, Option.bind_some] at hq
   simp only [Sem.run_bind, evalP_run hu, Result.andThen_ok]
   have hfn := findNow_dummy d k es 0
   split at hfn
   ·rename_i hn
    rw [hn] at hq
    simp only [hfn]
    have ha := findAsking_dummy (P := P) kt k W es 0 q (by simpa using hq)
    refine ⟨fun j hj => ?_, ha.2⟩
    cases q with
    | none => simp at hj
    | some p => simp at hj; have := (ha.1 p rfl).2; omega
   ·rename_i hn
    rw [hn] at hq
    simp only [evalP_pure, Option.some.injEq] at hq
    subst hq
    simp [hfn, pairAt]
   ·rename_i j v hn
    rw [hn] at hq
    simp only [evalP_pure, Option.some.injEq] at hq
    subst hq
    obtain ⟨e, _, he, hf⟩ := hfn
    refine ⟨fun i hi => by
     simp at hi; subst hi
     simp at he
     exact (List.getElem?_eq_some_iff.1 he).1, ?_⟩
    simp at he
    simp [hf, pairAt, he]
def mapOf (H : Nat → Option VObj) : VV → Option (List (Value × VV))
 | .mp β => match H β with
  | some (.map es) => some es
  | _ => none
 | .mt ks vs => some (ks.zip vs)
 | _ => none
theorem mapOf_rep {c : Ctx} {W : World} (s : Sim c W) {x : VV} {v : Value} {es : List (Value × VV)} (h : mapOf c.H x = some es) (hr : Rep c W x v) :
  ∃ b ents clk, v = .map (some b) ∧ W.heap[b]? = some (.map ents clk) ∧ ents.toList.map (·.key) = es.map (·.1) ∧ RepL c W (es.map (·.2)) (ents.toList.map (·.val)) := by
 cases x with
 | mp β =>
  unfold mapOf at h
  simp only at h
  split at h
  ·rename_i es' hβ
   cases h
   have hv : v = .map (some (c.φ β)) := hr.2 (by simp [Ctx.live, hβ])
   obtain ⟨ents, clk, h1, h2, h3⟩ := s.obj β _ hβ
   exact ⟨_, ents, clk, hv, h1, h2, h3⟩
  ·cases h
 | mt ks vs =>
  cases h
  obtain ⟨b, e, hA, ents, clk, h1, h2, h3⟩ := hr
  have hl := h3.length
  have hk : ks.length = vs.length := by rw [← h2, ← hl]; simp
  refine ⟨b, ents, clk, e, h1, ?_, ?_⟩
  ·rw [h2, List.map_fst_zip (by omega)]
  ·rw [List.map_snd_zip (by omega)]; exact h3
 | _ => simp [mapOf] at h
def vlookup (P : Program) (H : Nat → Option VObj) (t : TypeId) (x k : VV) (ok : Bool) : Option VV :=
 match P.underlying t, k.val? with
 | some (.map kt et), some k =>
  match mapOf H x with
  | some es =>
   match evalP P (Instr.checkKey es.isEmpty 10000 kt k), kfind P kt k (es.map (·.1)), (P.info? et).bind (·.zero) with
   | some (), some r, some z =>
    match r with
    | some i => match es[i]? with
     | some p => some (if ok then .tup [p.2, .lit (.bool true)] else p.2)
     | none => none
    | none => some (if ok then .tup [ofVal2 z, .lit (.bool false)] else ofVal2 z)
   | _, _, _ => none
  | none => none
 | _, _ => none
theorem stp_lookup {P : Program} {c : Ctx} {W : World} (s : Sim c W) {γ : Nat} {t : TypeId} {x k y : VV} {v w : Value} {ok : Bool} (h : vlookup P c.H t x k ok = some y) (hr : Rep c W x v) (hk : Rep c W k w) :
  Stp P (asNext (Instr.lookup t v w ok)) c W γ y .none := by
 unfold vlookup at h
 split at h
 ·rename_i kt et kv hu hkv
  have hw := rep_val hkv hk
  subst hw
  split at h
  ·rename_i es hβ
   split at h
   ·rename_i r z hck hkf hz
    obtain ⟨bq, ents, clk, hv, h1, h2, h3⟩ := mapOf_rep s hβ hr
    subst hv
    have hg : (getObj bq).run P W = .ok (.map ents clk) W := by simp [getObj, Sem.run, h1]
    rw [← h2] at hkf
    obtain ⟨hlt, hrun⟩ := kfind_run hkf W
    have hl : ents.toList.length = es.length := by
     have := congrArg List.length h2
     simpa using this
    have hemp : ents.isEmpty = es.isEmpty := by
     rw [Bool.eq_iff_iff]; simp only [Array.isEmpty_iff_size_eq_zero, List.isEmpty_iff_length_eq_zero]; simp at hl; omega
    have hck' := evalP_run hck W
    rw [← hemp] at hck'
    have hzr : (zeroValue et).run P W = .ok z W := by
     cases hi : P.info? et with
     | none => simp [hi] at hz
     | some i => simp [hi] at hz; simp [zeroValue, typeInfo, hi, hz]
    cases r with
    | some i =>
     have hi := hlt i rfl
     simp only at h
     split at h
     ·rename_i p hp
      cases h
      have hpe : ents.toList[i]? = some (ents.toList[i]'hi) := List.getElem?_eq_getElem hi
      obtain ⟨u, hu', hru⟩ := RepL.get i h3 (x := p.2) (by simp [hp])
      have hue : u = (ents.toList[i]'hi).val := by
       simp [hpe] at hu'
       exact hu'.symm
      refine Stp.same s (run_asNext (v := if ok then .tuple #[u, .bool true] else u) ?_) ?_
      ·simp only [Instr.lookup, Sem.run_bind, run_underlying hu, Result.andThen_ok, hg, Sem.run_pure, hck', hrun, pairAt, Nat.sub_zero, hpe, Option.map_some]
       rw [hue]
      ·cases ok
       ·simpa using hru
       ·exact ⟨[u, .bool true], rfl, u, _, rfl, hru, _, _, rfl, rfl, rfl⟩
     ·cases h
    | none =>
     simp only at h
     cases h
     refine Stp.same s (run_asNext (v := if ok then .tuple #[z, .bool false] else z) ?_) ?_
     ·simp only [Instr.lookup, Sem.run_bind, run_underlying hu, Result.andThen_ok, hg, Sem.run_pure, hck', hrun, pairAt, hzr]
     ·cases ok
      ·simpa using rep_ofVal2 c W z
      ·exact ⟨[z, .bool false], rfl, z, _, rfl, rep_ofVal2 c W z, _, _, rfl, rfl, rfl⟩
   ·cases h
  ·cases h
 ·cases h
end Go.V
end
section
namespace Go.V
open Go
theorem stp_makeMap {P : Program} {c : Ctx} {W : World} (s : Sim c W) {γ : Nat} (hγ : ¬ c.used γ) {t : TypeId} :
  Stp P (asNext (Instr.makeMap t none)) c W γ (.mp γ) (.new (.map [])) := by
 obtain ⟨h1, h2⟩ := push_new (ob := .map #[] 0) (o := .map []) (rm := 0) s hγ ⟨#[], 0, by simp only [Ctx.push, if_true]; exact alloc_new _ _, by simp, by simp [RepL]⟩
 refine ⟨_, .map (some W.heap.size), _, c.push c.H γ (.map []) W.heap.size 0, run_asNext (by simp [Instr.makeMap]), .inl rfl, ⟨⟨.inl rfl, rfl⟩, fun _ => by simp [Ctx.push]⟩, h1, h2, rfl, fun β hb => hb.symm⟩
def vmapUpdate (P : Program) (H : Nat → Option VObj) (t : TypeId) (x k y : VV) : Option VEff :=
 match P.underlying t, x, k.val? with
 | some (.map kt _), .mp β, some kv =>
  match H β with
  | some (.map es) =>
   match evalP P (Instr.checkKey false 10000 kt kv), kfind P kt kv (es.map (·.1)) with
   | some (), some (some i) =>
    match es[i]? with
    | some p => if Instr.sameBits 10000 p.1 kv then some (.upd β (.map (es.set i (kv, y)))) else none
    | none => none
   | some (), some none => some (.upd β (.map (es ++ [(kv, y)])))
   | _, _ => none
  | _ => none
 | _, _, _ => none
theorem But.setObj (W : World) (b : Nat) (o : Obj) : But W { W with heap := W.heap.setIfInBounds b o } b :=
 ⟨fun k _ hb => by
  show (W.heap.setIfInBounds b o)[k]? = W.heap[k]?
  rw [Array.getElem?_setIfInBounds_ne (fun e => hb e.symm)], by simp, rfl, rfl, rfl⟩
theorem run_setObj {P : Program} {W : World} {b : Nat} {o o' : Obj} (h : W.heap[b]? = some o) (hc : ∀ c e f, o ≠ .cells c e f) :
  (setObj b o').run P W = .ok () { W with heap := W.heap.setIfInBounds b o' } := by
 simp only [setObj, Sem.run, h]
theorem heap_setObj {W : World} {b : Nat} {o o' : Obj} (h : W.heap[b]? = some o) : ({ W with heap := W.heap.setIfInBounds b o' } : World).heap[b]? = some o' := by
 have := (Array.getElem?_eq_some_iff.1 h).1
 show (W.heap.setIfInBounds b o')[b]? = _
 simp [this]
theorem stp_mapUpdate {P : Program} {c : Ctx} {W : World} (s : Sim c W) {γ : Nat} {t : TypeId} {x k y : VV} {v w u : Value} {eff : VEff} (h : vmapUpdate P c.H t x k y = some eff) (hr : Rep c W x v) (hk : Rep c W k w) (hy : Rep c W y u) :
  Stp P (do Instr.mapUpdate t v w u; pure .skip) c W γ .any eff := by
 unfold vmapUpdate at h
 split at h
 ·rename_i kt et β kv hu hkv
  have hw := rep_val hkv hk
  subst hw
  split at h
  ·rename_i es hβ
   have hlive : c.live β := by simp [Ctx.live, hβ]
   have hv : v = .map (some (c.φ β)) := hr.2 hlive
   subst hv
   obtain ⟨ents, clk, h1, h2, h3⟩ := s.obj β _ hβ
   have hg : (getObj (c.φ β)).run P W = .ok (.map ents clk) W := by simp [getObj, Sem.run, h1]
   have hnd : isDef c.H β → ∀ o, ∃ ds, o = VObj.deferred ds := fun ⟨ds, hd⟩ => by rw [hβ] at hd; cases hd
   split at h
   ·rename_i i hck hkf
    rw [← h2] at hkf
    obtain ⟨hlt, hrun⟩ := kfind_run hkf W
    have hi := hlt i rfl
    have hpe : ents.toList[i]? = some (ents.toList[i]'hi) := List.getElem?_eq_getElem hi
    split at h
    ·rename_i p hp
     split at h
     ·rename_i hsb
      cases h
      have hkey : (ents.toList[i]'hi).key = p.1 := by
       have := congrArg (fun l => l[i]?) h2
       simp only [List.getElem?_map, hpe, hp, Option.map_some, Option.some.injEq] at this
       exact this
      have hmod : (ents.modify i fun e => { e with key := w, val := u }).toList = ents.toList.set i { (ents.toList[i]'hi) with key := w, val := u } := by
       rw [Array.toList_modify, List.modify_eq_set, hpe]; rfl
      have hpa : ents[i]? = some (ents.toList[i]'hi) := by rw [← Array.getElem?_toList]; exact hpe
      have hset := run_setObj (P := P) (o' := .map (ents.modify i fun e => { e with key := w, val := u }) clk) h1 (by intros; simp)
      have ab := (Ext.upd (o := .map (es.set i (w, y))) hlive (But.setObj W (c.φ β) (.map (ents.modify i fun e => { e with key := w, val := u }) clk))).abides s
      refine ⟨.skip, undef, _, c.upd β (.map (es.set i (w, y))), ?_, .inr ⟨rfl, rfl⟩, trivial, Ext.upd hlive (But.setObj W _ _), Sim.upd s hlive (But.setObj W _ _) (fun hd => hnd hd _) ⟨ents.modify i fun e => { e with key := w, val := u }, clk, heap_setObj h1, ?_, ?_⟩, rfl, fun _ h => .inl h⟩
      ·simp only [Instr.mapUpdate, Sem.run_bind, run_underlying hu, Result.andThen_ok, hg, evalP_run hck W, hrun, pairAt, Nat.sub_zero, hpe, Option.map_some, hpa, Option.getD_some, hkey, Instr.keyThatStays, hsb, if_true, Sem.run_pure, hset]
      ·rw [hmod, List.map_set, List.map_set, h2]
      ·apply RepL.abides ab
       rw [hmod, List.map_set, List.map_set]
       exact RepL.set i h3 hy
     ·cases h
    ·cases h
   ·rename_i hck hkf
    cases h
    rw [← h2] at hkf
    obtain ⟨_, hrun⟩ := kfind_run hkf W
    have hset := run_setObj (P := P) (o' := .map (ents.push { key := w, val := u, born := clk }) (clk + 1)) h1 (by intros; simp)
    have ab := (Ext.upd (o := .map (es ++ [(w, y)])) hlive (But.setObj W (c.φ β) (.map (ents.push { key := w, val := u, born := clk }) (clk + 1)))).abides s
    refine ⟨.skip, undef, _, c.upd β (.map (es ++ [(w, y)])), ?_, .inr ⟨rfl, rfl⟩, trivial, Ext.upd hlive (But.setObj W _ _), Sim.upd s hlive (But.setObj W _ _) (fun hd => hnd hd _) ⟨ents.push { key := w, val := u, born := clk }, clk + 1, heap_setObj h1, ?_, ?_⟩, rfl, fun _ h => .inl h⟩
    ·simp only [Instr.mapUpdate, Sem.run_bind, run_underlying hu, Result.andThen_ok, hg, evalP_run hck W, hrun, pairAt, Sem.run_pure, hset]
    ·simp [h2]
    ·apply RepL.abides ab
     have hy1 : RepL c W [y] [u] := ⟨u, [], rfl, hy, rfl⟩
     have := RepL.append h3 hy1
     simpa using this
   ·cases h
  ·cases h
 ·cases h
theorem stp_rangeStr {P : Program} {c : Ctx} {W : World} (s : Sim c W) {γ : Nat} (hγ : ¬ c.used γ) {t : TypeId} {st : ByteArray} (hu : P.underlying t = some .string) :
  Stp P (asNext (Instr.range t (.string st))) c W γ (.it γ) (.new (.stri st 0)) := by
 obtain ⟨h1, h2⟩ := push_new (ob := .stringIter st 0) (o := .stri st 0) (rm := 0) s hγ (by show (W.alloc _).heap[_]? = _; simp only [Ctx.push, if_true]; exact alloc_new _ _)
 exact ⟨_, .pointer (some ⟨W.heap.size, 0, none⟩), _, c.push c.H γ (.stri st 0) W.heap.size 0, run_asNext (by simp [Instr.range, run_underlying hu]), .inl rfl, ⟨⟨.inl rfl, rfl⟩, fun _ => by simp [Ctx.push]⟩, h1, h2, rfl, fun β hb => hb.symm⟩
def vnext (H : Nat → Option VObj) (x : VV) (isString : Bool) : Option (VV × VEff) :=
 match x, isString with
 | .it β, true =>
  match H β with
  | some (.stri s pos) =>
   if pos < s.size then
    some (.tup [.lit (.bool true), .lit (.int .i64 pos), .lit (.int .i32 (Utf8.decode s pos).1)], .upd β (.stri s (pos + (Utf8.decode s pos).2)))
   else some (.tup [.lit (.bool false)], .none)
  | _ => none
 | _, _ => none
theorem stp_next {P : Program} {c : Ctx} {W : World} (s : Sim c W) {γ : Nat} {t : TypeId} {x y : VV} {v : Value} {b : Bool} {eff : VEff} (h : vnext c.H x b = some (y, eff)) (hr : Rep c W x v) :
  Stp P (asNext (Instr.next v b t)) c W γ y eff := by
 unfold vnext at h
 split at h
 ·rename_i β
  split at h
  ·rename_i st pos hβ
   have hlive : c.live β := by simp [Ctx.live, hβ]
   have hv : v = .pointer (some ⟨c.φ β, 0, none⟩) := hr.2 hlive
   subst hv
   have h1 : W.heap[c.φ β]? = some (.stringIter st pos) := s.obj β _ hβ
   have hg : (getObj (c.φ β)).run P W = .ok (.stringIter st pos) W := by simp [getObj, Sem.run, h1]
   split at h
   ·rename_i hlt
    cases h
    have hset := run_setObj (P := P) (o' := .stringIter st (pos + (Utf8.decode st pos).2)) h1 (by intros; simp)
    refine ⟨_, .tuple #[.bool true, .int .i64 pos, .int .i32 (Utf8.decode st pos).1], _, c.upd β (.stri st (pos + (Utf8.decode st pos).2)), run_asNext ?_, .inl rfl, ⟨_, rfl, _, _, rfl, rfl, _, _, rfl, rfl, _, _, rfl, rfl, rfl⟩,
     Ext.upd hlive (But.setObj W _ (.stringIter st (pos + (Utf8.decode st pos).2))), Sim.upd s hlive (But.setObj W _ _) (fun ⟨ds, hd⟩ => by rw [hβ] at hd; cases hd) (heap_setObj h1), rfl, fun _ h => .inl h⟩
    simp [Instr.next, hg, hlt, hset, goInt]
   ·rename_i hlt
    cases h
    exact Stp.same s (run_asNext (v := .tuple #[.bool false]) (by simp [Instr.next, hg, hlt])) ⟨_, rfl, _, _, rfl, rfl, rfl⟩
  ·cases h
 ·cases h
end Go.V
end
section
namespace Go.V
open Go
def vtypeAssert (P : Program) (x : VV) (asserted : TypeId) (ok : Bool) : Option VV :=
 let holds (y : VV) : VV := if ok then .tup [y, .lit (.bool true)] else y
 let fails : Option VV := if ok then ((P.info? asserted).bind (·.zero)).map fun z => .tup [ofVal2 z, .lit (.bool false)] else none
 match P.underlying asserted, x with
 | some (.interface want), .ifc t _ =>
  match P.info? t with
  | some inf => match Instr.missingMethod want inf.methods with
   | none => some (holds x)
   | some _ => fails
  | none => none
 | some (.interface _), .lit .nilIface => fails
 | some (.interface _), _ => none
 | some _, .ifc t y => if t = asserted then some (holds y) else fails
 | some _, .lit .nilIface => fails
 | _, _ => none
def taHolds (ok : Bool) (v : Value) : Value := if ok then .tuple #[v, .bool true] else v
theorem ta_iface_ok {P : Program} {W : World} {a t t' : TypeId} {want : Array (String × TypeId)} {u : Value} {inf : TypeInfo} {ok : Bool} (hu : P.underlying a = some (.interface want)) (hi : P.info? t' = some inf)
  (hm : Instr.missingMethod want inf.methods = none) : (Instr.typeAssert (.iface t' u) t a ok).run P W = .ok (taHolds ok (.iface t' u)) W := by
 have hti : (typeInfo t').run P W = .ok inf W := by simp [typeInfo, hi]
 simp only [Instr.typeAssert, Sem.run_bind, run_underlying hu, Result.andThen_ok, hti, hm, Sem.run_pure]
 rfl
theorem ta_iface_no {P : Program} {W : World} {a t t' : TypeId} {want : Array (String × TypeId)} {u z : Value} {inf : TypeInfo} {m : String} (hu : P.underlying a = some (.interface want)) (hi : P.info? t' = some inf)
  (hm : Instr.missingMethod want inf.methods = some m) (hz : (zeroValue a).run P W = .ok z W) : (Instr.typeAssert (.iface t' u) t a true).run P W = .ok (.tuple #[z, .bool false]) W := by
 have hti : (typeInfo t').run P W = .ok inf W := by simp [typeInfo, hi]
 simp only [Instr.typeAssert, Sem.run_bind, run_underlying hu, Result.andThen_ok, hti, hm, if_true, hz, Sem.run_pure]
theorem ta_nil {P : Program} {W : World} {a t : TypeId} {d : TypeDesc} {z : Value} (hu : P.underlying a = some d) (hz : (zeroValue a).run P W = .ok z W) :
  (Instr.typeAssert .nilIface t a true).run P W = .ok (.tuple #[z, .bool false]) W := by
 simp only [Instr.typeAssert, Sem.run_bind, run_underlying hu, Result.andThen_ok]
 cases d <;> simp only [Sem.run_bind, if_true, hz, Result.andThen_ok, Sem.run_pure]
theorem ta_conc_ok {P : Program} {W : World} {a t : TypeId} {d : TypeDesc} {u : Value} {ok : Bool} (hu : P.underlying a = some d) (hne : ∀ w, d ≠ .interface w) :
  (Instr.typeAssert (.iface a u) t a ok).run P W = .ok (taHolds ok u) W := by
 simp only [Instr.typeAssert, Sem.run_bind, run_underlying hu, Result.andThen_ok]
 cases d <;> first | exact absurd rfl (hne _) | (simp only [if_true, Sem.run_pure]; rfl)
theorem ta_conc_no {P : Program} {W : World} {a t t' : TypeId} {d : TypeDesc} {u z : Value} (hu : P.underlying a = some d) (hne : ∀ w, d ≠ .interface w) (ht : t' ≠ a) (hz : (zeroValue a).run P W = .ok z W) :
  (Instr.typeAssert (.iface t' u) t a true).run P W = .ok (.tuple #[z, .bool false]) W := by
 simp only [Instr.typeAssert, Sem.run_bind, run_underlying hu, Result.andThen_ok]
 cases d <;> first | exact absurd rfl (hne _) | simp only [if_neg ht, Sem.run_bind, if_true, hz, Result.andThen_ok, Sem.run_pure]
theorem stp_typeAssert {P : Program} {c : Ctx} {W : World} (s : Sim c W) {γ : Nat} {t a : TypeId} {x y : VV} {v : Value} {ok : Bool} (h : vtypeAssert P x a ok = some y) (hr : Rep c W x v) :
  Stp P (asNext (Instr.typeAssert v t a ok)) c W γ y .none := by
 have holds : ∀ {z : VV} {u : Value}, Rep c W z u → Rep c W (if ok then .tup [z, .lit (.bool true)] else z) (taHolds ok u) := by
  intro z u hz
  cases ok
  ·exact hz
  ·exact ⟨_, rfl, _, _, rfl, hz, _, _, rfl, rfl, rfl⟩
 have fails : ∀ {y : VV}, (if ok then ((P.info? a).bind (·.zero)).map fun z => VV.tup [ofVal2 z, .lit (.bool false)] else none) = some y →
   ∃ z, ok = true ∧ (zeroValue a).run P W = .ok z W ∧ y = .tup [ofVal2 z, .lit (.bool false)] := by
  intro y hy
  cases ok
  ·cases hy
  ·cases hi : P.info? a with
   | none => rw [hi] at hy; cases hy
   | some i =>
    cases hz : i.zero with
    | none => rw [hi] at hy; simp only [Option.bind_some, hz] at hy; cases hy
    | some z =>
     rw [hi] at hy; simp only [Option.bind_some, hz, Option.map_some, if_true, Option.some.injEq] at hy
     exact ⟨z, rfl, by simp [zeroValue, typeInfo, hi, hz], hy.symm⟩
 have rf : ∀ z, Rep c W (.tup [ofVal2 z, .lit (.bool false)]) (.tuple #[z, .bool false]) := fun z => ⟨_, rfl, _, _, rfl, rep_ofVal2 c W z, _, _, rfl, rfl, rfl⟩
 unfold vtypeAssert at h
 simp only at h
 split at h
 ·rename_i want t' y' hu
  obtain ⟨u, rfl, hru⟩ := hr
  split at h
  ·rename_i inf hi
   split at h
   ·rename_i hm
    cases h
    exact Stp.same s (run_asNext (ta_iface_ok hu hi hm)) (holds (z := .ifc t' y') ⟨u, rfl, hru⟩)
   ·rename_i m hm
    obtain ⟨z, rfl, hz, rfl⟩ := fails h
    exact Stp.same s (run_asNext (ta_iface_no hu hi hm hz)) (rf z)
  ·cases h
 ·rename_i want hu
  have : v = .nilIface := hr
  subst this
  obtain ⟨z, rfl, hz, rfl⟩ := fails h
  exact Stp.same s (run_asNext (ta_nil hu hz)) (rf z)
 ·cases h
 ·rename_i d t' y' hne hu
  obtain ⟨u, rfl, hru⟩ := hr
  split at h
  ·rename_i ht
   subst ht
   cases h
   exact Stp.same s (run_asNext (ta_conc_ok hu (fun w e => hne w e))) (holds hru)
  ·rename_i ht
   obtain ⟨z, rfl, hz, rfl⟩ := fails h
   exact Stp.same s (run_asNext (ta_conc_no hu (fun w e => hne w e) ht hz)) (rf z)
 ·rename_i d hne hu
  have : v = .nilIface := hr
  subst this
  obtain ⟨z, rfl, hz, rfl⟩ := fails h
  exact Stp.same s (run_asNext (ta_nil hu hz)) (rf z)
 ·cases h
end Go.V
end
section
namespace Go.V
open Go
def byteL : List VV → Option (List UInt8)
  | [] => some []
  | x :: xs => match x with
    | .lit (.int .u8 n) => if 0 ≤ n ∧ n < 256 then match byteL xs with | some l => some (UInt8.ofNat n.toNat :: l) | none => none else none
    | _ => none
theorem byteL_rep {c : Ctx} {W : World} : ∀ {xs : List VV} {l : List UInt8} {vs : List Value}, byteL xs = some l → RepL c W xs vs → vs = l.map fun b => Value.int .u8 b.toNat
  | [], l, vs, h, hr => by
    have e : vs = [] := hr
    subst e
    simp [byteL] at h
    subst h; rfl
  | x :: xs, l, vs, h, ⟨u, us, e, h1, h2⟩ => by
    subst e
    unfold byteL at h
    split at h
    · rename_i n
      split at h
      · rename_i hn
        split at h
        · rename_i l' hl
          cases h
          have := byteL_rep hl h2
          have e1 : u = .int .u8 n := h1
          rw [this, e1]
          have e2 : ((UInt8.ofNat n.toNat).toNat : Int) = n := by
            rw [UInt8.toNat_ofNat']
            omega
          rw [List.map_cons, e2]
        · cases h
      · cases h
    · cases h
theorem foldl_push_bytes : ∀ (l : List UInt8) (acc : ByteArray), (l.map fun b => (b.toNat : Int)).foldl (fun r n => r.push (UInt8.ofNat n.toNat)) acc = ⟨acc.data ++ l.toArray⟩
  | [], acc => by simp
  | x :: l, acc => by
    simp only [List.map_cons, List.foldl_cons]
    rw [foldl_push_bytes l]
    apply ByteArray.ext
    simp [ByteArray.push]
def vconv (P : Program) (H : Nat → Option VObj) (src dst : TypeId) (x : VV) : Option VV :=
  match P.underlying src, P.underlying dst with
  | some (.slice e), some .string => match P.underlying e, sls H x with
    | some (.int .u8), some (cs, len) => if len ≤ cs.length then (byteL (cs.take len)).map fun l => .lit (.string ⟨⟨l⟩⟩) else none
    | _, _ => none
  | _, _ => none
theorem stp_conv {P : Program} {c : Ctx} {W : World} (s : Sim c W) {γ : Nat} {src dst : TypeId} {x y : VV} {v : Value} (h : vconv P c.H src dst x = some y) (hr : Rep c W x v) : Stp P (asNext (convert src dst v)) c W γ y .none := by
  unfold vconv at h
  split at h
  · rename_i e hs hd
    split at h
    · rename_i cs len he hx
      split at h
      · rename_i hle
        cases hb : byteL (cs.take len) with
        | none => simp [hb] at h
        | some l =>
          simp [hb] at h
          subst h
          obtain ⟨base, cap, e1, hcap, h3⟩ := sls_rep s hx hr
          subst e1
          refine Stp.same s (run_asNext (v := .string ⟨⟨l⟩⟩) ?_) rfl
          rw [run_convert_bytes_string W src dst e base len cap hs he hd]
          rcases h3 with h3 | ⟨b, o, rfl, hcs⟩
          · subst h3
            have h0 : len = 0 := by simpa using hle
            subst h0
            simp [byteL] at hb
            subst hb
            cases base with
            | none => rfl
            | some a => rfl
          · obtain ⟨vs, hvs, hcell⟩ := RepC.list (RepC.take len hcs)
            have hlen : vs.length = len := by rw [hvs.length]; simp; omega
            have hvb := byteL_rep hb hvs
            have hrun := run_loadCells_list (P := P) W ⟨b, o, none⟩ vs (fun j u hu => by rw [addr_add]; exact hcell j u hu)
            rw [hlen, hvb] at hrun
            have := run_bytesToString (P := P) W ⟨b, o, none⟩ len cap (l.map fun b => (b.toNat : Int)) (by rw [hrun]; simp)
            rw [this, foldl_push_bytes]
            congr 2
            apply ByteArray.ext
            simp [ByteArray.empty, ByteArray.emptyWithCapacity]
            try rfl
      · cases h
    · cases h
  · cases h
def vsliceData (H : Nat → Option VObj) (x : VV) : Option VV :=
  match x with
  | .ref β off len _ _ => if 0 < len ∧ (H β).isSome = true then some (.ptr β off) else none
  | .sl cs len _ => if 0 < len ∧ cs ≠ [] then some (.tp cs) else none
  | _ => none
theorem stp_sliceData {P : Program} {c : Ctx} {W : World} (s : Sim c W) {γ : Nat} {ts : Array TypeId} {ty : TypeId} {x y : VV} {v : Value} (h : vsliceData c.H x = some y) (hr : Rep c W x v) : Stp P (asNext (Builtin.unsafeSliceData_ ts ty #[v])) c W γ y .none := by
  unfold vsliceData at h
  split at h
  · rename_i β off len es cp
    split at h
    · rename_i hc
      cases h
      obtain ⟨cap, rfl, h1, h2, h3⟩ := hr.2 hc.2
      exact Stp.same s (run_asNext (Lib.run_unsafeSliceData_row (P := P) W ts ty ⟨c.φ β, off, none⟩ len cap (by omega))) ⟨⟨hr.1.1, rfl⟩, fun _ => rfl⟩
    · cases h
  · rename_i cs len full
    split at h
    · rename_i hc
      cases h
      obtain ⟨base, cap, rfl, h1, h2, h3⟩ := hr
      rcases h3 with h3 | ⟨b, o, rfl, hA, hcs⟩
      · exact absurd h3 hc.2
      · exact Stp.same s (run_asNext (Lib.run_unsafeSliceData_row (P := P) W ts ty ⟨b, o, none⟩ len cap (by omega))) ⟨b, o, rfl, hA, hcs⟩
    · cases h
  · cases h
theorem kill_ok {c : Ctx} {W W' : World} (s : Sim c W) {β : Nat} {el : Option TypeId} {cs : List VV} (hβ : c.H β = some (.cells el cs)) (hb : But W W' (c.φ β)) :
    Ext c W (c.sub (without c.H β)) W' ∧ Sim (c.sub (without c.H β)) W' := by
  have hlive : c.live β := by simp [Ctx.live, hβ]
  have hsub := SubHeap.without c.H β
  have hne : ∀ x, (without c.H β x).isSome = true → c.φ x ≠ c.φ β := by
    intro x hx e
    have := s.inj x β (hsub.live hx) hlive e
    subst this
    simp [without] at hx
  have he : Ext c W (c.sub (without c.H β)) W' :=
    { A := fun _ h => h, newA := fun _ h => .inl h, used := fun _ h => h, live := fun x _ h => hsub.live h, φ := fun _ _ _ => rfl, room := fun _ _ _ => rfl,
      keep := fun b hlt hn => hb.keep b hlt (fun e => hn β hlive e.symm), old := fun x h _ => ⟨x, hsub.live h, rfl⟩, size := hb.size, os := hb.os, tape := hb.tape, output := hb.output }
  refine ⟨he, fun x h => s.used x (hsub.live h), fun x ox hx => ?_, fun x h => Nat.lt_of_lt_of_le (s.lt x (hsub.live h)) hb.size, fun x h => s.notA x (hsub.live h), fun x y hx hy e => s.inj x y (hsub.live hx) (hsub.live hy) e, fun b hA => Nat.lt_of_lt_of_le (s.ltA b hA) hb.size⟩
  have hx0 : without c.H β x = some ox := hx
  have hxs : (without c.H β x).isSome = true := by simp [hx0]
  refine (s.obj x ox (hsub x ox hx0)).abides (he.abides s) (s.used x (hsub.live hxs)) (by simp [Ctx.live, Ctx.sub, hx0]) (hb.keep _ (s.lt x (hsub.live hxs)) (hne x hxs)) ?_
  intro st pe tm ps as bo df e'
  subst e'
  exact isDef.without hβ (s.loopOk (hsub x _ hx0))
def vunsafeString (P : Program) (H : Nat → Option VObj) (pt : TypeId) (p n : VV) : Option (VV × VEff) :=
  match p, n with
  | .ptr β 0, .lit (.int .i64 n) => match H β, P.underlying pt with
    | some (.cells (some e) cs), some (.pointer e') => if e' = e ∧ P.cellsOf e = 1 ∧ 0 < n ∧ n ≤ 9223372036854775807 ∧ n.toNat ≤ cs.length then (byteL (cs.take n.toNat)).map fun l => (.lit (.string ⟨⟨l⟩⟩), .kill β) else none
    | _, _ => none
  | _, _ => none
theorem But.freeze (W : World) (b n : Nat) : But W (W.freeze ⟨b, 0, none⟩ n) b := by
  unfold World.freeze
  split
  · exact But.refl W b
  · exact ⟨fun k hk hne => by simp [Array.getElem?_modify, hne, Ne.symm hne], by simp, rfl, rfl, rfl⟩
theorem stp_unsafeString {P : Program} {c : Ctx} {W : World} (s : Sim c W) {γ : Nat} {pt it ty : TypeId} {p n x : VV} {v w : Value} {eff : VEff} (h : vunsafeString P c.H pt p n = some (x, eff)) (hr : Rep c W p v) (hn : Rep c W n w) :
    Stp P (asNext (Builtin.unsafeString_ #[pt, it] ty #[v, w])) c W γ x eff := by
  unfold vunsafeString at h
  split at h
  · rename_i β k
    split at h
    · rename_i e cs e' hβ hp
      split at h
      · rename_i hc
        obtain ⟨c1, c2, c3, c4, c5⟩ := hc
        subst c1
        cases hb : byteL (cs.take k.toNat) with
        | none => simp [hb] at h
        | some l =>
          simp [hb] at h
          obtain ⟨rfl, rfl⟩ := h
          have hlive : c.live β := by simp [Ctx.live, hβ]
          have hv : v = .pointer (some ⟨c.φ β, 0, none⟩) := hr.2 hlive
          have hw : w = .int .i64 k := hn
          subst hv hw
          obtain ⟨arr, e0, g1, g2, g3, g4, g5⟩ := s.obj β _ hβ
          have he0 := g5 _ rfl
          subst he0
          obtain ⟨vs, hvs, hcell⟩ := RepC.list (RepC.take k.toNat (RepC.of_obj s hβ))
          have hvb := byteL_rep hb hvs
          have hlen : l.length = k.toNat := by
            have h1 := hvs.length
            rw [hvb] at h1
            simp at h1
            omega
          have hkl : (k : Int) = (l.length : Int) := by omega
          rw [hkl]
          have hrun := Lib.run_unsafeString_row (P := P) W pt it ty e0 hp c2 (c.φ β) arr.size (by simp [World.shape?, g1]) l (by intro e; subst e; simp at hlen; omega) (by omega) (by omega) (fun j u hu => by
            rw [addr_add]
            exact hcell j _ (by rw [hvb]; simp [hu]))
          obtain ⟨k1, k2⟩ := kill_ok s hβ (But.freeze W (c.φ β) l.length)
          exact ⟨_, _, _, _, run_asNext hrun, .inl rfl, rfl, k1, k2, rfl, fun _ h => .inl h⟩
      · cases h
    · cases h
  · cases h
def posSz (P : Program) (t : TypeId) : Bool := match szT P t with
  | some n => n != 0
  | none => false
theorem posSz_spec {P : Program} {t : TypeId} (h : posSz P t = true) : ∃ n, szT P t = some n ∧ n ≠ 0 := by
  unfold posSz at h
  split at h
  · rename_i n hn; exact ⟨n, hn, by simpa using h⟩
  · cases h
def vptrConv (P : Program) (H : Nat → Option VObj) (src dst : TypeId) (x : VV) : Option VV :=
  match x with
  | .ptr β off => match P.underlying src, P.underlying dst, H β with
    | some (.pointer t), some .unsafePointer, some (.cells _ cs) => if off < cs.length ∧ posSz P t = true then some (.ptr β off) else none
    | some .unsafePointer, some (.pointer u), some (.cells (some e) cs) => if e = u ∧ off = 0 ∧ P.cellsOf u ≠ 0 ∧ P.cellsOf u ≤ cs.length ∧ posSz P u = true then some (.ptr β 0) else none
    | _, _, _ => none
  | _ => none
theorem liesAt_one {P : Program} {e : TypeId} (hc : P.cellsOf e ≠ 0) {count : Nat} (hn : 1 ≤ count) : liesAt P P.depth e count 0 e 1 = true := by
  have hd : P.depth = (2 * (P.types.size + Made.depth) + 1) + 1 := rfl
  rw [hd]
  simp only [liesAt, Bool.or_eq_true]
  left
  rw [hd]
  simp [rowAt, hc, hn, sameLayout]
theorem stp_ptrConv {P : Program} {c : Ctx} {W : World} (s : Sim c W) {γ : Nat} {src dst : TypeId} {x y : VV} {v : Value} (h : vptrConv P c.H src dst x = some y) (hr : Rep c W x v) : Stp P (asNext (convert src dst v)) c W γ y .none := by
  unfold vptrConv at h
  split at h
  · rename_i β off
    split at h
    · rename_i t el cs hs hd hβ
      split at h
      · rename_i hc
        cases h
        obtain ⟨c1, c2⟩ := hc
        have hlive : c.live β := by simp [Ctx.live, hβ]
        have hv : v = .pointer (some ⟨c.φ β, off, none⟩) := hr.2 hlive
        subst hv
        obtain ⟨arr, e0, g1, g2, g3, g4, g5⟩ := s.obj β _ hβ
        have hsh : W.shape? (c.φ β) = some (e0, arr.size) := by simp [World.shape?, g1]
        obtain ⟨n, hn, c2⟩ := posSz_spec c2
        · refine Stp.same s (run_asNext (v := .pointer (some ⟨c.φ β, off, none⟩)) ?_) ⟨hr.1, fun _ => rfl⟩
          have hlt : ¬ arr.size ≤ off := by omega
          simp [convert, run_underlying hs, run_underlying hd, Conv.unsafePointer, Conv.seenAt, viewAt, hsh, cellsIn, run_sizeOf' hn, c2, hlt]
      · cases h
    · rename_i u e cs hs hd hβ
      split at h
      · rename_i hc
        cases h
        obtain ⟨c1, c2, c3, c4, c5⟩ := hc
        subst c1 c2
        have hlive : c.live β := by simp [Ctx.live, hβ]
        have hv : v = .pointer (some ⟨c.φ β, 0, none⟩) := hr.2 hlive
        subst hv
        obtain ⟨arr, e0, g1, g2, g3, g4, g5⟩ := s.obj β _ hβ
        have he0 := g5 _ rfl
        subst he0
        have hsh : W.shape? (c.φ β) = some (e0, arr.size) := by simp [World.shape?, g1]
        obtain ⟨n, hn, c5⟩ := posSz_spec c5
        · have hlies := liesAt_one (P := P) c3 (count := arr.size / P.cellsOf e0) ((Nat.one_le_div_iff (Nat.pos_of_ne_zero c3)).2 (by omega))
          refine Stp.same s (run_asNext (v := .pointer (some ⟨c.φ β, 0, none⟩)) ?_) ⟨hr.1, fun _ => rfl⟩
          simp [convert, run_underlying hs, run_underlying hd, Conv.unsafePointer, Conv.seenAt, viewAt, hsh, variablesAt, run_sizeOf' hn, c5, hlies]
      · cases h
    · cases h
  · cases h
def vptrEq (P : Program) (H : Nat → Option VObj) (op : BinOp) (t : TypeId) (a b : VV) : Option VV :=
  match op with
  | .eql => (eq1 P H t a b).map fun r => .lit (.bool r)
  | .neq => (eq1 P H t a b).map fun r => .lit (.bool !r)
  | _ => none
 where eq1 (P : Program) (H : Nat → Option VObj) (t : TypeId) (a b : VV) : Option Bool :=
  match P.underlying t with
  | some (.pointer el) => match szT P el with
    | some n => if n = 0 then none else match a, b with
      | .ptr β o1, .ptr δ o2 => if β = δ ∧ (H β).isSome = true then some (o1 == o2) else none
      | .ptr β _, .lit (.pointer none) => if (H β).isSome = true then some false else none
      | .lit (.pointer none), .ptr β _ => if (H β).isSome = true then some false else none
      | _, _ => none
    | none => none
  | some (.slice _) => match a, b with
    | .ref β _ _ _ _, .lit (.slice none 0 0) => if (H β).isSome = true then some false else none
    | .sl cs _ _, .lit (.slice none 0 0) => if cs ≠ [] then some false else none
    | _, _ => none
  | _ => none
theorem run_eqIn_ptr {P : Program} (W : World) (d : Nat) (t el : TypeId) (b o1 o2 n : Nat) (hu : P.underlying t = some (.pointer el)) (hn : szT P el = some n) (h0 : n ≠ 0) :
    (Op.equalIn (d + 1) t (.pointer (some ⟨b, o1, none⟩)) (.pointer (some ⟨b, o2, none⟩))).run P W = .ok (o1 == o2) W := by
  have e3 : ((⟨b, o1, none⟩ : Addr) == ⟨b, o2, none⟩) = (o1 == o2) := by
    rw [Bool.eq_iff_iff]; simp
  simp [Op.equalIn, run_underlying hu, run_sizeOf' hn, h0, sameAddr, e3]
theorem run_eqIn_nil {P : Program} (W : World) (d : Nat) (t el : TypeId) (a : Addr) (hu : P.underlying t = some (.pointer el)) :
    (Op.equalIn (d + 1) t (.pointer (some a)) (.pointer none)).run P W = .ok false W := by
  simp [Op.equalIn, run_underlying hu]
theorem run_eqIn_nil' {P : Program} (W : World) (d : Nat) (t el : TypeId) (a : Addr) (hu : P.underlying t = some (.pointer el)) :
    (Op.equalIn (d + 1) t (.pointer none) (.pointer (some a))).run P W = .ok false W := by
  simp [Op.equalIn, run_underlying hu]
theorem eq1_run {P : Program} {c : Ctx} {W : World} {t : TypeId} {a b : VV} {u v : Value} {r : Bool} (h : vptrEq.eq1 P c.H t a b = some r) (ha : Rep c W a u) (hb : Rep c W b v) :
    (Op.equal t u v).run P W = .ok r W ∧ ((∃ p q, u = .pointer p ∧ v = .pointer q) ∨ ∃ a1 l1 c1 a2 l2 c2, u = .slice a1 l1 c1 ∧ v = .slice a2 l2 c2) := by
  unfold vptrEq.eq1 at h
  split at h
  · rename_i el hu
    split at h
    · rename_i n hn
      split at h
      · cases h
      · rename_i h0
        split at h
        · rename_i β o1 δ o2
          split at h
          · rename_i hc
            cases h
            obtain ⟨c1, c2⟩ := hc
            subst c1
            have e1 : u = .pointer (some ⟨c.φ β, o1, none⟩) := ha.2 c2
            have e2 : v = .pointer (some ⟨c.φ β, o2, none⟩) := hb.2 c2
            subst e1 e2
            refine ⟨?_, .inl ⟨_, _, rfl, rfl⟩⟩
            exact run_eqIn_ptr W 9999 t el (c.φ β) o1 o2 n hu hn h0
          · cases h
        · rename_i β o1
          split at h
          · rename_i hc
            cases h
            have e1 : u = .pointer (some ⟨c.φ β, o1, none⟩) := ha.2 hc
            have e2 : v = .pointer none := hb
            subst e1 e2
            exact ⟨run_eqIn_nil W 9999 t el _ hu, .inl ⟨_, _, rfl, rfl⟩⟩
          · cases h
        · rename_i β o1
          split at h
          · rename_i hc
            cases h
            have e1 : u = .pointer none := ha
            have e2 : v = .pointer (some ⟨c.φ β, o1, none⟩) := hb.2 hc
            subst e1 e2
            exact ⟨run_eqIn_nil' W 9999 t el _ hu, .inl ⟨_, _, rfl, rfl⟩⟩
          · cases h
        · cases h
    · cases h
  · rename_i el hu
    split at h
    · rename_i β off len es cp
      split at h
      · rename_i hc
        cases h
        obtain ⟨cap, e1, _⟩ := ha.2 hc
        have e2 : v = .slice none 0 0 := hb
        subst e1 e2
        exact ⟨run_equal_slice_nil W t el _ _ _ hu, .inr ⟨_, _, _, _, _, _, rfl, rfl⟩⟩
      · cases h
    · rename_i cs len full
      split at h
      · rename_i hc
        cases h
        obtain ⟨base, cap, e1, _, _, h3⟩ := ha
        have e2 : v = .slice none 0 0 := hb
        subst e1 e2
        rcases h3 with h3 | ⟨b, o, rfl, _⟩
        · exact absurd h3 hc
        · exact ⟨run_equal_slice_nil W t el _ _ _ hu, .inr ⟨_, _, _, _, _, _, rfl, rfl⟩⟩
      · cases h
    · cases h
  · cases h
theorem vptrEq_run {P : Program} {c : Ctx} {W : World} {op : BinOp} {t : TypeId} {x y : Operand} {a b z : VV} {u v : Value} (h : vptrEq P c.H op t a b = some z) (ha : Rep c W a u) (hb : Rep c W b v) :
    ∃ w, ((do eqGuard op t x y u v; binOp op t u v) : Sem Value).run P W = .ok w W ∧ Rep c W z w := by
  unfold vptrEq at h
  split at h
  · cases hq : vptrEq.eq1 P c.H t a b with
    | none => simp [hq] at h
    | some r =>
      simp [hq] at h
      subst h
      obtain ⟨h1, ⟨p, q, rfl, rfl⟩ | ⟨_, _, _, _, _, _, rfl, rfl⟩⟩ := eq1_run hq ha hb
      all_goals exact ⟨.bool r, by simp [eqGuard, binOp, h1], rfl⟩
  · cases hq : vptrEq.eq1 P c.H t a b with
    | none => simp [hq] at h
    | some r =>
      simp [hq] at h
      subst h
      obtain ⟨h1, ⟨p, q, rfl, rfl⟩ | ⟨_, _, _, _, _, _, rfl, rfl⟩⟩ := eq1_run hq ha hb
      all_goals exact ⟨.bool !r, by simp [eqGuard, binOp, h1], rfl⟩
  · cases h
def vclear (P : Program) (H : Nat → Option VObj) (t : TypeId) (x : VV) : Option (VV × VEff) :=
  match P.underlying t, nilS x with
  | some (.slice _), .sl [] 0 _ => some (.tup [], .none)
  | some (.slice e), .ref β off len es _ => match H β, vzero P e with
    | some (.cells el cs), some z => if 0 < len ∧ z.size = es ∧ off + len * es ≤ cs.length ∧ (vzeros z (len * es)).all VV.leaf = true then some (.tup [], .upd β (.cells el (overwrite cs off (vzeros z (len * es))))) else none
    | _, _ => none
  | _, _ => none
theorem stp_clear {P : Program} {c : Ctx} {W : World} (s : Sim c W) {γ : Nat} {t ty : TypeId} {x y : VV} {v : Value} {eff : VEff} (h : vclear P c.H t x = some (y, eff)) (hr : Rep c W x v) : Stp P (asNext (Builtin.clear_ #[t] ty #[v])) c W γ y eff := by
  replace hr := nilS_rep hr
  unfold vclear at h
  generalize nilS x = x' at h hr
  split at h
  · rename_i e full hu
    cases h
    obtain ⟨base, cap, rfl, h1, h2, h3⟩ := hr
    refine Stp.same s (run_asNext (v := .tuple #[]) ?_) ⟨[], rfl, rfl⟩
    cases base <;> simp [Builtin.clear_, run_underlying hu]
  · rename_i e β off len es cp hu
    split at h
    · rename_i el cs z hβ hz
      split at h
      · rename_i hc
        obtain ⟨c1, c2, c3, c4⟩ := hc
        cases h
        subst c2
        have hlive : c.live β := by simp [Ctx.live, hβ]
        obtain ⟨cap, hv, hcap, hrm, _⟩ := hr.2 hlive
        subst hv
        obtain ⟨zv, hzr, hzc, _⟩ := vzero_run hz W
        have hrep := vzeros_rep (c := c) (W := W) z (len * z.size)
        have hl := hrep.length
        simp only [Array.length_toList, Array.size_map, Array.size_range] at hl
        obtain ⟨W', hst, he, hs⟩ := store_obj (P := P) (off := off) s hβ hrep (all_one c4 hrep) (by omega)
        refine ⟨_, .tuple #[], W', c.upd β (.cells el (overwrite cs off (vzeros z (len * z.size)))), run_asNext ?_, .inl rfl, ⟨[], rfl, rfl⟩, he, hs, rfl, fun _ h => .inl h⟩
        have hne : len ≠ 0 := by omega
        obtain ⟨k, rfl⟩ : ∃ k, len = k + 1 := ⟨len - 1, by omega⟩
        simp only [Array.toList_map, Array.toList_range] at hst
        simp [Builtin.clear_, run_underlying hu, hzr, Builtin.zeroCells, hzc, hst]
      · cases h
    · cases h
  · cases h
def vnative (P : Program) (f : FuncId) (args : List VV) : Option VV :=
  match P.funcs[f]? with
  | some fn => match fn.body with
    | some _ => none
    | none => if fn.name = "internal/abi.NoEscape" ∧ (Extern.findNext fn).isNone = true then match args with
        | [x] => some x
        | _ => none
      else match valL? args with
      | some vs => match evalP P (callFunc f ⟨vs⟩) with
        | some (.value v) => some (ofVal v)
        | _ => none
      | none => none
  | none => none
theorem noEscape_row (fn : Func) (h : fn.name = "internal/abi.NoEscape") : Extern.find fn = some Extern.AbiNoEscape.same := by
  have h1 : Extern.allGenericRows.lookup "internal/abi.NoEscape" = none := by kernel_rfl
  have h2 : Extern.allTypedRows.lookup "internal/abi.NoEscape" = none := by kernel_rfl
  have h3 : Extern.allRows.lookup "internal/abi.NoEscape" = some Extern.AbiNoEscape.same := by kernel_rfl
  simp [Extern.find, h, h1, h2, h3]
theorem vnative_run {P : Program} {c : Ctx} {W : World} {f : FuncId} {args : List VV} {vs : List Value} {y : VV} (h : vnative P f args = some y) (hr : RepL c W args vs) : ∃ v, (callFunc f ⟨vs⟩).run P W = .ok (.value v) W ∧ Rep c W y v := by
  unfold vnative at h
  split at h
  · rename_i fn hf
    split at h
    · cases h
    · rename_i hb
      split at h
      · rename_i hn
        split at h
        · rename_i x
          cases h
          obtain ⟨u, us, e, h1, h2⟩ := hr
          have e2 : us = [] := h2
          subst e2
          subst e
          have hnx : Extern.findNext fn = none := by simpa using hn.2
          have hng : ¬ fn.name = "runtime.NumGoroutine" := by rw [hn.1]; decide
          refine ⟨u, ?_, h1⟩
          have hs : Extern.AbiNoEscape.same (⟨[u]⟩ : Array Value) = pure u := rfl
          simp [callFunc, hf, hb, hng, hnx, noEscape_row fn hn.1, hs]
        · cases h
      · split at h
        · rename_i vs' hvs
          split at h
          · rename_i v hv
            cases h
            have e := repL_val hvs hr
            subst e
            exact ⟨v, evalP_run hv W, rep_ofVal c W v⟩
          · cases h
        · cases h
  · cases h
def vsliceX (P : Program) (H : Nat → Option VObj) (t : TypeId) (x : VV) (lo hi mx : Option VV) : Option VV :=
  match mx with
  | some _ => none
  | none => match P.underlying t, x with
    | some (.slice e), .ref β off _ es cp => match hi with
      | none => none
      | some z => match szT P e, vbound 0 lo, vbound 0 (some z) with
        | some n, some l, some h => if l < h ∧ h ≤ cp ∧ n = es ∧ (H β).isSome = true then some (.ref β (off + l * n) (h - l) n (cp - l)) else none
        | _, _, _ => none
    | some (.array n e), .ptr β off => match H β with
      | some (.cells _ cs) => match szT P e, vbound 0 lo, vbound n hi with
        | some sz, some l, some h => if l ≤ h ∧ h ≤ n ∧ l < n ∧ off + n * sz ≤ cs.length then some (.ref β (off + l * sz) (h - l) sz (n - l)) else none
        | _, _, _ => none
      | _ => none
    | _, _ => none
theorem vbound_any (d d' : Nat) (z : VV) : vbound d (some z) = vbound d' (some z) := by
  cases z <;> try rfl
  rename_i v
  cases v <;> rfl
theorem run_boundsX {P : Program} {c : Ctx} {W : World} {lo hi : Option VV} {vlo vhi : Option Value} {l h len cap : Nat} {b : Bool} (hlo : vbound 0 lo = some l) (hhi : vbound len hi = some h)
    (rlo : RepO c W lo vlo) (rhi : RepO c W hi vhi) (h1 : l ≤ h) (h2 : h ≤ cap) : (Instr.sliceBounds b len cap vlo vhi none).run P W = .ok (l, h, cap) W := by
  unfold Instr.sliceBounds
  cases hi with
  | none =>
    cases vhi with
    | some _ => exact rhi.elim
    | none =>
      have e := vbound_none hhi
      subst e
      cases lo with
      | none =>
        cases vlo with
        | some _ => exact rlo.elim
        | none => have e := vbound_none hlo; subst e; simp
      | some x =>
        cases vlo with
        | none => exact rlo.elim
        | some v => simp [run_sliceBound hlo rlo h1]
  | some y =>
    cases vhi with
    | none => exact rhi.elim
    | some u =>
      cases lo with
      | none =>
        cases vlo with
        | some _ => exact rlo.elim
        | none => have e := vbound_none hlo; subst e; simp [run_sliceBound hhi rhi h2]
      | some x =>
        cases vlo with
        | none => exact rlo.elim
        | some v => simp [run_sliceBound hhi rhi h2, run_sliceBound hlo rlo h1]
theorem stp_sliceX {P : Program} {c : Ctx} {W : World} (s : Sim c W) {γ : Nat} {t : TypeId} {x y : VV} {v : Value} {lo hi mx : Option VV} {vlo vhi vmx : Option Value} (h : vsliceX P c.H t x lo hi mx = some y) (hr : Rep c W x v)
    (rlo : RepO c W lo vlo) (rhi : RepO c W hi vhi) (rmx : RepO c W mx vmx) : Stp P (asNext (Instr.sliceAt t v vlo vhi vmx)) c W γ y .none := by
  unfold vsliceX at h
  split at h
  · cases h
  · have hmx : vmx = none := by cases vmx with | none => rfl | some _ => exact rmx.elim
    subst hmx
    split at h
    · rename_i e β off len es cp hu
      split at h
      · cases h
      · rename_i z
        split at h
        · rename_i n l hh hn hlo hhi
          split at h
          · rename_i hc
            obtain ⟨c1, c2, c3, c4⟩ := hc
            cases h
            subst c3
            obtain ⟨cap, e1, h1, h2, h3⟩ := hr.2 c4
            subst e1
            have hhi' : vbound len (some z) = some hh := by rw [vbound_any len 0]; exact hhi
            have hb := run_boundsX (P := P) (b := true) (cap := cap) hlo hhi' rlo rhi (by omega) (by omega)
            have hne : ¬ (cap = l) := by omega
            refine Stp.same s (run_asNext (v := .slice (some ⟨c.φ β, off + l * n, none⟩) (hh - l) (cap - l)) ?_) ⟨hr.1.imp id (fun _ => rfl), fun _ => ⟨cap - l, rfl, by omega, ?_, by omega⟩⟩
            · simp [Instr.sliceAt, run_underlying hu, Instr.slice, hb, run_sizeOf' hn, hne, addr_add]
            · have e3 : l * n + (cap - l) * n = cap * n := by rw [← Nat.add_mul]; congr 1; omega
              omega
          · cases h
        · cases h
    · rename_i n e β off hu
      split at h
      · rename_i el cs hβ
        split at h
        · rename_i sz l hh hn hlo hhi
          split at h
          · rename_i hc
            obtain ⟨c1, c2, c3, c4⟩ := hc
            cases h
            have hlive : c.live β := by simp [Ctx.live, hβ]
            have hv : v = .pointer (some ⟨c.φ β, off, none⟩) := hr.2 hlive
            subst hv
            obtain ⟨arr0, e0, g1, g2, g3, g4, g5⟩ := s.obj β _ hβ
            have hb := run_boundsX (P := P) (b := false) (cap := n) hlo hhi rlo rhi c1 c2
            have hne : ¬ (n = l) := by omega
            refine Stp.same s (run_asNext (v := .slice (some ⟨c.φ β, off + l * sz, none⟩) (hh - l) (n - l)) ?_) ⟨⟨s.used β hlive, rfl⟩, fun _ => ⟨n - l, rfl, by omega, ?_, Nat.le_refl _⟩⟩
            · simp [Instr.sliceAt, Instr.sureAddr, run_underlying hu, hb, run_sizeOf' hn, hne, addr_add]
            · have e3 : l * sz + (n - l) * sz = n * sz := by rw [← Nat.add_mul]; congr 1; omega
              rw [← g2]
              omega
          · cases h
        · cases h
      · cases h
    · cases h
end Go.V
end
