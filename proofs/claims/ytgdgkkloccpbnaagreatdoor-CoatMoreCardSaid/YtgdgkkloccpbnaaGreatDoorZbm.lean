/- Part of a proof: a logic of values by content, lifted functions, what follows. -/
import Derived.Test.YtgdgkkloccpbnaaGreatDoorZbi
import Derived.Test.YtgdgkkloccpbnaaGreatDoorZbe
import Derived.Test.YtgdgkkloccpbnaaGreatDoorZbf
import Derived.Test.YtgdgkkloccpbnaaGreatDoorZbh
import Derived.Test.YtgdgkkloccpbnaaGreatDoorZbk
import Derived.Test.YtgdgkkloccpbnaaGreatDoorZbl
import Derived.Test.YtgdgkkloccpbnaaGreatDoorZbj
set_option linter.all false
set_option maxRecDepth 4000
set_option maxHeartbeats 40000000
section
set_option linter.unusedVariables false
set_option linter.unusedSimpArgs false
set_option linter.defProp false
namespace Go.V
open Go
def kIdx {K : Type} (q : K → K → Bool) (k : K) : List K → Nat → Option Nat
 | [], _ => none
 | e :: es, i => cond (q k e) (some i) (kIdx q k es (i + 1))
theorem kIdx_some {K : Type} {q : K → K → Bool} {k : K} : ∀ (es : List K) (i j : Nat), kIdx q k es i = some j → i ≤ j ∧ ∃ e, es[j - i]? = some e ∧ q k e = true
 | [], _, _, h => by cases h
 | e :: es, i, j, h => by
  unfold kIdx at h
  cases hq : q k e with
  | true =>
   rw [hq] at h
   simp only [cond_true, Option.some.injEq] at h
   subst h
   exact ⟨Nat.le_refl _, e, by simp, hq⟩
  | false =>
   rw [hq] at h
   simp only [cond_false] at h
   obtain ⟨h1, x, h2, h3⟩ := kIdx_some es (i + 1) j h
   refine ⟨by omega, x, ?_, h3⟩
   rw [show j - i = (j - (i + 1)) + 1 by omega]
   simpa using h2
def mapGet {K V : Type} (q : K → K → Bool) (z : V) (l : List (K × V)) (k : K) : V := match kIdx q k (l.map (·.1)) 0 with
 | some i => match l[i]? with | some p => p.2 | none => z
 | none => z
def mapSet {K V : Type} (q : K → K → Bool) (l : List (K × V)) (k : K) (v : V) : List (K × V) := match kIdx q k (l.map (·.1)) 0 with
 | some i => l.set i (k, v)
 | none => l ++ [(k, v)]
def encM {K V : Type} (kv : K → Value) (ev : V → VV) (l : List (K × V)) : List (Value × VV) := l.map fun p => (kv p.1, ev p.2)
section
variable {P : Program} {K V : Type} {q : K → K → Bool} {kv : K → Value} {ev : V → VV} {t kt et : TypeId} {H : Nat → Option VObj} {β : Nat}
theorem evalP_ask (he : ∀ a b, evalP P (Op.equal kt (kv a) (kv b)) = some (q a b)) (k : K) : ∀ (ks : List K) (i : Nat), evalP P (Instr.findAsking kt (kv k) ((ks.map kv).map dummy) i) = some ((kIdx q k ks i).map fun j => (j, Value.bool false))
 | [], i => rfl
 | e :: es, i => by
  simp only [List.map_cons, Instr.findAsking, kIdx]
  rw [evalP_bind]
  have h0 : evalP P (Op.equal kt (kv k) (dummy (kv e)).key) = some (q k e) := he k e
  rw [h0, Option.bind_some]
  cases q k e with
  | true => rfl
  | false => exact evalP_ask he k es (i + 1)
theorem kfind_S {fs : Array Field} (hu : P.underlying kt = some (.struct fs)) (he : ∀ a b, evalP P (Op.equal kt (kv a) (kv b)) = some (q a b)) (k : K) (ks : List K) : kfind P kt (kv k) (ks.map kv) = some (kIdx q k ks 0) := by
 unfold kfind Instr.findKey
 rw [evalP_bind, evalP_und hu, Option.bind_some]
 have ha := evalP_ask he k ks 0
 cases ks with
 | nil => rfl
 | cons e es =>
  have hn : Instr.findNow (.struct fs) (kv k) (((e :: es).map kv).map dummy) 0 = none := by
   simp only [List.map_cons, Instr.findNow]
   have : Instr.sameNow (.struct fs) (kv k) (dummy (kv e)).key = none := by cases kv k <;> rfl
   rw [this]
  rw [hn]
  simp only []
  rw [ha]
  cases kIdx q k (e :: es) 0 <;> rfl
theorem encM_keys {l : List (K × V)} : (encM kv ev l).map (·.1) = (l.map (·.1)).map kv := by simp [encM, Function.comp_def]
theorem lookup_own {fs : Array Field} {z : V} (hm : P.underlying t = some (.map kt et)) (hu : P.underlying kt = some (.struct fs)) (he : ∀ a b, evalP P (Op.equal kt (kv a) (kv b)) = some (q a b)) (hc : ∀ b k, evalP P (Instr.checkKey b 10000 kt (kv k)) = some ())
  (hz : ((P.info? et).bind (·.zero)).map ofVal2 = some (ev z)) {l : List (K × V)} {kx : VV} {k : K} (hk : kx.val? = some (kv k)) (hb : H β = some (.map (encM kv ev l))) :
  vlookup P H t (.mp β) kx false = some (ev (mapGet q z l k)) := by
 unfold vlookup
 rw [hm, hk]
 simp only [mapOf, hb]
 rw [hc, encM_keys, kfind_S hu he]
 cases hzz : (P.info? et).bind (·.zero) with
 | none => rw [hzz] at hz; cases hz
 | some z0 =>
  rw [hzz] at hz
  simp only [Option.map_some, Option.some.injEq] at hz
  unfold mapGet
  cases hi : kIdx q k (l.map (·.1)) 0 with
  | none => simp only [Bool.false_eq_true, if_false]; exact congrArg some hz
  | some i =>
   obtain ⟨_, e, h1, _⟩ := kIdx_some _ _ _ hi
   rw [Nat.sub_zero, List.getElem?_map] at h1
   cases hl : l[i]? with
   | none => rw [hl] at h1; cases h1
   | some p =>
    have : (encM kv ev l)[i]? = some (kv p.1, ev p.2) := by unfold encM; rw [List.getElem?_map, hl]; rfl
    simp only [this, hl, Bool.false_eq_true, if_false]
theorem update_own {fs : Array Field} (hm : P.underlying t = some (.map kt et)) (hu : P.underlying kt = some (.struct fs)) (he : ∀ a b, evalP P (Op.equal kt (kv a) (kv b)) = some (q a b)) (hc : ∀ b k, evalP P (Instr.checkKey b 10000 kt (kv k)) = some ())
  (hq : ∀ a b, q a b = true → a = b) (hs : ∀ a, Instr.sameBits 10000 (kv a) (kv a) = true) {l : List (K × V)} {kx : VV} {k : K} {v : V} (hk : kx.val? = some (kv k)) (hb : H β = some (.map (encM kv ev l))) :
  vmapUpdate P H t (.mp β) kx (ev v) = some (.upd β (.map (encM kv ev (mapSet q l k v)))) := by
 unfold vmapUpdate
 rw [hm, hk]
 simp only [hb]
 rw [hc, encM_keys, kfind_S hu he]
 unfold mapSet
 cases hi : kIdx q k (l.map (·.1)) 0 with
 | none => simp only [encM, List.map_append, List.map_cons, List.map_nil]
 | some i =>
  obtain ⟨_, e, h1, h2⟩ := kIdx_some _ _ _ hi
  rw [Nat.sub_zero, List.getElem?_map] at h1
  cases hl : l[i]? with
  | none => rw [hl] at h1; cases h1
  | some p =>
   have h3 : (encM kv ev l)[i]? = some (kv p.1, ev p.2) := by unfold encM; rw [List.getElem?_map, hl]; rfl
   rw [hl] at h1
   simp only [Option.map_some, Option.some.injEq] at h1
   have h4 := hq _ _ h2
   subst h4
   subst h1
   simp only [h3, hs, if_true]
   simp only [encM, List.map_set]
end
section
variable {P : Program} {G : Glob} {γ : Nat} {tm : Nat → VV} {H : Nat → Option VObj} {nx : Nat} {df : List VDef} {K : St → Prop} {Kd : List Nat → List Nat → St → Prop} {Qp : VV → St → Prop}
 {d : Option Tmp} {ty : TypeId} {pos : String} {af : Array Edge} {g : Option (Nat × Bool)}
theorem body_makeMap {t : TypeId} : bodyK P G γ ⟨d, .makeMap t none, ty, pos, af, g⟩ ⟨tm, H, nx, df⟩ K Qp = fin d γ tm H nx df K (.mp γ) (.new (.map [])) := by
 rw [body_op (by simp) (by simp) (by simp)]; rfl
theorem body_lookup {t : TypeId} {x k : Operand} {ok : Bool} : bodyK P G γ ⟨d, .lookup t x k ok, ty, pos, af, g⟩ ⟨tm, H, nx, df⟩ K Qp = oK (vlookup P H t (ev G tm x) (ev G tm k) ok) (fun y => fin d γ tm H nx df K y .none) := by
 rw [body_op (by simp) (by simp) (by simp)]; simp only [vop]; exact oK_map
theorem dbody_makeMap {t : TypeId} : dbodyK P G γ ⟨d, .makeMap t none, ty, pos, af, g⟩ ⟨tm, H, nx, df⟩ Kd = fin d γ tm H nx df (Kd (rdV ⟨d, .makeMap t none, ty, pos, af, g⟩ (ev G tm)) [γ]) (.mp γ) (.new (.map [])) := by
 rw [dbody_op (by simp)]; rfl
theorem dbody_lookup {t : TypeId} {x k : Operand} {ok : Bool} : dbodyK P G γ ⟨d, .lookup t x k ok, ty, pos, af, g⟩ ⟨tm, H, nx, df⟩ Kd = oK (vlookup P H t (ev G tm x) (ev G tm k) ok) (fun y => fin d γ tm H nx df (Kd (rdV ⟨d, .lookup t x k ok, ty, pos, af, g⟩ (ev G tm)) []) y .none) := by
 rw [dbody_op (by simp)]; simp only [vop]
 cases vlookup P H t (ev G tm x) (ev G tm k) ok <;> rfl
def umK (o : Option VEff) (k : VEff → Prop) : Prop := match o with | some e => k e | none => False
theorem umK_some {e : VEff} {k : VEff → Prop} : umK (some e) k = k e := rfl
theorem body_mapUpdate {t : TypeId} {m k x : Operand} : bodyK P G γ ⟨d, .mapUpdate t m k x, ty, pos, af, g⟩ ⟨tm, H, nx, df⟩ K Qp = umK (vmapUpdate P H t (ev G tm m) (ev G tm k) (ev G tm x)) (fun e => fin d γ tm H nx df K .any e) := by
 rw [body_op (by simp) (by simp) (by simp)]; simp only [vop]
 cases vmapUpdate P H t (ev G tm m) (ev G tm k) (ev G tm x) <;> rfl
theorem dbody_mapUpdate {t : TypeId} {m k x : Operand} : dbodyK P G γ ⟨d, .mapUpdate t m k x, ty, pos, af, g⟩ ⟨tm, H, nx, df⟩ Kd = umK (vmapUpdate P H t (ev G tm m) (ev G tm k) (ev G tm x)) (fun e => fin d γ tm H nx df (Kd (rdV ⟨d, .mapUpdate t m k x, ty, pos, af, g⟩ (ev G tm)) (e.wr γ)) .any e) := by
 rw [dbody_op (by simp)]; simp only [vop]
 cases vmapUpdate P H t (ev G tm m) (ev G tm k) (ev G tm x) <;> rfl
theorem vcells_mp {β : Nat} : vcells (.mp β) = some [.mp β] := rfl
theorem leaf_mp {β : Nat} : (VV.mp β).leaf = true := rfl
theorem rd_makeMap {t : TypeId} : rdV ⟨d, .makeMap t none, ty, pos, af, g⟩ (ev G tm) = rdL (ev G tm) [] := rdL_eq []
theorem rd_lookup {t : TypeId} {x k : Operand} {ok : Bool} : rdV ⟨d, .lookup t x k ok, ty, pos, af, g⟩ (ev G tm) = rdL (ev G tm) [x, k] := rdL_eq [x, k]
theorem rd_mapUpdate {t : TypeId} {m k x : Operand} : rdV ⟨d, .mapUpdate t m k x, ty, pos, af, g⟩ (ev G tm) = rdL (ev G tm) [m, k, x] := rdL_eq [m, k, x]
theorem tnL_mp {β : Nat} {l : List Nat} : tnL (.mp β) l = β :: l := rfl
theorem ev_nilmap : ev G tm (.const (.map none)) = .lit (.map none) := rfl
theorem encM_nil {K V : Type} {kv : K → Value} {ew : V → VV} : encM kv ew [] = [] := rfl
def mq := And.intro (And.intro (And.intro @body_makeMap (And.intro @body_lookup @body_mapUpdate)) (And.intro (And.intro @dbody_makeMap (And.intro @dbody_lookup @dbody_mapUpdate)) (And.intro (And.intro @umK_some @vcells_mp) @leaf_mp))) (And.intro (And.intro @rd_makeMap (And.intro @rd_lookup @rd_mapUpdate)) (And.intro @tnL_mp (And.intro @ev_nilmap @encM_nil)))
end
end Go.V
end
section
set_option linter.unusedVariables false
set_option linter.unusedSimpArgs false
set_option linter.defProp false
namespace Go.V
open Go
def RM (y x : VV) (H : Nat → Option VObj) (_ : Nat) : Prop := ∃ β es, x = .mp β ∧ H β = some (.map es) ∧ treeL (es.map (·.2)) = true ∧ y = .mt (es.map (·.1)) (es.map (·.2))
theorem VPure.of_openM {P : Program} {G : Glob} {f : FuncId} {args : List VV} {y : VV} (h : VOpen P G f args (fun _ => none) 0 (RM y) (fun _ _ _ => False)) : VPure P G f args (.tree y) := by
 refine ⟨h.1, fun A W vs hA hG hargs => (h.2 (PCtx A) W vs (pctx_sim hA) rfl (fun β hb => hb.elim) hG hargs).mono ?_⟩
 rintro e W' ⟨c', H', nx', hext, hs', hH', hu, hu', hle, hres⟩
 have hbelow := below_of_ext hext
 have hge : ∀ β, c'.live β → W.heap.size ≤ c'.φ β := by
  intro β hl
  rcases Nat.lt_or_ge (c'.φ β) W.heap.size with h | h
  ·obtain ⟨γ, hγ, _⟩ := hext.old β hl h
   simp [PCtx, Ctx.live] at hγ
  ·exact h
 have hold : ∀ b, c'.A b → A b ∨ W.heap.size ≤ b := by
  intro b hb
  rcases hext.newA b hb with h | h | ⟨β, h, _⟩
  ·exact .inl h
  ·exact .inr h
  ·simp [PCtx, Ctx.live] at h
 have held : ∀ {H0 : Nat → Option VObj}, SubHeap H0 c'.H → ∀ b, heldIn c' H0 b → A b ∨ W.heap.size ≤ b := by
  intro H0 hsub b hb
  rcases hb with h | ⟨β, h, e⟩
  ·exact hold b h
  ·exact .inr (e ▸ hge β (hsub.live h))
 have heldlt : ∀ {H0 : Nat → Option VObj}, SubHeap H0 c'.H → ∀ b, heldIn c' H0 b → b < W'.heap.size := by
  intro H0 hsub b hb
  rcases hb with h | ⟨β, h, e⟩
  ·exact hs'.ltA b h
  ·exact e ▸ hs'.lt β (hsub.live h)
 rcases hres with ⟨x, v, rfl, hrv, β, es, rfl, hβ, ht, rfl⟩ | ⟨x, v, rfl, hv, hF⟩
 ·subst hH'
  refine ⟨heldIn c' c'.H, fun b hb => .inl (hext.A b hb), held (SubHeap.refl _), heldlt (SubHeap.refl _), hbelow, v, rfl, ?_⟩
  have hv : v = .map (some (c'.φ β)) := hrv.2 (by simp [Ctx.live, hβ])
  obtain ⟨ents, clk, h1, h2, h3⟩ := hs'.obj β _ hβ
  have ab : Abides (PCtx c'.A) W' (PCtx (heldIn c' c'.H)) W' := abides_of_p (fun b hb => Or.inl hb)
  exact ⟨_, hv, .inr ⟨β, by simp [hβ], rfl⟩, ents, clk, h1, h2, RepL.abides ab _ (repL_tree ht h3)⟩
 ·exact hF.elim
theorem VPure.runM {P : Program} {G : Glob} (hm : P.follows .mixedOrders = true) {f : FuncId} {fn : Func} {code : Code} {args : List VV} {y : VV} (hc : Callable P f) (hf : P.funcs[f]? = some fn) (hb : fn.body = some code)
  (hst : (decide (args.length ≤ fn.ntmps) && codeOk fn.ntmps code) = true) (h : CWp P (G.at (some none)) fn.ntmps code (OpenPostD P G fn (RM y) (fun _ _ _ => False)) { tm := argsTm args, H := fun _ => none, nx := 0, df := [] }) : VPure P G f args (.tree y) :=
 VPure.of_openM (VOpen.run hm hc hf hb hst h)
def mtK {K V : Type} (kv : K → Value) (l : List (K × V)) : List Value := l.map fun p => kv p.1
def mtV {K V : Type} (ew : V → VV) (l : List (K × V)) : List VV := l.map fun p => ew p.2
theorem mt_tree {K V : Type} {ew : V → VV} (ht : ∀ v, (ew v).tree = true) : ∀ l : List (K × V), treeL (mtV ew l) = true
 | [] => rfl
 | p :: l => by
  show ((ew p.2).tree && treeL (mtV ew l)) = true
  rw [ht, mt_tree ht l]; rfl
theorem rm_map {K V : Type} {kv : K → Value} {ew : V → VV} {β nx : Nat} {H : Nat → Option VObj} {l : List (K × V)} (ht : ∀ v, (ew v).tree = true) (hb : H β = some (.map (encM kv ew l))) : RM (.mt (mtK kv l) (mtV ew l)) (.mp β) H nx := by
 have e1 : (encM kv ew l).map (·.1) = mtK kv l := by simp [encM, mtK, Function.comp_def]
 have e2 : (encM kv ew l).map (·.2) = mtV ew l := by simp [encM, mtV, Function.comp_def]
 exact ⟨β, _, rfl, hb, by rw [e2]; exact mt_tree ht l, by rw [e1, e2]⟩
theorem mt_mapOf {K V : Type} {kv : K → Value} {ew : V → VV} {H : Nat → Option VObj} (l : List (K × V)) : mapOf H (.mt (mtK kv l) (mtV ew l)) = some (encM kv ew l) := by
 simp only [mapOf, mtK, mtV, encM, Option.some.injEq]
 induction l with
 | nil => rfl
 | cons p l ih => simp only [List.map_cons, List.zip_cons_cons, ih]
section
variable {P : Program} {K V : Type} {q : K → K → Bool} {kv : K → Value} {ew : V → VV} {t kt et : TypeId} {H : Nat → Option VObj}
theorem lookup_tree {fs : Array Field} {z : V} (hm : P.underlying t = some (.map kt et)) (hu : P.underlying kt = some (.struct fs)) (he : ∀ a b, evalP P (Op.equal kt (kv a) (kv b)) = some (q a b)) (hc : ∀ b k, evalP P (Instr.checkKey b 10000 kt (kv k)) = some ())
  (hz : ((P.info? et).bind (·.zero)).map ofVal2 = some (ew z)) {l : List (K × V)} {kx : VV} {k : K} (hk : kx.val? = some (kv k)) :
  vlookup P H t (.mt (mtK kv l) (mtV ew l)) kx false = some (ew (mapGet q z l k)) := by
 have := lookup_own (H := fun _ => some (.map (encM kv ew l))) (β := 0) hm hu he hc hz hk rfl
 unfold vlookup at this ⊢
 rw [mt_mapOf]
 exact this
end
theorem leaf_mt {ks : List Value} {vs : List VV} : (VV.mt ks vs).leaf = true := rfl
theorem vcells_mt {ks : List Value} {vs : List VV} : vcells (.mt ks vs) = some [.mt ks vs] := rfl
theorem tnL_mt {ks : List Value} {vs : List VV} {l : List Nat} : tnL (.mt ks vs) l = l := rfl
def mqm := And.intro @leaf_mt (And.intro @vcells_mt @tnL_mt)
end Go.V
end
section
set_option linter.defProp false
namespace Go.V
open Go
theorem normV_mt {ks : List Value} {vs : List VV} : normV (.mt ks vs) = .mt ks vs := by simp [normV]
theorem encM_k {K V : Type} {kv : K → Value} {ev : V → VV} {l : List (K × V)} : (encM kv ev l).map (·.1) = mtK kv l := by simp [encM, mtK, Function.comp_def]
theorem encM_v {K V : Type} {kv : K → Value} {ev : V → VV} (h : ∀ H d v, showV H d (ev v) = ev v) {l : List (K × V)} {H : Nat → Option VObj} {d : Nat} : ((encM kv ev l).map (·.2)).map (showV H d) = mtV ev l := by
 simp [encM, mtV, Function.comp_def, h]
theorem mt_tr {K V : Type} {kv : K → Value} {ev : V → VV} (h : ∀ v, (ev v).tree = true) {l : List (K × V)} : (VV.mt (mtK kv l) (mtV ev l)).tree = true := mt_tree h l
theorem showV_mt {H : Nat → Option VObj} {d : Nat} {ks : List Value} {vs : List VV} : showV H d (.mt ks vs) = .mt ks vs := by cases d <;> rfl
end Go.V
end
section
namespace Go.V
open Go Go.Proofs
def kv121 (k : Gcoatlaying) : Value := .agg ⟨[.int .i64 k.coat, .int .i64 k.day]⟩
def q121 (a b : Gcoatlaying) : Bool := (a.coat == b.coat) && ((a.day == b.day) && true)
def ev4 (n : Bool) : VV := .lit (.bool n)
theorem he121 (a b : Gcoatlaying) : evalP Tryz.prog (Op.equal 121 (kv121 a) (kv121 b)) = some (q121 a b) := by
 have e : Op.maxDepth = 9998 + 2 := rfl
 unfold Op.equal kv121
 rw [e, evalP_eqS Tryz.underlying121 (by kernel_rfl) (r := q121 a b) (by kernel_rfl)]
theorem hc121 (b : Bool) (k : Gcoatlaying) : evalP Tryz.prog (Instr.checkKey b 10000 121 (kv121 k)) = some () := by
 cases b <;> kernel_rfl
theorem hq121 (a b : Gcoatlaying) (h : q121 a b = true) : a = b := by
 cases a; cases b
 simp only [q121, Bool.and_true, Bool.and_eq_true, beq_iff_eq] at h
 simp only [h]
theorem hs121 (a : Gcoatlaying) : Instr.sameBits 10000 (kv121 a) (kv121 a) = true := by
 simp [kv121, Instr.sameBits]
theorem hz4 : ((Tryz.prog.info? 4).bind (·.zero)).map ofVal2 = some (ev4 false) := by kernel_rfl
theorem hk121 (k : Gcoatlaying) : VV.val? (.agg [.lit (.int .i64 k.coat), .lit (.int .i64 k.day)]) = some (kv121 k) := rfl
theorem up117 {β : Nat} (l : List (Gcoatlaying × Bool)) (k : Gcoatlaying) (n : Bool) (H : Nat → Option VObj) (hb : H β = some (.map (encM kv121 ev4 l))) : vmapUpdate Tryz.prog H 117 (.mp β) (.agg [.lit (.int .i64 k.coat), .lit (.int .i64 k.day)]) (.lit (.bool n)) = some (.upd β (.map (encM kv121 ev4 (mapSet q121 l k n)))) :=
 update_own Tryz.underlying117 Tryz.underlying121 he121 hc121 hq121 hs121 (hk121 k) hb
theorem ld117 {c : VV} {cs : List VV} : vload Tryz.prog 117 (c :: cs) = some c := by
 have h1 : aggT Tryz.prog 117 = some false := by kernel_rfl
 simp [vload, vpart, h1]
theorem sz117 : szT Tryz.prog 117 = some 1 := by kernel_rfl
theorem vzl117 : vzl Tryz.prog 117 = some [.lit (.map none)] := by kernel_rfl
theorem lkt117 {l : List (Gcoatlaying × Bool)} {a0 a1 : Int} {H : Nat → Option VObj} : vlookup Tryz.prog H 117 (.mt (mtK kv121 l) (mtV ev4 l)) (.agg [.lit (.int .i64 a0), .lit (.int .i64 a1)]) false = some (.lit (.bool (mapGet q121 false l (Gcoatlaying.mk a0 a1)))) :=
 lookup_tree Tryz.underlying117 Tryz.underlying121 he121 hc121 hz4 (k := ⟨a0, a1⟩) rfl
theorem et4 (n : Bool) : (ev4 n).tree = true := rfl
theorem sh4 (H : Nat → Option VObj) (d : Nat) (n : Bool) : showV H d (ev4 n) = ev4 n := by cases d <;> rfl
theorem mv4 {kv : Gcoatlaying → Value} {l : List (Gcoatlaying × Bool)} {H : Nat → Option VObj} {d : Nat} : ((encM kv ev4 l).map (·.2)).map (showV H d) = mtV ev4 l := encM_v sh4
theorem mtr4 {kv : Gcoatlaying → Value} {l : List (Gcoatlaying × Bool)} : (VV.mt (mtK kv l) (mtV ev4 l)).tree = true := mt_tr et4
def mqr := And.intro (And.intro @normV_mt @showV_mt) (And.intro @mtr4 True.intro)
def mqt := And.intro (And.intro (And.intro @ld117 @sz117) (And.intro @vzl117 @lkt117)) (And.intro (And.intro @normV_mt @showV_mt) (And.intro @encM_k @mv4))
end Go.V
end
section
namespace Go.V
open Go Go.Proofs
def g_coat_sums_dries (x0_x : Gcoatsums) (x1_coat : Int) (x2_from : Int) (x3_to : Int) : Option (Bool) := cond (decide (x2_from < x3_to)) (Option.bind (g_coat_sums_least x0_x x2_from x3_to) (fun r1 => Option.bind (getI x0_x.CoatSheet.Coats x1_coat) (fun x2 => cond (decide (r1 < x2.Need)) (some false) (Option.bind (g_coat_sums_isLast x0_x x1_coat) (fun r3 => cond (r3) (some true) (Option.bind (g_coat_sums_greatest x0_x x2_from x3_to) (fun r4 => cond (decide (r4 > x2.Peel)) (some false) (some true)))))))) (some false)
theorem g_coat_sums_dries_ok (x0_x : Gcoatsums) (x1_coat : Int) (x2_from : Int) (x3_to : Int) (R : Bool) (h : g_coat_sums_dries x0_x x1_coat x2_from x3_to = some R) : VPure Tryz.prog G0 107 [.agg (cGcoatsums x0_x), .lit (.int .i64 x1_coat), .lit (.int .i64 x2_from), .lit (.int .i64 x3_to)] (.tree (.lit (.bool R))) := by
 refine VPure.runR mixed Tryz.call107 Tryz.func107 rfl (by simp [Tryz.ntmps107]; kernel_rfl) ?_
 obtain ⟨KF, h, kF, kN⟩ := fun_intro h
 simp only [g_coat_sums_dries] at h
 simp only [vz, tyf, nm, seval]
 refine cwp_cutF (fun tm => tm 1 = .lit (.int .i64 x1_coat) ∧ tm 2 = .lit (.int .i64 x2_from) ∧ tm 3 = .lit (.int .i64 x3_to) ∧ tm 4 = .ptr 0 0 ∧ True) (by refine ⟨?_, ?_, ?_, ?_, trivial⟩ <;> first | (simp only [ua, nm, seval] <;> rfl) | rfl) ?_
 rintro tm ⟨e5, e6, e7, e8, _⟩
 refine cwp_drawS mixed 10 rfl rfl rfl (by kernel_rfl) ?_
 cases d9 : (decide (x2_from < x3_to))
 ·simp only [d9, hs] at h
  try simp only [vz, tyf, e5, e6, e7, e8, d9, nm, seval]
  obtain rfl := kF _ h
  exact opd_bool Tryz.results107 rfl
 simp only [d9, hs] at h
 simp only [vz, tyf, e5, e6, e7, e8, d9, nm, seval]
 refine dktree (args0 := [.agg (cGcoatsums x0_x)]) (by first | (simp only [nrm, tynrm] <;> rfl) | rfl) (by simp only [tre, tytre, Bool.and_self]) (g_coat_sums_atWorst_ok _) ?_
 try simp only [vz, tyf, e5, e6, e7, e8, d9, nm, seval]
 refine kopen ?_
 rw [openK_eq]
 refine VOpen.run mixed Tryz.call135 Tryz.func135 rfl (by simp [Tryz.ntmps135]; kernel_rfl) ?_
 simp only [vz, tyf, d9, nm, seval]
 refine cwp_drwQF (fun tm => tm 2 = .lit (.int .i64 x1_coat) ∧ tm 3 = .lit (.int .i64 x2_from) ∧ tm 4 = .lit (.int .i64 x3_to) ∧ tm 5 = .ptr 16 0 ∧ tm 6 = .ptr 17 0 ∧ True) (by refine ⟨?_, ?_, ?_, ?_, ?_, trivial⟩ <;> first | (simp only [ua, d9, nm, seval] <;> rfl) | rfl) ?_
 rintro tm ⟨e10, e11, e12, e13, e14, _⟩
 rcases o16 : (g_coat_sums_least x0_x x2_from x3_to) with _ | r15
 ·simp only [o16, hs] at h
  exact absurd h kN
 simp only [o16, hs] at h
 simp only [vz, tyf, d9, e10, e11, e12, e13, e14, nm, seval]
 refine dktree (args0 := [.agg (cGcoatsums x0_x), .lit (.int .i64 x2_from), .lit (.int .i64 x3_to)]) (by first | (simp only [nrm, tynrm] <;> rfl) | rfl) (by simp only [tre, tytre, Bool.and_self]) (g_coat_sums_least_ok _ _ _ _ o16) ?_
 refine fin_cut (fun tm => tm 2 = .lit (.int .i64 x1_coat) ∧ tm 3 = .lit (.int .i64 x2_from) ∧ tm 4 = .lit (.int .i64 x3_to) ∧ tm 5 = .ptr 16 0 ∧ tm 6 = .ptr 17 0 ∧ tm 16 = .lit (.int .i64 r15) ∧ True) (by refine ⟨e10, e11, e12, e13, e14, ?_, trivial⟩ <;> first | (simp only [ua, d9, e10, e11, e12, e13, e14, nm, seval] <;> rfl) | rfl) ?_
 rintro tm ⟨e17, e18, e19, e20, e21, e22, _⟩
 rcases o24 : (getI x0_x.CoatSheet.Coats x1_coat) with _ | x23
 ·simp only [o24, hs] at h
  exact absurd h kN
 simp only [o24, hs] at h
 cases d25 : (decide (r15 < x23.Need))
 ·simp only [d25, hs] at h
  simp only [vz, tyf, d9, e17, e18, e19, e20, e21, e22, (ix24 o24), d25, nm, seval]
  refine cwp_drwQF (fun tm => tm 2 = .lit (.int .i64 x1_coat) ∧ tm 3 = .lit (.int .i64 x2_from) ∧ tm 4 = .lit (.int .i64 x3_to) ∧ tm 5 = .ptr 16 0 ∧ tm 6 = .ptr 17 0 ∧ True) (by refine ⟨e17, e18, e19, e20, e21, trivial⟩ <;> first | (simp only [ua, d9, e17, e18, e19, e20, e21, e22, d25, nm, seval] <;> rfl) | rfl) ?_
  rintro tm ⟨e26, e27, e28, e29, e30, _⟩
  rcases o32 : (g_coat_sums_isLast x0_x x1_coat) with _ | r31
  ·simp only [o32, hs] at h
   exact absurd h kN
  simp only [o32, hs] at h
  simp only [vz, tyf, d9, (ix24 o24), d25, e26, e27, e28, e29, e30, nm, seval]
  refine dktree (args0 := [.agg (cGcoatsums x0_x), .lit (.int .i64 x1_coat)]) (by first | (simp only [nrm, tynrm] <;> rfl) | rfl) (by simp only [tre, tytre, Bool.and_self]) (g_coat_sums_isLast_ok _ _ _ o32) ?_
  refine fin_cut (fun tm => tm 2 = .lit (.int .i64 x1_coat) ∧ tm 3 = .lit (.int .i64 x2_from) ∧ tm 4 = .lit (.int .i64 x3_to) ∧ tm 5 = .ptr 16 0 ∧ tm 6 = .ptr 17 0 ∧ tm 28 = .lit (.bool r31) ∧ True) (by refine ⟨e26, e27, e28, e29, e30, ?_, trivial⟩ <;> first | (simp only [ua, d9, d25, e26, e27, e28, e29, e30, nm, seval] <;> rfl) | rfl) ?_
  rintro tm ⟨e33, e34, e35, e36, e37, e38, _⟩
  cases d39 : (r31)
  ·simp only [d39, hs] at h
   rcases o41 : (g_coat_sums_greatest x0_x x2_from x3_to) with _ | r40
   ·simp only [o41, hs] at h
    exact absurd h kN
   simp only [o41, hs] at h
   simp only [vz, tyf, d9, (ix24 o24), d25, e33, e34, e35, e36, e37, e38, d39, nm, seval]
   refine dktree (args0 := [.agg (cGcoatsums x0_x), .lit (.int .i64 x2_from), .lit (.int .i64 x3_to)]) (by first | (simp only [nrm, tynrm] <;> rfl) | rfl) (by simp only [tre, tytre, Bool.and_self]) (g_coat_sums_greatest_ok _ _ _ _ o41) ?_
   refine fin_cut (fun tm => tm 2 = .lit (.int .i64 x1_coat) ∧ tm 5 = .ptr 16 0 ∧ tm 30 = .lit (.bool true) ∧ tm 35 = .lit (.int .i64 r40) ∧ True) (by refine ⟨e33, e36, ?_, ?_, trivial⟩ <;> first | (simp only [ua, d9, d25, e33, e34, e35, e36, e37, e38, d39, nm, seval] <;> rfl) | rfl) ?_
   rintro tm ⟨e42, e43, e44, e45, _⟩
   cases d46 : (decide (r40 > x23.Peel))
   ·simp only [d46, hs] at h
    try simp only [vz, tyf, d9, (ix24 o24), d25, d39, e42, e43, e44, e45, d46, nm, seval]
    refine opd_ret (x := (.lit (.int .i64 0))) (by first | (simp only [Tryz.results135, resV, resL, resV1, tgt_ptr, tgt_tp, uw, cr, tyf, d9, (ix24 o24), d25, d39, d46, nm, seval] <;> rfl) | rfl) ?_
    try simp only [vz, tyf, d9, (ix24 o24), d25, d39, d46, e5, e6, e7, e8, nm, seval]
    obtain rfl := kF _ h
    exact opd_bool Tryz.results107 rfl
   simp only [d46, hs] at h
   try simp only [vz, tyf, d9, (ix24 o24), d25, d39, e42, e43, e44, e45, d46, nm, seval]
   refine opd_ret (x := (.lit (.int .i64 2))) (by first | (simp only [Tryz.results135, resV, resL, resV1, tgt_ptr, tgt_tp, uw, cr, tyf, d9, (ix24 o24), d25, d39, d46, nm, seval] <;> rfl) | rfl) ?_
   try simp only [vz, tyf, d9, (ix24 o24), d25, d39, d46, e5, e6, e7, e8, nm, seval]
   obtain rfl := kF _ h
   exact opd_bool Tryz.results107 rfl
  simp only [d39, hs] at h
  try simp only [vz, tyf, d9, (ix24 o24), d25, e33, e34, e35, e36, e37, e38, d39, nm, seval]
  refine opd_ret (x := (.lit (.int .i64 0))) (by first | (simp only [Tryz.results135, resV, resL, resV1, tgt_ptr, tgt_tp, uw, cr, tyf, d9, (ix24 o24), d25, d39, nm, seval] <;> rfl) | rfl) ?_
  try simp only [vz, tyf, d9, (ix24 o24), d25, d39, e5, e6, e7, e8, nm, seval]
  obtain rfl := kF _ h
  exact opd_bool Tryz.results107 rfl
 simp only [d25, hs] at h
 try simp only [vz, tyf, d9, e17, e18, e19, e20, e21, e22, (ix24 o24), d25, nm, seval]
 refine opd_ret (x := (.lit (.int .i64 1))) (by first | (simp only [Tryz.results135, resV, resL, resV1, tgt_ptr, tgt_tp, uw, cr, tyf, d9, (ix24 o24), d25, nm, seval] <;> rfl) | rfl) ?_
 try simp only [vz, tyf, d9, (ix24 o24), d25, e5, e6, e7, e8, nm, seval]
 obtain rfl := kF _ h
 exact opd_bool Tryz.results107 rfl
end Go.V
end
section
namespace Go.V
open Go Go.Proofs
def g_coat_sums_goesOn_l0 (x0_x : Gcoatsums) (x1_known : List (Gcoatlaying × Bool)) (x2_coat : Int) (x3_day : Int) : List Int → Int → Option (LOut (Bool) (Unit))
 | [], c0_26 => some (.go ())
 | e0 :: p0, c0_26 => cond (mapGet q121 false x1_known (Gcoatlaying.mk (IntKind.i64.wrap (x2_coat + 1)) e0)) (Option.bind (g_coat_sums_dries x0_x x2_coat x3_day e0) (fun r3 => cond (r3) (some (.ret true)) (g_coat_sums_goesOn_l0 x0_x x1_known x2_coat x3_day p0 (c0_26 + 1)))) (g_coat_sums_goesOn_l0 x0_x x1_known x2_coat x3_day p0 (c0_26 + 1))
def g_coat_sums_goesOn (x0_x : Gcoatsums) (x1_known : List (Gcoatlaying × Bool)) (x2_coat : Int) (x3_day : Int) : Option (Bool) := Option.bind (g_coat_sums_isLast x0_x x2_coat) (fun r1 => cond (r1) (Option.bind (g_coat_sums_dries x0_x x2_coat x3_day (List.length x0_x.CoatSheet.Dry : Int)) (fun r2 => some r2)) (cond (lenOk x0_x.CoatSheet.Work) (lbind (g_coat_sums_goesOn_l0 x0_x x1_known x2_coat x3_day x0_x.CoatSheet.Work 0) (fun r5 => some r5) (fun c4 => some false) (fun _ _ => none)) none))
theorem g_coat_sums_goesOn_ok (x0_x : Gcoatsums) (x1_known : List (Gcoatlaying × Bool)) (x2_coat : Int) (x3_day : Int) (R : Bool) (h : g_coat_sums_goesOn x0_x x1_known x2_coat x3_day = some R) : VPure Tryz.prog G0 132 [.agg (cGcoatsums x0_x), .mt (mtK kv121 x1_known) (mtV ev4 x1_known), .lit (.int .i64 x2_coat), .lit (.int .i64 x3_day)] (.tree (.lit (.bool R))) := by
 refine VPure.runR mixed Tryz.call132 Tryz.func132 rfl (by simp [Tryz.ntmps132]; kernel_rfl) ?_
 obtain ⟨KF, h, kF, kN⟩ := fun_intro h
 simp only [g_coat_sums_goesOn] at h
 rcases o7 : (g_coat_sums_isLast x0_x x2_coat) with _ | r6
 ·simp only [o7, hs] at h
  exact absurd h kN
 simp only [o7, hs] at h
 simp only [vz, mq, mqm, tyf, mqt, nm, seval]
 refine ktree (args0 := [.agg (cGcoatsums x0_x), .lit (.int .i64 x2_coat)]) (by first | (simp only [nrm, tynrm, mqr] <;> rfl) | rfl) (by simp only [tre, tytre, mqr, Bool.and_self]) (g_coat_sums_isLast_ok _ _ _ o7) ?_
 refine fin_cut (fun tm => tm 1 = .mt (mtK kv121 x1_known) (mtV ev4 x1_known) ∧ tm 2 = .lit (.int .i64 x2_coat) ∧ tm 3 = .lit (.int .i64 x3_day) ∧ tm 4 = .ptr 0 0 ∧ tm 13 = .lit (.bool r6) ∧ True) (by refine ⟨?_, ?_, ?_, ?_, ?_, trivial⟩ <;> first | (simp only [ua, encM_nil, nm, seval] <;> rfl) | rfl) ?_
 rintro tm ⟨e8, e9, e10, e11, e12, _⟩
 cases d13 : (r6)
 ·simp only [d13, hs] at h
  cases g15 : (lenOk x0_x.CoatSheet.Work)
  ·simp only [g15, hs] at h
   exact absurd h kN
  simp only [g15, hs] at h
  simp only [vz, mq, mqm, tyf, mqt, e8, e9, e10, e11, e12, d13, g15, nm, seval]
  obtain ⟨K14, h, kR14, kG14, kB14, kN14⟩ := lbind_intro h kN
  obtain ⟨f14, hf14, h⟩ := call2 h
  obtain ⟨I14, hI14⟩ : ∃ I : Nat → St → Prop, I = (fun m st => ∃ (p14 : List Int) (c14_26 : Int), m = List.length p14 ∧ 0 ≤ c14_26 ∧ List.drop (Int.toNat c14_26) x0_x.CoatSheet.Work = p14 ∧ st.df = [] ∧ 10 ≤ st.nx ∧ st.H 0 = some (.cells (some 81) (cGcoatsums x0_x)) ∧ st.tm 1 = .mt (mtK kv121 x1_known) (mtV ev4 x1_known) ∧ st.tm 2 = .lit (.int .i64 x2_coat) ∧ st.tm 3 = .lit (.int .i64 x3_day) ∧ st.tm 4 = .ptr 0 0 ∧ st.tm 24 = .sl (cellsL eI x0_x.CoatSheet.Work) (List.length x0_x.CoatSheet.Work) false ∧ st.tm 25 = .lit (.int .i64 (List.length x0_x.CoatSheet.Work : Int)) ∧ st.tm 26 = .lit (.int .i64 c14_26) ∧ K14 (f14 p14 c14_26)) := ⟨_, rfl⟩
  refine loopK mixed (by kernel_rfl) I14 (List.length x0_x.CoatSheet.Work) (by rw [hI14]; refine ⟨x0_x.CoatSheet.Work, 0, rfl, Int.le_refl _, rfl, rfl, (show 10 ≤ 10 by omega), ?_, e8, e9, e10, e11, ?_, ?_, ?_, h⟩ <;> first | (simp only [ua, encM_nil, e8, e9, e10, e11, e12, d13, nm, seval] <;> rfl) | rfl) ?_
  rintro m ⟨tm, H, nx14, df⟩ hinv
  rw [hI14] at hinv
  obtain ⟨p14, c14_26, rfl, hi14, hp14, hdf, hn14, H16, e17, e18, e19, e20, e21, e22, e23, h⟩ := hinv
  simp only at hdf hn14 H16 e17 e18 e19 e20 e21 e22 e23
  have n24 := base_ne0 (m := 10) (b := nx14) (by omega)
  subst hdf hf14
  cases p14 with
  | nil =>
   have d25 : (decide (c14_26 < (List.length x0_x.CoatSheet.Work : Int))) = false := not_lt_of_drop hi14 hp14
   simp only [g_coat_sums_goesOn_l0, hs, reduceCtorEq] at h
   replace h := kG14 _ h
   try dsimp only at h
   try simp only [hs] at h
   try simp only [vz, mq, mqm, tyf, mqt, d13, g15, n24, e17, e18, e19, e20, e21, e22, e23, H16, d25, nm, seval]
   obtain rfl := kF _ h
   exact opd_bool Tryz.results132 rfl
  | cons e14 p14 =>
   have d26 : (decide (c14_26 < (List.length x0_x.CoatSheet.Work : Int))) = true := lt_of_drop hi14 hp14
   have o28 := getI_of_drop hi14 hp14
   have w27 := wrap_next hi14 hp14 g15
   simp only [g_coat_sums_goesOn_l0, hs, reduceCtorEq] at h
   cases d29 : (mapGet q121 false x1_known (Gcoatlaying.mk (IntKind.i64.wrap (x2_coat + 1)) e14))
   ·simp only [d29, hs] at h
    have b30 := And.intro d13 (And.intro g15 (And.intro n24 (And.intro H16 (And.intro d26 (And.intro w27 d29)))))
    simp only [vz, mq, mqm, tyf, mqt, b30, e17, e18, e19, e20, e21, e22, e23, (ix23 o28), nm, seval]
    exact ⟨List.length p14, Nat.lt_succ_self _, by rw [hI14]; refine ⟨p14, c14_26 + 1, rfl, Int.le_trans hi14 (Int.le_add_one (Int.le_refl _)), drop_next hi14 hp14, rfl, (show 10 ≤ nx14 + 19 by omega), ?_, e17, e18, e19, e20, e21, e22, ?_, h⟩ <;> first | (simp only [ua, encM_nil, b30, e17, e18, e19, e20, e21, e22, e23, nm, seval] <;> rfl) | rfl⟩
   simp only [d29, hs] at h
   have b31 := And.intro d13 (And.intro g15 (And.intro n24 (And.intro H16 (And.intro d26 (And.intro w27 d29)))))
   rcases o33 : (g_coat_sums_dries x0_x x2_coat x3_day e14) with _ | r32
   ·simp only [o33, hs] at h
    exact absurd h kN14
   simp only [o33, hs] at h
   simp only [vz, mq, mqm, tyf, mqt, b31, e17, e18, e19, e20, e21, e22, e23, (ix23 o28), nm, seval]
   refine ktree (args0 := [.agg (cGcoatsums x0_x), .lit (.int .i64 x2_coat), .lit (.int .i64 x3_day), .lit (.int .i64 e14)]) (by first | (simp only [nrm, tynrm, mqr] <;> rfl) | rfl) (by simp only [tre, tytre, mqr, Bool.and_self]) (g_coat_sums_dries_ok _ _ _ _ _ o33) ?_
   refine fin_cut (fun tm => tm 1 = .mt (mtK kv121 x1_known) (mtV ev4 x1_known) ∧ tm 2 = .lit (.int .i64 x2_coat) ∧ tm 3 = .lit (.int .i64 x3_day) ∧ tm 4 = .ptr 0 0 ∧ tm 24 = .sl (cellsL eI x0_x.CoatSheet.Work) (List.length x0_x.CoatSheet.Work) false ∧ tm 25 = .lit (.int .i64 (List.length x0_x.CoatSheet.Work : Int)) ∧ tm 26 = .lit (.int .i64 c14_26) ∧ tm 36 = .lit (.bool true) ∧ tm 41 = .lit (.bool r32) ∧ True) (by refine ⟨e17, e18, e19, e20, e21, e22, e23, ?_, ?_, trivial⟩ <;> first | (simp only [ua, encM_nil, b31, e17, e18, e19, e20, e21, e22, e23, nm, seval] <;> rfl) | rfl) ?_
   rintro tm ⟨e34, e35, e36, e37, e38, e39, e40, e41, e42, _⟩
   cases d43 : (r32)
   ·simp only [d43, hs] at h
    simp only [vz, mq, mqm, tyf, mqt, b31, (ix23 o28), e34, e35, e36, e37, e38, e39, e40, e41, e42, d43, nm, seval]
    exact ⟨List.length p14, Nat.lt_succ_self _, by rw [hI14]; refine ⟨p14, c14_26 + 1, rfl, Int.le_trans hi14 (Int.le_add_one (Int.le_refl _)), drop_next hi14 hp14, rfl, (show 10 ≤ nx14 + 19 by omega), ?_, e34, e35, e36, e37, e38, e39, ?_, h⟩ <;> first | (simp only [ua, encM_nil, b31, e34, e35, e36, e37, e38, e39, e40, e41, e42, d43, nm, seval] <;> rfl) | rfl⟩
   simp only [d43, hs] at h
   try simp only [vz, mq, mqm, tyf, mqt, b31, (ix23 o28), e34, e35, e36, e37, e38, e39, e40, e41, e42, d43, nm, seval]
   replace h := kR14 _ h
   try dsimp only at h
   obtain rfl := kF _ h
   exact opd_bool Tryz.results132 rfl
 simp only [d13, hs] at h
 rcases o45 : (g_coat_sums_dries x0_x x2_coat x3_day (List.length x0_x.CoatSheet.Dry : Int)) with _ | r44
 ·simp only [o45, hs] at h
  exact absurd h kN
 simp only [o45, hs] at h
 simp only [vz, mq, mqm, tyf, mqt, e8, e9, e10, e11, e12, d13, nm, seval]
 refine ktree (args0 := [.agg (cGcoatsums x0_x), .lit (.int .i64 x2_coat), .lit (.int .i64 x3_day), .lit (.int .i64 (List.length x0_x.CoatSheet.Dry : Int))]) (by first | (simp only [nrm, tynrm, mqr] <;> rfl) | rfl) (by simp only [tre, tytre, mqr, Bool.and_self]) (g_coat_sums_dries_ok _ _ _ _ _ o45) ?_
 refine fin_cut (fun tm => tm 21 = .lit (.bool r44) ∧ True) (by refine ⟨?_, trivial⟩ <;> first | (simp only [ua, encM_nil, e8, e9, e10, e11, e12, d13, nm, seval] <;> rfl) | rfl) ?_
 rintro tm ⟨e46, _⟩
 try simp only [vz, mq, mqm, tyf, mqt, d13, e46, nm, seval]
 obtain rfl := kF _ h
 exact opd_bool Tryz.results132 rfl
end Go.V
end
section
namespace Go.V
open Go Go.Proofs
def g_coat_sums_goingOn_l1 (x0_x : Gcoatsums) (c0_13 : Int) : List Int → Int → (List (Gcoatlaying × Bool)) → Option (LOut (List (Gcoatlaying × Bool)) ((List (Gcoatlaying × Bool))))
 | [], c1_27, c1_o0 => some (.go c1_o0)
 | e1 :: p1, c1_27, c1_o0 => Option.bind (g_coat_sums_goesOn x0_x c1_o0 (IntKind.i64.wrap ((IntKind.i64.wrap ((List.length x0_x.CoatSheet.Coats : Int) - 1)) - c0_13)) e1) (fun r5 => g_coat_sums_goingOn_l1 x0_x c0_13 p1 (c1_27 + 1) (mapSet q121 c1_o0 (Gcoatlaying.mk (IntKind.i64.wrap ((IntKind.i64.wrap ((List.length x0_x.CoatSheet.Coats : Int) - 1)) - c0_13)) e1) r5))
def g_coat_sums_goingOn_l0 (x0_x : Gcoatsums) : List GCoatCoat → Int → (List (Gcoatlaying × Bool)) → Option (LOut (List (Gcoatlaying × Bool)) ((List (Gcoatlaying × Bool))))
 | [], c0_13, c0_o0 => some (.go c0_o0)
 | e0 :: p0, c0_13, c0_o0 => cond (lenOk x0_x.CoatSheet.Work) (lbind (g_coat_sums_goingOn_l1 x0_x c0_13 x0_x.CoatSheet.Work 0 c0_o0) (fun r7 => some (.ret r7)) (fun c6 => g_coat_sums_goingOn_l0 x0_x p0 (c0_13 + 1) c6) (fun _ _ => none)) none
def g_coat_sums_goingOn (x0_x : Gcoatsums) : Option (List (Gcoatlaying × Bool)) := cond (lenOk x0_x.CoatSheet.Coats) (lbind (g_coat_sums_goingOn_l0 x0_x x0_x.CoatSheet.Coats 0 ([] : List (Gcoatlaying × Bool))) (fun r9 => some r9) (fun c8 => some c8) (fun _ _ => none)) none
theorem g_coat_sums_goingOn_ok (x0_x : Gcoatsums) (R : List (Gcoatlaying × Bool)) (h : g_coat_sums_goingOn x0_x = some R) : VPure Tryz.prog G0 104 [.agg (cGcoatsums x0_x)] (.tree (.mt (mtK kv121 R) (mtV ev4 R))) := by
 refine VPure.runM mixed Tryz.call104 Tryz.func104 rfl (by simp [Tryz.ntmps104]; kernel_rfl) ?_
 obtain ⟨KF, h, kF, kN⟩ := fun_intro h
 simp only [g_coat_sums_goingOn] at h
 cases g11 : (lenOk x0_x.CoatSheet.Coats)
 ·simp only [g11, hs] at h
  exact absurd h kN
 simp only [g11, hs] at h
 simp only [vz, mq, mqm, tyf, mqt, g11, nm, seval]
 obtain ⟨K10, h, kR10, kG10, kB10, kN10⟩ := lbind_intro h kN
 obtain ⟨f10, hf10, h⟩ := call3 h
 obtain ⟨I10, hI10⟩ : ∃ I : Nat → St → Prop, I = (fun m st => ∃ (p10 : List GCoatCoat) (c10_13 : Int) (c10_o0 : List (Gcoatlaying × Bool)), m = List.length p10 ∧ 0 ≤ c10_13 ∧ List.drop (Int.toNat c10_13) x0_x.CoatSheet.Coats = p10 ∧ st.df = [] ∧ 9 ≤ st.nx ∧ st.H 0 = some (.cells (some 81) (cGcoatsums x0_x)) ∧ st.H 2 = some (.map (encM kv121 ev4 c10_o0)) ∧ st.tm 1 = .ptr 0 0 ∧ st.tm 3 = .mp 2 ∧ st.tm 12 = .lit (.int .i64 (List.length x0_x.CoatSheet.Coats : Int)) ∧ st.tm 13 = .lit (.int .i64 c10_13) ∧ K10 (f10 p10 c10_13 c10_o0)) := ⟨_, rfl⟩
 refine loopK mixed (by kernel_rfl) I10 (List.length x0_x.CoatSheet.Coats) (by rw [hI10]; refine ⟨x0_x.CoatSheet.Coats, 0, ([] : List (Gcoatlaying × Bool)), rfl, Int.le_refl _, rfl, rfl, (show 9 ≤ 9 by omega), ?_, ?_, ?_, ?_, ?_, ?_, h⟩ <;> first | (simp only [ua, encM_nil, nm, seval] <;> rfl) | rfl) ?_
 rintro m ⟨tm, H, nx10, df⟩ hinv
 rw [hI10] at hinv
 obtain ⟨p10, c10_13, c10_o0, rfl, hi10, hp10, hdf, hn10, H12, H13, e14, e15, e16, e17, h⟩ := hinv
 simp only at hdf hn10 H12 H13 e14 e15 e16 e17
 have n18 := base_ne0 (m := 9) (b := nx10) (by omega)
 subst hdf hf10
 cases p10 with
 | nil =>
  have d19 : (decide (c10_13 < (List.length x0_x.CoatSheet.Coats : Int))) = false := not_lt_of_drop hi10 hp10
  simp only [g_coat_sums_goingOn_l0, hs, reduceCtorEq] at h
  replace h := kG10 _ h
  try dsimp only at h
  try simp only [hs] at h
  try simp only [vz, mq, mqm, tyf, mqt, g11, n18, e14, e15, e16, e17, H12, H13, d19, nm, seval]
  refine opd_ret (x := (.mp 2)) (by first | (simp only [Tryz.results104, resV, resL, resV1, tgt_ptr, tgt_tp, uw, cr, tyf, mqt, g11, n18, H12, H13, d19, nm, seval] <;> rfl) | rfl) ?_
  obtain rfl := kF _ h
  refine rm_map et4 ?_
  ·simp only [uw, encM_nil, cr, tyf, mqt, g11, n18, e14, e15, e16, e17, H12, H13, d19, nm, seval] <;> rfl
 | cons e10 p10 =>
  have d20 : (decide (c10_13 < (List.length x0_x.CoatSheet.Coats : Int))) = true := lt_of_drop hi10 hp10
  have o22 := getI_of_drop hi10 hp10
  have w21 := wrap_next hi10 hp10 g11
  simp only [g_coat_sums_goingOn_l0, hs, reduceCtorEq] at h
  cases g24 : (lenOk x0_x.CoatSheet.Work)
  ·simp only [g24, hs] at h
   exact absurd h kN10
  simp only [g24, hs] at h
  simp only [vz, mq, mqm, tyf, mqt, g11, n18, e14, e15, e16, e17, H12, H13, d20, (ix24 o22), w21, g24, nm, seval]
  obtain ⟨K23, h, kR23, kG23, kB23, kN23⟩ := lbind_intro h kN10
  obtain ⟨f23, hf23, h⟩ := call3 h
  obtain ⟨I23, hI23⟩ : ∃ I : Nat → St → Prop, I = (fun m st => ∃ (p23 : List Int) (c23_27 : Int) (c23_o0 : List (Gcoatlaying × Bool)), m = List.length p23 ∧ 0 ≤ c23_27 ∧ List.drop (Int.toNat c23_27) x0_x.CoatSheet.Work = p23 ∧ st.df = [] ∧ nx10 + 16 ≤ st.nx ∧ st.H 0 = some (.cells (some 81) (cGcoatsums x0_x)) ∧ st.H 2 = some (.map (encM kv121 ev4 c23_o0)) ∧ st.tm 1 = .ptr 0 0 ∧ st.tm 3 = .mp 2 ∧ st.tm 5 = .lit (.int .i64 (IntKind.i64.wrap ((IntKind.i64.wrap ((List.length x0_x.CoatSheet.Coats : Int) - 1)) - c10_13))) ∧ st.tm 12 = .lit (.int .i64 (List.length x0_x.CoatSheet.Coats : Int)) ∧ st.tm 13 = .lit (.int .i64 c10_13) ∧ st.tm 25 = .sl (cellsL eI x0_x.CoatSheet.Work) (List.length x0_x.CoatSheet.Work) false ∧ st.tm 26 = .lit (.int .i64 (List.length x0_x.CoatSheet.Work : Int)) ∧ st.tm 27 = .lit (.int .i64 c23_27) ∧ K23 (f23 p23 c23_27 c23_o0)) := ⟨_, rfl⟩
  refine loopK mixed (by kernel_rfl) I23 (List.length x0_x.CoatSheet.Work) (by rw [hI23]; refine ⟨x0_x.CoatSheet.Work, 0, c10_o0, rfl, Int.le_refl _, rfl, rfl, (show nx10 + 16 ≤ nx10 + 16 by omega), ?_, ?_, e14, e15, ?_, e16, e17, ?_, ?_, ?_, h⟩ <;> first | (simp only [ua, encM_nil, n18, e14, e15, e16, e17, H12, H13, d20, w21, nm, seval] <;> rfl) | rfl) ?_
  rintro m ⟨tm, H, nx23, df⟩ hinv
  rw [hI23] at hinv
  obtain ⟨p23, c23_27, c23_o0, rfl, hi23, hp23, hdf, hn23, H25, H26, e27, e28, e29, e30, e31, e32, e33, e34, h⟩ := hinv
  simp only at hdf hn23 H25 H26 e27 e28 e29 e30 e31 e32 e33 e34
  have n35 := base_ne0 (m := 9) (b := nx23) (by omega)
  have n36 := base_ne (a := nx10) (m := 16) (b := nx23) (by omega)
  subst hdf hf23
  cases p23 with
  | nil =>
   have d37 : (decide (c23_27 < (List.length x0_x.CoatSheet.Work : Int))) = false := not_lt_of_drop hi23 hp23
   simp only [g_coat_sums_goingOn_l1, hs, reduceCtorEq] at h
   replace h := kG23 _ h
   try dsimp only at h
   try simp only [hs] at h
   simp only [vz, mq, mqm, tyf, mqt, g11, n18, d20, (ix24 o22), w21, g24, n35, n36, e27, e28, e29, e30, e31, e32, e33, e34, H25, H26, d37, nm, seval]
   exact ⟨List.length p10, Nat.lt_succ_self _, by rw [hI10]; refine ⟨p10, c10_13 + 1, c23_o0, rfl, Int.le_trans hi10 (Int.le_add_one (Int.le_refl _)), drop_next hi10 hp10, rfl, (show 9 ≤ nx23 + 3 by omega), ?_, ?_, e27, e28, e30, ?_, h⟩ <;> first | (simp only [ua, encM_nil, n18, d20, w21, n35, n36, e27, e28, e29, e30, e31, e32, e33, e34, H25, H26, d37, nm, seval] <;> rfl) | rfl⟩
  | cons e23 p23 =>
   have d38 : (decide (c23_27 < (List.length x0_x.CoatSheet.Work : Int))) = true := lt_of_drop hi23 hp23
   have o40 := getI_of_drop hi23 hp23
   have w39 := wrap_next hi23 hp23 g24
   simp only [g_coat_sums_goingOn_l1, hs, reduceCtorEq] at h
   rcases o42 : (g_coat_sums_goesOn x0_x c23_o0 (IntKind.i64.wrap ((IntKind.i64.wrap ((List.length x0_x.CoatSheet.Coats : Int) - 1)) - c10_13)) e23) with _ | r41
   ·simp only [o42, hs] at h
    exact absurd h kN23
   simp only [o42, hs] at h
   simp only [vz, mq, mqm, tyf, mqt, g11, n18, d20, (ix24 o22), w21, g24, n35, n36, e27, e28, e29, e30, e31, e32, e33, e34, H25, H26, d38, (ix23 o40), w39, nm, seval]
   refine kseen (args0 := [.agg (cGcoatsums x0_x), .mt (mtK kv121 c23_o0) (mtV ev4 c23_o0), .lit (.int .i64 (IntKind.i64.wrap ((IntKind.i64.wrap ((List.length x0_x.CoatSheet.Coats : Int) - 1)) - c10_13))), .lit (.int .i64 e23)]) (by simp only [List.map_cons, List.map_nil, showV_mp, showV_ref, updH_apply, without_apply, cr, tyf, mqt, nrm, tynrm, g11, n18, d20, (ix24 o22), w21, g24, n35, n36, e27, e28, e29, e30, e31, e32, e33, e34, H25, H26, d38, (ix23 o40), w39, nm, seval] <;> rfl) (by simp only [List.map_cons, List.map_nil, showV_mp, showV_ref, updH_apply, without_apply, cr, tyf, mqt, nrm, tynrm, g11, n18, d20, (ix24 o22), w21, g24, n35, n36, e27, e28, e29, e30, e31, e32, e33, e34, H25, H26, d38, (ix23 o40), w39, nm, seval]; simp only [tre, tytre, mqr, Bool.and_self]) (g_coat_sums_goesOn_ok _ _ _ _ _ o42) (by first | rfl | simp only [VV.flat, flatL, Bool.and_self]) ?_
   refine fin_cut (fun tm => tm 1 = .ptr 0 0 ∧ tm 3 = .mp 2 ∧ tm 5 = .lit (.int .i64 (IntKind.i64.wrap ((IntKind.i64.wrap ((List.length x0_x.CoatSheet.Coats : Int) - 1)) - c10_13))) ∧ tm 12 = .lit (.int .i64 (List.length x0_x.CoatSheet.Coats : Int)) ∧ tm 13 = .lit (.int .i64 c10_13) ∧ tm 25 = .sl (cellsL eI x0_x.CoatSheet.Work) (List.length x0_x.CoatSheet.Work) false ∧ tm 26 = .lit (.int .i64 (List.length x0_x.CoatSheet.Work : Int)) ∧ tm 27 = .lit (.int .i64 c23_27) ∧ tm 31 = .mp 2 ∧ tm 34 = .agg ([.lit (.int .i64 (IntKind.i64.wrap ((IntKind.i64.wrap ((List.length x0_x.CoatSheet.Coats : Int) - 1)) - c10_13)))] ++ [.lit (.int .i64 e23)]) ∧ tm 39 = .lit (.bool r41) ∧ True) (by refine ⟨e27, e28, e29, e30, e31, e32, e33, e34, ?_, ?_, ?_, trivial⟩ <;> first | (simp only [ua, encM_nil, n18, d20, w21, n35, n36, e27, e28, e29, e30, e31, e32, e33, e34, H25, H26, d38, w39, nm, seval] <;> rfl) | rfl) ?_
   rintro tm ⟨e43, e44, e45, e46, e47, e48, e49, e50, e51, e52, e53, _⟩
   have b54 := And.intro g11 (And.intro n18 (And.intro d20 (And.intro w21 (And.intro g24 (And.intro n35 (And.intro n36 (And.intro H25 (And.intro H26 (And.intro d38 w39)))))))))
   have w55 := fun H => up117 (β := 2) c23_o0 (Gcoatlaying.mk (IntKind.i64.wrap ((IntKind.i64.wrap ((List.length x0_x.CoatSheet.Coats : Int) - 1)) - c10_13)) e23) r41 H
   try simp only [encM_nil] at w55
   simp only [vz, mq, mqm, tyf, mqt, b54, (ix24 o22), (ix23 o40), e43, e44, e45, e46, e47, e48, e49, e50, e51, e52, e53, w55, nm, seval]
   exact ⟨List.length p23, Nat.lt_succ_self _, by rw [hI23]; refine ⟨p23, c23_27 + 1, (mapSet q121 c23_o0 (Gcoatlaying.mk (IntKind.i64.wrap ((IntKind.i64.wrap ((List.length x0_x.CoatSheet.Coats : Int) - 1)) - c10_13)) e23) r41), rfl, Int.le_trans hi23 (Int.le_add_one (Int.le_refl _)), drop_next hi23 hp23, rfl, (show nx10 + 16 ≤ nx23 + 16 by omega), ?_, ?_, e43, e44, e45, e46, e47, e48, e49, ?_, h⟩ <;> first | (simp only [ua, encM_nil, b54, e43, e44, e45, e46, e47, e48, e49, e50, e51, e52, e53, w55, nm, seval] <;> rfl) | rfl⟩
end Go.V
end
section
namespace Go.V
open Go Go.Proofs
def g_coat_sums_plans_1 (x0_plan : List Int) (x1_day : Int) (x2_a2 : List (Gcoatlaying × Bool)) (x3_a3 : Gcoatsums) : Option (Bool) := cond (mapGet q121 false x2_a2 (Gcoatlaying.mk (List.length x0_plan : Int) x1_day)) (cond ((List.length x0_plan : Int) == 0) (some true) (Option.bind (getI x0_plan (IntKind.i64.wrap ((List.length x0_plan : Int) - 1))) (fun x1 => Option.bind (g_coat_sums_dries x3_a3 (IntKind.i64.wrap ((List.length x0_plan : Int) - 1)) x1 x1_day) (fun r2 => some r2)))) (some false)
theorem g_coat_sums_plans_1_ok (x0_plan : List Int) (x1_day : Int) (x2_a2 : List (Gcoatlaying × Bool)) (x3_a3 : Gcoatsums) (R : Bool) (h : g_coat_sums_plans_1 x0_plan x1_day x2_a2 x3_a3 = some R) : VPure Tryz.prog G0 106 [.sl (cellsL eI x0_plan) (List.length x0_plan) false, .lit (.int .i64 x1_day), .tp ([.mt (mtK kv121 x2_a2) (mtV ev4 x2_a2)]), .tp (cGcoatsums x3_a3)] (.tree (.lit (.bool R))) := by
 refine VPure.runR mixed Tryz.call106 Tryz.func106 rfl (by simp [Tryz.ntmps106]; kernel_rfl) ?_
 obtain ⟨KF, h, kF, kN⟩ := fun_intro h
 simp only [g_coat_sums_plans_1] at h
 simp only [vz, mq, mqm, tyf, mqt, nm, seval]
 refine cwp_drwQF (fun tm => tm 0 = .sl (cellsL eI x0_plan) (List.length x0_plan) false ∧ tm 1 = .lit (.int .i64 x1_day) ∧ tm 2 = .tp ([.mt (mtK kv121 x2_a2) (mtV ev4 x2_a2)]) ∧ tm 3 = .tp (cGcoatsums x3_a3) ∧ tm 7 = .lit (.int .i64 (List.length x0_plan : Int)) ∧ True) (by refine ⟨?_, ?_, ?_, ?_, ?_, trivial⟩ <;> first | (simp only [ua, encM_nil, nm, seval] <;> rfl) | rfl) ?_
 rintro tm ⟨e3, e4, e5, e6, e7, _⟩
 cases d8 : (mapGet q121 false x2_a2 (Gcoatlaying.mk (List.length x0_plan : Int) x1_day))
 ·simp only [d8, hs] at h
  try simp only [vz, mq, mqm, tyf, mqt, e3, e4, e5, e6, e7, d8, nm, seval]
  obtain rfl := kF _ h
  exact opd_bool Tryz.results106 rfl
 simp only [d8, hs] at h
 cases d9 : ((List.length x0_plan : Int) == 0)
 ·simp only [d9, hs] at h
  rcases o11 : (getI x0_plan (IntKind.i64.wrap ((List.length x0_plan : Int) - 1))) with _ | x10
  ·simp only [o11, hs] at h
   exact absurd h kN
  simp only [o11, hs] at h
  rcases o13 : (g_coat_sums_dries x3_a3 (IntKind.i64.wrap ((List.length x0_plan : Int) - 1)) x10 x1_day) with _ | r12
  ·simp only [o13, hs] at h
   exact absurd h kN
  simp only [o13, hs] at h
  simp only [vz, mq, mqm, tyf, mqt, e3, e4, e5, e6, e7, d8, d9, (ix23 o11), nm, seval]
  refine dktree (args0 := [.agg (cGcoatsums x3_a3), .lit (.int .i64 (IntKind.i64.wrap ((List.length x0_plan : Int) - 1))), .lit (.int .i64 x10), .lit (.int .i64 x1_day)]) (by first | (simp only [nrm, tynrm, mqr] <;> rfl) | rfl) (by simp only [tre, tytre, mqr, Bool.and_self]) (g_coat_sums_dries_ok _ _ _ _ _ o13) ?_
  refine fin_cut (fun tm => tm 15 = .lit (.bool true) ∧ tm 18 = .lit (.bool false) ∧ tm 28 = .lit (.bool r12) ∧ True) (by refine ⟨?_, ?_, ?_, trivial⟩ <;> first | (simp only [ua, encM_nil, e3, e4, e5, e6, e7, d8, d9, nm, seval] <;> rfl) | rfl) ?_
  rintro tm ⟨e14, e15, e16, _⟩
  try simp only [vz, mq, mqm, tyf, mqt, d8, d9, (ix23 o11), e14, e15, e16, nm, seval]
  obtain rfl := kF _ h
  exact opd_bool Tryz.results106 rfl
 simp only [d9, hs] at h
 try simp only [vz, mq, mqm, tyf, mqt, e3, e4, e5, e6, e7, d8, d9, nm, seval]
 obtain rfl := kF _ h
 exact opd_bool Tryz.results106 rfl
end Go.V
end
section
namespace Go.V
open Go Go.Proofs
theorem lists_ok {mc : List VV} {mf : Nat} {ln lim : Int} (htm : treeL mc = true) : VPure Tryz.prog G0 105 [.lit (.int .i64 ln), .lit (.int .i64 lim), .fn (.func mf) [] mc] (.tree (.fn (.func 133) [] [.tp [.lit (.int .i64 ln)], .tp [.lit (.int .i64 lim)], .tp [.fn (.func mf) [] mc]])) := by
 refine VPure.run mixed Tryz.call105 Tryz.func105 rfl (by simp [Tryz.ntmps105]; kernel_rfl) ?_
 simp only [vz, tyf, seval, ua, rg]
 refine ⟨rfl, .fn (.func 133) [] [.ptr 0 0, .ptr 1 0, .ptr 2 0], by simp [Tryz.results105, resV, resL, resV1, upd], 20, ?_⟩
 simp [sealV, sealL, VV.tree, treeL, updH, htm]
def mayC (x : Gcoatsums) (k : List (Gcoatlaying × Bool)) : List VV := [.tp [.mt (mtK kv121 k) (mtV ev4 k)], .tp (cGcoatsums x)]
def itP (x : Gcoatsums) (k : List (Gcoatlaying × Bool)) : VV := .fn (.func 133) [] [.tp [.lit (.int .i64 (List.length x.CoatSheet.Coats))], .tp [.lit (.int .i64 (List.length x.CoatSheet.Dry))], .tp [.fn (.func 106) [] (mayC x k)]]
theorem mayC_tree {x : Gcoatsums} {k : List (Gcoatlaying × Bool)} : treeL (mayC x k) = true := by
 have h : treeL (mtV ev4 k) = true := mt_tree et4 k
 have h2 : treeL (cGcoatsums x) = true := cGcoatsums_ok.tree x
 simp [mayC, treeL, VV.tree, h, h2]
theorem plans_ok (x : Gcoatsums) (k : List (Gcoatlaying × Bool)) (hk : g_coat_sums_goingOn x = some k) : VPure Tryz.prog G0 60 [.agg (cGcoatsums x)] (.tree (itP x k)) := by
 refine VPure.run mixed Tryz.call60 Tryz.func60 rfl (by simp [Tryz.ntmps60]; kernel_rfl) ?_
 simp only [vz, mq, mqm, tyf, mqt, seval, ua]
 refine ktree (args0 := [.agg (cGcoatsums x)]) (by first | (simp only [nrm, tynrm] <;> rfl) | rfl) (by simp only [tre, tytre, Bool.and_self]) (g_coat_sums_goingOn_ok _ _ hk) ?_
 simp only [vz, mq, mqm, tyf, mqt, seval, ua, rg]
 refine kopen ?_
 rw [openK_eq]
 have h0 : treeL (mtV ev4 k) = true := mt_tree et4 k
 have ht1 : treeL [VV.mt (mtK kv121 k) (mtV ev4 k)] = true := by simp [treeL, VV.tree, h0]
 have ht2 : treeL (cGcoatsums x) = true := cGcoatsums_ok.tree x
 refine VOpen.mono (VOpen.freezeN [4, 0] ?_ (args' := [.lit (.int .i64 (List.length x.CoatSheet.Coats)), .lit (.int .i64 (List.length x.CoatSheet.Dry)), .fn (.func 106) [] (mayC x k)]) ⟨.same, .same, Frozen.closure [(4, [.mt (mtK kv121 k) (mtV ev4 k)]), (0, cGcoatsums x)] 20 (by simp) ?_, trivial⟩ (VOpen.of_pure (lists_ok mayC_tree) (by have h9 : treeL (mayC x k) = true := mayC_tree; simp [treeL, VV.tree, h9]))) ?_ (fun _ _ _ h => h.elim)
 ·intro γ hγ
  rcases List.mem_cons.1 hγ with rfl | hγ
  ·exact ⟨some 117, [.mt (mtK kv121 k) (mtV ev4 k)], by simp [updH]⟩
  rw [List.mem_singleton.1 hγ]
  exact ⟨some 81, cGcoatsums x, by simp [updH, cGcoatsums]⟩
 ·intro p hp
  rcases List.mem_cons.1 hp with rfl | hp
  ·exact ⟨⟨some 117, by simp [updH]⟩, by simp [lessN], ht1, by simp⟩
  rw [List.mem_singleton.1 hp]
  exact ⟨⟨some 81, by simp [updH, cGcoatsums]⟩, by simp [lessN], ht2, by simp [cGcoatsums]⟩
 rintro v H2 nx2 ⟨rfl, rfl, rfl⟩
 simp only [vz, tyf, seval, ua]
 refine ⟨rfl, itP x k, by simp [Tryz.results60, resV, resL, resV1, upd]; rfl, 2, ?_⟩
 have h9 : treeL (mayC x k) = true := mayC_tree
 simp [sealV, itP, VV.tree, treeL, h9]
def smallOk (n m : Nat) : Bool := decide (0 < n) && (decide (n < 1000) && decide (m < 1000000))
def it_coat_plans (x : Gcoatsums) : Option (List (List Int)) := Option.bind (g_coat_sums_goingOn x) fun k => cond (smallOk (List.length x.CoatSheet.Coats) (List.length x.CoatSheet.Dry)) (listsO (fun p j => g_coat_sums_plans_1 p j k x) (List.length x.CoatSheet.Dry) (List.length x.CoatSheet.Coats) []) none
theorem it_coat_plans_ok (x : Gcoatsums) (R : List (List Int)) (h : it_coat_plans x = some R) : ∃ itv : VV, itv.tree = true ∧ VPure Tryz.prog G0 60 [.agg (cGcoatsums x)] (.tree itv) ∧ Iter Tryz.prog G0 itv (R.map sI) := by
 unfold it_coat_plans at h
 rcases hk : g_coat_sums_goingOn x with _ | k
 ·rw [hk] at h; cases h
 rw [hk, Option.bind_some] at h
 cases hs : smallOk (List.length x.CoatSheet.Coats) (List.length x.CoatSheet.Dry) with
 | false => rw [hs] at h; cases h
 | true =>
 rw [hs, cond_true] at h
 simp only [smallOk, Bool.and_eq_true, decide_eq_true_eq] at hs
 have h9 : treeL (mayC x k) = true := mayC_tree
 refine ⟨itP x k, by simp [itP, VV.tree, treeL, h9], plans_ok x k hk, ?_⟩
 exact lists_iter mayC_tree hs.1 hs.2.1 hs.2.2 h (fun p j b hb => g_coat_sums_plans_1_ok p j k x b hb)
end Go.V
end
section
namespace Go.V
open Go Go.Proofs
def headE (L : List (List Int)) : List Int × Int := match L with
 | [] => ([], 5)
 | l :: _ => (l, 0)
def g_coat_First (s : GCoatSheet) : Option (List Int × Int) := Option.bind (g_coat_isSheet s) fun b => cond b (Option.bind (g_coat_summed s) fun x => Option.bind (it_coat_plans x) fun L => some (headE L)) (some ([], 2))
end Go.V
end
section
namespace Go.V
open Go Go.Proofs
set_option linter.unusedSimpArgs false
set_option linter.unusedVariables false
set_option maxRecDepth 4000
set_option maxHeartbeats 4000000
def g_coat_Count (s : GCoatSheet) : Option (Int × Int) := Option.bind (g_coat_isSheet s) fun b => cond b (Option.bind (g_coat_summed s) fun x => Option.bind (it_coat_plans x) fun L => cond (lenOk L) (some ((List.length L : Int), 0)) none) (some (0, 2))
theorem g_coat_Count_ok (s : GCoatSheet) (R : Int × Int) (h : g_coat_Count s = some R) : VPure Tryz.prog G0 18 [.agg (cGCoatSheet s)] (.tree (.tup [.lit (.int .i64 R.1), .lit (.int .i64 R.2)])) := by
 refine VPure.runR mixed Tryz.call18 Tryz.func18 rfl (by simp [Tryz.ntmps18]; kernel_rfl) ?_
 unfold g_coat_Count at h
 rcases o0 : g_coat_isSheet s with _ | b
 ·rw [o0] at h; cases h
 rw [o0, Option.bind_some] at h
 simp only [vz, tyf, seval, ua, rg]
 refine ktree (args0 := [.agg (cGCoatSheet s)]) (by first | (simp only [nrm, tynrm] <;> rfl) | rfl) (by simp only [tre, tytre, Bool.and_self]) (g_coat_isSheet_ok _ _ o0) ?_
 cases b with
 | false =>
  simp only [cond_false, Option.some.injEq] at h
  subst h
  simp only [vz, tyf, seval, ua, rg, Bool.not_false]
  refine opd_ret (x := .tup [.lit (.int .i64 0), .lit (.int .i64 2)]) (by simp only [Tryz.results18, resV, resL, resV1, tgt_ptr, tgt_tp, uw, cr, tyf, nm, seval] <;> rfl) ?_
  refine rr_tree (by simp only [tre, tytre]; rfl) ?_
  simp only [outV, nrm, seval, List.map_cons, List.map_nil, cellsL_nil, List.length_nil]
 | true =>
 rw [cond_true] at h
 simp only [vz, tyf, seval, ua, rg, Bool.not_true]
 rcases o1 : g_coat_summed s with _ | x
 ·rw [o1] at h; cases h
 rw [o1, Option.bind_some] at h
 rcases o2 : it_coat_plans x with _ | L
 ·rw [o2] at h; cases h
 rw [o2, Option.bind_some] at h
 obtain ⟨itv, ht, hp, hi⟩ := it_coat_plans_ok x L o2
 refine ktree (args0 := [.agg (cGCoatSheet s)]) (by first | (simp only [nrm, tynrm] <;> rfl) | rfl) (by simp only [tre, tytre, Bool.and_self]) (g_coat_summed_ok _ _ o1) ?_
 simp only [vz, tyf, seval, ua, rg]
 refine ktree (args0 := [.agg (cGcoatsums x)]) (by first | (simp only [nrm, tynrm] <;> rfl) | rfl) (by simp only [tre, tytre, Bool.and_self]) hp ?_
 cases hln : lenOk L with
 | false => rw [hln] at h; cases h
 | true =>
 rw [hln, cond_true] at h
 have hlt : L.length < 9223372036854775808 := by simpa [lenOk] using hln
 refine fin_cut (fun tm => tm 4 = .ptr 6 0 ∧ tm 10 = itv) (by refine ⟨?_, ?_⟩ <;> simp only [ua, seval]) ?_
 rintro tm ⟨e4, e10⟩
 simp only [vz, tyf, seval, ua, rg]
 refine range_iter hi (by first | (simp only [ev_tmp, ev_func, e10, upd_apply, seval] <;> rfl) | rfl) ?_
 intro LO hLO
 simp only [Option.some.injEq] at h
 obtain ⟨J, hJ⟩ : ∃ J : Option (List VV) → List (Nat × VObj) → Prop, J = (fun o hp => match o with
  | some l => ∃ c : Nat, c + l.length = L.length ∧ hp = [(11, .deferred (some [])), (12, LO), (6, .cells (some 3) [.lit (.int .i64 c)])]
  | none => False) := ⟨_, rfl⟩
 refine ⟨ownI J, ownI_stable, ?_, ?_, ?_⟩
 ·rintro v rest Fr H nx hFr ⟨hp, hown, hj⟩
  rw [hJ] at hj
  obtain ⟨c, hc, rfl⟩ := hj
  simp only [List.length_cons] at hc
  obtain ⟨l11, n11, H11⟩ := hown.head
  obtain ⟨l12, n12, H12⟩ := hown.tail.head
  obtain ⟨l6, n6, H6⟩ := hown.tail.tail.head
  refine yields_open mixed (psl := [11]) hLO H12 tmL_length rfl (by kernel_rfl) (by kernel_rfl) ?_
  intro LB LD hLB hLD
  refine cwp_tmcut (fun tm => tm 4 = .ptr 6 0) (by simp only [round_tm, round_tm0, Tryz.ntmps18, e4, seval]) ?_
  clear e4 e10
  rintro tm e4
  have hw : IntKind.i64.wrap ((c : Int) + 1) = ((c + 1 : Nat) : Int) := by rw [IntWalk.i64_in _ (by omega)]; simp
  simp only [vz, tyf, seval, ua, rg, RStart, e4, H12, H6, hw]
  refine ⟨by simp only [updH_apply, seval], (show nx ≤ nx + 3 by omega), fun γ hγ => ?_, ?_⟩
  ·have g12 : γ ≠ 12 := fun e => n12 (e ▸ hγ)
   have g6 : γ ≠ 6 := fun e => n6 (e ▸ hγ)
   simp only [updH]
   repeat rw [if_neg (by first | assumption | omega)]
  ·simp only [if_true]
   refine ⟨[(11, .deferred (some [])), (12, LO), (6, .cells (some 3) [.lit (.int .i64 ((c + 1 : Nat) : Int))])], Own.cons (show 11 < nx + 3 by omega) n11 ?_ (Own.cons (show 12 < nx + 3 by omega) n12 ?_ (Own.cons (show 6 < nx + 3 by omega) n6 ?_ Own.nil)), ?_⟩
   rotate_left 3
   ·rw [hJ]
    exact ⟨c + 1, by omega, rfl⟩
   all_goals simp only [updH_apply, seval, H11]
 ·refine ⟨[(11, .deferred (some [])), (12, LO), (6, .cells (some 3) [.lit (.int .i64 ((0 : Nat) : Int))])], Own.cons (show 11 < 13 by omega) (fun h => h) ?_ (Own.cons (show 12 < 13 by omega) (fun h => h) ?_ (Own.cons (show 6 < 13 by omega) (fun h => h) ?_ Own.nil)), ?_⟩
  rotate_left 3
  ·rw [hJ]
   exact ⟨0, by simp, rfl⟩
  ·simp only [updH_apply, seval]
  ·simp only [updH_apply, seval]
  ·simp only [updH_apply, seval] <;> rfl
 ·rintro H' nx' (⟨hp, hown, hj⟩ | ⟨hp, hown, hj⟩)
  ·rw [hJ] at hj
   obtain ⟨c, hc, rfl⟩ := hj
   simp only [List.length_nil, Nat.add_zero] at hc
   subst hc
   subst h
   obtain ⟨l11, n11, H11⟩ := hown.head
   obtain ⟨l12, n12, H12⟩ := hown.tail.head
   obtain ⟨l6, n6, H6⟩ := hown.tail.tail.head
   refine rangeEnd_go hLO H12 ?_
   intro LX
   simp only [vz, tyf, seval, ua, rg, e4, H6]
   refine opd_coll (by simp only [updH_apply, seval, H11]) ?_
   refine opd_ret (x := .tup [.lit (.int .i64 (L.length : Int)), .lit (.int .i64 0)]) (by simp only [Tryz.results18, resV, resL, resV1, tgt_ptr, tgt_tp, uw, cr, tyf, nm, seval] <;> rfl) ?_
   refine rr_tree (by simp only [tre, tytre, Bool.and_self]) ?_
   simp only [outV, nrm, seval, List.map_cons, List.map_nil]
  ·rw [hJ] at hj
   exact hj.elim
end Go.V
end
section
namespace Go.V
open Go Go.Proofs
set_option linter.unusedSimpArgs false
set_option linter.unusedVariables false
set_option maxRecDepth 4000
set_option maxHeartbeats 4000000
end Go.V
end
