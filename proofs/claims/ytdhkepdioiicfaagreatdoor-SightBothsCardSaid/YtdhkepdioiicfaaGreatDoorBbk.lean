/- Part of a proof: a logic of values by content, lifted functions, what follows. -/
import Derived.Test.YtdhkepdioiicfaaGreatDoorBbj
import Derived.Test.YtdhkepdioiicfaaGreatDoorBbb
import Derived.Test.YtdhkepdioiicfaaGreatDoorBbc
set_option linter.all false
set_option maxRecDepth 4000
set_option maxHeartbeats 4000000
section
set_option linter.unusedVariables false
set_option linter.unusedSimpArgs false
set_option linter.defProp false
namespace Go.V
open Go
section
variable {P : Program} {G : Glob} {n : Nat} {Q : VExit → St → Prop} {tm : Nat → VV} {H : Nat → Option VObj} {nx : Nat} {df : List VDef} {g : Operand} {ps : Array Tmp} {az bo : Code} {f : FuncId} {first captured : List VV}
theorem range_open (hg : ev (G.at (some none)) tm g = .fn (.func f) first captured)
  (h : ∀ LO, LO = VObj.loop .ready none (tmL n tm) ps az bo nx → VOpen P (G.at (some none)) f (first ++ [.yl (nx + 1)] ++ captured) (updH (updH H nx (.deferred (some []))) (nx + 1) LO) (nx + 2)
   (fun _ H' nx' => RangeEnd P (G.at (some none)) n Q ⟨tm, H, nx, df⟩ H' nx') (fun x H' nx' => Q (.panic x) ⟨tm, H', nx', .coll nx :: df⟩)) : CWp P (G.at (some none)) n (.rangeFunc g ps az bo) Q ⟨tm, H, nx, df⟩ := by
 unfold CWp
 refine ⟨rfl, ?_⟩
 rw [show St.ρ (G.at (some none)) ⟨tm, H, nx, df⟩ g = ev (G.at (some none)) tm g from ev_eq .. ▸ rfl, hg]
 exact h _ rfl
theorem rangeEnd_go {H' : Nat → Option VObj} {nx' : Nat} {LO : VObj} {tml : List VV} {d : Nat} (hL : LO = VObj.loop .ready none tml ps az bo d) (h : H' (nx + 1) = some LO) (hq : ∀ LX, Q .normal ⟨tm, updH H' (nx + 1) LX, nx', .coll nx :: df⟩) : RangeEnd P G n Q ⟨tm, H, nx, df⟩ H' nx' :=
 ⟨.ready, none, tml, ps, az, bo, d, by rw [h, hL], by simp, hq _⟩
theorem rangeEnd_ret {H' : Nat → Option VObj} {nx' : Nat} {LD : Code → VObj} {tml : List VV} {d : Nat} (hL : LD = fun c => VObj.loop .done (some c) tml ps az bo d) (h : H' (nx + 1) = some (LD .ret)) (hq : ∀ LX, Q .ret ⟨tm, updH H' (nx + 1) LX, nx', .coll nx :: df⟩) : RangeEnd P G n Q ⟨tm, H, nx, df⟩ H' nx' :=
 ⟨.done, some .ret, tml, ps, az, bo, d, by rw [h, hL], by simp, VWp.ret (hq _)⟩
def RndEnd (β : Nat) (LB LO : VObj) (LD : Code → VObj) (o : Oper) (st : St) (K : St → Prop) : VExit → St → Prop
 | .normal, s2 => s2.H β = some LB ∧ K { st.put o.dst (.lit (.bool true)) with H := updH s2.H β LO, nx := s2.nx }
 | .ret, s2 => s2.H β = some LB ∧ K { st.put o.dst (.lit (.bool false)) with H := updH s2.H β (LD .ret), nx := s2.nx }
 | .exit id, s2 => s2.H β = some LB ∧ K { st.put o.dst (.lit (.bool false)) with H := updH s2.H β (LD (.exit id)), nx := s2.nx }
 | _, _ => False
def RndAs (P : Program) (G : Glob) (n β : Nat) (LB LO : VObj) (LD : Code → VObj) (bo : Code) (o : Oper) (st : St) (K : St → Prop) : VExit → St → Prop
 | .normal, s1 => s1.H β = some LO ∧ CWp P (G.at (some (some β))) n bo (RndEnd β LB LO LD o st K) { s1 with H := updH s1.H β LB }
 | _, _ => False
theorem yield_open (hm : P.follows .mixedOrders = true) {o : Oper} {β : Nat} {args : List VV} {st : St} {K : St → Prop} {LO : VObj} {tml : List VV} {d : Nat} {psl : List Tmp} (hL : LO = VObj.loop .ready none tml ⟨psl⟩ az bo d) (hβ : st.H β = some LO) (hn : tml.length = n) (ha : args.length = psl.length)
  (h1 : codeOk n az = true) (h2 : codeOk n bo = true)
  (h : ∀ LB LD, LB = VObj.loop .busy none tml ⟨psl⟩ az bo d → LD = (fun c => VObj.loop .done (some c) tml ⟨psl⟩ az bo d) →
   CWp P (G.at (some (some β))) n az (RndAs P G n β LB LO LD bo o st K) ⟨argsTm (roundTm tml psl args), st.H, st.nx, []⟩) : yieldK P G o β args st K := by
 unfold yieldK
 rw [hβ, hL]
 subst hn
 refine ⟨ha, (CWp_sound hm az _ _ h1 (h _ _ rfl rfl)).mono ?_⟩
 intro e s1 hs
 cases e with
 | normal =>
  obtain ⟨q1, q2⟩ := hs
  refine ⟨none, tml, ⟨psl⟩, az, bo, d, by rw [q1, hL], (CWp_sound hm bo _ _ h2 q2).mono ?_⟩
  intro e s2 hs2
  cases e with
  | normal =>
   obtain ⟨r1, r2⟩ := hs2
   refine ⟨_, _, _, _, _, _, _, r1, ?_⟩
   rw [hL] at r2
   exact r2
  | ret =>
   obtain ⟨r1, r2⟩ := hs2
   exact ⟨_, _, _, _, _, _, _, r1, r2⟩
  | exit id =>
   obtain ⟨r1, r2⟩ := hs2
   exact ⟨_, _, _, _, _, _, _, r1, r2⟩
  | goto l => exact hs2.elim
  | panic x => exact hs2.elim
 | _ => exact hs.elim
theorem rnd_normal {β : Nat} {LB LO : VObj} {LD : Code → VObj} {d : Option Tmp} {op : Op} {ty : TypeId} {pos : String} {af : Array Edge} {gd : Option (Nat × Bool)} {K : St → Prop} {tm2 : Nat → VV} {H2 : Nat → Option VObj} {nx2 : Nat} {df2 : List VDef} (h : H2 β = some LB) :
  RndEnd β LB LO LD ⟨d, op, ty, pos, af, gd⟩ ⟨tm, H, nx, df⟩ K .normal ⟨tm2, H2, nx2, df2⟩ = K ⟨(match d with | some d => upd tm d (.lit (.bool true)) | none => tm), updH H2 β LO, nx2, df⟩ := by
 show (_ ∧ _) = _
 rw [eq_true h, true_and]
 cases d <;> rfl
theorem rnd_ret {β : Nat} {LB LO : VObj} {LD : Code → VObj} {d : Option Tmp} {op : Op} {ty : TypeId} {pos : String} {af : Array Edge} {gd : Option (Nat × Bool)} {K : St → Prop} {tm2 : Nat → VV} {H2 : Nat → Option VObj} {nx2 : Nat} {df2 : List VDef} (h : H2 β = some LB) :
  RndEnd β LB LO LD ⟨d, op, ty, pos, af, gd⟩ ⟨tm, H, nx, df⟩ K .ret ⟨tm2, H2, nx2, df2⟩ = K ⟨(match d with | some d => upd tm d (.lit (.bool false)) | none => tm), updH H2 β (LD .ret), nx2, df⟩ := by
 show (_ ∧ _) = _
 rw [eq_true h, true_and]
 cases d <;> rfl
theorem rndAs_normal {β : Nat} {LB LO : VObj} {LD : Code → VObj} {o : Oper} {st : St} {K : St → Prop} {tm2 : Nat → VV} {H2 : Nat → Option VObj} {nx2 : Nat} {df2 : List VDef} (h : H2 β = some LO) :
  RndAs P G n β LB LO LD bo o st K .normal ⟨tm2, H2, nx2, df2⟩ = CWp P (G.at (some (some β))) n bo (RndEnd β LB LO LD o st K) ⟨tm2, updH H2 β LB, nx2, df2⟩ := by
 show (_ ∧ _) = _
 rw [eq_true h, true_and]
theorem round_tm {m t p : Nat} {x : VV} (h : t < m) : argsTm (roundTm (tmL m tm) [p] [x]) t = if t = p then x else tm t := by
 unfold argsTm roundTm tmL
 simp only [List.zip_cons_cons, List.zip_nil_right, List.foldl_cons, List.foldl_nil]
 by_cases hp : t = p
 ·subst hp
  rw [if_pos rfl]
  simp [h]
 ·rw [if_neg hp]
  simp [List.getElem?_set, h, Ne.symm hp]
theorem round_tm0 {m t : Nat} (h : t < m) : argsTm (roundTm (tmL m tm) [] []) t = tm t := by
 unfold argsTm roundTm tmL
 simp [h]
theorem tmL_length {m : Nat} : (tmL m tm).length = m := by simp [tmL]
theorem cwp_tmcut {code : Code} (F : (Nat → VV) → Prop) (hF : F tm) (h : ∀ tm, F tm → CWp P G n code Q ⟨tm, H, nx, df⟩) : CWp P G n code Q ⟨tm, H, nx, df⟩ := h tm hF
theorem vcells_yl {β : Nat} : vcells (.yl β) = some [.yl β] := rfl
theorem leaf_yl {β : Nat} : (VV.yl β).leaf = true := rfl
theorem VPure.at {x : Option (Option Nat)} {args : List VV} {r : PRes} (h : VPure P G f args r) : VPure P (G.at x) f args r := h
def rg := And.intro @vcells_yl (And.intro @leaf_yl @cvalK_yl)
theorem opd_coll {fn : Func} {R Rp : VV → (Nat → Option VObj) → Nat → Prop} {β : Nat} (h : H β = some (.deferred (some []))) (h2 : OpenPostD P G fn R Rp .ret ⟨tm, updH H β (.deferred none), nx, df⟩) : OpenPostD P G fn R Rp .ret ⟨tm, H, nx, .coll β :: df⟩ := ⟨h, h2⟩
theorem opd_collN {fn : Func} {R Rp : VV → (Nat → Option VObj) → Nat → Prop} {β : Nat} (h : H β = some (.deferred (some []))) (h2 : OpenPostD P G fn R Rp .normal ⟨tm, updH H β (.deferred none), nx, df⟩) : OpenPostD P G fn R Rp .normal ⟨tm, H, nx, .coll β :: df⟩ := ⟨h, h2⟩
end
end Go.V
end
section
set_option linter.unusedVariables false
set_option linter.unusedSimpArgs false
set_option linter.defProp false
namespace Go.V
open Go
def kIdx {K : Type} (q : K → K → Bool) (k : K) : List K → Nat → Option Nat
 | [], _ => none
 | e :: es, i => cond (q k e) (some i) (kIdx q k es (i + 1))
theorem kIdx_some {K : Type} {q : K → K → Bool} {k : K} : ∀ (es : List K) (i j : Nat), kIdx q k es i = some j → i ≤ j ∧ ∃ e, es[j - i]? = some e ∧ q k e = true
 | [], _, _, h => by cases h
 | e :: es, i, j, h => by
  unfold kIdx at h
  cases hq : q k e with
  | true =>
   rw [hq] at h
   simp only [cond_true, Option.some.injEq] at h
   subst h
   exact ⟨Nat.le_refl _, e, by simp, hq⟩
  | false =>
   rw [hq] at h
   simp only [cond_false] at h
   obtain ⟨h1, x, h2, h3⟩ := kIdx_some es (i + 1) j h
   refine ⟨by omega, x, ?_, h3⟩
   rw [show j - i = (j - (i + 1)) + 1 by omega]
   simpa using h2
def mapGet {K V : Type} (q : K → K → Bool) (z : V) (l : List (K × V)) (k : K) : V := match kIdx q k (l.map (·.1)) 0 with
 | some i => match l[i]? with | some p => p.2 | none => z
 | none => z
def mapSet {K V : Type} (q : K → K → Bool) (l : List (K × V)) (k : K) (v : V) : List (K × V) := match kIdx q k (l.map (·.1)) 0 with
 | some i => l.set i (k, v)
 | none => l ++ [(k, v)]
def encM {K V : Type} (kv : K → Value) (ev : V → VV) (l : List (K × V)) : List (Value × VV) := l.map fun p => (kv p.1, ev p.2)
section
variable {P : Program} {K V : Type} {q : K → K → Bool} {kv : K → Value} {ev : V → VV} {t kt et : TypeId} {H : Nat → Option VObj} {β : Nat}
theorem evalP_ask (he : ∀ a b, evalP P (Op.equal kt (kv a) (kv b)) = some (q a b)) (k : K) : ∀ (ks : List K) (i : Nat), evalP P (Instr.findAsking kt (kv k) ((ks.map kv).map dummy) i) = some ((kIdx q k ks i).map fun j => (j, Value.bool false))
 | [], i => rfl
 | e :: es, i => by
  simp only [List.map_cons, Instr.findAsking, kIdx]
  rw [evalP_bind]
  have h0 : evalP P (Op.equal kt (kv k) (dummy (kv e)).key) = some (q k e) := he k e
  rw [h0, Option.bind_some]
  cases q k e with
  | true => rfl
  | false => exact evalP_ask he k es (i + 1)
theorem kfind_S {fs : Array Field} (hu : P.underlying kt = some (.struct fs)) (he : ∀ a b, evalP P (Op.equal kt (kv a) (kv b)) = some (q a b)) (k : K) (ks : List K) : kfind P kt (kv k) (ks.map kv) = some (kIdx q k ks 0) := by
 unfold kfind Instr.findKey
 rw [evalP_bind, evalP_und hu, Option.bind_some]
 have ha := evalP_ask he k ks 0
 cases ks with
 | nil => rfl
 | cons e es =>
  have hn : Instr.findNow (.struct fs) (kv k) (((e :: es).map kv).map dummy) 0 = none := by
   simp only [List.map_cons, Instr.findNow]
   have : Instr.sameNow (.struct fs) (kv k) (dummy (kv e)).key = none := by cases kv k <;> rfl
   rw [this]
  rw [hn]
  simp only []
  rw [ha]
  cases kIdx q k (e :: es) 0 <;> rfl
theorem encM_keys {l : List (K × V)} : (encM kv ev l).map (·.1) = (l.map (·.1)).map kv := by simp [encM, Function.comp_def]
theorem lookup_own {fs : Array Field} {z : V} (hm : P.underlying t = some (.map kt et)) (hu : P.underlying kt = some (.struct fs)) (he : ∀ a b, evalP P (Op.equal kt (kv a) (kv b)) = some (q a b)) (hc : ∀ b k, evalP P (Instr.checkKey b 10000 kt (kv k)) = some ())
  (hz : ((P.info? et).bind (·.zero)).map ofVal2 = some (ev z)) {l : List (K × V)} {kx : VV} {k : K} (hk : kx.val? = some (kv k)) (hb : H β = some (.map (encM kv ev l))) :
  vlookup P H t (.mp β) kx false = some (ev (mapGet q z l k)) := by
 unfold vlookup
 rw [hm, hk]
 simp only [mapOf, hb]
 rw [hc, encM_keys, kfind_S hu he]
 cases hzz : (P.info? et).bind (·.zero) with
 | none => rw [hzz] at hz; cases hz
 | some z0 =>
  rw [hzz] at hz
  simp only [Option.map_some, Option.some.injEq] at hz
  unfold mapGet
  cases hi : kIdx q k (l.map (·.1)) 0 with
  | none => simp only [Bool.false_eq_true, if_false]; exact congrArg some hz
  | some i =>
   obtain ⟨_, e, h1, _⟩ := kIdx_some _ _ _ hi
   rw [Nat.sub_zero, List.getElem?_map] at h1
   cases hl : l[i]? with
   | none => rw [hl] at h1; cases h1
   | some p =>
    have : (encM kv ev l)[i]? = some (kv p.1, ev p.2) := by unfold encM; rw [List.getElem?_map, hl]; rfl
    simp only [this, hl, Bool.false_eq_true, if_false]
theorem update_own {fs : Array Field} (hm : P.underlying t = some (.map kt et)) (hu : P.underlying kt = some (.struct fs)) (he : ∀ a b, evalP P (Op.equal kt (kv a) (kv b)) = some (q a b)) (hc : ∀ b k, evalP P (Instr.checkKey b 10000 kt (kv k)) = some ())
  (hq : ∀ a b, q a b = true → a = b) (hs : ∀ a, Instr.sameBits 10000 (kv a) (kv a) = true) {l : List (K × V)} {kx : VV} {k : K} {v : V} (hk : kx.val? = some (kv k)) (hb : H β = some (.map (encM kv ev l))) :
  vmapUpdate P H t (.mp β) kx (ev v) = some (.upd β (.map (encM kv ev (mapSet q l k v)))) := by
 unfold vmapUpdate
 rw [hm, hk]
 simp only [hb]
 rw [hc, encM_keys, kfind_S hu he]
 unfold mapSet
 cases hi : kIdx q k (l.map (·.1)) 0 with
 | none => simp only [encM, List.map_append, List.map_cons, List.map_nil]
 | some i =>
  obtain ⟨_, e, h1, h2⟩ := kIdx_some _ _ _ hi
  rw [Nat.sub_zero, List.getElem?_map] at h1
  cases hl : l[i]? with
  | none => rw [hl] at h1; cases h1
  | some p =>
   have h3 : (encM kv ev l)[i]? = some (kv p.1, ev p.2) := by unfold encM; rw [List.getElem?_map, hl]; rfl
   rw [hl] at h1
   simp only [Option.map_some, Option.some.injEq] at h1
   have h4 := hq _ _ h2
   subst h4
   subst h1
   simp only [h3, hs, if_true]
   simp only [encM, List.map_set]
end
section
variable {P : Program} {G : Glob} {γ : Nat} {tm : Nat → VV} {H : Nat → Option VObj} {nx : Nat} {df : List VDef} {K : St → Prop} {Kd : List Nat → List Nat → St → Prop} {Qp : VV → St → Prop}
 {d : Option Tmp} {ty : TypeId} {pos : String} {af : Array Edge} {g : Option (Nat × Bool)}
theorem body_makeMap {t : TypeId} : bodyK P G γ ⟨d, .makeMap t none, ty, pos, af, g⟩ ⟨tm, H, nx, df⟩ K Qp = fin d γ tm H nx df K (.mp γ) (.new (.map [])) := by
 rw [body_op (by simp) (by simp) (by simp)]; rfl
theorem body_lookup {t : TypeId} {x k : Operand} {ok : Bool} : bodyK P G γ ⟨d, .lookup t x k ok, ty, pos, af, g⟩ ⟨tm, H, nx, df⟩ K Qp = oK (vlookup P H t (ev G tm x) (ev G tm k) ok) (fun y => fin d γ tm H nx df K y .none) := by
 rw [body_op (by simp) (by simp) (by simp)]; simp only [vop]; exact oK_map
theorem dbody_makeMap {t : TypeId} : dbodyK P G γ ⟨d, .makeMap t none, ty, pos, af, g⟩ ⟨tm, H, nx, df⟩ Kd = fin d γ tm H nx df (Kd (rdV ⟨d, .makeMap t none, ty, pos, af, g⟩ (ev G tm)) [γ]) (.mp γ) (.new (.map [])) := by
 rw [dbody_op (by simp)]; rfl
theorem dbody_lookup {t : TypeId} {x k : Operand} {ok : Bool} : dbodyK P G γ ⟨d, .lookup t x k ok, ty, pos, af, g⟩ ⟨tm, H, nx, df⟩ Kd = oK (vlookup P H t (ev G tm x) (ev G tm k) ok) (fun y => fin d γ tm H nx df (Kd (rdV ⟨d, .lookup t x k ok, ty, pos, af, g⟩ (ev G tm)) []) y .none) := by
 rw [dbody_op (by simp)]; simp only [vop]
 cases vlookup P H t (ev G tm x) (ev G tm k) ok <;> rfl
def umK (o : Option VEff) (k : VEff → Prop) : Prop := match o with | some e => k e | none => False
theorem umK_some {e : VEff} {k : VEff → Prop} : umK (some e) k = k e := rfl
theorem body_mapUpdate {t : TypeId} {m k x : Operand} : bodyK P G γ ⟨d, .mapUpdate t m k x, ty, pos, af, g⟩ ⟨tm, H, nx, df⟩ K Qp = umK (vmapUpdate P H t (ev G tm m) (ev G tm k) (ev G tm x)) (fun e => fin d γ tm H nx df K .any e) := by
 rw [body_op (by simp) (by simp) (by simp)]; simp only [vop]
 cases vmapUpdate P H t (ev G tm m) (ev G tm k) (ev G tm x) <;> rfl
theorem dbody_mapUpdate {t : TypeId} {m k x : Operand} : dbodyK P G γ ⟨d, .mapUpdate t m k x, ty, pos, af, g⟩ ⟨tm, H, nx, df⟩ Kd = umK (vmapUpdate P H t (ev G tm m) (ev G tm k) (ev G tm x)) (fun e => fin d γ tm H nx df (Kd (rdV ⟨d, .mapUpdate t m k x, ty, pos, af, g⟩ (ev G tm)) (e.wr γ)) .any e) := by
 rw [dbody_op (by simp)]; simp only [vop]
 cases vmapUpdate P H t (ev G tm m) (ev G tm k) (ev G tm x) <;> rfl
theorem vcells_mp {β : Nat} : vcells (.mp β) = some [.mp β] := rfl
theorem leaf_mp {β : Nat} : (VV.mp β).leaf = true := rfl
theorem rd_makeMap {t : TypeId} : rdV ⟨d, .makeMap t none, ty, pos, af, g⟩ (ev G tm) = rdL (ev G tm) [] := rdL_eq []
theorem rd_lookup {t : TypeId} {x k : Operand} {ok : Bool} : rdV ⟨d, .lookup t x k ok, ty, pos, af, g⟩ (ev G tm) = rdL (ev G tm) [x, k] := rdL_eq [x, k]
theorem rd_mapUpdate {t : TypeId} {m k x : Operand} : rdV ⟨d, .mapUpdate t m k x, ty, pos, af, g⟩ (ev G tm) = rdL (ev G tm) [m, k, x] := rdL_eq [m, k, x]
theorem tnL_mp {β : Nat} {l : List Nat} : tnL (.mp β) l = β :: l := rfl
theorem ev_nilmap : ev G tm (.const (.map none)) = .lit (.map none) := rfl
theorem encM_nil {K V : Type} {kv : K → Value} {ew : V → VV} : encM kv ew [] = [] := rfl
def mq := And.intro (And.intro (And.intro @body_makeMap (And.intro @body_lookup @body_mapUpdate)) (And.intro (And.intro @dbody_makeMap (And.intro @dbody_lookup @dbody_mapUpdate)) (And.intro (And.intro @umK_some @vcells_mp) @leaf_mp))) (And.intro (And.intro @rd_makeMap (And.intro @rd_lookup @rd_mapUpdate)) (And.intro @tnL_mp (And.intro @ev_nilmap @encM_nil)))
end
end Go.V
end
section
set_option linter.unusedVariables false
set_option linter.unusedSimpArgs false
set_option linter.defProp false
namespace Go.V
open Go
def RM (y x : VV) (H : Nat → Option VObj) (_ : Nat) : Prop := ∃ β es, x = .mp β ∧ H β = some (.map es) ∧ treeL (es.map (·.2)) = true ∧ y = .mt (es.map (·.1)) (es.map (·.2))
theorem VPure.of_openM {P : Program} {G : Glob} {f : FuncId} {args : List VV} {y : VV} (h : VOpen P G f args (fun _ => none) 0 (RM y) (fun _ _ _ => False)) : VPure P G f args (.tree y) := by
 refine ⟨h.1, fun A W vs hA hG hargs => (h.2 (PCtx A) W vs (pctx_sim hA) rfl (fun β hb => hb.elim) hG hargs).mono ?_⟩
 rintro e W' ⟨c', H', nx', hext, hs', hH', hu, hu', hle, hres⟩
 have hbelow := below_of_ext hext
 have hge : ∀ β, c'.live β → W.heap.size ≤ c'.φ β := by
  intro β hl
  rcases Nat.lt_or_ge (c'.φ β) W.heap.size with h | h
  ·obtain ⟨γ, hγ, _⟩ := hext.old β hl h
   simp [PCtx, Ctx.live] at hγ
  ·exact h
 have hold : ∀ b, c'.A b → A b ∨ W.heap.size ≤ b := by
  intro b hb
  rcases hext.newA b hb with h | h | ⟨β, h, _⟩
  ·exact .inl h
  ·exact .inr h
  ·simp [PCtx, Ctx.live] at h
 have held : ∀ {H0 : Nat → Option VObj}, SubHeap H0 c'.H → ∀ b, heldIn c' H0 b → A b ∨ W.heap.size ≤ b := by
  intro H0 hsub b hb
  rcases hb with h | ⟨β, h, e⟩
  ·exact hold b h
  ·exact .inr (e ▸ hge β (hsub.live h))
 have heldlt : ∀ {H0 : Nat → Option VObj}, SubHeap H0 c'.H → ∀ b, heldIn c' H0 b → b < W'.heap.size := by
  intro H0 hsub b hb
  rcases hb with h | ⟨β, h, e⟩
  ·exact hs'.ltA b h
  ·exact e ▸ hs'.lt β (hsub.live h)
 rcases hres with ⟨x, v, rfl, hrv, β, es, rfl, hβ, ht, rfl⟩ | ⟨x, v, rfl, hv, hF⟩
 ·subst hH'
  refine ⟨heldIn c' c'.H, fun b hb => .inl (hext.A b hb), held (SubHeap.refl _), heldlt (SubHeap.refl _), hbelow, v, rfl, ?_⟩
  have hv : v = .map (some (c'.φ β)) := hrv.2 (by simp [Ctx.live, hβ])
  obtain ⟨ents, clk, h1, h2, h3⟩ := hs'.obj β _ hβ
  have ab : Abides (PCtx c'.A) W' (PCtx (heldIn c' c'.H)) W' := abides_of_p (fun b hb => Or.inl hb)
  exact ⟨_, hv, .inr ⟨β, by simp [hβ], rfl⟩, ents, clk, h1, h2, RepL.abides ab _ (repL_tree ht h3)⟩
 ·exact hF.elim
theorem VPure.runM {P : Program} {G : Glob} (hm : P.follows .mixedOrders = true) {f : FuncId} {fn : Func} {code : Code} {args : List VV} {y : VV} (hc : Callable P f) (hf : P.funcs[f]? = some fn) (hb : fn.body = some code)
  (hst : (decide (args.length ≤ fn.ntmps) && codeOk fn.ntmps code) = true) (h : CWp P (G.at (some none)) fn.ntmps code (OpenPostD P G fn (RM y) (fun _ _ _ => False)) { tm := argsTm args, H := fun _ => none, nx := 0, df := [] }) : VPure P G f args (.tree y) :=
 VPure.of_openM (VOpen.run hm hc hf hb hst h)
def mtK {K V : Type} (kv : K → Value) (l : List (K × V)) : List Value := l.map fun p => kv p.1
def mtV {K V : Type} (ew : V → VV) (l : List (K × V)) : List VV := l.map fun p => ew p.2
theorem mt_tree {K V : Type} {ew : V → VV} (ht : ∀ v, (ew v).tree = true) : ∀ l : List (K × V), treeL (mtV ew l) = true
 | [] => rfl
 | p :: l => by
  show ((ew p.2).tree && treeL (mtV ew l)) = true
  rw [ht, mt_tree ht l]; rfl
theorem rm_map {K V : Type} {kv : K → Value} {ew : V → VV} {β nx : Nat} {H : Nat → Option VObj} {l : List (K × V)} (ht : ∀ v, (ew v).tree = true) (hb : H β = some (.map (encM kv ew l))) : RM (.mt (mtK kv l) (mtV ew l)) (.mp β) H nx := by
 have e1 : (encM kv ew l).map (·.1) = mtK kv l := by simp [encM, mtK, Function.comp_def]
 have e2 : (encM kv ew l).map (·.2) = mtV ew l := by simp [encM, mtV, Function.comp_def]
 exact ⟨β, _, rfl, hb, by rw [e2]; exact mt_tree ht l, by rw [e1, e2]⟩
theorem mt_mapOf {K V : Type} {kv : K → Value} {ew : V → VV} {H : Nat → Option VObj} (l : List (K × V)) : mapOf H (.mt (mtK kv l) (mtV ew l)) = some (encM kv ew l) := by
 simp only [mapOf, mtK, mtV, encM, Option.some.injEq]
 induction l with
 | nil => rfl
 | cons p l ih => simp only [List.map_cons, List.zip_cons_cons, ih]
section
variable {P : Program} {K V : Type} {q : K → K → Bool} {kv : K → Value} {ew : V → VV} {t kt et : TypeId} {H : Nat → Option VObj}
theorem lookup_tree {fs : Array Field} {z : V} (hm : P.underlying t = some (.map kt et)) (hu : P.underlying kt = some (.struct fs)) (he : ∀ a b, evalP P (Op.equal kt (kv a) (kv b)) = some (q a b)) (hc : ∀ b k, evalP P (Instr.checkKey b 10000 kt (kv k)) = some ())
  (hz : ((P.info? et).bind (·.zero)).map ofVal2 = some (ew z)) {l : List (K × V)} {kx : VV} {k : K} (hk : kx.val? = some (kv k)) :
  vlookup P H t (.mt (mtK kv l) (mtV ew l)) kx false = some (ew (mapGet q z l k)) := by
 have := lookup_own (H := fun _ => some (.map (encM kv ew l))) (β := 0) hm hu he hc hz hk rfl
 unfold vlookup at this ⊢
 rw [mt_mapOf]
 exact this
end
theorem leaf_mt {ks : List Value} {vs : List VV} : (VV.mt ks vs).leaf = true := rfl
theorem vcells_mt {ks : List Value} {vs : List VV} : vcells (.mt ks vs) = some [.mt ks vs] := rfl
theorem tnL_mt {ks : List Value} {vs : List VV} {l : List Nat} : tnL (.mt ks vs) l = l := rfl
def mqm := And.intro @leaf_mt (And.intro @vcells_mt @tnL_mt)
end Go.V
end
section
namespace Go.V
open Go Go.Proofs
def kv34 (k : GSightPlace) : Value := .agg ⟨[.int .i64 k.Along, .int .i64 k.Across]⟩
def q34 (a b : GSightPlace) : Bool := (a.Along == b.Along) && ((a.Across == b.Across) && true)
def ev46 (n : Int) : VV := .lit (.int .i64 n)
theorem he34 (a b : GSightPlace) : evalP Tryz.prog (Op.equal 34 (kv34 a) (kv34 b)) = some (q34 a b) := by
 have e : Op.maxDepth = 9998 + 2 := rfl
 unfold Op.equal kv34
 rw [e, evalP_eqS Tryz.underlying34 (by kernel_rfl) (r := q34 a b) (by kernel_rfl)]
theorem hc34 (b : Bool) (k : GSightPlace) : evalP Tryz.prog (Instr.checkKey b 10000 34 (kv34 k)) = some () := by
 cases b <;> kernel_rfl
theorem hq34 (a b : GSightPlace) (h : q34 a b = true) : a = b := by
 cases a; cases b
 simp only [q34, Bool.and_true, Bool.and_eq_true, beq_iff_eq] at h
 rw [h.1, h.2]
theorem hs34 (a : GSightPlace) : Instr.sameBits 10000 (kv34 a) (kv34 a) = true := by
 simp [kv34, Instr.sameBits]
theorem hz46 : ((Tryz.prog.info? 46).bind (·.zero)).map ofVal2 = some (ev46 0) := by kernel_rfl
theorem hk34 (a b : Int) : VV.val? (.agg [.lit (.int .i64 a), .lit (.int .i64 b)]) = some (kv34 ⟨a, b⟩) := rfl
theorem up97 {β : Nat} (l : List (GSightPlace × Int)) (k : GSightPlace) (v : Int) (H : Nat → Option VObj) (hb : H β = some (.map (encM kv34 ev46 l))) : vmapUpdate Tryz.prog H 97 (.mp β) (.agg [.lit (.int .i64 k.Along), .lit (.int .i64 k.Across)]) (.lit (.int .i64 v)) = some (.upd β (.map (encM kv34 ev46 (mapSet q34 l k v)))) :=
 update_own Tryz.underlying97 Tryz.underlying34 he34 hc34 hq34 hs34 (hk34 k.Along k.Across) hb
theorem ld97 {c : VV} {cs : List VV} : vload Tryz.prog 97 (c :: cs) = some c := by
 have h1 : aggT Tryz.prog 97 = some false := by kernel_rfl
 simp [vload, vpart, h1]
theorem sz97 : szT Tryz.prog 97 = some 1 := by kernel_rfl
theorem vzl97 : vzl Tryz.prog 97 = some [.lit (.map none)] := by kernel_rfl
theorem lkt97 {l : List (GSightPlace × Int)} {a b : Int} {H : Nat → Option VObj} : vlookup Tryz.prog H 97 (.mt (mtK kv34 l) (mtV ev46 l)) (.agg [.lit (.int .i64 a), .lit (.int .i64 b)]) false = some (.lit (.int .i64 (mapGet q34 0 l (GSightPlace.mk a b)))) :=
 lookup_tree Tryz.underlying97 Tryz.underlying34 he34 hc34 hz46 (k := ⟨a, b⟩) rfl
theorem et46 (n : Int) : (ev46 n).tree = true := rfl
def mqt := And.intro (And.intro (And.intro @ld97 @sz97) (And.intro @vzl97 @lkt97)) True.intro
end Go.V
end
section
namespace Go.V
open Go Go.Proofs
def g_sight_readFrom_l1 (x0_s : GSightStreet) (x1_b : GSightBoard) (c0_8 : Int) : Nat → Int → (List (GSightPlace × Int)) → Option (LOut (Unit) ((List (GSightPlace × Int))))
 | 0, c1_13, c1_o0 => some (.go c1_o0)
 | k1 + 1, c1_13, c1_o0 => Option.bind (g_sight_seen x0_s x1_b (GSightPlace.mk c0_8 (c1_13 + 1))) (fun r5 => g_sight_readFrom_l1 x0_s x1_b c0_8 k1 (c1_13 + 1) (mapSet q34 c1_o0 (GSightPlace.mk c0_8 (c1_13 + 1)) r5))
def g_sight_readFrom_l0 (x0_s : GSightStreet) (x1_b : GSightBoard) : Nat → Int → (List (GSightPlace × Int)) → Option (LOut (Unit) ((List (GSightPlace × Int))))
 | 0, c0_8, c0_o0 => some (.go c0_o0)
 | k0 + 1, c0_8, c0_o0 => cond (boundOk x0_s.Width) (lbind (g_sight_readFrom_l1 x0_s x1_b c0_8 (Int.toNat (x0_s.Width - 0)) 0 c0_o0) (fun r7 => some (.ret r7)) (fun c6 => g_sight_readFrom_l0 x0_s x1_b k0 (c0_8 + 1) c6) (fun _ _ => none)) none
def g_sight_readFrom (x0_s : GSightStreet) (x1_b : GSightBoard) : Option (List (GSightPlace × Int)) := cond (boundOk (IntKind.i64.wrap (x0_s.Length + 1))) (lbind (g_sight_readFrom_l0 x0_s x1_b (Int.toNat ((IntKind.i64.wrap (x0_s.Length + 1)) - 0)) 0 ([] : List (GSightPlace × Int))) (fun r9 => some ([] : List (GSightPlace × Int))) (fun c8 => some c8) (fun _ _ => none)) none
theorem g_sight_readFrom_ok (x0_s : GSightStreet) (x1_b : GSightBoard) (R : List (GSightPlace × Int)) (h : g_sight_readFrom x0_s x1_b = some R) : VPure Tryz.prog G0 56 [.agg (cGSightStreet x0_s), .agg (cGSightBoard x1_b)] (.tree (.mt (mtK kv34 R) (mtV ev46 R))) := by
 refine VPure.runM mixed Tryz.call56 Tryz.func56 rfl (by simp [Tryz.ntmps56]; kernel_rfl) ?_
 obtain ⟨KF, h, kF, kN⟩ := fun_intro h
 simp only [g_sight_readFrom] at h
 try simp only [vz, mq, mqm, tyf, mqt, nm, seval]
 refine kopen ?_
 rw [openK_eq]
 refine VOpen.run mixed Tryz.call98 Tryz.func98 rfl (by simp [Tryz.ntmps98]; kernel_rfl) ?_
 try simp only [vz, mq, mqm, tyf, mqt, nm, seval]
 refine opd_ret (x := (VV.fn (Fn.func 126) [] [.ptr 8 0])) (by first | (simp only [Tryz.results98, resV, resL, resV1, tgt_ptr, tgt_tp, uw, cr, tyf, mqt, nm, seval] <;> rfl) | rfl) ?_
 try simp only [vz, mq, mqm, tyf, mqt, nm, seval]
 refine range_open (f := 126) (first := []) (captured := [.ptr 8 0]) (by first | (simp only [ev_tmp, ev_func, upd_apply, nm, seval] <;> rfl) | rfl) ?_
 intro LO10 hLO10
 refine VOpen.run mixed Tryz.call126 Tryz.func126 rfl (by simp [Tryz.ntmps126]; kernel_rfl) ?_
 cases g12 : (boundOk (IntKind.i64.wrap (x0_s.Length + 1)))
 ·simp only [g12, hs] at h
  exact absurd h kN
 simp only [g12, hs] at h
 simp only [vz, mq, mqm, tyf, mqt, g12, nm, seval]
 obtain ⟨K11, h, kR11, kG11, kB11, kN11⟩ := lbind_intro h kN
 obtain ⟨f11, hf11, h⟩ := call3 h
 obtain ⟨I11, hI11⟩ : ∃ I : Nat → St → Prop, I = (fun m st => ∃ (p11 : Nat) (c11_8 : Int) (c11_o0 : List (GSightPlace × Int)), p11 = m ∧ loOk c11_8 = true ∧ Int.toNat ((IntKind.i64.wrap (x0_s.Length + 1)) - c11_8) = p11 ∧ st.df = [] ∧ 18 ≤ st.nx ∧ st.H 0 = some (.cells (some 27) (cGSightStreet x0_s)) ∧ st.H 1 = some (.cells (some 40) (cGSightBoard x1_b)) ∧ st.H 3 = some (.map (encM kv34 ev46 c11_o0)) ∧ st.H 4 = some (.cells (some 97) ([.mp 3])) ∧ st.H 8 = some (.cells (some 27) (cGSightStreet x0_s)) ∧ st.H 12 = some (.deferred (some [])) ∧ st.H 13 = some LO10 ∧ st.tm 0 = .yl 13 ∧ st.tm 1 = .ptr 8 0 ∧ st.tm 7 = .lit (.int .i64 (IntKind.i64.wrap (x0_s.Length + 1))) ∧ st.tm 8 = .lit (.int .i64 c11_8) ∧ K11 (f11 p11 c11_8 c11_o0)) := ⟨_, rfl⟩
 refine loopK mixed (by kernel_rfl) I11 (Int.toNat ((IntKind.i64.wrap (x0_s.Length + 1)) - 0)) (by rw [hI11]; refine ⟨Int.toNat ((IntKind.i64.wrap (x0_s.Length + 1)) - 0), 0, ([] : List (GSightPlace × Int)), rfl, (by rfl), rfl, rfl, (show 18 ≤ 18 by omega), ?_, ?_, ?_, ?_, ?_, ?_, ?_, ?_, ?_, ?_, ?_, h⟩ <;> first | (simp only [ua, encM_nil, nm, seval] <;> rfl) | rfl) ?_
 rintro m ⟨tm, H, nx11, df⟩ hinv
 rw [hI11] at hinv
 obtain ⟨p11, c11_8, c11_o0, rfl, hi11, hp11, hdf, hn11, H13, H14, H15, H16, H17, H18, H19, e20, e21, e22, e23, h⟩ := hinv
 simp only at hdf hn11 H13 H14 H15 H16 H17 H18 H19 e20 e21 e22 e23
 have n24 := base_ne0 (m := 18) (b := nx11) (by omega)
 subst hdf hf11
 cases p11 with
 | zero =>
  have d25 : (decide (c11_8 < (IntKind.i64.wrap (x0_s.Length + 1)))) = false := cnt_not_lt hp11
  simp only [g_sight_readFrom_l0, hs, reduceCtorEq] at h
  replace h := kG11 _ h
  try dsimp only at h
  try simp only [hs] at h
  try simp only [vz, mq, mqm, tyf, mqt, g12, n24, e20, e21, e22, e23, H13, H14, H15, H16, H17, H18, H19, d25, nm, seval]
  refine opd_normal (x := .tup []) (by simp [Tryz.results126, resV, resL]) ?_
  refine rangeEnd_go hLO10 (by simp only [updH_apply, without_apply, n24, H13, H14, H15, H16, H17, H18, H19, nm, seval] <;> rfl) ?_
  intro LX26
  try simp only [vz, mq, mqm, tyf, mqt, g12, n24, H13, H14, H15, H16, H17, H18, H19, d25, nm, seval]
  refine opd_coll (by simp only [updH_apply, without_apply, n24, H13, H14, H15, H16, H17, H18, H19, nm, seval] <;> rfl) ?_
  try simp only [vz, mq, mqm, tyf, mqt, g12, n24, H13, H14, H15, H16, H17, H18, H19, d25, nm, seval]
  refine opd_ret (x := (.mp 3)) (by first | (simp only [Tryz.results56, resV, resL, resV1, tgt_ptr, tgt_tp, uw, cr, tyf, mqt, g12, n24, H13, H14, H15, H16, H17, H18, H19, d25, nm, seval] <;> rfl) | rfl) ?_
  obtain rfl := kF _ h
  refine rm_map et46 ?_
  ·simp only [uw, encM_nil, cr, tyf, mqt, g12, n24, H13, H14, H15, H16, H17, H18, H19, d25, nm, seval] <;> rfl
 | succ p11 =>
  have d27 : (decide (c11_8 < (IntKind.i64.wrap (x0_s.Length + 1)))) = true := cnt_lt hp11
  have w28 := cnt_wrap hi11 hp11 g12
  simp only [g_sight_readFrom_l0, hs, reduceCtorEq] at h
  cases g30 : (boundOk x0_s.Width)
  ·simp only [g30, hs] at h
   exact absurd h kN11
  simp only [g30, hs] at h
  simp only [vz, mq, mqm, tyf, mqt, g12, n24, e20, e21, e22, e23, H13, H14, H15, H16, H17, H18, H19, d27, w28, g30, nm, seval]
  obtain ⟨K29, h, kR29, kG29, kB29, kN29⟩ := lbind_intro h kN11
  obtain ⟨f29, hf29, h⟩ := call3 h
  obtain ⟨I29, hI29⟩ : ∃ I : Nat → St → Prop, I = (fun m st => ∃ (p29 : Nat) (c29_13 : Int) (c29_o0 : List (GSightPlace × Int)), p29 = m ∧ loOk c29_13 = true ∧ Int.toNat (x0_s.Width - c29_13) = p29 ∧ st.df = [] ∧ nx11 + 6 ≤ st.nx ∧ st.H 0 = some (.cells (some 27) (cGSightStreet x0_s)) ∧ st.H 1 = some (.cells (some 40) (cGSightBoard x1_b)) ∧ st.H 3 = some (.map (encM kv34 ev46 c29_o0)) ∧ st.H 4 = some (.cells (some 97) ([.mp 3])) ∧ st.H 8 = some (.cells (some 27) (cGSightStreet x0_s)) ∧ st.H 12 = some (.deferred (some [])) ∧ st.H 13 = some LO10 ∧ st.tm 0 = .yl 13 ∧ st.tm 1 = .ptr 8 0 ∧ st.tm 3 = .lit (.int .i64 c11_8) ∧ st.tm 7 = .lit (.int .i64 (IntKind.i64.wrap (x0_s.Length + 1))) ∧ st.tm 8 = .lit (.int .i64 c11_8) ∧ st.tm 12 = .lit (.int .i64 x0_s.Width) ∧ st.tm 13 = .lit (.int .i64 c29_13) ∧ K29 (f29 p29 c29_13 c29_o0)) := ⟨_, rfl⟩
  refine loopK mixed (by kernel_rfl) I29 (Int.toNat (x0_s.Width - 0)) (by rw [hI29]; refine ⟨Int.toNat (x0_s.Width - 0), 0, c11_o0, rfl, (by rfl), rfl, rfl, (show nx11 + 6 ≤ nx11 + 6 by omega), ?_, ?_, ?_, ?_, ?_, ?_, ?_, e20, e21, ?_, e22, e23, ?_, ?_, h⟩ <;> first | (simp only [ua, encM_nil, n24, e20, e21, e22, e23, H13, H14, H15, H16, H17, H18, H19, d27, w28, nm, seval] <;> rfl) | rfl) ?_
  rintro m ⟨tm, H, nx29, df⟩ hinv
  rw [hI29] at hinv
  obtain ⟨p29, c29_13, c29_o0, rfl, hi29, hp29, hdf, hn29, H31, H32, H33, H34, H35, H36, H37, e38, e39, e40, e41, e42, e43, e44, h⟩ := hinv
  simp only at hdf hn29 H31 H32 H33 H34 H35 H36 H37 e38 e39 e40 e41 e42 e43 e44
  have n45 := base_ne0 (m := 18) (b := nx29) (by omega)
  have n46 := base_ne (a := nx11) (m := 6) (b := nx29) (by omega)
  subst hdf hf29
  cases p29 with
  | zero =>
   have d47 : (decide (c29_13 < x0_s.Width)) = false := cnt_not_lt hp29
   simp only [g_sight_readFrom_l1, hs, reduceCtorEq] at h
   replace h := kG29 _ h
   try dsimp only at h
   try simp only [hs] at h
   simp only [vz, mq, mqm, tyf, mqt, g12, n24, d27, w28, g30, n45, n46, e38, e39, e40, e41, e42, e43, e44, H31, H32, H33, H34, H35, H36, H37, d47, nm, seval]
   exact ⟨p11, Nat.lt_succ_self _, by rw [hI11]; refine ⟨p11, c11_8 + 1, c29_o0, rfl, cnt_lo hi11, cnt_next hp11, rfl, (show 18 ≤ nx29 + 3 by omega), ?_, ?_, ?_, ?_, ?_, ?_, ?_, e38, e39, e41, ?_, h⟩ <;> first | (simp only [ua, encM_nil, n24, d27, w28, n45, n46, e38, e39, e40, e41, e42, e43, e44, H31, H32, H33, H34, H35, H36, H37, d47, nm, seval] <;> rfl) | rfl⟩
  | succ p29 =>
   have d48 : (decide (c29_13 < x0_s.Width)) = true := cnt_lt hp29
   have w49 := cnt_wrap hi29 hp29 g30
   simp only [g_sight_readFrom_l1, hs, reduceCtorEq] at h
   try simp only [vz, mq, mqm, tyf, mqt, g12, n24, d27, w28, g30, n45, n46, e38, e39, e40, e41, e42, e43, e44, H31, H32, H33, H34, H35, H36, H37, d48, w49, rg, nm, seval]
   refine yield_open mixed (psl := [10]) hLO10 (by simp only [updH_apply, without_apply, n24, n45, n46, H31, H32, H33, H34, H35, H36, H37, nm, seval] <;> rfl) tmL_length rfl (by kernel_rfl) (by kernel_rfl) ?_
   intro LB50 LD50 hLB50 hLD50
   refine cwp_tmcut (fun tm => tm 2 = .ptr 0 0 ∧ tm 3 = .ptr 1 0 ∧ tm 5 = .ptr 4 0 ∧ tm 10 = .agg ([.lit (.int .i64 c11_8)] ++ [.lit (.int .i64 (c29_13 + 1))]) ∧ True) (by refine ⟨?_, ?_, ?_, ?_, trivial⟩ <;> (simp only [round_tm, round_tm0, Tryz.ntmps56, e38, e39, e40, e41, e42, e43, e44, nm, seval] <;> first | rfl | trivial)) ?_
   rintro tm ⟨e51, e52, e53, e54, _⟩
   have b55 := And.intro g12 (And.intro n24 (And.intro d27 (And.intro w28 (And.intro g30 (And.intro n45 (And.intro n46 (And.intro H31 (And.intro H32 (And.intro H33 (And.intro H34 (And.intro H35 (And.intro H36 (And.intro H37 (And.intro d48 w49))))))))))))))
   try simp only [vz, mq, mqm, tyf, mqt, b55, e51, e52, e53, e54, nm, seval]
   rw [rndAs_normal (by simp only [updH_apply, without_apply, b55, nm, seval] <;> rfl)]
   simp only [vz, mq, mqm, tyf, mqt, b55, e51, e52, e53, e54, nm, seval]
   refine cwp_drawTF (fun tm => tm 2 = .ptr 0 0 ∧ tm 3 = .ptr 1 0 ∧ tm 5 = .ptr 4 0 ∧ tm 6 = .ptr (nx29 + 10) 0 ∧ True) (by refine ⟨e51, e52, e53, ?_, trivial⟩ <;> first | (simp only [ua, encM_nil, b55, e51, e52, e53, e54, nm, seval] <;> rfl) | rfl) ?_
   rintro tm ⟨e56, e57, e58, e59, _⟩
   rcases o61 : (g_sight_seen x0_s x1_b (GSightPlace.mk c11_8 (c29_13 + 1))) with _ | r60
   ·simp only [o61, hs] at h
    exact absurd h kN29
   simp only [o61, hs] at h
   simp only [vz, mq, mqm, tyf, mqt, b55, e56, e57, e58, e59, nm, seval]
   refine dktree (args0 := [.agg (cGSightStreet x0_s), .agg (cGSightBoard x1_b), .agg (cGSightPlace (GSightPlace.mk c11_8 (c29_13 + 1)))]) (by first | (simp only [nrm, tynrm] <;> rfl) | rfl) (by simp only [tre, tytre, Bool.and_self]) (g_sight_seen_ok _ _ _ _ o61) ?_
   refine fin_cut (fun tm => tm 11 = .mp 3 ∧ tm 12 = .agg ([.lit (.int .i64 c11_8)] ++ [.lit (.int .i64 (c29_13 + 1))]) ∧ tm 16 = .lit (.int .i64 r60) ∧ True) (by refine ⟨?_, ?_, ?_, trivial⟩ <;> first | (simp only [ua, encM_nil, b55, e56, e57, e58, e59, nm, seval] <;> rfl) | rfl) ?_
   rintro tm ⟨e62, e63, e64, _⟩
   have w65 := fun H => up97 (β := 3) c29_o0 (GSightPlace.mk c11_8 (c29_13 + 1)) r60 H
   try simp only [encM_nil] at w65
   simp only [vz, mq, mqm, tyf, mqt, b55, e62, e63, e64, w65, nm, seval]
   refine drawK_nil ⟨?_, ?_⟩
   ·simp only [traceR_cons, traceR_nil, hitK_quiet, hitK_nil, and_true, true_and]
    repeat' (first | exact trivial | refine And.intro ?_ ?_ | rw [hitK_quiet] | rw [hitK_cons] | exact Or.inl (by decide +kernel) | exact Or.inl (by dsimp only; decide +kernel) | (refine Or.inr ⟨?_, ?_⟩ <;> simp; done) | (refine Or.inr ⟨?_, ?_⟩ <;> simp <;> omega) | (refine Or.inr ⟨?_, ?_⟩ <;> simp [VEff.wr] <;> omega))
   try simp only [vz, mq, mqm, tyf, mqt, b55, e62, e63, e64, w65, nm, seval]
   rw [rnd_normal (by simp only [updH_apply, without_apply, b55, nm, seval] <;> rfl)]
   simp only [vz, mq, mqm, tyf, mqt, b55, w65, e38, e39, e40, e41, e42, e43, e44, nm, seval]
   exact ⟨p29, Nat.lt_succ_self _, by rw [hI29]; refine ⟨p29, c29_13 + 1, (mapSet q34 c29_o0 (GSightPlace.mk c11_8 (c29_13 + 1)) r60), rfl, cnt_lo hi29, cnt_next hp29, rfl, (show nx11 + 6 ≤ nx29 + 21 by omega), ?_, ?_, ?_, ?_, ?_, ?_, ?_, e38, e39, e40, e41, e42, e43, ?_, h⟩ <;> first | (simp only [ua, encM_nil, b55, w65, e38, e39, e40, e41, e42, e43, e44, nm, seval] <;> rfl) | rfl⟩
end Go.V
end
