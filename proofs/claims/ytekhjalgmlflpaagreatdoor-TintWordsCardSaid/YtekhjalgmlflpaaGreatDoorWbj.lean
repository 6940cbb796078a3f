/- Part of a proof. -/
import Derived.Test.YtekhjalgmlflpaaGreatDoorWbi
set_option linter.all false
set_option maxRecDepth 4000
set_option maxHeartbeats 40000000
section
namespace Go.V
open Go
theorem VOpen.freeze1 {P : Program} {G : Glob} {f : FuncId} {args args' : List VV} {H : Nat → Option VObj} {nx γ : Nat} {el : Option TypeId} {cs : List VV} {R Rp : VV → (Nat → Option VObj) → Nat → Prop} (hγ : H γ = some (.cells el cs))
  (ha : FrozenL H (without H γ) args args') (h : VOpen P G f args' (without H γ) nx R Rp) : VOpen P G f args H nx R Rp := by
 refine ⟨h.1, fun c W vs s hH hnx hG hargs => ?_⟩
 subst hH
 have ho' : ∀ β o', without c.H γ β = some o' → ∃ o, c.H β = some o ∧ FrozenO c.H (without c.H γ) o o' := fun β o' hb => ⟨o', SubHeap.without _ _ β o' hb, .inl rfl⟩
 have hl : ∀ β, (without c.H γ β).isSome = true → c.live β := by
  intro β h
  obtain ⟨o', h'⟩ := Option.isSome_iff_exists.1 h
  obtain ⟨o, h1, _⟩ := ho' β o' h'
  simp [Ctx.live, h1]
 have he : Ext c W (c.frz (without c.H γ)) W := zxh hl
 have ab : Abides c W (c.frz (without c.H γ)) W := zie hl
 have hloop : ∀ x st pe tm ps asg bo df, without c.H γ x = some (.loop st pe tm ps asg bo df) → isDef (without c.H γ) df := by
  intro x st pe tm ps asg bo df hx
  obtain ⟨l, fn, _, _, _, hd⟩ := s.obj x _ (SubHeap.without _ _ x _ hx)
  exact hd.without hγ
 refine (h.2 (c.frz (without c.H γ)) W vs (s.frz ho' hloop) rfl hnx (hG.abides ab) (zih s hl ha hargs)).mono ?_
 rintro e W' ⟨c', H1, nx', g1, g2, g3, g4, g5, g6, g7⟩
 exact ⟨c', H1, nx', he.trans g1, g2, g3, g4, g5, g6, g7⟩
theorem Frozen.same {H H' : Nat → Option VObj} {x : VV} : Frozen H H' x x := .inl rfl
theorem FrozenL.same {H H' : Nat → Option VObj} : ∀ {xs : List VV}, FrozenL H H' xs xs
 | [] => trivial
 | _ :: _ => ⟨.same, .same⟩
theorem Frozen.own {H : Nat → Option VObj} {γ n w cp : Nat} {el : Option TypeId} {cs : List VV} (hγ : H γ = some (.cells el cs)) (ht : treeL cs = true) (hl : cs.length = n * w) : Frozen H (without H γ) (.ref γ 0 n w cp) (.sl cs n false) := by
 refine .inr (.inr ⟨cs.length + 2, ?_⟩)
 have hg : gone H (without H γ) γ = some (.cells el cs) := by simp [gone, without, hγ]
 unfold sealV
 have : (VV.ref γ 0 n w cp).tree = false := rfl
 rw [this]
 simp only [Bool.false_eq_true, if_false, hg, Nat.zero_le, if_true, List.drop_zero]
 rw [List.take_of_length_le (by omega), zio cs _ ht (by omega)]
 rfl
theorem VPure.weaken {P : Program} {G : Glob} {f : FuncId} {args args' : List VV} {r : PRes} (hw : ∀ c W vs, RepL c W args vs → RepL c W args' vs) (h : VPure P G f args' r) : VPure P G f args r :=
 ⟨h.1, fun A W vs h1 h2 h3 => h.2 A W vs h1 h2 (hw _ W vs h3)⟩
theorem zape {c : Ctx} {W : World} {v : Value} (h : Rep c W (.lit (.slice none 0 0)) v) : Rep c W (.sl [] 0 false) v := by
 have e : v = .slice none 0 0 := h
 subst e
 exact ⟨none, 0, rfl, Nat.le_refl _, fun h => by simp at h, .inl rfl⟩
def vx {α : Type} (enc : α → List VV) : List α → VV
 | [] => .lit (.slice none 0 0)
 | l => .sl (cellsL enc l) l.length false
theorem zauu {α : Type} {enc : α → List VV} {c : Ctx} {W : World} {v : Value} : ∀ {l : List α}, Rep c W (vx enc l) v → Rep c W (.sl (cellsL enc l) l.length false) v
 | [], h => zape h
 | _ :: _, h => h
theorem zaeh {α : Type} {enc : α → List VV} {l : List α} (h : l ≠ []) : vx enc l = .sl (cellsL enc l) l.length false := by cases l with
 | nil => exact absurd rfl h
 | cons a l => rfl
end Go.V
namespace Go.V
theorem zano {α : Type} {enc : α → List VV} (he : EncOk enc) : ∀ {l : List α}, (vx enc l).tree = true
 | [] => rfl
 | a :: l => he.treeL (a :: l)
end Go.V
namespace Go.V
def lessN (H : Nat → Option VObj) (ns : List Nat) : Nat → Option VObj := fun γ => if γ ∈ ns then none else H γ
theorem zxv {H : Nat → Option VObj} {ns : List Nat} : SubHeap (lessN H ns) H := fun x o h => by
 unfold lessN at h
 split at h
 ·cases h
 ·exact h
theorem VOpen.freezeN {P : Program} {G : Glob} {f : FuncId} {args args' : List VV} {H : Nat → Option VObj} {nx : Nat} {R Rp : VV → (Nat → Option VObj) → Nat → Prop} (ns : List Nat) (hns : ∀ γ ∈ ns, ∃ el cs, H γ = some (.cells el cs))
  (ha : FrozenL H (lessN H ns) args args') (h : VOpen P G f args' (lessN H ns) nx R Rp) : VOpen P G f args H nx R Rp := by
 refine ⟨h.1, fun c W vs s hH hnx hG hargs => ?_⟩
 subst hH
 have ho' : ∀ β o', lessN c.H ns β = some o' → ∃ o, c.H β = some o ∧ FrozenO c.H (lessN c.H ns) o o' := fun β o' hb => ⟨o', zxv β o' hb, .inl rfl⟩
 have hl : ∀ β, (lessN c.H ns β).isSome = true → c.live β := by
  intro β h
  obtain ⟨o', h'⟩ := Option.isSome_iff_exists.1 h
  obtain ⟨o, h1, _⟩ := ho' β o' h'
  simp [Ctx.live, h1]
 have he : Ext c W (c.frz (lessN c.H ns)) W := zxh hl
 have ab : Abides c W (c.frz (lessN c.H ns)) W := zie hl
 have hloop : ∀ x st pe tm ps asg bo df, lessN c.H ns x = some (.loop st pe tm ps asg bo df) → isDef (lessN c.H ns) df := by
  intro x st pe tm ps asg bo df hx
  obtain ⟨l, fn, _, _, _, ds, hd⟩ := s.obj x _ (zxv x _ hx)
  refine ⟨ds, ?_⟩
  unfold lessN
  split
  ·rename_i hm
   obtain ⟨el, cs, hc⟩ := hns df hm
   rw [hc] at hd; cases hd
  ·exact hd
 refine (h.2 (c.frz (lessN c.H ns)) W vs (s.frz ho' hloop) rfl hnx (hG.abides ab) (zih s hl ha hargs)).mono ?_
 rintro e W' ⟨c', H1, nx', g1, g2, g3, g4, g5, g6, g7⟩
 exact ⟨c', H1, nx', he.trans g1, g2, g3, g4, g5, g6, g7⟩
theorem VOpen.of_pure {P : Program} {G : Glob} {f : FuncId} {args : List VV} {x : VV} {H : Nat → Option VObj} {nx : Nat} (h : VPure P G f args (.tree x)) (ht : treeL args = true) : VOpen P G f args H nx (fun y H' nx' => y = x ∧ H' = H ∧ nx' = nx) (fun _ _ _ => False) := by
 refine ⟨h.1, fun c W vs s hH hnx hG ha => (h.2 c.A W vs s.ltA (fun g cs hg => hG.tree g cs hg) (zfi ht ha)).mono ?_⟩
 rintro e W' ⟨A', h1, h2, h3, hb, v, rfl, hx⟩
 exact ⟨c.more A', H, nx, Ext.more h1 h2 hb, Sim.more s h1 h2 h3 hb, hH, fun β hb => .inl hb, hnx, Nat.le_refl _, .inl ⟨x, v, rfl, Rep.abides (zcs (fun _ h => h)) _ hx, rfl, rfl, rfl⟩⟩
abbrev sI (l : List Int) : VV := .sl (cellsL eI l) l.length false
theorem zatw {L : List (List Int)} (h : ∀ q ∈ L, q ≠ []) : L.map (vx eI) = L.map sI := List.map_congr_left fun q hq => zaeh (h q hq)
end Go.V
namespace Go.V
theorem ztg {H : Nat → Option VObj} {m : Nat} : ∀ (caps : List (Nat × List VV)) (n : Nat), (∀ p ∈ caps, (∃ el, H p.1 = some (.cells el p.2)) ∧ treeL p.2 = true ∧ p.2.length < m) → caps.length + m + 2 < n →
  sealL H n (caps.map fun p => .ptr p.1 0) = some (caps.map fun p => .tp p.2)
 | [], n + 1, _, _ => by simp [sealL]
 | p :: caps, n + 1, h, hn => by
  obtain ⟨⟨el, h1⟩, h2, h3⟩ := h p (List.mem_cons_self ..)
  have ih := ztg caps n (fun q hq => h q (List.mem_cons_of_mem _ hq)) (by simp at hn; omega)
  obtain ⟨n', rfl⟩ : ∃ n', n = n' + 1 := ⟨n - 1, by simp at hn; omega⟩
  have e : sealV H (n' + 1) (.ptr p.1 0) = some (.tp p.2) := by
   unfold sealV
   have : (VV.ptr p.1 0).tree = false := rfl
   rw [this]
   simp only [Bool.false_eq_true, if_false, h1, Nat.zero_le, if_true, List.drop_zero]
   rw [zio _ _ h2 (by simp at hn; omega)]
   rfl
  simp only [List.map_cons]
  unfold sealL
  rw [e, ih]
theorem Frozen.closure {H H' : Nat → Option VObj} {f : Fn} (caps : List (Nat × List VV)) (m : Nat) (hne : caps ≠ []) (h : ∀ p ∈ caps, (∃ el, H p.1 = some (.cells el p.2)) ∧ (H' p.1).isSome = false ∧ treeL p.2 = true ∧ p.2.length < m) : Frozen H H' (.fn f [] (caps.map fun p => .ptr p.1 0)) (.fn f [] (caps.map fun p => .tp p.2)) := by
 refine .inr (.inr ⟨caps.length + m + 4, ?_⟩)
 have hg : ∀ p ∈ caps, (∃ el, gone H H' p.1 = some (.cells el p.2)) ∧ treeL p.2 = true ∧ p.2.length < m := by
  intro p hp
  obtain ⟨⟨el, h1⟩, h2, h3⟩ := h p hp
  exact ⟨⟨el, by simp [gone, h2, h1]⟩, h3⟩
 have ht : (VV.fn f [] (caps.map fun p => .ptr p.1 0)).tree = false := by
  cases caps with
  | nil => exact absurd rfl hne
  | cons p l => simp [VV.tree, treeL]
 unfold sealV
 rw [ht]
 simp only [Bool.false_eq_true, if_false]
 rw [ztg caps _ hg (by omega)]
 have : sealL (gone H H') (caps.length + m + 3) [] = some [] := by simp [sealL]
 rw [this]
end Go.V
namespace Go.V
def goL (rc : List Int → Option (List (List Int))) (may : List Int → Int → Option Bool) (p : List Int) : List Nat → Option (List (List Int))
 | [] => some []
 | i :: is => Option.bind (may p (i : Int)) fun b => cond b (Option.bind (rc (p ++ [(i : Int)])) fun a => Option.bind (goL rc may p is) fun r => some (a ++ r)) (goL rc may p is)
def listsO (may : List Int → Int → Option Bool) (lim : Nat) : Nat → List Int → Option (List (List Int))
 | 0, p => some [p]
 | d + 1, p => goL (listsO may lim d) may p (List.range' 0 lim)
theorem zabz {rc : List Int → Option (List (List Int))} {may : List Int → Int → Option Bool} {p : List Int} {Pr : List Int → Prop} (hr : ∀ i L, rc (p ++ [(i : Int)]) = some L → ∀ q ∈ L, Pr q) : ∀ (is : List Nat) (L : List (List Int)), goL rc may p is = some L → ∀ q ∈ L, Pr q
 | [], L, h, q, hq => by simp [goL] at h; subst h; cases hq
 | i :: is, L, h, q, hq => by
  unfold goL at h
  cases hm : may p (i : Int) with
  | none => rw [hm] at h; cases h
  | some b =>
   rw [hm, Option.bind_some] at h
   cases b with
   | false => exact zabz hr is L h q hq
   | true =>
    rw [cond_true] at h
    cases ha : rc (p ++ [(i : Int)]) with
    | none => rw [ha] at h; cases h
    | some a =>
     rw [ha, Option.bind_some] at h
     cases hg : goL rc may p is with
     | none => rw [hg] at h; cases h
     | some r =>
      rw [hg, Option.bind_some] at h
      cases h
      rcases List.mem_append.1 hq with hq | hq
      ·exact hr i a ha q hq
      ·exact zabz hr is r hg q hq
theorem zsl {may : List Int → Int → Option Bool} {lim : Nat} : ∀ (d : Nat) (p : List Int) (L : List (List Int)), listsO may lim d p = some L → ∀ q ∈ L, q.length = p.length + d
 | 0, p, L, h, q, hq => by
  simp [listsO] at h; subst h
  rw [List.mem_singleton.1 hq]; rfl
 | d + 1, p, L, h, q, hq => by
  unfold listsO at h
  exact zabz (Pr := fun q => q.length = p.length + (d + 1)) (fun i L' h' q' hq' => by rw [zsl d _ L' h' q' hq']; simp; omega) _ L h q hq
end Go.V
namespace Go.V
theorem ktreeR {P : Program} {G : Glob} {γ : Nat} {tm : Nat → VV} {H : Nat → Option VObj} {nx : Nat} {df : List VDef} {d : Option Tmp} {K : St → Prop} {Qp : VV → St → Prop} {f : FuncId} {args : List VV} {x : VV} (ht : treeL args = true) (hp : VPure P G f args (.tree x)) (h : fin d γ tm H nx df K x .none) : callK P G f args ⟨tm, H, nx, df⟩ d γ K Qp := by
 refine .inl ⟨ht, .tree x, hp, ?_⟩
 rw [← zia (K := K), zbp] at h
 exact h
end Go.V
namespace Go.V
theorem Frozen.ptr {H H' : Nat → Option VObj} {γ : Nat} {el : Option TypeId} {cs : List VV} (hγ : H γ = some (.cells el cs)) (hn : (H' γ).isSome = false) (ht : treeL cs = true) : Frozen H H' (.ptr γ 0) (.tp cs) := by
 refine .inr (.inr ⟨cs.length + 2, ?_⟩)
 have hg : gone H H' γ = some (.cells el cs) := by simp [gone, hn, hγ]
 unfold sealV
 have : (VV.ptr γ 0).tree = false := rfl
 rw [this]
 simp only [Bool.false_eq_true, if_false, hg, Nat.zero_le, if_true, List.drop_zero]
 rw [zio cs _ ht (by omega)]
 rfl
end Go.V
end
section
set_option linter.defProp false
namespace Go.V
open Go
def kIdx {K : Type} (q : K → K → Bool) (k : K) : List K → Nat → Option Nat
 | [], _ => none
 | e :: es, i => cond (q k e) (some i) (kIdx q k es (i + 1))
theorem zqx {K : Type} {q : K → K → Bool} {k : K} : ∀ (es : List K) (i j : Nat), kIdx q k es i = some j → i ≤ j ∧ ∃ e, es[j - i]? = some e ∧ q k e = true
 | [], _, _, h => by cases h
 | e :: es, i, j, h => by
  unfold kIdx at h
  cases hq : q k e with
  | true =>
   rw [hq] at h
   simp only [cond_true, Option.some.injEq] at h
   subst h
   exact ⟨Nat.le_refl _, e, by simp, hq⟩
  | false =>
   rw [hq] at h
   simp only [cond_false] at h
   obtain ⟨h1, x, h2, h3⟩ := zqx es (i + 1) j h
   refine ⟨by omega, x, ?_, h3⟩
   rw [show j - i = (j - (i + 1)) + 1 by omega]
   simpa using h2
def mapGet {K V : Type} (q : K → K → Bool) (z : V) (l : List (K × V)) (k : K) : V := match kIdx q k (l.map (·.1)) 0 with
 | some i => match l[i]? with | some p => p.2 | none => z
 | none => z
def mapSet {K V : Type} (q : K → K → Bool) (l : List (K × V)) (k : K) (v : V) : List (K × V) := match kIdx q k (l.map (·.1)) 0 with
 | some i => l.set i (k, v)
 | none => l ++ [(k, v)]
def encM {K V : Type} (kv : K → Value) (ev : V → VV) (l : List (K × V)) : List (Value × VV) := l.map fun p => (kv p.1, ev p.2)
section
variable {P : Program} {K V : Type} {q : K → K → Bool} {kv : K → Value} {ev : V → VV} {t kt et : TypeId} {H : Nat → Option VObj} {β : Nat}
theorem zyg (he : ∀ a b, evalP P (Op.equal kt (kv a) (kv b)) = some (q a b)) (k : K) : ∀ (ks : List K) (i : Nat), evalP P (Instr.findAsking kt (kv k) ((ks.map kv).map dummy) i) = some ((kIdx q k ks i).map fun j => (j, Value.bool false))
 | [], i => rfl
 | e :: es, i => by
  simp only [List.map_cons, Instr.findAsking, kIdx]
  rw [zaj]
  have h0 : evalP P (Op.equal kt (kv k) (dummy (kv e)).key) = some (q k e) := he k e
  rw [h0, Option.bind_some]
  cases q k e with
  | true => rfl
  | false => exact zyg he k es (i + 1)
theorem zaio {fs : Array Field} (hu : P.underlying kt = some (.struct fs)) (he : ∀ a b, evalP P (Op.equal kt (kv a) (kv b)) = some (q a b)) (k : K) (ks : List K) : kfind P kt (kv k) (ks.map kv) = some (kIdx q k ks 0) := by
 unfold kfind Instr.findKey
 rw [zaj, zke hu, Option.bind_some]
 have ha := zyg he k ks 0
 cases ks with
 | nil => rfl
 | cons e es =>
  have hn : Instr.findNow (.struct fs) (kv k) (((e :: es).map kv).map dummy) 0 = none := by
   simp only [List.map_cons, Instr.findNow]
   have : Instr.sameNow (.struct fs) (kv k) (dummy (kv e)).key = none := by cases kv k <;> rfl
   rw [this]
  rw [hn]
  simp only []
  rw [ha]
  cases kIdx q k (e :: es) 0 <;> rfl
theorem zyv {l : List (K × V)} : (encM kv ev l).map (·.1) = (l.map (·.1)).map kv := by simp [encM, Function.comp_def]
theorem zabk {fs : Array Field} {z : V} (hm : P.underlying t = some (.map kt et)) (hu : P.underlying kt = some (.struct fs)) (he : ∀ a b, evalP P (Op.equal kt (kv a) (kv b)) = some (q a b)) (hc : ∀ b k, evalP P (Instr.checkKey b 10000 kt (kv k)) = some ())
  (hz : ((P.info? et).bind (·.zero)).map ofVal2 = some (ev z)) {l : List (K × V)} {kx : VV} {k : K} (hk : kx.val? = some (kv k)) (hb : H β = some (.map (encM kv ev l))) :
  vlookup P H t (.mp β) kx false = some (ev (mapGet q z l k)) := by
 unfold vlookup
 rw [hm, hk]
 simp only [mapOf, hb]
 rw [hc, zyv, zaio hu he]
 cases hzz : (P.info? et).bind (·.zero) with
 | none => rw [hzz] at hz; cases hz
 | some z0 =>
  rw [hzz] at hz
  simp only [Option.map_some, Option.some.injEq] at hz
  unfold mapGet
  cases hi : kIdx q k (l.map (·.1)) 0 with
  | none => simp only [Bool.false_eq_true, if_false]; exact congrArg some hz
  | some i =>
   obtain ⟨_, e, h1, _⟩ := zqx _ _ _ hi
   rw [Nat.sub_zero, List.getElem?_map] at h1
   cases hl : l[i]? with
   | none => rw [hl] at h1; cases h1
   | some p =>
    have : (encM kv ev l)[i]? = some (kv p.1, ev p.2) := by unfold encM; rw [List.getElem?_map, hl]; rfl
    simp only [this, hl, Bool.false_eq_true, if_false]
theorem zadg {fs : Array Field} (hm : P.underlying t = some (.map kt et)) (hu : P.underlying kt = some (.struct fs)) (he : ∀ a b, evalP P (Op.equal kt (kv a) (kv b)) = some (q a b)) (hc : ∀ b k, evalP P (Instr.checkKey b 10000 kt (kv k)) = some ())
  (hq : ∀ a b, q a b = true → a = b) (hs : ∀ a, Instr.sameBits 10000 (kv a) (kv a) = true) {l : List (K × V)} {kx : VV} {k : K} {v : V} (hk : kx.val? = some (kv k)) (hb : H β = some (.map (encM kv ev l))) :
  vmapUpdate P H t (.mp β) kx (ev v) = some (.upd β (.map (encM kv ev (mapSet q l k v)))) := by
 unfold vmapUpdate
 rw [hm, hk]
 simp only [hb]
 rw [hc, zyv, zaio hu he]
 unfold mapSet
 cases hi : kIdx q k (l.map (·.1)) 0 with
 | none => simp only [encM, List.map_append, List.map_cons, List.map_nil]
 | some i =>
  obtain ⟨_, e, h1, h2⟩ := zqx _ _ _ hi
  rw [Nat.sub_zero, List.getElem?_map] at h1
  cases hl : l[i]? with
  | none => rw [hl] at h1; cases h1
  | some p =>
   have h3 : (encM kv ev l)[i]? = some (kv p.1, ev p.2) := by unfold encM; rw [List.getElem?_map, hl]; rfl
   rw [hl] at h1
   simp only [Option.map_some, Option.some.injEq] at h1
   have h4 := hq _ _ h2
   subst h4
   subst h1
   simp only [h3, hs, if_true]
   simp only [encM, List.map_set]
end
section
variable {P : Program} {G : Glob} {γ : Nat} {tm : Nat → VV} {H : Nat → Option VObj} {nx : Nat} {df : List VDef} {K : St → Prop} {Kd : List Nat → List Nat → St → Prop} {Qp : VV → St → Prop}
 {d : Option Tmp} {ty : TypeId} {pos : String} {af : Array Edge} {g : Option (Nat × Bool)}
theorem zuz {t : TypeId} : bodyK P G γ ⟨d, .makeMap t none, ty, pos, af, g⟩ ⟨tm, H, nx, df⟩ K Qp = fin d γ tm H nx df K (.mp γ) (.new (.map [])) := by
 rw [zep (by simp) (by simp) (by simp)]; rfl
theorem zzp {t : TypeId} {x k : Operand} {ok : Bool} : bodyK P G γ ⟨d, .lookup t x k ok, ty, pos, af, g⟩ ⟨tm, H, nx, df⟩ K Qp = oK (vlookup P H t (ev G tm x) (ev G tm k) ok) (fun y => fin d γ tm H nx df K y .none) := by
 rw [zep (by simp) (by simp) (by simp)]; simp only [vop]; exact zpe
theorem zuq {t : TypeId} : dbodyK P G γ ⟨d, .makeMap t none, ty, pos, af, g⟩ ⟨tm, H, nx, df⟩ Kd = fin d γ tm H nx df (Kd (rdV ⟨d, .makeMap t none, ty, pos, af, g⟩ (ev G tm)) [γ]) (.mp γ) (.new (.map [])) := by
 rw [zdk (by simp)]; rfl
theorem zvv {t : TypeId} {x k : Operand} {ok : Bool} : dbodyK P G γ ⟨d, .lookup t x k ok, ty, pos, af, g⟩ ⟨tm, H, nx, df⟩ Kd = oK (vlookup P H t (ev G tm x) (ev G tm k) ok) (fun y => fin d γ tm H nx df (Kd (rdV ⟨d, .lookup t x k ok, ty, pos, af, g⟩ (ev G tm)) []) y .none) := by
 rw [zdk (by simp)]; simp only [vop]
 cases vlookup P H t (ev G tm x) (ev G tm k) ok <;> rfl
def umK (o : Option VEff) (k : VEff → Prop) : Prop := match o with | some e => k e | none => False
theorem zaka {e : VEff} {k : VEff → Prop} : umK (some e) k = k e := rfl
theorem zrm {t : TypeId} {m k x : Operand} : bodyK P G γ ⟨d, .mapUpdate t m k x, ty, pos, af, g⟩ ⟨tm, H, nx, df⟩ K Qp = umK (vmapUpdate P H t (ev G tm m) (ev G tm k) (ev G tm x)) (fun e => fin d γ tm H nx df K .any e) := by
 rw [zep (by simp) (by simp) (by simp)]; simp only [vop]
 cases vmapUpdate P H t (ev G tm m) (ev G tm k) (ev G tm x) <;> rfl
theorem zpf {t : TypeId} {m k x : Operand} : dbodyK P G γ ⟨d, .mapUpdate t m k x, ty, pos, af, g⟩ ⟨tm, H, nx, df⟩ Kd = umK (vmapUpdate P H t (ev G tm m) (ev G tm k) (ev G tm x)) (fun e => fin d γ tm H nx df (Kd (rdV ⟨d, .mapUpdate t m k x, ty, pos, af, g⟩ (ev G tm)) (e.wr γ)) .any e) := by
 rw [zdk (by simp)]; simp only [vop]
 cases vmapUpdate P H t (ev G tm m) (ev G tm k) (ev G tm x) <;> rfl
theorem zaia {β : Nat} : vcells (.mp β) = some [.mp β] := rfl
theorem zanq {β : Nat} : (VV.mp β).leaf = true := rfl
theorem zaby {t : TypeId} : rdV ⟨d, .makeMap t none, ty, pos, af, g⟩ (ev G tm) = rdL (ev G tm) [] := zhg []
theorem zagx {t : TypeId} {x k : Operand} {ok : Bool} : rdV ⟨d, .lookup t x k ok, ty, pos, af, g⟩ (ev G tm) = rdL (ev G tm) [x, k] := zhg [x, k]
theorem zwl {t : TypeId} {m k x : Operand} : rdV ⟨d, .mapUpdate t m k x, ty, pos, af, g⟩ (ev G tm) = rdL (ev G tm) [m, k, x] := zhg [m, k, x]
theorem zauc {β : Nat} {l : List Nat} : tnL (.mp β) l = β :: l := rfl
theorem zagc : ev G tm (.const (.map none)) = .lit (.map none) := rfl
theorem zdb {K V : Type} {kv : K → Value} {ew : V → VV} : encM kv ew [] = [] := rfl
def mq := And.intro (And.intro (And.intro @zuz (And.intro @zzp @zrm)) (And.intro (And.intro @zuq (And.intro @zvv @zpf)) (And.intro (And.intro @zaka @zaia) @zanq))) (And.intro (And.intro @zaby (And.intro @zagx @zwl)) (And.intro @zauc (And.intro @zagc @zdb)))
end
end Go.V
end
section
set_option linter.defProp false
namespace Go.V
open Go
def RM (y x : VV) (H : Nat → Option VObj) (_ : Nat) : Prop := ∃ β es, x = .mp β ∧ H β = some (.map es) ∧ treeL (es.map (·.2)) = true ∧ y = .mt (es.map (·.1)) (es.map (·.2))
theorem VPure.of_openM {P : Program} {G : Glob} {f : FuncId} {args : List VV} {y : VV} (h : VOpen P G f args (fun _ => none) 0 (RM y) (fun _ _ _ => False)) : VPure P G f args (.tree y) := by
 refine ⟨h.1, fun A W vs hA hG hargs => (h.2 (PCtx A) W vs (zmd hA) rfl (fun β hb => hb.elim) hG hargs).mono ?_⟩
 rintro e W' ⟨c', H', nx', hext, hs', hH', hu, hu', hle, hres⟩
 have hbelow := zfw hext
 have hge : ∀ β, c'.live β → W.heap.size ≤ c'.φ β := by
  intro β hl
  rcases Nat.lt_or_ge (c'.φ β) W.heap.size with h | h
  ·obtain ⟨γ, hγ, _⟩ := hext.old β hl h
   simp [PCtx, Ctx.live] at hγ
  ·exact h
 have hold : ∀ b, c'.A b → A b ∨ W.heap.size ≤ b := by
  intro b hb
  rcases hext.newA b hb with h | h | ⟨β, h, _⟩
  ·exact .inl h
  ·exact .inr h
  ·simp [PCtx, Ctx.live] at h
 have held : ∀ {H0 : Nat → Option VObj}, SubHeap H0 c'.H → ∀ b, heldIn c' H0 b → A b ∨ W.heap.size ≤ b := by
  intro H0 hsub b hb
  rcases hb with h | ⟨β, h, e⟩
  ·exact hold b h
  ·exact .inr (e ▸ hge β (hsub.live h))
 have heldlt : ∀ {H0 : Nat → Option VObj}, SubHeap H0 c'.H → ∀ b, heldIn c' H0 b → b < W'.heap.size := by
  intro H0 hsub b hb
  rcases hb with h | ⟨β, h, e⟩
  ·exact hs'.ltA b h
  ·exact e ▸ hs'.lt β (hsub.live h)
 rcases hres with ⟨x, v, rfl, hrv, β, es, rfl, hβ, ht, rfl⟩ | ⟨x, v, rfl, hv, hF⟩
 ·subst hH'
  refine ⟨heldIn c' c'.H, fun b hb => .inl (hext.A b hb), held (SubHeap.refl _), heldlt (SubHeap.refl _), hbelow, v, rfl, ?_⟩
  have hv : v = .map (some (c'.φ β)) := hrv.2 (by simp [Ctx.live, hβ])
  obtain ⟨ents, clk, h1, h2, h3⟩ := hs'.obj β _ hβ
  have ab : Abides (PCtx c'.A) W' (PCtx (heldIn c' c'.H)) W' := zcs (fun b hb => Or.inl hb)
  exact ⟨_, hv, .inr ⟨β, by simp [hβ], rfl⟩, ents, clk, h1, h2, RepL.abides ab _ (zfi ht h3)⟩
 ·exact hF.elim
theorem VPure.runM {P : Program} {G : Glob} (hm : P.follows .mixedOrders = true) {f : FuncId} {fn : Func} {code : Code} {args : List VV} {y : VV} (hc : Callable P f) (hf : P.funcs[f]? = some fn) (hb : fn.body = some code)
  (hst : (decide (args.length ≤ fn.ntmps) && codeOk fn.ntmps code) = true) (h : CWp P (G.at (some none)) fn.ntmps code (OpenPostD P G fn (RM y) (fun _ _ _ => False)) { tm := argsTm args, H := fun _ => none, nx := 0, df := [] }) : VPure P G f args (.tree y) :=
 VPure.of_openM (VOpen.run hm hc hf hb hst h)
def mtK {K V : Type} (kv : K → Value) (l : List (K × V)) : List Value := l.map fun p => kv p.1
def mtV {K V : Type} (ew : V → VV) (l : List (K × V)) : List VV := l.map fun p => ew p.2
theorem zadn {K V : Type} {ew : V → VV} (ht : ∀ v, (ew v).tree = true) : ∀ l : List (K × V), treeL (mtV ew l) = true
 | [] => rfl
 | p :: l => by
  show ((ew p.2).tree && treeL (mtV ew l)) = true
  rw [ht, zadn ht l]; rfl
theorem zauf {K V : Type} {kv : K → Value} {ew : V → VV} {β nx : Nat} {H : Nat → Option VObj} {l : List (K × V)} (ht : ∀ v, (ew v).tree = true) (hb : H β = some (.map (encM kv ew l))) : RM (.mt (mtK kv l) (mtV ew l)) (.mp β) H nx := by
 have e1 : (encM kv ew l).map (·.1) = mtK kv l := by simp [encM, mtK, Function.comp_def]
 have e2 : (encM kv ew l).map (·.2) = mtV ew l := by simp [encM, mtV, Function.comp_def]
 exact ⟨β, _, rfl, hb, by rw [e2]; exact zadn ht l, by rw [e1, e2]⟩
theorem zakk {K V : Type} {kv : K → Value} {ew : V → VV} {H : Nat → Option VObj} (l : List (K × V)) : mapOf H (.mt (mtK kv l) (mtV ew l)) = some (encM kv ew l) := by
 simp only [mapOf, mtK, mtV, encM, Option.some.injEq]
 induction l with
 | nil => rfl
 | cons p l ih => simp only [List.map_cons, List.zip_cons_cons, ih]
section
variable {P : Program} {K V : Type} {q : K → K → Bool} {kv : K → Value} {ew : V → VV} {t kt et : TypeId} {H : Nat → Option VObj}
theorem zzg {fs : Array Field} {z : V} (hm : P.underlying t = some (.map kt et)) (hu : P.underlying kt = some (.struct fs)) (he : ∀ a b, evalP P (Op.equal kt (kv a) (kv b)) = some (q a b)) (hc : ∀ b k, evalP P (Instr.checkKey b 10000 kt (kv k)) = some ())
  (hz : ((P.info? et).bind (·.zero)).map ofVal2 = some (ew z)) {l : List (K × V)} {kx : VV} {k : K} (hk : kx.val? = some (kv k)) :
  vlookup P H t (.mt (mtK kv l) (mtV ew l)) kx false = some (ew (mapGet q z l k)) := by
 have := zabk (H := fun _ => some (.map (encM kv ew l))) (β := 0) hm hu he hc hz hk rfl
 unfold vlookup at this ⊢
 rw [zakk]
 exact this
end
theorem zapn {ks : List Value} {vs : List VV} : (VV.mt ks vs).leaf = true := rfl
theorem zaij {ks : List Value} {vs : List VV} : vcells (.mt ks vs) = some [.mt ks vs] := rfl
theorem zaus {ks : List Value} {vs : List VV} {l : List Nat} : tnL (.mt ks vs) l = l := rfl
def mqm := And.intro @zapn (And.intro @zaij @zaus)
end Go.V
end
section
namespace Go.V
open Go
section
variable {K V : Type} {q : K → K → Bool} {z : V}
def getR (q : K → K → Bool) (z : V) (k : K) : List (K × V) → V
 | [] => z
 | e :: l => if q k e.1 then e.2 else getR q z k l
def setR (q : K → K → Bool) (k : K) (v : V) : List (K × V) → List (K × V)
 | [] => [(k, v)]
 | e :: l => if q k e.1 then (k, v) :: l else e :: setR q k v l
theorem zuy (k : K) : ∀ (es : List K) (i : Nat), kIdx q k es (i + 1) = (kIdx q k es i).map (· + 1)
 | [], _ => rfl
 | e :: es, i => by
  unfold kIdx
  cases q k e with
  | true => rfl
  | false => exact zuy k es (i + 1)
theorem zsf (k : K) : ∀ l : List (K × V), mapGet q z l k = getR q z k l
 | [] => rfl
 | e :: l => by
  have ih := zsf k l
  unfold mapGet at ih ⊢
  rw [List.map_cons]
  unfold kIdx getR
  cases hq : q k e.1 with
  | true => rfl
  | false =>
   simp only [cond_false, Bool.false_eq_true, if_false]
   rw [zuy]
   cases h : kIdx q k (l.map (·.1)) 0 with
   | none => rw [h] at ih; exact ih
   | some i => rw [h] at ih; simpa using ih
theorem zyo (k : K) (v : V) : ∀ l : List (K × V), mapSet q l k v = setR q k v l
 | [] => rfl
 | e :: l => by
  have ih := zyo k v l
  unfold mapSet at ih ⊢
  rw [List.map_cons]
  unfold kIdx setR
  cases hq : q k e.1 with
  | true => rfl
  | false =>
   simp only [cond_false, Bool.false_eq_true, if_false]
   rw [zuy]
   cases h : kIdx q k (l.map (·.1)) 0 with
   | none => rw [h] at ih; simpa using ih
   | some i => rw [h] at ih; simpa using ih
theorem zyx (hq : ∀ a b, q a b = true ↔ a = b) (k k' : K) (v : V) : ∀ l : List (K × V), getR q z k' (setR q k v l) = if q k' k then v else getR q z k' l
 | [] => rfl
 | e :: l => by
  have ih := zyx hq k k' v l
  unfold setR
  cases he : q k e.1 with
  | true =>
   have e1 := (hq _ _).1 he
   simp only [if_true, getR, ← e1]
   split <;> rfl
  | false =>
   simp only [Bool.false_eq_true, if_false, getR, ih]
   cases h1 : q k' e.1 with
   | true =>
    have e1 := (hq _ _).1 h1
    have : q k' k = false := by
     cases h2 : q k' k with
     | false => rfl
     | true =>
      have e2 := (hq _ _).1 h2
      rw [e2] at e1
      rw [e1, (hq _ _).2 rfl] at he
      cases he
    rw [this]
    simp
   | false => simp
theorem zaaw (hq : ∀ a b, q a b = true ↔ a = b) (k k' : K) (v : V) (l : List (K × V)) : mapGet q z (mapSet q l k v) k' = if q k' k then v else mapGet q z l k' := by
 rw [zsf, zsf, zyo, zyx hq]
end
end Go.V
end
section
set_option linter.defProp false
namespace Go.V
open Go
theorem zabi {ks : List Value} {vs : List VV} : normV (.mt ks vs) = .mt ks vs := by simp [normV]
theorem zavk {K V : Type} {kv : K → Value} {ev : V → VV} {l : List (K × V)} : (encM kv ev l).map (·.1) = mtK kv l := by simp [encM, mtK, Function.comp_def]
theorem zaty {K V : Type} {kv : K → Value} {ev : V → VV} (h : ∀ H d v, showV H d (ev v) = ev v) {l : List (K × V)} {H : Nat → Option VObj} {d : Nat} : ((encM kv ev l).map (·.2)).map (showV H d) = mtV ev l := by
 simp [encM, mtV, Function.comp_def, h]
theorem mt_tr {K V : Type} {kv : K → Value} {ev : V → VV} (h : ∀ v, (ev v).tree = true) {l : List (K × V)} : (VV.mt (mtK kv l) (mtV ev l)).tree = true := zadn h l
theorem zabn {H : Nat → Option VObj} {d : Nat} {ks : List Value} {vs : List VV} : showV H d (.mt ks vs) = .mt ks vs := by cases d <;> rfl
end Go.V
end
section
namespace Go.V
open Go Go.Proofs
def kv138 (k : Gf) : Value := .agg ⟨[.int .i64 k.pigment, .int .i64 k.years]⟩
def q138 (a b : Gf) : Bool := (a.pigment == b.pigment) && ((a.years == b.years) && true)
def ev4 (n : Bool) : VV := .lit (.bool n)
theorem he138 (a b : Gf) : evalP Tryz.prog (Op.equal 138 (kv138 a) (kv138 b)) = some (q138 a b) := by
 have e : Op.maxDepth = 9998 + 2 := rfl
 unfold Op.equal kv138
 rw [e, zrz Tryz.underlying138 (by kernel_rfl) (r := q138 a b) (by kernel_rfl)]
theorem hc138 (b : Bool) (k : Gf) : evalP Tryz.prog (Instr.checkKey b 10000 138 (kv138 k)) = some () := by
 cases b <;> kernel_rfl
theorem hq138 (a b : Gf) (h : q138 a b = true) : a = b := by
 cases a; cases b
 simp only [q138, Bool.and_true, Bool.and_eq_true, beq_iff_eq] at h
 simp only [h]
theorem hs138 (a : Gf) : Instr.sameBits 10000 (kv138 a) (kv138 a) = true := by
 simp [kv138, Instr.sameBits]
theorem hz4 : ((Tryz.prog.info? 4).bind (·.zero)).map ofVal2 = some (ev4 false) := by kernel_rfl
theorem hk138 (k : Gf) : VV.val? (.agg [.lit (.int .i64 k.pigment), .lit (.int .i64 k.years)]) = some (kv138 k) := rfl
theorem up135 {β : Nat} (l : List (Gf × Bool)) (k : Gf) (n : Bool) (H : Nat → Option VObj) (hb : H β = some (.map (encM kv138 ev4 l))) : vmapUpdate Tryz.prog H 135 (.mp β) (.agg [.lit (.int .i64 k.pigment), .lit (.int .i64 k.years)]) (.lit (.bool n)) = some (.upd β (.map (encM kv138 ev4 (mapSet q138 l k n)))) :=
 zadg Tryz.underlying135 Tryz.underlying138 he138 hc138 hq138 hs138 (hk138 k) hb
theorem ld135 {c : VV} {cs : List VV} : vload Tryz.prog 135 (c :: cs) = some c := by
 have h1 : aggT Tryz.prog 135 = some false := by kernel_rfl
 simp [vload, vpart, h1]
theorem sz135 : szT Tryz.prog 135 = some 1 := by kernel_rfl
theorem vzl135 : vzl Tryz.prog 135 = some [.lit (.map none)] := by kernel_rfl
theorem lkt135 {l : List (Gf × Bool)} {a0 a1 : Int} {H : Nat → Option VObj} : vlookup Tryz.prog H 135 (.mt (mtK kv138 l) (mtV ev4 l)) (.agg [.lit (.int .i64 a0), .lit (.int .i64 a1)]) false = some (.lit (.bool (mapGet q138 false l (Gf.mk a0 a1)))) :=
 zzg Tryz.underlying135 Tryz.underlying138 he138 hc138 hz4 (k := ⟨a0, a1⟩) rfl
theorem et4 (n : Bool) : (ev4 n).tree = true := rfl
theorem sh4 (H : Nat → Option VObj) (d : Nat) (n : Bool) : showV H d (ev4 n) = ev4 n := by cases d <;> rfl
theorem mv4 {kv : Gf → Value} {l : List (Gf × Bool)} {H : Nat → Option VObj} {d : Nat} : ((encM kv ev4 l).map (·.2)).map (showV H d) = mtV ev4 l := zaty sh4
theorem mtr4 {kv : Gf → Value} {l : List (Gf × Bool)} : (VV.mt (mtK kv l) (mtV ev4 l)).tree = true := mt_tr et4
def mqr := And.intro (And.intro @zabi @zabn) (And.intro @mtr4 True.intro)
def mqt := And.intro (And.intro (And.intro @ld135 @sz135) (And.intro @vzl135 @lkt135)) (And.intro (And.intro @zabi @zabn) (And.intro @zavk @mv4))
end Go.V
end
section
namespace Go.V
open Go Go.Proofs
def zae (x0_x : Gm) (x1_years : Int) (x3_has : GSpan) (r1 : Int) : Nat → Int → Option (LOut (Bool) (Int))
 | 0, _ => none
 | k2 + 1, c2_10 => cond (decide (c2_10 ≤ x0_x.sh.Fade.a2.High)) (Option.bind (zcn x0_x.sh.Old.a2 x1_years c2_10) (fun r8 => cond (decide ((IntKind.i64.wrap ((IntKind.i64.wrap (r1 * r8)) - (IntKind.i64.wrap (r1 * x0_x.sh.Off)))) ≤ x3_has.High)) (cond (decide (x3_has.Low ≤ (IntKind.i64.wrap ((IntKind.i64.wrap (r1 * r8)) + (IntKind.i64.wrap (r1 * x0_x.sh.Off)))))) (some (.ret true)) (zae x0_x x1_years x3_has r1 k2 (IntKind.i64.wrap (c2_10 + 1)))) (zae x0_x x1_years x3_has r1 k2 (IntKind.i64.wrap (c2_10 + 1))))) (some (.go c2_10))
def zah (x0_x : Gm) (x1_years : Int) (x3_has : GSpan) (r1 : Int) : Nat → Int → Option (LOut (Bool) (Int))
 | 0, _ => none
 | k1 + 1, c1_10 => cond (decide (c1_10 ≤ x0_x.sh.Fade.a1.High)) (Option.bind (zcn x0_x.sh.Old.a1 x1_years c1_10) (fun r5 => cond (decide ((IntKind.i64.wrap ((IntKind.i64.wrap (r1 * r5)) - (IntKind.i64.wrap (r1 * x0_x.sh.Off)))) ≤ x3_has.High)) (cond (decide (x3_has.Low ≤ (IntKind.i64.wrap ((IntKind.i64.wrap (r1 * r5)) + (IntKind.i64.wrap (r1 * x0_x.sh.Off)))))) (some (.ret true)) (zah x0_x x1_years x3_has r1 k1 (IntKind.i64.wrap (c1_10 + 1)))) (zah x0_x x1_years x3_has r1 k1 (IntKind.i64.wrap (c1_10 + 1))))) (some (.go c1_10))
def zag (x0_x : Gm) (x1_years : Int) (x3_has : GSpan) (r1 : Int) : Nat → Int → Option (LOut (Bool) (Int))
 | 0, _ => none
 | k0 + 1, c0_10 => cond (decide (c0_10 ≤ x0_x.sh.Fade.a0.High)) (Option.bind (zcn x0_x.sh.Old.a0 x1_years c0_10) (fun r2 => cond (decide ((IntKind.i64.wrap ((IntKind.i64.wrap (r1 * r2)) - (IntKind.i64.wrap (r1 * x0_x.sh.Off)))) ≤ x3_has.High)) (cond (decide (x3_has.Low ≤ (IntKind.i64.wrap ((IntKind.i64.wrap (r1 * r2)) + (IntKind.i64.wrap (r1 * x0_x.sh.Off)))))) (some (.ret true)) (zag x0_x x1_years x3_has r1 k0 (IntKind.i64.wrap (c0_10 + 1)))) (zag x0_x x1_years x3_has r1 k0 (IntKind.i64.wrap (c0_10 + 1))))) (some (.go c0_10))
def zbf (x0_x : Gm) (x1_years : Int) (xpg2 : Int) (x3_has : GSpan) : Option (Bool) := Option.bind (zcj x0_x) (fun r1 => cond (xpg2 == 0) (lbind (zag x0_x x1_years x3_has r1 1000000 x0_x.sh.Fade.a0.Low) (fun r4 => some r4) (fun c3 => some false) (fun _ _ => none)) (cond (xpg2 == 1) (lbind (zah x0_x x1_years x3_has r1 1000000 x0_x.sh.Fade.a1.Low) (fun r7 => some r7) (fun c6 => some false) (fun _ _ => none)) (cond (xpg2 == 2) (lbind (zae x0_x x1_years x3_has r1 1000000 x0_x.sh.Fade.a2.Low) (fun r10 => some r10) (fun c9 => some false) (fun _ _ => none)) (none))))
theorem zdf (x0_x : Gm) (x1_years : Int) (xpg2 : Int) (x3_has : GSpan) (R : Bool) (h : zbf x0_x x1_years xpg2 x3_has = some R) : VPure Tryz.prog G0 122 [.agg (cGm x0_x), .lit (.int .i64 x1_years), .lit (.int .i64 xpg2), .agg (cGSpan x3_has)] (.tree (.lit (.bool R))) := by
 refine VPure.runR mixed Tryz.call122 Tryz.func122 rfl (by simp [Tryz.ntmps122]; kernel_rfl) ?_
 obtain ⟨KF, h, kF, kN⟩ := zan h
 simp only [zbf] at h
 obtain ⟨r11, o12, h⟩ := optI h kN
 try simp only [hs] at h
 simp only [vz, tyf, nm, seval]
 refine ktA (zea _ _ o12) ?_
 refine zab (fun tm => tm 1 = .lit (.int .i64 x1_years) ∧ tm 2 = .lit (.int .i64 xpg2) ∧ tm 4 = .ptr 0 0 ∧ tm 7 = .ptr 1 0 ∧ tm 13 = .lit (.int .i64 r11) ∧ True) (by refine ⟨?_, ?_, ?_, ?_, ?_, trivial⟩ <;> first | (simp only [ua, nm, seval] <;> rfl) | rfl) ?_
 rintro tm ⟨e13, e14, e15, e16, e17, _⟩
 cases d18 : (xpg2 == 0)
 ·simp only [d18, hs] at h
  cases d19 : (xpg2 == 1)
  ·simp only [d19, hs] at h
   cases d20 : (xpg2 == 2)
   ·simp only [d20, hs] at h
    exact absurd h kN
   simp only [d20, hs] at h
   simp only [vz, tyf, e13, e14, e15, e16, e17, d18, d19, d20, (zgk d20), nm, seval]
   obtain ⟨K21, h, kR21, kG21, kB21, kN21⟩ := zax h kN
   obtain ⟨f21, hf21, h⟩ := call2 h
   obtain ⟨I21, hI21⟩ : ∃ I : Nat → St → Prop, I = (fun m st => ∃ (p21 : Nat) (c21_10 : Int), p21 = m ∧ st.df = [] ∧ 13 ≤ st.nx ∧ st.H 0 = some (.cells (some 89) (cGm x0_x)) ∧ st.H 1 = some (.cells (some 24) (cGSpan x3_has)) ∧ st.tm 1 = .lit (.int .i64 x1_years) ∧ st.tm 2 = .lit (.int .i64 xpg2) ∧ st.tm 4 = .ptr 0 0 ∧ st.tm 7 = .ptr 1 0 ∧ st.tm 9 = .lit (.int .i64 r11) ∧ st.tm 10 = .lit (.int .i64 c21_10) ∧ K21 (f21 p21 c21_10)) := ⟨_, rfl⟩
   refine loopK mixed (by kernel_rfl) I21 1000000 (by rw [hI21]; refine ⟨1000000, x0_x.sh.Fade.a2.Low, rfl, rfl, (show 13 ≤ 13 by omega), ?_, ?_, e13, e14, e15, e16, ?_, ?_, h⟩ <;> first | (simp only [ua, e13, e14, e15, e16, e17, d18, d19, d20, nm, seval] <;> rfl) | rfl) ?_
   rintro m ⟨tm, H, nx21, df⟩ hinv
   rw [hI21] at hinv
   obtain ⟨p21, c21_10, rfl, hdf, hn21, H22, H23, e24, e25, e26, e27, e28, e29, h⟩ := hinv
   simp only at hdf hn21 H22 H23 e24 e25 e26 e27 e28 e29
   have n30 := zcl (m := 13) (b := nx21) (by omega)
   subst hdf hf21
   cases p21 with
   | zero =>
    simp only [zag, zah, zae, hs, reduceCtorEq] at h
    exact absurd h kN21
   | succ p21 =>
    simp only [zag, zah, zae, hs, reduceCtorEq] at h
    cases d31 : (decide (c21_10 ≤ x0_x.sh.Fade.a2.High))
    ·simp only [d31, hs] at h
     have b32 := And.intro d18 (And.intro d19 (And.intro d20 (And.intro n30 (And.intro H22 (And.intro H23 d31)))))
     replace h := kG21 _ h
     try dsimp only at h
     try simp only [hs] at h
     try simp only [vz, tyf, b32, (zgk d20), e24, e25, e26, e27, e28, e29, nm, seval]
     obtain rfl := kF _ h
     exact zac Tryz.results122 rfl
    simp only [d31, hs] at h
    have b33 := And.intro d18 (And.intro d19 (And.intro d20 (And.intro n30 (And.intro H22 (And.intro H23 d31)))))
    obtain ⟨r34, o35, h⟩ := optI h kN21
    try simp only [hs] at h
    simp only [vz, tyf, b33, (zgk d20), e24, e25, e26, e27, e28, e29, (zki d20), nm, seval]
    refine ktA (zdh _ _ _ _ o35) ?_
    refine zab (fun tm => tm 1 = .lit (.int .i64 x1_years) ∧ tm 2 = .lit (.int .i64 xpg2) ∧ tm 4 = .ptr 0 0 ∧ tm 7 = .ptr 1 0 ∧ tm 9 = .lit (.int .i64 r11) ∧ tm 10 = .lit (.int .i64 c21_10) ∧ tm 30 = .lit (.int .i64 r11) ∧ tm 38 = .lit (.int .i64 r34) ∧ True) (by refine ⟨e24, e25, e26, e27, e28, e29, ?_, ?_, trivial⟩ <;> first | (simp only [ua, b33, e24, e25, e26, e27, e28, e29, nm, seval] <;> rfl) | rfl) ?_
    rintro tm ⟨e36, e37, e38, e39, e40, e41, e42, e43, _⟩
    cases d44 : (decide ((IntKind.i64.wrap ((IntKind.i64.wrap (r11 * r34)) - (IntKind.i64.wrap (r11 * x0_x.sh.Off)))) ≤ x3_has.High))
    ·simp only [d44, hs] at h
     simp only [vz, tyf, b33, (zgk d20), (zki d20), e36, e37, e38, e39, e40, e41, e42, e43, d44, nm, seval]
     exact ⟨p21, Nat.lt_succ_self _, by rw [hI21]; refine ⟨p21, IntKind.i64.wrap (c21_10 + 1), rfl, rfl, (show 13 ≤ nx21 + 44 by omega), ?_, ?_, e36, e37, e38, e39, e40, ?_, h⟩ <;> first | (simp only [ua, b33, e36, e37, e38, e39, e40, e41, e42, e43, d44, nm, seval] <;> rfl) | rfl⟩
    simp only [d44, hs] at h
    cases d45 : (decide (x3_has.Low ≤ (IntKind.i64.wrap ((IntKind.i64.wrap (r11 * r34)) + (IntKind.i64.wrap (r11 * x0_x.sh.Off))))))
    ·simp only [d45, hs] at h
     simp only [vz, tyf, b33, (zgk d20), (zki d20), e36, e37, e38, e39, e40, e41, e42, e43, d44, d45, nm, seval]
     exact ⟨p21, Nat.lt_succ_self _, by rw [hI21]; refine ⟨p21, IntKind.i64.wrap (c21_10 + 1), rfl, rfl, (show 13 ≤ nx21 + 44 by omega), ?_, ?_, e36, e37, e38, e39, e40, ?_, h⟩ <;> first | (simp only [ua, b33, e36, e37, e38, e39, e40, e41, e42, e43, d44, d45, nm, seval] <;> rfl) | rfl⟩
    simp only [d45, hs] at h
    try simp only [vz, tyf, b33, (zgk d20), (zki d20), e36, e37, e38, e39, e40, e41, e42, e43, d44, d45, nm, seval]
    replace h := kR21 _ h
    try dsimp only at h
    obtain rfl := kF _ h
    exact zac Tryz.results122 rfl
  simp only [d19, hs] at h
  simp only [vz, tyf, e13, e14, e15, e16, e17, d18, d19, (zgl d19), nm, seval]
  obtain ⟨K46, h, kR46, kG46, kB46, kN46⟩ := zax h kN
  obtain ⟨f46, hf46, h⟩ := call2 h
  obtain ⟨I46, hI46⟩ : ∃ I : Nat → St → Prop, I = (fun m st => ∃ (p46 : Nat) (c46_10 : Int), p46 = m ∧ st.df = [] ∧ 13 ≤ st.nx ∧ st.H 0 = some (.cells (some 89) (cGm x0_x)) ∧ st.H 1 = some (.cells (some 24) (cGSpan x3_has)) ∧ st.tm 1 = .lit (.int .i64 x1_years) ∧ st.tm 2 = .lit (.int .i64 xpg2) ∧ st.tm 4 = .ptr 0 0 ∧ st.tm 7 = .ptr 1 0 ∧ st.tm 9 = .lit (.int .i64 r11) ∧ st.tm 10 = .lit (.int .i64 c46_10) ∧ K46 (f46 p46 c46_10)) := ⟨_, rfl⟩
  refine loopK mixed (by kernel_rfl) I46 1000000 (by rw [hI46]; refine ⟨1000000, x0_x.sh.Fade.a1.Low, rfl, rfl, (show 13 ≤ 13 by omega), ?_, ?_, e13, e14, e15, e16, ?_, ?_, h⟩ <;> first | (simp only [ua, e13, e14, e15, e16, e17, d18, d19, nm, seval] <;> rfl) | rfl) ?_
  rintro m ⟨tm, H, nx46, df⟩ hinv
  rw [hI46] at hinv
  obtain ⟨p46, c46_10, rfl, hdf, hn46, H47, H48, e49, e50, e51, e52, e53, e54, h⟩ := hinv
  simp only at hdf hn46 H47 H48 e49 e50 e51 e52 e53 e54
  have n55 := zcl (m := 13) (b := nx46) (by omega)
  subst hdf hf46
  cases p46 with
  | zero =>
   simp only [zag, zah, zae, hs, reduceCtorEq] at h
   exact absurd h kN46
  | succ p46 =>
   simp only [zag, zah, zae, hs, reduceCtorEq] at h
   cases d56 : (decide (c46_10 ≤ x0_x.sh.Fade.a1.High))
   ·simp only [d56, hs] at h
    replace h := kG46 _ h
    try dsimp only at h
    try simp only [hs] at h
    try simp only [vz, tyf, d18, d19, (zgl d19), n55, e49, e50, e51, e52, e53, e54, H47, H48, d56, nm, seval]
    obtain rfl := kF _ h
    exact zac Tryz.results122 rfl
   simp only [d56, hs] at h
   obtain ⟨r57, o58, h⟩ := optI h kN46
   try simp only [hs] at h
   simp only [vz, tyf, d18, d19, (zgl d19), n55, e49, e50, e51, e52, e53, e54, H47, H48, d56, (zkj d19), nm, seval]
   refine ktA (zdh _ _ _ _ o58) ?_
   refine zab (fun tm => tm 1 = .lit (.int .i64 x1_years) ∧ tm 2 = .lit (.int .i64 xpg2) ∧ tm 4 = .ptr 0 0 ∧ tm 7 = .ptr 1 0 ∧ tm 9 = .lit (.int .i64 r11) ∧ tm 10 = .lit (.int .i64 c46_10) ∧ tm 30 = .lit (.int .i64 r11) ∧ tm 38 = .lit (.int .i64 r57) ∧ True) (by refine ⟨e49, e50, e51, e52, e53, e54, ?_, ?_, trivial⟩ <;> first | (simp only [ua, d18, d19, n55, e49, e50, e51, e52, e53, e54, H47, H48, d56, nm, seval] <;> rfl) | rfl) ?_
   rintro tm ⟨e59, e60, e61, e62, e63, e64, e65, e66, _⟩
   cases d67 : (decide ((IntKind.i64.wrap ((IntKind.i64.wrap (r11 * r57)) - (IntKind.i64.wrap (r11 * x0_x.sh.Off)))) ≤ x3_has.High))
   ·simp only [d67, hs] at h
    have b68 := And.intro d18 (And.intro d19 (And.intro n55 (And.intro H47 (And.intro H48 (And.intro d56 d67)))))
    simp only [vz, tyf, b68, (zgl d19), (zkj d19), e59, e60, e61, e62, e63, e64, e65, e66, nm, seval]
    exact ⟨p46, Nat.lt_succ_self _, by rw [hI46]; refine ⟨p46, IntKind.i64.wrap (c46_10 + 1), rfl, rfl, (show 13 ≤ nx46 + 44 by omega), ?_, ?_, e59, e60, e61, e62, e63, ?_, h⟩ <;> first | (simp only [ua, b68, e59, e60, e61, e62, e63, e64, e65, e66, nm, seval] <;> rfl) | rfl⟩
   simp only [d67, hs] at h
   have b69 := And.intro d18 (And.intro d19 (And.intro n55 (And.intro H47 (And.intro H48 (And.intro d56 d67)))))
   cases d70 : (decide (x3_has.Low ≤ (IntKind.i64.wrap ((IntKind.i64.wrap (r11 * r57)) + (IntKind.i64.wrap (r11 * x0_x.sh.Off))))))
   ·simp only [d70, hs] at h
    simp only [vz, tyf, b69, (zgl d19), (zkj d19), e59, e60, e61, e62, e63, e64, e65, e66, d70, nm, seval]
    exact ⟨p46, Nat.lt_succ_self _, by rw [hI46]; refine ⟨p46, IntKind.i64.wrap (c46_10 + 1), rfl, rfl, (show 13 ≤ nx46 + 44 by omega), ?_, ?_, e59, e60, e61, e62, e63, ?_, h⟩ <;> first | (simp only [ua, b69, e59, e60, e61, e62, e63, e64, e65, e66, d70, nm, seval] <;> rfl) | rfl⟩
   simp only [d70, hs] at h
   try simp only [vz, tyf, b69, (zgl d19), (zkj d19), e59, e60, e61, e62, e63, e64, e65, e66, d70, nm, seval]
   replace h := kR46 _ h
   try dsimp only at h
   obtain rfl := kF _ h
   exact zac Tryz.results122 rfl
 simp only [d18, hs] at h
 simp only [vz, tyf, e13, e14, e15, e16, e17, d18, (zgm d18), nm, seval]
 obtain ⟨K71, h, kR71, kG71, kB71, kN71⟩ := zax h kN
 obtain ⟨f71, hf71, h⟩ := call2 h
 obtain ⟨I71, hI71⟩ : ∃ I : Nat → St → Prop, I = (fun m st => ∃ (p71 : Nat) (c71_10 : Int), p71 = m ∧ st.df = [] ∧ 13 ≤ st.nx ∧ st.H 0 = some (.cells (some 89) (cGm x0_x)) ∧ st.H 1 = some (.cells (some 24) (cGSpan x3_has)) ∧ st.tm 1 = .lit (.int .i64 x1_years) ∧ st.tm 2 = .lit (.int .i64 xpg2) ∧ st.tm 4 = .ptr 0 0 ∧ st.tm 7 = .ptr 1 0 ∧ st.tm 9 = .lit (.int .i64 r11) ∧ st.tm 10 = .lit (.int .i64 c71_10) ∧ K71 (f71 p71 c71_10)) := ⟨_, rfl⟩
 refine loopK mixed (by kernel_rfl) I71 1000000 (by rw [hI71]; refine ⟨1000000, x0_x.sh.Fade.a0.Low, rfl, rfl, (show 13 ≤ 13 by omega), ?_, ?_, e13, e14, e15, e16, ?_, ?_, h⟩ <;> first | (simp only [ua, e13, e14, e15, e16, e17, d18, nm, seval] <;> rfl) | rfl) ?_
 rintro m ⟨tm, H, nx71, df⟩ hinv
 rw [hI71] at hinv
 obtain ⟨p71, c71_10, rfl, hdf, hn71, H72, H73, e74, e75, e76, e77, e78, e79, h⟩ := hinv
 simp only at hdf hn71 H72 H73 e74 e75 e76 e77 e78 e79
 have n80 := zcl (m := 13) (b := nx71) (by omega)
 subst hdf hf71
 cases p71 with
 | zero =>
  simp only [zag, zah, zae, hs, reduceCtorEq] at h
  exact absurd h kN71
 | succ p71 =>
  simp only [zag, zah, zae, hs, reduceCtorEq] at h
  cases d81 : (decide (c71_10 ≤ x0_x.sh.Fade.a0.High))
  ·simp only [d81, hs] at h
   replace h := kG71 _ h
   try dsimp only at h
   try simp only [hs] at h
   try simp only [vz, tyf, d18, (zgm d18), n80, e74, e75, e76, e77, e78, e79, H72, H73, d81, nm, seval]
   obtain rfl := kF _ h
   exact zac Tryz.results122 rfl
  simp only [d81, hs] at h
  obtain ⟨r82, o83, h⟩ := optI h kN71
  try simp only [hs] at h
  simp only [vz, tyf, d18, (zgm d18), n80, e74, e75, e76, e77, e78, e79, H72, H73, d81, (zkg d18), nm, seval]
  refine ktA (zdh _ _ _ _ o83) ?_
  refine zab (fun tm => tm 1 = .lit (.int .i64 x1_years) ∧ tm 2 = .lit (.int .i64 xpg2) ∧ tm 4 = .ptr 0 0 ∧ tm 7 = .ptr 1 0 ∧ tm 9 = .lit (.int .i64 r11) ∧ tm 10 = .lit (.int .i64 c71_10) ∧ tm 30 = .lit (.int .i64 r11) ∧ tm 38 = .lit (.int .i64 r82) ∧ True) (by refine ⟨e74, e75, e76, e77, e78, e79, ?_, ?_, trivial⟩ <;> first | (simp only [ua, d18, n80, e74, e75, e76, e77, e78, e79, H72, H73, d81, nm, seval] <;> rfl) | rfl) ?_
  rintro tm ⟨e84, e85, e86, e87, e88, e89, e90, e91, _⟩
  cases d92 : (decide ((IntKind.i64.wrap ((IntKind.i64.wrap (r11 * r82)) - (IntKind.i64.wrap (r11 * x0_x.sh.Off)))) ≤ x3_has.High))
  ·simp only [d92, hs] at h
   simp only [vz, tyf, d18, (zgm d18), n80, H72, H73, d81, (zkg d18), e84, e85, e86, e87, e88, e89, e90, e91, d92, nm, seval]
   exact ⟨p71, Nat.lt_succ_self _, by rw [hI71]; refine ⟨p71, IntKind.i64.wrap (c71_10 + 1), rfl, rfl, (show 13 ≤ nx71 + 44 by omega), ?_, ?_, e84, e85, e86, e87, e88, ?_, h⟩ <;> first | (simp only [ua, d18, n80, H72, H73, d81, e84, e85, e86, e87, e88, e89, e90, e91, d92, nm, seval] <;> rfl) | rfl⟩
  simp only [d92, hs] at h
  cases d93 : (decide (x3_has.Low ≤ (IntKind.i64.wrap ((IntKind.i64.wrap (r11 * r82)) + (IntKind.i64.wrap (r11 * x0_x.sh.Off))))))
  ·simp only [d93, hs] at h
   have b94 := And.intro d18 (And.intro n80 (And.intro H72 (And.intro H73 (And.intro d81 (And.intro d92 d93)))))
   simp only [vz, tyf, b94, (zgm d18), (zkg d18), e84, e85, e86, e87, e88, e89, e90, e91, nm, seval]
   exact ⟨p71, Nat.lt_succ_self _, by rw [hI71]; refine ⟨p71, IntKind.i64.wrap (c71_10 + 1), rfl, rfl, (show 13 ≤ nx71 + 44 by omega), ?_, ?_, e84, e85, e86, e87, e88, ?_, h⟩ <;> first | (simp only [ua, b94, e84, e85, e86, e87, e88, e89, e90, e91, nm, seval] <;> rfl) | rfl⟩
  simp only [d93, hs] at h
  have b95 := And.intro d18 (And.intro n80 (And.intro H72 (And.intro H73 (And.intro d81 (And.intro d92 d93)))))
  try simp only [vz, tyf, b95, (zgm d18), (zkg d18), e84, e85, e86, e87, e88, e89, e90, e91, nm, seval]
  replace h := kR71 _ h
  try dsimp only at h
  obtain rfl := kF _ h
  exact zac Tryz.results122 rfl
end Go.V
end
section
namespace Go.V
open Go Go.Proofs
def zap (x0_x : Gm) (r1 : Ga) : Nat → Int → (List (Gf × Bool)) → Option (LOut (List (Gf × Bool)) (Int × (List (Gf × Bool))))
 | 0, _, _ => none
 | k2 + 1, c2_6, c2_o0 => cond (decide (c2_6 ≤ x0_x.sh.Years.High)) (Option.bind (zbf x0_x c2_6 2 r1.a2) (fun r7 => zap x0_x r1 k2 (IntKind.i64.wrap (c2_6 + 1)) (mapSet q138 c2_o0 (Gf.mk 2 c2_6) r7))) (some (.go (c2_6, c2_o0)))
def zaq (x0_x : Gm) (r1 : Ga) : Nat → Int → (List (Gf × Bool)) → Option (LOut (List (Gf × Bool)) (Int × (List (Gf × Bool))))
 | 0, _, _ => none
 | k1 + 1, c1_6, c1_o0 => cond (decide (c1_6 ≤ x0_x.sh.Years.High)) (Option.bind (zbf x0_x c1_6 1 r1.a1) (fun r5 => zaq x0_x r1 k1 (IntKind.i64.wrap (c1_6 + 1)) (mapSet q138 c1_o0 (Gf.mk 1 c1_6) r5))) (some (.go (c1_6, c1_o0)))
def zar (x0_x : Gm) (r1 : Ga) : Nat → Int → (List (Gf × Bool)) → Option (LOut (List (Gf × Bool)) (Int × (List (Gf × Bool))))
 | 0, _, _ => none
 | k0 + 1, c0_6, c0_o0 => cond (decide (c0_6 ≤ x0_x.sh.Years.High)) (Option.bind (zbf x0_x c0_6 0 r1.a0) (fun r3 => zar x0_x r1 k0 (IntKind.i64.wrap (c0_6 + 1)) (mapSet q138 c0_o0 (Gf.mk 0 c0_6) r3))) (some (.go (c0_6, c0_o0)))
def zde (x0_x : Gm) : Option (List (Gf × Bool)) := Option.bind (zdr x0_x) (fun r1 => lbind (zar x0_x r1 1000000 x0_x.sh.Years.Low ([] : List (Gf × Bool))) (fun r11 => some r11) (fun c4 => lbind (zaq x0_x r1 1000000 x0_x.sh.Years.Low c4.2) (fun r10 => some r10) (fun c6 => lbind (zap x0_x r1 1000000 x0_x.sh.Years.Low c6.2) (fun r9 => some r9) (fun c8 => some c8.2) (fun _ _ => none)) (fun _ _ => none)) (fun _ _ => none))
theorem zik (x0_x : Gm) (R : List (Gf × Bool)) (h : zde x0_x = some R) : VPure Tryz.prog G0 103 [.agg (cGm x0_x)] (.tree (.mt (mtK kv138 R) (mtV ev4 R))) := by
 refine VPure.runM mixed Tryz.call103 Tryz.func103 rfl (by simp [Tryz.ntmps103]; kernel_rfl) ?_
 obtain ⟨KF, h, kF, kN⟩ := zan h
 simp only [zde] at h
 obtain ⟨r12, o13, h⟩ := optI h kN
 try simp only [hs] at h
 simp only [vz, mq, mqm, tyf, mqt, nm, seval]
 refine ktree (args0 := [.agg (cGm x0_x)]) (by first | (simp only [nrm, tynrm, mqr] <;> rfl) | rfl) (by simp only [tre, tytre, mqr, Bool.and_self]) (zhf _ _ o13) ?_
 refine zab (fun tm => tm 1 = .ptr 0 0 ∧ tm 3 = .mp 2 ∧ tm 9 = .agg (cGa r12) ∧ True) (by refine ⟨?_, ?_, ?_, trivial⟩ <;> first | (simp only [ua, zdb, nm, seval] <;> rfl) | rfl) ?_
 rintro tm ⟨e14, e15, e16, _⟩
 simp only [vz, mq, mqm, tyf, mqt, e14, e15, e16, nm, seval]
 refine zfs mixed (by kernel_rfl) 4 ?_
 simp only [vz, mq, mqm, tyf, mqt, e14, e15, e16, nm, seval]
 obtain ⟨K17, h, kR17, kG17, kB17, kN17⟩ := zax h kN
 obtain ⟨f17, hf17, h⟩ := call3 h
 obtain ⟨I17, hI17⟩ : ∃ I : Nat → St → Prop, I = (fun m st => ∃ (p17 : Nat) (c17_6 : Int) (c17_o0 : List (Gf × Bool)), p17 = m ∧ st.df = [] ∧ 18 ≤ st.nx ∧ st.H 0 = some (.cells (some 89) (cGm x0_x)) ∧ st.H 2 = some (.map (encM kv138 ev4 c17_o0)) ∧ st.H 10 = some (.cells (some 24) (cGSpan r12.a0)) ∧ st.tm 1 = .ptr 0 0 ∧ st.tm 3 = .mp 2 ∧ st.tm 4 = .lit (.int .i64 0) ∧ st.tm 5 = .ptr 10 0 ∧ st.tm 9 = .agg (cGa r12) ∧ st.tm 10 = .lit (.int .i64 0) ∧ st.tm 6 = .lit (.int .i64 c17_6) ∧ K17 (f17 p17 c17_6 c17_o0)) := ⟨_, rfl⟩
 refine loopK mixed (by kernel_rfl) I17 1000000 (by rw [hI17]; refine ⟨1000000, x0_x.sh.Years.Low, ([] : List (Gf × Bool)), rfl, rfl, (show 18 ≤ 18 by omega), ?_, ?_, ?_, e14, e15, ?_, ?_, e16, ?_, ?_, h⟩ <;> first | (simp only [ua, zdb, e14, e15, e16, nm, seval] <;> rfl) | rfl) ?_
 rintro m ⟨tm, H, nx17, df⟩ hinv
 rw [hI17] at hinv
 obtain ⟨p17, c17_6, c17_o0, rfl, hdf, hn17, H18, H19, H20, e21, e22, e23, e24, e25, e26, e27, h⟩ := hinv
 simp only at hdf hn17 H18 H19 H20 e21 e22 e23 e24 e25 e26 e27
 have n28 := zcl (m := 18) (b := nx17) (by omega)
 subst hdf hf17
 cases p17 with
 | zero =>
  simp only [zar, zaq, zap, hs, reduceCtorEq] at h
  exact absurd h kN17
 | succ p17 =>
  simp only [zar, zaq, zap, hs, reduceCtorEq] at h
  cases d29 : (decide (c17_6 ≤ x0_x.sh.Years.High))
  ·simp only [d29, hs] at h
   replace h := kG17 _ h
   try dsimp only at h
   try simp only [hs] at h
   simp only [vz, mq, mqm, tyf, mqt, n28, e21, e22, e23, e24, e25, e26, e27, H18, H19, H20, d29, nm, seval]
   obtain ⟨K30, h, kR30, kG30, kB30, kN30⟩ := zax h kN
   obtain ⟨f30, hf30, h⟩ := call3 h
   obtain ⟨I30, hI30⟩ : ∃ I : Nat → St → Prop, I = (fun m st => ∃ (p30 : Nat) (c30_6 : Int) (c30_o0 : List (Gf × Bool)), p30 = m ∧ st.df = [] ∧ nx17 + 19 ≤ st.nx ∧ st.H 0 = some (.cells (some 89) (cGm x0_x)) ∧ st.H 2 = some (.map (encM kv138 ev4 c30_o0)) ∧ st.H (nx17 + 11) = some (.cells (some 24) (cGSpan r12.a1)) ∧ st.tm 1 = .ptr 0 0 ∧ st.tm 3 = .mp 2 ∧ st.tm 4 = .lit (.int .i64 1) ∧ st.tm 5 = .ptr (nx17 + 11) 0 ∧ st.tm 9 = .agg (cGa r12) ∧ st.tm 10 = .lit (.int .i64 1) ∧ st.tm 6 = .lit (.int .i64 c30_6) ∧ K30 (f30 p30 c30_6 c30_o0)) := ⟨_, rfl⟩
   refine loopK mixed (by kernel_rfl) I30 1000000 (by rw [hI30]; refine ⟨1000000, x0_x.sh.Years.Low, c17_o0, rfl, rfl, (show nx17 + 19 ≤ nx17 + 19 by omega), ?_, ?_, ?_, e21, e22, ?_, ?_, e25, ?_, ?_, h⟩ <;> first | (simp only [ua, zdb, n28, e21, e22, e23, e24, e25, e26, e27, H18, H19, H20, d29, nm, seval] <;> rfl) | rfl) ?_
   rintro m ⟨tm, H, nx30, df⟩ hinv
   rw [hI30] at hinv
   obtain ⟨p30, c30_6, c30_o0, rfl, hdf, hn30, H31, H32, H33, e34, e35, e36, e37, e38, e39, e40, h⟩ := hinv
   simp only at hdf hn30 H31 H32 H33 e34 e35 e36 e37 e38 e39 e40
   have n41 := zcl (m := 18) (b := nx30) (by omega)
   have n42 := zof (a := nx17) (m := 19) (b := nx30) (by omega)
   subst hdf hf30
   cases p30 with
   | zero =>
    simp only [zar, zaq, zap, hs, reduceCtorEq] at h
    exact absurd h kN30
   | succ p30 =>
    simp only [zar, zaq, zap, hs, reduceCtorEq] at h
    cases d43 : (decide (c30_6 ≤ x0_x.sh.Years.High))
    ·simp only [d43, hs] at h
     have b44 := And.intro n28 (And.intro d29 (And.intro n41 (And.intro n42 (And.intro H31 (And.intro H32 (And.intro H33 d43))))))
     replace h := kG30 _ h
     try dsimp only at h
     try simp only [hs] at h
     simp only [vz, mq, mqm, tyf, mqt, b44, e34, e35, e36, e37, e38, e39, e40, nm, seval]
     obtain ⟨K45, h, kR45, kG45, kB45, kN45⟩ := zax h kN
     obtain ⟨f45, hf45, h⟩ := call3 h
     obtain ⟨I45, hI45⟩ : ∃ I : Nat → St → Prop, I = (fun m st => ∃ (p45 : Nat) (c45_6 : Int) (c45_o0 : List (Gf × Bool)), p45 = m ∧ st.df = [] ∧ nx30 + 19 ≤ st.nx ∧ st.H 0 = some (.cells (some 89) (cGm x0_x)) ∧ st.H 2 = some (.map (encM kv138 ev4 c45_o0)) ∧ st.H (nx30 + 11) = some (.cells (some 24) (cGSpan r12.a2)) ∧ st.tm 1 = .ptr 0 0 ∧ st.tm 3 = .mp 2 ∧ st.tm 4 = .lit (.int .i64 2) ∧ st.tm 5 = .ptr (nx30 + 11) 0 ∧ st.tm 9 = .agg (cGa r12) ∧ st.tm 10 = .lit (.int .i64 2) ∧ st.tm 6 = .lit (.int .i64 c45_6) ∧ K45 (f45 p45 c45_6 c45_o0)) := ⟨_, rfl⟩
     refine loopK mixed (by kernel_rfl) I45 1000000 (by rw [hI45]; refine ⟨1000000, x0_x.sh.Years.Low, c30_o0, rfl, rfl, (show nx30 + 19 ≤ nx30 + 19 by omega), ?_, ?_, ?_, e34, e35, ?_, ?_, e38, ?_, ?_, h⟩ <;> first | (simp only [ua, zdb, b44, e34, e35, e36, e37, e38, e39, e40, nm, seval] <;> rfl) | rfl) ?_
     rintro m ⟨tm, H, nx45, df⟩ hinv
     rw [hI45] at hinv
     obtain ⟨p45, c45_6, c45_o0, rfl, hdf, hn45, H46, H47, H48, e49, e50, e51, e52, e53, e54, e55, h⟩ := hinv
     simp only at hdf hn45 H46 H47 H48 e49 e50 e51 e52 e53 e54 e55
     have n56 := zcl (m := 18) (b := nx45) (by omega)
     have n57 := zof (a := nx17) (m := 19) (b := nx45) (by omega)
     have n58 := zof (a := nx30) (m := 19) (b := nx45) (by omega)
     subst hdf hf45
     cases p45 with
     | zero =>
      simp only [zar, zaq, zap, hs, reduceCtorEq] at h
      exact absurd h kN45
     | succ p45 =>
      simp only [zar, zaq, zap, hs, reduceCtorEq] at h
      cases d59 : (decide (c45_6 ≤ x0_x.sh.Years.High))
      ·simp only [d59, hs] at h
       have b60 := And.intro b44 (And.intro n56 (And.intro n57 (And.intro n58 (And.intro H46 (And.intro H47 (And.intro H48 d59))))))
       replace h := kG45 _ h
       try dsimp only at h
       try simp only [hs] at h
       try simp only [vz, mq, mqm, tyf, mqt, b60, e49, e50, e51, e52, e53, e54, e55, nm, seval]
       refine zat (x := (.mp 2)) (by first | (simp only [Tryz.results103, resV, resL, resV1, zau, zbo, uw, cr, tyf, mqt, b60, nm, seval] <;> rfl) | rfl) ?_
       obtain rfl := kF _ h
       refine zauf et4 ?_
       ·simp only [uw, zdb, cr, tyf, mqt, b60, e49, e50, e51, e52, e53, e54, e55, nm, seval] <;> rfl
      simp only [d59, hs] at h
      have b61 := And.intro b44 (And.intro n56 (And.intro n57 (And.intro n58 (And.intro H46 (And.intro H47 (And.intro H48 d59))))))
      obtain ⟨r62, o63, h⟩ := optI h kN45
      try simp only [hs] at h
      simp only [vz, mq, mqm, tyf, mqt, b61, e49, e50, e51, e52, e53, e54, e55, nm, seval]
      refine ktree (args0 := [.agg (cGm x0_x), .lit (.int .i64 c45_6), .lit (.int .i64 2), .agg (cGSpan r12.a2)]) (by first | (simp only [nrm, tynrm, mqr] <;> rfl) | rfl) (by simp only [tre, tytre, mqr, Bool.and_self]) (zdf _ _ _ _ _ o63) ?_
      refine zab (fun tm => tm 1 = .ptr 0 0 ∧ tm 3 = .mp 2 ∧ tm 4 = .lit (.int .i64 2) ∧ tm 5 = .ptr (nx30 + 11) 0 ∧ tm 6 = .lit (.int .i64 c45_6) ∧ tm 9 = .agg (cGa r12) ∧ tm 10 = .lit (.int .i64 2) ∧ tm 26 = .mp 2 ∧ tm 29 = .agg ([.lit (.int .i64 2)] ++ [.lit (.int .i64 c45_6)]) ∧ tm 34 = .lit (.bool r62) ∧ True) (by refine ⟨e49, e50, e51, e52, e55, e53, e54, ?_, ?_, ?_, trivial⟩ <;> first | (simp only [ua, zdb, b61, e49, e50, e51, e52, e53, e54, e55, nm, seval] <;> rfl) | rfl) ?_
      rintro tm ⟨e64, e65, e66, e67, e68, e69, e70, e71, e72, e73, _⟩
      have w74 := fun H => up135 (β := 2) c45_o0 (Gf.mk 2 c45_6) r62 H
      try simp only [zdb] at w74
      simp only [vz, mq, mqm, tyf, mqt, b61, e64, e65, e66, e67, e68, e69, e70, e71, e72, e73, w74, nm, seval]
      exact ⟨p45, Nat.lt_succ_self _, by rw [hI45]; refine ⟨p45, IntKind.i64.wrap (c45_6 + 1), (mapSet q138 c45_o0 (Gf.mk 2 c45_6) r62), rfl, rfl, (show nx30 + 19 ≤ nx45 + 19 by omega), ?_, ?_, ?_, e64, e65, e66, e67, e69, e70, ?_, h⟩ <;> first | (simp only [ua, zdb, b61, e64, e65, e66, e67, e68, e69, e70, e71, e72, e73, w74, nm, seval] <;> rfl) | rfl⟩
    simp only [d43, hs] at h
    have b75 := And.intro n28 (And.intro d29 (And.intro n41 (And.intro n42 (And.intro H31 (And.intro H32 (And.intro H33 d43))))))
    obtain ⟨r76, o77, h⟩ := optI h kN30
    try simp only [hs] at h
    simp only [vz, mq, mqm, tyf, mqt, b75, e34, e35, e36, e37, e38, e39, e40, nm, seval]
    refine ktree (args0 := [.agg (cGm x0_x), .lit (.int .i64 c30_6), .lit (.int .i64 1), .agg (cGSpan r12.a1)]) (by first | (simp only [nrm, tynrm, mqr] <;> rfl) | rfl) (by simp only [tre, tytre, mqr, Bool.and_self]) (zdf _ _ _ _ _ o77) ?_
    refine zab (fun tm => tm 1 = .ptr 0 0 ∧ tm 3 = .mp 2 ∧ tm 4 = .lit (.int .i64 1) ∧ tm 5 = .ptr (nx17 + 11) 0 ∧ tm 6 = .lit (.int .i64 c30_6) ∧ tm 9 = .agg (cGa r12) ∧ tm 10 = .lit (.int .i64 1) ∧ tm 26 = .mp 2 ∧ tm 29 = .agg ([.lit (.int .i64 1)] ++ [.lit (.int .i64 c30_6)]) ∧ tm 34 = .lit (.bool r76) ∧ True) (by refine ⟨e34, e35, e36, e37, e40, e38, e39, ?_, ?_, ?_, trivial⟩ <;> first | (simp only [ua, zdb, b75, e34, e35, e36, e37, e38, e39, e40, nm, seval] <;> rfl) | rfl) ?_
    rintro tm ⟨e78, e79, e80, e81, e82, e83, e84, e85, e86, e87, _⟩
    have w88 := fun H => up135 (β := 2) c30_o0 (Gf.mk 1 c30_6) r76 H
    try simp only [zdb] at w88
    simp only [vz, mq, mqm, tyf, mqt, b75, e78, e79, e80, e81, e82, e83, e84, e85, e86, e87, w88, nm, seval]
    exact ⟨p30, Nat.lt_succ_self _, by rw [hI30]; refine ⟨p30, IntKind.i64.wrap (c30_6 + 1), (mapSet q138 c30_o0 (Gf.mk 1 c30_6) r76), rfl, rfl, (show nx17 + 19 ≤ nx30 + 19 by omega), ?_, ?_, ?_, e78, e79, e80, e81, e83, e84, ?_, h⟩ <;> first | (simp only [ua, zdb, b75, e78, e79, e80, e81, e82, e83, e84, e85, e86, e87, w88, nm, seval] <;> rfl) | rfl⟩
  simp only [d29, hs] at h
  obtain ⟨r89, o90, h⟩ := optI h kN17
  try simp only [hs] at h
  simp only [vz, mq, mqm, tyf, mqt, n28, e21, e22, e23, e24, e25, e26, e27, H18, H19, H20, d29, nm, seval]
  refine ktree (args0 := [.agg (cGm x0_x), .lit (.int .i64 c17_6), .lit (.int .i64 0), .agg (cGSpan r12.a0)]) (by first | (simp only [nrm, tynrm, mqr] <;> rfl) | rfl) (by simp only [tre, tytre, mqr, Bool.and_self]) (zdf _ _ _ _ _ o90) ?_
  refine zab (fun tm => tm 1 = .ptr 0 0 ∧ tm 3 = .mp 2 ∧ tm 4 = .lit (.int .i64 0) ∧ tm 5 = .ptr 10 0 ∧ tm 6 = .lit (.int .i64 c17_6) ∧ tm 9 = .agg (cGa r12) ∧ tm 10 = .lit (.int .i64 0) ∧ tm 26 = .mp 2 ∧ tm 29 = .agg ([.lit (.int .i64 0)] ++ [.lit (.int .i64 c17_6)]) ∧ tm 34 = .lit (.bool r89) ∧ True) (by refine ⟨e21, e22, e23, e24, e27, e25, e26, ?_, ?_, ?_, trivial⟩ <;> first | (simp only [ua, zdb, n28, e21, e22, e23, e24, e25, e26, e27, H18, H19, H20, d29, nm, seval] <;> rfl) | rfl) ?_
  rintro tm ⟨e91, e92, e93, e94, e95, e96, e97, e98, e99, e100, _⟩
  have w101 := fun H => up135 (β := 2) c17_o0 (Gf.mk 0 c17_6) r89 H
  try simp only [zdb] at w101
  simp only [vz, mq, mqm, tyf, mqt, n28, H18, H19, H20, d29, e91, e92, e93, e94, e95, e96, e97, e98, e99, e100, w101, nm, seval]
  exact ⟨p17, Nat.lt_succ_self _, by rw [hI17]; refine ⟨p17, IntKind.i64.wrap (c17_6 + 1), (mapSet q138 c17_o0 (Gf.mk 0 c17_6) r89), rfl, rfl, (show 18 ≤ nx17 + 19 by omega), ?_, ?_, ?_, e91, e92, e93, e94, e96, e97, ?_, h⟩ <;> first | (simp only [ua, zdb, n28, H18, H19, H20, d29, e91, e92, e93, e94, e95, e96, e97, e98, e99, e100, w101, nm, seval] <;> rfl) | rfl⟩
end Go.V
end
section
namespace Go.V
open Go Go.Proofs
def zav (x0_x : Gm) (r1 : List (Gf × Bool)) : Nat → (List Int) → Int → Option (LOut (List Int) ((List Int) × Int))
 | 0, _, _ => none
 | k0 + 1, c0_3, c0_5 => cond (decide (c0_5 ≤ x0_x.sh.Years.High)) (cond (mapGet q138 false r1 (Gf.mk 0 c0_5)) (cond (mapGet q138 false r1 (Gf.mk 1 c0_5)) (cond (mapGet q138 false r1 (Gf.mk 2 c0_5)) (cond (roomOk 8 (List.length (c0_3 ++ [c0_5]))) (zav x0_x r1 k0 (c0_3 ++ [c0_5]) (IntKind.i64.wrap (c0_5 + 1))) none) (zav x0_x r1 k0 c0_3 (IntKind.i64.wrap (c0_5 + 1)))) (zav x0_x r1 k0 c0_3 (IntKind.i64.wrap (c0_5 + 1)))) (zav x0_x r1 k0 c0_3 (IntKind.i64.wrap (c0_5 + 1)))) (some (.go (c0_3, c0_5)))
def zdj (x0_x : Gm) : Option (List Int) := Option.bind (zde x0_x) (fun r1 => lbind (zav x0_x r1 1000000 ([] : List Int) x0_x.sh.Years.Low) (fun r3 => some r3) (fun c2 => some c2.1) (fun _ _ => none))
theorem zgo (x0_x : Gm) (R : List Int) (h : zdj x0_x = some R) : VPure Tryz.prog G0 70 [.agg (cGm x0_x)] (.tree (.sl (cellsL eI R) (List.length R) false)) := by
 refine VPure.runR mixed Tryz.call70 Tryz.func70 rfl (by simp [Tryz.ntmps70]; kernel_rfl) ?_
 obtain ⟨KF, h, kF, kN⟩ := zan h
 simp only [zdj] at h
 simp only [vz, mq, mqm, tyf, mqt, nm, seval]
 refine zxk mixed (by kernel_rfl) ?_
 obtain ⟨r4, o5, h⟩ := optI h kN
 try simp only [hs] at h
 simp only [vz, mq, mqm, tyf, mqt, nm, seval]
 refine ktree (args0 := [.agg (cGm x0_x)]) (by first | (simp only [nrm, tynrm, mqr] <;> rfl) | rfl) (by simp only [tre, tytre, mqr, Bool.and_self]) (zik _ _ o5) ?_
 refine zab (fun tm => tm 1 = .ptr 0 0 ∧ tm 3 = .lit (.slice none 0 0) ∧ tm 8 = .mt (mtK kv138 r4) (mtV ev4 r4) ∧ True) (by refine ⟨?_, ?_, ?_, trivial⟩ <;> first | (simp only [ua, zdb, nm, seval] <;> rfl) | rfl) ?_
 rintro tm ⟨e6, e7, e8, _⟩
 simp only [vz, mq, mqm, tyf, mqt, e6, e7, e8, nm, seval]
 obtain ⟨K9, h, kR9, kG9, kB9, kN9⟩ := zax h kN
 obtain ⟨f9, hf9, h⟩ := call3 h
 obtain ⟨I9, hI9⟩ : ∃ I : Nat → St → Prop, I = (fun m st => ∃ (p9 : Nat) (c9_3 : List Int) (c9_5 : Int) (y9_0 : VV), p9 = m ∧ st.df = [] ∧ 11 ≤ st.nx ∧ st.H 0 = some (.cells (some 89) (cGm x0_x)) ∧ st.tm 1 = .ptr 0 0 ∧ st.tm 4 = .mt (mtK kv138 r4) (mtV ev4 r4) ∧ st.tm 3 = y9_0 ∧ st.tm 5 = .lit (.int .i64 c9_5) ∧ ((∃ (β : Nat) (el : Option TypeId), y9_0 = .ref β 0 (List.length c9_3) 1 (List.length c9_3) ∧ β < st.nx ∧ β ≠ 0 ∧ st.H β = some (.cells el (cellsL eI c9_3))) ∨ (y9_0 = .lit (.slice none 0 0) ∧ c9_3 = [])) ∧ K9 (f9 p9 c9_3 c9_5)) := ⟨_, rfl⟩
 refine loopK mixed (by kernel_rfl) I9 1000000 (by rw [hI9]; refine ⟨1000000, ([] : List Int), x0_x.sh.Years.Low, .lit (.slice none 0 0), rfl, rfl, (show 11 ≤ 11 by omega), ?_, e6, ?_, ?_, ?_, Or.inr ⟨rfl, rfl⟩, h⟩ <;> first | (simp only [ua, zdb, e6, e7, e8, nm, seval] <;> rfl) | rfl) ?_
 rintro m ⟨tm, H, nx9, df⟩ hinv
 rw [hI9] at hinv
 obtain ⟨p9, c9_3, c9_5, y9_0, rfl, hdf, hn9, H10, e11, e12, e13, e14, ow9_0, h⟩ := hinv
 simp only at hdf hn9 H10 e11 e12 e13 e14 ow9_0
 have n15 := zcl (m := 11) (b := nx9) (by omega)
 subst hdf hf9
 rcases ow9_0 with ⟨b9_0, el9_0, rfl, lq17, lq18, H16⟩ | ⟨rfl, rfl⟩
 ·have q17 := zaqa lq17
  have q18 := ne_f lq18
  cases p9 with
  | zero =>
   simp only [zav, hs, reduceCtorEq] at h
   exact absurd h kN9
  | succ p9 =>
   simp only [zav, hs, reduceCtorEq] at h
   cases d19 : (decide (c9_5 ≤ x0_x.sh.Years.High))
   ·simp only [d19, hs] at h
    replace h := kG9 _ h
    try dsimp only at h
    try simp only [hs] at h
    try simp only [vz, mq, mqm, tyf, mqt, n15, e11, e12, e13, e14, H10, q17, H16, q18, d19, nm, seval]
    refine zat (x := (.ref b9_0 0 (List.length c9_3) 1 (List.length c9_3))) (by first | (simp only [Tryz.results70, resV, resL, resV1, zau, zbo, uw, cr, tyf, mqt, n15, H10, q17, H16, q18, d19, nm, seval] <;> rfl) | rfl) ?_
    obtain rfl := kF _ h
    refine zaw ?_ ?_
    ·simp only [tre, tytre, mqr, Bool.and_self]
    ·first | (simp only [outV, uw, zaf, cr, tyf, mqt, nrm, tynrm, n15, e11, e12, e13, e14, H10, q17, H16, q18, d19, nm, seval] <;> rfl) | rfl
   simp only [d19, hs] at h
   simp only [vz, mq, mqm, tyf, mqt, n15, e11, e12, e13, e14, H10, q17, H16, q18, d19, nm, seval]
   refine zfs mixed (by kernel_rfl) 4 ?_
   cases d20 : (mapGet q138 false r4 (Gf.mk 0 c9_5))
   ·simp only [d20, hs] at h
    have b21 := And.intro n15 (And.intro H10 (And.intro q17 (And.intro H16 (And.intro q18 (And.intro d19 d20)))))
    simp only [vz, mq, mqm, tyf, mqt, b21, e11, e12, e13, e14, nm, seval]
    exact ⟨p9, Nat.lt_succ_self _, by rw [hI9]; refine ⟨p9, c9_3, IntKind.i64.wrap (c9_5 + 1), .ref b9_0 0 (List.length c9_3) 1 (List.length c9_3), rfl, rfl, (show 11 ≤ nx9 + 19 by omega), ?_, e11, e12, ?_, ?_, Or.inl ⟨b9_0, el9_0, rfl, (by first | omega | (simp only [nm, seval]; omega)), (by first | omega | (intro hh; simp only [b21, reduceCtorEq] at hh)), ?_⟩, h⟩ <;> first | (simp only [ua, zdb, b21, e11, e12, e13, e14, nm, seval] <;> rfl) | rfl⟩
   simp only [d20, hs] at h
   have b22 := And.intro n15 (And.intro H10 (And.intro q17 (And.intro H16 (And.intro q18 (And.intro d19 d20)))))
   cases d23 : (mapGet q138 false r4 (Gf.mk 1 c9_5))
   ·simp only [d23, hs] at h
    simp only [vz, mq, mqm, tyf, mqt, b22, e11, e12, e13, e14, d23, nm, seval]
    exact ⟨p9, Nat.lt_succ_self _, by rw [hI9]; refine ⟨p9, c9_3, IntKind.i64.wrap (c9_5 + 1), .ref b9_0 0 (List.length c9_3) 1 (List.length c9_3), rfl, rfl, (show 11 ≤ nx9 + 30 by omega), ?_, e11, e12, ?_, ?_, Or.inl ⟨b9_0, el9_0, rfl, (by first | omega | (simp only [nm, seval]; omega)), (by first | omega | (intro hh; simp only [b22, reduceCtorEq] at hh)), ?_⟩, h⟩ <;> first | (simp only [ua, zdb, b22, e11, e12, e13, e14, d23, nm, seval] <;> rfl) | rfl⟩
   simp only [d23, hs] at h
   cases d24 : (mapGet q138 false r4 (Gf.mk 2 c9_5))
   ·simp only [d24, hs] at h
    simp only [vz, mq, mqm, tyf, mqt, b22, e11, e12, e13, e14, d23, d24, nm, seval]
    exact ⟨p9, Nat.lt_succ_self _, by rw [hI9]; refine ⟨p9, c9_3, IntKind.i64.wrap (c9_5 + 1), .ref b9_0 0 (List.length c9_3) 1 (List.length c9_3), rfl, rfl, (show 11 ≤ nx9 + 41 by omega), ?_, e11, e12, ?_, ?_, Or.inl ⟨b9_0, el9_0, rfl, (by first | omega | (simp only [nm, seval]; omega)), (by first | omega | (intro hh; simp only [b22, reduceCtorEq] at hh)), ?_⟩, h⟩ <;> first | (simp only [ua, zdb, b22, e11, e12, e13, e14, d23, d24, nm, seval] <;> rfl) | rfl⟩
   simp only [d24, hs] at h
   cases g25 : (roomOk 8 (List.length (c9_3 ++ [c9_5])))
   ·simp only [g25, hs] at h
    exact absurd h kN9
   simp only [g25, hs] at h
   simp only [vz, mq, mqm, tyf, mqt, b22, e11, e12, e13, e14, d23, d24, g25, nm, seval]
   refine k_app (w := 1) (enc := eI) (xs := c9_3) (ys := ([c9_5])) (el := el9_0) (el2 := (some 3)) (fun _ => rfl) lf29 ao29 Tryz.underlying29 (by first | rfl | assumption | (simp only [zaa, zas, et29, b22, nm, seval] <;> rfl) | (simp only [zaa, zas, zfy, zdv, zuf, zmr, tyf, mqt, b22, e11, e12, e13, e14, d23, d24, g25, nm, seval]; done)) (by first | rfl | assumption | (simp only [zaa, zas, et29, b22, nm, seval] <;> rfl) | (simp only [zaa, zas, zfy, zdv, zuf, zmr, tyf, mqt, b22, e11, e12, e13, e14, d23, d24, g25, nm, seval]; done)) (Nat.zero_lt_succ _) g25 ?_
   simp only [vz, mq, mqm, tyf, mqt, b22, e11, e12, e13, e14, d23, d24, g25, nm, seval]
   exact ⟨p9, Nat.lt_succ_self _, by rw [hI9]; refine ⟨p9, (c9_3 ++ [c9_5]), IntKind.i64.wrap (c9_5 + 1), .ref (nx9 + 44) 0 (List.length (c9_3 ++ [c9_5])) 1 (List.length (c9_3 ++ [c9_5])), rfl, rfl, (show 11 ≤ nx9 + 49 by omega), ?_, e11, e12, ?_, ?_, Or.inl ⟨nx9 + 44, (sameEl el9_0 3), rfl, (by first | omega | (simp only [nm, seval]; omega)), (by first | omega | (intro hh; simp only [b22, reduceCtorEq] at hh)), ?_⟩, h⟩ <;> first | (simp only [ua, zdb, b22, e11, e12, e13, e14, d23, d24, nm, seval] <;> rfl) | rfl⟩
 ·cases p9 with
  | zero =>
   simp only [zav, hs, reduceCtorEq] at h
   exact absurd h kN9
  | succ p9 =>
   simp only [zav, hs, reduceCtorEq] at h
   cases d26 : (decide (c9_5 ≤ x0_x.sh.Years.High))
   ·simp only [d26, hs] at h
    replace h := kG9 _ h
    try dsimp only at h
    try simp only [hs] at h
    try simp only [vz, mq, mqm, tyf, mqt, n15, e11, e12, e13, e14, H10, d26, nm, seval]
    refine zat (x := (.lit (.slice none 0 0))) (by first | (simp only [Tryz.results70, resV, resL, resV1, zau, zbo, uw, cr, tyf, mqt, n15, H10, d26, nm, seval] <;> rfl) | rfl) ?_
    obtain rfl := kF _ h
    refine zaw ?_ ?_
    ·simp only [tre, tytre, mqr, Bool.and_self]
    ·first | (simp only [outV, uw, zaf, cr, tyf, mqt, nrm, tynrm, n15, e11, e12, e13, e14, H10, d26, nm, seval] <;> rfl) | rfl
   simp only [d26, hs] at h
   simp only [vz, mq, mqm, tyf, mqt, n15, e11, e12, e13, e14, H10, d26, nm, seval]
   refine zfs mixed (by kernel_rfl) 4 ?_
   cases d27 : (mapGet q138 false r4 (Gf.mk 0 c9_5))
   ·simp only [d27, hs] at h
    simp only [vz, mq, mqm, tyf, mqt, n15, e11, e12, e13, e14, H10, d26, d27, nm, seval]
    exact ⟨p9, Nat.lt_succ_self _, by rw [hI9]; refine ⟨p9, ([] : List Int), IntKind.i64.wrap (c9_5 + 1), .lit (.slice none 0 0), rfl, rfl, (show 11 ≤ nx9 + 19 by omega), ?_, e11, e12, ?_, ?_, Or.inr ⟨rfl, rfl⟩, h⟩ <;> first | (simp only [ua, zdb, n15, e11, e12, e13, e14, H10, d26, d27, nm, seval] <;> rfl) | rfl⟩
   simp only [d27, hs] at h
   cases d28 : (mapGet q138 false r4 (Gf.mk 1 c9_5))
   ·simp only [d28, hs] at h
    simp only [vz, mq, mqm, tyf, mqt, n15, e11, e12, e13, e14, H10, d26, d27, d28, nm, seval]
    exact ⟨p9, Nat.lt_succ_self _, by rw [hI9]; refine ⟨p9, ([] : List Int), IntKind.i64.wrap (c9_5 + 1), .lit (.slice none 0 0), rfl, rfl, (show 11 ≤ nx9 + 30 by omega), ?_, e11, e12, ?_, ?_, Or.inr ⟨rfl, rfl⟩, h⟩ <;> first | (simp only [ua, zdb, n15, e11, e12, e13, e14, H10, d26, d27, d28, nm, seval] <;> rfl) | rfl⟩
   simp only [d28, hs] at h
   cases d29 : (mapGet q138 false r4 (Gf.mk 2 c9_5))
   ·simp only [d29, hs] at h
    simp only [vz, mq, mqm, tyf, mqt, n15, e11, e12, e13, e14, H10, d26, d27, d28, d29, nm, seval]
    exact ⟨p9, Nat.lt_succ_self _, by rw [hI9]; refine ⟨p9, ([] : List Int), IntKind.i64.wrap (c9_5 + 1), .lit (.slice none 0 0), rfl, rfl, (show 11 ≤ nx9 + 41 by omega), ?_, e11, e12, ?_, ?_, Or.inr ⟨rfl, rfl⟩, h⟩ <;> first | (simp only [ua, zdb, n15, e11, e12, e13, e14, H10, d26, d27, d28, d29, nm, seval] <;> rfl) | rfl⟩
   simp only [d29, hs] at h
   cases g30 : (roomOk 8 (List.length (([] : List Int) ++ [c9_5])))
   ·simp only [g30, hs] at h
    exact absurd h kN9
   simp only [g30, hs] at h
   simp only [vz, mq, mqm, tyf, mqt, n15, e11, e12, e13, e14, H10, d26, d27, d28, d29, g30, nm, seval]
   refine zamd (w := 1) (enc := eI) (ys := ([c9_5])) (el2 := (some 3)) (fun _ => rfl) lf29 ao29 Tryz.underlying29 (by first | rfl | assumption | (simp only [zaa, zas, et29, n15, H10, nm, seval] <;> rfl) | (simp only [zaa, zas, zfy, zdv, zuf, zmr, tyf, mqt, n15, e11, e12, e13, e14, H10, d26, d27, d28, d29, g30, nm, seval]; done)) (Nat.zero_lt_succ _) g30 ?_
   simp only [vz, mq, mqm, tyf, mqt, n15, e11, e12, e13, e14, H10, d26, d27, d28, d29, g30, nm, seval]
   exact ⟨p9, Nat.lt_succ_self _, by rw [hI9]; refine ⟨p9, (([] : List Int) ++ [c9_5]), IntKind.i64.wrap (c9_5 + 1), .ref (nx9 + 44) 0 (List.length (([] : List Int) ++ [c9_5])) 1 (List.length (([] : List Int) ++ [c9_5])), rfl, rfl, (show 11 ≤ nx9 + 49 by omega), ?_, e11, e12, ?_, ?_, Or.inl ⟨nx9 + 44, (some 3), rfl, (by first | omega | (simp only [nm, seval]; omega)), (by first | omega | (intro hh; simp only [n15, reduceCtorEq] at hh)), ?_⟩, h⟩ <;> first | (simp only [ua, zdb, n15, e11, e12, e13, e14, H10, d26, d27, d28, d29, nm, seval] <;> rfl) | rfl⟩
end Go.V
end
section
namespace Go.V
open Go Go.Proofs
def zdd (x0_x : Gm) : Option (Bool) := Option.bind (zdj x0_x) (fun r1 => some (decide ((List.length r1 : Int) > 0)))
theorem zjb (x0_x : Gm) (R : Bool) (h : zdd x0_x = some R) : VPure Tryz.prog G0 69 [.agg (cGm x0_x)] (.tree (.lit (.bool R))) := by
 refine VPure.runR mixed Tryz.call69 Tryz.func69 rfl (by simp [Tryz.ntmps69]; kernel_rfl) ?_
 obtain ⟨KF, h, kF, kN⟩ := zan h
 simp only [zdd] at h
 obtain ⟨r2, o3, h⟩ := optI h kN
 try simp only [hs] at h
 simp only [vz, tyf, nm, seval]
 refine ktA (zgo _ _ o3) ?_
 refine zab (fun tm => tm 4 = .sl (cellsL eI r2) (List.length r2) false ∧ True) (by refine ⟨?_, trivial⟩ <;> first | (simp only [ua, nm, seval] <;> rfl) | rfl) ?_
 rintro tm ⟨e4, _⟩
 try simp only [vz, tyf, e4, nm, seval]
 obtain rfl := kF _ h
 exact zac Tryz.results69 rfl
end Go.V
end
