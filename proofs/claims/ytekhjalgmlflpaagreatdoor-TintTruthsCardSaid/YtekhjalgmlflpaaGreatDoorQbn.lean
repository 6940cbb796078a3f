/- Part of a proof: a logic of values by content, lifted functions, what follows. -/
import Derived.Test.YtekhjalgmlflpaaGreatDoorQbm
import Derived.Test.YtekhjalgmlflpaaGreatDoorQbf
import Derived.Test.YtekhjalgmlflpaaGreatDoorQbe
import Derived.Test.YtekhjalgmlflpaaGreatDoorQbg
set_option linter.all false
set_option maxRecDepth 4000
set_option maxHeartbeats 40000000
section
set_option linter.unusedVariables false
namespace Go.V
open Go
theorem VOpen.freeze {P : Program} {G : Glob} {f : FuncId} {args args' : List VV} {H : Nat → Option VObj} {nx : Nat} {R Rp : VV → (Nat → Option VObj) → Nat → Prop} (H' : Nat → Option VObj) (ho : ∀ β o', H' β = some o' → ∃ o, H β = some o ∧ FrozenO H H' o o')
  (hloop : ∀ x s pe tm ps asg bo df, H' x = some (.loop s pe tm ps asg bo df) → isDef H' df) (ha : FrozenL H H' args args') (h : VOpen P G f args' H' nx R Rp) : VOpen P G f args H nx R Rp := by
 refine ⟨h.1, fun c W vs s hH hnx hG hargs => ?_⟩
 have ho' : ∀ β o', H' β = some o' → ∃ o, c.H β = some o ∧ FrozenO c.H H' o o' := by rw [hH]; exact ho
 have hl : ∀ β, (H' β).isSome = true → c.live β := by
  intro β h
  obtain ⟨o', h'⟩ := Option.isSome_iff_exists.1 h
  obtain ⟨o, h1, _⟩ := ho' β o' h'
  simp [Ctx.live, h1]
 have he : Ext c W (c.frz H') W := zwy hl
 have ab : Abides c W (c.frz H') W := zil hl
 refine (h.2 (c.frz H') W vs (s.frz ho' hloop) rfl hnx (hG.abides ab) (zih s hl (by rw [hH]; exact ha) hargs)).mono ?_
 rintro e W' ⟨c', H1, nx', g1, g2, g3, g4, g5, g6, g7⟩
 exact ⟨c', H1, nx', he.trans g1, g2, g3, g4, g5, g6, g7⟩
def Yields (P : Program) (G : Glob) (β : Nat) (x : VV) (H : Nat → Option VObj) (nx : Nat) (Post : Bool → (Nat → Option VObj) → Nat → Prop) : Prop :=
 ∀ (r : Option (Option Nat)) (o : Oper) (st : St) (K : St → Prop), st.H = H → st.nx = nx → (∀ b H' nx', Post b H' nx' → K ⟨(match o.dst with | some d => upd st.tm d (.lit (.bool b)) | none => st.tm), H', nx', st.df⟩) → yieldK P (G.at r) o β [x] st K
theorem Yields.mono {P : Program} {G : Glob} {β : Nat} {x : VV} {H : Nat → Option VObj} {nx : Nat} {Post Post' : Bool → (Nat → Option VObj) → Nat → Prop} (h : Yields P G β x H nx Post) (hp : ∀ b H' nx', Post b H' nx' → Post' b H' nx') : Yields P G β x H nx Post' :=
 fun r o st K h1 h2 hk => h r o st K h1 h2 fun b H' nx' hp' => hk b H' nx' (hp b H' nx' hp')
abbrev Inv := Option (List VV) → (Nat → Prop) → (Nat → Option VObj) → Nat → Prop
def Stable (I : Inv) : Prop := ∀ o (Fr Fr1 : Nat → Prop) (H H1 : Nat → Option VObj) (nx nx1 : Nat), I o Fr H nx → (∀ γ, γ < nx → ¬ Fr γ → H1 γ = H γ) → nx ≤ nx1 → (∀ γ, Fr1 γ → Fr γ ∨ (nx ≤ γ ∧ γ < nx1)) → I o Fr1 H1 nx1
def Rounds (P : Program) (G : Glob) (β : Nat) (I : Inv) : Prop := ∀ x rest (Fr : Nat → Prop) (H : Nat → Option VObj) (nx : Nat), (∀ γ, Fr γ → γ < nx) → I (some (x :: rest)) Fr H nx →
 Yields P G β x H nx (fun b H' nx' => nx ≤ nx' ∧ (∀ γ, Fr γ → H' γ = H γ) ∧ I (if b then some rest else none) Fr H' nx')
def noFr : Nat → Prop := fun _ => False
def Iter (P : Program) (G : Glob) (g : VV) (L : List VV) : Prop := ∃ f first captured, g = .fn (.func f) first captured ∧ ∀ (β : Nat) (I : Inv), Stable I → Rounds P G β I → ∀ (H : Nat → Option VObj) (nx : Nat), β < nx → I (some L) noFr H nx →
 VOpen P G f (first ++ [.yl β] ++ captured) H nx (fun _ H' nx' => I (some []) noFr H' nx' ∨ I none noFr H' nx') (fun _ _ _ => False)
def Own (hp : List (Nat × VObj)) (Fr : Nat → Prop) (H : Nat → Option VObj) (nx : Nat) : Prop := ∀ p ∈ hp, p.1 < nx ∧ ¬ Fr p.1 ∧ H p.1 = some p.2
theorem Own.stable {hp : List (Nat × VObj)} {Fr Fr1 : Nat → Prop} {H H1 : Nat → Option VObj} {nx nx1 : Nat} (h : Own hp Fr H nx) (h1 : ∀ γ, γ < nx → ¬ Fr γ → H1 γ = H γ) (h2 : nx ≤ nx1) (h3 : ∀ γ, Fr1 γ → Fr γ ∨ (nx ≤ γ ∧ γ < nx1)) : Own hp Fr1 H1 nx1 := by
 intro p hp
 obtain ⟨a, b, c⟩ := h p hp
 refine ⟨Nat.lt_of_lt_of_le a h2, fun hf => ?_, by rw [h1 p.1 a b]; exact c⟩
 rcases h3 p.1 hf with hf | hf
 ·exact b hf
 ·omega
theorem Own.nil {Fr : Nat → Prop} {H : Nat → Option VObj} {nx : Nat} : Own [] Fr H nx := fun _ h => by cases h
theorem Own.cons {p : Nat} {o : VObj} {hp : List (Nat × VObj)} {Fr : Nat → Prop} {H : Nat → Option VObj} {nx : Nat} (h1 : p < nx) (h2 : ¬ Fr p) (h3 : H p = some o) (h : Own hp Fr H nx) : Own ((p, o) :: hp) Fr H nx := by
 intro q hq
 rcases List.mem_cons.1 hq with rfl | hq
 ·exact ⟨h1, h2, h3⟩
 ·exact h q hq
theorem Own.head {p : Nat} {o : VObj} {hp : List (Nat × VObj)} {Fr : Nat → Prop} {H : Nat → Option VObj} {nx : Nat} (h : Own ((p, o) :: hp) Fr H nx) : p < nx ∧ ¬ Fr p ∧ H p = some o := h (p, o) (List.mem_cons_self ..)
theorem Own.tail {p : Nat} {o : VObj} {hp : List (Nat × VObj)} {Fr : Nat → Prop} {H : Nat → Option VObj} {nx : Nat} (h : Own ((p, o) :: hp) Fr H nx) : Own hp Fr H nx := fun q hq => h q (List.mem_cons_of_mem _ hq)
def ownI (J : Option (List VV) → List (Nat × VObj) → Prop) : Inv := fun o Fr H nx => ∃ hp, Own hp Fr H nx ∧ J o hp
theorem zkn {J : Option (List VV) → List (Nat × VObj) → Prop} : Stable (ownI J) := fun _ _ _ _ _ _ _ ⟨hp, h, hj⟩ h1 h2 h3 => ⟨hp, h.stable h1 h2 h3, hj⟩
def ownI2 (I : Inv) (J : Option (List VV) → Option (List VV) → List (Nat × VObj) → Prop) : Inv := fun o Fr H nx => ∃ hp o', Own hp Fr H nx ∧ J o o' hp ∧ I o' (fun γ => Fr γ ∨ ∃ p ∈ hp, p.1 = γ) H nx
theorem zla {I : Inv} (hs : Stable I) {J : Option (List VV) → Option (List VV) → List (Nat × VObj) → Prop} : Stable (ownI2 I J) := by
 rintro o Fr Fr1 H H1 nx nx1 ⟨hp, o', h, hj, hi⟩ h1 h2 h3
 refine ⟨hp, o', h.stable h1 h2 h3, hj, hs _ _ _ _ _ _ _ hi (fun γ hlt hn => h1 γ hlt fun hf => hn (.inl hf)) h2 ?_⟩
 rintro γ (hf | hf)
 ·rcases h3 γ hf with hf | hf
  ·exact .inl (.inl hf)
  ·exact .inr hf
 ·exact .inl (.inr hf)
section
variable {P : Program} {G : Glob} {n : Nat} {Q : VExit → St → Prop} {tm : Nat → VV} {H : Nat → Option VObj} {nx : Nat} {df : List VDef} {g : Operand} {ps : Array Tmp} {az bo : Code}
def RPost (β : Nat) (LB LO : VObj) (LD : Code → VObj) (Post : Bool → (Nat → Option VObj) → Nat → Prop) : VExit → St → Prop
 | .normal, s => s.H β = some LB ∧ Post true (updH s.H β LO) s.nx
 | .ret, s => s.H β = some LB ∧ Post false (updH s.H β (LD .ret)) s.nx
 | .exit id, s => s.H β = some LB ∧ Post false (updH s.H β (LD (.exit id))) s.nx
 | _, _ => False
def RStart (P : Program) (G : Glob) (n β : Nat) (LB LO : VObj) (LD : Code → VObj) (bo : Code) (Post : Bool → (Nat → Option VObj) → Nat → Prop) : VExit → St → Prop
 | .normal, s => s.H β = some LO ∧ CWp P (G.at (some (some β))) n bo (RPost β LB LO LD Post) { s with H := updH s.H β LB }
 | _, _ => False
theorem zgb (hm : P.follows .mixedOrders = true) {β : Nat} {x : VV} {Post : Bool → (Nat → Option VObj) → Nat → Prop} {LO : VObj} {tml : List VV} {d : Nat} {psl : List Tmp} (hL : LO = VObj.loop .ready none tml ⟨psl⟩ az bo d) (hβ : H β = some LO) (hn : tml.length = n) (ha : psl.length = 1)
  (h1 : codeOk n az = true) (h2 : codeOk n bo = true)
  (h : ∀ LB LD, LB = VObj.loop .busy none tml ⟨psl⟩ az bo d → LD = (fun c => VObj.loop .done (some c) tml ⟨psl⟩ az bo d) →
   CWp P (G.at (some (some β))) n az (RStart P G n β LB LO LD bo Post) ⟨argsTm (roundTm tml psl [x]), H, nx, []⟩) : Yields P G β x H nx Post := by
 intro r o st K e1 e2 hk
 subst e1 e2
 replace hk : ∀ b H' nx', Post b H' nx' → K { st.put o.dst (.lit (.bool b)) with H := H', nx := nx' } := by
  intro b H' nx' hp
  have := hk b H' nx' hp
  obtain ⟨d, op, ty, pos, af, gd⟩ := o
  cases d <;> exact this
 refine zacm hm hL hβ hn (by simp [ha]) h1 h2 fun LB LD hB hD => ?_
 refine CWp.mono az _ ?_ (h LB LD hB hD)
 intro e s hs
 cases e with
 | normal =>
  refine ⟨hs.1, CWp.mono bo _ ?_ hs.2⟩
  intro e s2 hs2
  cases e with
  | normal => exact ⟨hs2.1, hk _ _ _ hs2.2⟩
  | ret => exact ⟨hs2.1, hk _ _ _ hs2.2⟩
  | exit id => exact ⟨hs2.1, hk _ _ _ hs2.2⟩
  | goto l => exact hs2.elim
  | panic x => exact hs2.elim
 | _ => exact hs.elim
theorem zhn {itv : VV} {L : List VV} (hit : Iter P G itv L) (hg : ev (G.at (some none)) tm g = itv)
  (h : ∀ LO, LO = VObj.loop .ready none (tmL n tm) ps az bo nx → ∃ I : Inv, Stable I ∧ Rounds P G (nx + 1) I ∧ I (some L) noFr (updH (updH H nx (.deferred (some []))) (nx + 1) LO) (nx + 2) ∧
   ∀ H' nx', I (some []) noFr H' nx' ∨ I none noFr H' nx' → RangeEnd P (G.at (some none)) n Q ⟨tm, H, nx, df⟩ H' nx') : CWp P (G.at (some none)) n (.rangeFunc g ps az bo) Q ⟨tm, H, nx, df⟩ := by
 obtain ⟨f, first, captured, rfl, hv⟩ := hit
 refine zadz hg fun LO hL => ?_
 obtain ⟨I, hs, hr, h0, he⟩ := h LO hL
 exact VOpen.mono (hv (nx + 1) I hs hr _ _ (Nat.lt_succ_self _) h0) (fun _ H' nx' hh => he H' nx' hh) (fun _ _ _ hh => hh.elim)
end
end Go.V
end
section
set_option linter.unusedVariables false
namespace Go.V
open Go
theorem VOpen.freeze1 {P : Program} {G : Glob} {f : FuncId} {args args' : List VV} {H : Nat → Option VObj} {nx γ : Nat} {el : Option TypeId} {cs : List VV} {R Rp : VV → (Nat → Option VObj) → Nat → Prop} (hγ : H γ = some (.cells el cs))
  (ha : FrozenL H (without H γ) args args') (h : VOpen P G f args' (without H γ) nx R Rp) : VOpen P G f args H nx R Rp := by
 refine ⟨h.1, fun c W vs s hH hnx hG hargs => ?_⟩
 subst hH
 have ho' : ∀ β o', without c.H γ β = some o' → ∃ o, c.H β = some o ∧ FrozenO c.H (without c.H γ) o o' := fun β o' hb => ⟨o', SubHeap.without _ _ β o' hb, .inl rfl⟩
 have hl : ∀ β, (without c.H γ β).isSome = true → c.live β := by
  intro β h
  obtain ⟨o', h'⟩ := Option.isSome_iff_exists.1 h
  obtain ⟨o, h1, _⟩ := ho' β o' h'
  simp [Ctx.live, h1]
 have he : Ext c W (c.frz (without c.H γ)) W := zwy hl
 have ab : Abides c W (c.frz (without c.H γ)) W := zil hl
 have hloop : ∀ x st pe tm ps asg bo df, without c.H γ x = some (.loop st pe tm ps asg bo df) → isDef (without c.H γ) df := by
  intro x st pe tm ps asg bo df hx
  obtain ⟨l, fn, _, _, _, hd⟩ := s.obj x _ (SubHeap.without _ _ x _ hx)
  exact hd.without hγ
 refine (h.2 (c.frz (without c.H γ)) W vs (s.frz ho' hloop) rfl hnx (hG.abides ab) (zih s hl ha hargs)).mono ?_
 rintro e W' ⟨c', H1, nx', g1, g2, g3, g4, g5, g6, g7⟩
 exact ⟨c', H1, nx', he.trans g1, g2, g3, g4, g5, g6, g7⟩
theorem Frozen.same {H H' : Nat → Option VObj} {x : VV} : Frozen H H' x x := .inl rfl
theorem FrozenL.same {H H' : Nat → Option VObj} : ∀ {xs : List VV}, FrozenL H H' xs xs
 | [] => trivial
 | _ :: _ => ⟨.same, .same⟩
theorem Frozen.own {H : Nat → Option VObj} {γ n w cp : Nat} {el : Option TypeId} {cs : List VV} (hγ : H γ = some (.cells el cs)) (ht : treeL cs = true) (hl : cs.length = n * w) : Frozen H (without H γ) (.ref γ 0 n w cp) (.sl cs n false) := by
 refine .inr (.inr ⟨cs.length + 2, ?_⟩)
 have hg : gone H (without H γ) γ = some (.cells el cs) := by simp [gone, without, hγ]
 unfold sealV
 have : (VV.ref γ 0 n w cp).tree = false := rfl
 rw [this]
 simp only [Bool.false_eq_true, if_false, hg, Nat.zero_le, if_true, List.drop_zero]
 rw [List.take_of_length_le (by omega), ziz cs _ ht (by omega)]
 rfl
theorem VPure.weaken {P : Program} {G : Glob} {f : FuncId} {args args' : List VV} {r : PRes} (hw : ∀ c W vs, RepL c W args vs → RepL c W args' vs) (h : VPure P G f args' r) : VPure P G f args r :=
 ⟨h.1, fun A W vs h1 h2 h3 => h.2 A W vs h1 h2 (hw _ W vs h3)⟩
theorem zaqs {c : Ctx} {W : World} {v : Value} (h : Rep c W (.lit (.slice none 0 0)) v) : Rep c W (.sl [] 0 false) v := by
 have e : v = .slice none 0 0 := h
 subst e
 exact ⟨none, 0, rfl, Nat.le_refl _, fun h => by simp at h, .inl rfl⟩
def vx {α : Type} (enc : α → List VV) : List α → VV
 | [] => .lit (.slice none 0 0)
 | l => .sl (cellsL enc l) l.length false
theorem zaux {α : Type} {enc : α → List VV} {c : Ctx} {W : World} {v : Value} : ∀ {l : List α}, Rep c W (vx enc l) v → Rep c W (.sl (cellsL enc l) l.length false) v
 | [], h => zaqs h
 | _ :: _, h => h
theorem zaeo {α : Type} {enc : α → List VV} {l : List α} (h : l ≠ []) : vx enc l = .sl (cellsL enc l) l.length false := by cases l with
 | nil => exact absurd rfl h
 | cons a l => rfl
end Go.V
namespace Go.V
theorem zaqr {α : Type} {enc : α → List VV} (he : EncOk enc) : ∀ {l : List α}, (vx enc l).tree = true
 | [] => rfl
 | a :: l => he.treeL (a :: l)
end Go.V
namespace Go.V
def lessN (H : Nat → Option VObj) (ns : List Nat) : Nat → Option VObj := fun γ => if γ ∈ ns then none else H γ
theorem zxa {H : Nat → Option VObj} {ns : List Nat} : SubHeap (lessN H ns) H := fun x o h => by
 unfold lessN at h
 split at h
 ·cases h
 ·exact h
theorem VOpen.freezeN {P : Program} {G : Glob} {f : FuncId} {args args' : List VV} {H : Nat → Option VObj} {nx : Nat} {R Rp : VV → (Nat → Option VObj) → Nat → Prop} (ns : List Nat) (hns : ∀ γ ∈ ns, ∃ el cs, H γ = some (.cells el cs))
  (ha : FrozenL H (lessN H ns) args args') (h : VOpen P G f args' (lessN H ns) nx R Rp) : VOpen P G f args H nx R Rp := by
 refine ⟨h.1, fun c W vs s hH hnx hG hargs => ?_⟩
 subst hH
 have ho' : ∀ β o', lessN c.H ns β = some o' → ∃ o, c.H β = some o ∧ FrozenO c.H (lessN c.H ns) o o' := fun β o' hb => ⟨o', zxa β o' hb, .inl rfl⟩
 have hl : ∀ β, (lessN c.H ns β).isSome = true → c.live β := by
  intro β h
  obtain ⟨o', h'⟩ := Option.isSome_iff_exists.1 h
  obtain ⟨o, h1, _⟩ := ho' β o' h'
  simp [Ctx.live, h1]
 have he : Ext c W (c.frz (lessN c.H ns)) W := zwy hl
 have ab : Abides c W (c.frz (lessN c.H ns)) W := zil hl
 have hloop : ∀ x st pe tm ps asg bo df, lessN c.H ns x = some (.loop st pe tm ps asg bo df) → isDef (lessN c.H ns) df := by
  intro x st pe tm ps asg bo df hx
  obtain ⟨l, fn, _, _, _, ds, hd⟩ := s.obj x _ (zxa x _ hx)
  refine ⟨ds, ?_⟩
  unfold lessN
  split
  ·rename_i hm
   obtain ⟨el, cs, hc⟩ := hns df hm
   rw [hc] at hd; cases hd
  ·exact hd
 refine (h.2 (c.frz (lessN c.H ns)) W vs (s.frz ho' hloop) rfl hnx (hG.abides ab) (zih s hl ha hargs)).mono ?_
 rintro e W' ⟨c', H1, nx', g1, g2, g3, g4, g5, g6, g7⟩
 exact ⟨c', H1, nx', he.trans g1, g2, g3, g4, g5, g6, g7⟩
theorem VOpen.of_pure {P : Program} {G : Glob} {f : FuncId} {args : List VV} {x : VV} {H : Nat → Option VObj} {nx : Nat} (h : VPure P G f args (.tree x)) (ht : treeL args = true) : VOpen P G f args H nx (fun y H' nx' => y = x ∧ H' = H ∧ nx' = nx) (fun _ _ _ => False) := by
 refine ⟨h.1, fun c W vs s hH hnx hG ha => (h.2 c.A W vs s.ltA (fun g cs hg => hG.tree g cs hg) (zfx ht ha)).mono ?_⟩
 rintro e W' ⟨A', h1, h2, h3, hb, v, rfl, hx⟩
 exact ⟨c.more A', H, nx, Ext.more h1 h2 hb, Sim.more s h1 h2 h3 hb, hH, fun β hb => .inl hb, hnx, Nat.le_refl _, .inl ⟨x, v, rfl, Rep.abides (zdf (fun _ h => h)) _ hx, rfl, rfl, rfl⟩⟩
abbrev sI (l : List Int) : VV := .sl (cellsL eI l) l.length false
theorem zash {L : List (List Int)} (h : ∀ q ∈ L, q ≠ []) : L.map (vx eI) = L.map sI := List.map_congr_left fun q hq => zaeo (h q hq)
end Go.V
namespace Go.V
theorem zuc {H : Nat → Option VObj} {m : Nat} : ∀ (caps : List (Nat × List VV)) (n : Nat), (∀ p ∈ caps, (∃ el, H p.1 = some (.cells el p.2)) ∧ treeL p.2 = true ∧ p.2.length < m) → caps.length + m + 2 < n →
  sealL H n (caps.map fun p => .ptr p.1 0) = some (caps.map fun p => .tp p.2)
 | [], n + 1, _, _ => by simp [sealL]
 | p :: caps, n + 1, h, hn => by
  obtain ⟨⟨el, h1⟩, h2, h3⟩ := h p (List.mem_cons_self ..)
  have ih := zuc caps n (fun q hq => h q (List.mem_cons_of_mem _ hq)) (by simp at hn; omega)
  obtain ⟨n', rfl⟩ : ∃ n', n = n' + 1 := ⟨n - 1, by simp at hn; omega⟩
  have e : sealV H (n' + 1) (.ptr p.1 0) = some (.tp p.2) := by
   unfold sealV
   have : (VV.ptr p.1 0).tree = false := rfl
   rw [this]
   simp only [Bool.false_eq_true, if_false, h1, Nat.zero_le, if_true, List.drop_zero]
   rw [ziz _ _ h2 (by simp at hn; omega)]
   rfl
  simp only [List.map_cons]
  unfold sealL
  rw [e, ih]
theorem Frozen.closure {H H' : Nat → Option VObj} {f : Fn} (caps : List (Nat × List VV)) (m : Nat) (hne : caps ≠ []) (h : ∀ p ∈ caps, (∃ el, H p.1 = some (.cells el p.2)) ∧ (H' p.1).isSome = false ∧ treeL p.2 = true ∧ p.2.length < m) : Frozen H H' (.fn f [] (caps.map fun p => .ptr p.1 0)) (.fn f [] (caps.map fun p => .tp p.2)) := by
 refine .inr (.inr ⟨caps.length + m + 4, ?_⟩)
 have hg : ∀ p ∈ caps, (∃ el, gone H H' p.1 = some (.cells el p.2)) ∧ treeL p.2 = true ∧ p.2.length < m := by
  intro p hp
  obtain ⟨⟨el, h1⟩, h2, h3⟩ := h p hp
  exact ⟨⟨el, by simp [gone, h2, h1]⟩, h3⟩
 have ht : (VV.fn f [] (caps.map fun p => .ptr p.1 0)).tree = false := by
  cases caps with
  | nil => exact absurd rfl hne
  | cons p l => simp [VV.tree, treeL]
 unfold sealV
 rw [ht]
 simp only [Bool.false_eq_true, if_false]
 rw [zuc caps _ hg (by omega)]
 have : sealL (gone H H') (caps.length + m + 3) [] = some [] := by simp [sealL]
 rw [this]
end Go.V
namespace Go.V
def goL (rc : List Int → Option (List (List Int))) (may : List Int → Int → Option Bool) (p : List Int) : List Nat → Option (List (List Int))
 | [] => some []
 | i :: is => Option.bind (may p (i : Int)) fun b => cond b (Option.bind (rc (p ++ [(i : Int)])) fun a => Option.bind (goL rc may p is) fun r => some (a ++ r)) (goL rc may p is)
def listsO (may : List Int → Int → Option Bool) (lim : Nat) : Nat → List Int → Option (List (List Int))
 | 0, p => some [p]
 | d + 1, p => goL (listsO may lim d) may p (List.range' 0 lim)
theorem zada {rc : List Int → Option (List (List Int))} {may : List Int → Int → Option Bool} {p : List Int} {Pr : List Int → Prop} (hr : ∀ i L, rc (p ++ [(i : Int)]) = some L → ∀ q ∈ L, Pr q) : ∀ (is : List Nat) (L : List (List Int)), goL rc may p is = some L → ∀ q ∈ L, Pr q
 | [], L, h, q, hq => by simp [goL] at h; subst h; cases hq
 | i :: is, L, h, q, hq => by
  unfold goL at h
  cases hm : may p (i : Int) with
  | none => rw [hm] at h; cases h
  | some b =>
   rw [hm, Option.bind_some] at h
   cases b with
   | false => exact zada hr is L h q hq
   | true =>
    rw [cond_true] at h
    cases ha : rc (p ++ [(i : Int)]) with
    | none => rw [ha] at h; cases h
    | some a =>
     rw [ha, Option.bind_some] at h
     cases hg : goL rc may p is with
     | none => rw [hg] at h; cases h
     | some r =>
      rw [hg, Option.bind_some] at h
      cases h
      rcases List.mem_append.1 hq with hq | hq
      ·exact hr i a ha q hq
      ·exact zada hr is r hg q hq
theorem ztp {may : List Int → Int → Option Bool} {lim : Nat} : ∀ (d : Nat) (p : List Int) (L : List (List Int)), listsO may lim d p = some L → ∀ q ∈ L, q.length = p.length + d
 | 0, p, L, h, q, hq => by
  simp [listsO] at h; subst h
  rw [List.mem_singleton.1 hq]; rfl
 | d + 1, p, L, h, q, hq => by
  unfold listsO at h
  exact zada (Pr := fun q => q.length = p.length + (d + 1)) (fun i L' h' q' hq' => by rw [ztp d _ L' h' q' hq']; simp; omega) _ L h q hq
end Go.V
namespace Go.V
theorem ktreeR {P : Program} {G : Glob} {γ : Nat} {tm : Nat → VV} {H : Nat → Option VObj} {nx : Nat} {df : List VDef} {d : Option Tmp} {K : St → Prop} {Qp : VV → St → Prop} {f : FuncId} {args : List VV} {x : VV} (ht : treeL args = true) (hp : VPure P G f args (.tree x)) (h : fin d γ tm H nx df K x .none) : callK P G f args ⟨tm, H, nx, df⟩ d γ K Qp := by
 refine .inl ⟨ht, .tree x, hp, ?_⟩
 rw [← zie (K := K), zbq] at h
 exact h
end Go.V
namespace Go.V
theorem Frozen.ptr {H H' : Nat → Option VObj} {γ : Nat} {el : Option TypeId} {cs : List VV} (hγ : H γ = some (.cells el cs)) (hn : (H' γ).isSome = false) (ht : treeL cs = true) : Frozen H H' (.ptr γ 0) (.tp cs) := by
 refine .inr (.inr ⟨cs.length + 2, ?_⟩)
 have hg : gone H H' γ = some (.cells el cs) := by simp [gone, hn, hγ]
 unfold sealV
 have : (VV.ptr γ 0).tree = false := rfl
 rw [this]
 simp only [Bool.false_eq_true, if_false, hg, Nat.zero_le, if_true, List.drop_zero]
 rw [ziz cs _ ht (by omega)]
 rfl
end Go.V
end
section
namespace Go.V
open Go Go.Proofs
set_option linter.unusedSimpArgs false
set_option linter.unusedVariables false
set_option maxRecDepth 4000
set_option maxHeartbeats 4000000
def ExtOk (β y e : Nat) (mc : List VV) (mf : Nat) (ln lim : Nat) (may : List Int → Int → Option Bool) (I : Inv) (d : Nat) : Prop :=
 ∀ (p : List Int) (rest : List VV) (L : List (List Int)) (Fr : Nat → Prop) (H : Nat → Option VObj) (nx : Nat), p.length + d = ln → listsO may lim d p = some L → (∀ γ, Fr γ → γ < nx) → Fr y → Fr e → H y = some (.cells (some 184) [.yl β]) →
  H e = some (.cells (some 184) [.fn (.func 139) [] [.tp [.lit (.int .i64 ln)], .ptr y 0, .tp [.lit (.int .i64 lim)], .tp [.fn (.func mf) [] mc], .ptr e 0]]) →
  I (some (L.map (vx eI) ++ rest)) Fr H nx →
  VOpen Tryz.prog G0 139 [vx eI p, .tp [.lit (.int .i64 ln)], .ptr y 0, .tp [.lit (.int .i64 lim)], .tp [.fn (.func mf) [] mc], .ptr e 0] H nx
   (fun v H' nx' => ∃ b, v = .lit (.bool b) ∧ nx ≤ nx' ∧ (∀ γ, Fr γ → H' γ = H γ) ∧ I (if b then some rest else none) Fr H' nx') (fun _ _ _ => False)
theorem argsTm6 {a b c e f g : VV} : argsTm [a, b, c, e, f, g] = upd (upd (upd (upd (upd (upd (fun _ => .lit undef) 0 a) 1 b) 2 c) 3 e) 4 f) 5 g := by
 funext t; rcases t with _ | _ | _ | _ | _ | _ | t <;> simp [argsTm, upd]
theorem zaja {P : Program} {t e : Nat} {H : Nat → Option VObj} (hu : P.underlying t = some (.slice e)) : ∀ {p : List Int}, vlen P H t (vx eI p) = some (.lit (.int .i64 p.length))
 | [] => by simp [vlen, vx, hu, sls]
 | _ :: _ => by simp [vlen, vx, hu, sls]
theorem zagi : VPure Tryz.prog G0 140 [.lit (.slice none 0 0)] (.tree (.lit (.slice none 0 0))) := by
 have hnil : ∀ (H : Nat → Option VObj) (x y : Operand), binV Tryz.prog H .eql 29 x y (.lit (.slice none 0 0)) (.lit (.slice none 0 0)) = some (.lit (.bool true)) := fun H x y => by kernel_rfl
 refine VPure.run mixed Tryz.call140 Tryz.func140 rfl (by simp [Tryz.ntmps140]; kernel_rfl) ?_
 simp only [vz, tyf, hnil, seval, ua]
 exact ⟨rfl, .lit (.slice none 0 0), by simp [Tryz.results140, resV, resL, resV1, upd], 1, rfl⟩
theorem zaud {β y e : Nat} {mc : List VV} {mf ln lim : Nat} {may : List Int → Int → Option Bool} {I : Inv} (hst : Stable I) (hr : Rounds Tryz.prog G0 β I) (htm : treeL mc = true) (hln0 : 0 < ln) (hln : ln < 1000) (hlim : lim < 1000000)
  (hm : ∀ (p : List Int) (j : Int) (b : Bool), may p j = some b → VPure Tryz.prog G0 mf (.sl (cellsL eI p) p.length false :: .lit (.int .i64 j) :: mc) (.tree (.lit (.bool b)))) : ∀ d, ExtOk β y e mc mf ln lim may I d := by
 intro d
 induction d with
 | zero =>
  intro p rest L Fr H nx hd hL hF hFy hFe hy he hI
  simp only [listsO, Option.some.injEq] at hL
  subst hL
  refine VOpen.run mixed Tryz.call139 Tryz.func139 rfl (by simp [Tryz.ntmps139]; kernel_rfl) ?_
  have hl := fun H => zaja (P := Tryz.prog) (H := H) Tryz.underlying29 (p := p)
  have hq : ((p.length : Int) == (ln : Int)) = true := by rw [show p.length = ln from hd]; simp
  simp only [argsTm6, vz, tyf, seval, ua, hl, hq, hy, rg]
  have hI9 : I (some (vx eI p :: rest)) Fr H (nx + 9) := hst _ _ _ _ _ _ _ hI (fun _ _ _ => rfl) (by omega) (fun γ h => .inl h)
  refine (hr (vx eI p) rest Fr H (nx + 9) (fun γ h => by have := hF γ h; omega) hI9) (some none) _ _ _ rfl rfl ?_
  rintro b H' nx' ⟨h1, h2, h3⟩
  simp only [vz, tyf, seval, ua]
  exact zaq (x := .lit (.bool b)) (by simp [Tryz.results139, resV, resL, resV1, upd]) ⟨b, rfl, by omega, h2, h3⟩
 | succ d ih =>
  intro p rest L Fr H nx hd hL hF hFy hFe hy he hI
  rw [listsO] at hL
  refine VOpen.run mixed Tryz.call139 Tryz.func139 rfl (by simp [Tryz.ntmps139]; kernel_rfl) ?_
  have hl := fun H => zaja (P := Tryz.prog) (H := H) Tryz.underlying29 (p := p)
  have hq : ((p.length : Int) == (ln : Int)) = false := by rw [← hd]; simp; omega
  simp only [argsTm6, vz, tyf, seval, ua, hl, hq, hy, rg]
  obtain ⟨J, hJ⟩ : ∃ J : Nat → St → Prop, J = (fun m st => ∃ j : Nat, j + m = lim ∧ st.df = [] ∧ nx ≤ st.nx ∧ (∀ γ, Fr γ → st.H γ = H γ) ∧
   (∃ L, goL (listsO may lim d) may p (List.range' j m) = some L ∧ I (some (L.map (vx eI) ++ rest)) Fr st.H st.nx) ∧
   st.tm 0 = vx eI p ∧ st.tm 4 = .tp [.fn (.func mf) [] mc] ∧ st.tm 5 = .ptr e 0 ∧ st.tm 16 = .lit (.int .i64 lim) ∧ st.tm 17 = .lit (.int .i64 j)) := ⟨_, rfl⟩
  refine loopK mixed (by kernel_rfl) J lim (by rw [hJ]; refine ⟨0, by omega, rfl, ?_, fun _ _ => rfl, ⟨L, hL, hst _ _ _ _ _ _ _ hI (fun _ _ _ => rfl) ?_ (fun γ h => .inl h)⟩, ?_, ?_, ?_, ?_, ?_⟩ <;> first | rfl | (simp only; omega)) ?_
  rintro m ⟨tm, H1, nx1, df⟩ hinv
  rw [hJ] at hinv
  obtain ⟨j, hj, hdf, hn, hF1, ⟨L1, hL1, hI1⟩, e0, e4, e5, e16, e17⟩ := hinv
  simp only at hdf hn hF1 hI1 e0 e4 e5 e16 e17
  subst hdf
  cases m with
  | zero =>
   have hd1 : decide ((j : Int) < (lim : Int)) = false := by simp; omega
   simp only [vz, tyf, seval, ua, e16, e17, hd1]
   refine zaq (x := .lit (.bool true)) (by simp [Tryz.results139, resV, resL, resV1, upd]) ⟨true, rfl, by omega, hF1, ?_⟩
   simp only [List.range'_zero, goL, Option.some.injEq] at hL1
   subst hL1
   exact hst _ _ _ _ _ _ _ hI1 (fun _ _ _ => rfl) (by omega) (fun γ h => .inl h)
  | succ m =>
   have hd1 : decide ((j : Int) < (lim : Int)) = true := by simp; omega
   simp only [vz, tyf, seval, ua, e16, e17, hd1, e0, e4, e5]
   refine zmk (fun tm => tm 0 = vx eI p ∧ tm 4 = .tp [.fn (.func mf) [] mc] ∧ tm 5 = .ptr e 0 ∧ tm 8 = .lit (.int .i64 j) ∧ tm 16 = .lit (.int .i64 lim) ∧ tm 17 = .lit (.int .i64 j)) (by refine ⟨?_, ?_, ?_, ?_, ?_, ?_⟩ <;> simp only [ua, seval, e0, e4, e5, e16, e17]) ?_
   clear e0 e4 e5 e16 e17 tm
   rintro tm ⟨e0, e4, e5, e8, e16, e17⟩
   refine zxn mixed 11 rfl rfl rfl (by kernel_rfl) ?_
   rw [List.range'_succ] at hL1
   unfold goL at hL1
   rcases hmb : may p (j : Int) with _ | mb
   ·rw [hmb] at hL1; cases hL1
   rw [hmb, Option.bind_some] at hL1
   have hmay' : VPure Tryz.prog G0 mf (vx eI p :: .lit (.int .i64 j) :: mc) (.tree (.lit (.bool mb))) := VPure.weaken (by
    rintro c W vs ⟨u, us, rfl, h1, h2⟩
    exact ⟨u, us, rfl, zaux h1, h2⟩) (hm p j mb hmb)
   simp only [vz, tyf, seval, ua, e0, e4, e5, e8, e16, e17, rg]
   refine .inl ⟨by simp only [zik, zaqr eI_ok, zwd, htm, Bool.and_self], .tree _, hmay', ?_⟩
   have hw : IntKind.i64.wrap ((j : Int) + 1) = ((j + 1 : Nat) : Int) := by rw [IntWalk.i64_in _ (by omega)]; simp
   have he1 : H1 e = _ := (hF1 e hFe).trans he
   have hy1 : H1 y = _ := (hF1 y hFy).trans hy
   have hen : e < nx1 := Nat.lt_of_lt_of_le (hF e hFe) hn
   have hyn : y < nx1 := Nat.lt_of_lt_of_le (hF y hFy) hn
   cases mb with
   | false =>
    rw [cond_false] at hL1
    simp only [vz, tyf, seval, ua, e0, e4, e5, e8, e16, e17, rg, hw]
    rw [hJ]
    exact ⟨m, Nat.lt_succ_self _, j + 1, by omega, rfl, (by show nx ≤ nx1 + 19; omega), hF1, ⟨L1, hL1, hst _ _ _ _ _ _ _ hI1 (fun _ _ _ => rfl) (by show nx1 ≤ nx1 + 19; omega) (fun γ h => .inl h)⟩, by simp only [ua, seval, e0], by simp only [ua, seval, e4], by simp only [ua, seval, e5], by simp only [ua, seval, e16], by simp only [ua, seval]⟩
   | true =>
    rw [cond_true] at hL1
    rcases hLa : listsO may lim d (p ++ [(j : Int)]) with _ | La
    ·rw [hLa] at hL1; cases hL1
    rw [hLa, Option.bind_some] at hL1
    rcases hLr : goL (listsO may lim d) may p (List.range' (j + 1) m) with _ | Lr
    ·rw [hLr] at hL1; cases hL1
    rw [hLr, Option.bind_some, Option.some.injEq] at hL1
    subst hL1
    rw [List.map_append, List.append_assoc] at hI1
    have hv : vx eI (p ++ [(j : Int)]) = .sl (cellsL eI (p ++ [(j : Int)])) (p ++ [(j : Int)]).length false := zaeo (by simp)
    have hroom : roomOk 8 (p ++ [(j : Int)]).length = true := by
     unfold roomOk
     simp only [List.length_append, List.length_cons, List.length_nil, decide_eq_true_eq]
     omega
    simp only [vz, tyf, seval, ua, e0, e4, e5, e8, e16, e17, rg, he1]
    rcases hpc : p with _ | ⟨p0, pt⟩
    ·subst hpc
     refine .inl ⟨rfl, .tree _, zagi, ?_⟩
     simp only [vz, tyf, seval, ua, e0, e4, e5, e8, e16, e17, rg, he1]
     have hroom1 : roomOk 8 ([] ++ [(j : Int)]).length = true := rfl
     refine zalx (w := 1) (enc := eI) (ys := [(j : Int)]) (el2 := some 3) (fun _ => rfl) lf29 ao29 Tryz.underlying29 (by simp only [ua, nm, seval]; rfl) (Nat.zero_lt_succ _) hroom1 ?_
     simp only [vz, tyf, seval, ua, nm, e0, e4, e5, e8, e16, e17, rg, he1]
     refine zcr ⟨?_, ?_⟩
     ·simp only [zbj, zbu, zai, zdl, and_true, true_and]
      repeat' (first | exact trivial | refine And.intro ?_ ?_ | rw [zai] | rw [zcp] | exact Or.inl (by decide +kernel) | exact Or.inl (by dsimp only; decide +kernel) | (refine Or.inr ⟨?_, ?_⟩ <;> simp; done) | (refine Or.inr ⟨?_, ?_⟩ <;> simp <;> omega) | (refine Or.inr ⟨?_, ?_⟩ <;> simp [VEff.wr] <;> omega))
     simp only [vz, tyf, seval, ua, e0, e4, e5, e8, e16, e17, rg, he1]
     refine kopen ?_
     rw [zsi]
     have hcell : (updH (updH H1 (nx1 + 12) (VObj.cells (some 3) [VV.lit (Value.int IntKind.i64 ↑j)])) (nx1 + 13) (VObj.cells (some 3) (cellsL eI ([] ++ [(j : Int)])))) (nx1 + 13) = some (.cells (some 3) (cellsL eI ([] ++ [(j : Int)]))) := by simp only [ua, seval]
     have hbig : ∀ γ, γ < nx1 → without (updH (updH H1 (nx1 + 12) (VObj.cells (some 3) [VV.lit (Value.int IntKind.i64 ↑j)])) (nx1 + 13) (VObj.cells (some 3) (cellsL eI ([] ++ [(j : Int)])))) (nx1 + 13) γ = H1 γ := by
      intro γ h
      simp only [updH, without]
      repeat rw [if_neg (by omega)]
     refine VOpen.mono (VOpen.freeze1 (γ := nx1 + 13) hcell (args' := [vx eI ([] ++ [(j : Int)]), .tp [.lit (.int .i64 ln)], .ptr y 0, .tp [.lit (.int .i64 lim)], .tp [.fn (.func mf) [] mc], .ptr e 0]) ⟨by rw [hv]; exact Frozen.own hcell (eI_ok.treeL _) (by rw [zcu (w := 1) (fun _ => rfl)]), FrozenL.same⟩ (ih ([] ++ [(j : Int)]) _ La Fr _ _ (by simp at hd ⊢; omega) hLa (fun γ h => by have := hF γ h; omega) hFy hFe ((hbig y hyn).trans hy1) ((hbig e hen).trans he1) (hst _ _ _ _ _ _ _ hI1 (fun γ h _ => hbig γ h) (by omega) (fun γ h => .inl h)))) ?_ (fun _ _ _ h => h.elim)
     rintro v H2 nx2 ⟨b, rfl, h1, h2, h3⟩
     have hF2 : ∀ γ, Fr γ → H2 γ = H γ := fun γ h => by rw [h2 γ h, hbig γ (Nat.lt_of_lt_of_le (hF γ h) hn), hF1 γ h]
     simp only [vz, tyf, seval, ua, e0, e4, e5, e8, e16, e17, rg, he1]
     cases b with
     | false =>
      simp only [vz, tyf, seval, ua, Bool.not_false]
      refine zaq (x := .lit (.bool false)) (by simp [Tryz.results139, resV, resL, resV1, upd]) ⟨false, rfl, by omega, hF2, ?_⟩
      exact hst _ _ _ _ _ _ _ h3 (fun _ _ _ => rfl) (by omega) (fun γ h => .inl h)
     | true =>
      simp only [vz, tyf, seval, ua, Bool.not_true, hw]
      simp only [if_true] at h3
      rw [hJ]
      exact ⟨m, Nat.lt_succ_self _, j + 1, by omega, rfl, (by show nx ≤ nx2 + 2; omega), hF2, ⟨Lr, hLr, hst _ _ _ _ _ _ _ h3 (fun _ _ _ => rfl) (by show nx2 ≤ nx2 + 2; omega) (fun γ h => .inl h)⟩, by simp only [ua, seval, e0], by simp only [ua, seval, e4], by simp only [ua, seval, e5], by simp only [ua, seval, e16], by simp only [ua, seval]⟩
    rw [← hpc]
    have hne : p ≠ [] := by rw [hpc]; simp
    have hvp : vx eI p = .sl (cellsL eI p) p.length false := zaeo hne
    rw [hvp]
    have hcl : zfa p = some p := by
     unfold zfa
     have h1 : neB p = true := by rw [hpc]; rfl
     have h2 : roomOk 8 p.length = true := by
      unfold roomOk at hroom ⊢
      simp only [List.length_append, List.length_cons, List.length_nil, decide_eq_true_eq] at hroom ⊢
      omega
     rw [h1, h2]; rfl
    refine dkown (args0 := [.sl (cellsL eI p) p.length false]) (by first | (simp only [nrm, tynrm]; done) | (simp only [nrm, tynrm]; rfl) | rfl) (by simp only [tre, tytre, Bool.and_self]) (zkp _ _ hcl) ?_
    simp only [vz, tyf, seval, ua, e0, e4, e5, e8, e16, e17, rg, he1]
    refine k_app (w := 1) (enc := eI) (xs := p) (ys := [(j : Int)]) (el := none) (el2 := some 3) (fun _ => rfl) lf29 ao29 Tryz.underlying29 (by simp only [ua, nm, seval]) (by simp only [ua, nm, seval]; rfl) (Nat.zero_lt_succ _) hroom ?_
    simp only [vz, tyf, seval, ua, nm, e0, e4, e5, e8, e16, e17, rg, he1]
    refine zcr ⟨?_, ?_⟩
    ·simp only [zbj, zbu, zai, zdl, and_true, true_and]
     repeat' (first | exact trivial | refine And.intro ?_ ?_ | rw [zai] | rw [zcp] | exact Or.inl (by decide +kernel) | exact Or.inl (by dsimp only; decide +kernel) | (refine Or.inr ⟨?_, ?_⟩ <;> simp; done) | (refine Or.inr ⟨?_, ?_⟩ <;> simp <;> omega) | (refine Or.inr ⟨?_, ?_⟩ <;> simp [VEff.wr] <;> omega))
    simp only [vz, tyf, seval, ua, e0, e4, e5, e8, e16, e17, rg, he1]
    refine kopen ?_
    rw [zsi]
    have hcell : (updH (without (updH (updH H1 (nx1 + 10) (VObj.cells none (cellsL eI p))) (nx1 + 12) (VObj.cells (some 3) [VV.lit (Value.int IntKind.i64 ↑j)])) (nx1 + 10)) (nx1 + 13) (VObj.cells (sameEl none 3) (cellsL eI (p ++ [(j : Int)])))) (nx1 + 13) = some (.cells (sameEl none 3) (cellsL eI (p ++ [(j : Int)]))) := by simp only [ua, seval]
    have hbig : ∀ γ, γ < nx1 → without (updH (without (updH (updH H1 (nx1 + 10) (VObj.cells none (cellsL eI p))) (nx1 + 12) (VObj.cells (some 3) [VV.lit (Value.int IntKind.i64 ↑j)])) (nx1 + 10)) (nx1 + 13) (VObj.cells (sameEl none 3) (cellsL eI (p ++ [(j : Int)])))) (nx1 + 13) γ = H1 γ := by
     intro γ h
     simp only [updH, without]
     repeat rw [if_neg (by omega)]
    refine VOpen.mono (VOpen.freeze1 (γ := nx1 + 13) hcell (args' := [vx eI (p ++ [(j : Int)]), .tp [.lit (.int .i64 ln)], .ptr y 0, .tp [.lit (.int .i64 lim)], .tp [.fn (.func mf) [] mc], .ptr e 0]) ⟨by rw [hv]; exact Frozen.own hcell (eI_ok.treeL _) (by rw [zcu (w := 1) (fun _ => rfl)]), FrozenL.same⟩ (ih (p ++ [(j : Int)]) _ La Fr _ _ (by simp; omega) hLa (fun γ h => by have := hF γ h; omega) hFy hFe ((hbig y hyn).trans hy1) ((hbig e hen).trans he1) (hst _ _ _ _ _ _ _ hI1 (fun γ h _ => hbig γ h) (by omega) (fun γ h => .inl h)))) ?_ (fun _ _ _ h => h.elim)
    rintro v H2 nx2 ⟨b, rfl, h1, h2, h3⟩
    have hF2 : ∀ γ, Fr γ → H2 γ = H γ := fun γ h => by rw [h2 γ h, hbig γ (Nat.lt_of_lt_of_le (hF γ h) hn), hF1 γ h]
    simp only [vz, tyf, seval, ua, e0, e4, e5, e8, e16, e17, rg, he1]
    cases b with
    | false =>
     simp only [vz, tyf, seval, ua, Bool.not_false]
     refine zaq (x := .lit (.bool false)) (by simp [Tryz.results139, resV, resL, resV1, upd]) ⟨false, rfl, by omega, hF2, ?_⟩
     exact hst _ _ _ _ _ _ _ h3 (fun _ _ _ => rfl) (by omega) (fun γ h => .inl h)
    | true =>
     simp only [vz, tyf, seval, ua, Bool.not_true, hw]
     simp only [if_true] at h3
     rw [hJ]
     exact ⟨m, Nat.lt_succ_self _, j + 1, by omega, rfl, (by show nx ≤ nx2 + 2; omega), hF2, ⟨Lr, hLr, hst _ _ _ _ _ _ _ h3 (fun _ _ _ => rfl) (by show nx2 ≤ nx2 + 2; omega) (fun γ h => .inl h)⟩, by simp only [ua, seval, e0], by simp only [ua, seval, e4], by simp only [ua, seval, e5], by simp only [ua, seval, e16], by simp only [ua, seval]⟩
theorem zsw {mc : List VV} {mf ln lim : Nat} {may : List Int → Int → Option Bool} {L : List (List Int)} (htm : treeL mc = true) (hln0 : 0 < ln) (hln : ln < 1000) (hlim : lim < 1000000)
  (hL : listsO may lim ln [] = some L) (hm : ∀ (p : List Int) (j : Int) (b : Bool), may p j = some b → VPure Tryz.prog G0 mf (.sl (cellsL eI p) p.length false :: .lit (.int .i64 j) :: mc) (.tree (.lit (.bool b)))) :
  Iter Tryz.prog G0 (.fn (.func 138) [] [.tp [.lit (.int .i64 ln)], .tp [.lit (.int .i64 lim)], .tp [.fn (.func mf) [] mc]]) (L.map sI) := by
 rw [← zash (fun q hq hn => by have := ztp _ _ _ hL q hq; rw [hn] at this; simp at this; omega)]
 refine ⟨138, [], _, rfl, fun β I hst hr H nx hβ hI => ?_⟩
 refine VOpen.run mixed Tryz.call138 Tryz.func138 rfl (by simp [Tryz.ntmps138]; kernel_rfl) ?_
 simp only [List.nil_append, List.cons_append, argsTm4, vz, tyf, seval, ua, rg]
 refine kopen ?_
 rw [zsi]
 refine VOpen.mono (zaud hst hr htm hln0 hln hlim hm ln [] [] L (fun γ => γ = nx + 0 ∨ γ = nx + 1) _ _ (by simp) hL (by rintro γ (rfl | rfl) <;> omega) (.inl rfl) (.inr rfl) (by simp [updH]) (by simp [updH]) ?_) ?_ (fun _ _ _ h => h.elim)
 ·rw [List.append_nil]
  refine hst _ _ _ _ _ _ _ hI ?_ (by omega) (by rintro γ (rfl | rfl) <;> right <;> omega)
  intro γ h _
  simp only [updH]
  repeat rw [if_neg (by omega)]
 rintro v H2 nx2 ⟨b, rfl, h1, h2, h3⟩
 simp only [vz, tyf, seval, ua]
 refine zjp (x := .tup []) (by simp [Tryz.results138, resV, resL]) ?_
 replace h3 := hst _ _ noFr _ _ _ _ h3 (fun _ _ _ => rfl) (Nat.le_refl _) (fun γ h => h.elim)
 cases b with
 | true => exact .inl h3
 | false => exact .inr h3
end Go.V
end
section
namespace Go.V
open Go Go.Proofs
def zjb (x0_before : List Int) (x1_next : Int) (x2_a2 : Int) (x3_a3 : Int) : Option (Bool) := Option.bind (zhy x0_before) (fun r1 => cond ((IntKind.i64.wrap ((IntKind.i64.wrap (x2_a2 - r1)) - x1_next)) == 0) (some true) (cond (decide ((IntKind.i64.wrap ((IntKind.i64.wrap (x2_a2 - r1)) - x1_next)) > 0)) (some (decide ((List.length x0_before : Int) < (IntKind.i64.wrap (x3_a3 - 1))))) (some false)))
theorem znb (x0_before : List Int) (x1_next : Int) (x2_a2 : Int) (x3_a3 : Int) (R : Bool) (h : zjb x0_before x1_next x2_a2 x3_a3 = some R) : VPure Tryz.prog G0 127 [.sl (cellsL eI x0_before) (List.length x0_before) false, .lit (.int .i64 x1_next), .tp ([.lit (.int .i64 x2_a2)]), .tp ([.lit (.int .i64 x3_a3)])] (.tree (.lit (.bool R))) := by
 refine VPure.runR mixed Tryz.call127 Tryz.func127 rfl (by simp [Tryz.ntmps127]; kernel_rfl) ?_
 obtain ⟨KF, h, kF, kN⟩ := zak h
 simp only [zjb] at h
 simp only [vz, tyf, nm, seval]
 refine zcq (fun tm => tm 0 = .sl (cellsL eI x0_before) (List.length x0_before) false ∧ tm 1 = .lit (.int .i64 x1_next) ∧ tm 2 = .tp ([.lit (.int .i64 x2_a2)]) ∧ tm 3 = .tp ([.lit (.int .i64 x3_a3)]) ∧ True) (by refine ⟨?_, ?_, ?_, ?_, trivial⟩ <;> first | (simp only [ua, nm, seval] <;> rfl) | rfl) ?_
 rintro tm ⟨e2, e3, e4, e5, _⟩
 rcases o7 : (zhy x0_before) with _ | r6
 ·simp only [o7, hs] at h
  exact absurd h kN
 simp only [o7, hs] at h
 simp only [vz, tyf, e2, e3, e4, e5, nm, seval]
 refine dktree (args0 := [.sl (cellsL eI x0_before) (List.length x0_before) false]) (by first | (simp only [nrm, tynrm] <;> rfl) | rfl) (by simp only [tre, tytre, Bool.and_self]) (zmh _ _ o7) ?_
 refine zac (fun tm => tm 0 = .sl (cellsL eI x0_before) (List.length x0_before) false ∧ tm 1 = .lit (.int .i64 x1_next) ∧ tm 3 = .tp ([.lit (.int .i64 x3_a3)]) ∧ tm 8 = .lit (.int .i64 x2_a2) ∧ tm 10 = .lit (.int .i64 r6) ∧ True) (by refine ⟨e2, e3, e5, ?_, ?_, trivial⟩ <;> first | (simp only [ua, e2, e3, e4, e5, nm, seval] <;> rfl) | rfl) ?_
 rintro tm ⟨e8, e9, e10, e11, e12, _⟩
 cases d13 : ((IntKind.i64.wrap ((IntKind.i64.wrap (x2_a2 - r6)) - x1_next)) == 0)
 ·simp only [d13, hs] at h
  cases d14 : (decide ((IntKind.i64.wrap ((IntKind.i64.wrap (x2_a2 - r6)) - x1_next)) > 0))
  ·simp only [d14, hs] at h
   try simp only [vz, tyf, e8, e9, e10, e11, e12, d13, d14, nm, seval]
   obtain rfl := kF _ h
   exact zab Tryz.results127 rfl
  simp only [d14, hs] at h
  try simp only [vz, tyf, e8, e9, e10, e11, e12, d13, d14, nm, seval]
  obtain rfl := kF _ h
  exact zab Tryz.results127 rfl
 simp only [d13, hs] at h
 try simp only [vz, tyf, e8, e9, e10, e11, e12, d13, nm, seval]
 obtain rfl := kF _ h
 exact zab Tryz.results127 rfl
end Go.V
end
section
namespace Go.V
open Go Go.Proofs
theorem zafe {mc : List VV} {mf : Nat} {ln lim : Int} (htm : treeL mc = true) : VPure Tryz.prog G0 125 [.lit (.int .i64 ln), .lit (.int .i64 lim), .fn (.func mf) [] mc] (.tree (.fn (.func 138) [] [.tp [.lit (.int .i64 ln)], .tp [.lit (.int .i64 lim)], .tp [.fn (.func mf) [] mc]])) := by
 refine VPure.run mixed Tryz.call125 Tryz.func125 rfl (by simp [Tryz.ntmps125]; kernel_rfl) ?_
 simp only [vz, tyf, seval, ua, rg]
 refine ⟨rfl, .fn (.func 138) [] [.ptr 0 0, .ptr 1 0, .ptr 2 0], by simp [Tryz.results125, resV, resL, resV1, upd], 20, ?_⟩
 simp [sealV, sealL, VV.tree, treeL, updH, htm]
def mayC (t p : Int) : List VV := [.tp [.lit (.int .i64 p)], .tp [.lit (.int .i64 t)]]
theorem zyc {t p : Int} : treeL (mayC t p) = true := rfl
def itM (t p : Int) : VV := .fn (.func 138) [] [.tp [.lit (.int .i64 t)], .tp [.lit (.int .i64 (IntKind.i64.wrap (p + 1)))], .tp [.fn (.func 127) [] (mayC t p)]]
theorem zakr (t p : Int) : VPure Tryz.prog G0 110 [.lit (.int .i64 t), .lit (.int .i64 p)] (.tree (itM t p)) := by
 refine VPure.run mixed Tryz.call110 Tryz.func110 rfl (by simp [Tryz.ntmps110]; kernel_rfl) ?_
 simp only [vz, tyf, seval, ua, rg]
 refine kopen ?_
 rw [zsi]
 refine VOpen.mono (VOpen.freezeN [1, 0] ?_ (args' := [.lit (.int .i64 t), .lit (.int .i64 (IntKind.i64.wrap (p + 1))), .fn (.func 127) [] (mayC t p)]) ⟨.same, .same, Frozen.closure [(1, [.lit (.int .i64 p)]), (0, [.lit (.int .i64 t)])] 20 (by simp) ?_, trivial⟩ (VOpen.of_pure (zafe zyc) rfl)) ?_ (fun _ _ _ h => h.elim)
 ·intro γ hγ
  rcases List.mem_cons.1 hγ with rfl | hγ
  ·exact ⟨some 3, [.lit (.int .i64 p)], by simp [updH]⟩
  rw [List.mem_singleton.1 hγ]
  exact ⟨some 3, [.lit (.int .i64 t)], by simp [updH]⟩
 ·intro q hq
  rcases List.mem_cons.1 hq with rfl | hq
  ·exact ⟨⟨some 3, by simp [updH]⟩, by simp [lessN], rfl, by simp⟩
  rw [List.mem_singleton.1 hq]
  exact ⟨⟨some 3, by simp [updH]⟩, by simp [lessN], rfl, by simp⟩
 rintro v H2 nx2 ⟨rfl, rfl, rfl⟩
 simp only [vz, tyf, seval, ua]
 refine ⟨rfl, itM t p, by simp [Tryz.results110, resV, resL, resV1, upd]; rfl, 2, ?_⟩
 simp [sealV, itM, VV.tree, treeL, mayC]
def smallOk (n m : Int) : Bool := decide (0 < n) && (decide (n < 1000) && (decide (0 ≤ m) && decide (m < 999999)))
def zsm (t p : Int) : Option (List (List Int)) := cond (smallOk t p) (listsO (fun l j => zjb l j p t) (p + 1).toNat t.toNat []) none
theorem zzd (t p : Int) (R : List (List Int)) (h : zsm t p = some R) : VPure Tryz.prog G0 110 [.lit (.int .i64 t), .lit (.int .i64 p)] (.tree (itM t p)) ∧ Iter Tryz.prog G0 (itM t p) (R.map sI) := by
 refine ⟨zakr t p, ?_⟩
 unfold zsm at h
 cases hs : smallOk t p with
 | false => rw [hs] at h; cases h
 | true =>
 rw [hs, cond_true] at h
 simp only [smallOk, Bool.and_eq_true, decide_eq_true_eq] at hs
 obtain ⟨h1, h2, h3, h4⟩ := hs
 obtain ⟨n, rfl⟩ : ∃ n : Nat, t = n := ⟨t.toNat, by omega⟩
 obtain ⟨m, rfl⟩ : ∃ m : Nat, p = m := ⟨p.toNat, by omega⟩
 have e1 : IntKind.i64.wrap ((m : Int) + 1) = ((m + 1 : Nat) : Int) := by rw [IntWalk.i64_in _ (by omega)]; simp
 have e2 : ((m : Int) + 1).toNat = m + 1 := by omega
 have e3 : ((n : Int)).toNat = n := by omega
 unfold itM
 rw [e2, e3] at h
 rw [e1]
 exact zsw zyc (by omega) (by omega) (by omega) h (fun l j b hb => znb l j m n b hb)
end Go.V
end
