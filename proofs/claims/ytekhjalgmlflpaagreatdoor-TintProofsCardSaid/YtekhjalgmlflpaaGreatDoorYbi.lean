/- Part of a proof. -/
import Derived.Test.YtekhjalgmlflpaaGreatDoorYbh
set_option linter.all false
set_option maxRecDepth 4000
set_option maxHeartbeats 40000000
section
namespace Go.V
open Go
theorem VOpen.freeze1 {P : Program} {G : Glob} {f : FuncId} {args args' : List VV} {H : Nat → Option VObj} {nx γ : Nat} {el : Option TypeId} {cs : List VV} {R Rp : VV → (Nat → Option VObj) → Nat → Prop} (hγ : H γ = some (.cells el cs))
  (ha : FrozenL H (without H γ) args args') (h : VOpen P G f args' (without H γ) nx R Rp) : VOpen P G f args H nx R Rp := by
 refine ⟨h.1, fun c W vs s hH hnx hG hargs => ?_⟩
 subst hH
 have ho' : ∀ β o', without c.H γ β = some o' → ∃ o, c.H β = some o ∧ FrozenO c.H (without c.H γ) o o' := fun β o' hb => ⟨o', SubHeap.without _ _ β o' hb, .inl rfl⟩
 have hl : ∀ β, (without c.H γ β).isSome = true → c.live β := by
  intro β h
  obtain ⟨o', h'⟩ := Option.isSome_iff_exists.1 h
  obtain ⟨o, h1, _⟩ := ho' β o' h'
  simp [Ctx.live, h1]
 have he : Ext c W (c.frz (without c.H γ)) W := zva hl
 have ab : Abides c W (c.frz (without c.H γ)) W := zhc hl
 have hloop : ∀ x st pe tm ps asg bo df, without c.H γ x = some (.loop st pe tm ps asg bo df) → isDef (without c.H γ) df := by
  intro x st pe tm ps asg bo df hx
  obtain ⟨l, fn, _, _, _, hd⟩ := s.obj x _ (SubHeap.without _ _ x _ hx)
  exact hd.without hγ
 refine (h.2 (c.frz (without c.H γ)) W vs (s.frz ho' hloop) rfl hnx (hG.abides ab) (zgu s hl ha hargs)).mono ?_
 rintro e W' ⟨c', H1, nx', g1, g2, g3, g4, g5, g6, g7⟩
 exact ⟨c', H1, nx', he.trans g1, g2, g3, g4, g5, g6, g7⟩
theorem Frozen.same {H H' : Nat → Option VObj} {x : VV} : Frozen H H' x x := .inl rfl
theorem FrozenL.same {H H' : Nat → Option VObj} : ∀ {xs : List VV}, FrozenL H H' xs xs
 | [] => trivial
 | _ :: _ => ⟨.same, .same⟩
theorem Frozen.own {H : Nat → Option VObj} {γ n w cp : Nat} {el : Option TypeId} {cs : List VV} (hγ : H γ = some (.cells el cs)) (ht : treeL cs = true) (hl : cs.length = n * w) : Frozen H (without H γ) (.ref γ 0 n w cp) (.sl cs n false) := by
 refine .inr (.inr ⟨cs.length + 2, ?_⟩)
 have hg : gone H (without H γ) γ = some (.cells el cs) := by simp [gone, without, hγ]
 unfold sealV
 have : (VV.ref γ 0 n w cp).tree = false := rfl
 rw [this]
 simp only [Bool.false_eq_true, if_false, hg, Nat.zero_le, if_true, List.drop_zero]
 rw [List.take_of_length_le (by omega), zhp cs _ ht (by omega)]
 rfl
theorem VPure.weaken {P : Program} {G : Glob} {f : FuncId} {args args' : List VV} {r : PRes} (hw : ∀ c W vs, RepL c W args vs → RepL c W args' vs) (h : VPure P G f args' r) : VPure P G f args r :=
 ⟨h.1, fun A W vs h1 h2 h3 => h.2 A W vs h1 h2 (hw _ W vs h3)⟩
theorem zano {c : Ctx} {W : World} {v : Value} (h : Rep c W (.lit (.slice none 0 0)) v) : Rep c W (.sl [] 0 false) v := by
 have e : v = .slice none 0 0 := h
 subst e
 exact ⟨none, 0, rfl, Nat.le_refl _, fun h => by simp at h, .inl rfl⟩
def vx {α : Type} (enc : α → List VV) : List α → VV
 | [] => .lit (.slice none 0 0)
 | l => .sl (cellsL enc l) l.length false
theorem zapd {α : Type} {enc : α → List VV} {c : Ctx} {W : World} {v : Value} : ∀ {l : List α}, Rep c W (vx enc l) v → Rep c W (.sl (cellsL enc l) l.length false) v
 | [], h => zano h
 | _ :: _, h => h
theorem zaaf {α : Type} {enc : α → List VV} {l : List α} (h : l ≠ []) : vx enc l = .sl (cellsL enc l) l.length false := by cases l with
 | nil => exact absurd rfl h
 | cons a l => rfl
end Go.V
namespace Go.V
theorem zanj {α : Type} {enc : α → List VV} (he : EncOk enc) : ∀ {l : List α}, (vx enc l).tree = true
 | [] => rfl
 | a :: l => he.treeL (a :: l)
end Go.V
namespace Go.V
def lessN (H : Nat → Option VObj) (ns : List Nat) : Nat → Option VObj := fun γ => if γ ∈ ns then none else H γ
theorem zuu {H : Nat → Option VObj} {ns : List Nat} : SubHeap (lessN H ns) H := fun x o h => by
 unfold lessN at h
 split at h
 ·cases h
 ·exact h
theorem VOpen.freezeN {P : Program} {G : Glob} {f : FuncId} {args args' : List VV} {H : Nat → Option VObj} {nx : Nat} {R Rp : VV → (Nat → Option VObj) → Nat → Prop} (ns : List Nat) (hns : ∀ γ ∈ ns, ∃ el cs, H γ = some (.cells el cs))
  (ha : FrozenL H (lessN H ns) args args') (h : VOpen P G f args' (lessN H ns) nx R Rp) : VOpen P G f args H nx R Rp := by
 refine ⟨h.1, fun c W vs s hH hnx hG hargs => ?_⟩
 subst hH
 have ho' : ∀ β o', lessN c.H ns β = some o' → ∃ o, c.H β = some o ∧ FrozenO c.H (lessN c.H ns) o o' := fun β o' hb => ⟨o', zuu β o' hb, .inl rfl⟩
 have hl : ∀ β, (lessN c.H ns β).isSome = true → c.live β := by
  intro β h
  obtain ⟨o', h'⟩ := Option.isSome_iff_exists.1 h
  obtain ⟨o, h1, _⟩ := ho' β o' h'
  simp [Ctx.live, h1]
 have he : Ext c W (c.frz (lessN c.H ns)) W := zva hl
 have ab : Abides c W (c.frz (lessN c.H ns)) W := zhc hl
 have hloop : ∀ x st pe tm ps asg bo df, lessN c.H ns x = some (.loop st pe tm ps asg bo df) → isDef (lessN c.H ns) df := by
  intro x st pe tm ps asg bo df hx
  obtain ⟨l, fn, _, _, _, ds, hd⟩ := s.obj x _ (zuu x _ hx)
  refine ⟨ds, ?_⟩
  unfold lessN
  split
  ·rename_i hm
   obtain ⟨el, cs, hc⟩ := hns df hm
   rw [hc] at hd; cases hd
  ·exact hd
 refine (h.2 (c.frz (lessN c.H ns)) W vs (s.frz ho' hloop) rfl hnx (hG.abides ab) (zgu s hl ha hargs)).mono ?_
 rintro e W' ⟨c', H1, nx', g1, g2, g3, g4, g5, g6, g7⟩
 exact ⟨c', H1, nx', he.trans g1, g2, g3, g4, g5, g6, g7⟩
theorem VOpen.of_pure {P : Program} {G : Glob} {f : FuncId} {args : List VV} {x : VV} {H : Nat → Option VObj} {nx : Nat} (h : VPure P G f args (.tree x)) (ht : treeL args = true) : VOpen P G f args H nx (fun y H' nx' => y = x ∧ H' = H ∧ nx' = nx) (fun _ _ _ => False) := by
 refine ⟨h.1, fun c W vs s hH hnx hG ha => (h.2 c.A W vs s.ltA (fun g cs hg => hG.tree g cs hg) (zeu ht ha)).mono ?_⟩
 rintro e W' ⟨A', h1, h2, h3, hb, v, rfl, hx⟩
 exact ⟨c.more A', H, nx, Ext.more h1 h2 hb, Sim.more s h1 h2 h3 hb, hH, fun β hb => .inl hb, hnx, Nat.le_refl _, .inl ⟨x, v, rfl, Rep.abides (zbz (fun _ h => h)) _ hx, rfl, rfl, rfl⟩⟩
abbrev sI (l : List Int) : VV := .sl (cellsL eI l) l.length false
theorem zart {L : List (List Int)} (h : ∀ q ∈ L, q ≠ []) : L.map (vx eI) = L.map sI := List.map_congr_left fun q hq => zaaf (h q hq)
end Go.V
namespace Go.V
theorem zsn {H : Nat → Option VObj} {m : Nat} : ∀ (caps : List (Nat × List VV)) (n : Nat), (∀ p ∈ caps, (∃ el, H p.1 = some (.cells el p.2)) ∧ treeL p.2 = true ∧ p.2.length < m) → caps.length + m + 2 < n →
  sealL H n (caps.map fun p => .ptr p.1 0) = some (caps.map fun p => .tp p.2)
 | [], n + 1, _, _ => by simp [sealL]
 | p :: caps, n + 1, h, hn => by
  obtain ⟨⟨el, h1⟩, h2, h3⟩ := h p (List.mem_cons_self ..)
  have ih := zsn caps n (fun q hq => h q (List.mem_cons_of_mem _ hq)) (by simp at hn; omega)
  obtain ⟨n', rfl⟩ : ∃ n', n = n' + 1 := ⟨n - 1, by simp at hn; omega⟩
  have e : sealV H (n' + 1) (.ptr p.1 0) = some (.tp p.2) := by
   unfold sealV
   have : (VV.ptr p.1 0).tree = false := rfl
   rw [this]
   simp only [Bool.false_eq_true, if_false, h1, Nat.zero_le, if_true, List.drop_zero]
   rw [zhp _ _ h2 (by simp at hn; omega)]
   rfl
  simp only [List.map_cons]
  unfold sealL
  rw [e, ih]
theorem Frozen.closure {H H' : Nat → Option VObj} {f : Fn} (caps : List (Nat × List VV)) (m : Nat) (hne : caps ≠ []) (h : ∀ p ∈ caps, (∃ el, H p.1 = some (.cells el p.2)) ∧ (H' p.1).isSome = false ∧ treeL p.2 = true ∧ p.2.length < m) : Frozen H H' (.fn f [] (caps.map fun p => .ptr p.1 0)) (.fn f [] (caps.map fun p => .tp p.2)) := by
 refine .inr (.inr ⟨caps.length + m + 4, ?_⟩)
 have hg : ∀ p ∈ caps, (∃ el, gone H H' p.1 = some (.cells el p.2)) ∧ treeL p.2 = true ∧ p.2.length < m := by
  intro p hp
  obtain ⟨⟨el, h1⟩, h2, h3⟩ := h p hp
  exact ⟨⟨el, by simp [gone, h2, h1]⟩, h3⟩
 have ht : (VV.fn f [] (caps.map fun p => .ptr p.1 0)).tree = false := by
  cases caps with
  | nil => exact absurd rfl hne
  | cons p l => simp [VV.tree, treeL]
 unfold sealV
 rw [ht]
 simp only [Bool.false_eq_true, if_false]
 rw [zsn caps _ hg (by omega)]
 have : sealL (gone H H') (caps.length + m + 3) [] = some [] := by simp [sealL]
 rw [this]
end Go.V
namespace Go.V
def goL (rc : List Int → Option (List (List Int))) (may : List Int → Int → Option Bool) (p : List Int) : List Nat → Option (List (List Int))
 | [] => some []
 | i :: is => Option.bind (may p (i : Int)) fun b => cond b (Option.bind (rc (p ++ [(i : Int)])) fun a => Option.bind (goL rc may p is) fun r => some (a ++ r)) (goL rc may p is)
def listsO (may : List Int → Int → Option Bool) (lim : Nat) : Nat → List Int → Option (List (List Int))
 | 0, p => some [p]
 | d + 1, p => goL (listsO may lim d) may p (List.range' 0 lim)
theorem zyf {rc : List Int → Option (List (List Int))} {may : List Int → Int → Option Bool} {p : List Int} {Pr : List Int → Prop} (hr : ∀ i L, rc (p ++ [(i : Int)]) = some L → ∀ q ∈ L, Pr q) : ∀ (is : List Nat) (L : List (List Int)), goL rc may p is = some L → ∀ q ∈ L, Pr q
 | [], L, h, q, hq => by simp [goL] at h; subst h; cases hq
 | i :: is, L, h, q, hq => by
  unfold goL at h
  cases hm : may p (i : Int) with
  | none => rw [hm] at h; cases h
  | some b =>
   rw [hm, Option.bind_some] at h
   cases b with
   | false => exact zyf hr is L h q hq
   | true =>
    rw [cond_true] at h
    cases ha : rc (p ++ [(i : Int)]) with
    | none => rw [ha] at h; cases h
    | some a =>
     rw [ha, Option.bind_some] at h
     cases hg : goL rc may p is with
     | none => rw [hg] at h; cases h
     | some r =>
      rw [hg, Option.bind_some] at h
      cases h
      rcases List.mem_append.1 hq with hq | hq
      ·exact hr i a ha q hq
      ·exact zyf hr is r hg q hq
theorem zqw {may : List Int → Int → Option Bool} {lim : Nat} : ∀ (d : Nat) (p : List Int) (L : List (List Int)), listsO may lim d p = some L → ∀ q ∈ L, q.length = p.length + d
 | 0, p, L, h, q, hq => by
  simp [listsO] at h; subst h
  rw [List.mem_singleton.1 hq]; rfl
 | d + 1, p, L, h, q, hq => by
  unfold listsO at h
  exact zyf (Pr := fun q => q.length = p.length + (d + 1)) (fun i L' h' q' hq' => by rw [zqw d _ L' h' q' hq']; simp; omega) _ L h q hq
end Go.V
namespace Go.V
theorem ktreeR {P : Program} {G : Glob} {γ : Nat} {tm : Nat → VV} {H : Nat → Option VObj} {nx : Nat} {df : List VDef} {d : Option Tmp} {K : St → Prop} {Qp : VV → St → Prop} {f : FuncId} {args : List VV} {x : VV} (ht : treeL args = true) (hp : VPure P G f args (.tree x)) (h : fin d γ tm H nx df K x .none) : callK P G f args ⟨tm, H, nx, df⟩ d γ K Qp := by
 refine .inl ⟨ht, .tree x, hp, ?_⟩
 rw [← zgo (K := K), zay] at h
 exact h
end Go.V
namespace Go.V
theorem Frozen.ptr {H H' : Nat → Option VObj} {γ : Nat} {el : Option TypeId} {cs : List VV} (hγ : H γ = some (.cells el cs)) (hn : (H' γ).isSome = false) (ht : treeL cs = true) : Frozen H H' (.ptr γ 0) (.tp cs) := by
 refine .inr (.inr ⟨cs.length + 2, ?_⟩)
 have hg : gone H H' γ = some (.cells el cs) := by simp [gone, hn, hγ]
 unfold sealV
 have : (VV.ptr γ 0).tree = false := rfl
 rw [this]
 simp only [Bool.false_eq_true, if_false, hg, Nat.zero_le, if_true, List.drop_zero]
 rw [zhp cs _ ht (by omega)]
 rfl
end Go.V
end
section
namespace Go.V
open Go Go.Proofs
def ExtOk (β y e : Nat) (mc : List VV) (mf : Nat) (ln lim : Nat) (may : List Int → Int → Option Bool) (I : Inv) (d : Nat) : Prop :=
 ∀ (p : List Int) (rest : List VV) (L : List (List Int)) (Fr : Nat → Prop) (H : Nat → Option VObj) (nx : Nat), p.length + d = ln → listsO may lim d p = some L → (∀ γ, Fr γ → γ < nx) → Fr y → Fr e → H y = some (.cells (some 184) [.yl β]) →
  H e = some (.cells (some 184) [.fn (.func 139) [] [.tp [.lit (.int .i64 ln)], .ptr y 0, .tp [.lit (.int .i64 lim)], .tp [.fn (.func mf) [] mc], .ptr e 0]]) →
  I (some (L.map (vx eI) ++ rest)) Fr H nx →
  VOpen Tryz.prog G0 139 [vx eI p, .tp [.lit (.int .i64 ln)], .ptr y 0, .tp [.lit (.int .i64 lim)], .tp [.fn (.func mf) [] mc], .ptr e 0] H nx
   (fun v H' nx' => ∃ b, v = .lit (.bool b) ∧ nx ≤ nx' ∧ (∀ γ, Fr γ → H' γ = H γ) ∧ I (if b then some rest else none) Fr H' nx') (fun _ _ _ => False)
theorem argsTm6 {a b c e f g : VV} : argsTm [a, b, c, e, f, g] = upd (upd (upd (upd (upd (upd (fun _ => .lit undef) 0 a) 1 b) 2 c) 3 e) 4 f) 5 g := by
 funext t; rcases t with _ | _ | _ | _ | _ | _ | t <;> simp [argsTm, upd]
theorem zafe {P : Program} {t e : Nat} {H : Nat → Option VObj} (hu : P.underlying t = some (.slice e)) : ∀ {p : List Int}, vlen P H t (vx eI p) = some (.lit (.int .i64 p.length))
 | [] => by simp [vlen, vx, hu, sls]
 | _ :: _ => by simp [vlen, vx, hu, sls]
theorem zaen : VPure Tryz.prog G0 140 [.lit (.slice none 0 0)] (.tree (.lit (.slice none 0 0))) := by
 have hnil : ∀ (H : Nat → Option VObj) (x y : Operand), binV Tryz.prog H .eql 29 x y (.lit (.slice none 0 0)) (.lit (.slice none 0 0)) = some (.lit (.bool true)) := fun H x y => by kernel_rfl
 refine VPure.run mixed Tryz.call140 Tryz.func140 rfl (by simp [Tryz.ntmps140]; kernel_rfl) ?_
 simp only [vz, tyf, hnil, seval, ua]
 exact ⟨rfl, .lit (.slice none 0 0), by simp [Tryz.results140, resV, resL, resV1, upd], 1, rfl⟩
theorem zaoh {β y e : Nat} {mc : List VV} {mf ln lim : Nat} {may : List Int → Int → Option Bool} {I : Inv} (hst : Stable I) (hr : Rounds Tryz.prog G0 β I) (htm : treeL mc = true) (hln0 : 0 < ln) (hln : ln < 1000) (hlim : lim < 1000000)
  (hm : ∀ (p : List Int) (j : Int) (b : Bool), may p j = some b → VPure Tryz.prog G0 mf (.sl (cellsL eI p) p.length false :: .lit (.int .i64 j) :: mc) (.tree (.lit (.bool b)))) : ∀ d, ExtOk β y e mc mf ln lim may I d := by
 intro d
 induction d with
 | zero =>
  intro p rest L Fr H nx hd hL hF hFy hFe hy he hI
  simp only [listsO, Option.some.injEq] at hL
  subst hL
  refine VOpen.run mixed Tryz.call139 Tryz.func139 rfl (by simp [Tryz.ntmps139]; kernel_rfl) ?_
  have hl := fun H => zafe (P := Tryz.prog) (H := H) Tryz.underlying29 (p := p)
  have hq : ((p.length : Int) == (ln : Int)) = true := by rw [show p.length = ln from hd]; simp
  simp only [argsTm6, vz, tyf, seval, ua, hl, hq, hy, rg]
  have hI9 : I (some (vx eI p :: rest)) Fr H (nx + 9) := hst _ _ _ _ _ _ _ hI (fun _ _ _ => rfl) (by omega) (fun γ h => .inl h)
  refine (hr (vx eI p) rest Fr H (nx + 9) (fun γ h => by have := hF γ h; omega) hI9) (some none) _ _ _ rfl rfl ?_
  rintro b H' nx' ⟨h1, h2, h3⟩
  simp only [vz, tyf, seval, ua]
  exact zap (x := .lit (.bool b)) (by simp [Tryz.results139, resV, resL, resV1, upd]) ⟨b, rfl, by omega, h2, h3⟩
 | succ d ih =>
  intro p rest L Fr H nx hd hL hF hFy hFe hy he hI
  rw [listsO] at hL
  refine VOpen.run mixed Tryz.call139 Tryz.func139 rfl (by simp [Tryz.ntmps139]; kernel_rfl) ?_
  have hl := fun H => zafe (P := Tryz.prog) (H := H) Tryz.underlying29 (p := p)
  have hq : ((p.length : Int) == (ln : Int)) = false := by rw [← hd]; simp; omega
  simp only [argsTm6, vz, tyf, seval, ua, hl, hq, hy, rg]
  obtain ⟨J, hJ⟩ : ∃ J : Nat → St → Prop, J = (fun m st => ∃ j : Nat, j + m = lim ∧ st.df = [] ∧ nx ≤ st.nx ∧ (∀ γ, Fr γ → st.H γ = H γ) ∧
   (∃ L, goL (listsO may lim d) may p (List.range' j m) = some L ∧ I (some (L.map (vx eI) ++ rest)) Fr st.H st.nx) ∧
   st.tm 0 = vx eI p ∧ st.tm 4 = .tp [.fn (.func mf) [] mc] ∧ st.tm 5 = .ptr e 0 ∧ st.tm 16 = .lit (.int .i64 lim) ∧ st.tm 17 = .lit (.int .i64 j)) := ⟨_, rfl⟩
  refine loopK mixed (by kernel_rfl) J lim (by rw [hJ]; refine ⟨0, by omega, rfl, ?_, fun _ _ => rfl, ⟨L, hL, hst _ _ _ _ _ _ _ hI (fun _ _ _ => rfl) ?_ (fun γ h => .inl h)⟩, ?_, ?_, ?_, ?_, ?_⟩ <;> first | rfl | (simp only; omega)) ?_
  rintro m ⟨tm, H1, nx1, df⟩ hinv
  rw [hJ] at hinv
  obtain ⟨j, hj, hdf, hn, hF1, ⟨L1, hL1, hI1⟩, e0, e4, e5, e16, e17⟩ := hinv
  simp only at hdf hn hF1 hI1 e0 e4 e5 e16 e17
  subst hdf
  cases m with
  | zero =>
   have hd1 : decide ((j : Int) < (lim : Int)) = false := by simp; omega
   simp only [vz, tyf, seval, ua, e16, e17, hd1]
   refine zap (x := .lit (.bool true)) (by simp [Tryz.results139, resV, resL, resV1, upd]) ⟨true, rfl, by omega, hF1, ?_⟩
   simp only [List.range'_zero, goL, Option.some.injEq] at hL1
   subst hL1
   exact hst _ _ _ _ _ _ _ hI1 (fun _ _ _ => rfl) (by omega) (fun γ h => .inl h)
  | succ m =>
   have hd1 : decide ((j : Int) < (lim : Int)) = true := by simp; omega
   simp only [vz, tyf, seval, ua, e16, e17, hd1, e0, e4, e5]
   refine zkj (fun tm => tm 0 = vx eI p ∧ tm 4 = .tp [.fn (.func mf) [] mc] ∧ tm 5 = .ptr e 0 ∧ tm 8 = .lit (.int .i64 j) ∧ tm 16 = .lit (.int .i64 lim) ∧ tm 17 = .lit (.int .i64 j)) (by refine ⟨?_, ?_, ?_, ?_, ?_, ?_⟩ <;> simp only [ua, seval, e0, e4, e5, e16, e17]) ?_
   clear e0 e4 e5 e16 e17 tm
   rintro tm ⟨e0, e4, e5, e8, e16, e17⟩
   refine zvy mixed 11 rfl rfl rfl (by kernel_rfl) ?_
   rw [List.range'_succ] at hL1
   unfold goL at hL1
   rcases hmb : may p (j : Int) with _ | mb
   ·rw [hmb] at hL1; cases hL1
   rw [hmb, Option.bind_some] at hL1
   have hmay' : VPure Tryz.prog G0 mf (vx eI p :: .lit (.int .i64 j) :: mc) (.tree (.lit (.bool mb))) := VPure.weaken (by
    rintro c W vs ⟨u, us, rfl, h1, h2⟩
    exact ⟨u, us, rfl, zapd h1, h2⟩) (hm p j mb hmb)
   simp only [vz, tyf, seval, ua, e0, e4, e5, e8, e16, e17, rg]
   refine .inl ⟨by simp only [zgv, zanj eI_ok, zsq, htm, Bool.and_self], .tree _, hmay', ?_⟩
   have hw : IntKind.i64.wrap ((j : Int) + 1) = ((j + 1 : Nat) : Int) := by rw [IntWalk.i64_in _ (by omega)]; simp
   have he1 : H1 e = _ := (hF1 e hFe).trans he
   have hy1 : H1 y = _ := (hF1 y hFy).trans hy
   have hen : e < nx1 := Nat.lt_of_lt_of_le (hF e hFe) hn
   have hyn : y < nx1 := Nat.lt_of_lt_of_le (hF y hFy) hn
   cases mb with
   | false =>
    rw [cond_false] at hL1
    simp only [vz, tyf, seval, ua, e0, e4, e5, e8, e16, e17, rg, hw]
    rw [hJ]
    exact ⟨m, Nat.lt_succ_self _, j + 1, by omega, rfl, (by show nx ≤ nx1 + 19; omega), hF1, ⟨L1, hL1, hst _ _ _ _ _ _ _ hI1 (fun _ _ _ => rfl) (by show nx1 ≤ nx1 + 19; omega) (fun γ h => .inl h)⟩, by simp only [ua, seval, e0], by simp only [ua, seval, e4], by simp only [ua, seval, e5], by simp only [ua, seval, e16], by simp only [ua, seval]⟩
   | true =>
    rw [cond_true] at hL1
    rcases hLa : listsO may lim d (p ++ [(j : Int)]) with _ | La
    ·rw [hLa] at hL1; cases hL1
    rw [hLa, Option.bind_some] at hL1
    rcases hLr : goL (listsO may lim d) may p (List.range' (j + 1) m) with _ | Lr
    ·rw [hLr] at hL1; cases hL1
    rw [hLr, Option.bind_some, Option.some.injEq] at hL1
    subst hL1
    rw [List.map_append, List.append_assoc] at hI1
    have hv : vx eI (p ++ [(j : Int)]) = .sl (cellsL eI (p ++ [(j : Int)])) (p ++ [(j : Int)]).length false := zaaf (by simp)
    have hroom : roomOk 8 (p ++ [(j : Int)]).length = true := by
     unfold roomOk
     simp only [List.length_append, List.length_cons, List.length_nil, decide_eq_true_eq]
     omega
    simp only [vz, tyf, seval, ua, e0, e4, e5, e8, e16, e17, rg, he1]
    rcases hpc : p with _ | ⟨p0, pt⟩
    ·subst hpc
     refine .inl ⟨rfl, .tree _, zaen, ?_⟩
     simp only [vz, tyf, seval, ua, e0, e4, e5, e8, e16, e17, rg, he1]
     have hroom1 : roomOk 8 ([] ++ [(j : Int)]).length = true := rfl
     refine zamy (w := 1) (enc := eI) (ys := [(j : Int)]) (el2 := some 3) (fun _ => rfl) lf29 ao29 Tryz.underlying29 (by simp only [ua, nm, seval]; rfl) (Nat.zero_lt_succ _) hroom1 ?_
     simp only [vz, tyf, seval, ua, nm, e0, e4, e5, e8, e16, e17, rg, he1]
     refine zcr ⟨?_, ?_⟩
     ·simp only [zbl, zbv, zam, zdy, and_true, true_and]
      repeat' (first | exact trivial | refine And.intro ?_ ?_ | rw [zam] | rw [zcs] | exact Or.inl (by decide +kernel) | exact Or.inl (by dsimp only; decide +kernel) | (refine Or.inr ⟨?_, ?_⟩ <;> simp; done) | (refine Or.inr ⟨?_, ?_⟩ <;> simp <;> omega) | (refine Or.inr ⟨?_, ?_⟩ <;> simp [VEff.wr] <;> omega))
     simp only [vz, tyf, seval, ua, e0, e4, e5, e8, e16, e17, rg, he1]
     refine kopen ?_
     rw [zqa]
     have hcell : (updH (updH H1 (nx1 + 12) (VObj.cells (some 3) [VV.lit (Value.int IntKind.i64 ↑j)])) (nx1 + 13) (VObj.cells (some 3) (cellsL eI ([] ++ [(j : Int)])))) (nx1 + 13) = some (.cells (some 3) (cellsL eI ([] ++ [(j : Int)]))) := by simp only [ua, seval]
     have hbig : ∀ γ, γ < nx1 → without (updH (updH H1 (nx1 + 12) (VObj.cells (some 3) [VV.lit (Value.int IntKind.i64 ↑j)])) (nx1 + 13) (VObj.cells (some 3) (cellsL eI ([] ++ [(j : Int)])))) (nx1 + 13) γ = H1 γ := by
      intro γ h
      simp only [updH, without]
      repeat rw [if_neg (by omega)]
     refine VOpen.mono (VOpen.freeze1 (γ := nx1 + 13) hcell (args' := [vx eI ([] ++ [(j : Int)]), .tp [.lit (.int .i64 ln)], .ptr y 0, .tp [.lit (.int .i64 lim)], .tp [.fn (.func mf) [] mc], .ptr e 0]) ⟨by rw [hv]; exact Frozen.own hcell (eI_ok.treeL _) (by rw [zbp (w := 1) (fun _ => rfl)]), FrozenL.same⟩ (ih ([] ++ [(j : Int)]) _ La Fr _ _ (by simp at hd ⊢; omega) hLa (fun γ h => by have := hF γ h; omega) hFy hFe ((hbig y hyn).trans hy1) ((hbig e hen).trans he1) (hst _ _ _ _ _ _ _ hI1 (fun γ h _ => hbig γ h) (by omega) (fun γ h => .inl h)))) ?_ (fun _ _ _ h => h.elim)
     rintro v H2 nx2 ⟨b, rfl, h1, h2, h3⟩
     have hF2 : ∀ γ, Fr γ → H2 γ = H γ := fun γ h => by rw [h2 γ h, hbig γ (Nat.lt_of_lt_of_le (hF γ h) hn), hF1 γ h]
     simp only [vz, tyf, seval, ua, e0, e4, e5, e8, e16, e17, rg, he1]
     cases b with
     | false =>
      simp only [vz, tyf, seval, ua, Bool.not_false]
      refine zap (x := .lit (.bool false)) (by simp [Tryz.results139, resV, resL, resV1, upd]) ⟨false, rfl, by omega, hF2, ?_⟩
      exact hst _ _ _ _ _ _ _ h3 (fun _ _ _ => rfl) (by omega) (fun γ h => .inl h)
     | true =>
      simp only [vz, tyf, seval, ua, Bool.not_true, hw]
      simp only [if_true] at h3
      rw [hJ]
      exact ⟨m, Nat.lt_succ_self _, j + 1, by omega, rfl, (by show nx ≤ nx2 + 2; omega), hF2, ⟨Lr, hLr, hst _ _ _ _ _ _ _ h3 (fun _ _ _ => rfl) (by show nx2 ≤ nx2 + 2; omega) (fun γ h => .inl h)⟩, by simp only [ua, seval, e0], by simp only [ua, seval, e4], by simp only [ua, seval, e5], by simp only [ua, seval, e16], by simp only [ua, seval]⟩
    rw [← hpc]
    have hne : p ≠ [] := by rw [hpc]; simp
    have hvp : vx eI p = .sl (cellsL eI p) p.length false := zaaf hne
    rw [hvp]
    have hcl : zee p = some p := by
     unfold zee
     have h1 : neB p = true := by rw [hpc]; rfl
     have h2 : roomOk 8 p.length = true := by
      unfold roomOk at hroom ⊢
      simp only [List.length_append, List.length_cons, List.length_nil, decide_eq_true_eq] at hroom ⊢
      omega
     rw [h1, h2]; rfl
    refine dkown (args0 := [.sl (cellsL eI p) p.length false]) (by first | (simp only [nrm, tynrm]; done) | (simp only [nrm, tynrm]; rfl) | rfl) (by simp only [tre, tytre, Bool.and_self]) (zja _ _ hcl) ?_
    simp only [vz, tyf, seval, ua, e0, e4, e5, e8, e16, e17, rg, he1]
    refine k_app (w := 1) (enc := eI) (xs := p) (ys := [(j : Int)]) (el := none) (el2 := some 3) (fun _ => rfl) lf29 ao29 Tryz.underlying29 (by simp only [ua, nm, seval]) (by simp only [ua, nm, seval]; rfl) (Nat.zero_lt_succ _) hroom ?_
    simp only [vz, tyf, seval, ua, nm, e0, e4, e5, e8, e16, e17, rg, he1]
    refine zcr ⟨?_, ?_⟩
    ·simp only [zbl, zbv, zam, zdy, and_true, true_and]
     repeat' (first | exact trivial | refine And.intro ?_ ?_ | rw [zam] | rw [zcs] | exact Or.inl (by decide +kernel) | exact Or.inl (by dsimp only; decide +kernel) | (refine Or.inr ⟨?_, ?_⟩ <;> simp; done) | (refine Or.inr ⟨?_, ?_⟩ <;> simp <;> omega) | (refine Or.inr ⟨?_, ?_⟩ <;> simp [VEff.wr] <;> omega))
    simp only [vz, tyf, seval, ua, e0, e4, e5, e8, e16, e17, rg, he1]
    refine kopen ?_
    rw [zqa]
    have hcell : (updH (without (updH (updH H1 (nx1 + 10) (VObj.cells none (cellsL eI p))) (nx1 + 12) (VObj.cells (some 3) [VV.lit (Value.int IntKind.i64 ↑j)])) (nx1 + 10)) (nx1 + 13) (VObj.cells (sameEl none 3) (cellsL eI (p ++ [(j : Int)])))) (nx1 + 13) = some (.cells (sameEl none 3) (cellsL eI (p ++ [(j : Int)]))) := by simp only [ua, seval]
    have hbig : ∀ γ, γ < nx1 → without (updH (without (updH (updH H1 (nx1 + 10) (VObj.cells none (cellsL eI p))) (nx1 + 12) (VObj.cells (some 3) [VV.lit (Value.int IntKind.i64 ↑j)])) (nx1 + 10)) (nx1 + 13) (VObj.cells (sameEl none 3) (cellsL eI (p ++ [(j : Int)])))) (nx1 + 13) γ = H1 γ := by
     intro γ h
     simp only [updH, without]
     repeat rw [if_neg (by omega)]
    refine VOpen.mono (VOpen.freeze1 (γ := nx1 + 13) hcell (args' := [vx eI (p ++ [(j : Int)]), .tp [.lit (.int .i64 ln)], .ptr y 0, .tp [.lit (.int .i64 lim)], .tp [.fn (.func mf) [] mc], .ptr e 0]) ⟨by rw [hv]; exact Frozen.own hcell (eI_ok.treeL _) (by rw [zbp (w := 1) (fun _ => rfl)]), FrozenL.same⟩ (ih (p ++ [(j : Int)]) _ La Fr _ _ (by simp; omega) hLa (fun γ h => by have := hF γ h; omega) hFy hFe ((hbig y hyn).trans hy1) ((hbig e hen).trans he1) (hst _ _ _ _ _ _ _ hI1 (fun γ h _ => hbig γ h) (by omega) (fun γ h => .inl h)))) ?_ (fun _ _ _ h => h.elim)
    rintro v H2 nx2 ⟨b, rfl, h1, h2, h3⟩
    have hF2 : ∀ γ, Fr γ → H2 γ = H γ := fun γ h => by rw [h2 γ h, hbig γ (Nat.lt_of_lt_of_le (hF γ h) hn), hF1 γ h]
    simp only [vz, tyf, seval, ua, e0, e4, e5, e8, e16, e17, rg, he1]
    cases b with
    | false =>
     simp only [vz, tyf, seval, ua, Bool.not_false]
     refine zap (x := .lit (.bool false)) (by simp [Tryz.results139, resV, resL, resV1, upd]) ⟨false, rfl, by omega, hF2, ?_⟩
     exact hst _ _ _ _ _ _ _ h3 (fun _ _ _ => rfl) (by omega) (fun γ h => .inl h)
    | true =>
     simp only [vz, tyf, seval, ua, Bool.not_true, hw]
     simp only [if_true] at h3
     rw [hJ]
     exact ⟨m, Nat.lt_succ_self _, j + 1, by omega, rfl, (by show nx ≤ nx2 + 2; omega), hF2, ⟨Lr, hLr, hst _ _ _ _ _ _ _ h3 (fun _ _ _ => rfl) (by show nx2 ≤ nx2 + 2; omega) (fun γ h => .inl h)⟩, by simp only [ua, seval, e0], by simp only [ua, seval, e4], by simp only [ua, seval, e5], by simp only [ua, seval, e16], by simp only [ua, seval]⟩
theorem zqv {mc : List VV} {mf ln lim : Nat} {may : List Int → Int → Option Bool} {L : List (List Int)} (htm : treeL mc = true) (hln0 : 0 < ln) (hln : ln < 1000) (hlim : lim < 1000000)
  (hL : listsO may lim ln [] = some L) (hm : ∀ (p : List Int) (j : Int) (b : Bool), may p j = some b → VPure Tryz.prog G0 mf (.sl (cellsL eI p) p.length false :: .lit (.int .i64 j) :: mc) (.tree (.lit (.bool b)))) :
  Iter Tryz.prog G0 (.fn (.func 138) [] [.tp [.lit (.int .i64 ln)], .tp [.lit (.int .i64 lim)], .tp [.fn (.func mf) [] mc]]) (L.map sI) := by
 rw [← zart (fun q hq hn => by have := zqw _ _ _ hL q hq; rw [hn] at this; simp at this; omega)]
 refine ⟨138, [], _, rfl, fun β I hst hr H nx hβ hI => ?_⟩
 refine VOpen.run mixed Tryz.call138 Tryz.func138 rfl (by simp [Tryz.ntmps138]; kernel_rfl) ?_
 simp only [List.nil_append, List.cons_append, argsTm4, vz, tyf, seval, ua, rg]
 refine kopen ?_
 rw [zqa]
 refine VOpen.mono (zaoh hst hr htm hln0 hln hlim hm ln [] [] L (fun γ => γ = nx + 0 ∨ γ = nx + 1) _ _ (by simp) hL (by rintro γ (rfl | rfl) <;> omega) (.inl rfl) (.inr rfl) (by simp [updH]) (by simp [updH]) ?_) ?_ (fun _ _ _ h => h.elim)
 ·rw [List.append_nil]
  refine hst _ _ _ _ _ _ _ hI ?_ (by omega) (by rintro γ (rfl | rfl) <;> right <;> omega)
  intro γ h _
  simp only [updH]
  repeat rw [if_neg (by omega)]
 rintro v H2 nx2 ⟨b, rfl, h1, h2, h3⟩
 simp only [vz, tyf, seval, ua]
 refine zhw (x := .tup []) (by simp [Tryz.results138, resV, resL]) ?_
 replace h3 := hst _ _ noFr _ _ _ _ h3 (fun _ _ _ => rfl) (Nat.le_refl _) (fun γ h => h.elim)
 cases b with
 | true => exact .inl h3
 | false => exact .inr h3
def zho (x0_before : List Int) (x1_next : Int) (x2_a2 : Int) (x3_a3 : Int) : Option (Bool) := Option.bind (zpo x0_before) (fun r1 => cond ((IntKind.i64.wrap ((IntKind.i64.wrap (x2_a2 - r1)) - x1_next)) == 0) (some true) (cond (decide ((IntKind.i64.wrap ((IntKind.i64.wrap (x2_a2 - r1)) - x1_next)) > 0)) (some (decide ((List.length x0_before : Int) < (IntKind.i64.wrap (x3_a3 - 1))))) (some false)))
theorem zlh (x0_before : List Int) (x1_next : Int) (x2_a2 : Int) (x3_a3 : Int) (R : Bool) (h : zho x0_before x1_next x2_a2 x3_a3 = some R) : VPure Tryz.prog G0 127 [.sl (cellsL eI x0_before) (List.length x0_before) false, .lit (.int .i64 x1_next), .tp ([.lit (.int .i64 x2_a2)]), .tp ([.lit (.int .i64 x3_a3)])] (.tree (.lit (.bool R))) := by
 refine VPure.runR mixed Tryz.call127 Tryz.func127 rfl (by simp [Tryz.ntmps127]; kernel_rfl) ?_
 obtain ⟨KF, h, kF, kN⟩ := zan h
 simp only [zho] at h
 simp only [vz, tyf, nm, seval]
 refine zds (fun tm => tm 0 = .sl (cellsL eI x0_before) (List.length x0_before) false ∧ tm 1 = .lit (.int .i64 x1_next) ∧ tm 2 = .tp ([.lit (.int .i64 x2_a2)]) ∧ tm 3 = .tp ([.lit (.int .i64 x3_a3)]) ∧ True) (by refine ⟨?_, ?_, ?_, ?_, trivial⟩ <;> first | (simp only [ua, nm, seval] <;> rfl) | rfl) ?_
 rintro tm ⟨e2, e3, e4, e5, _⟩
 obtain ⟨r6, o7, h⟩ := optI h kN
 try simp only [hs] at h
 simp only [vz, tyf, e2, e3, e4, e5, nm, seval]
 refine dktA (zoe _ _ o7) ?_
 refine zaf (fun tm => tm 0 = .sl (cellsL eI x0_before) (List.length x0_before) false ∧ tm 1 = .lit (.int .i64 x1_next) ∧ tm 3 = .tp ([.lit (.int .i64 x3_a3)]) ∧ tm 8 = .lit (.int .i64 x2_a2) ∧ tm 10 = .lit (.int .i64 r6) ∧ True) (by refine ⟨e2, e3, e5, ?_, ?_, trivial⟩ <;> first | (simp only [ua, e2, e3, e4, e5, nm, seval] <;> rfl) | rfl) ?_
 rintro tm ⟨e8, e9, e10, e11, e12, _⟩
 cases d13 : ((IntKind.i64.wrap ((IntKind.i64.wrap (x2_a2 - r6)) - x1_next)) == 0)
 ·simp only [d13, hs] at h
  cases d14 : (decide ((IntKind.i64.wrap ((IntKind.i64.wrap (x2_a2 - r6)) - x1_next)) > 0))
  ·simp only [d14, hs] at h
   try simp only [vz, tyf, e8, e9, e10, e11, e12, d13, d14, nm, seval]
   obtain rfl := kF _ h
   exact zaj Tryz.results127 rfl
  simp only [d14, hs] at h
  try simp only [vz, tyf, e8, e9, e10, e11, e12, d13, d14, nm, seval]
  obtain rfl := kF _ h
  exact zaj Tryz.results127 rfl
 simp only [d13, hs] at h
 try simp only [vz, tyf, e8, e9, e10, e11, e12, d13, nm, seval]
 obtain rfl := kF _ h
 exact zaj Tryz.results127 rfl
theorem zze {mc : List VV} {mf : Nat} {ln lim : Int} (htm : treeL mc = true) : VPure Tryz.prog G0 125 [.lit (.int .i64 ln), .lit (.int .i64 lim), .fn (.func mf) [] mc] (.tree (.fn (.func 138) [] [.tp [.lit (.int .i64 ln)], .tp [.lit (.int .i64 lim)], .tp [.fn (.func mf) [] mc]])) := by
 refine VPure.run mixed Tryz.call125 Tryz.func125 rfl (by simp [Tryz.ntmps125]; kernel_rfl) ?_
 simp only [vz, tyf, seval, ua, rg]
 refine ⟨rfl, .fn (.func 138) [] [.ptr 0 0, .ptr 1 0, .ptr 2 0], by simp [Tryz.results125, resV, resL, resV1, upd], 20, ?_⟩
 simp [sealV, sealL, VV.tree, treeL, updH, htm]
def mayC (t p : Int) : List VV := [.tp [.lit (.int .i64 p)], .tp [.lit (.int .i64 t)]]
theorem zve {t p : Int} : treeL (mayC t p) = true := rfl
def itM (t p : Int) : VV := .fn (.func 138) [] [.tp [.lit (.int .i64 t)], .tp [.lit (.int .i64 (IntKind.i64.wrap (p + 1)))], .tp [.fn (.func 127) [] (mayC t p)]]
theorem zahg (t p : Int) : VPure Tryz.prog G0 110 [.lit (.int .i64 t), .lit (.int .i64 p)] (.tree (itM t p)) := by
 refine VPure.run mixed Tryz.call110 Tryz.func110 rfl (by simp [Tryz.ntmps110]; kernel_rfl) ?_
 simp only [vz, tyf, seval, ua, rg]
 refine kopen ?_
 rw [zqa]
 refine VOpen.mono (VOpen.freezeN [1, 0] ?_ (args' := [.lit (.int .i64 t), .lit (.int .i64 (IntKind.i64.wrap (p + 1))), .fn (.func 127) [] (mayC t p)]) ⟨.same, .same, Frozen.closure [(1, [.lit (.int .i64 p)]), (0, [.lit (.int .i64 t)])] 20 (by simp) ?_, trivial⟩ (VOpen.of_pure (zze zve) rfl)) ?_ (fun _ _ _ h => h.elim)
 ·intro γ hγ
  rcases List.mem_cons.1 hγ with rfl | hγ
  ·exact ⟨some 3, [.lit (.int .i64 p)], by simp [updH]⟩
  rw [List.mem_singleton.1 hγ]
  exact ⟨some 3, [.lit (.int .i64 t)], by simp [updH]⟩
 ·intro q hq
  rcases List.mem_cons.1 hq with rfl | hq
  ·exact ⟨⟨some 3, by simp [updH]⟩, by simp [lessN], rfl, by simp⟩
  rw [List.mem_singleton.1 hq]
  exact ⟨⟨some 3, by simp [updH]⟩, by simp [lessN], rfl, by simp⟩
 rintro v H2 nx2 ⟨rfl, rfl, rfl⟩
 simp only [vz, tyf, seval, ua]
 refine ⟨rfl, itM t p, by simp [Tryz.results110, resV, resL, resV1, upd]; rfl, 2, ?_⟩
 simp [sealV, itM, VV.tree, treeL, mayC]
def smallOk (n m : Int) : Bool := decide (0 < n) && (decide (n < 1000) && (decide (0 ≤ m) && decide (m < 999999)))
def zpq (t p : Int) : Option (List (List Int)) := cond (smallOk t p) (listsO (fun l j => zho l j p t) (p + 1).toNat t.toNat []) none
theorem zwf (t p : Int) (R : List (List Int)) (h : zpq t p = some R) : VPure Tryz.prog G0 110 [.lit (.int .i64 t), .lit (.int .i64 p)] (.tree (itM t p)) ∧ Iter Tryz.prog G0 (itM t p) (R.map sI) := by
 refine ⟨zahg t p, ?_⟩
 unfold zpq at h
 cases hs : smallOk t p with
 | false => rw [hs] at h; cases h
 | true =>
 rw [hs, cond_true] at h
 simp only [smallOk, Bool.and_eq_true, decide_eq_true_eq] at hs
 obtain ⟨h1, h2, h3, h4⟩ := hs
 obtain ⟨n, rfl⟩ : ∃ n : Nat, t = n := ⟨t.toNat, by omega⟩
 obtain ⟨m, rfl⟩ : ∃ m : Nat, p = m := ⟨p.toNat, by omega⟩
 have e1 : IntKind.i64.wrap ((m : Int) + 1) = ((m + 1 : Nat) : Int) := by rw [IntWalk.i64_in _ (by omega)]; simp
 have e2 : ((m : Int) + 1).toNat = m + 1 := by omega
 have e3 : ((n : Int)).toNat = n := by omega
 unfold itM
 rw [e2, e3] at h
 rw [e1]
 exact zqv zve (by omega) (by omega) (by omega) h (fun l j b hb => zlh l j m n b hb)
def zcy (x0_a0 : List Int) (x1_a1 : Int) : Option (Bool) := some true
theorem zhm (x0_a0 : List Int) (x1_a1 : Int) (R : Bool) (h : zcy x0_a0 x1_a1 = some R) : VPure Tryz.prog G0 124 [.sl (cellsL eI x0_a0) (List.length x0_a0) false, .lit (.int .i64 x1_a1)] (.tree (.lit (.bool R))) := by
 refine VPure.runR mixed Tryz.call124 Tryz.func124 rfl (by simp [Tryz.ntmps124]; kernel_rfl) ?_
 obtain ⟨KF, h, kF, kN⟩ := zan h
 simp only [zcy] at h
 try simp only [vz, tyf, nm, seval]
 obtain rfl := kF _ h
 exact zaj Tryz.results124 rfl
abbrev sD (x : Gi) : VV := .agg (cGi x)
def dirL : List (List Int) → Option (List Gi)
 | [] => some []
 | [a, b, c] :: L => Option.bind (dirL L) fun r => some (⟨IntKind.i64.wrap (a - 2), IntKind.i64.wrap (b - 2), IntKind.i64.wrap (c - 2)⟩ :: r)
 | _ => none
def zsi : Option (List Gi) := Option.bind (listsO (fun l j => zcy l j) 5 3 []) dirL
def itD : VV := .fn (.func 123) [] []
def itDL : VV := .fn (.func 138) [] [.tp [.lit (.int .i64 3)], .tp [.lit (.int .i64 5)], .tp [.fn (.func 124) [] []]]
theorem zaln : VPure Tryz.prog G0 104 [] (.tree itD) := by
 refine VPure.run mixed Tryz.call104 Tryz.func104 rfl (by simp [Tryz.ntmps104]; kernel_rfl) ?_
 simp only [vz, tyf, seval, ua, rg]
 exact ⟨rfl, itD, by simp [Tryz.results104, resV, resL, resV1, upd]; rfl, 20, rfl⟩
theorem zadh {e : List Int} {p : List (List Int)} {r : List Gi} (h : dirL (e :: p) = some r) : ∃ a b c r', e = [a, b, c] ∧ dirL p = some r' ∧ r = ⟨IntKind.i64.wrap (a - 2), IntKind.i64.wrap (b - 2), IntKind.i64.wrap (c - 2)⟩ :: r' := by
 match e, h with
 | [a, b, c], h =>
  simp only [dirL] at h
  rcases hr : dirL p with _ | r'
  ·rw [hr] at h; cases h
  rw [hr, Option.bind_some, Option.some.injEq] at h
  exact ⟨a, b, c, r', rfl, rfl, h.symm⟩
 | [], h => cases h
 | [_], h => cases h
 | [_, _], h => cases h
 | _ :: _ :: _ :: _ :: _, h => cases h
theorem zaer (R : List Gi) (h : zsi = some R) : Iter Tryz.prog G0 itD (R.map sD) := by
 unfold zsi at h
 rcases hL : listsO (fun l j => zcy l j) 5 3 [] with _ | L
 ·rw [hL] at h; cases h
 rw [hL, Option.bind_some] at h
 have hit : Iter Tryz.prog G0 itDL (L.map sI) := zqv (ln := 3) (lim := 5) (mc := []) rfl (by omega) (by omega) (by omega) hL (fun p j b hb => zhm p j b hb)
 refine ⟨123, [], [], rfl, fun β I hst hr H nx hβ hI => ?_⟩
 refine VOpen.run mixed Tryz.call123 Tryz.func123 rfl (by simp [Tryz.ntmps123]; kernel_rfl) ?_
 simp only [List.nil_append, List.cons_append, argsTm1, vz, tyf, seval, ua, rg]
 refine ktree (args0 := [.lit (.int .i64 3), .lit (.int .i64 5), .fn (.func 124) [] []]) (by simp only [nrm, tynrm, zaas] <;> rfl) rfl (zze (mc := []) (mf := 124) rfl) ?_
 simp only [vz, tyf, seval, ua, rg]
 refine zkj (fun tm => tm 5 = itDL ∧ tm 1 = .ptr nx 0) (by refine ⟨?_, ?_⟩ <;> simp only [ua, seval, Nat.add_zero] <;> rfl) ?_
 rintro tm ⟨e5, e1⟩
 refine zfy hit (by first | (simp only [zmm, zil, e5, zem, seval] <;> rfl) | rfl) ?_
 intro LO hLO
 obtain ⟨J, hJ⟩ : ∃ J : Option (List VV) → Option (List VV) → List (Nat × VObj) → Prop, J = (fun o o' hp => match o with
  | some l => ∃ (p : List (List Int)) (L2 : List Gi), l = p.map sI ∧ dirL p = some L2 ∧ o' = some (L2.map sD) ∧ hp = [(nx, .cells (some 162) [.yl β]), (nx + 4, .deferred (some [])), (nx + 5, LO)]
  | none => ∃ LD : Code → VObj, (∃ tml ps az bo d, LD = fun c => VObj.loop .done (some c) tml ps az bo d) ∧ o' = none ∧ hp = [(nx, .cells (some 162) [.yl β]), (nx + 4, .deferred (some [])), (nx + 5, LD .ret)]) := ⟨_, rfl⟩
 have hfr : ∀ (O : VObj) γ, (∃ q ∈ [(nx, .cells (some 162) [.yl β]), (nx + 4, .deferred (some [])), (nx + 5, O)], (q : Nat × VObj).1 = γ) ↔ γ = nx ∨ γ = nx + 4 ∨ γ = nx + 5 := by
  intro O γ
  simp [eq_comm]
 refine ⟨ownI2 I J, zjn hst, ?_, ?_, ?_⟩
 ·rintro v rest Fr H1 nx1 hFr ⟨hp, o', hown, hj, hi⟩
  rw [hJ] at hj
  obtain ⟨p, L2, hl, hf, rfl, rfl⟩ := hj
  cases p with
  | nil => cases hl
  | cons e p =>
  simp only [List.map_cons, List.cons.injEq] at hl
  obtain ⟨rfl, rfl⟩ := hl
  obtain ⟨a, b, c, L3, rfl, hf2, rfl⟩ := zadh hf
  obtain ⟨la, na, Ha⟩ := hown.head
  obtain ⟨lb, nb, Hb⟩ := hown.tail.head
  obtain ⟨lc, nc, Hc⟩ := hown.tail.tail.head
  simp only [hfr] at hi
  refine zfb mixed (psl := [6]) hLO Hc zge rfl (by kernel_rfl) (by kernel_rfl) ?_
  intro LB LD hLB hLD
  refine zhh (fun tm => tm 6 = sI [a, b, c] ∧ tm 1 = .ptr nx 0) (by refine ⟨?_, ?_⟩ <;> simp only [zjh, zhf, Tryz.ntmps123, e1, seval]) ?_
  clear e5 e1
  rintro tm ⟨e6, e1⟩
  have i0 : getI [a, b, c] 0 = some a := rfl
  have i1 : getI [a, b, c] 1 = some b := rfl
  have i2 : getI [a, b, c] 2 = some c := rfl
  have hne : (nx = nx + 5) = False := by simp
  simp only [vz, tyf, seval, ua, nm, rg, RStart, e6, e1, Ha, Hc, hne]
  refine zkj (fun tm => tm 3 = sI [a, b, c] ∧ tm 1 = .ptr nx 0) (by refine ⟨?_, ?_⟩ <;> simp only [ua, seval, e6, e1]) ?_
  clear e6 e1
  rintro tm ⟨e3, e1⟩
  refine zvy mixed 14 rfl rfl rfl (by kernel_rfl) ?_
  simp only [vz, tyf, seval, ua, nm, rg, e3, e1, Ha, hne, (ix29 i0), (ix29 i1), (ix29 i2)]
  obtain ⟨D, hD⟩ : ∃ D : Gi, D = ⟨IntKind.i64.wrap (a - 2), IntKind.i64.wrap (b - 2), IntKind.i64.wrap (c - 2)⟩ := ⟨_, rfl⟩
  rw [← hD] at hi
  have hDc : sD D = VV.agg [.lit (.int .i64 (IntKind.i64.wrap (a - 2))), .lit (.int .i64 (IntKind.i64.wrap (b - 2))), .lit (.int .i64 (IntKind.i64.wrap (c - 2)))] := by rw [hD]; rfl
  rw [← hDc]
  have hi2 : I (some (sD D :: L3.map sD)) (fun γ => Fr γ ∨ γ = nx ∨ γ = nx + 4 ∨ γ = nx + 5) (updH H1 (nx + 5) LB) (nx1 + 17) := by
   refine hst _ _ _ _ _ _ _ hi ?_ (by omega) (fun γ h => .inl h)
   intro γ _ hn
   have g3 : γ ≠ nx + 5 := fun e => hn (.inr (.inr (.inr e)))
   simp only [updH]
   rw [if_neg g3]
  refine (hr (sD D) (L3.map sD) _ _ _ ?_ hi2) (some (some (nx + 5))) _ _ _ rfl rfl ?_
  ·rintro γ (hγ | rfl | rfl | rfl)
   ·have := hFr γ hγ; omega
   ·omega
   ·omega
   ·omega
  rintro t H2 nx2 ⟨q1, q2, q3⟩
  have Ka : H2 nx = some (.cells (some 162) [.yl β]) := by
   rw [q2 nx (.inr (.inl rfl))]
   simp only [updH]
   rw [if_neg (by omega)]
   exact Ha
  have Kb : H2 (nx + 4) = some (.deferred (some [])) := by
   rw [q2 _ (.inr (.inr (.inl rfl)))]
   simp only [updH]
   rw [if_neg (by omega)]
   exact Hb
  have Kc : H2 (nx + 5) = some LB := by
   rw [q2 _ (.inr (.inr (.inr rfl)))]
   simp only [zaa, seval]
  have KF : ∀ γ, Fr γ → H2 γ = H1 γ := by
   intro γ hγ
   have g3 : γ ≠ nx + 5 := fun e => nc (e ▸ hγ)
   rw [q2 γ (.inl hγ)]
   simp only [updH]
   rw [if_neg g3]
  have KO : ∀ (O : VObj), Own [(nx, .cells (some 162) [.yl β]), (nx + 4, .deferred (some [])), (nx + 5, O)] Fr (updH H2 (nx + 5) O) nx2 := by
   intro O
   refine Own.cons (show nx < nx2 by omega) na ?_ (Own.cons (show nx + 4 < nx2 by omega) nb ?_ (Own.cons (show nx + 5 < nx2 by omega) nc ?_ Own.nil))
   ·simp only [updH]
    rw [if_neg (by omega)]
    exact Ka
   ·simp only [updH]
    rw [if_neg (by omega)]
    exact Kb
   ·simp only [zaa, seval]
  cases t with
  | true =>
   simp only [vz, tyf, seval, ua, nm, rg, Bool.not_true]
   refine ⟨Kc, (show nx1 ≤ nx2 by omega), fun γ hγ => ?_, ?_⟩
   ·have g3 : γ ≠ nx + 5 := fun e => nc (e ▸ hγ)
    simp only [updH]
    rw [if_neg g3]
    exact KF γ hγ
   ·simp only [if_true] at q3 ⊢
    refine ⟨_, _, KO LO, by rw [hJ]; exact ⟨p, L3, rfl, hf2, rfl, rfl⟩, ?_⟩
    simp only [hfr]
    refine hst _ _ _ _ _ _ _ q3 ?_ (by omega) (fun γ h => .inl h)
    intro γ _ hn
    have g3 : γ ≠ nx + 5 := fun e => hn (.inr (.inr (.inr e)))
    simp only [updH]
    rw [if_neg g3]
  | false =>
   simp only [vz, tyf, seval, ua, nm, rg, Bool.not_false]
   refine ⟨Kc, (show nx1 ≤ nx2 by omega), fun γ hγ => ?_, ?_⟩
   ·have g3 : γ ≠ nx + 5 := fun e => nc (e ▸ hγ)
    simp only [updH]
    rw [if_neg g3]
    exact KF γ hγ
   ·simp only [Bool.false_eq_true, if_false] at q3 ⊢
    refine ⟨_, _, KO (LD .ret), by rw [hJ]; exact ⟨LD, ⟨_, _, _, _, _, hLD⟩, rfl, rfl⟩, ?_⟩
    simp only [hfr]
    refine hst _ _ _ _ _ _ _ q3 ?_ (by omega) (fun γ h => .inl h)
    intro γ _ hn
    have g3 : γ ≠ nx + 5 := fun e => hn (.inr (.inr (.inr e)))
    simp only [updH]
    rw [if_neg g3]
 ·refine ⟨_, _, ?_, by rw [hJ]; exact ⟨L, R, rfl, h, rfl, rfl⟩, ?_⟩
  ·refine Own.cons (show nx < nx + 4 + 2 by omega) (fun h => h) ?_ (Own.cons (show nx + 4 < nx + 4 + 2 by omega) (fun h => h) ?_ (Own.cons (show nx + 5 < nx + 4 + 2 by omega) (fun h => h) ?_ Own.nil))
   ·simp only [updH]
    rw [if_neg (by omega), if_neg (by omega)]
    simp
   ·simp only [updH]
    simp
   ·simp only [updH]
    simp
  ·simp only [hfr]
   refine hst _ _ _ _ _ _ _ hI ?_ (by omega) ?_
   ·intro γ hγ _
    simp only [updH]
    repeat rw [if_neg (by omega)]
   ·rintro γ (h | rfl | rfl | rfl)
    ·exact h.elim
    ·right; omega
    ·right; omega
    ·right; omega
 ·rintro H' nx' (⟨hp, o', hown, hj, hi⟩ | ⟨hp, o', hown, hj, hi⟩)
  ·rw [hJ] at hj
   obtain ⟨p, L2, hl, hf, rfl, rfl⟩ := hj
   cases p with
   | cons e p => cases hl
   | nil =>
   simp only [dirL, Option.some.injEq] at hf
   subst hf
   obtain ⟨la, na, Ha⟩ := hown.head
   obtain ⟨lb, nb, Hb⟩ := hown.tail.head
   obtain ⟨lc, nc, Hc⟩ := hown.tail.tail.head
   simp only [hfr] at hi
   refine zes hLO Hc ?_
   intro LX
   simp only [vz, tyf, seval, ua, nm, rg]
   refine zpt (by simp only [zaa, nm, seval, Hb]) ?_
   refine zhw (x := .tup []) (by simp [Tryz.results123, resV, resL]) (.inl ?_)
   refine hst _ _ _ _ _ _ _ hi ?_ (Nat.le_refl _) (fun γ h => h.elim)
   intro γ _ hn
   have g2 : γ ≠ nx + 4 := fun e => hn (.inr (.inr (.inl e)))
   have g3 : γ ≠ nx + 5 := fun e => hn (.inr (.inr (.inr e)))
   simp only [updH]
   repeat rw [if_neg (by first | assumption | omega)]
  ·rw [hJ] at hj
   obtain ⟨LD, ⟨tml, ps, az, bo, d, hLD⟩, rfl, rfl⟩ := hj
   obtain ⟨la, na, Ha⟩ := hown.head
   obtain ⟨lb, nb, Hb⟩ := hown.tail.head
   obtain ⟨lc, nc, Hc⟩ := hown.tail.tail.head
   simp only [hfr] at hi
   refine zfv hLD Hc ?_
   intro LX
   simp only [vz, tyf, seval, ua, nm, rg]
   refine zgn (by simp only [zaa, nm, seval, Hb]) ?_
   refine zap (x := .tup []) (by simp [Tryz.results123, resV, resL]) (.inr ?_)
   refine hst _ _ _ _ _ _ _ hi ?_ (Nat.le_refl _) (fun γ h => h.elim)
   intro γ _ hn
   have g2 : γ ≠ nx + 4 := fun e => hn (.inr (.inr (.inl e)))
   have g3 : γ ≠ nx + 5 := fun e => hn (.inr (.inr (.inr e)))
   simp only [updH]
   repeat rw [if_neg (by first | assumption | omega)]
def zak (x0_d : Gi) (x1_amounts : Ga) : Option (GSpan) := some (GSpan.mk (IntKind.i64.wrap ((IntKind.i64.wrap ((IntKind.i64.wrap (0 + (if (IntKind.i64.wrap (x0_d.a0 * x1_amounts.a0.High)) < (IntKind.i64.wrap (x0_d.a0 * x1_amounts.a0.Low)) then (IntKind.i64.wrap (x0_d.a0 * x1_amounts.a0.High)) else (IntKind.i64.wrap (x0_d.a0 * x1_amounts.a0.Low))))) + (if (IntKind.i64.wrap (x0_d.a1 * x1_amounts.a1.High)) < (IntKind.i64.wrap (x0_d.a1 * x1_amounts.a1.Low)) then (IntKind.i64.wrap (x0_d.a1 * x1_amounts.a1.High)) else (IntKind.i64.wrap (x0_d.a1 * x1_amounts.a1.Low))))) + (if (IntKind.i64.wrap (x0_d.a2 * x1_amounts.a2.High)) < (IntKind.i64.wrap (x0_d.a2 * x1_amounts.a2.Low)) then (IntKind.i64.wrap (x0_d.a2 * x1_amounts.a2.High)) else (IntKind.i64.wrap (x0_d.a2 * x1_amounts.a2.Low))))) (IntKind.i64.wrap ((IntKind.i64.wrap ((IntKind.i64.wrap (0 + (if (IntKind.i64.wrap (x0_d.a0 * x1_amounts.a0.Low)) < (IntKind.i64.wrap (x0_d.a0 * x1_amounts.a0.High)) then (IntKind.i64.wrap (x0_d.a0 * x1_amounts.a0.High)) else (IntKind.i64.wrap (x0_d.a0 * x1_amounts.a0.Low))))) + (if (IntKind.i64.wrap (x0_d.a1 * x1_amounts.a1.Low)) < (IntKind.i64.wrap (x0_d.a1 * x1_amounts.a1.High)) then (IntKind.i64.wrap (x0_d.a1 * x1_amounts.a1.High)) else (IntKind.i64.wrap (x0_d.a1 * x1_amounts.a1.Low))))) + (if (IntKind.i64.wrap (x0_d.a2 * x1_amounts.a2.Low)) < (IntKind.i64.wrap (x0_d.a2 * x1_amounts.a2.High)) then (IntKind.i64.wrap (x0_d.a2 * x1_amounts.a2.High)) else (IntKind.i64.wrap (x0_d.a2 * x1_amounts.a2.Low))))))
theorem zek (x0_d : Gi) (x1_amounts : Ga) (R : GSpan) (h : zak x0_d x1_amounts = some R) : VPure Tryz.prog G0 105 [.agg (cGi x0_d), .agg (cGa x1_amounts)] (.tree (.agg (cGSpan R))) := by
 refine VPure.runR mixed Tryz.call105 Tryz.func105 rfl (by simp [Tryz.ntmps105]; kernel_rfl) ?_
 obtain ⟨KF, h, kF, kN⟩ := zan h
 simp only [zak] at h
 simp only [vz, tyf, nm, seval]
 refine zgq mixed (by kernel_rfl) 4 ?_
 simp only [vz, tyf, nm, seval]
 refine zds (fun tm => tm 3 = .ptr 1 0 ∧ tm 4 = .ptr 2 0 ∧ tm 5 = .ptr 3 0 ∧ tm 6 = .lit (.int .i64 0) ∧ tm 7 = .lit (.int .i64 x0_d.a0) ∧ tm 10 = .agg (cGi x0_d) ∧ tm 11 = .lit (.int .i64 0) ∧ True) (by refine ⟨?_, ?_, ?_, ?_, ?_, ?_, ?_, trivial⟩ <;> first | (simp only [ua, nm, seval] <;> rfl) | rfl) ?_
 rintro tm ⟨e1, e2, e3, e4, e5, e6, e7, _⟩
 simp only [vz, tyf, e1, e2, e3, e4, e5, e6, e7, nm, seval]
 refine zds (fun tm => tm 3 = .ptr 1 0 ∧ tm 4 = .ptr 2 0 ∧ tm 5 = .ptr 3 0 ∧ tm 6 = .lit (.int .i64 1) ∧ tm 7 = .lit (.int .i64 x0_d.a1) ∧ tm 10 = .agg (cGi x0_d) ∧ tm 11 = .lit (.int .i64 1) ∧ True) (by refine ⟨e1, e2, e3, ?_, ?_, e6, ?_, trivial⟩ <;> first | (simp only [ua, e1, e2, e3, e4, e5, e6, e7, nm, seval] <;> rfl) | rfl) ?_
 rintro tm ⟨e8, e9, e10, e11, e12, e13, e14, _⟩
 simp only [vz, tyf, e8, e9, e10, e11, e12, e13, e14, nm, seval]
 refine zds (fun tm => tm 3 = .ptr 1 0 ∧ tm 4 = .ptr 2 0 ∧ tm 5 = .ptr 3 0 ∧ tm 6 = .lit (.int .i64 2) ∧ tm 7 = .lit (.int .i64 x0_d.a2) ∧ tm 10 = .agg (cGi x0_d) ∧ tm 11 = .lit (.int .i64 2) ∧ True) (by refine ⟨e8, e9, e10, ?_, ?_, e13, ?_, trivial⟩ <;> first | (simp only [ua, e8, e9, e10, e11, e12, e13, e14, nm, seval] <;> rfl) | rfl) ?_
 rintro tm ⟨e15, e16, e17, e18, e19, e20, e21, _⟩
 try simp only [vz, tyf, e15, e16, e17, e18, e19, e20, e21, nm, seval]
 refine zap (x := (.agg ([.lit (.int .i64 (IntKind.i64.wrap ((IntKind.i64.wrap ((IntKind.i64.wrap (0 + (if (IntKind.i64.wrap (x0_d.a0 * x1_amounts.a0.High)) < (IntKind.i64.wrap (x0_d.a0 * x1_amounts.a0.Low)) then (IntKind.i64.wrap (x0_d.a0 * x1_amounts.a0.High)) else (IntKind.i64.wrap (x0_d.a0 * x1_amounts.a0.Low))))) + (if (IntKind.i64.wrap (x0_d.a1 * x1_amounts.a1.High)) < (IntKind.i64.wrap (x0_d.a1 * x1_amounts.a1.Low)) then (IntKind.i64.wrap (x0_d.a1 * x1_amounts.a1.High)) else (IntKind.i64.wrap (x0_d.a1 * x1_amounts.a1.Low))))) + (if (IntKind.i64.wrap (x0_d.a2 * x1_amounts.a2.High)) < (IntKind.i64.wrap (x0_d.a2 * x1_amounts.a2.Low)) then (IntKind.i64.wrap (x0_d.a2 * x1_amounts.a2.High)) else (IntKind.i64.wrap (x0_d.a2 * x1_amounts.a2.Low))))))] ++ [.lit (.int .i64 (IntKind.i64.wrap ((IntKind.i64.wrap ((IntKind.i64.wrap (0 + (if (IntKind.i64.wrap (x0_d.a0 * x1_amounts.a0.Low)) < (IntKind.i64.wrap (x0_d.a0 * x1_amounts.a0.High)) then (IntKind.i64.wrap (x0_d.a0 * x1_amounts.a0.High)) else (IntKind.i64.wrap (x0_d.a0 * x1_amounts.a0.Low))))) + (if (IntKind.i64.wrap (x0_d.a1 * x1_amounts.a1.Low)) < (IntKind.i64.wrap (x0_d.a1 * x1_amounts.a1.High)) then (IntKind.i64.wrap (x0_d.a1 * x1_amounts.a1.High)) else (IntKind.i64.wrap (x0_d.a1 * x1_amounts.a1.Low))))) + (if (IntKind.i64.wrap (x0_d.a2 * x1_amounts.a2.Low)) < (IntKind.i64.wrap (x0_d.a2 * x1_amounts.a2.High)) then (IntKind.i64.wrap (x0_d.a2 * x1_amounts.a2.High)) else (IntKind.i64.wrap (x0_d.a2 * x1_amounts.a2.Low))))))]))) (by first | (simp only [Tryz.results105, resV, resL, resV1, zat, zbq, uw, cr, tyf, e15, e16, e17, e18, e19, e20, e21, nm, seval] <;> rfl) | rfl) ?_
 obtain rfl := kF _ h
 refine zas ?_ ?_
 ·simp only [tre, tytre, Bool.and_self]
 ·first | (simp only [outV, uw, zah, cr, tyf, nrm, tynrm, e15, e16, e17, e18, e19, e20, e21, nm, seval] <;> rfl) | rfl
def zbo (x0_d : Gi) : Option (Int) := some (IntKind.i64.wrap ((IntKind.i64.wrap ((IntKind.i64.wrap (0 + (if x0_d.a0 < (IntKind.i64.wrap (-x0_d.a0)) then (IntKind.i64.wrap (-x0_d.a0)) else x0_d.a0))) + (if x0_d.a1 < (IntKind.i64.wrap (-x0_d.a1)) then (IntKind.i64.wrap (-x0_d.a1)) else x0_d.a1))) + (if x0_d.a2 < (IntKind.i64.wrap (-x0_d.a2)) then (IntKind.i64.wrap (-x0_d.a2)) else x0_d.a2)))
theorem zhi (x0_d : Gi) (R : Int) (h : zbo x0_d = some R) : VPure Tryz.prog G0 106 [.agg (cGi x0_d)] (.tree (.lit (.int .i64 R))) := by
 refine VPure.runR mixed Tryz.call106 Tryz.func106 rfl (by simp [Tryz.ntmps106]; kernel_rfl) ?_
 obtain ⟨KF, h, kF, kN⟩ := zan h
 simp only [zbo] at h
 simp only [vz, qr, tyf, nm, seval]
 refine zgq mixed (by kernel_rfl) 4 ?_
 try simp only [vz, qr, tyf, nm, seval]
 refine zap (x := (.lit (.int .i64 (IntKind.i64.wrap ((IntKind.i64.wrap ((IntKind.i64.wrap (0 + (if x0_d.a0 < (IntKind.i64.wrap (-x0_d.a0)) then (IntKind.i64.wrap (-x0_d.a0)) else x0_d.a0))) + (if x0_d.a1 < (IntKind.i64.wrap (-x0_d.a1)) then (IntKind.i64.wrap (-x0_d.a1)) else x0_d.a1))) + (if x0_d.a2 < (IntKind.i64.wrap (-x0_d.a2)) then (IntKind.i64.wrap (-x0_d.a2)) else x0_d.a2)))))) (by first | (simp only [Tryz.results106, resV, resL, resV1, zat, zbq, uw, cr, tyf, nm, seval] <;> rfl) | rfl) ?_
 obtain rfl := kF _ h
 refine zas ?_ ?_
 ·simp only [tre, tytre, Bool.and_self]
 ·first | (simp only [outV, uw, zah, cr, tyf, nrm, tynrm, nm, seval] <;> rfl) | rfl
theorem zaac {a b : VV} : vfield Tryz.prog 24 (.agg [a, b]) 0 = some a := by
 have h1 : aggT Tryz.prog 3 = some false := by kernel_rfl
 have h2 : szT Tryz.prog 3 = some 1 := by kernel_rfl
 simp [vfield, Tryz.underlying24, vpart, h1, h2]
theorem zyr {a b : VV} : vfield Tryz.prog 24 (.agg [a, b]) 1 = some b := by
 have h1 : aggT Tryz.prog 3 = some false := by kernel_rfl
 have h2 : szT Tryz.prog 3 = some 1 := by kernel_rfl
 simp [vfield, Tryz.underlying24, vpart, h1, h2]
def fdL (s : Gs) (am : Ga) (d : Gi) : List Gt → Option Bool
 | [] => some true
 | t :: p => Option.bind (zak d t.pg) fun v => Option.bind (zbo d) fun z => Option.bind (zak d am) fun w => cond (decide (IntKind.i64.wrap (v.High + IntKind.i64.wrap (s.Off * z)) ≥ w.Low)) (some false) (fdL s am d p)
def fdirL (s : Gs) (am : Ga) : List Gi → Option (Gi × Bool)
 | [] => some (⟨0, 0, 0⟩, false)
 | d :: L => Option.bind (fdL s am d s.Tins) fun t => cond t (some (d, true)) (fdirL s am L)
def zcx (s : Gs) : Option (Gi × Bool) := Option.bind (zev s) fun am => Option.bind zsi fun L => cond (lenOk s.Tins) (fdirL s am L) none
theorem zhl (s : Gs) (R : Gi × Bool) (h : zcx s = some R) : VPure Tryz.prog G0 73 [.agg (cGs s)] (.tree (.tup [.agg (cGi R.1), .lit (.bool R.2)])) := by
 refine VPure.runR mixed Tryz.call73 Tryz.func73 rfl (by simp [Tryz.ntmps73]; kernel_rfl) ?_
 unfold zcx at h
 rcases o1 : zev s with _ | am
 ·rw [o1] at h; cases h
 rw [o1, Option.bind_some] at h
 rcases o2 : zsi with _ | L
 ·rw [o2] at h; cases h
 rw [o2, Option.bind_some] at h
 cases o3 : lenOk s.Tins with
 | false => rw [o3] at h; cases h
 | true =>
 rw [o3, cond_true] at h
 have hi := zaer L o2
 simp only [vz, tyf, seval, ua, rg]
 refine zacs mixed (by kernel_rfl) ?_
 simp only [vz, tyf, seval, ua, rg]
 refine ktA (zgm _ _ o1) ?_
 simp only [vz, tyf, seval, ua, rg]
 refine ktree (args0 := []) (by simp only [nrm]) rfl zaln ?_
 refine zaf (fun tm => tm 1 = .ptr 0 0 ∧ tm 2 = .ptr 1 0 ∧ tm 3 = .ptr 2 0 ∧ tm 4 = .ptr 5 0 ∧ tm 10 = itD) (by refine ⟨?_, ?_, ?_, ?_, ?_⟩ <;> simp only [ua, seval]) ?_
 rintro tm ⟨e1, e2, e3, e4, e10⟩
 simp only [vz, tyf, seval, ua, rg]
 refine zfy hi (by first | (simp only [zmm, zil, e10, zem, seval] <;> rfl) | rfl) ?_
 intro LO hLO
 obtain ⟨J, hJ⟩ : ∃ J : Option (List VV) → List (Nat × VObj) → Prop, J = (fun o hp => match o with
  | some l => ∃ p : List Gi, l = p.map sD ∧ hp = [(8, .deferred (some [])), (9, LO), (0, .cells (some 28) (cGs s)), (1, .cells (some 99) (cGi ⟨0, 0, 0⟩)), (2, .cells (some 4) [.lit (.bool false)]), (5, .cells (some 25) (cGa am))] ∧ fdirL s am p = some R
  | none => ∃ LD : Code → VObj, (∃ tml ps az bo d, LD = fun c => VObj.loop .done (some c) tml ps az bo d) ∧ hp = [(8, .deferred (some [])), (9, LD .ret), (0, .cells (some 28) (cGs s)), (1, .cells (some 99) (cGi R.1)), (2, .cells (some 4) [.lit (.bool true)]), (5, .cells (some 25) (cGa am))] ∧ R.2 = true) := ⟨_, rfl⟩
 refine ⟨ownI J, ziq, ?_, ?_, ?_⟩
 ·rintro v rest Fr H nx hFr ⟨hp, hown, hj⟩
  rw [hJ] at hj
  obtain ⟨p, hl, rfl, hR⟩ := hj
  cases p with
  | nil => cases hl
  | cons d p =>
  simp only [List.map_cons, List.cons.injEq] at hl
  obtain ⟨rfl, rfl⟩ := hl
  obtain ⟨l8, n8, H8⟩ := hown.head
  obtain ⟨l9, n9, H9⟩ := hown.tail.head
  obtain ⟨l0, n0, H0⟩ := hown.tail.tail.head
  obtain ⟨l1, n1, H1⟩ := hown.tail.tail.tail.head
  obtain ⟨l2, n2, H2⟩ := hown.tail.tail.tail.tail.head
  obtain ⟨l5, n5, H5⟩ := hown.tail.tail.tail.tail.tail.head
  refine zfb mixed (psl := [11]) hLO H9 zge rfl (by kernel_rfl) (by kernel_rfl) ?_
  intro LB LD hLB hLD
  refine zhh (fun tm => tm 1 = .ptr 0 0 ∧ tm 2 = .ptr 1 0 ∧ tm 3 = .ptr 2 0 ∧ tm 4 = .ptr 5 0 ∧ tm 11 = sD d) (by refine ⟨?_, ?_, ?_, ?_, ?_⟩ <;> simp only [zjh, zhf, Tryz.ntmps73, e1, e2, e3, e4, seval]) ?_
  clear e1 e2 e3 e4 e10
  rintro tm ⟨e1, e2, e3, e4, e11⟩
  have m1 : (9 = nx) = False := by simp; omega
  have m2 : (nx = 9) = False := by simp; omega
  have m3 : (0 = nx) = False := by simp; omega
  have m4 : (nx = 0) = False := by simp; omega
  simp only [vz, tyf, seval, ua, nm, rg, RStart, e1, e2, e3, e4, e11, H9, H0, Nat.add_zero, m1, m2, m3, m4]
  unfold fdirL at hR
  rcases hT : fdL s am d s.Tins with _ | t
  ·rw [hT] at hR; cases hR
  rw [hT, Option.bind_some] at hR
  obtain ⟨I0, hI0⟩ : ∃ I0 : Nat → St → Prop, I0 = (fun m st => ∃ (q : List Gt) (c : Int), m = q.length ∧ 0 ≤ c ∧ List.drop (Int.toNat c) s.Tins = q ∧ st.df = [] ∧ nx + 6 ≤ st.nx ∧ (∀ γ, γ < nx → st.H γ = updH H 9 LB γ) ∧ st.H nx = some (.cells (some 99) (cGi d)) ∧
   st.tm 1 = .ptr 0 0 ∧ st.tm 2 = .ptr 1 0 ∧ st.tm 3 = .ptr 2 0 ∧ st.tm 4 = .ptr 5 0 ∧ st.tm 5 = .ptr nx 0 ∧ st.tm 13 = .sl (cellsL cGt s.Tins) (List.length s.Tins) false ∧ st.tm 14 = .lit (.int .i64 (List.length s.Tins)) ∧ st.tm 15 = .lit (.int .i64 c) ∧ fdL s am d q = some t) := ⟨_, rfl⟩
  refine loopK mixed (by kernel_rfl) I0 (List.length s.Tins) (by
   rw [hI0]
   refine ⟨s.Tins, 0, rfl, Int.le_refl _, rfl, rfl, (by show nx + 6 ≤ nx + 6; omega), ?_, ?_, ?_, ?_, ?_, ?_, ?_, ?_, ?_, ?_, hT⟩
   ·intro γ hγ
    simp only [updH]
    by_cases g9 : γ = 9
    ·rw [if_pos g9, if_pos g9]
    ·rw [if_neg g9, if_neg (by omega), if_neg (by omega), if_neg g9]
   ·simp only [zaa, Nat.add_zero, m1, m2, seval] <;> rfl
   all_goals simp only [ua, seval, e1, e2, e3, e4]) ?_
  rintro m ⟨tm, K, kx, df⟩ hinv
  rw [hI0] at hinv
  obtain ⟨q, c, rfl, hc, hq, hdf, hkx, hK, Kx, f1, f2, f3, f4, f5, f13, f14, f15, hT2⟩ := hinv
  simp only at hdf hkx hK Kx f1 f2 f3 f4 f5 f13 f14 f15
  subst hdf
  have K0 : K 0 = some (.cells (some 28) (cGs s)) := by
   rw [hK 0 (by omega)]
   simp only [updH]
   rw [if_neg (by omega)]
   exact H0
  have K5 : K 5 = some (.cells (some 25) (cGa am)) := by
   rw [hK 5 (by omega)]
   simp only [updH]
   rw [if_neg (by omega)]
   exact H5
  have K8 : K 8 = some (.deferred (some [])) := by
   rw [hK 8 (by omega)]
   simp only [updH]
   rw [if_neg (by omega)]
   exact H8
  have K9 : K 9 = some LB := by
   rw [hK 9 (by omega)]
   simp only [zaa, seval]
  have K1 : K 1 = some (.cells (some 99) (cGi ⟨0, 0, 0⟩)) := by
   rw [hK 1 (by omega)]
   simp only [updH]
   rw [if_neg (by omega)]
   exact H1
  have K2 : K 2 = some (.cells (some 4) [.lit (.bool false)]) := by
   rw [hK 2 (by omega)]
   simp only [updH]
   rw [if_neg (by omega)]
   exact H2
  cases q with
  | nil =>
   have hd1 : decide (c < (List.length s.Tins : Int)) = false := zaw hc hq
   simp only [fdL, Option.some.injEq] at hT2
   subst hT2
   simp only [cond_true, Option.some.injEq] at hR
   subst hR
   simp only [vz, tyf, seval, ua, nm, rg, f1, f2, f3, f4, f5, f13, f14, f15, hd1, K1, K2, Kx]
   refine ⟨?_, (show nx ≤ kx + 4 by omega), fun γ hγ => ?_, ?_⟩
   ·simp only [updH]
    repeat rw [if_neg (by omega)]
    exact K9
   ·have gx := hFr γ hγ
    have g9 : γ ≠ 9 := fun e => n9 (e ▸ hγ)
    have g1 : γ ≠ 1 := fun e => n1 (e ▸ hγ)
    have g2 : γ ≠ 2 := fun e => n2 (e ▸ hγ)
    simp only [updH]
    rw [if_neg g9, if_neg g2, if_neg g1, hK γ gx]
    simp only [updH]
    rw [if_neg g9]
   ·simp only [Bool.false_eq_true, if_false]
    refine ⟨[(8, .deferred (some [])), (9, LD .ret), (0, .cells (some 28) (cGs s)), (1, .cells (some 99) (cGi d)), (2, .cells (some 4) [.lit (.bool true)]), (5, .cells (some 25) (cGa am))], Own.cons (show 8 < kx + 4 by omega) n8 ?_ (Own.cons (show 9 < kx + 4 by omega) n9 ?_ (Own.cons (show 0 < kx + 4 by omega) n0 ?_ (Own.cons (show 1 < kx + 4 by omega) n1 ?_ (Own.cons (show 2 < kx + 4 by omega) n2 ?_ (Own.cons (show 5 < kx + 4 by omega) n5 ?_ Own.nil))))), ?_⟩
    rotate_left 6
    ·rw [hJ]
     exact ⟨LD, ⟨_, _, _, _, _, hLD⟩, rfl, rfl⟩
    all_goals (simp only [zaa, seval, K8, K0, K5] <;> rfl)
  | cons x q =>
   have hd1 : decide (c < (List.length s.Tins : Int)) = true := zcj hc hq
   have o := zba hc hq
   have hw := zdf hc hq o3
   have x1 : (0 = kx + 3) = False := by simp
   have x2 : (5 = kx + 3) = False := by simp; omega
   have x3 : (nx = kx + 3) = False := by simp; omega
   simp only [vz, tyf, seval, ua, nm, rg, f1, f2, f3, f4, f5, f13, f14, f15, hd1, K0, K5, Kx, (ix26 o)]
   refine zds (fun tm => tm 1 = .ptr 0 0 ∧ tm 2 = .ptr 1 0 ∧ tm 3 = .ptr 2 0 ∧ tm 4 = .ptr 5 0 ∧ tm 5 = .ptr nx 0 ∧ tm 7 = .ptr (kx + 3) 0 ∧ tm 13 = .sl (cellsL cGt s.Tins) (List.length s.Tins) false ∧ tm 14 = .lit (.int .i64 (List.length s.Tins)) ∧ tm 15 = .lit (.int .i64 c)) (by refine ⟨?_, ?_, ?_, ?_, ?_, ?_, ?_, ?_, ?_⟩ <;> simp only [ua, seval, f1, f2, f3, f4, f5, f13, f14, f15]) ?_
   clear f1 f2 f3 f4 f5 f13 f14 f15 tm
   rintro tm ⟨f1, f2, f3, f4, f5, f7, f13, f14, f15⟩
   simp only [fdL] at hT2
   rcases ov : zak d x.pg with _ | v
   ·rw [ov] at hT2; cases hT2
   rw [ov, Option.bind_some] at hT2
   rcases oz : zbo d with _ | z
   ·rw [oz] at hT2; cases hT2
   rw [oz, Option.bind_some] at hT2
   rcases ow : zak d am with _ | w
   ·rw [ow] at hT2; cases hT2
   rw [ow, Option.bind_some] at hT2
   simp only [vz, tyf, seval, ua, nm, rg, f1, f4, f5, f7, K0, K5, Kx, x1, x2, x3, zaac, zyr]
   refine dktA (zek _ _ _ ov) ?_
   refine zaf (fun tm => tm 1 = .ptr 0 0 ∧ tm 2 = .ptr 1 0 ∧ tm 3 = .ptr 2 0 ∧ tm 4 = .ptr 5 0 ∧ tm 5 = .ptr nx 0 ∧ tm 13 = .sl (cellsL cGt s.Tins) (List.length s.Tins) false ∧ tm 14 = .lit (.int .i64 (List.length s.Tins)) ∧ tm 15 = .lit (.int .i64 c) ∧ tm 22 = .agg (cGSpan v)) (by refine ⟨?_, ?_, ?_, ?_, ?_, ?_, ?_, ?_, ?_⟩ <;> (simp only [ua, seval, f1, f2, f3, f4, f5, f13, f14, f15, f7] <;> rfl)) ?_
   clear f1 f2 f3 f4 f5 f13 f14 f15  f7 tm
   rintro tm ⟨f1, f2, f3, f4, f5, f13, f14, f15, f22⟩
   simp only [vz, tyf, seval, ua, nm, rg, f1, f4, f5, f22, K0, K5, Kx, x1, x2, x3, zaac, zyr]
   refine dktA (zhi _ _ oz) ?_
   refine zaf (fun tm => tm 1 = .ptr 0 0 ∧ tm 2 = .ptr 1 0 ∧ tm 3 = .ptr 2 0 ∧ tm 4 = .ptr 5 0 ∧ tm 5 = .ptr nx 0 ∧ tm 13 = .sl (cellsL cGt s.Tins) (List.length s.Tins) false ∧ tm 14 = .lit (.int .i64 (List.length s.Tins)) ∧ tm 15 = .lit (.int .i64 c) ∧ tm 23 = .lit (.int .i64 v.High) ∧ tm 25 = .lit (.int .i64 s.Off) ∧ tm 27 = .lit (.int .i64 z)) (by refine ⟨?_, ?_, ?_, ?_, ?_, ?_, ?_, ?_, ?_, ?_, ?_⟩ <;> (simp only [ua, seval, f1, f2, f3, f4, f5, f13, f14, f15, f22] <;> rfl)) ?_
   clear f1 f2 f3 f4 f5 f13 f14 f15  f22 tm
   rintro tm ⟨f1, f2, f3, f4, f5, f13, f14, f15, f23, f25, f27⟩
   simp only [vz, tyf, seval, ua, nm, rg, f1, f4, f5, f23, f25, f27, K0, K5, Kx, x1, x2, x3, zaac, zyr]
   refine dktA (zek _ _ _ ow) ?_
   refine zaf (fun tm => tm 1 = .ptr 0 0 ∧ tm 2 = .ptr 1 0 ∧ tm 3 = .ptr 2 0 ∧ tm 4 = .ptr 5 0 ∧ tm 5 = .ptr nx 0 ∧ tm 13 = .sl (cellsL cGt s.Tins) (List.length s.Tins) false ∧ tm 14 = .lit (.int .i64 (List.length s.Tins)) ∧ tm 15 = .lit (.int .i64 c) ∧ tm 29 = .lit (.int .i64 (IntKind.i64.wrap (v.High + IntKind.i64.wrap (s.Off * z)))) ∧ tm 32 = .agg (cGSpan w)) (by refine ⟨?_, ?_, ?_, ?_, ?_, ?_, ?_, ?_, ?_, ?_⟩ <;> (simp only [ua, seval, f1, f2, f3, f4, f5, f13, f14, f15, f23, f25, f27] <;> rfl)) ?_
   clear f1 f2 f3 f4 f5 f13 f14 f15  f23  f25  f27 tm
   rintro tm ⟨f1, f2, f3, f4, f5, f13, f14, f15, f29, f32⟩
   cases hcmp : decide (IntKind.i64.wrap (v.High + IntKind.i64.wrap (s.Off * z)) ≥ w.Low) with
   | true =>
    rw [hcmp, cond_true, Option.some.injEq] at hT2
    subst hT2
    rw [cond_false] at hR
    simp only [vz, tyf, seval, ua, nm, rg, f1, f4, f5, f29, f32, K0, K5, Kx, x1, x2, x3, zaac, zyr, hcmp]
    refine ⟨?_, (show nx ≤ kx + 21 by omega), fun γ hγ => ?_, ?_⟩
    ·simp only [updH]
     repeat rw [if_neg (by omega)]
     exact K9
    ·have gx := hFr γ hγ
     have g9 : γ ≠ 9 := fun e => n9 (e ▸ hγ)
     simp only [updH]
     rw [if_neg g9, if_neg (by omega), if_neg (by omega), hK γ gx]
     simp only [updH]
     rw [if_neg g9]
    ·simp only [if_true]
     refine ⟨[(8, .deferred (some [])), (9, LO), (0, .cells (some 28) (cGs s)), (1, .cells (some 99) (cGi ⟨0, 0, 0⟩)), (2, .cells (some 4) [.lit (.bool false)]), (5, .cells (some 25) (cGa am))], Own.cons (show 8 < kx + 21 by omega) n8 ?_ (Own.cons (show 9 < kx + 21 by omega) n9 ?_ (Own.cons (show 0 < kx + 21 by omega) n0 ?_ (Own.cons (show 1 < kx + 21 by omega) n1 ?_ (Own.cons (show 2 < kx + 21 by omega) n2 ?_ (Own.cons (show 5 < kx + 21 by omega) n5 ?_ Own.nil))))), ?_⟩
     rotate_left 6
     ·rw [hJ]
      exact ⟨p, rfl, rfl, hR⟩
     ·simp only [updH]
      repeat rw [if_neg (by omega)]
      exact K8
     ·simp only [zaa, seval]
     ·simp only [updH]
      repeat rw [if_neg (by omega)]
      exact K0
     ·simp only [updH]
      repeat rw [if_neg (by omega)]
      exact K1
     ·simp only [updH]
      repeat rw [if_neg (by omega)]
      exact K2
     ·simp only [updH]
      repeat rw [if_neg (by omega)]
      exact K5
   | false =>
    rw [hcmp, cond_false] at hT2
    simp only [vz, tyf, seval, ua, nm, rg, f1, f4, f5, f29, f32, f15, K0, K5, Kx, x1, x2, x3, zaac, zyr, hcmp, hw]
    refine ⟨q.length, Nat.lt_succ_self _, ?_⟩
    rw [hI0]
    refine ⟨q, c + 1, rfl, by omega, zbt hc hq, rfl, (by show nx + 6 ≤ kx + 23; omega), ?_, ?_, ?_, ?_, ?_, ?_, ?_, ?_, ?_, ?_, hT2⟩
    ·intro γ hγ
     simp only [updH]
     rw [if_neg (by omega), if_neg (by omega)]
     exact hK γ hγ
    ·simp only [updH]
     rw [if_neg (by omega), if_neg (by omega)]
     exact Kx
    all_goals simp only [ua, seval, f1, f2, f3, f4, f5, f13, f14]
 ·refine ⟨[(8, .deferred (some [])), (9, LO), (0, .cells (some 28) (cGs s)), (1, .cells (some 99) (cGi ⟨0, 0, 0⟩)), (2, .cells (some 4) [.lit (.bool false)]), (5, .cells (some 25) (cGa am))], Own.cons (show 8 < 10 by omega) (fun h => h) ?_ (Own.cons (show 9 < 10 by omega) (fun h => h) ?_ (Own.cons (show 0 < 10 by omega) (fun h => h) ?_ (Own.cons (show 1 < 10 by omega) (fun h => h) ?_ (Own.cons (show 2 < 10 by omega) (fun h => h) ?_ (Own.cons (show 5 < 10 by omega) (fun h => h) ?_ Own.nil))))), ?_⟩
  rotate_left 6
  ·rw [hJ]
   exact ⟨L, rfl, rfl, h⟩
  all_goals (simp only [zaa, seval] <;> rfl)
 ·rintro H' nx' (⟨hp, hown, hj⟩ | ⟨hp, hown, hj⟩)
  ·rw [hJ] at hj
   obtain ⟨p, hl, rfl, hR⟩ := hj
   cases p with
   | cons e p => cases hl
   | nil =>
   simp only [fdirL, Option.some.injEq] at hR
   subst hR
   obtain ⟨l8, n8, H8⟩ := hown.head
   obtain ⟨l9, n9, H9⟩ := hown.tail.head
   obtain ⟨l0, n0, H0⟩ := hown.tail.tail.head
   obtain ⟨l1, n1, H1⟩ := hown.tail.tail.tail.head
   obtain ⟨l2, n2, H2⟩ := hown.tail.tail.tail.tail.head
   refine zes hLO H9 ?_
   intro LX
   simp only [vz, tyf, seval, ua, rg, e1, e2, e3, e4, H1, H2]
   refine zgn (by simp only [zaa, seval, H8]) ?_
   refine zap (x := .tup [.agg (cGi ⟨0, 0, 0⟩), .lit (.bool false)]) (by simp only [Tryz.results73, resV, resL, resV1, zat, zbq, uw, cr, tyf, e2, e3, H1, H2, nm, seval] <;> rfl) ?_
   refine zas (by simp only [tre, tytre, Bool.and_self]) ?_
   simp only [outV, nrm, tynrm, seval, List.map_cons, List.map_nil]
   rfl
  ·rw [hJ] at hj
   obtain ⟨LD, ⟨tml, ps, az, bo, d, hLD⟩, rfl, hR2⟩ := hj
   obtain ⟨l8, n8, H8⟩ := hown.head
   obtain ⟨l9, n9, H9⟩ := hown.tail.head
   obtain ⟨l0, n0, H0⟩ := hown.tail.tail.head
   obtain ⟨l1, n1, H1⟩ := hown.tail.tail.tail.head
   obtain ⟨l2, n2, H2⟩ := hown.tail.tail.tail.tail.head
   obtain ⟨R1, R2⟩ := R
   simp only at hR2 H1
   subst hR2
   refine zfv hLD H9 ?_
   intro LX
   simp only [vz, tyf, seval, ua, rg, e1, e2, e3, e4, H1, H2]
   refine zgn (by simp only [zaa, seval, H8]) ?_
   refine zap (x := .tup [.agg (cGi R1), .lit (.bool true)]) (by simp only [Tryz.results73, resV, resL, resV1, zat, zbq, uw, cr, tyf, e2, e3, H1, H2, nm, seval] <;> rfl) ?_
   refine zas (by simp only [tre, tytre, Bool.and_self]) ?_
   simp only [outV, nrm, tynrm, seval, List.map_cons, List.map_nil]
   rfl
def zez (x0_s : Gs) : Option (Gi × Int) := Option.bind (zbb x0_s) (fun r1 => cond (r1) (Option.bind (zcx x0_s) (fun r2 => cond (r2.2) (some (r2.1, 0)) (some ((Gi.mk 0 0 0), 5)))) (some ((Gi.mk 0 0 0), 2)))
theorem zjb (x0_s : Gs) (R : Gi × Int) (h : zez x0_s = some R) : VPure Tryz.prog G0 37 [.agg (cGs x0_s)] (.tree (.tup [.agg (cGi R.1), .lit (.int .i64 R.2)])) := by
 refine VPure.runR mixed Tryz.call37 Tryz.func37 rfl (by simp [Tryz.ntmps37]; kernel_rfl) ?_
 obtain ⟨KF, h, kF, kN⟩ := zan h
 simp only [zez] at h
 obtain ⟨r3, o4, h⟩ := optI h kN
 try simp only [hs] at h
 simp only [vz, tyf, nm, seval]
 refine ktA (zdk _ _ o4) ?_
 refine zaf (fun tm => tm 1 = .ptr 0 0 ∧ tm 2 = .ptr 1 0 ∧ tm 7 = .lit (.bool r3) ∧ True) (by refine ⟨?_, ?_, ?_, trivial⟩ <;> first | (simp only [ua, nm, seval] <;> rfl) | rfl) ?_
 rintro tm ⟨e5, e6, e7, _⟩
 cases d8 : (r3)
 ·simp only [d8, hs] at h
  try simp only [vz, tyf, e5, e6, e7, d8, nm, seval]
  refine zap (x := (.tup [.agg ([.lit (.int .i64 0)] ++ [.lit (.int .i64 0)] ++ [.lit (.int .i64 0)]), .lit (.int .i64 2)])) (by first | (simp only [Tryz.results37, resV, resL, resV1, zat, zbq, uw, cr, tyf, e5, e6, e7, d8, nm, seval] <;> rfl) | rfl) ?_
  obtain rfl := kF _ h
  refine zas ?_ ?_
  ·simp only [tre, tytre, Bool.and_self]
  ·first | (simp only [outV, uw, zah, cr, tyf, nrm, tynrm, e5, e6, e7, d8, nm, seval] <;> rfl) | rfl
 simp only [d8, hs] at h
 obtain ⟨r9, o10, h⟩ := optI h kN
 try simp only [hs] at h
 simp only [vz, tyf, e5, e6, e7, d8, nm, seval]
 refine ktA (zhl _ _ o10) ?_
 refine zaf (fun tm => tm 2 = .ptr 1 0 ∧ tm 12 = .tup [.agg (cGi r9.1), .lit (.bool r9.2)] ∧ True) (by refine ⟨e6, ?_, trivial⟩ <;> first | (simp only [ua, e5, e6, e7, d8, nm, seval] <;> rfl) | rfl) ?_
 rintro tm ⟨e11, e12, _⟩
 cases d13 : (r9.2)
 ·simp only [d13, hs] at h
  try simp only [vz, tyf, d8, e11, e12, d13, nm, seval]
  refine zap (x := (.tup [.agg ([.lit (.int .i64 0)] ++ [.lit (.int .i64 0)] ++ [.lit (.int .i64 0)]), .lit (.int .i64 5)])) (by first | (simp only [Tryz.results37, resV, resL, resV1, zat, zbq, uw, cr, tyf, d8, e11, e12, d13, nm, seval] <;> rfl) | rfl) ?_
  obtain rfl := kF _ h
  refine zas ?_ ?_
  ·simp only [tre, tytre, Bool.and_self]
  ·first | (simp only [outV, uw, zah, cr, tyf, nrm, tynrm, d8, e11, e12, d13, nm, seval] <;> rfl) | rfl
 simp only [d13, hs] at h
 try simp only [vz, tyf, d8, e11, e12, d13, nm, seval]
 refine zap (x := (.tup [.agg (cGi r9.1), .lit (.int .i64 0)])) (by first | (simp only [Tryz.results37, resV, resL, resV1, zat, zbq, uw, cr, tyf, d8, e11, e12, d13, nm, seval] <;> rfl) | rfl) ?_
 obtain rfl := kF _ h
 refine zas ?_ ?_
 ·simp only [tre, tytre, Bool.and_self]
 ·first | (simp only [outV, uw, zah, cr, tyf, nrm, tynrm, d8, e11, e12, d13, nm, seval] <;> rfl) | rfl
def zcw (x0_w : Gi) : Nat → Int → Option (LOut (Bool) (Unit))
 | 0, c0_3 => some (.go ())
 | k0 + 1, c0_3 => cond (c0_3 == 0) (Option.bind (zdc x0_w.a0 (-2) 2) (fun r1 => cond (r1) (zcw x0_w k0 (c0_3 + 1)) (some (.ret false)))) (cond (c0_3 == 1) (Option.bind (zdc x0_w.a1 (-2) 2) (fun r2 => cond (r2) (zcw x0_w k0 (c0_3 + 1)) (some (.ret false)))) (cond (c0_3 == 2) (Option.bind (zdc x0_w.a2 (-2) 2) (fun r3 => cond (r3) (zcw x0_w k0 (c0_3 + 1)) (some (.ret false)))) (none)))
def zgb (x0_w : Gi) : Option (Bool) := cond (boundOk 3) (lbind (zcw x0_w (Int.toNat (3 - 0)) 0) (fun r5 => some r5) (fun c4 => some (!(x0_w.a0 == 0 && (x0_w.a1 == 0 && (x0_w.a2 == 0))))) (fun _ _ => none)) none
theorem znp (x0_w : Gi) (R : Bool) (h : zgb x0_w = some R) : VPure Tryz.prog G0 39 [.agg (cGi x0_w)] (.tree (.lit (.bool R))) := by
 refine VPure.runR mixed Tryz.call39 Tryz.func39 rfl (by simp [Tryz.ntmps39]; kernel_rfl) ?_
 obtain ⟨KF, h, kF, kN⟩ := zan h
 simp only [zgb] at h
 cases g7 : (boundOk 3)
 ·simp only [g7, hs] at h
  exact absurd h kN
 simp only [g7, hs] at h
 simp only [vz, tyf, g7, nm, seval]
 obtain ⟨K6, h, kR6, kG6, kB6, kN6⟩ := zax h kN
 obtain ⟨f6, hf6, h⟩ := call2 h
 obtain ⟨I6, hI6⟩ : ∃ I : Nat → St → Prop, I = (fun m st => ∃ (p6 : Nat) (c6_3 : Int), p6 = m ∧ loOk c6_3 = true ∧ Int.toNat (3 - c6_3) = p6 ∧ st.df = [] ∧ 3 ≤ st.nx ∧ st.H 0 = some (.cells (some 22) (cGi x0_w)) ∧ st.tm 1 = .ptr 0 0 ∧ st.tm 3 = .lit (.int .i64 c6_3) ∧ K6 (f6 p6 c6_3)) := ⟨_, rfl⟩
 refine loopK mixed (by kernel_rfl) I6 (Int.toNat (3 - 0)) (by rw [hI6]; refine ⟨Int.toNat (3 - 0), 0, rfl, (by rfl), rfl, rfl, (show 3 ≤ 3 by omega), ?_, ?_, ?_, h⟩ <;> first | (simp only [ua, nm, seval] <;> rfl) | rfl) ?_
 rintro m ⟨tm, H, nx6, df⟩ hinv
 rw [hI6] at hinv
 obtain ⟨p6, c6_3, rfl, hi6, hp6, hdf, hn6, H8, e9, e10, h⟩ := hinv
 simp only at hdf hn6 H8 e9 e10
 have n11 := zct (m := 3) (b := nx6) (by omega)
 subst hdf hf6
 cases p6 with
 | zero =>
  have d12 : (decide (c6_3 < 3)) = false := zhx hp6
  simp only [zcw, hs, reduceCtorEq] at h
  replace h := kG6 _ h
  try dsimp only at h
  try simp only [hs] at h
  try simp only [vz, tyf, g7, n11, e9, e10, H8, d12, nm, seval]
  obtain rfl := kF _ h
  exact zaj Tryz.results39 rfl
 | succ p6 =>
  have d13 : (decide (c6_3 < 3)) = true := zabl hp6
  have w14 := zmo hi6 hp6 g7
  simp only [zcw, hs, reduceCtorEq] at h
  cases d15 : (c6_3 == 0)
  ·simp only [d15, hs] at h
   cases d16 : (c6_3 == 1)
   ·simp only [d16, hs] at h
    have b17 := And.intro g7 (And.intro n11 (And.intro H8 (And.intro d13 (And.intro w14 (And.intro d15 d16)))))
    cases d18 : (c6_3 == 2)
    ·simp only [d18, hs] at h
     exact absurd h kN6
    simp only [d18, hs] at h
    obtain ⟨r19, o20, h⟩ := optI h kN6
    try simp only [hs] at h
    simp only [vz, tyf, b17, e9, e10, d18, (zhs d18), nm, seval]
    refine ktA (zcf _ _ _ _ o20) ?_
    refine zaf (fun tm => tm 1 = .ptr 0 0 ∧ tm 3 = .lit (.int .i64 c6_3) ∧ tm 11 = .lit (.bool r19) ∧ True) (by refine ⟨e9, e10, ?_, trivial⟩ <;> first | (simp only [ua, b17, e9, e10, d18, nm, seval] <;> rfl) | rfl) ?_
    rintro tm ⟨e21, e22, e23, _⟩
    cases d24 : (r19)
    ·simp only [d24, hs] at h
     try simp only [vz, tyf, b17, d18, (zhs d18), e21, e22, e23, d24, nm, seval]
     replace h := kR6 _ h
     try dsimp only at h
     obtain rfl := kF _ h
     exact zaj Tryz.results39 rfl
    simp only [d24, hs] at h
    simp only [vz, tyf, b17, d18, (zhs d18), e21, e22, e23, d24, nm, seval]
    exact ⟨p6, Nat.lt_succ_self _, by rw [hI6]; refine ⟨p6, c6_3 + 1, rfl, zjp hi6, zep hp6, rfl, (show 3 ≤ nx6 + 10 by omega), ?_, e21, ?_, h⟩ <;> first | (simp only [ua, b17, d18, e21, e22, e23, d24, nm, seval] <;> rfl) | rfl⟩
   simp only [d16, hs] at h
   have b25 := And.intro g7 (And.intro n11 (And.intro H8 (And.intro d13 (And.intro w14 (And.intro d15 d16)))))
   obtain ⟨r26, o27, h⟩ := optI h kN6
   try simp only [hs] at h
   simp only [vz, tyf, b25, e9, e10, (zht d16), nm, seval]
   refine ktA (zcf _ _ _ _ o27) ?_
   refine zaf (fun tm => tm 1 = .ptr 0 0 ∧ tm 3 = .lit (.int .i64 c6_3) ∧ tm 11 = .lit (.bool r26) ∧ True) (by refine ⟨e9, e10, ?_, trivial⟩ <;> first | (simp only [ua, b25, e9, e10, nm, seval] <;> rfl) | rfl) ?_
   rintro tm ⟨e28, e29, e30, _⟩
   cases d31 : (r26)
   ·simp only [d31, hs] at h
    try simp only [vz, tyf, b25, (zht d16), e28, e29, e30, d31, nm, seval]
    replace h := kR6 _ h
    try dsimp only at h
    obtain rfl := kF _ h
    exact zaj Tryz.results39 rfl
   simp only [d31, hs] at h
   simp only [vz, tyf, b25, (zht d16), e28, e29, e30, d31, nm, seval]
   exact ⟨p6, Nat.lt_succ_self _, by rw [hI6]; refine ⟨p6, c6_3 + 1, rfl, zjp hi6, zep hp6, rfl, (show 3 ≤ nx6 + 10 by omega), ?_, e28, ?_, h⟩ <;> first | (simp only [ua, b25, e28, e29, e30, d31, nm, seval] <;> rfl) | rfl⟩
  simp only [d15, hs] at h
  obtain ⟨r32, o33, h⟩ := optI h kN6
  try simp only [hs] at h
  simp only [vz, tyf, g7, n11, e9, e10, H8, d13, w14, d15, (zhu d15), nm, seval]
  refine ktA (zcf _ _ _ _ o33) ?_
  refine zaf (fun tm => tm 1 = .ptr 0 0 ∧ tm 3 = .lit (.int .i64 c6_3) ∧ tm 11 = .lit (.bool r32) ∧ True) (by refine ⟨e9, e10, ?_, trivial⟩ <;> first | (simp only [ua, n11, e9, e10, H8, d13, w14, d15, nm, seval] <;> rfl) | rfl) ?_
  rintro tm ⟨e34, e35, e36, _⟩
  cases d37 : (r32)
  ·simp only [d37, hs] at h
   have b38 := And.intro g7 (And.intro n11 (And.intro H8 (And.intro d13 (And.intro w14 (And.intro d15 d37)))))
   try simp only [vz, tyf, b38, (zhu d15), e34, e35, e36, nm, seval]
   replace h := kR6 _ h
   try dsimp only at h
   obtain rfl := kF _ h
   exact zaj Tryz.results39 rfl
  simp only [d37, hs] at h
  have b39 := And.intro g7 (And.intro n11 (And.intro H8 (And.intro d13 (And.intro w14 (And.intro d15 d37)))))
  simp only [vz, tyf, b39, (zhu d15), e34, e35, e36, nm, seval]
  exact ⟨p6, Nat.lt_succ_self _, by rw [hI6]; refine ⟨p6, c6_3 + 1, rfl, zjp hi6, zep hp6, rfl, (show 3 ≤ nx6 + 10 by omega), ?_, e34, ?_, h⟩ <;> first | (simp only [ua, b39, e34, e35, e36, nm, seval] <;> rfl) | rfl⟩
end Go.V
end
