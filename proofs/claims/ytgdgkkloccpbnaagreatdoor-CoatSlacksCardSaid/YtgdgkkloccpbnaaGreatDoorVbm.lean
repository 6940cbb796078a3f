/- Part of a proof: a logic of values by content, lifted functions, what follows. -/
import Derived.Test.YtgdgkkloccpbnaaGreatDoorVbf
import Derived.Test.YtgdgkkloccpbnaaGreatDoorVbk
import Derived.Test.YtgdgkkloccpbnaaGreatDoorVbl
import Derived.Test.YtgdgkkloccpbnaaGreatDoorVbi
import Derived.Test.YtgdgkkloccpbnaaGreatDoorVbe
import Derived.Test.YtgdgkkloccpbnaaGreatDoorVbh
set_option linter.all false
set_option maxRecDepth 4000
set_option maxHeartbeats 40000000
section
namespace Go.V
open Go Go.Proofs
set_option linter.unusedSimpArgs false
set_option linter.unusedVariables false
set_option maxRecDepth 4000
set_option maxHeartbeats 4000000
def ExtOk (β y e : Nat) (mc : List VV) (mf : Nat) (ln lim : Nat) (may : List Int → Int → Option Bool) (I : Inv) (d : Nat) : Prop :=
 ∀ (p : List Int) (rest : List VV) (L : List (List Int)) (Fr : Nat → Prop) (H : Nat → Option VObj) (nx : Nat), p.length + d = ln → listsO may lim d p = some L → (∀ γ, Fr γ → γ < nx) → Fr y → Fr e → H y = some (.cells (some 128) [.yl β]) →
  H e = some (.cells (some 128) [.fn (.func 134) [] [.tp [.lit (.int .i64 ln)], .ptr y 0, .tp [.lit (.int .i64 lim)], .tp [.fn (.func mf) [] mc], .ptr e 0]]) →
  I (some (L.map (vx eI) ++ rest)) Fr H nx →
  VOpen Tryz.prog G0 134 [vx eI p, .tp [.lit (.int .i64 ln)], .ptr y 0, .tp [.lit (.int .i64 lim)], .tp [.fn (.func mf) [] mc], .ptr e 0] H nx
   (fun v H' nx' => ∃ b, v = .lit (.bool b) ∧ nx ≤ nx' ∧ (∀ γ, Fr γ → H' γ = H γ) ∧ I (if b then some rest else none) Fr H' nx') (fun _ _ _ => False)
theorem argsTm6 {a b c e f g : VV} : argsTm [a, b, c, e, f, g] = upd (upd (upd (upd (upd (upd (fun _ => .lit undef) 0 a) 1 b) 2 c) 3 e) 4 f) 5 g := by
 funext t; rcases t with _ | _ | _ | _ | _ | _ | t <;> simp [argsTm, upd]
theorem vlen_vx {P : Program} {t e : Nat} {H : Nat → Option VObj} (hu : P.underlying t = some (.slice e)) : ∀ {p : List Int}, vlen P H t (vx eI p) = some (.lit (.int .i64 p.length))
 | [] => by simp [vlen, vx, hu, sls]
 | _ :: _ => by simp [vlen, vx, hu, sls]
theorem clone_nil : VPure Tryz.prog G0 119 [.lit (.slice none 0 0)] (.tree (.lit (.slice none 0 0))) := by
 have hnil : ∀ (H : Nat → Option VObj) (x y : Operand), binV Tryz.prog H .eql 23 x y (.lit (.slice none 0 0)) (.lit (.slice none 0 0)) = some (.lit (.bool true)) := fun H x y => by kernel_rfl
 refine VPure.run mixed Tryz.call119 Tryz.func119 rfl (by simp [Tryz.ntmps119]; kernel_rfl) ?_
 simp only [vz, tyf, hnil, seval, ua]
 exact ⟨rfl, .lit (.slice none 0 0), by simp [Tryz.results119, resV, resL, resV1, upd], 1, rfl⟩
theorem ext_ok {β y e : Nat} {mc : List VV} {mf ln lim : Nat} {may : List Int → Int → Option Bool} {I : Inv} (hst : Stable I) (hr : Rounds Tryz.prog G0 β I) (htm : treeL mc = true) (hln0 : 0 < ln) (hln : ln < 1000) (hlim : lim < 1000000)
  (hm : ∀ (p : List Int) (j : Int) (b : Bool), may p j = some b → VPure Tryz.prog G0 mf (.sl (cellsL eI p) p.length false :: .lit (.int .i64 j) :: mc) (.tree (.lit (.bool b)))) : ∀ d, ExtOk β y e mc mf ln lim may I d := by
 intro d
 induction d with
 | zero =>
  intro p rest L Fr H nx hd hL hF hFy hFe hy he hI
  simp only [listsO, Option.some.injEq] at hL
  subst hL
  refine VOpen.run mixed Tryz.call134 Tryz.func134 rfl (by simp [Tryz.ntmps134]; kernel_rfl) ?_
  have hl := fun H => vlen_vx (P := Tryz.prog) (H := H) Tryz.underlying23 (p := p)
  have hq : ((p.length : Int) == (ln : Int)) = true := by rw [show p.length = ln from hd]; simp
  simp only [argsTm6, vz, tyf, seval, ua, hl, hq, hy, rg]
  have hI9 : I (some (vx eI p :: rest)) Fr H (nx + 9) := hst _ _ _ _ _ _ _ hI (fun _ _ _ => rfl) (by omega) (fun γ h => .inl h)
  refine (hr (vx eI p) rest Fr H (nx + 9) (fun γ h => by have := hF γ h; omega) hI9) (some none) _ _ _ rfl rfl ?_
  rintro b H' nx' ⟨h1, h2, h3⟩
  simp only [vz, tyf, seval, ua]
  exact opd_ret (x := .lit (.bool b)) (by simp [Tryz.results134, resV, resL, resV1, upd]) ⟨b, rfl, by omega, h2, h3⟩
 | succ d ih =>
  intro p rest L Fr H nx hd hL hF hFy hFe hy he hI
  rw [listsO] at hL
  refine VOpen.run mixed Tryz.call134 Tryz.func134 rfl (by simp [Tryz.ntmps134]; kernel_rfl) ?_
  have hl := fun H => vlen_vx (P := Tryz.prog) (H := H) Tryz.underlying23 (p := p)
  have hq : ((p.length : Int) == (ln : Int)) = false := by rw [← hd]; simp; omega
  simp only [argsTm6, vz, tyf, seval, ua, hl, hq, hy, rg]
  obtain ⟨J, hJ⟩ : ∃ J : Nat → St → Prop, J = (fun m st => ∃ j : Nat, j + m = lim ∧ st.df = [] ∧ nx ≤ st.nx ∧ (∀ γ, Fr γ → st.H γ = H γ) ∧
   (∃ L, goL (listsO may lim d) may p (List.range' j m) = some L ∧ I (some (L.map (vx eI) ++ rest)) Fr st.H st.nx) ∧
   st.tm 0 = vx eI p ∧ st.tm 4 = .tp [.fn (.func mf) [] mc] ∧ st.tm 5 = .ptr e 0 ∧ st.tm 16 = .lit (.int .i64 lim) ∧ st.tm 17 = .lit (.int .i64 j)) := ⟨_, rfl⟩
  refine loopK mixed (by kernel_rfl) J lim (by rw [hJ]; refine ⟨0, by omega, rfl, ?_, fun _ _ => rfl, ⟨L, hL, hst _ _ _ _ _ _ _ hI (fun _ _ _ => rfl) ?_ (fun γ h => .inl h)⟩, ?_, ?_, ?_, ?_, ?_⟩ <;> first | rfl | (simp only; omega)) ?_
  rintro m ⟨tm, H1, nx1, df⟩ hinv
  rw [hJ] at hinv
  obtain ⟨j, hj, hdf, hn, hF1, ⟨L1, hL1, hI1⟩, e0, e4, e5, e16, e17⟩ := hinv
  simp only at hdf hn hF1 hI1 e0 e4 e5 e16 e17
  subst hdf
  cases m with
  | zero =>
   have hd1 : decide ((j : Int) < (lim : Int)) = false := by simp; omega
   simp only [vz, tyf, seval, ua, e16, e17, hd1]
   refine opd_ret (x := .lit (.bool true)) (by simp [Tryz.results134, resV, resL, resV1, upd]) ⟨true, rfl, by omega, hF1, ?_⟩
   simp only [List.range'_zero, goL, Option.some.injEq] at hL1
   subst hL1
   exact hst _ _ _ _ _ _ _ hI1 (fun _ _ _ => rfl) (by omega) (fun γ h => .inl h)
  | succ m =>
   have hd1 : decide ((j : Int) < (lim : Int)) = true := by simp; omega
   simp only [vz, tyf, seval, ua, e16, e17, hd1, e0, e4, e5]
   refine cwp_cutF (fun tm => tm 0 = vx eI p ∧ tm 4 = .tp [.fn (.func mf) [] mc] ∧ tm 5 = .ptr e 0 ∧ tm 8 = .lit (.int .i64 j) ∧ tm 16 = .lit (.int .i64 lim) ∧ tm 17 = .lit (.int .i64 j)) (by refine ⟨?_, ?_, ?_, ?_, ?_, ?_⟩ <;> simp only [ua, seval, e0, e4, e5, e16, e17]) ?_
   clear e0 e4 e5 e16 e17 tm
   rintro tm ⟨e0, e4, e5, e8, e16, e17⟩
   refine cwp_drawS mixed 11 rfl rfl rfl (by kernel_rfl) ?_
   rw [List.range'_succ] at hL1
   unfold goL at hL1
   rcases hmb : may p (j : Int) with _ | mb
   ·rw [hmb] at hL1; cases hL1
   rw [hmb, Option.bind_some] at hL1
   have hmay' : VPure Tryz.prog G0 mf (vx eI p :: .lit (.int .i64 j) :: mc) (.tree (.lit (.bool mb))) := VPure.weaken (by
    rintro c W vs ⟨u, us, rfl, h1, h2⟩
    exact ⟨u, us, rfl, rep_vx h1, h2⟩) (hm p j mb hmb)
   simp only [vz, tyf, seval, ua, e0, e4, e5, e8, e16, e17, rg]
   refine .inl ⟨by simp only [treeL_cons, tree_vx eI_ok, tree_lit, htm, Bool.and_self], .tree _, hmay', ?_⟩
   have hw : IntKind.i64.wrap ((j : Int) + 1) = ((j + 1 : Nat) : Int) := by rw [IntWalk.i64_in _ (by omega)]; simp
   have he1 : H1 e = _ := (hF1 e hFe).trans he
   have hy1 : H1 y = _ := (hF1 y hFy).trans hy
   have hen : e < nx1 := Nat.lt_of_lt_of_le (hF e hFe) hn
   have hyn : y < nx1 := Nat.lt_of_lt_of_le (hF y hFy) hn
   cases mb with
   | false =>
    rw [cond_false] at hL1
    simp only [vz, tyf, seval, ua, e0, e4, e5, e8, e16, e17, rg, hw]
    rw [hJ]
    exact ⟨m, Nat.lt_succ_self _, j + 1, by omega, rfl, (by show nx ≤ nx1 + 19; omega), hF1, ⟨L1, hL1, hst _ _ _ _ _ _ _ hI1 (fun _ _ _ => rfl) (by show nx1 ≤ nx1 + 19; omega) (fun γ h => .inl h)⟩, by simp only [ua, seval, e0], by simp only [ua, seval, e4], by simp only [ua, seval, e5], by simp only [ua, seval, e16], by simp only [ua, seval]⟩
   | true =>
    rw [cond_true] at hL1
    rcases hLa : listsO may lim d (p ++ [(j : Int)]) with _ | La
    ·rw [hLa] at hL1; cases hL1
    rw [hLa, Option.bind_some] at hL1
    rcases hLr : goL (listsO may lim d) may p (List.range' (j + 1) m) with _ | Lr
    ·rw [hLr] at hL1; cases hL1
    rw [hLr, Option.bind_some, Option.some.injEq] at hL1
    subst hL1
    rw [List.map_append, List.append_assoc] at hI1
    have hv : vx eI (p ++ [(j : Int)]) = .sl (cellsL eI (p ++ [(j : Int)])) (p ++ [(j : Int)]).length false := vx_cons (by simp)
    have hroom : roomOk 8 (p ++ [(j : Int)]).length = true := by
     unfold roomOk
     simp only [List.length_append, List.length_cons, List.length_nil, decide_eq_true_eq]
     omega
    simp only [vz, tyf, seval, ua, e0, e4, e5, e8, e16, e17, rg, he1]
    rcases hpc : p with _ | ⟨p0, pt⟩
    ·subst hpc
     refine .inl ⟨rfl, .tree _, clone_nil, ?_⟩
     simp only [vz, tyf, seval, ua, e0, e4, e5, e8, e16, e17, rg, he1]
     have hroom1 : roomOk 8 ([] ++ [(j : Int)]).length = true := rfl
     refine k_appN (w := 1) (enc := eI) (ys := [(j : Int)]) (el2 := some 3) (fun _ => rfl) lf23 ao23 Tryz.underlying23 (by simp only [ua, nm, seval]; rfl) (Nat.zero_lt_succ _) hroom1 ?_
     simp only [vz, tyf, seval, ua, nm, e0, e4, e5, e8, e16, e17, rg, he1]
     refine drawK_nil ⟨?_, ?_⟩
     ·simp only [traceR_cons, traceR_nil, hitK_quiet, hitK_nil, and_true, true_and]
      repeat' (first | exact trivial | refine And.intro ?_ ?_ | rw [hitK_quiet] | rw [hitK_cons] | exact Or.inl (by decide +kernel) | exact Or.inl (by dsimp only; decide +kernel) | (refine Or.inr ⟨?_, ?_⟩ <;> simp; done) | (refine Or.inr ⟨?_, ?_⟩ <;> simp <;> omega) | (refine Or.inr ⟨?_, ?_⟩ <;> simp [VEff.wr] <;> omega))
     simp only [vz, tyf, seval, ua, e0, e4, e5, e8, e16, e17, rg, he1]
     refine kopen ?_
     rw [openK_eq]
     have hcell : (updH (updH H1 (nx1 + 12) (VObj.cells (some 3) [VV.lit (Value.int IntKind.i64 ↑j)])) (nx1 + 13) (VObj.cells (some 3) (cellsL eI ([] ++ [(j : Int)])))) (nx1 + 13) = some (.cells (some 3) (cellsL eI ([] ++ [(j : Int)]))) := by simp only [ua, seval]
     have hbig : ∀ γ, γ < nx1 → without (updH (updH H1 (nx1 + 12) (VObj.cells (some 3) [VV.lit (Value.int IntKind.i64 ↑j)])) (nx1 + 13) (VObj.cells (some 3) (cellsL eI ([] ++ [(j : Int)])))) (nx1 + 13) γ = H1 γ := by
      intro γ h
      simp only [updH, without]
      repeat rw [if_neg (by omega)]
     refine VOpen.mono (VOpen.freeze1 (γ := nx1 + 13) hcell (args' := [vx eI ([] ++ [(j : Int)]), .tp [.lit (.int .i64 ln)], .ptr y 0, .tp [.lit (.int .i64 lim)], .tp [.fn (.func mf) [] mc], .ptr e 0]) ⟨by rw [hv]; exact Frozen.own hcell (eI_ok.treeL _) (by rw [cellsL_length (w := 1) (fun _ => rfl)]), FrozenL.same⟩ (ih ([] ++ [(j : Int)]) _ La Fr _ _ (by simp at hd ⊢; omega) hLa (fun γ h => by have := hF γ h; omega) hFy hFe ((hbig y hyn).trans hy1) ((hbig e hen).trans he1) (hst _ _ _ _ _ _ _ hI1 (fun γ h _ => hbig γ h) (by omega) (fun γ h => .inl h)))) ?_ (fun _ _ _ h => h.elim)
     rintro v H2 nx2 ⟨b, rfl, h1, h2, h3⟩
     have hF2 : ∀ γ, Fr γ → H2 γ = H γ := fun γ h => by rw [h2 γ h, hbig γ (Nat.lt_of_lt_of_le (hF γ h) hn), hF1 γ h]
     simp only [vz, tyf, seval, ua, e0, e4, e5, e8, e16, e17, rg, he1]
     cases b with
     | false =>
      simp only [vz, tyf, seval, ua, Bool.not_false]
      refine opd_ret (x := .lit (.bool false)) (by simp [Tryz.results134, resV, resL, resV1, upd]) ⟨false, rfl, by omega, hF2, ?_⟩
      exact hst _ _ _ _ _ _ _ h3 (fun _ _ _ => rfl) (by omega) (fun γ h => .inl h)
     | true =>
      simp only [vz, tyf, seval, ua, Bool.not_true, hw]
      simp only [if_true] at h3
      rw [hJ]
      exact ⟨m, Nat.lt_succ_self _, j + 1, by omega, rfl, (by show nx ≤ nx2 + 2; omega), hF2, ⟨Lr, hLr, hst _ _ _ _ _ _ _ h3 (fun _ _ _ => rfl) (by show nx2 ≤ nx2 + 2; omega) (fun γ h => .inl h)⟩, by simp only [ua, seval, e0], by simp only [ua, seval, e4], by simp only [ua, seval, e5], by simp only [ua, seval, e16], by simp only [ua, seval]⟩
    rw [← hpc]
    have hne : p ≠ [] := by rw [hpc]; simp
    have hvp : vx eI p = .sl (cellsL eI p) p.length false := vx_cons hne
    rw [hvp]
    have hcl : g_slices_Clone_Int p = some p := by
     unfold g_slices_Clone_Int
     have h1 : neB p = true := by rw [hpc]; rfl
     have h2 : roomOk 8 p.length = true := by
      unfold roomOk at hroom ⊢
      simp only [List.length_append, List.length_cons, List.length_nil, decide_eq_true_eq] at hroom ⊢
      omega
     rw [h1, h2]; rfl
    refine dkown (args0 := [.sl (cellsL eI p) p.length false]) (by first | (simp only [nrm, tynrm]; done) | (simp only [nrm, tynrm]; rfl) | rfl) (by simp only [tre, tytre, Bool.and_self]) (g_slices_Clone_Int_ok _ _ hcl) ?_
    simp only [vz, tyf, seval, ua, e0, e4, e5, e8, e16, e17, rg, he1]
    refine k_app (w := 1) (enc := eI) (xs := p) (ys := [(j : Int)]) (el := none) (el2 := some 3) (fun _ => rfl) lf23 ao23 Tryz.underlying23 (by simp only [ua, nm, seval]) (by simp only [ua, nm, seval]; rfl) (Nat.zero_lt_succ _) hroom ?_
    simp only [vz, tyf, seval, ua, nm, e0, e4, e5, e8, e16, e17, rg, he1]
    refine drawK_nil ⟨?_, ?_⟩
    ·simp only [traceR_cons, traceR_nil, hitK_quiet, hitK_nil, and_true, true_and]
     repeat' (first | exact trivial | refine And.intro ?_ ?_ | rw [hitK_quiet] | rw [hitK_cons] | exact Or.inl (by decide +kernel) | exact Or.inl (by dsimp only; decide +kernel) | (refine Or.inr ⟨?_, ?_⟩ <;> simp; done) | (refine Or.inr ⟨?_, ?_⟩ <;> simp <;> omega) | (refine Or.inr ⟨?_, ?_⟩ <;> simp [VEff.wr] <;> omega))
    simp only [vz, tyf, seval, ua, e0, e4, e5, e8, e16, e17, rg, he1]
    refine kopen ?_
    rw [openK_eq]
    have hcell : (updH (without (updH (updH H1 (nx1 + 10) (VObj.cells none (cellsL eI p))) (nx1 + 12) (VObj.cells (some 3) [VV.lit (Value.int IntKind.i64 ↑j)])) (nx1 + 10)) (nx1 + 13) (VObj.cells (sameEl none 3) (cellsL eI (p ++ [(j : Int)])))) (nx1 + 13) = some (.cells (sameEl none 3) (cellsL eI (p ++ [(j : Int)]))) := by simp only [ua, seval]
    have hbig : ∀ γ, γ < nx1 → without (updH (without (updH (updH H1 (nx1 + 10) (VObj.cells none (cellsL eI p))) (nx1 + 12) (VObj.cells (some 3) [VV.lit (Value.int IntKind.i64 ↑j)])) (nx1 + 10)) (nx1 + 13) (VObj.cells (sameEl none 3) (cellsL eI (p ++ [(j : Int)])))) (nx1 + 13) γ = H1 γ := by
     intro γ h
     simp only [updH, without]
     repeat rw [if_neg (by omega)]
    refine VOpen.mono (VOpen.freeze1 (γ := nx1 + 13) hcell (args' := [vx eI (p ++ [(j : Int)]), .tp [.lit (.int .i64 ln)], .ptr y 0, .tp [.lit (.int .i64 lim)], .tp [.fn (.func mf) [] mc], .ptr e 0]) ⟨by rw [hv]; exact Frozen.own hcell (eI_ok.treeL _) (by rw [cellsL_length (w := 1) (fun _ => rfl)]), FrozenL.same⟩ (ih (p ++ [(j : Int)]) _ La Fr _ _ (by simp; omega) hLa (fun γ h => by have := hF γ h; omega) hFy hFe ((hbig y hyn).trans hy1) ((hbig e hen).trans he1) (hst _ _ _ _ _ _ _ hI1 (fun γ h _ => hbig γ h) (by omega) (fun γ h => .inl h)))) ?_ (fun _ _ _ h => h.elim)
    rintro v H2 nx2 ⟨b, rfl, h1, h2, h3⟩
    have hF2 : ∀ γ, Fr γ → H2 γ = H γ := fun γ h => by rw [h2 γ h, hbig γ (Nat.lt_of_lt_of_le (hF γ h) hn), hF1 γ h]
    simp only [vz, tyf, seval, ua, e0, e4, e5, e8, e16, e17, rg, he1]
    cases b with
    | false =>
     simp only [vz, tyf, seval, ua, Bool.not_false]
     refine opd_ret (x := .lit (.bool false)) (by simp [Tryz.results134, resV, resL, resV1, upd]) ⟨false, rfl, by omega, hF2, ?_⟩
     exact hst _ _ _ _ _ _ _ h3 (fun _ _ _ => rfl) (by omega) (fun γ h => .inl h)
    | true =>
     simp only [vz, tyf, seval, ua, Bool.not_true, hw]
     simp only [if_true] at h3
     rw [hJ]
     exact ⟨m, Nat.lt_succ_self _, j + 1, by omega, rfl, (by show nx ≤ nx2 + 2; omega), hF2, ⟨Lr, hLr, hst _ _ _ _ _ _ _ h3 (fun _ _ _ => rfl) (by show nx2 ≤ nx2 + 2; omega) (fun γ h => .inl h)⟩, by simp only [ua, seval, e0], by simp only [ua, seval, e4], by simp only [ua, seval, e5], by simp only [ua, seval, e16], by simp only [ua, seval]⟩
theorem lists_iter {mc : List VV} {mf ln lim : Nat} {may : List Int → Int → Option Bool} {L : List (List Int)} (htm : treeL mc = true) (hln0 : 0 < ln) (hln : ln < 1000) (hlim : lim < 1000000)
  (hL : listsO may lim ln [] = some L) (hm : ∀ (p : List Int) (j : Int) (b : Bool), may p j = some b → VPure Tryz.prog G0 mf (.sl (cellsL eI p) p.length false :: .lit (.int .i64 j) :: mc) (.tree (.lit (.bool b)))) :
  Iter Tryz.prog G0 (.fn (.func 133) [] [.tp [.lit (.int .i64 ln)], .tp [.lit (.int .i64 lim)], .tp [.fn (.func mf) [] mc]]) (L.map sI) := by
 rw [← map_vx (fun q hq hn => by have := listsO_len _ _ _ hL q hq; rw [hn] at this; simp at this; omega)]
 refine ⟨133, [], _, rfl, fun β I hst hr H nx hβ hI => ?_⟩
 refine VOpen.run mixed Tryz.call133 Tryz.func133 rfl (by simp [Tryz.ntmps133]; kernel_rfl) ?_
 simp only [List.nil_append, List.cons_append, argsTm4, vz, tyf, seval, ua, rg]
 refine kopen ?_
 rw [openK_eq]
 refine VOpen.mono (ext_ok hst hr htm hln0 hln hlim hm ln [] [] L (fun γ => γ = nx + 0 ∨ γ = nx + 1) _ _ (by simp) hL (by rintro γ (rfl | rfl) <;> omega) (.inl rfl) (.inr rfl) (by simp [updH]) (by simp [updH]) ?_) ?_ (fun _ _ _ h => h.elim)
 ·rw [List.append_nil]
  refine hst _ _ _ _ _ _ _ hI ?_ (by omega) (by rintro γ (rfl | rfl) <;> right <;> omega)
  intro γ h _
  simp only [updH]
  repeat rw [if_neg (by omega)]
 rintro v H2 nx2 ⟨b, rfl, h1, h2, h3⟩
 simp only [vz, tyf, seval, ua]
 refine opd_normal (x := .tup []) (by simp [Tryz.results133, resV, resL]) ?_
 replace h3 := hst _ _ noFr _ _ _ _ h3 (fun _ _ _ => rfl) (Nat.le_refl _) (fun γ h => h.elim)
 cases b with
 | true => exact .inl h3
 | false => exact .inr h3
end Go.V
end
section
set_option linter.unusedVariables false
set_option linter.unusedSimpArgs false
set_option linter.defProp false
namespace Go.V
open Go
def kIdx {K : Type} (q : K → K → Bool) (k : K) : List K → Nat → Option Nat
 | [], _ => none
 | e :: es, i => cond (q k e) (some i) (kIdx q k es (i + 1))
theorem kIdx_some {K : Type} {q : K → K → Bool} {k : K} : ∀ (es : List K) (i j : Nat), kIdx q k es i = some j → i ≤ j ∧ ∃ e, es[j - i]? = some e ∧ q k e = true
 | [], _, _, h => by cases h
 | e :: es, i, j, h => by
  unfold kIdx at h
  cases hq : q k e with
  | true =>
   rw [hq] at h
   simp only [cond_true, Option.some.injEq] at h
   subst h
   exact ⟨Nat.le_refl _, e, by simp, hq⟩
  | false =>
   rw [hq] at h
   simp only [cond_false] at h
   obtain ⟨h1, x, h2, h3⟩ := kIdx_some es (i + 1) j h
   refine ⟨by omega, x, ?_, h3⟩
   rw [show j - i = (j - (i + 1)) + 1 by omega]
   simpa using h2
def mapGet {K V : Type} (q : K → K → Bool) (z : V) (l : List (K × V)) (k : K) : V := match kIdx q k (l.map (·.1)) 0 with
 | some i => match l[i]? with | some p => p.2 | none => z
 | none => z
def mapSet {K V : Type} (q : K → K → Bool) (l : List (K × V)) (k : K) (v : V) : List (K × V) := match kIdx q k (l.map (·.1)) 0 with
 | some i => l.set i (k, v)
 | none => l ++ [(k, v)]
def encM {K V : Type} (kv : K → Value) (ev : V → VV) (l : List (K × V)) : List (Value × VV) := l.map fun p => (kv p.1, ev p.2)
section
variable {P : Program} {K V : Type} {q : K → K → Bool} {kv : K → Value} {ev : V → VV} {t kt et : TypeId} {H : Nat → Option VObj} {β : Nat}
theorem evalP_ask (he : ∀ a b, evalP P (Op.equal kt (kv a) (kv b)) = some (q a b)) (k : K) : ∀ (ks : List K) (i : Nat), evalP P (Instr.findAsking kt (kv k) ((ks.map kv).map dummy) i) = some ((kIdx q k ks i).map fun j => (j, Value.bool false))
 | [], i => rfl
 | e :: es, i => by
  simp only [List.map_cons, Instr.findAsking, kIdx]
  rw [evalP_bind]
  have h0 : evalP P (Op.equal kt (kv k) (dummy (kv e)).key) = some (q k e) := he k e
  rw [h0, Option.bind_some]
  cases q k e with
  | true => rfl
  | false => exact evalP_ask he k es (i + 1)
theorem kfind_S {fs : Array Field} (hu : P.underlying kt = some (.struct fs)) (he : ∀ a b, evalP P (Op.equal kt (kv a) (kv b)) = some (q a b)) (k : K) (ks : List K) : kfind P kt (kv k) (ks.map kv) = some (kIdx q k ks 0) := by
 unfold kfind Instr.findKey
 rw [evalP_bind, evalP_und hu, Option.bind_some]
 have ha := evalP_ask he k ks 0
 cases ks with
 | nil => rfl
 | cons e es =>
  have hn : Instr.findNow (.struct fs) (kv k) (((e :: es).map kv).map dummy) 0 = none := by
   simp only [List.map_cons, Instr.findNow]
   have : Instr.sameNow (.struct fs) (kv k) (dummy (kv e)).key = none := by cases kv k <;> rfl
   rw [this]
  rw [hn]
  simp only []
  rw [ha]
  cases kIdx q k (e :: es) 0 <;> rfl
theorem encM_keys {l : List (K × V)} : (encM kv ev l).map (·.1) = (l.map (·.1)).map kv := by simp [encM, Function.comp_def]
theorem lookup_own {fs : Array Field} {z : V} (hm : P.underlying t = some (.map kt et)) (hu : P.underlying kt = some (.struct fs)) (he : ∀ a b, evalP P (Op.equal kt (kv a) (kv b)) = some (q a b)) (hc : ∀ b k, evalP P (Instr.checkKey b 10000 kt (kv k)) = some ())
  (hz : ((P.info? et).bind (·.zero)).map ofVal2 = some (ev z)) {l : List (K × V)} {kx : VV} {k : K} (hk : kx.val? = some (kv k)) (hb : H β = some (.map (encM kv ev l))) :
  vlookup P H t (.mp β) kx false = some (ev (mapGet q z l k)) := by
 unfold vlookup
 rw [hm, hk]
 simp only [mapOf, hb]
 rw [hc, encM_keys, kfind_S hu he]
 cases hzz : (P.info? et).bind (·.zero) with
 | none => rw [hzz] at hz; cases hz
 | some z0 =>
  rw [hzz] at hz
  simp only [Option.map_some, Option.some.injEq] at hz
  unfold mapGet
  cases hi : kIdx q k (l.map (·.1)) 0 with
  | none => simp only [Bool.false_eq_true, if_false]; exact congrArg some hz
  | some i =>
   obtain ⟨_, e, h1, _⟩ := kIdx_some _ _ _ hi
   rw [Nat.sub_zero, List.getElem?_map] at h1
   cases hl : l[i]? with
   | none => rw [hl] at h1; cases h1
   | some p =>
    have : (encM kv ev l)[i]? = some (kv p.1, ev p.2) := by unfold encM; rw [List.getElem?_map, hl]; rfl
    simp only [this, hl, Bool.false_eq_true, if_false]
theorem update_own {fs : Array Field} (hm : P.underlying t = some (.map kt et)) (hu : P.underlying kt = some (.struct fs)) (he : ∀ a b, evalP P (Op.equal kt (kv a) (kv b)) = some (q a b)) (hc : ∀ b k, evalP P (Instr.checkKey b 10000 kt (kv k)) = some ())
  (hq : ∀ a b, q a b = true → a = b) (hs : ∀ a, Instr.sameBits 10000 (kv a) (kv a) = true) {l : List (K × V)} {kx : VV} {k : K} {v : V} (hk : kx.val? = some (kv k)) (hb : H β = some (.map (encM kv ev l))) :
  vmapUpdate P H t (.mp β) kx (ev v) = some (.upd β (.map (encM kv ev (mapSet q l k v)))) := by
 unfold vmapUpdate
 rw [hm, hk]
 simp only [hb]
 rw [hc, encM_keys, kfind_S hu he]
 unfold mapSet
 cases hi : kIdx q k (l.map (·.1)) 0 with
 | none => simp only [encM, List.map_append, List.map_cons, List.map_nil]
 | some i =>
  obtain ⟨_, e, h1, h2⟩ := kIdx_some _ _ _ hi
  rw [Nat.sub_zero, List.getElem?_map] at h1
  cases hl : l[i]? with
  | none => rw [hl] at h1; cases h1
  | some p =>
   have h3 : (encM kv ev l)[i]? = some (kv p.1, ev p.2) := by unfold encM; rw [List.getElem?_map, hl]; rfl
   rw [hl] at h1
   simp only [Option.map_some, Option.some.injEq] at h1
   have h4 := hq _ _ h2
   subst h4
   subst h1
   simp only [h3, hs, if_true]
   simp only [encM, List.map_set]
end
section
variable {P : Program} {G : Glob} {γ : Nat} {tm : Nat → VV} {H : Nat → Option VObj} {nx : Nat} {df : List VDef} {K : St → Prop} {Kd : List Nat → List Nat → St → Prop} {Qp : VV → St → Prop}
 {d : Option Tmp} {ty : TypeId} {pos : String} {af : Array Edge} {g : Option (Nat × Bool)}
theorem body_makeMap {t : TypeId} : bodyK P G γ ⟨d, .makeMap t none, ty, pos, af, g⟩ ⟨tm, H, nx, df⟩ K Qp = fin d γ tm H nx df K (.mp γ) (.new (.map [])) := by
 rw [body_op (by simp) (by simp) (by simp)]; rfl
theorem body_lookup {t : TypeId} {x k : Operand} {ok : Bool} : bodyK P G γ ⟨d, .lookup t x k ok, ty, pos, af, g⟩ ⟨tm, H, nx, df⟩ K Qp = oK (vlookup P H t (ev G tm x) (ev G tm k) ok) (fun y => fin d γ tm H nx df K y .none) := by
 rw [body_op (by simp) (by simp) (by simp)]; simp only [vop]; exact oK_map
theorem dbody_makeMap {t : TypeId} : dbodyK P G γ ⟨d, .makeMap t none, ty, pos, af, g⟩ ⟨tm, H, nx, df⟩ Kd = fin d γ tm H nx df (Kd (rdV ⟨d, .makeMap t none, ty, pos, af, g⟩ (ev G tm)) [γ]) (.mp γ) (.new (.map [])) := by
 rw [dbody_op (by simp)]; rfl
theorem dbody_lookup {t : TypeId} {x k : Operand} {ok : Bool} : dbodyK P G γ ⟨d, .lookup t x k ok, ty, pos, af, g⟩ ⟨tm, H, nx, df⟩ Kd = oK (vlookup P H t (ev G tm x) (ev G tm k) ok) (fun y => fin d γ tm H nx df (Kd (rdV ⟨d, .lookup t x k ok, ty, pos, af, g⟩ (ev G tm)) []) y .none) := by
 rw [dbody_op (by simp)]; simp only [vop]
 cases vlookup P H t (ev G tm x) (ev G tm k) ok <;> rfl
def umK (o : Option VEff) (k : VEff → Prop) : Prop := match o with | some e => k e | none => False
theorem umK_some {e : VEff} {k : VEff → Prop} : umK (some e) k = k e := rfl
theorem body_mapUpdate {t : TypeId} {m k x : Operand} : bodyK P G γ ⟨d, .mapUpdate t m k x, ty, pos, af, g⟩ ⟨tm, H, nx, df⟩ K Qp = umK (vmapUpdate P H t (ev G tm m) (ev G tm k) (ev G tm x)) (fun e => fin d γ tm H nx df K .any e) := by
 rw [body_op (by simp) (by simp) (by simp)]; simp only [vop]
 cases vmapUpdate P H t (ev G tm m) (ev G tm k) (ev G tm x) <;> rfl
theorem dbody_mapUpdate {t : TypeId} {m k x : Operand} : dbodyK P G γ ⟨d, .mapUpdate t m k x, ty, pos, af, g⟩ ⟨tm, H, nx, df⟩ Kd = umK (vmapUpdate P H t (ev G tm m) (ev G tm k) (ev G tm x)) (fun e => fin d γ tm H nx df (Kd (rdV ⟨d, .mapUpdate t m k x, ty, pos, af, g⟩ (ev G tm)) (e.wr γ)) .any e) := by
 rw [dbody_op (by simp)]; simp only [vop]
 cases vmapUpdate P H t (ev G tm m) (ev G tm k) (ev G tm x) <;> rfl
theorem vcells_mp {β : Nat} : vcells (.mp β) = some [.mp β] := rfl
theorem leaf_mp {β : Nat} : (VV.mp β).leaf = true := rfl
theorem rd_makeMap {t : TypeId} : rdV ⟨d, .makeMap t none, ty, pos, af, g⟩ (ev G tm) = rdL (ev G tm) [] := rdL_eq []
theorem rd_lookup {t : TypeId} {x k : Operand} {ok : Bool} : rdV ⟨d, .lookup t x k ok, ty, pos, af, g⟩ (ev G tm) = rdL (ev G tm) [x, k] := rdL_eq [x, k]
theorem rd_mapUpdate {t : TypeId} {m k x : Operand} : rdV ⟨d, .mapUpdate t m k x, ty, pos, af, g⟩ (ev G tm) = rdL (ev G tm) [m, k, x] := rdL_eq [m, k, x]
theorem tnL_mp {β : Nat} {l : List Nat} : tnL (.mp β) l = β :: l := rfl
theorem ev_nilmap : ev G tm (.const (.map none)) = .lit (.map none) := rfl
theorem encM_nil {K V : Type} {kv : K → Value} {ew : V → VV} : encM kv ew [] = [] := rfl
def mq := And.intro (And.intro (And.intro @body_makeMap (And.intro @body_lookup @body_mapUpdate)) (And.intro (And.intro @dbody_makeMap (And.intro @dbody_lookup @dbody_mapUpdate)) (And.intro (And.intro @umK_some @vcells_mp) @leaf_mp))) (And.intro (And.intro @rd_makeMap (And.intro @rd_lookup @rd_mapUpdate)) (And.intro @tnL_mp (And.intro @ev_nilmap @encM_nil)))
end
end Go.V
end
section
set_option linter.unusedVariables false
set_option linter.unusedSimpArgs false
set_option linter.defProp false
namespace Go.V
open Go
def RM (y x : VV) (H : Nat → Option VObj) (_ : Nat) : Prop := ∃ β es, x = .mp β ∧ H β = some (.map es) ∧ treeL (es.map (·.2)) = true ∧ y = .mt (es.map (·.1)) (es.map (·.2))
theorem VPure.of_openM {P : Program} {G : Glob} {f : FuncId} {args : List VV} {y : VV} (h : VOpen P G f args (fun _ => none) 0 (RM y) (fun _ _ _ => False)) : VPure P G f args (.tree y) := by
 refine ⟨h.1, fun A W vs hA hG hargs => (h.2 (PCtx A) W vs (pctx_sim hA) rfl (fun β hb => hb.elim) hG hargs).mono ?_⟩
 rintro e W' ⟨c', H', nx', hext, hs', hH', hu, hu', hle, hres⟩
 have hbelow := below_of_ext hext
 have hge : ∀ β, c'.live β → W.heap.size ≤ c'.φ β := by
  intro β hl
  rcases Nat.lt_or_ge (c'.φ β) W.heap.size with h | h
  ·obtain ⟨γ, hγ, _⟩ := hext.old β hl h
   simp [PCtx, Ctx.live] at hγ
  ·exact h
 have hold : ∀ b, c'.A b → A b ∨ W.heap.size ≤ b := by
  intro b hb
  rcases hext.newA b hb with h | h | ⟨β, h, _⟩
  ·exact .inl h
  ·exact .inr h
  ·simp [PCtx, Ctx.live] at h
 have held : ∀ {H0 : Nat → Option VObj}, SubHeap H0 c'.H → ∀ b, heldIn c' H0 b → A b ∨ W.heap.size ≤ b := by
  intro H0 hsub b hb
  rcases hb with h | ⟨β, h, e⟩
  ·exact hold b h
  ·exact .inr (e ▸ hge β (hsub.live h))
 have heldlt : ∀ {H0 : Nat → Option VObj}, SubHeap H0 c'.H → ∀ b, heldIn c' H0 b → b < W'.heap.size := by
  intro H0 hsub b hb
  rcases hb with h | ⟨β, h, e⟩
  ·exact hs'.ltA b h
  ·exact e ▸ hs'.lt β (hsub.live h)
 rcases hres with ⟨x, v, rfl, hrv, β, es, rfl, hβ, ht, rfl⟩ | ⟨x, v, rfl, hv, hF⟩
 ·subst hH'
  refine ⟨heldIn c' c'.H, fun b hb => .inl (hext.A b hb), held (SubHeap.refl _), heldlt (SubHeap.refl _), hbelow, v, rfl, ?_⟩
  have hv : v = .map (some (c'.φ β)) := hrv.2 (by simp [Ctx.live, hβ])
  obtain ⟨ents, clk, h1, h2, h3⟩ := hs'.obj β _ hβ
  have ab : Abides (PCtx c'.A) W' (PCtx (heldIn c' c'.H)) W' := abides_of_p (fun b hb => Or.inl hb)
  exact ⟨_, hv, .inr ⟨β, by simp [hβ], rfl⟩, ents, clk, h1, h2, RepL.abides ab _ (repL_tree ht h3)⟩
 ·exact hF.elim
theorem VPure.runM {P : Program} {G : Glob} (hm : P.follows .mixedOrders = true) {f : FuncId} {fn : Func} {code : Code} {args : List VV} {y : VV} (hc : Callable P f) (hf : P.funcs[f]? = some fn) (hb : fn.body = some code)
  (hst : (decide (args.length ≤ fn.ntmps) && codeOk fn.ntmps code) = true) (h : CWp P (G.at (some none)) fn.ntmps code (OpenPostD P G fn (RM y) (fun _ _ _ => False)) { tm := argsTm args, H := fun _ => none, nx := 0, df := [] }) : VPure P G f args (.tree y) :=
 VPure.of_openM (VOpen.run hm hc hf hb hst h)
def mtK {K V : Type} (kv : K → Value) (l : List (K × V)) : List Value := l.map fun p => kv p.1
def mtV {K V : Type} (ew : V → VV) (l : List (K × V)) : List VV := l.map fun p => ew p.2
theorem mt_tree {K V : Type} {ew : V → VV} (ht : ∀ v, (ew v).tree = true) : ∀ l : List (K × V), treeL (mtV ew l) = true
 | [] => rfl
 | p :: l => by
  show ((ew p.2).tree && treeL (mtV ew l)) = true
  rw [ht, mt_tree ht l]; rfl
theorem rm_map {K V : Type} {kv : K → Value} {ew : V → VV} {β nx : Nat} {H : Nat → Option VObj} {l : List (K × V)} (ht : ∀ v, (ew v).tree = true) (hb : H β = some (.map (encM kv ew l))) : RM (.mt (mtK kv l) (mtV ew l)) (.mp β) H nx := by
 have e1 : (encM kv ew l).map (·.1) = mtK kv l := by simp [encM, mtK, Function.comp_def]
 have e2 : (encM kv ew l).map (·.2) = mtV ew l := by simp [encM, mtV, Function.comp_def]
 exact ⟨β, _, rfl, hb, by rw [e2]; exact mt_tree ht l, by rw [e1, e2]⟩
theorem mt_mapOf {K V : Type} {kv : K → Value} {ew : V → VV} {H : Nat → Option VObj} (l : List (K × V)) : mapOf H (.mt (mtK kv l) (mtV ew l)) = some (encM kv ew l) := by
 simp only [mapOf, mtK, mtV, encM, Option.some.injEq]
 induction l with
 | nil => rfl
 | cons p l ih => simp only [List.map_cons, List.zip_cons_cons, ih]
section
variable {P : Program} {K V : Type} {q : K → K → Bool} {kv : K → Value} {ew : V → VV} {t kt et : TypeId} {H : Nat → Option VObj}
theorem lookup_tree {fs : Array Field} {z : V} (hm : P.underlying t = some (.map kt et)) (hu : P.underlying kt = some (.struct fs)) (he : ∀ a b, evalP P (Op.equal kt (kv a) (kv b)) = some (q a b)) (hc : ∀ b k, evalP P (Instr.checkKey b 10000 kt (kv k)) = some ())
  (hz : ((P.info? et).bind (·.zero)).map ofVal2 = some (ew z)) {l : List (K × V)} {kx : VV} {k : K} (hk : kx.val? = some (kv k)) :
  vlookup P H t (.mt (mtK kv l) (mtV ew l)) kx false = some (ew (mapGet q z l k)) := by
 have := lookup_own (H := fun _ => some (.map (encM kv ew l))) (β := 0) hm hu he hc hz hk rfl
 unfold vlookup at this ⊢
 rw [mt_mapOf]
 exact this
end
theorem leaf_mt {ks : List Value} {vs : List VV} : (VV.mt ks vs).leaf = true := rfl
theorem vcells_mt {ks : List Value} {vs : List VV} : vcells (.mt ks vs) = some [.mt ks vs] := rfl
theorem tnL_mt {ks : List Value} {vs : List VV} {l : List Nat} : tnL (.mt ks vs) l = l := rfl
def mqm := And.intro @leaf_mt (And.intro @vcells_mt @tnL_mt)
end Go.V
end
section
set_option linter.defProp false
namespace Go.V
open Go
theorem normV_mt {ks : List Value} {vs : List VV} : normV (.mt ks vs) = .mt ks vs := by simp [normV]
theorem encM_k {K V : Type} {kv : K → Value} {ev : V → VV} {l : List (K × V)} : (encM kv ev l).map (·.1) = mtK kv l := by simp [encM, mtK, Function.comp_def]
theorem encM_v {K V : Type} {kv : K → Value} {ev : V → VV} (h : ∀ H d v, showV H d (ev v) = ev v) {l : List (K × V)} {H : Nat → Option VObj} {d : Nat} : ((encM kv ev l).map (·.2)).map (showV H d) = mtV ev l := by
 simp [encM, mtV, Function.comp_def, h]
theorem mt_tr {K V : Type} {kv : K → Value} {ev : V → VV} (h : ∀ v, (ev v).tree = true) {l : List (K × V)} : (VV.mt (mtK kv l) (mtV ev l)).tree = true := mt_tree h l
theorem showV_mt {H : Nat → Option VObj} {d : Nat} {ks : List Value} {vs : List VV} : showV H d (.mt ks vs) = .mt ks vs := by cases d <;> rfl
end Go.V
end
section
namespace Go.V
open Go Go.Proofs
def kv121 (k : Gcoatlaying) : Value := .agg ⟨[.int .i64 k.coat, .int .i64 k.day]⟩
def q121 (a b : Gcoatlaying) : Bool := (a.coat == b.coat) && ((a.day == b.day) && true)
def ev4 (n : Bool) : VV := .lit (.bool n)
theorem he121 (a b : Gcoatlaying) : evalP Tryz.prog (Op.equal 121 (kv121 a) (kv121 b)) = some (q121 a b) := by
 have e : Op.maxDepth = 9998 + 2 := rfl
 unfold Op.equal kv121
 rw [e, evalP_eqS Tryz.underlying121 (by kernel_rfl) (r := q121 a b) (by kernel_rfl)]
theorem hc121 (b : Bool) (k : Gcoatlaying) : evalP Tryz.prog (Instr.checkKey b 10000 121 (kv121 k)) = some () := by
 cases b <;> kernel_rfl
theorem hq121 (a b : Gcoatlaying) (h : q121 a b = true) : a = b := by
 cases a; cases b
 simp only [q121, Bool.and_true, Bool.and_eq_true, beq_iff_eq] at h
 simp only [h]
theorem hs121 (a : Gcoatlaying) : Instr.sameBits 10000 (kv121 a) (kv121 a) = true := by
 simp [kv121, Instr.sameBits]
theorem hz4 : ((Tryz.prog.info? 4).bind (·.zero)).map ofVal2 = some (ev4 false) := by kernel_rfl
theorem hk121 (k : Gcoatlaying) : VV.val? (.agg [.lit (.int .i64 k.coat), .lit (.int .i64 k.day)]) = some (kv121 k) := rfl
theorem up117 {β : Nat} (l : List (Gcoatlaying × Bool)) (k : Gcoatlaying) (n : Bool) (H : Nat → Option VObj) (hb : H β = some (.map (encM kv121 ev4 l))) : vmapUpdate Tryz.prog H 117 (.mp β) (.agg [.lit (.int .i64 k.coat), .lit (.int .i64 k.day)]) (.lit (.bool n)) = some (.upd β (.map (encM kv121 ev4 (mapSet q121 l k n)))) :=
 update_own Tryz.underlying117 Tryz.underlying121 he121 hc121 hq121 hs121 (hk121 k) hb
theorem ld117 {c : VV} {cs : List VV} : vload Tryz.prog 117 (c :: cs) = some c := by
 have h1 : aggT Tryz.prog 117 = some false := by kernel_rfl
 simp [vload, vpart, h1]
theorem sz117 : szT Tryz.prog 117 = some 1 := by kernel_rfl
theorem vzl117 : vzl Tryz.prog 117 = some [.lit (.map none)] := by kernel_rfl
theorem lkt117 {l : List (Gcoatlaying × Bool)} {a0 a1 : Int} {H : Nat → Option VObj} : vlookup Tryz.prog H 117 (.mt (mtK kv121 l) (mtV ev4 l)) (.agg [.lit (.int .i64 a0), .lit (.int .i64 a1)]) false = some (.lit (.bool (mapGet q121 false l (Gcoatlaying.mk a0 a1)))) :=
 lookup_tree Tryz.underlying117 Tryz.underlying121 he121 hc121 hz4 (k := ⟨a0, a1⟩) rfl
theorem et4 (n : Bool) : (ev4 n).tree = true := rfl
theorem sh4 (H : Nat → Option VObj) (d : Nat) (n : Bool) : showV H d (ev4 n) = ev4 n := by cases d <;> rfl
theorem mv4 {kv : Gcoatlaying → Value} {l : List (Gcoatlaying × Bool)} {H : Nat → Option VObj} {d : Nat} : ((encM kv ev4 l).map (·.2)).map (showV H d) = mtV ev4 l := encM_v sh4
theorem mtr4 {kv : Gcoatlaying → Value} {l : List (Gcoatlaying × Bool)} : (VV.mt (mtK kv l) (mtV ev4 l)).tree = true := mt_tr et4
def mqr := And.intro (And.intro @normV_mt @showV_mt) (And.intro @mtr4 True.intro)
def mqt := And.intro (And.intro (And.intro @ld117 @sz117) (And.intro @vzl117 @lkt117)) (And.intro (And.intro @normV_mt @showV_mt) (And.intro @encM_k @mv4))
end Go.V
end
section
namespace Go.V
open Go Go.Proofs
def g_coat_sums_dries (x0_x : Gcoatsums) (x1_coat : Int) (x2_from : Int) (x3_to : Int) : Option (Bool) := cond (decide (x2_from < x3_to)) (Option.bind (g_coat_sums_least x0_x x2_from x3_to) (fun r1 => Option.bind (getI x0_x.CoatSheet.Coats x1_coat) (fun x2 => cond (decide (r1 < x2.Need)) (some false) (Option.bind (g_coat_sums_isLast x0_x x1_coat) (fun r3 => cond (r3) (some true) (Option.bind (g_coat_sums_greatest x0_x x2_from x3_to) (fun r4 => cond (decide (r4 > x2.Peel)) (some false) (some true)))))))) (some false)
theorem g_coat_sums_dries_ok (x0_x : Gcoatsums) (x1_coat : Int) (x2_from : Int) (x3_to : Int) (R : Bool) (h : g_coat_sums_dries x0_x x1_coat x2_from x3_to = some R) : VPure Tryz.prog G0 107 [.agg (cGcoatsums x0_x), .lit (.int .i64 x1_coat), .lit (.int .i64 x2_from), .lit (.int .i64 x3_to)] (.tree (.lit (.bool R))) := by
 refine VPure.runR mixed Tryz.call107 Tryz.func107 rfl (by simp [Tryz.ntmps107]; kernel_rfl) ?_
 obtain ⟨KF, h, kF, kN⟩ := fun_intro h
 simp only [g_coat_sums_dries] at h
 simp only [vz, tyf, nm, seval]
 refine cwp_cutF (fun tm => tm 1 = .lit (.int .i64 x1_coat) ∧ tm 2 = .lit (.int .i64 x2_from) ∧ tm 3 = .lit (.int .i64 x3_to) ∧ tm 4 = .ptr 0 0 ∧ True) (by refine ⟨?_, ?_, ?_, ?_, trivial⟩ <;> first | (simp only [ua, nm, seval] <;> rfl) | rfl) ?_
 rintro tm ⟨e5, e6, e7, e8, _⟩
 refine cwp_drawS mixed 10 rfl rfl rfl (by kernel_rfl) ?_
 cases d9 : (decide (x2_from < x3_to))
 ·simp only [d9, hs] at h
  try simp only [vz, tyf, e5, e6, e7, e8, d9, nm, seval]
  obtain rfl := kF _ h
  exact opd_bool Tryz.results107 rfl
 simp only [d9, hs] at h
 simp only [vz, tyf, e5, e6, e7, e8, d9, nm, seval]
 refine dktree (args0 := [.agg (cGcoatsums x0_x)]) (by first | (simp only [nrm, tynrm] <;> rfl) | rfl) (by simp only [tre, tytre, Bool.and_self]) (g_coat_sums_atWorst_ok _) ?_
 try simp only [vz, tyf, e5, e6, e7, e8, d9, nm, seval]
 refine kopen ?_
 rw [openK_eq]
 refine VOpen.run mixed Tryz.call135 Tryz.func135 rfl (by simp [Tryz.ntmps135]; kernel_rfl) ?_
 simp only [vz, tyf, d9, nm, seval]
 refine cwp_drwQF (fun tm => tm 2 = .lit (.int .i64 x1_coat) ∧ tm 3 = .lit (.int .i64 x2_from) ∧ tm 4 = .lit (.int .i64 x3_to) ∧ tm 5 = .ptr 16 0 ∧ tm 6 = .ptr 17 0 ∧ True) (by refine ⟨?_, ?_, ?_, ?_, ?_, trivial⟩ <;> first | (simp only [ua, d9, nm, seval] <;> rfl) | rfl) ?_
 rintro tm ⟨e10, e11, e12, e13, e14, _⟩
 rcases o16 : (g_coat_sums_least x0_x x2_from x3_to) with _ | r15
 ·simp only [o16, hs] at h
  exact absurd h kN
 simp only [o16, hs] at h
 simp only [vz, tyf, d9, e10, e11, e12, e13, e14, nm, seval]
 refine dktree (args0 := [.agg (cGcoatsums x0_x), .lit (.int .i64 x2_from), .lit (.int .i64 x3_to)]) (by first | (simp only [nrm, tynrm] <;> rfl) | rfl) (by simp only [tre, tytre, Bool.and_self]) (g_coat_sums_least_ok _ _ _ _ o16) ?_
 refine fin_cut (fun tm => tm 2 = .lit (.int .i64 x1_coat) ∧ tm 3 = .lit (.int .i64 x2_from) ∧ tm 4 = .lit (.int .i64 x3_to) ∧ tm 5 = .ptr 16 0 ∧ tm 6 = .ptr 17 0 ∧ tm 16 = .lit (.int .i64 r15) ∧ True) (by refine ⟨e10, e11, e12, e13, e14, ?_, trivial⟩ <;> first | (simp only [ua, d9, e10, e11, e12, e13, e14, nm, seval] <;> rfl) | rfl) ?_
 rintro tm ⟨e17, e18, e19, e20, e21, e22, _⟩
 rcases o24 : (getI x0_x.CoatSheet.Coats x1_coat) with _ | x23
 ·simp only [o24, hs] at h
  exact absurd h kN
 simp only [o24, hs] at h
 cases d25 : (decide (r15 < x23.Need))
 ·simp only [d25, hs] at h
  simp only [vz, tyf, d9, e17, e18, e19, e20, e21, e22, (ix24 o24), d25, nm, seval]
  refine cwp_drwQF (fun tm => tm 2 = .lit (.int .i64 x1_coat) ∧ tm 3 = .lit (.int .i64 x2_from) ∧ tm 4 = .lit (.int .i64 x3_to) ∧ tm 5 = .ptr 16 0 ∧ tm 6 = .ptr 17 0 ∧ True) (by refine ⟨e17, e18, e19, e20, e21, trivial⟩ <;> first | (simp only [ua, d9, e17, e18, e19, e20, e21, e22, d25, nm, seval] <;> rfl) | rfl) ?_
  rintro tm ⟨e26, e27, e28, e29, e30, _⟩
  rcases o32 : (g_coat_sums_isLast x0_x x1_coat) with _ | r31
  ·simp only [o32, hs] at h
   exact absurd h kN
  simp only [o32, hs] at h
  simp only [vz, tyf, d9, (ix24 o24), d25, e26, e27, e28, e29, e30, nm, seval]
  refine dktree (args0 := [.agg (cGcoatsums x0_x), .lit (.int .i64 x1_coat)]) (by first | (simp only [nrm, tynrm] <;> rfl) | rfl) (by simp only [tre, tytre, Bool.and_self]) (g_coat_sums_isLast_ok _ _ _ o32) ?_
  refine fin_cut (fun tm => tm 2 = .lit (.int .i64 x1_coat) ∧ tm 3 = .lit (.int .i64 x2_from) ∧ tm 4 = .lit (.int .i64 x3_to) ∧ tm 5 = .ptr 16 0 ∧ tm 6 = .ptr 17 0 ∧ tm 28 = .lit (.bool r31) ∧ True) (by refine ⟨e26, e27, e28, e29, e30, ?_, trivial⟩ <;> first | (simp only [ua, d9, d25, e26, e27, e28, e29, e30, nm, seval] <;> rfl) | rfl) ?_
  rintro tm ⟨e33, e34, e35, e36, e37, e38, _⟩
  cases d39 : (r31)
  ·simp only [d39, hs] at h
   rcases o41 : (g_coat_sums_greatest x0_x x2_from x3_to) with _ | r40
   ·simp only [o41, hs] at h
    exact absurd h kN
   simp only [o41, hs] at h
   simp only [vz, tyf, d9, (ix24 o24), d25, e33, e34, e35, e36, e37, e38, d39, nm, seval]
   refine dktree (args0 := [.agg (cGcoatsums x0_x), .lit (.int .i64 x2_from), .lit (.int .i64 x3_to)]) (by first | (simp only [nrm, tynrm] <;> rfl) | rfl) (by simp only [tre, tytre, Bool.and_self]) (g_coat_sums_greatest_ok _ _ _ _ o41) ?_
   refine fin_cut (fun tm => tm 2 = .lit (.int .i64 x1_coat) ∧ tm 5 = .ptr 16 0 ∧ tm 30 = .lit (.bool true) ∧ tm 35 = .lit (.int .i64 r40) ∧ True) (by refine ⟨e33, e36, ?_, ?_, trivial⟩ <;> first | (simp only [ua, d9, d25, e33, e34, e35, e36, e37, e38, d39, nm, seval] <;> rfl) | rfl) ?_
   rintro tm ⟨e42, e43, e44, e45, _⟩
   cases d46 : (decide (r40 > x23.Peel))
   ·simp only [d46, hs] at h
    try simp only [vz, tyf, d9, (ix24 o24), d25, d39, e42, e43, e44, e45, d46, nm, seval]
    refine opd_ret (x := (.lit (.int .i64 0))) (by first | (simp only [Tryz.results135, resV, resL, resV1, tgt_ptr, tgt_tp, uw, cr, tyf, d9, (ix24 o24), d25, d39, d46, nm, seval] <;> rfl) | rfl) ?_
    try simp only [vz, tyf, d9, (ix24 o24), d25, d39, d46, e5, e6, e7, e8, nm, seval]
    obtain rfl := kF _ h
    exact opd_bool Tryz.results107 rfl
   simp only [d46, hs] at h
   try simp only [vz, tyf, d9, (ix24 o24), d25, d39, e42, e43, e44, e45, d46, nm, seval]
   refine opd_ret (x := (.lit (.int .i64 2))) (by first | (simp only [Tryz.results135, resV, resL, resV1, tgt_ptr, tgt_tp, uw, cr, tyf, d9, (ix24 o24), d25, d39, d46, nm, seval] <;> rfl) | rfl) ?_
   try simp only [vz, tyf, d9, (ix24 o24), d25, d39, d46, e5, e6, e7, e8, nm, seval]
   obtain rfl := kF _ h
   exact opd_bool Tryz.results107 rfl
  simp only [d39, hs] at h
  try simp only [vz, tyf, d9, (ix24 o24), d25, e33, e34, e35, e36, e37, e38, d39, nm, seval]
  refine opd_ret (x := (.lit (.int .i64 0))) (by first | (simp only [Tryz.results135, resV, resL, resV1, tgt_ptr, tgt_tp, uw, cr, tyf, d9, (ix24 o24), d25, d39, nm, seval] <;> rfl) | rfl) ?_
  try simp only [vz, tyf, d9, (ix24 o24), d25, d39, e5, e6, e7, e8, nm, seval]
  obtain rfl := kF _ h
  exact opd_bool Tryz.results107 rfl
 simp only [d25, hs] at h
 try simp only [vz, tyf, d9, e17, e18, e19, e20, e21, e22, (ix24 o24), d25, nm, seval]
 refine opd_ret (x := (.lit (.int .i64 1))) (by first | (simp only [Tryz.results135, resV, resL, resV1, tgt_ptr, tgt_tp, uw, cr, tyf, d9, (ix24 o24), d25, nm, seval] <;> rfl) | rfl) ?_
 try simp only [vz, tyf, d9, (ix24 o24), d25, e5, e6, e7, e8, nm, seval]
 obtain rfl := kF _ h
 exact opd_bool Tryz.results107 rfl
end Go.V
end
section
namespace Go.V
open Go Go.Proofs
def g_coat_sums_goesOn_l0 (x0_x : Gcoatsums) (x1_known : List (Gcoatlaying × Bool)) (x2_coat : Int) (x3_day : Int) : List Int → Int → Option (LOut (Bool) (Unit))
 | [], c0_26 => some (.go ())
 | e0 :: p0, c0_26 => cond (mapGet q121 false x1_known (Gcoatlaying.mk (IntKind.i64.wrap (x2_coat + 1)) e0)) (Option.bind (g_coat_sums_dries x0_x x2_coat x3_day e0) (fun r3 => cond (r3) (some (.ret true)) (g_coat_sums_goesOn_l0 x0_x x1_known x2_coat x3_day p0 (c0_26 + 1)))) (g_coat_sums_goesOn_l0 x0_x x1_known x2_coat x3_day p0 (c0_26 + 1))
def g_coat_sums_goesOn (x0_x : Gcoatsums) (x1_known : List (Gcoatlaying × Bool)) (x2_coat : Int) (x3_day : Int) : Option (Bool) := Option.bind (g_coat_sums_isLast x0_x x2_coat) (fun r1 => cond (r1) (Option.bind (g_coat_sums_dries x0_x x2_coat x3_day (List.length x0_x.CoatSheet.Dry : Int)) (fun r2 => some r2)) (cond (lenOk x0_x.CoatSheet.Work) (lbind (g_coat_sums_goesOn_l0 x0_x x1_known x2_coat x3_day x0_x.CoatSheet.Work 0) (fun r5 => some r5) (fun c4 => some false) (fun _ _ => none)) none))
theorem g_coat_sums_goesOn_ok (x0_x : Gcoatsums) (x1_known : List (Gcoatlaying × Bool)) (x2_coat : Int) (x3_day : Int) (R : Bool) (h : g_coat_sums_goesOn x0_x x1_known x2_coat x3_day = some R) : VPure Tryz.prog G0 132 [.agg (cGcoatsums x0_x), .mt (mtK kv121 x1_known) (mtV ev4 x1_known), .lit (.int .i64 x2_coat), .lit (.int .i64 x3_day)] (.tree (.lit (.bool R))) := by
 refine VPure.runR mixed Tryz.call132 Tryz.func132 rfl (by simp [Tryz.ntmps132]; kernel_rfl) ?_
 obtain ⟨KF, h, kF, kN⟩ := fun_intro h
 simp only [g_coat_sums_goesOn] at h
 rcases o7 : (g_coat_sums_isLast x0_x x2_coat) with _ | r6
 ·simp only [o7, hs] at h
  exact absurd h kN
 simp only [o7, hs] at h
 simp only [vz, mq, mqm, tyf, mqt, nm, seval]
 refine ktree (args0 := [.agg (cGcoatsums x0_x), .lit (.int .i64 x2_coat)]) (by first | (simp only [nrm, tynrm, mqr] <;> rfl) | rfl) (by simp only [tre, tytre, mqr, Bool.and_self]) (g_coat_sums_isLast_ok _ _ _ o7) ?_
 refine fin_cut (fun tm => tm 1 = .mt (mtK kv121 x1_known) (mtV ev4 x1_known) ∧ tm 2 = .lit (.int .i64 x2_coat) ∧ tm 3 = .lit (.int .i64 x3_day) ∧ tm 4 = .ptr 0 0 ∧ tm 13 = .lit (.bool r6) ∧ True) (by refine ⟨?_, ?_, ?_, ?_, ?_, trivial⟩ <;> first | (simp only [ua, encM_nil, nm, seval] <;> rfl) | rfl) ?_
 rintro tm ⟨e8, e9, e10, e11, e12, _⟩
 cases d13 : (r6)
 ·simp only [d13, hs] at h
  cases g15 : (lenOk x0_x.CoatSheet.Work)
  ·simp only [g15, hs] at h
   exact absurd h kN
  simp only [g15, hs] at h
  simp only [vz, mq, mqm, tyf, mqt, e8, e9, e10, e11, e12, d13, g15, nm, seval]
  obtain ⟨K14, h, kR14, kG14, kB14, kN14⟩ := lbind_intro h kN
  obtain ⟨f14, hf14, h⟩ := call2 h
  obtain ⟨I14, hI14⟩ : ∃ I : Nat → St → Prop, I = (fun m st => ∃ (p14 : List Int) (c14_26 : Int), m = List.length p14 ∧ 0 ≤ c14_26 ∧ List.drop (Int.toNat c14_26) x0_x.CoatSheet.Work = p14 ∧ st.df = [] ∧ 10 ≤ st.nx ∧ st.H 0 = some (.cells (some 81) (cGcoatsums x0_x)) ∧ st.tm 1 = .mt (mtK kv121 x1_known) (mtV ev4 x1_known) ∧ st.tm 2 = .lit (.int .i64 x2_coat) ∧ st.tm 3 = .lit (.int .i64 x3_day) ∧ st.tm 4 = .ptr 0 0 ∧ st.tm 24 = .sl (cellsL eI x0_x.CoatSheet.Work) (List.length x0_x.CoatSheet.Work) false ∧ st.tm 25 = .lit (.int .i64 (List.length x0_x.CoatSheet.Work : Int)) ∧ st.tm 26 = .lit (.int .i64 c14_26) ∧ K14 (f14 p14 c14_26)) := ⟨_, rfl⟩
  refine loopK mixed (by kernel_rfl) I14 (List.length x0_x.CoatSheet.Work) (by rw [hI14]; refine ⟨x0_x.CoatSheet.Work, 0, rfl, Int.le_refl _, rfl, rfl, (show 10 ≤ 10 by omega), ?_, e8, e9, e10, e11, ?_, ?_, ?_, h⟩ <;> first | (simp only [ua, encM_nil, e8, e9, e10, e11, e12, d13, nm, seval] <;> rfl) | rfl) ?_
  rintro m ⟨tm, H, nx14, df⟩ hinv
  rw [hI14] at hinv
  obtain ⟨p14, c14_26, rfl, hi14, hp14, hdf, hn14, H16, e17, e18, e19, e20, e21, e22, e23, h⟩ := hinv
  simp only at hdf hn14 H16 e17 e18 e19 e20 e21 e22 e23
  have n24 := base_ne0 (m := 10) (b := nx14) (by omega)
  subst hdf hf14
  cases p14 with
  | nil =>
   have d25 : (decide (c14_26 < (List.length x0_x.CoatSheet.Work : Int))) = false := not_lt_of_drop hi14 hp14
   simp only [g_coat_sums_goesOn_l0, hs, reduceCtorEq] at h
   replace h := kG14 _ h
   try dsimp only at h
   try simp only [hs] at h
   try simp only [vz, mq, mqm, tyf, mqt, d13, g15, n24, e17, e18, e19, e20, e21, e22, e23, H16, d25, nm, seval]
   obtain rfl := kF _ h
   exact opd_bool Tryz.results132 rfl
  | cons e14 p14 =>
   have d26 : (decide (c14_26 < (List.length x0_x.CoatSheet.Work : Int))) = true := lt_of_drop hi14 hp14
   have o28 := getI_of_drop hi14 hp14
   have w27 := wrap_next hi14 hp14 g15
   simp only [g_coat_sums_goesOn_l0, hs, reduceCtorEq] at h
   cases d29 : (mapGet q121 false x1_known (Gcoatlaying.mk (IntKind.i64.wrap (x2_coat + 1)) e14))
   ·simp only [d29, hs] at h
    have b30 := And.intro d13 (And.intro g15 (And.intro n24 (And.intro H16 (And.intro d26 (And.intro w27 d29)))))
    simp only [vz, mq, mqm, tyf, mqt, b30, e17, e18, e19, e20, e21, e22, e23, (ix23 o28), nm, seval]
    exact ⟨List.length p14, Nat.lt_succ_self _, by rw [hI14]; refine ⟨p14, c14_26 + 1, rfl, Int.le_trans hi14 (Int.le_add_one (Int.le_refl _)), drop_next hi14 hp14, rfl, (show 10 ≤ nx14 + 19 by omega), ?_, e17, e18, e19, e20, e21, e22, ?_, h⟩ <;> first | (simp only [ua, encM_nil, b30, e17, e18, e19, e20, e21, e22, e23, nm, seval] <;> rfl) | rfl⟩
   simp only [d29, hs] at h
   have b31 := And.intro d13 (And.intro g15 (And.intro n24 (And.intro H16 (And.intro d26 (And.intro w27 d29)))))
   rcases o33 : (g_coat_sums_dries x0_x x2_coat x3_day e14) with _ | r32
   ·simp only [o33, hs] at h
    exact absurd h kN14
   simp only [o33, hs] at h
   simp only [vz, mq, mqm, tyf, mqt, b31, e17, e18, e19, e20, e21, e22, e23, (ix23 o28), nm, seval]
   refine ktree (args0 := [.agg (cGcoatsums x0_x), .lit (.int .i64 x2_coat), .lit (.int .i64 x3_day), .lit (.int .i64 e14)]) (by first | (simp only [nrm, tynrm, mqr] <;> rfl) | rfl) (by simp only [tre, tytre, mqr, Bool.and_self]) (g_coat_sums_dries_ok _ _ _ _ _ o33) ?_
   refine fin_cut (fun tm => tm 1 = .mt (mtK kv121 x1_known) (mtV ev4 x1_known) ∧ tm 2 = .lit (.int .i64 x2_coat) ∧ tm 3 = .lit (.int .i64 x3_day) ∧ tm 4 = .ptr 0 0 ∧ tm 24 = .sl (cellsL eI x0_x.CoatSheet.Work) (List.length x0_x.CoatSheet.Work) false ∧ tm 25 = .lit (.int .i64 (List.length x0_x.CoatSheet.Work : Int)) ∧ tm 26 = .lit (.int .i64 c14_26) ∧ tm 36 = .lit (.bool true) ∧ tm 41 = .lit (.bool r32) ∧ True) (by refine ⟨e17, e18, e19, e20, e21, e22, e23, ?_, ?_, trivial⟩ <;> first | (simp only [ua, encM_nil, b31, e17, e18, e19, e20, e21, e22, e23, nm, seval] <;> rfl) | rfl) ?_
   rintro tm ⟨e34, e35, e36, e37, e38, e39, e40, e41, e42, _⟩
   cases d43 : (r32)
   ·simp only [d43, hs] at h
    simp only [vz, mq, mqm, tyf, mqt, b31, (ix23 o28), e34, e35, e36, e37, e38, e39, e40, e41, e42, d43, nm, seval]
    exact ⟨List.length p14, Nat.lt_succ_self _, by rw [hI14]; refine ⟨p14, c14_26 + 1, rfl, Int.le_trans hi14 (Int.le_add_one (Int.le_refl _)), drop_next hi14 hp14, rfl, (show 10 ≤ nx14 + 19 by omega), ?_, e34, e35, e36, e37, e38, e39, ?_, h⟩ <;> first | (simp only [ua, encM_nil, b31, e34, e35, e36, e37, e38, e39, e40, e41, e42, d43, nm, seval] <;> rfl) | rfl⟩
   simp only [d43, hs] at h
   try simp only [vz, mq, mqm, tyf, mqt, b31, (ix23 o28), e34, e35, e36, e37, e38, e39, e40, e41, e42, d43, nm, seval]
   replace h := kR14 _ h
   try dsimp only at h
   obtain rfl := kF _ h
   exact opd_bool Tryz.results132 rfl
 simp only [d13, hs] at h
 rcases o45 : (g_coat_sums_dries x0_x x2_coat x3_day (List.length x0_x.CoatSheet.Dry : Int)) with _ | r44
 ·simp only [o45, hs] at h
  exact absurd h kN
 simp only [o45, hs] at h
 simp only [vz, mq, mqm, tyf, mqt, e8, e9, e10, e11, e12, d13, nm, seval]
 refine ktree (args0 := [.agg (cGcoatsums x0_x), .lit (.int .i64 x2_coat), .lit (.int .i64 x3_day), .lit (.int .i64 (List.length x0_x.CoatSheet.Dry : Int))]) (by first | (simp only [nrm, tynrm, mqr] <;> rfl) | rfl) (by simp only [tre, tytre, mqr, Bool.and_self]) (g_coat_sums_dries_ok _ _ _ _ _ o45) ?_
 refine fin_cut (fun tm => tm 21 = .lit (.bool r44) ∧ True) (by refine ⟨?_, trivial⟩ <;> first | (simp only [ua, encM_nil, e8, e9, e10, e11, e12, d13, nm, seval] <;> rfl) | rfl) ?_
 rintro tm ⟨e46, _⟩
 try simp only [vz, mq, mqm, tyf, mqt, d13, e46, nm, seval]
 obtain rfl := kF _ h
 exact opd_bool Tryz.results132 rfl
end Go.V
end
