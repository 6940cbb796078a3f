/- Part of a proof. -/
import Derived.Test.YtekhjalgmlflpaaGreatDoorZbi
set_option linter.all false
set_option maxRecDepth 4000
set_option maxHeartbeats 40000000
section
namespace Go.V
open Go Go.Proofs IntKind
def Dp (xs : List Int) : Option (List Int) := cond (neB xs) (cond (aw 8 xs.length) (some xs) none) none
theorem XD (xs R : List Int) (h : Dp xs = some R) : ad Tryz.prog G0 140 [.sl (aa eI xs) xs.length false] (.own (aa eI R) R.length 1) := by
 unfold Dp at h
 cases hn : neB xs with
 | false => rw [hn] at h; cases h
 | true =>
 cases hr : aw 8 xs.length with
 | false => rw [hn, hr] at h; cases h
 | true =>
 rw [hn, hr] at h
 simp only [cond_true, Option.some.injEq] at h
 subst h
 have hc : aa eI xs ≠ [] := by
  cases xs with
  | nil => cases hn
  | cons a l => intro hh; cases hh
 have hnil : ∀ (H : Nat → Option VObj) (x y : Operand), binV Tryz.prog H .eql 29 x y (.sl (aa eI xs) xs.length false) (.lit (.slice none 0 0)) = some (.lit (.bool false)) := fun H x y => Mj Tryz.underlying29 hc
 have hb : aP Tryz.prog 29 0 [] = some ([], 1) := by kernel_rfl
 refine ad.run mixed Tryz.call140 Tryz.func140 rfl (by simp [Tryz.ntmps140]; kernel_rfl) ?_
 simp only [vz, tyf, hnil, hb, List.map_nil, seval]
 refine nn (w := 1) (enc := eI) (xs := ([] : List Int)) (ys := xs) (el := some 3) (fun _ => rfl) fQ eV Tryz.underlying29 rfl hn (by rw [List.nil_append]; exact hr) ?_
 simp only [vz, tyf, List.nil_append, seval]
 refine ⟨rfl, .ref 5 0 xs.length 1 xs.length, by simp [Tryz.results140, resV, resL, av, upd], (aa eI xs).length + 1, 5, _, aa eI xs, ⟨_, rfl⟩, by simp only [bp, cO, seval] <;> rfl, u9 _ _ (eI_ok.treeL xs) (Nat.lt_succ_self _)⟩
def ExtOk (β y e : Nat) (mc : List VV) (mf : Nat) (ln lim : Nat) (may : List Int → Int → Option Bool) (I : Inv) (d : Nat) : Prop :=
 ∀ (p : List Int) (rest : List VV) (L : List (List Int)) (Fr : Nat → Prop) (H : Nat → Option VObj) (nx : Nat), p.length + d = ln → listsO may lim d p = some L → (∀ γ, Fr γ → γ < nx) → Fr y → Fr e → H y = some (.cells (some 184) [.yl β]) →
  H e = some (.cells (some 184) [.fn (.func 139) [] [.tp [.lit (.int .i64 ln)], .ptr y 0, .tp [.lit (.int .i64 lim)], .tp [.fn (.func mf) [] mc], .ptr e 0]]) →
  I (some (L.map (vx eI) ++ rest)) Fr H nx →
  aE Tryz.prog G0 139 [vx eI p, .tp [.lit (.int .i64 ln)], .ptr y 0, .tp [.lit (.int .i64 lim)], .tp [.fn (.func mf) [] mc], .ptr e 0] H nx
   (fun v H' nx' => ∃ b, v = .lit (.bool b) ∧ nx ≤ nx' ∧ (∀ γ, Fr γ → H' γ = H γ) ∧ I (if b then some rest else none) Fr H' nx') (fun _ _ _ => False)
theorem argsTm6 {a b c e f g : VV} : aQ [a, b, c, e, f, g] = upd (upd (upd (upd (upd (upd (fun _ => .lit undef) 0 a) 1 b) 2 c) 3 e) 4 f) 5 g := by
 funext t; rcases t with _ | _ | _ | _ | _ | _ | t <;> simp [aQ, upd]
theorem AR {P : Program} {t e : Nat} {H : Nat → Option VObj} (hu : P.underlying t = some (.slice e)) : ∀ {p : List Int}, vlen P H t (vx eI p) = some (.lit (.int .i64 p.length))
 | [] => by simp [vlen, vx, hu, sls]
 | _ :: _ => by simp [vlen, vx, hu, sls]
theorem Mk : ad Tryz.prog G0 140 [.lit (.slice none 0 0)] (.tree (.lit (.slice none 0 0))) := by
 have hnil : ∀ (H : Nat → Option VObj) (x y : Operand), binV Tryz.prog H .eql 29 x y (.lit (.slice none 0 0)) (.lit (.slice none 0 0)) = some (.lit (.bool true)) := fun H x y => by kernel_rfl
 refine ad.run mixed Tryz.call140 Tryz.func140 rfl (by simp [Tryz.ntmps140]; kernel_rfl) ?_
 simp only [vz, tyf, hnil, seval, ua]
 exact ⟨rfl, .lit (.slice none 0 0), by simp [Tryz.results140, resV, resL, av, upd], 1, rfl⟩
theorem Ml {β y e : Nat} {mc : List VV} {mf ln lim : Nat} {may : List Int → Int → Option Bool} {I : Inv} (hst : Stable I) (hr : Rounds Tryz.prog G0 β I) (htm : treeL mc = true) (AS : 0 < ln) (hln : ln < 1000) (hlim : lim < 1000000)
  (hm : ∀ (p : List Int) (j : Int) (b : Bool), may p j = some b → ad Tryz.prog G0 mf (.sl (aa eI p) p.length false :: .lit (.int .i64 j) :: mc) (.tree (.lit (.bool b)))) : ∀ d, ExtOk β y e mc mf ln lim may I d := by
 intro d
 induction d with
 | zero =>
  intro p rest L Fr H nx hd hL hF hFy hFe hy he hI
  simp only [listsO, Option.some.injEq] at hL
  subst hL
  refine aE.run mixed Tryz.call139 Tryz.func139 rfl (by simp [Tryz.ntmps139]; kernel_rfl) ?_
  have hl := fun H => AR (P := Tryz.prog) (H := H) Tryz.underlying29 (p := p)
  have hq : ((p.length : Int) == (ln : Int)) = true := by rw [show p.length = ln from hd]; simp
  simp only [argsTm6, vz, tyf, seval, ua, hl, hq, hy, rg]
  have fU : I (some (vx eI p :: rest)) Fr H (nx + 9) := hst _ _ _ _ _ _ _ hI (fun _ _ _ => rfl) (by omega) (fun γ h => .inl h)
  refine (hr (vx eI p) rest Fr H (nx + 9) (fun γ h => by have := hF γ h; omega) fU) (some none) _ _ _ rfl rfl ?_
  rintro b H' nx' ⟨h1, h2, h3⟩
  simp only [vz, tyf, seval, ua]
  exact bG (x := .lit (.bool b)) (by simp [Tryz.results139, resV, resL, av, upd]) ⟨b, rfl, by omega, h2, h3⟩
 | succ d ih =>
  intro p rest L Fr H nx hd hL hF hFy hFe hy he hI
  rw [listsO] at hL
  refine aE.run mixed Tryz.call139 Tryz.func139 rfl (by simp [Tryz.ntmps139]; kernel_rfl) ?_
  have hl := fun H => AR (P := Tryz.prog) (H := H) Tryz.underlying29 (p := p)
  have hq : ((p.length : Int) == (ln : Int)) = false := by rw [← hd]; simp; omega
  simp only [argsTm6, vz, tyf, seval, ua, hl, hq, hy, rg]
  obtain ⟨J, hJ⟩ : ∃ J : Nat → St → Prop, J = (fun m st => ∃ j : Nat, j + m = lim ∧ st.df = [] ∧ nx ≤ st.nx ∧ (∀ γ, Fr γ → st.H γ = H γ) ∧
   (∃ L, goL (listsO may lim d) may p (List.range' j m) = some L ∧ I (some (L.map (vx eI) ++ rest)) Fr st.H st.nx) ∧
   st.tm 0 = vx eI p ∧ st.tm 4 = .tp [.fn (.func mf) [] mc] ∧ st.tm 5 = .ptr e 0 ∧ st.tm 16 = .lit (.int .i64 lim) ∧ st.tm 17 = .lit (.int .i64 j)) := ⟨_, rfl⟩
  refine loopK mixed (by kernel_rfl) J lim (by rw [hJ]; refine ⟨0, by omega, rfl, ?_, fun _ _ => rfl, ⟨L, hL, hst _ _ _ _ _ _ _ hI (fun _ _ _ => rfl) ?_ (fun γ h => .inl h)⟩, ?_, ?_, ?_, ?_, ?_⟩ <;> first | rfl | (simp only; omega)) ?_
  rintro m ⟨tm, H1, bl, df⟩ hinv
  rw [hJ] at hinv
  obtain ⟨j, hj, hdf, hn, vM, ⟨L1, lD, qF⟩, e0, e4, e5, bu, bC⟩ := hinv
  simp only at hdf hn vM qF e0 e4 e5 bu bC
  subst hdf
  cases m with
  | zero =>
   have pC : decide ((j : Int) < (lim : Int)) = false := by simp; omega
   simp only [vz, tyf, seval, ua, bu, bC, pC]
   refine bG (x := .lit (.bool true)) (by simp [Tryz.results139, resV, resL, av, upd]) ⟨true, rfl, by omega, vM, ?_⟩
   simp only [List.range'_zero, goL, Option.some.injEq] at lD
   subst lD
   exact hst _ _ _ _ _ _ _ qF (fun _ _ _ => rfl) (by omega) (fun γ h => .inl h)
  | succ m =>
   have pC : decide ((j : Int) < (lim : Int)) = true := by simp; omega
   simp only [vz, tyf, seval, ua, bu, bC, pC, e0, e4, e5]
   refine sN (fun tm => tm 0 = vx eI p ∧ tm 4 = .tp [.fn (.func mf) [] mc] ∧ tm 5 = .ptr e 0 ∧ tm 8 = .lit (.int .i64 j) ∧ tm 16 = .lit (.int .i64 lim) ∧ tm 17 = .lit (.int .i64 j)) (by refine ⟨?_, ?_, ?_, ?_, ?_, ?_⟩ <;> simp only [ua, seval, e0, e4, e5, bu, bC]) ?_
   clear e0 e4 e5 bu bC tm
   rintro tm ⟨e0, e4, e5, e8, bu, bC⟩
   refine Sx mixed 11 rfl rfl rfl (by kernel_rfl) ?_
   rw [List.range'_succ] at lD
   unfold goL at lD
   rcases hmb : may p (j : Int) with _ | mb
   ·rw [hmb] at lD; cases lD
   rw [hmb, Option.bind_some] at lD
   have hmay' : ad Tryz.prog G0 mf (vx eI p :: .lit (.int .i64 j) :: mc) (.tree (.lit (.bool mb))) := ad.weaken (by
    rintro c W vs ⟨u, us, rfl, h1, h2⟩
    exact ⟨u, us, rfl, FY h1, h2⟩) (hm p j mb hmb)
   simp only [vz, tyf, seval, ua, e0, e4, e5, e8, bu, bC, rg]
   refine .inl ⟨by simp only [uX, FZ eI_ok, IX, htm, Bool.and_self], .tree _, hmay', ?_⟩
   have hw : i64.wrap ((j : Int) + 1) = ((j + 1 : Nat) : Int) := by rw [IntWalk.i64_in _ (by omega)]; simp
   have pE : H1 e = _ := (vM e hFe).trans he
   have CE : H1 y = _ := (vM y hFy).trans hy
   have hen : e < bl := Nat.lt_of_lt_of_le (hF e hFe) hn
   have hyn : y < bl := Nat.lt_of_lt_of_le (hF y hFy) hn
   cases mb with
   | false =>
    rw [cond_false] at lD
    simp only [vz, tyf, seval, ua, e0, e4, e5, e8, bu, bC, rg, hw]
    rw [hJ]
    exact ⟨m, Nat.lt_succ_self _, j + 1, by omega, rfl, (by show nx ≤ bl + 19; omega), vM, ⟨L1, lD, hst _ _ _ _ _ _ _ qF (fun _ _ _ => rfl) (by show bl ≤ bl + 19; omega) (fun γ h => .inl h)⟩, by simp only [ua, seval, e0], by simp only [ua, seval, e4], by simp only [ua, seval, e5], by simp only [ua, seval, bu], by simp only [ua, seval]⟩
   | true =>
    rw [cond_true] at lD
    rcases hLa : listsO may lim d (p ++ [(j : Int)]) with _ | La
    ·rw [hLa] at lD; cases lD
    rw [hLa, Option.bind_some] at lD
    rcases hLr : goL (listsO may lim d) may p (List.range' (j + 1) m) with _ | Lr
    ·rw [hLr] at lD; cases lD
    rw [hLr, Option.bind_some, Option.some.injEq] at lD
    subst lD
    rw [List.map_append, List.append_assoc] at qF
    have hv : vx eI (p ++ [(j : Int)]) = .sl (aa eI (p ++ [(j : Int)])) (p ++ [(j : Int)]).length false := uA (by simp)
    have hroom : aw 8 (p ++ [(j : Int)]).length = true := by
     unfold aw
     simp only [List.length_append, List.length_cons, List.length_nil, decide_eq_true_eq]
     omega
    simp only [vz, tyf, seval, ua, e0, e4, e5, e8, bu, bC, rg, pE]
    rcases hpc : p with _ | ⟨p0, pt⟩
    ·subst hpc
     refine .inl ⟨rfl, .tree _, Mk, ?_⟩
     simp only [vz, tyf, seval, ua, e0, e4, e5, e8, bu, bC, rg, pE]
     have hroom1 : aw 8 ([] ++ [(j : Int)]).length = true := rfl
     refine nk (w := 1) (enc := eI) (ys := [(j : Int)]) (mR := some 3) (fun _ => rfl) fQ eV Tryz.underlying29 (by simp only [ua, nm, seval]; rfl) (Nat.zero_lt_succ _) hroom1 ?_
     simp only [vz, tyf, seval, ua, nm, e0, e4, e5, e8, bu, bC, rg, pE]
     refine ja ⟨?_, ?_⟩
     ·simp only [iQ, iR, dy, iS, and_true, true_and]
      repeat' (first | exact trivial | refine And.intro ?_ ?_ | rw [dy] | rw [iT] | exact Or.inl (by decide +kernel) | exact Or.inl (by dsimp only; decide +kernel) | (refine Or.inr ⟨?_, ?_⟩ <;> simp; done) | (refine Or.inr ⟨?_, ?_⟩ <;> simp <;> omega) | (refine Or.inr ⟨?_, ?_⟩ <;> simp [VEff.wr] <;> omega))
     simp only [vz, tyf, seval, ua, e0, e4, e5, e8, bu, bC, rg, pE]
     refine kopen ?_
     rw [Dq]
     have hcell : (updH (updH H1 (bl + 12) (VObj.cells (some 3) [VV.lit (Value.int IntKind.i64 ↑j)])) (bl + 13) (VObj.cells (some 3) (aa eI ([] ++ [(j : Int)])))) (bl + 13) = some (.cells (some 3) (aa eI ([] ++ [(j : Int)]))) := by simp only [ua, seval]
     have hbig : ∀ γ, γ < bl → without (updH (updH H1 (bl + 12) (VObj.cells (some 3) [VV.lit (Value.int IntKind.i64 ↑j)])) (bl + 13) (VObj.cells (some 3) (aa eI ([] ++ [(j : Int)])))) (bl + 13) γ = H1 γ := by
      intro γ h
      simp only [updH, without]
      repeat rw [if_neg (by omega)]
     refine aE.mono (aE.freeze1 (γ := bl + 13) hcell (args' := [vx eI ([] ++ [(j : Int)]), .tp [.lit (.int .i64 ln)], .ptr y 0, .tp [.lit (.int .i64 lim)], .tp [.fn (.func mf) [] mc], .ptr e 0]) ⟨by rw [hv]; exact Frozen.own hcell (eI_ok.treeL _) (by rw [iH (w := 1) (fun _ => rfl)]), FrozenL.same⟩ (ih ([] ++ [(j : Int)]) _ La Fr _ _ (by simp at hd ⊢; omega) hLa (fun γ h => by have := hF γ h; omega) hFy hFe ((hbig y hyn).trans CE) ((hbig e hen).trans pE) (hst _ _ _ _ _ _ _ qF (fun γ h _ => hbig γ h) (by omega) (fun γ h => .inl h)))) ?_ (fun _ _ _ h => h.elim)
     rintro v H2 gW ⟨b, rfl, h1, h2, h3⟩
     have AT : ∀ γ, Fr γ → H2 γ = H γ := fun γ h => by rw [h2 γ h, hbig γ (Nat.lt_of_lt_of_le (hF γ h) hn), vM γ h]
     simp only [vz, tyf, seval, ua, e0, e4, e5, e8, bu, bC, rg, pE]
     cases b with
     | false =>
      simp only [vz, tyf, seval, ua, Bool.not_false]
      refine bG (x := .lit (.bool false)) (by simp [Tryz.results139, resV, resL, av, upd]) ⟨false, rfl, by omega, AT, ?_⟩
      exact hst _ _ _ _ _ _ _ h3 (fun _ _ _ => rfl) (by omega) (fun γ h => .inl h)
     | true =>
      simp only [vz, tyf, seval, ua, Bool.not_true, hw]
      simp only [if_true] at h3
      rw [hJ]
      exact ⟨m, Nat.lt_succ_self _, j + 1, by omega, rfl, (by show nx ≤ gW + 2; omega), AT, ⟨Lr, hLr, hst _ _ _ _ _ _ _ h3 (fun _ _ _ => rfl) (by show gW ≤ gW + 2; omega) (fun γ h => .inl h)⟩, by simp only [ua, seval, e0], by simp only [ua, seval, e4], by simp only [ua, seval, e5], by simp only [ua, seval, bu], by simp only [ua, seval]⟩
    rw [← hpc]
    have hne : p ≠ [] := by rw [hpc]; simp
    have hvp : vx eI p = .sl (aa eI p) p.length false := uA hne
    rw [hvp]
    have hcl : Dp p = some p := by
     unfold Dp
     have h1 : neB p = true := by rw [hpc]; rfl
     have h2 : aw 8 p.length = true := by
      unfold aw at hroom ⊢
      simp only [List.length_append, List.length_cons, List.length_nil, decide_eq_true_eq] at hroom ⊢
      omega
     rw [h1, h2]; rfl
    refine dkown (args0 := [.sl (aa eI p) p.length false]) (by first | (simp only [nrm, au]; done) | (simp only [nrm, au]; rfl) | rfl) (by simp only [tre, ar, Bool.and_self]) (XD _ _ hcl) ?_
    simp only [vz, tyf, seval, ua, e0, e4, e5, e8, bu, bC, rg, pE]
    refine k_app (w := 1) (enc := eI) (xs := p) (ys := [(j : Int)]) (el := none) (mR := some 3) (fun _ => rfl) fQ eV Tryz.underlying29 (by simp only [ua, nm, seval]) (by simp only [ua, nm, seval]; rfl) (Nat.zero_lt_succ _) hroom ?_
    simp only [vz, tyf, seval, ua, nm, e0, e4, e5, e8, bu, bC, rg, pE]
    refine ja ⟨?_, ?_⟩
    ·simp only [iQ, iR, dy, iS, and_true, true_and]
     repeat' (first | exact trivial | refine And.intro ?_ ?_ | rw [dy] | rw [iT] | exact Or.inl (by decide +kernel) | exact Or.inl (by dsimp only; decide +kernel) | (refine Or.inr ⟨?_, ?_⟩ <;> simp; done) | (refine Or.inr ⟨?_, ?_⟩ <;> simp <;> omega) | (refine Or.inr ⟨?_, ?_⟩ <;> simp [VEff.wr] <;> omega))
    simp only [vz, tyf, seval, ua, e0, e4, e5, e8, bu, bC, rg, pE]
    refine kopen ?_
    rw [Dq]
    have hcell : (updH (without (updH (updH H1 (bl + 10) (VObj.cells none (aa eI p))) (bl + 12) (VObj.cells (some 3) [VV.lit (Value.int IntKind.i64 ↑j)])) (bl + 10)) (bl + 13) (VObj.cells (sameEl none 3) (aa eI (p ++ [(j : Int)])))) (bl + 13) = some (.cells (sameEl none 3) (aa eI (p ++ [(j : Int)]))) := by simp only [ua, seval]
    have hbig : ∀ γ, γ < bl → without (updH (without (updH (updH H1 (bl + 10) (VObj.cells none (aa eI p))) (bl + 12) (VObj.cells (some 3) [VV.lit (Value.int IntKind.i64 ↑j)])) (bl + 10)) (bl + 13) (VObj.cells (sameEl none 3) (aa eI (p ++ [(j : Int)])))) (bl + 13) γ = H1 γ := by
     intro γ h
     simp only [updH, without]
     repeat rw [if_neg (by omega)]
    refine aE.mono (aE.freeze1 (γ := bl + 13) hcell (args' := [vx eI (p ++ [(j : Int)]), .tp [.lit (.int .i64 ln)], .ptr y 0, .tp [.lit (.int .i64 lim)], .tp [.fn (.func mf) [] mc], .ptr e 0]) ⟨by rw [hv]; exact Frozen.own hcell (eI_ok.treeL _) (by rw [iH (w := 1) (fun _ => rfl)]), FrozenL.same⟩ (ih (p ++ [(j : Int)]) _ La Fr _ _ (by simp; omega) hLa (fun γ h => by have := hF γ h; omega) hFy hFe ((hbig y hyn).trans CE) ((hbig e hen).trans pE) (hst _ _ _ _ _ _ _ qF (fun γ h _ => hbig γ h) (by omega) (fun γ h => .inl h)))) ?_ (fun _ _ _ h => h.elim)
    rintro v H2 gW ⟨b, rfl, h1, h2, h3⟩
    have AT : ∀ γ, Fr γ → H2 γ = H γ := fun γ h => by rw [h2 γ h, hbig γ (Nat.lt_of_lt_of_le (hF γ h) hn), vM γ h]
    simp only [vz, tyf, seval, ua, e0, e4, e5, e8, bu, bC, rg, pE]
    cases b with
    | false =>
     simp only [vz, tyf, seval, ua, Bool.not_false]
     refine bG (x := .lit (.bool false)) (by simp [Tryz.results139, resV, resL, av, upd]) ⟨false, rfl, by omega, AT, ?_⟩
     exact hst _ _ _ _ _ _ _ h3 (fun _ _ _ => rfl) (by omega) (fun γ h => .inl h)
    | true =>
     simp only [vz, tyf, seval, ua, Bool.not_true, hw]
     simp only [if_true] at h3
     rw [hJ]
     exact ⟨m, Nat.lt_succ_self _, j + 1, by omega, rfl, (by show nx ≤ gW + 2; omega), AT, ⟨Lr, hLr, hst _ _ _ _ _ _ _ h3 (fun _ _ _ => rfl) (by show gW ≤ gW + 2; omega) (fun γ h => .inl h)⟩, by simp only [ua, seval, e0], by simp only [ua, seval, e4], by simp only [ua, seval, e5], by simp only [ua, seval, bu], by simp only [ua, seval]⟩
theorem Sw {mc : List VV} {mf ln lim : Nat} {may : List Int → Int → Option Bool} {L : List (List Int)} (htm : treeL mc = true) (AS : 0 < ln) (hln : ln < 1000) (hlim : lim < 1000000)
  (hL : listsO may lim ln [] = some L) (hm : ∀ (p : List Int) (j : Int) (b : Bool), may p j = some b → ad Tryz.prog G0 mf (.sl (aa eI p) p.length false :: .lit (.int .i64 j) :: mc) (.tree (.lit (.bool b)))) :
  Iter Tryz.prog G0 (.fn (.func 138) [] [.tp [.lit (.int .i64 ln)], .tp [.lit (.int .i64 lim)], .tp [.fn (.func mf) [] mc]]) (L.map sI) := by
 rw [← Gb (fun q hq hn => by have := Rn _ _ _ hL q hq; rw [hn] at this; simp at this; omega)]
 refine ⟨138, [], _, rfl, fun β I hst hr H nx hβ hI => ?_⟩
 refine aE.run mixed Tryz.call138 Tryz.func138 rfl (by simp [Tryz.ntmps138]; kernel_rfl) ?_
 simp only [List.nil_append, List.cons_append, argsTm4, vz, tyf, seval, ua, rg]
 refine kopen ?_
 rw [Dq]
 refine aE.mono (Ml hst hr htm AS hln hlim hm ln [] [] L (fun γ => γ = nx + 0 ∨ γ = nx + 1) _ _ (by simp) hL (by rintro γ (rfl | rfl) <;> omega) (.inl rfl) (.inr rfl) (by simp [updH]) (by simp [updH]) ?_) ?_ (fun _ _ _ h => h.elim)
 ·rw [List.append_nil]
  refine hst _ _ _ _ _ _ _ hI ?_ (by omega) (by rintro γ (rfl | rfl) <;> right <;> omega)
  intro γ h _
  simp only [updH]
  repeat rw [if_neg (by omega)]
 rintro v H2 gW ⟨b, rfl, h1, h2, h3⟩
 simp only [vz, tyf, seval, ua]
 refine ym (x := .tup []) (by simp [Tryz.results138, resV, resL]) ?_
 replace h3 := hst _ _ noFr _ _ _ _ h3 (fun _ _ _ => rfl) (Nat.le_refl _) (fun γ h => h.elim)
 cases b with
 | true => exact .inl h3
 | false => exact .inr h3
def qf (bR : List Int) (dF : Int) (ia : Int) (kh : Int) : Option (Bool) := Option.bind (wI bR) (fun r1 => cond ((i64.wrap ((i64.wrap (ia - r1)) - dF)) == 0) (some true) (cond (decide ((i64.wrap ((i64.wrap (ia - r1)) - dF)) > 0)) (some (decide ((List.length bR : Int) < (i64.wrap (kh - 1))))) (some false)))
theorem XE (bR : List Int) (dF : Int) (ia : Int) (kh : Int) (R : Bool) (h : qf bR dF ia kh = some R) : ad Tryz.prog G0 127 [.sl (aa eI bR) (List.length bR) false, .lit (.int .i64 dF), .tp ([.lit (.int .i64 ia)]), .tp ([.lit (.int .i64 kh)])] (.tree (.lit (.bool R))) := by
 refine ad.runR mixed Tryz.call127 Tryz.func127 rfl (by simp [Tryz.ntmps127]; kernel_rfl) ?_
 obtain ⟨KF, h, kF, kN⟩ := dp h
 simp only [qf] at h
 simp only [vz, tyf, nm, seval]
 refine mN (fun tm => tm 0 = .sl (aa eI bR) (List.length bR) false ∧ tm 1 = .lit (.int .i64 dF) ∧ tm 2 = .tp ([.lit (.int .i64 ia)]) ∧ tm 3 = .tp ([.lit (.int .i64 kh)]) ∧ True) (by refine ⟨?_, ?_, ?_, ?_, trivial⟩ <;> first | (simp only [ua, nm, seval] <;> rfl) | rfl) ?_
 rintro tm ⟨e2, e3, e4, e5, _⟩
 obtain ⟨r6, o7, h⟩ := optI h kN
 try simp only [hs] at h
 simp only [vz, tyf, e2, e3, e4, e5, nm, seval]
 refine dktA (QM _ _ o7) ?_
 refine aZ (fun tm => tm 0 = .sl (aa eI bR) (List.length bR) false ∧ tm 1 = .lit (.int .i64 dF) ∧ tm 3 = .tp ([.lit (.int .i64 kh)]) ∧ tm 8 = .lit (.int .i64 ia) ∧ tm 10 = .lit (.int .i64 r6) ∧ True) (by refine ⟨e2, e3, e5, ?_, ?_, trivial⟩ <;> first | (simp only [ua, e2, e3, e4, e5, nm, seval] <;> rfl) | rfl) ?_
 rintro tm ⟨e8, e9, bm, bg, aW, _⟩
 cases cn : ((i64.wrap ((i64.wrap (ia - r6)) - dF)) == 0)
 ·simp only [cn, hs] at h
  cases cT : (decide ((i64.wrap ((i64.wrap (ia - r6)) - dF)) > 0))
  ·simp only [cT, hs] at h
   try simp only [vz, tyf, e8, e9, bm, bg, aW, cn, cT, nm, seval]
   obtain rfl := kF _ h
   exact bB Tryz.results127 rfl
  simp only [cT, hs] at h
  try simp only [vz, tyf, e8, e9, bm, bg, aW, cn, cT, nm, seval]
  obtain rfl := kF _ h
  exact bB Tryz.results127 rfl
 simp only [cn, hs] at h
 try simp only [vz, tyf, e8, e9, bm, bg, aW, cn, nm, seval]
 obtain rfl := kF _ h
 exact bB Tryz.results127 rfl
theorem Ai {mc : List VV} {mf : Nat} {ln lim : Int} (htm : treeL mc = true) : ad Tryz.prog G0 125 [.lit (.int .i64 ln), .lit (.int .i64 lim), .fn (.func mf) [] mc] (.tree (.fn (.func 138) [] [.tp [.lit (.int .i64 ln)], .tp [.lit (.int .i64 lim)], .tp [.fn (.func mf) [] mc]])) := by
 refine ad.run mixed Tryz.call125 Tryz.func125 rfl (by simp [Tryz.ntmps125]; kernel_rfl) ?_
 simp only [vz, tyf, seval, ua, rg]
 refine ⟨rfl, .fn (.func 138) [] [.ptr 0 0, .ptr 1 0, .ptr 2 0], by simp [Tryz.results125, resV, resL, av, upd], 20, ?_⟩
 simp [sealV, sealL, VV.tree, treeL, updH, htm]
def mayC (t p : Int) : List VV := [.tp [.lit (.int .i64 p)], .tp [.lit (.int .i64 t)]]
theorem AU {t p : Int} : treeL (mayC t p) = true := rfl
def itM (t p : Int) : VV := .fn (.func 138) [] [.tp [.lit (.int .i64 t)], .tp [.lit (.int .i64 (i64.wrap (p + 1)))], .tp [.fn (.func 127) [] (mayC t p)]]
theorem Mm (t p : Int) : ad Tryz.prog G0 110 [.lit (.int .i64 t), .lit (.int .i64 p)] (.tree (itM t p)) := by
 refine ad.run mixed Tryz.call110 Tryz.func110 rfl (by simp [Tryz.ntmps110]; kernel_rfl) ?_
 simp only [vz, tyf, seval, ua, rg]
 refine kopen ?_
 rw [Dq]
 refine aE.mono (aE.freezeN [1, 0] ?_ (args' := [.lit (.int .i64 t), .lit (.int .i64 (i64.wrap (p + 1))), .fn (.func 127) [] (mayC t p)]) ⟨.same, .same, Frozen.closure [(1, [.lit (.int .i64 p)]), (0, [.lit (.int .i64 t)])] 20 (by simp) ?_, trivial⟩ (aE.of_pure (Ai AU) rfl)) ?_ (fun _ _ _ h => h.elim)
 ·intro γ hγ
  rcases List.mem_cons.1 hγ with rfl | hγ
  ·exact ⟨some 3, [.lit (.int .i64 p)], by simp [updH]⟩
  rw [List.mem_singleton.1 hγ]
  exact ⟨some 3, [.lit (.int .i64 t)], by simp [updH]⟩
 ·intro q hq
  rcases List.mem_cons.1 hq with rfl | hq
  ·exact ⟨⟨some 3, by simp [updH]⟩, by simp [lessN], rfl, by simp⟩
  rw [List.mem_singleton.1 hq]
  exact ⟨⟨some 3, by simp [updH]⟩, by simp [lessN], rfl, by simp⟩
 rintro v H2 gW ⟨rfl, rfl, rfl⟩
 simp only [vz, tyf, seval, ua]
 refine ⟨rfl, itM t p, by simp [Tryz.results110, resV, resL, av, upd]; rfl, 2, ?_⟩
 simp [sealV, itM, VV.tree, treeL, mayC]
def smallOk (n m : Int) : Bool := decide (0 < n) && (decide (n < 1000) && (decide (0 ≤ m) && decide (m < 999999)))
def wU (t p : Int) : Option (List (List Int)) := cond (smallOk t p) (listsO (fun l j => qf l j p t) (p + 1).toNat t.toNat []) none
theorem Mn (t p : Int) (R : List (List Int)) (h : wU t p = some R) : ad Tryz.prog G0 110 [.lit (.int .i64 t), .lit (.int .i64 p)] (.tree (itM t p)) ∧ Iter Tryz.prog G0 (itM t p) (R.map sI) := by
 refine ⟨Mm t p, ?_⟩
 unfold wU at h
 cases hs : smallOk t p with
 | false => rw [hs] at h; cases h
 | true =>
 rw [hs, cond_true] at h
 simp only [smallOk, Bool.and_eq_true, decide_eq_true_eq] at hs
 obtain ⟨h1, h2, h3, h4⟩ := hs
 obtain ⟨n, rfl⟩ : ∃ n : Nat, t = n := ⟨t.toNat, by omega⟩
 obtain ⟨m, rfl⟩ : ∃ m : Nat, p = m := ⟨p.toNat, by omega⟩
 have e1 : i64.wrap ((m : Int) + 1) = ((m + 1 : Nat) : Int) := by rw [IntWalk.i64_in _ (by omega)]; simp
 have e2 : ((m : Int) + 1).toNat = m + 1 := by omega
 have e3 : ((n : Int)).toNat = n := by omega
 unfold itM
 rw [e2, e3] at h
 rw [e1]
 exact Sw AU (by omega) (by omega) (by omega) h (fun l j b hb => XE l j m n b hb)
abbrev sM (x : Gm) : VV := .agg (cGm x)
def mixtO (s : Gs) : Nat → Nat → Option (List Gm)
 | 0, _ => some []
 | k + 1, c => Option.bind (wU (List.length s.Tins) ((c + 1 : Nat) : Int)) fun L => Option.bind (mixtO s k (c + 1)) fun r => some (L.map (Gm.mk s) ++ r)
def sS (s : Gs) : Option (List Gm) := mixtO s 8 0
def itX (s : Gs) : VV := .fn (.func 109) [] [.tp (cGs s)]
theorem tn {s : Gs} : (itX s).tree = true := by
 have h : treeL (cGs s) = true := lX.tree s
 simp [itX, VV.tree, treeL, h]
theorem Mo {H : Nat → Option VObj} {f : FuncId} {el : Option TypeId} {cs : List VV} (hH : H 0 = some (.cells el cs)) (h : treeL cs = true) (hl : cs.length < 40) : sealV H 50 (.fn (.func f) [] [.ptr 0 0]) = some (.fn (.func f) [] [.tp cs]) := by
 have e0 : (VV.ptr 0 0).tree = false := rfl
 have e : sealV H 48 (.ptr 0 0) = some (.tp cs) := by
  show sealV H (47 + 1) _ = _
  simp only [sealV, e0, hH, Nat.zero_le, if_true, List.drop_zero]
  rw [u9 _ 47 h (by omega)]
  rfl
 have e1 : sealL H 49 [.ptr 0 0] = some [.tp cs] := by
  show sealL H (48 + 1) _ = _
  simp only [sealL, e]
 have e2 : sealL H 49 [] = some [] := by
  show sealL H (48 + 1) _ = _
  simp only [sealL]
 show sealV H (49 + 1) _ = _
 have e3 : (VV.fn (.func f) [] [.ptr 0 0]).tree = false := rfl
 simp only [sealV, e3, e1, e2]
 rfl
theorem HM (s : Gs) : ad Tryz.prog G0 79 [.agg (cGs s)] (.tree (itX s)) := by
 refine ad.run mixed Tryz.call79 Tryz.func79 rfl (by simp [Tryz.ntmps79]; kernel_rfl) ?_
 simp only [vz, tyf, seval, ua, rg]
 refine ⟨rfl, .fn (.func 109) [] [.ptr 0 0], by simp [Tryz.results79, resV, resL, av, upd], 50, ?_⟩
 have h : treeL (cGs s) = true := lX.tree s
 exact Mo (cs := cGs s) (el := some 28) (by simp only [bp, seval] <;> rfl) h (by simp [cGs])
theorem Te {P : Program} {G : Glob} {fn : Func} {R Rp : VV → (Nat → Option VObj) → Nat → Prop} {tm : Nat → VV} {nx : Nat} : ∀ (ds : List Nat) (H : Nat → Option VObj), ds.Nodup → (∀ d ∈ ds, H d = some (.deferred (some []))) → (∀ H2, (∀ γ, γ ∉ ds → H2 γ = H γ) → OpenPostD P G fn R Rp .normal ⟨tm, H2, nx, []⟩) → OpenPostD P G fn R Rp .normal ⟨tm, H, nx, ds.map VDef.coll⟩
 | [], H, _, _, h => h H fun _ _ => rfl
 | d :: ds, H, hn, hd, h => by
  rw [List.nodup_cons] at hn
  refine HK (hd d (List.mem_cons_self ..)) (Te ds _ hn.2 (fun e he => ?_) fun H2 h2 => h H2 fun γ hγ => ?_)
  ·have hne : e ≠ d := fun hh => hn.1 (hh ▸ he)
   simp only [updH]
   rw [if_neg hne]
   exact hd e (List.mem_cons_of_mem _ he)
  ·simp only [List.mem_cons, not_or] at hγ
   rw [h2 γ hγ.2]
   simp only [updH]
   rw [if_neg hγ.1]
theorem Tf {P : Program} {G : Glob} {fn : Func} {R Rp : VV → (Nat → Option VObj) → Nat → Prop} {tm : Nat → VV} {nx : Nat} : ∀ (ds : List Nat) (H : Nat → Option VObj), ds.Nodup → (∀ d ∈ ds, H d = some (.deferred (some []))) → (∀ H2, (∀ γ, γ ∉ ds → H2 γ = H γ) → OpenPostD P G fn R Rp .ret ⟨tm, H2, nx, []⟩) → OpenPostD P G fn R Rp .ret ⟨tm, H, nx, ds.map VDef.coll⟩
 | [], H, _, _, h => h H fun _ _ => rfl
 | d :: ds, H, hn, hd, h => by
  rw [List.nodup_cons] at hn
  refine oc (hd d (List.mem_cons_self ..)) (Tf ds _ hn.2 (fun e he => ?_) fun H2 h2 => h H2 fun γ hγ => ?_)
  ·have hne : e ≠ d := fun hh => hn.1 (hh ▸ he)
   simp only [updH]
   rw [if_neg hne]
   exact hd e (List.mem_cons_of_mem _ he)
  ·simp only [List.mem_cons, not_or] at hγ
   rw [h2 γ hγ.2]
   simp only [updH]
   rw [if_neg hγ.1]
theorem AV {Fr : Nat → Prop} {H : Nat → Option VObj} {nx : Nat} {ds : List Nat} (h : ∀ d ∈ ds, d < nx ∧ ¬ Fr d ∧ H d = some (.deferred (some []))) : Own (ds.map fun d => (d, VObj.deferred (some []))) Fr H nx := by
 intro q hq
 obtain ⟨d, hd, rfl⟩ := List.mem_map.1 hq
 exact h d hd
theorem vN {Fr : Nat → Prop} {H : Nat → Option VObj} {nx : Nat} {ds : List Nat} (h : Own (ds.map fun d => (d, VObj.deferred (some []))) Fr H nx) : ∀ d ∈ ds, d < nx ∧ ¬ Fr d ∧ H d = some (.deferred (some [])) := fun d hd => h (d, _) (List.mem_map.2 ⟨d, hd, rfl⟩)
theorem HL (s : Gs) (R : List Gm) (h : sS s = some R) : Iter Tryz.prog G0 (itX s) (R.map sM) := by
 refine ⟨109, [], _, rfl, fun β I hst hr H nx hβ hI => ?_⟩
 refine aE.run mixed Tryz.call109 Tryz.func109 rfl (by simp [Tryz.ntmps109]; kernel_rfl) ?_
 simp only [List.nil_append, List.cons_append, argsTm2, vz, tyf, seval, ua, rg]
 obtain ⟨J0, Mp⟩ : ∃ J : Nat → St → Prop, J = (fun m st => ∃ (c : Nat) (ds : List Nat), c + m = 8 ∧ st.df = ds.map VDef.coll ∧ ds.Nodup ∧ (∀ d ∈ ds, nx < d ∧ d < st.nx ∧ st.H d = some (.deferred (some []))) ∧ nx < st.nx ∧ st.H nx = some (.cells (some 144) [.yl β]) ∧
   st.tm 1 = .tp (cGs s) ∧ st.tm 2 = .ptr nx 0 ∧ st.tm 5 = .lit (.int .i64 (c : Int)) ∧ ∃ L, mixtO s m c = some L ∧ I (some (L.map sM)) (fun γ => γ = nx ∨ γ ∈ ds) st.H st.nx) := ⟨_, rfl⟩
 refine loopK mixed (by kernel_rfl) J0 8 (by
  rw [Mp]
  refine ⟨0, [], rfl, rfl, List.nodup_nil, fun d hd => (by cases hd), (by show nx < nx + 2; omega), ?_, ?_, ?_, ?_, R, h, ?_⟩
  ·simp [updH]
  ·rfl
  ·rfl
  ·rfl
  ·refine hst _ _ _ _ _ _ _ hI ?_ (by show nx ≤ nx + 2; omega) ?_
   ·intro γ hγ _
    simp only [updH]
    rw [if_neg (by omega)]
   ·rintro γ (rfl | hγ)
    ·right; show γ ≤ γ ∧ γ < γ + 2; omega
    ·cases hγ) ?_
 rintro m ⟨tm, H1, bl, df⟩ hinv
 rw [Mp] at hinv
 obtain ⟨c, ds, hc, hdf, hnd, hds, hnx, Hy, e1, e2, e5, L, hL, qF⟩ := hinv
 simp only at hdf hds hnx Hy e1 e2 e5 qF
 subst hdf
 cases m with
 | zero =>
  have pC : decide ((c : Int) < 8) = false := by simp; omega
  simp only [vz, tyf, seval, ua, e5, pC]
  refine Te ds _ hnd (fun d hd => (hds d hd).2.2) fun H2 h2 => ?_
  refine ym (x := .tup []) (by simp [Tryz.results109, resV, resL]) (.inl ?_)
  simp only [mixtO, Option.some.injEq] at hL
  subst hL
  refine hst _ _ _ _ _ _ _ qF ?_ (by show bl ≤ bl + 1; omega) (fun γ h => h.elim)
  intro γ _ hn
  exact h2 γ fun hh => hn (.inr hh)
 | succ m =>
  have pC : decide ((c : Int) < 8) = true := by simp; omega
  have hw : i64.wrap ((c : Int) + 1) = ((c + 1 : Nat) : Int) := by rw [IntWalk.i64_in _ (by omega)]; simp
  rw [mixtO] at hL
  rcases hLa : wU (List.length s.Tins) ((c + 1 : Nat) : Int) with _ | La
  ·rw [hLa] at hL; cases hL
  rw [hLa, Option.bind_some] at hL
  rcases hLr : mixtO s m (c + 1) with _ | Lr
  ·rw [hLr] at hL; cases hL
  rw [hLr, Option.bind_some, Option.some.injEq] at hL
  subst hL
  obtain ⟨hp, hi⟩ := Mn _ _ _ hLa
  simp only [vz, tyf, seval, ua, e1, e2, e5, pC, hw]
  refine ktA hp ?_
  simp only [vz, tyf, seval, ua, rg]
  refine sN (fun tm => tm 13 = itM (List.length s.Tins) ((c + 1 : Nat) : Int) ∧ tm 1 = .tp (cGs s) ∧ tm 2 = .ptr nx 0 ∧ tm 5 = .lit (.int .i64 (c : Int))) (by refine ⟨?_, ?_, ?_, ?_⟩ <;> simp only [ua, seval, e1, e2, e5] <;> rfl) ?_
  clear e1 e2 e5 tm
  rintro tm ⟨ba, e1, e2, e5⟩
  refine sU hi (by first | (simp only [nN, nO, ba, nh, seval] <;> rfl) | rfl) ?_
  intro LO hLO
  obtain ⟨xK, nG⟩ : ∃ xK : List (Nat × VObj), xK = (nx, VObj.cells (some 144) [.yl β]) :: ds.map (fun d => (d, VObj.deferred (some []))) := ⟨_, rfl⟩
  obtain ⟨J, hJ⟩ : ∃ J : Option (List VV) → Option (List VV) → List (Nat × VObj) → Prop, J = (fun o o' hp => match o with
   | some l => ∃ p : List (List Int), l = p.map sI ∧ o' = some ((p.map (Gm.mk s) ++ Lr).map sM) ∧ hp = (bl + 9, .deferred (some [])) :: (bl + 10, LO) :: xK
   | none => ∃ LD : Code → VObj, (∃ tml ps az bo d, LD = fun c => VObj.loop .done (some c) tml ps az bo d) ∧ o' = none ∧ hp = (bl + 9, .deferred (some [])) :: (bl + 10, LD .ret) :: xK) := ⟨_, rfl⟩
  have hfr : ∀ (O : VObj) γ, (∃ q ∈ (bl + 9, VObj.deferred (some [])) :: (bl + 10, O) :: xK, (q : Nat × VObj).1 = γ) ↔ γ = bl + 9 ∨ γ = bl + 10 ∨ γ = nx ∨ γ ∈ ds := by
   intro O γ
   rw [nG]
   constructor
   ·rintro ⟨q, hq, rfl⟩
    simp only [List.mem_cons, List.mem_map] at hq
    rcases hq with rfl | rfl | rfl | ⟨d, hd, rfl⟩
    ·exact .inl rfl
    ·exact .inr (.inl rfl)
    ·exact .inr (.inr (.inl rfl))
    ·exact .inr (.inr (.inr hd))
   ·rintro (rfl | rfl | rfl | hd)
    ·exact ⟨_, List.mem_cons_self .., rfl⟩
    ·exact ⟨_, List.mem_cons_of_mem _ (List.mem_cons_self ..), rfl⟩
    ·exact ⟨_, List.mem_cons_of_mem _ (List.mem_cons_of_mem _ (List.mem_cons_self ..)), rfl⟩
    ·exact ⟨(γ, _), List.mem_cons_of_mem _ (List.mem_cons_of_mem _ (List.mem_cons_of_mem _ (List.mem_map.2 ⟨γ, hd, rfl⟩))), rfl⟩
  refine ⟨ownI2 I J, FU hst, ?_, ?_, ?_⟩
  ·rintro v rest Fr H2 gW hFr ⟨hp, o', hown, hj, hi⟩
   rw [hJ] at hj
   obtain ⟨p, hl, rfl, rfl⟩ := hj
   cases p with
   | nil => cases hl
   | cons e p =>
   simp only [List.map_cons, List.cons.injEq] at hl
   obtain ⟨rfl, rfl⟩ := hl
   obtain ⟨la, na, Ha⟩ := hown.head
   obtain ⟨lb, nb, Hb⟩ := hown.tail.head
   have hown0 := hown.tail.tail
   rw [nG] at hown0
   obtain ⟨lc, nc, Hc⟩ := hown0.head
   have hod := vN hown0.tail
   simp only [hfr] at hi
   refine sT mixed (psl := [14]) hLO Hb tf rfl (by kernel_rfl) (by kernel_rfl) ?_
   intro LB LD hLB hLD
   refine tg (fun tm => tm 14 = sI e ∧ tm 1 = .tp (cGs s) ∧ tm 2 = .ptr nx 0) (by refine ⟨?_, ?_, ?_⟩ <;> simp only [th, tk, Tryz.ntmps109, e1, e2, seval]) ?_
   clear ba e1 e2 e5
   rintro tm ⟨bj, e1, e2⟩
   have hne : (nx = bl + 10) = False := by simp; omega
   simp only [vz, tyf, seval, ua, nm, rg, RStart, bj, e1, e2, Hb, Hc, hne]
   have KP : I (some (sM (Gm.mk s e) :: (p.map (Gm.mk s) ++ Lr).map sM)) (fun γ => Fr γ ∨ γ = bl + 9 ∨ γ = bl + 10 ∨ γ = nx ∨ γ ∈ ds) (updH H2 (bl + 10) LB) (gW + 7) := by
    refine hst _ _ _ _ _ _ _ hi ?_ (by omega) (fun γ h => .inl h)
    intro γ _ hn
    have g3 : γ ≠ bl + 10 := fun e => hn (.inr (.inr (.inl e)))
    simp only [updH]
    rw [if_neg g3]
   refine (hr (sM (Gm.mk s e)) ((p.map (Gm.mk s) ++ Lr).map sM) _ _ _ ?_ KP) (some (some (bl + 10))) _ _ _ rfl rfl ?_
   ·rintro γ (hγ | rfl | rfl | rfl | hγ)
    ·have := hFr γ hγ; omega
    ·omega
    ·omega
    ·omega
    ·have := (hod γ hγ).1; omega
   rintro b H3 iW ⟨q1, q2, q3⟩
   have Ka : H3 (bl + 9) = some (.deferred (some [])) := by
    rw [q2 _ (.inr (.inl rfl))]
    simp only [updH]
    rw [if_neg (by omega)]
    exact Ha
   have Kb : H3 (bl + 10) = some LB := by
    rw [q2 _ (.inr (.inr (.inl rfl)))]
    simp only [bp, seval]
   have Kc : H3 nx = some (.cells (some 144) [.yl β]) := by
    rw [q2 nx (.inr (.inr (.inr (.inl rfl))))]
    simp only [updH]
    rw [if_neg (by omega)]
    exact Hc
   have Kd : ∀ d ∈ ds, H3 d = some (.deferred (some [])) := by
    intro d hd
    have := hds d hd
    rw [q2 d (.inr (.inr (.inr (.inr hd))))]
    simp only [updH]
    rw [if_neg (by omega)]
    exact (hod d hd).2.2
   have KF : ∀ γ, Fr γ → H3 γ = H2 γ := by
    intro γ hγ
    have g3 : γ ≠ bl + 10 := fun e => nb (e ▸ hγ)
    rw [q2 γ (.inl hγ)]
    simp only [updH]
    rw [if_neg g3]
   have KO : ∀ (O : VObj), Own ((bl + 9, .deferred (some [])) :: (bl + 10, O) :: xK) Fr (updH H3 (bl + 10) O) iW := by
    intro O
    refine Own.cons (show bl + 9 < iW by omega) na ?_ (Own.cons (show bl + 10 < iW by omega) nb ?_ ?_)
    ·simp only [updH]
     rw [if_neg (by omega)]
     exact Ka
    ·simp only [bp, seval]
    ·rw [nG]
     refine Own.cons (show nx < iW by omega) nc ?_ (AV fun d hd => ⟨?_, (hod d hd).2.1, ?_⟩)
     ·simp only [updH]
      rw [if_neg (by omega)]
      exact Kc
     ·have := (hod d hd).1; omega
     ·have := hds d hd
      simp only [updH]
      rw [if_neg (by omega)]
      exact Kd d hd
   cases b with
   | true =>
    simp only [vz, tyf, seval, ua, nm, rg, Bool.not_true]
    refine ⟨Kb, (show gW ≤ iW by omega), fun γ hγ => ?_, ?_⟩
    ·have g3 : γ ≠ bl + 10 := fun e => nb (e ▸ hγ)
     simp only [updH]
     rw [if_neg g3]
     exact KF γ hγ
    ·simp only [if_true] at q3 ⊢
     refine ⟨_, _, KO LO, by rw [hJ]; exact ⟨p, rfl, rfl, rfl⟩, ?_⟩
     simp only [hfr]
     refine hst _ _ _ _ _ _ _ q3 ?_ (by omega) (fun γ h => .inl h)
     intro γ _ hn
     have g3 : γ ≠ bl + 10 := fun e => hn (.inr (.inr (.inl e)))
     simp only [updH]
     rw [if_neg g3]
   | false =>
    simp only [vz, tyf, seval, ua, nm, rg, Bool.not_false]
    refine ⟨Kb, (show gW ≤ iW by omega), fun γ hγ => ?_, ?_⟩
    ·have g3 : γ ≠ bl + 10 := fun e => nb (e ▸ hγ)
     simp only [updH]
     rw [if_neg g3]
     exact KF γ hγ
    ·simp only [Bool.false_eq_true, if_false] at q3 ⊢
     refine ⟨_, _, KO (LD .ret), by rw [hJ]; exact ⟨LD, ⟨_, _, _, _, _, hLD⟩, rfl, rfl⟩, ?_⟩
     simp only [hfr]
     refine hst _ _ _ _ _ _ _ q3 ?_ (by omega) (fun γ h => .inl h)
     intro γ _ hn
     have g3 : γ ≠ bl + 10 := fun e => hn (.inr (.inr (.inl e)))
     simp only [updH]
     rw [if_neg g3]
  ·refine ⟨_, _, ?_, by rw [hJ]; exact ⟨La, rfl, rfl, rfl⟩, ?_⟩
   ·refine Own.cons (show bl + 9 < bl + 9 + 2 by omega) (fun h => h) ?_ (Own.cons (show bl + 10 < bl + 9 + 2 by omega) (fun h => h) ?_ ?_)
    ·simp only [updH]
     rw [if_neg (by omega)]
     simp
    ·simp only [updH]
     simp
    ·rw [nG]
     refine Own.cons (show nx < bl + 9 + 2 by omega) (fun h => h) ?_ (AV fun d hd => ⟨?_, fun h => h, ?_⟩)
     ·simp only [updH]
      rw [if_neg (by omega), if_neg (by omega)]
      exact Hy
     ·have := (hds d hd).2.1; omega
     ·have := hds d hd
      simp only [updH]
      rw [if_neg (by omega), if_neg (by omega)]
      exact this.2.2
   ·simp only [hfr]
    refine hst _ _ _ _ _ _ _ qF ?_ (by omega) ?_
    ·intro γ hγ _
     simp only [updH]
     rw [if_neg (by omega), if_neg (by omega)]
    ·rintro γ (h | rfl | rfl | rfl | h)
     ·exact h.elim
     ·right; omega
     ·right; omega
     ·exact .inl (.inl rfl)
     ·exact .inl (.inr h)
  ·rintro H' nx' (⟨hp, o', hown, hj, hi⟩ | ⟨hp, o', hown, hj, hi⟩)
   ·rw [hJ] at hj
    obtain ⟨p, hl, rfl, rfl⟩ := hj
    cases p with
    | cons e p => cases hl
    | nil =>
    obtain ⟨la, na, Ha⟩ := hown.head
    obtain ⟨lb, nb, Hb⟩ := hown.tail.head
    have hown0 := hown.tail.tail
    rw [nG] at hown0
    obtain ⟨lc, nc, Hc⟩ := hown0.head
    have hod := vN hown0.tail
    simp only [hfr] at hi
    refine rG hLO Hb ?_
    intro LX
    simp only [vz, tyf, seval, ua, nm, rg, e1, e2, e5, hw]
    refine ⟨m, Nat.lt_succ_self _, ?_⟩
    rw [Mp]
    refine ⟨c + 1, (bl + 9) :: ds, by omega, rfl, ?_, ?_, ?_, ?_, ?_, ?_, ?_, Lr, hLr, ?_⟩
    ·exact List.nodup_cons.2 ⟨fun hh => by have := hds _ hh; omega, hnd⟩
    ·intro d hd
     rcases List.mem_cons.1 hd with rfl | hd
     ·refine ⟨by omega, by show bl + 9 < nx' + 2; omega, ?_⟩
      show updH H' (bl + 10) LX (bl + 9) = _
      simp only [updH]
      rw [if_neg (by omega)]
      exact Ha
     ·have h1 := hds d hd
      have h2 := hod d hd
      refine ⟨h1.1, by show d < nx' + 2; omega, ?_⟩
      show updH H' (bl + 10) LX d = _
      simp only [updH]
      rw [if_neg (by omega)]
      exact h2.2.2
    ·show nx < nx' + 2
     omega
    ·show updH H' (bl + 10) LX nx = _
     simp only [updH]
     rw [if_neg (by omega)]
     exact Hc
    ·simp only [ua, seval, e1]
    ·simp only [ua, seval, e2]
    ·simp only [ua, seval]
    ·show I (some (Lr.map sM)) (fun γ => γ = nx ∨ γ ∈ (bl + 9) :: ds) (updH H' (bl + 10) LX) (nx' + 2)
     refine hst _ _ _ _ _ _ _ hi ?_ (by omega) ?_
     ·intro γ _ hn
      have g3 : γ ≠ bl + 10 := fun e => hn (.inr (.inr (.inl e)))
      simp only [updH]
      rw [if_neg g3]
     ·rintro γ (rfl | hγ)
      ·exact .inl (.inr (.inr (.inr (.inl rfl))))
      ·rcases List.mem_cons.1 hγ with rfl | hγ
       ·exact .inl (.inr (.inl rfl))
       ·exact .inl (.inr (.inr (.inr (.inr hγ))))
   ·rw [hJ] at hj
    obtain ⟨LD, ⟨tml, ps, az, bo, d, hLD⟩, rfl, rfl⟩ := hj
    obtain ⟨la, na, Ha⟩ := hown.head
    obtain ⟨lb, nb, Hb⟩ := hown.tail.head
    have hown0 := hown.tail.tail
    rw [nG] at hown0
    obtain ⟨lc, nc, Hc⟩ := hown0.head
    have hod := vN hown0.tail
    simp only [hfr] at hi
    refine xg hLD Hb ?_
    intro LX
    simp only [vz, tyf, seval, ua, nm, rg]
    refine Tf ((bl + 9) :: ds) _ (List.nodup_cons.2 ⟨fun hh => by have := hds _ hh; omega, hnd⟩) ?_ fun H2 h2 => ?_
    ·intro d hd
     rcases List.mem_cons.1 hd with rfl | hd
     ·simp only [updH]
      rw [if_neg (by omega)]
      exact Ha
     ·have h1 := hds d hd
      simp only [updH]
      rw [if_neg (by omega)]
      exact (hod d hd).2.2
    ·refine bG (x := .tup []) (by simp [Tryz.results109, resV, resL]) (.inr ?_)
     refine hst _ _ _ _ _ _ _ hi ?_ (Nat.le_refl _) (fun γ h => h.elim)
     intro γ _ hn
     have g3 : γ ≠ bl + 10 := fun e => hn (.inr (.inr (.inl e)))
     rw [h2 γ (fun hh => by
      rcases List.mem_cons.1 hh with rfl | hh
      ·exact hn (.inr (.inl rfl))
      ·exact hn (.inr (.inr (.inr (.inr hh)))))]
     simp only [updH]
     rw [if_neg g3]
end Go.V
end
section
namespace Go.V
open Go Go.Proofs IntKind
theorem AW {α : Type} {xs : List α} (h : neB xs = false) : xs = [] := by
 cases xs with
 | nil => rfl
 | cons a l => cases h
section
variable {P : Program} {G : Glob} {H : Nat → Option VObj} {γ : Nat} {α : Type} {enc : α → List VV} {t t2 e e2 w b : Nat} {xs ys : List α} {el : Option TypeId} {β : Nat} {f : Bool} {k : VV → VEff → Prop}
theorem C6 (he : ∀ x, (enc x).length = w) (hl : ∀ x, leafL (enc x) = true) (ha : appOk P t = some (e, w, b)) (jh : P.underlying t2 = some (.slice e2)) (hb : H β = some (.cells el (aa enc xs)))
  (hm : neB ys = false) (h : k (.ref β 0 xs.length w xs.length) (.upd β (.cells el (aa enc xs)))) :
  oeK (vappend P H γ t t2 (.ref β 0 xs.length w xs.length) (.sl (aa enc ys) ys.length f)) k := by
 have hm := AW hm
 subst hm
 obtain ⟨hu, inf, z, hi, hz, rfl, rfl, oW, oX, hzs⟩ := xr ha
 have h1 := iH he xs
 have key : vappend P H γ t t2 (.ref β 0 xs.length inf.size xs.length) (.sl (aa enc ([] : List α)) ([] : List α).length f) = some (.ref β 0 xs.length inf.size xs.length, .upd β (.cells el (aa enc xs))) := by
  simp only [vappend, nilS, vappend1, hu, jh, hi, hz, srcV, sls, oW, oX, hzs, hb, kd, List.length_nil]
  simp [h1, overwrite]
 rw [key]
 exact h
theorem u3 (ha : appOk P t = some (e, w, b)) (jh : P.underlying t2 = some (.slice e2)) (hm : neB ys = false) (h : k (.sl [] 0 true) .none) :
  oeK (vappend P H γ t t2 (.lit (.slice none 0 0)) (.sl (aa enc ys) ys.length f)) k := by
 have hm := AW hm
 subst hm
 obtain ⟨hu, inf, z, hi, hz, rfl, rfl, oW, oX, hzs⟩ := xr ha
 have key : vappend P H γ t t2 (.lit (.slice none 0 0)) (.sl (aa enc ([] : List α)) ([] : List α).length f) = some (.sl [] 0 true, .none) := by
  simp only [vappend, nilS, vappend1, hu, jh, hi, hz, srcV, sls, oW, oX, hzs, kd, List.length_nil]
  simp
 rw [key]
 exact h
theorem Mq {d : Tmp} {γ : Nat} {tm : Nat → VV} {nx : Nat} {df : List VDef} {K : St → Prop} {x : VV} {β : Nat} {o : VObj} : fin (some d) γ tm H nx df K x (.upd β o) = K ⟨upd tm d x, updH H β o, nx, df⟩ := rfl
theorem FH {s : VV} : vappend P H γ t t2 (.sl [] 0 true) s = vappend P H γ t t2 (.lit (.slice none 0 0)) s := rfl
theorem kfreeze {f : FuncId} {args args' args0 : List VV} {x : VV} {d : Option Tmp} {γ g : Nat} {tm : Nat → VV} {nx : Nat} {df : List VDef} {K : St → Prop} {Qp : VV → St → Prop} {cs : List VV} (hγ : H g = some (.cells el cs)) (ha : FrozenL H (without H g) args args')
  (hn : normL args' = args0) (ht : treeL args' = true) (hp : ad P G f args0 (.tree x)) (h : fin d γ tm (without H g) nx df K x .none) : callK P G f args ⟨tm, H, nx, df⟩ d γ K Qp := by
 subst hn
 refine .inr (.inr ?_)
 unfold openK
 refine aE.mono (aE.freeze1 hγ ha (aE.of_pure hp.norm ht)) ?_ (fun _ _ _ h => h.elim)
 rintro v H2 gW ⟨rfl, rfl, rfl⟩
 rw [← jR (K := K), jQ] at h
 cases d <;> exact h
end
end Go.V
namespace Go.V
open Go Go.Proofs IntKind
end Go.V
namespace Go.V
open Go Go.Proofs IntKind
theorem Tg {y : VV} (h : nilS y = .sl [] 0 true) : y = .lit (.slice none 0 0) ∨ y = .sl [] 0 true := by
 unfold nilS at h
 split at h
 ·exact .inl rfl
 ·exact .inr h
theorem vap_y {y : VV} (hy : nilS y = .sl [] 0 true) (P : Program) (H : Nat → Option VObj) (γ : Nat) (t t2 : TypeId) (x : VV) : vappend P H γ t t2 y x = vappend P H γ t t2 (.lit (.slice none 0 0)) x := by
 show vappend1 P H γ t t2 (nilS y) x = vappend1 P H γ t t2 (.sl [] 0 true) x
 rw [hy]
theorem oH {y : VV} (hy : nilS y = .sl [] 0 true) (H : Nat → Option VObj) : outV H y = .sl [] 0 false := by
 rcases Tg hy with rfl | rfl <;> simp [outV, showV, normV, normL]
end Go.V
namespace Go.V
open Go Go.Proofs IntKind
set_option linter.defProp false
theorem trT {A B : Prop} (hB : B) (hA : A := by (try simp only [iQ, iR, dy, iS, and_true, true_and]); (repeat' (first | exact trivial | refine And.intro ?_ ?_ | rw [dy] | rw [iT] | exact Or.inl (by decide +kernel) | exact Or.inl (by dsimp only; decide +kernel) | (refine Or.inr ⟨?_, ?_⟩ <;> simp; done) | (refine Or.inr ⟨?_, ?_⟩ <;> simp <;> omega) | (refine Or.inr ⟨?_, ?_⟩ <;> simp [VEff.wr] <;> omega)))) : A ∧ B := ⟨hA, hB⟩
def vzf := (And.intro vz (And.intro flr @Mq))
end Go.V
end
section
namespace Go.V
open Go Go.Proofs IntKind
theorem FJ {y : VV} (hy : nilS y = .sl [] 0 true) (P : Program) (H : Nat → Option VObj) (t : TypeId) : vlen P H t y = vlen P H t (.lit (.slice none 0 0)) := by
 rcases Tg hy with rfl | rfl
 ·rfl
 ·unfold vlen
  cases P.underlying t with
  | none => rfl
  | some d => cases d <;> simp [sls]
end Go.V
namespace Go.V
theorem AX {α : Type} : ((([] : List α).length : Nat) : Int) = 0 := rfl
end Go.V
namespace Go.V
open Go Go.Proofs IntKind
end Go.V
end
