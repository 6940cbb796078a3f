/- Part of a proof. -/
import Derived.Test.YtekhjalgmlflpaaGreatDoorVbj
set_option linter.all false
set_option maxRecDepth 4000
set_option maxHeartbeats 40000000
section
namespace Go.V
open Go Go.Proofs
abbrev sM (x : Gm) : VV := .agg (cGm x)
def mixtO (s : Gs) : Nat → Nat → Option (List Gm)
 | 0, _ => some []
 | k + 1, c => Option.bind (zlf (List.length s.Tins) ((c + 1 : Nat) : Int)) fun L => Option.bind (mixtO s k (c + 1)) fun r => some (L.map (Gm.mk s) ++ r)
def zgl (s : Gs) : Option (List Gm) := mixtO s 8 0
def itX (s : Gs) : VV := .fn (.func 109) [] [.tp (cGs s)]
theorem zor {s : Gs} : (itX s).tree = true := by
 have h : treeL (cGs s) = true := zal.tree s
 simp [itX, VV.tree, treeL, h]
theorem zand {H : Nat → Option VObj} {f : FuncId} {el : Option TypeId} {cs : List VV} (hH : H 0 = some (.cells el cs)) (h : treeL cs = true) (hl : cs.length < 40) : sealV H 50 (.fn (.func f) [] [.ptr 0 0]) = some (.fn (.func f) [] [.tp cs]) := by
 have e0 : (VV.ptr 0 0).tree = false := rfl
 have e : sealV H 48 (.ptr 0 0) = some (.tp cs) := by
  show sealV H (47 + 1) _ = _
  simp only [sealV, e0, hH, Nat.zero_le, if_true, List.drop_zero]
  rw [zil _ 47 h (by omega)]
  rfl
 have e1 : sealL H 49 [.ptr 0 0] = some [.tp cs] := by
  show sealL H (48 + 1) _ = _
  simp only [sealL, e]
 have e2 : sealL H 49 [] = some [] := by
  show sealL H (48 + 1) _ = _
  simp only [sealL]
 show sealV H (49 + 1) _ = _
 have e3 : (VV.fn (.func f) [] [.ptr 0 0]).tree = false := rfl
 simp only [sealV, e3, e1, e2]
 rfl
theorem zpm (s : Gs) : VPure Tryz.prog G0 79 [.agg (cGs s)] (.tree (itX s)) := by
 refine VPure.run mixed Tryz.call79 Tryz.func79 rfl (by simp [Tryz.ntmps79]; kernel_rfl) ?_
 simp only [vz, tyf, seval, ua, rg]
 refine ⟨rfl, .fn (.func 109) [] [.ptr 0 0], by simp [Tryz.results79, resV, resL, resV1, upd], 50, ?_⟩
 have h : treeL (cGs s) = true := zal.tree s
 exact zand (cs := cGs s) (el := some 28) (by simp only [zaa, seval] <;> rfl) h (by simp [cGs])
theorem zsm {P : Program} {G : Glob} {fn : Func} {R Rp : VV → (Nat → Option VObj) → Nat → Prop} {tm : Nat → VV} {nx : Nat} : ∀ (ds : List Nat) (H : Nat → Option VObj), ds.Nodup → (∀ d ∈ ds, H d = some (.deferred (some []))) → (∀ H2, (∀ γ, γ ∉ ds → H2 γ = H γ) → OpenPostD P G fn R Rp .normal ⟨tm, H2, nx, []⟩) → OpenPostD P G fn R Rp .normal ⟨tm, H, nx, ds.map VDef.coll⟩
 | [], H, _, _, h => h H fun _ _ => rfl
 | d :: ds, H, hn, hd, h => by
  rw [List.nodup_cons] at hn
  refine zrv (hd d (List.mem_cons_self ..)) (zsm ds _ hn.2 (fun e he => ?_) fun H2 h2 => h H2 fun γ hγ => ?_)
  ·have hne : e ≠ d := fun hh => hn.1 (hh ▸ he)
   simp only [updH]
   rw [if_neg hne]
   exact hd e (List.mem_cons_of_mem _ he)
  ·simp only [List.mem_cons, not_or] at hγ
   rw [h2 γ hγ.2]
   simp only [updH]
   rw [if_neg hγ.1]
theorem zyo {P : Program} {G : Glob} {fn : Func} {R Rp : VV → (Nat → Option VObj) → Nat → Prop} {tm : Nat → VV} {nx : Nat} : ∀ (ds : List Nat) (H : Nat → Option VObj), ds.Nodup → (∀ d ∈ ds, H d = some (.deferred (some []))) → (∀ H2, (∀ γ, γ ∉ ds → H2 γ = H γ) → OpenPostD P G fn R Rp .ret ⟨tm, H2, nx, []⟩) → OpenPostD P G fn R Rp .ret ⟨tm, H, nx, ds.map VDef.coll⟩
 | [], H, _, _, h => h H fun _ _ => rfl
 | d :: ds, H, hn, hd, h => by
  rw [List.nodup_cons] at hn
  refine zhk (hd d (List.mem_cons_self ..)) (zyo ds _ hn.2 (fun e he => ?_) fun H2 h2 => h H2 fun γ hγ => ?_)
  ·have hne : e ≠ d := fun hh => hn.1 (hh ▸ he)
   simp only [updH]
   rw [if_neg hne]
   exact hd e (List.mem_cons_of_mem _ he)
  ·simp only [List.mem_cons, not_or] at hγ
   rw [h2 γ hγ.2]
   simp only [updH]
   rw [if_neg hγ.1]
theorem zaqx {Fr : Nat → Prop} {H : Nat → Option VObj} {nx : Nat} {ds : List Nat} (h : ∀ d ∈ ds, d < nx ∧ ¬ Fr d ∧ H d = some (.deferred (some []))) : Own (ds.map fun d => (d, VObj.deferred (some []))) Fr H nx := by
 intro q hq
 obtain ⟨d, hd, rfl⟩ := List.mem_map.1 hq
 exact h d hd
theorem zabc {Fr : Nat → Prop} {H : Nat → Option VObj} {nx : Nat} {ds : List Nat} (h : Own (ds.map fun d => (d, VObj.deferred (some []))) Fr H nx) : ∀ d ∈ ds, d < nx ∧ ¬ Fr d ∧ H d = some (.deferred (some [])) := fun d hd => h (d, _) (List.mem_map.2 ⟨d, hd, rfl⟩)
theorem zmk (s : Gs) (R : List Gm) (h : zgl s = some R) : Iter Tryz.prog G0 (itX s) (R.map sM) := by
 refine ⟨109, [], _, rfl, fun β I hst hr H nx hβ hI => ?_⟩
 refine VOpen.run mixed Tryz.call109 Tryz.func109 rfl (by simp [Tryz.ntmps109]; kernel_rfl) ?_
 simp only [List.nil_append, List.cons_append, argsTm2, vz, tyf, seval, ua, rg]
 obtain ⟨J0, hJ0⟩ : ∃ J : Nat → St → Prop, J = (fun m st => ∃ (c : Nat) (ds : List Nat), c + m = 8 ∧ st.df = ds.map VDef.coll ∧ ds.Nodup ∧ (∀ d ∈ ds, nx < d ∧ d < st.nx ∧ st.H d = some (.deferred (some []))) ∧ nx < st.nx ∧ st.H nx = some (.cells (some 144) [.yl β]) ∧
   st.tm 1 = .tp (cGs s) ∧ st.tm 2 = .ptr nx 0 ∧ st.tm 5 = .lit (.int .i64 (c : Int)) ∧ ∃ L, mixtO s m c = some L ∧ I (some (L.map sM)) (fun γ => γ = nx ∨ γ ∈ ds) st.H st.nx) := ⟨_, rfl⟩
 refine loopK mixed (by kernel_rfl) J0 8 (by
  rw [hJ0]
  refine ⟨0, [], rfl, rfl, List.nodup_nil, fun d hd => (by cases hd), (by show nx < nx + 2; omega), ?_, ?_, ?_, ?_, R, h, ?_⟩
  ·simp [updH]
  ·rfl
  ·rfl
  ·rfl
  ·refine hst _ _ _ _ _ _ _ hI ?_ (by show nx ≤ nx + 2; omega) ?_
   ·intro γ hγ _
    simp only [updH]
    rw [if_neg (by omega)]
   ·rintro γ (rfl | hγ)
    ·right; show γ ≤ γ ∧ γ < γ + 2; omega
    ·cases hγ) ?_
 rintro m ⟨tm, H1, nx1, df⟩ hinv
 rw [hJ0] at hinv
 obtain ⟨c, ds, hc, hdf, hnd, hds, hnx, Hy, e1, e2, e5, L, hL, hI1⟩ := hinv
 simp only at hdf hds hnx Hy e1 e2 e5 hI1
 subst hdf
 cases m with
 | zero =>
  have hd1 : decide ((c : Int) < 8) = false := by simp; omega
  simp only [vz, tyf, seval, ua, e5, hd1]
  refine zsm ds _ hnd (fun d hd => (hds d hd).2.2) fun H2 h2 => ?_
  refine zjh (x := .tup []) (by simp [Tryz.results109, resV, resL]) (.inl ?_)
  simp only [mixtO, Option.some.injEq] at hL
  subst hL
  refine hst _ _ _ _ _ _ _ hI1 ?_ (by show nx1 ≤ nx1 + 1; omega) (fun γ h => h.elim)
  intro γ _ hn
  exact h2 γ fun hh => hn (.inr hh)
 | succ m =>
  have hd1 : decide ((c : Int) < 8) = true := by simp; omega
  have hw : IntKind.i64.wrap ((c : Int) + 1) = ((c + 1 : Nat) : Int) := by rw [IntWalk.i64_in _ (by omega)]; simp
  rw [mixtO] at hL
  rcases hLa : zlf (List.length s.Tins) ((c + 1 : Nat) : Int) with _ | La
  ·rw [hLa] at hL; cases hL
  rw [hLa, Option.bind_some] at hL
  rcases hLr : mixtO s m (c + 1) with _ | Lr
  ·rw [hLr] at hL; cases hL
  rw [hLr, Option.bind_some, Option.some.injEq] at hL
  subst hL
  obtain ⟨hp, hi⟩ := zzl _ _ _ hLa
  simp only [vz, tyf, seval, ua, e1, e2, e5, hd1, hw]
  refine ktA hp ?_
  simp only [vz, tyf, seval, ua, rg]
  refine zlw (fun tm => tm 13 = itM (List.length s.Tins) ((c + 1 : Nat) : Int) ∧ tm 1 = .tp (cGs s) ∧ tm 2 = .ptr nx 0 ∧ tm 5 = .lit (.int .i64 (c : Int))) (by refine ⟨?_, ?_, ?_, ?_⟩ <;> simp only [ua, seval, e1, e2, e5] <;> rfl) ?_
  clear e1 e2 e5 tm
  rintro tm ⟨e13, e1, e2, e5⟩
  refine zgz hi (by first | (simp only [znv, ziw, e13, zfc, seval] <;> rfl) | rfl) ?_
  intro LO hLO
  obtain ⟨hp0, hhp0⟩ : ∃ hp0 : List (Nat × VObj), hp0 = (nx, VObj.cells (some 144) [.yl β]) :: ds.map (fun d => (d, VObj.deferred (some []))) := ⟨_, rfl⟩
  obtain ⟨J, hJ⟩ : ∃ J : Option (List VV) → Option (List VV) → List (Nat × VObj) → Prop, J = (fun o o' hp => match o with
   | some l => ∃ p : List (List Int), l = p.map sI ∧ o' = some ((p.map (Gm.mk s) ++ Lr).map sM) ∧ hp = (nx1 + 9, .deferred (some [])) :: (nx1 + 10, LO) :: hp0
   | none => ∃ LD : Code → VObj, (∃ tml ps az bo d, LD = fun c => VObj.loop .done (some c) tml ps az bo d) ∧ o' = none ∧ hp = (nx1 + 9, .deferred (some [])) :: (nx1 + 10, LD .ret) :: hp0) := ⟨_, rfl⟩
  have hfr : ∀ (O : VObj) γ, (∃ q ∈ (nx1 + 9, VObj.deferred (some [])) :: (nx1 + 10, O) :: hp0, (q : Nat × VObj).1 = γ) ↔ γ = nx1 + 9 ∨ γ = nx1 + 10 ∨ γ = nx ∨ γ ∈ ds := by
   intro O γ
   rw [hhp0]
   constructor
   ·rintro ⟨q, hq, rfl⟩
    simp only [List.mem_cons, List.mem_map] at hq
    rcases hq with rfl | rfl | rfl | ⟨d, hd, rfl⟩
    ·exact .inl rfl
    ·exact .inr (.inl rfl)
    ·exact .inr (.inr (.inl rfl))
    ·exact .inr (.inr (.inr hd))
   ·rintro (rfl | rfl | rfl | hd)
    ·exact ⟨_, List.mem_cons_self .., rfl⟩
    ·exact ⟨_, List.mem_cons_of_mem _ (List.mem_cons_self ..), rfl⟩
    ·exact ⟨_, List.mem_cons_of_mem _ (List.mem_cons_of_mem _ (List.mem_cons_self ..)), rfl⟩
    ·exact ⟨(γ, _), List.mem_cons_of_mem _ (List.mem_cons_of_mem _ (List.mem_cons_of_mem _ (List.mem_map.2 ⟨γ, hd, rfl⟩))), rfl⟩
  refine ⟨ownI2 I J, zkh hst, ?_, ?_, ?_⟩
  ·rintro v rest Fr H2 nx2 hFr ⟨hp, o', hown, hj, hi⟩
   rw [hJ] at hj
   obtain ⟨p, hl, rfl, rfl⟩ := hj
   cases p with
   | nil => cases hl
   | cons e p =>
   simp only [List.map_cons, List.cons.injEq] at hl
   obtain ⟨rfl, rfl⟩ := hl
   obtain ⟨la, na, Ha⟩ := hown.head
   obtain ⟨lb, nb, Hb⟩ := hown.tail.head
   have hown0 := hown.tail.tail
   rw [hhp0] at hown0
   obtain ⟨lc, nc, Hc⟩ := hown0.head
   have hod := zabc hown0.tail
   simp only [hfr] at hi
   refine zfx mixed (psl := [14]) hLO Hb zgq rfl (by kernel_rfl) (by kernel_rfl) ?_
   intro LB LD hLB hLD
   refine zib (fun tm => tm 14 = sI e ∧ tm 1 = .tp (cGs s) ∧ tm 2 = .ptr nx 0) (by refine ⟨?_, ?_, ?_⟩ <;> simp only [zkn, zif, Tryz.ntmps109, e1, e2, seval]) ?_
   clear e13 e1 e2 e5
   rintro tm ⟨e14, e1, e2⟩
   have hne : (nx = nx1 + 10) = False := by simp; omega
   simp only [vz, tyf, seval, ua, nm, rg, RStart, e14, e1, e2, Hb, Hc, hne]
   have hi2 : I (some (sM (Gm.mk s e) :: (p.map (Gm.mk s) ++ Lr).map sM)) (fun γ => Fr γ ∨ γ = nx1 + 9 ∨ γ = nx1 + 10 ∨ γ = nx ∨ γ ∈ ds) (updH H2 (nx1 + 10) LB) (nx2 + 7) := by
    refine hst _ _ _ _ _ _ _ hi ?_ (by omega) (fun γ h => .inl h)
    intro γ _ hn
    have g3 : γ ≠ nx1 + 10 := fun e => hn (.inr (.inr (.inl e)))
    simp only [updH]
    rw [if_neg g3]
   refine (hr (sM (Gm.mk s e)) ((p.map (Gm.mk s) ++ Lr).map sM) _ _ _ ?_ hi2) (some (some (nx1 + 10))) _ _ _ rfl rfl ?_
   ·rintro γ (hγ | rfl | rfl | rfl | hγ)
    ·have := hFr γ hγ; omega
    ·omega
    ·omega
    ·omega
    ·have := (hod γ hγ).1; omega
   rintro b H3 nx3 ⟨q1, q2, q3⟩
   have Ka : H3 (nx1 + 9) = some (.deferred (some [])) := by
    rw [q2 _ (.inr (.inl rfl))]
    simp only [updH]
    rw [if_neg (by omega)]
    exact Ha
   have Kb : H3 (nx1 + 10) = some LB := by
    rw [q2 _ (.inr (.inr (.inl rfl)))]
    simp only [zaa, seval]
   have Kc : H3 nx = some (.cells (some 144) [.yl β]) := by
    rw [q2 nx (.inr (.inr (.inr (.inl rfl))))]
    simp only [updH]
    rw [if_neg (by omega)]
    exact Hc
   have Kd : ∀ d ∈ ds, H3 d = some (.deferred (some [])) := by
    intro d hd
    have := hds d hd
    rw [q2 d (.inr (.inr (.inr (.inr hd))))]
    simp only [updH]
    rw [if_neg (by omega)]
    exact (hod d hd).2.2
   have KF : ∀ γ, Fr γ → H3 γ = H2 γ := by
    intro γ hγ
    have g3 : γ ≠ nx1 + 10 := fun e => nb (e ▸ hγ)
    rw [q2 γ (.inl hγ)]
    simp only [updH]
    rw [if_neg g3]
   have KO : ∀ (O : VObj), Own ((nx1 + 9, .deferred (some [])) :: (nx1 + 10, O) :: hp0) Fr (updH H3 (nx1 + 10) O) nx3 := by
    intro O
    refine Own.cons (show nx1 + 9 < nx3 by omega) na ?_ (Own.cons (show nx1 + 10 < nx3 by omega) nb ?_ ?_)
    ·simp only [updH]
     rw [if_neg (by omega)]
     exact Ka
    ·simp only [zaa, seval]
    ·rw [hhp0]
     refine Own.cons (show nx < nx3 by omega) nc ?_ (zaqx fun d hd => ⟨?_, (hod d hd).2.1, ?_⟩)
     ·simp only [updH]
      rw [if_neg (by omega)]
      exact Kc
     ·have := (hod d hd).1; omega
     ·have := hds d hd
      simp only [updH]
      rw [if_neg (by omega)]
      exact Kd d hd
   cases b with
   | true =>
    simp only [vz, tyf, seval, ua, nm, rg, Bool.not_true]
    refine ⟨Kb, (show nx2 ≤ nx3 by omega), fun γ hγ => ?_, ?_⟩
    ·have g3 : γ ≠ nx1 + 10 := fun e => nb (e ▸ hγ)
     simp only [updH]
     rw [if_neg g3]
     exact KF γ hγ
    ·simp only [if_true] at q3 ⊢
     refine ⟨_, _, KO LO, by rw [hJ]; exact ⟨p, rfl, rfl, rfl⟩, ?_⟩
     simp only [hfr]
     refine hst _ _ _ _ _ _ _ q3 ?_ (by omega) (fun γ h => .inl h)
     intro γ _ hn
     have g3 : γ ≠ nx1 + 10 := fun e => hn (.inr (.inr (.inl e)))
     simp only [updH]
     rw [if_neg g3]
   | false =>
    simp only [vz, tyf, seval, ua, nm, rg, Bool.not_false]
    refine ⟨Kb, (show nx2 ≤ nx3 by omega), fun γ hγ => ?_, ?_⟩
    ·have g3 : γ ≠ nx1 + 10 := fun e => nb (e ▸ hγ)
     simp only [updH]
     rw [if_neg g3]
     exact KF γ hγ
    ·simp only [Bool.false_eq_true, if_false] at q3 ⊢
     refine ⟨_, _, KO (LD .ret), by rw [hJ]; exact ⟨LD, ⟨_, _, _, _, _, hLD⟩, rfl, rfl⟩, ?_⟩
     simp only [hfr]
     refine hst _ _ _ _ _ _ _ q3 ?_ (by omega) (fun γ h => .inl h)
     intro γ _ hn
     have g3 : γ ≠ nx1 + 10 := fun e => hn (.inr (.inr (.inl e)))
     simp only [updH]
     rw [if_neg g3]
  ·refine ⟨_, _, ?_, by rw [hJ]; exact ⟨La, rfl, rfl, rfl⟩, ?_⟩
   ·refine Own.cons (show nx1 + 9 < nx1 + 9 + 2 by omega) (fun h => h) ?_ (Own.cons (show nx1 + 10 < nx1 + 9 + 2 by omega) (fun h => h) ?_ ?_)
    ·simp only [updH]
     rw [if_neg (by omega)]
     simp
    ·simp only [updH]
     simp
    ·rw [hhp0]
     refine Own.cons (show nx < nx1 + 9 + 2 by omega) (fun h => h) ?_ (zaqx fun d hd => ⟨?_, fun h => h, ?_⟩)
     ·simp only [updH]
      rw [if_neg (by omega), if_neg (by omega)]
      exact Hy
     ·have := (hds d hd).2.1; omega
     ·have := hds d hd
      simp only [updH]
      rw [if_neg (by omega), if_neg (by omega)]
      exact this.2.2
   ·simp only [hfr]
    refine hst _ _ _ _ _ _ _ hI1 ?_ (by omega) ?_
    ·intro γ hγ _
     simp only [updH]
     rw [if_neg (by omega), if_neg (by omega)]
    ·rintro γ (h | rfl | rfl | rfl | h)
     ·exact h.elim
     ·right; omega
     ·right; omega
     ·exact .inl (.inl rfl)
     ·exact .inl (.inr h)
  ·rintro H' nx' (⟨hp, o', hown, hj, hi⟩ | ⟨hp, o', hown, hj, hi⟩)
   ·rw [hJ] at hj
    obtain ⟨p, hl, rfl, rfl⟩ := hj
    cases p with
    | cons e p => cases hl
    | nil =>
    obtain ⟨la, na, Ha⟩ := hown.head
    obtain ⟨lb, nb, Hb⟩ := hown.tail.head
    have hown0 := hown.tail.tail
    rw [hhp0] at hown0
    obtain ⟨lc, nc, Hc⟩ := hown0.head
    have hod := zabc hown0.tail
    simp only [hfr] at hi
    refine zfj hLO Hb ?_
    intro LX
    simp only [vz, tyf, seval, ua, nm, rg, e1, e2, e5, hw]
    refine ⟨m, Nat.lt_succ_self _, ?_⟩
    rw [hJ0]
    refine ⟨c + 1, (nx1 + 9) :: ds, by omega, rfl, ?_, ?_, ?_, ?_, ?_, ?_, ?_, Lr, hLr, ?_⟩
    ·exact List.nodup_cons.2 ⟨fun hh => by have := hds _ hh; omega, hnd⟩
    ·intro d hd
     rcases List.mem_cons.1 hd with rfl | hd
     ·refine ⟨by omega, by show nx1 + 9 < nx' + 2; omega, ?_⟩
      show updH H' (nx1 + 10) LX (nx1 + 9) = _
      simp only [updH]
      rw [if_neg (by omega)]
      exact Ha
     ·have h1 := hds d hd
      have h2 := hod d hd
      refine ⟨h1.1, by show d < nx' + 2; omega, ?_⟩
      show updH H' (nx1 + 10) LX d = _
      simp only [updH]
      rw [if_neg (by omega)]
      exact h2.2.2
    ·show nx < nx' + 2
     omega
    ·show updH H' (nx1 + 10) LX nx = _
     simp only [updH]
     rw [if_neg (by omega)]
     exact Hc
    ·simp only [ua, seval, e1]
    ·simp only [ua, seval, e2]
    ·simp only [ua, seval]
    ·show I (some (Lr.map sM)) (fun γ => γ = nx ∨ γ ∈ (nx1 + 9) :: ds) (updH H' (nx1 + 10) LX) (nx' + 2)
     refine hst _ _ _ _ _ _ _ hi ?_ (by omega) ?_
     ·intro γ _ hn
      have g3 : γ ≠ nx1 + 10 := fun e => hn (.inr (.inr (.inl e)))
      simp only [updH]
      rw [if_neg g3]
     ·rintro γ (rfl | hγ)
      ·exact .inl (.inr (.inr (.inr (.inl rfl))))
      ·rcases List.mem_cons.1 hγ with rfl | hγ
       ·exact .inl (.inr (.inl rfl))
       ·exact .inl (.inr (.inr (.inr (.inr hγ))))
   ·rw [hJ] at hj
    obtain ⟨LD, ⟨tml, ps, az, bo, d, hLD⟩, rfl, rfl⟩ := hj
    obtain ⟨la, na, Ha⟩ := hown.head
    obtain ⟨lb, nb, Hb⟩ := hown.tail.head
    have hown0 := hown.tail.tail
    rw [hhp0] at hown0
    obtain ⟨lc, nc, Hc⟩ := hown0.head
    have hod := zabc hown0.tail
    simp only [hfr] at hi
    refine zgr hLD Hb ?_
    intro LX
    simp only [vz, tyf, seval, ua, nm, rg]
    refine zyo ((nx1 + 9) :: ds) _ (List.nodup_cons.2 ⟨fun hh => by have := hds _ hh; omega, hnd⟩) ?_ fun H2 h2 => ?_
    ·intro d hd
     rcases List.mem_cons.1 hd with rfl | hd
     ·simp only [updH]
      rw [if_neg (by omega)]
      exact Ha
     ·have h1 := hds d hd
      simp only [updH]
      rw [if_neg (by omega)]
      exact (hod d hd).2.2
    ·refine zav (x := .tup []) (by simp [Tryz.results109, resV, resL]) (.inr ?_)
     refine hst _ _ _ _ _ _ _ hi ?_ (Nat.le_refl _) (fun γ h => h.elim)
     intro γ _ hn
     have g3 : γ ≠ nx1 + 10 := fun e => hn (.inr (.inr (.inl e)))
     rw [h2 γ (fun hh => by
      rcases List.mem_cons.1 hh with rfl | hh
      ·exact hn (.inr (.inl rfl))
      ·exact hn (.inr (.inr (.inr (.inr hh)))))]
     simp only [updH]
     rw [if_neg g3]
end Go.V
end
section
namespace Go.V
open Go
section
variable {P : Program} {G : Glob} {H : Nat → Option VObj} {γ : Nat} {α : Type} {enc : α → List VV} {t t2 e e2 w b : Nat} {xs ys : List α} {el : Option TypeId} {β : Nat} {f : Bool} {k : VV → VEff → Prop}
end
end Go.V
namespace Go.V
open Go
end Go.V
namespace Go.V
open Go
end Go.V
namespace Go.V
open Go
set_option linter.defProp false
end Go.V
end
section
namespace Go.V
open Go
end Go.V
namespace Go.V
theorem len0 {α : Type} : ((([] : List α).length : Nat) : Int) = 0 := rfl
end Go.V
namespace Go.V
open Go
end Go.V
end
section
namespace Go.V
open Go Go.Proofs



end Go.V
end
section
namespace Go.V
open Go
def flatR {β : Type} (f : Int → List β) : Nat → Int → List β
 | 0, _ => []
 | k + 1, c => f c ++ flatR f k (c + 1)
theorem zrd {β : Type} {f : Int → List β} {x : β} : ∀ (k : Nat) (c : Int), x ∈ flatR f k c ↔ ∃ j : Int, c ≤ j ∧ j < c + k ∧ x ∈ f j
 | 0, c => by
  simp only [flatR, List.not_mem_nil, false_iff]
  rintro ⟨j, h1, h2, _⟩
  omega
 | k + 1, c => by
  simp only [flatR, List.mem_append, zrd k (c + 1)]
  constructor
  ·rintro (h | ⟨j, h1, h2, h3⟩)
   ·exact ⟨c, by omega, by omega, h⟩
   ·exact ⟨j, by omega, by omega, h3⟩
  ·rintro ⟨j, h1, h2, h3⟩
   by_cases e : j = c
   ·subst e; exact .inl h3
   ·exact .inr ⟨j, by omega, by omega, h3⟩
theorem zvj : ∀ {l : List Int}, (∀ e ∈ l, 0 ≤ e) → 0 ≤ sumL l
 | [], _ => Int.le_refl _
 | a :: l, h => by
  have h1 := h a (List.mem_cons_self ..)
  have ih := zvj fun x hx => h x (List.mem_cons_of_mem _ hx)
  simp only [sumL]
  omega
def mixL (parts : Int) : Nat → List Int → List (List Int)
 | 0, l => [l]
 | 1, l => [l ++ [parts - sumL l]]
 | d + 2, l => flatR (fun j => mixL parts (d + 1) (l ++ [j])) (parts - sumL l + 1).toNat 0
theorem zhl : ∀ (l m : List Int), sumL (l ++ m) = sumL l + sumL m
 | [], m => by simp [sumL]
 | e :: l, m => by
  simp only [List.cons_append, sumL, zhl l m]
  omega
theorem zhb (a : Int) : sumL [a] = a := by simp [sumL]
theorem zkl {parts : Int} : ∀ (d : Nat) (l q : List Int), sumL l ≤ parts → (q ∈ mixL parts (d + 1) l ↔ ∃ t, q = l ++ t ∧ t.length = d + 1 ∧ (∀ e ∈ t, 0 ≤ e) ∧ sumL l + sumL t = parts)
 | 0, l, q, h => by
  simp only [mixL, List.mem_singleton]
  constructor
  ·rintro rfl
   refine ⟨_, rfl, rfl, fun e he => ?_, by rw [zhb]; omega⟩
   rw [List.mem_singleton] at he
   omega
  ·rintro ⟨t, rfl, ht, h1, h2⟩
   match t, ht with
   | [a], _ =>
    rw [zhb] at h2
    rw [show parts - sumL l = a by omega]
 | d + 1, l, q, h => by
  simp only [mixL, zrd]
  constructor
  ·rintro ⟨j, h1, h2, h3⟩
   have hs : sumL (l ++ [j]) ≤ parts := by rw [zhl, zhb]; omega
   obtain ⟨t, rfl, g1, g2, g3⟩ := (zkl d (l ++ [j]) q hs).1 h3
   rw [zhl, zhb] at g3
   refine ⟨j :: t, by simp, by simp [g1], fun e he => ?_, by simp only [sumL]; omega⟩
   rcases List.mem_cons.1 he with rfl | he
   ·exact h1
   ·exact g2 e he
  ·rintro ⟨t, rfl, g1, g2, g3⟩
   match t, g1 with
   | j :: t, g1 =>
    have hj := g2 j (List.mem_cons_self ..)
    have ht := (zvj (l := t) fun e he => g2 e (List.mem_cons_of_mem _ he))
    simp only [sumL] at g3
    have hs : sumL (l ++ [j]) ≤ parts := by rw [zhl, zhb]; omega
    refine ⟨j, hj, by omega, (zkl d (l ++ [j]) _ hs).2 ⟨t, by simp, by simpa using g1, fun e he => g2 e (List.mem_cons_of_mem _ he), by rw [zhl, zhb]; omega⟩⟩
theorem zadv {β : Type} {R : β → β → Prop} {f : Int → List β} : ∀ (k : Nat) (c : Int), (∀ j, c ≤ j → j < c + k → (f j).Pairwise R) → (∀ i j, c ≤ i → i < j → j < c + k → ∀ x ∈ f i, ∀ y ∈ f j, R x y) → (flatR f k c).Pairwise R
 | 0, _, _, _ => List.Pairwise.nil
 | k + 1, c, h1, h2 => by
  rw [flatR, List.pairwise_append]
  refine ⟨h1 c (Int.le_refl _) (by omega), zadv k (c + 1) (fun j a b => h1 j (by omega) (by omega)) (fun i j a b e => h2 i j (by omega) b (by omega)), fun x hx y hy => ?_⟩
  obtain ⟨j, a, b, e⟩ := (zrd k (c + 1)).1 hy
  exact h2 c j (Int.le_refl _) (by omega) (by omega) x hx y e
theorem zajg {parts : Int} : ∀ (d : Nat) (l : List Int), sumL l ≤ parts → (mixL parts (d + 1) l).Pairwise lexL
 | 0, l, _ => List.pairwise_singleton ..
 | d + 1, l, h => by
  refine zadv _ _ (fun j h1 h2 => zajg d (l ++ [j]) (by rw [zhl, zhb]; omega)) fun i j h1 h2 h3 x hx y hy => ?_
  obtain ⟨t, rfl, _, _, _⟩ := (zkl d (l ++ [i]) x (by rw [zhl, zhb]; omega)).1 hx
  obtain ⟨u, rfl, _, _, _⟩ := (zkl d (l ++ [j]) y (by rw [zhl, zhb]; omega)).1 hy
  rw [List.append_assoc, List.append_assoc, zals]
  exact .inl h2
theorem zaob {l : List Int} {j p : Int} {n : Nat} (hl : ∀ e ∈ l, 0 ≤ e ∧ e ≤ 8) (hn : l.length ≤ 1000) (hj : 0 ≤ j ∧ j ≤ 8) (hp : 0 ≤ p ∧ p ≤ 8) (hn1 : 1 ≤ n ∧ n ≤ 900) : zck l j p n = some ((p - sumL l - j == 0) || (decide (p - sumL l - j > 0) && decide ((l.length : Int) < (n : Int) - 1))) := by
 have hb := zaeb hl
 unfold zck
 rw [zvg hl hn]
 simp only [Option.bind_some]
 rw [zcf (n := p - sumL l) (by omega) (by omega), zcf (n := p - sumL l - j) (by omega) (by omega), zcf (n := (n : Int) - 1) (by omega) (by omega)]
 cases (p - sumL l - j == 0) <;> cases decide (p - sumL l - j > 0) <;> rfl
theorem zabp {rc : List Int → Option (List (List Int))} {may : List Int → Int → Option Bool} {p : List Int} {left : Int} {X : List (List Int)} (hr : rc (p ++ [left]) = some X) : ∀ (k c : Nat), (∀ j : Nat, c ≤ j → j < c + k → may p (j : Int) = some ((j : Int) == left)) → goL rc may p (List.range' c k) = some (if (c : Int) ≤ left ∧ left < c + k then X else [])
 | 0, c, _ => by
  rw [if_neg (by omega)]
  rfl
 | k + 1, c, h => by
  have ih := zabp hr k (c + 1) fun j h1 h2 => h j (by omega) (by omega)
  rw [List.range'_succ]
  unfold goL
  rw [h c (Nat.le_refl _) (by omega), Option.bind_some]
  by_cases e : (c : Int) = left
  ·subst e
   rw [if_neg (by omega)] at ih
   rw [show ((c : Int) == (c : Int)) = true from beq_self_eq_true _, cond_true, hr, ih, if_pos (by omega)]
   simp
  ·rw [show ((c : Int) == left) = false from beq_false_of_ne e, cond_false, ih]
   by_cases g : ((c + 1 : Nat) : Int) ≤ left ∧ left < ((c + 1 : Nat) : Int) + k
   ·rw [if_pos g, if_pos (by omega)]
   ·rw [if_neg g, if_neg (by omega)]
theorem zabx {rc : List Int → Option (List (List Int))} {F : Int → List (List Int)} {may : List Int → Int → Option Bool} {p : List Int} {left : Int} : ∀ (k c : Nat), (∀ j : Nat, c ≤ j → j < c + k → may p (j : Int) = some (decide ((j : Int) ≤ left))) → (∀ j : Nat, c ≤ j → (j : Int) ≤ left → rc (p ++ [(j : Int)]) = some (F j)) → left < c + k → goL rc may p (List.range' c k) = some (flatR F (left + 1 - c).toNat c)
 | 0, c, _, _, hl => by
  rw [show (left + 1 - (c : Int)).toNat = 0 by omega]
  rfl
 | k + 1, c, h, hr, hl => by
  have ih := zabx (F := F) k (c + 1) (fun j h1 h2 => h j (by omega) (by omega)) (fun j h1 h2 => hr j (by omega) h2) (by omega)
  rw [List.range'_succ]
  unfold goL
  rw [h c (Nat.le_refl _) (by omega), Option.bind_some]
  by_cases e : (c : Int) ≤ left
  ·rw [decide_eq_true e, cond_true, hr c (Nat.le_refl _) e, ih]
   simp only [Option.bind_some]
   obtain ⟨m, hm⟩ : ∃ m, (left + 1 - (c : Int)).toNat = m + 1 := ⟨(left + 1 - (c : Int)).toNat - 1, by omega⟩
   rw [hm, flatR, show (left + 1 - ((c + 1 : Nat) : Int)).toNat = m by omega]
   rfl
  ·rw [decide_eq_false e, cond_false, ih, show (left + 1 - (c : Int)).toNat = 0 by omega, show (left + 1 - ((c + 1 : Nat) : Int)).toNat = 0 by omega]
   rfl
theorem zya {n : Nat} {parts : Int} (hp : 1 ≤ parts ∧ parts ≤ 8) (hn : 1 ≤ n ∧ n ≤ 900) : ∀ (d : Nat) (l : List Int), l.length + (d + 1) = n → (∀ e ∈ l, 0 ≤ e ∧ e ≤ 8) → sumL l ≤ parts → listsO (fun l j => zck l j parts n) (parts + 1).toNat (d + 1) l = some (mixL parts (d + 1) l)
 | 0, l, hl, hb, hs => by
  have h0 := zaeb hb
  rw [listsO]
  have := zabp (rc := listsO (fun l j => zck l j parts n) (parts + 1).toNat 0) (may := fun l j => zck l j parts n) (p := l) (left := parts - sumL l) (X := [l ++ [parts - sumL l]]) rfl (parts + 1).toNat 0 (fun j h1 h2 => by
   rw [zaob hb (by omega) (by omega) (by omega) hn, decide_eq_false (show ¬ (l.length : Int) < (n : Int) - 1 by omega), Bool.and_false, Bool.or_false]
   congr 1
   rw [Bool.eq_iff_iff, beq_iff_eq, beq_iff_eq]
   omega)
  rw [this, if_pos (by omega)]
  rfl
 | d + 1, l, hl, hb, hs => by
  have h0 := zaeb hb
  rw [listsO]
  have := zabx (rc := listsO (fun l j => zck l j parts n) (parts + 1).toNat (d + 1)) (F := fun j => mixL parts (d + 1) (l ++ [j])) (may := fun l j => zck l j parts n) (p := l) (left := parts - sumL l) (parts + 1).toNat 0 (fun j h1 h2 => by
   rw [zaob hb (by omega) (by omega) (by omega) hn, decide_eq_true (show (l.length : Int) < (n : Int) - 1 by omega), Bool.and_true]
   congr 1
   rw [Bool.eq_iff_iff, Bool.or_eq_true, beq_iff_eq, decide_eq_true_eq, decide_eq_true_eq]
   omega) (fun j h1 h2 => zya hp hn d (l ++ [(j : Int)]) (by simp only [List.length_append, List.length_cons, List.length_nil]; omega) (fun e he => by
    rcases List.mem_append.1 he with he | he
    ·exact hb e he
    ·rw [List.mem_singleton] at he
     omega) (by rw [zhl, zhb]; omega)) (by omega)
  rw [this, mixL]
  congr 2
  omega
theorem zabu {n : Nat} {parts : Int} (hp : 1 ≤ parts ∧ parts ≤ 8) (hn : 1 ≤ n ∧ n ≤ 900) : zlf n parts = some (mixL parts n []) := by
 obtain ⟨d, rfl⟩ : ∃ d, n = d + 1 := ⟨n - 1, by omega⟩
 unfold zlf
 have hs : smallOk ((d + 1 : Nat) : Int) parts = true := by
  simp only [smallOk, Bool.and_eq_true, decide_eq_true_eq]
  omega
 rw [hs, cond_true, show (((d + 1 : Nat) : Int)).toNat = d + 1 by omega]
 exact zya hp hn d [] (by simp) (fun e he => by cases he) (by simp only [sumL]; omega)
def allR (n : Nat) : Nat → Int → List (List Int)
 | 0, _ => []
 | k + 1, c => mixL c n [] ++ allR n k (c + 1)
def allL (s : Gs) : List (List Int) := allR s.Tins.length 8 1
theorem zady {s : Gs} (hn : 1 ≤ s.Tins.length ∧ s.Tins.length ≤ 900) : ∀ (k c : Nat), c + k = 8 → mixtO s k c = some ((allR s.Tins.length k ((c : Int) + 1)).map (Gm.mk s))
 | 0, c, _ => rfl
 | k + 1, c, h => by
  have ih := zady hn k (c + 1) (by omega)
  rw [mixtO, zabu (by omega) hn, ih]
  simp only [Option.bind_some, allR, List.map_append]
  rw [show ((c + 1 : Nat) : Int) = (c : Int) + 1 by omega]
theorem zql {s : Gs} (hs : ShOk s) : zgl s = some ((allL s).map (Gm.mk s)) := by
 have := hs.n
 exact zady (by omega) 8 0 rfl
end Go.V
end
section
namespace Go.V
open Go Go.Proofs
def filterO (f : Gm → Option Bool) : List Gm → Option (List Gm)
 | [] => some []
 | x :: L => Option.bind (f x) fun t => Option.bind (filterO f L) fun r => some (cond t (x :: r) r)
theorem zamc {itv : VV} {mc : List VV} {bf : Nat} {L : List VV} (hit : Iter Tryz.prog G0 itv L) (hti : itv.tree = true) (htm : treeL mc = true) : VPure Tryz.prog G0 107 [itv, .fn (.func bf) [] mc] (.tree (.fn (.func 126) [] [.tp [itv], .tp [.fn (.func bf) [] mc]])) := by
 obtain ⟨f, fi, ca, rfl, _⟩ := hit
 refine VPure.run mixed Tryz.call107 Tryz.func107 rfl (by simp [Tryz.ntmps107]; kernel_rfl) ?_
 simp only [vz, tyf, seval, ua, rg]
 refine ⟨rfl, .fn (.func 126) [] [.ptr 0 0, .ptr 1 0], by simp [Tryz.results107, resV, resL, resV1, upd], 20, ?_⟩
 have hti' : (treeL fi && treeL ca) = true := hti
 simp [sealV, sealL, VV.tree, treeL, updH, htm, hti']
theorem zadr {itv : VV} {bf : Nat} {mc : List VV} {L L' : List Gm} (hit : Iter Tryz.prog G0 itv (L.map sM)) (hmt : treeL mc = true) {f : Gm → Option Bool}
  (hb : ∀ a t, f a = some t → VPure Tryz.prog G0 bf (sM a :: mc) (.tree (.lit (.bool t)))) (h : filterO f L = some L') :
  Iter Tryz.prog G0 (.fn (.func 126) [] [.tp [itv], .tp [.fn (.func bf) [] mc]]) (L'.map sM) := by
 refine ⟨126, [], _, rfl, fun β I hst hr H nx hβ hI => ?_⟩
 refine VOpen.run mixed Tryz.call126 Tryz.func126 rfl (by simp [Tryz.ntmps126]; kernel_rfl) ?_
 simp only [List.nil_append, List.cons_append, argsTm3, vz, tyf, seval, ua, rg]
 refine zlw (fun tm => tm 5 = itv ∧ tm 2 = .tp [.fn (.func bf) [] mc] ∧ tm 3 = .ptr nx 0) (by refine ⟨?_, ?_, ?_⟩ <;> simp only [ua, seval, Nat.add_zero]) ?_
 rintro tm ⟨e5, e2, e3⟩
 refine zgz hit (by first | (simp only [znv, ziw, e5, zfc, seval] <;> rfl) | rfl) ?_
 intro LO hLO
 obtain ⟨J, hJ⟩ : ∃ J : Option (List VV) → Option (List VV) → List (Nat × VObj) → Prop, J = (fun o o' hp => match o with
  | some l => ∃ (p L2 : List Gm), l = p.map sM ∧ filterO f p = some L2 ∧ o' = some (L2.map sM) ∧ hp = [(nx, .cells (some 144) [.yl β]), (nx + 2, .deferred (some [])), (nx + 3, LO)]
  | none => ∃ LD : Code → VObj, (∃ tml ps az bo d, LD = fun c => VObj.loop .done (some c) tml ps az bo d) ∧ o' = none ∧ hp = [(nx, .cells (some 144) [.yl β]), (nx + 2, .deferred (some [])), (nx + 3, LD .ret)]) := ⟨_, rfl⟩
 refine ⟨ownI2 I J, zkh hst, ?_, ?_, ?_⟩
 ·rintro v rest Fr H1 nx1 hFr ⟨hp, o', hown, hj, hi⟩
  rw [hJ] at hj
  obtain ⟨p, L2, hl, hf, rfl, rfl⟩ := hj
  cases p with
  | nil => cases hl
  | cons e p =>
  simp only [List.map_cons, List.cons.injEq] at hl
  obtain ⟨rfl, rfl⟩ := hl
  obtain ⟨la, na, Ha⟩ := hown.head
  obtain ⟨lb, nb, Hb⟩ := hown.tail.head
  obtain ⟨lc, nc, Hc⟩ := hown.tail.tail.head
  have hfr : ∀ γ, (∃ q ∈ [(nx, .cells (some 144) [.yl β]), (nx + 2, .deferred (some [])), (nx + 3, LO)], (q : Nat × VObj).1 = γ) ↔ γ = nx ∨ γ = nx + 2 ∨ γ = nx + 3 := by
   intro γ
   simp [eq_comm]
  simp only [hfr] at hi
  unfold filterO at hf
  rcases ht : f e with _ | t
  ·rw [ht] at hf; cases hf
  rw [ht, Option.bind_some] at hf
  rcases hf2 : filterO f p with _ | L3
  ·rw [hf2] at hf; cases hf
  rw [hf2, Option.bind_some, Option.some.injEq] at hf
  refine zfx mixed (psl := [6]) hLO Hc zgq rfl (by kernel_rfl) (by kernel_rfl) ?_
  intro LB LD hLB hLD
  refine zib (fun tm => tm 6 = sM e ∧ tm 2 = .tp [.fn (.func bf) [] mc] ∧ tm 3 = .ptr nx 0) (by refine ⟨?_, ?_, ?_⟩ <;> simp only [zkn, zif, Tryz.ntmps126, e2, e3, seval]) ?_
  clear e5 e2 e3
  rintro tm ⟨e6, e2, e3⟩
  have hne : (nx = nx + 3) = False := by simp
  have hm1 : (nx + 3 = nx1) = False := by simp; omega
  have hm2 : (nx1 = nx + 3) = False := by simp; omega
  have hm3 : (nx = nx1) = False := by simp; omega
  have hm5 : (nx + 2 = nx1) = False := by simp; omega
  have hm6 : (nx1 = nx + 2) = False := by simp; omega
  have hm4 : (nx1 = nx) = False := by simp; omega
  simp only [vz, tyf, seval, ua, nm, rg, RStart, e6, e2, e3, Ha, Hc, Nat.add_zero, hne, hm1, hm2, hm3, hm4, hm5, hm6]
  refine ktreeR ?_ (hb e t ht) ?_
  ·have h1 : treeL (cGm e) = true := zbf.tree e
   show (treeL (cGm e) && treeL mc) = true
   rw [h1, hmt]
   rfl
  cases t with
  | false =>
   simp only [cond_false] at hf
   subst hf
   simp only [vz, tyf, seval, ua, nm, rg, RStart, e6, e2, e3, Ha, Hc, Nat.add_zero, hne, hm1, hm2, hm3, hm4, hm5, hm6]
   refine ⟨by simp only [zaa, seval], (show nx1 ≤ nx1 + 11 by omega), fun γ hγ => ?_, ?_⟩
   ·have g3 : γ ≠ nx + 3 := fun e => nc (e ▸ hγ)
    have g4 := hFr γ hγ
    simp only [updH]
    repeat rw [if_neg (by first | assumption | omega)]
   ·simp only [if_true]
    refine ⟨[(nx, .cells (some 144) [.yl β]), (nx + 2, .deferred (some [])), (nx + 3, LO)], some (L3.map sM), Own.cons (show nx < nx1 + 11 by omega) na ?_ (Own.cons (show nx + 2 < nx1 + 11 by omega) nb ?_ (Own.cons (show nx + 3 < nx1 + 11 by omega) nc ?_ Own.nil)), ?_, ?_⟩
    ·simp only [zaa, Nat.add_zero, hne, hm1, hm2, hm3, hm4, seval, Ha]
    ·simp only [updH]
     repeat rw [if_neg (by omega)]
     exact Hb
    ·simp only [zaa, seval]
    ·rw [hJ]
     exact ⟨p, L3, rfl, hf2, rfl, rfl⟩
    ·simp only [hfr]
     refine hst _ _ _ _ _ _ _ hi ?_ (by omega) (fun γ h => .inl h)
     intro γ hγ hn
     have g3 : γ ≠ nx + 3 := fun e => hn (.inr (.inr (.inr e)))
     simp only [updH]
     repeat rw [if_neg (by first | assumption | omega)]
  | true =>
   simp only [cond_true] at hf
   subst hf
   simp only [vz, tyf, seval, ua, nm, rg, RStart, e6, e2, e3, Ha, Hc, Nat.add_zero, hne, hm1, hm2, hm3, hm4, hm5, hm6]
   refine (hr (sM e) (L3.map sM) (fun γ => Fr γ ∨ γ = nx ∨ γ = nx + 2 ∨ γ = nx + 3) _ (nx1 + 11) ?_ ?_) (some (some (nx + 3))) _ _ _ rfl rfl ?_
   ·rintro γ (hγ | rfl | rfl | rfl)
    ·have := hFr γ hγ; omega
    ·omega
    ·omega
    ·omega
   ·refine hst _ _ _ _ _ _ _ hi ?_ (by show nx1 ≤ nx1 + 11; omega) (fun γ h => .inl h)
    intro γ hγ hn
    have g3 : γ ≠ nx + 3 := fun e => hn (.inr (.inr (.inr e)))
    simp only [updH]
    repeat rw [if_neg (by first | assumption | omega)]
   rintro b H2 nx2 ⟨q1, q2, q3⟩
   have Ka : H2 nx = some (.cells (some 144) [.yl β]) := by rw [q2 nx (.inr (.inl rfl))]; simp only [zaa, Nat.add_zero, hne, hm1, hm2, hm3, hm4, seval, Ha]
   have Kb : H2 (nx + 2) = some (.deferred (some [])) := by rw [q2 _ (.inr (.inr (.inl rfl)))]; simp only [zaa, Nat.add_zero, nm, hm5, hm6, seval, Hb]
   have Kc : H2 (nx + 3) = some LB := by rw [q2 _ (.inr (.inr (.inr rfl)))]; simp only [zaa, Nat.add_zero, hm1, hm2, seval]
   have KF : ∀ γ, Fr γ → H2 γ = H1 γ := by
    intro γ hγ
    have g3 : γ ≠ nx + 3 := fun e => nc (e ▸ hγ)
    have g4 := hFr γ hγ
    rw [q2 γ (.inl hγ)]
    simp only [updH]
    repeat rw [if_neg (by first | assumption | omega)]
   cases b with
   | true =>
    simp only [vz, tyf, seval, ua, nm, rg, Bool.not_true]
    refine ⟨Kc, (show nx1 ≤ nx2 by omega), fun γ hγ => ?_, ?_⟩
    ·have g3 : γ ≠ nx + 3 := fun e => nc (e ▸ hγ)
     simp only [updH]
     rw [if_neg g3]
     exact KF γ hγ
    ·simp only [if_true] at q3 ⊢
     refine ⟨[(nx, .cells (some 144) [.yl β]), (nx + 2, .deferred (some [])), (nx + 3, LO)], some (L3.map sM), Own.cons (show nx < nx2 by omega) na ?_ (Own.cons (show nx + 2 < nx2 by omega) nb ?_ (Own.cons (show nx + 3 < nx2 by omega) nc ?_ Own.nil)), ?_, ?_⟩
     ·simp only [zaa, seval, hne, Ka]
     ·simp only [zaa, nm, seval, Kb]
     ·simp only [zaa, seval]
     ·rw [hJ]
      exact ⟨p, L3, rfl, hf2, rfl, rfl⟩
     ·simp only [hfr]
      refine hst _ _ _ _ _ _ _ q3 ?_ (by omega) (fun γ h => .inl h)
      intro γ _ hn
      have g3 : γ ≠ nx + 3 := fun e => hn (.inr (.inr (.inr e)))
      simp only [updH]
      rw [if_neg g3]
   | false =>
    simp only [vz, tyf, seval, ua, nm, rg, Bool.not_false]
    refine ⟨Kc, (show nx1 ≤ nx2 by omega), fun γ hγ => ?_, ?_⟩
    ·have g3 : γ ≠ nx + 3 := fun e => nc (e ▸ hγ)
     simp only [updH]
     rw [if_neg g3]
     exact KF γ hγ
    ·simp only [Bool.false_eq_true, if_false] at q3 ⊢
     have hfr2 : ∀ γ, (∃ q ∈ [(nx, .cells (some 144) [.yl β]), (nx + 2, .deferred (some [])), (nx + 3, LD .ret)], (q : Nat × VObj).1 = γ) ↔ γ = nx ∨ γ = nx + 2 ∨ γ = nx + 3 := by
      intro γ
      simp [eq_comm]
     refine ⟨[(nx, .cells (some 144) [.yl β]), (nx + 2, .deferred (some [])), (nx + 3, LD .ret)], none, Own.cons (show nx < nx2 by omega) na ?_ (Own.cons (show nx + 2 < nx2 by omega) nb ?_ (Own.cons (show nx + 3 < nx2 by omega) nc ?_ Own.nil)), ?_, ?_⟩
     ·simp only [zaa, seval, hne, Ka]
     ·simp only [zaa, nm, seval, Kb]
     ·simp only [zaa, seval]
     ·rw [hJ]
      exact ⟨LD, ⟨_, _, _, _, _, hLD⟩, rfl, rfl⟩
     ·simp only [hfr2]
      refine hst _ _ _ _ _ _ _ q3 ?_ (by omega) (fun γ h => .inl h)
      intro γ _ hn
      have g3 : γ ≠ nx + 3 := fun e => hn (.inr (.inr (.inr e)))
      simp only [updH]
      rw [if_neg g3]
 ·have hfr : ∀ γ, (∃ q ∈ [(nx, .cells (some 144) [.yl β]), (nx + 2, .deferred (some [])), (nx + 3, LO)], (q : Nat × VObj).1 = γ) ↔ γ = nx ∨ γ = nx + 2 ∨ γ = nx + 3 := by
   intro γ
   simp [eq_comm]
  refine ⟨[(nx, .cells (some 144) [.yl β]), (nx + 2, .deferred (some [])), (nx + 3, LO)], some (L'.map sM), Own.cons (show nx < nx + 4 by omega) (fun h => h) ?_ (Own.cons (show nx + 2 < nx + 4 by omega) (fun h => h) ?_ (Own.cons (show nx + 3 < nx + 4 by omega) (fun h => h) ?_ Own.nil)), ?_, ?_⟩
  ·simp only [updH]
   rw [if_neg (by omega), if_neg (by omega), if_pos (by omega)]
  ·simp only [updH]
   simp
  ·simp only [updH]
   simp
  ·rw [hJ]
   exact ⟨L, L', rfl, h, rfl, rfl⟩
  ·simp only [hfr]
   refine hst _ _ _ _ _ _ _ hI ?_ (by omega) ?_
   ·intro γ hγ _
    simp only [updH]
    repeat rw [if_neg (by omega)]
   ·rintro γ (h | rfl | rfl | rfl)
    ·exact h.elim
    ·right; omega
    ·right; omega
    ·right; omega
 ·rintro H' nx' (⟨hp, o', hown, hj, hi⟩ | ⟨hp, o', hown, hj, hi⟩)
  ·rw [hJ] at hj
   obtain ⟨p, L2, hl, hf, rfl, rfl⟩ := hj
   cases p with
   | cons e p => cases hl
   | nil =>
   simp only [filterO, Option.some.injEq] at hf
   subst hf
   obtain ⟨la, na, Ha⟩ := hown.head
   obtain ⟨lb, nb, Hb⟩ := hown.tail.head
   obtain ⟨lc, nc, Hc⟩ := hown.tail.tail.head
   have hfr : ∀ γ, (∃ q ∈ [(nx, .cells (some 144) [.yl β]), (nx + 2, .deferred (some [])), (nx + 3, LO)], (q : Nat × VObj).1 = γ) ↔ γ = nx ∨ γ = nx + 2 ∨ γ = nx + 3 := by
    intro γ
    simp [eq_comm]
   simp only [hfr] at hi
   refine zfj hLO Hc ?_
   intro LX
   simp only [vz, tyf, seval, ua, nm, rg]
   refine zrv (by simp only [zaa, nm, seval, Hb]) ?_
   refine zjh (x := .tup []) (by simp [Tryz.results126, resV, resL]) (.inl ?_)
   refine hst _ _ _ _ _ _ _ hi ?_ (Nat.le_refl _) (fun γ h => h.elim)
   intro γ _ hn
   have g2 : γ ≠ nx + 2 := fun e => hn (.inr (.inr (.inl e)))
   have g3 : γ ≠ nx + 3 := fun e => hn (.inr (.inr (.inr e)))
   simp only [updH]
   repeat rw [if_neg (by first | assumption | omega)]
  ·rw [hJ] at hj
   obtain ⟨LD, ⟨tml, ps, az, bo, d, hLD⟩, rfl, rfl⟩ := hj
   obtain ⟨la, na, Ha⟩ := hown.head
   obtain ⟨lb, nb, Hb⟩ := hown.tail.head
   obtain ⟨lc, nc, Hc⟩ := hown.tail.tail.head
   have hfr : ∀ γ, (∃ q ∈ [(nx, .cells (some 144) [.yl β]), (nx + 2, .deferred (some [])), (nx + 3, LD .ret)], (q : Nat × VObj).1 = γ) ↔ γ = nx ∨ γ = nx + 2 ∨ γ = nx + 3 := by
    intro γ
    simp [eq_comm]
   simp only [hfr] at hi
   refine zgr hLD Hc ?_
   intro LX
   simp only [vz, tyf, seval, ua, nm, rg]
   refine zhk (by simp only [zaa, nm, seval, Hb]) ?_
   refine zav (x := .tup []) (by simp [Tryz.results126, resV, resL]) (.inr ?_)
   refine hst _ _ _ _ _ _ _ hi ?_ (Nat.le_refl _) (fun γ h => h.elim)
   intro γ _ hn
   have g2 : γ ≠ nx + 2 := fun e => hn (.inr (.inr (.inl e)))
   have g3 : γ ≠ nx + 3 := fun e => hn (.inr (.inr (.inr e)))
   simp only [updH]
   repeat rw [if_neg (by first | assumption | omega)]
theorem normX (s : Gs) {f : Nat} : normL [itX s, VV.fn (.func f) [] []] = [itX s, VV.fn (.func f) [] []] := by
 simp only [itX, zgw, zim, zafl]
def zjy (s : Gs) : Option (List Gm) := Option.bind (zgl s) (filterO zbj)
def zis (s : Gs) : VV := .fn (.func 126) [] [.tp [itX s], .tp [.fn (.func 68) [] []]]
theorem zafd (s : Gs) (R : List Gm) (h : zjy s = some R) : VPure Tryz.prog G0 75 [.agg (cGs s)] (.tree (zis s)) ∧ Iter Tryz.prog G0 (zis s) (R.map sM) := by
 unfold zjy at h
 rcases o1 : zgl s with _ | L
 ·rw [o1] at h; cases h
 rw [o1, Option.bind_some] at h
 have hi := zmk s L o1
 refine ⟨?_, zadr (mc := []) (bf := 68) hi rfl (fun a t ha => zej a t ha) h⟩
 refine VPure.run mixed Tryz.call75 Tryz.func75 rfl (by simp [Tryz.ntmps75]; kernel_rfl) ?_
 simp only [vz, tyf, seval, ua, rg]
 refine ktA (zpm s) ?_
 simp only [vz, tyf, seval, ua, rg]
 refine ktree (args0 := [itX s, .fn (.func 68) [] []]) (normX s) (by simp only [zhw, zkv, zor]; rfl) (zamc (mc := []) hi zor rfl) ?_
 simp only [vz, tyf, seval, ua, rg]
 refine ⟨rfl, zis s, by simp [Tryz.results75, resV, resL, resV1, upd]; rfl, 2, ?_⟩
 have h9 := @zor s
 simp [sealV, zis, VV.tree, treeL, h9]
theorem ztg {s : Gs} : (zis s).tree = true := by
 have h9 := @zor s
 simp [zis, VV.tree, treeL, h9]
def headE (L : List Gm) : List Int × Int := match L with
 | [] => ([], 5)
 | x :: _ => (x.mix, 0)
def zfs (s : Gs) : Option (List Int × Int) := Option.bind (zbl s) fun b => cond b (Option.bind (zjy s) fun L => some (headE L)) (some ([], 2))
theorem zjx (s : Gs) (R : List Int × Int) (h : zfs s = some R) : VPure Tryz.prog G0 42 [.agg (cGs s)] (.tree (.tup [.sl (cellsL eI R.1) (List.length R.1) false, .lit (.int .i64 R.2)])) := by
 refine VPure.runR mixed Tryz.call42 Tryz.func42 rfl (by simp [Tryz.ntmps42]; kernel_rfl) ?_
 unfold zfs at h
 rcases o0 : zbl s with _ | b
 ·rw [o0] at h; cases h
 rw [o0, Option.bind_some] at h
 simp only [vz, tyf, seval, ua, rg]
 refine ktA (zdd _ _ o0) ?_
 cases b with
 | false =>
  simp only [cond_false, Option.some.injEq] at h
  subst h
  simp only [vz, tyf, seval, ua, rg, Bool.not_false]
  refine zav (x := .tup [.lit (.slice none 0 0), .lit (.int .i64 2)]) (by simp only [Tryz.results42, resV, resL, resV1, zax, zcc, uw, cr, tyf, nm, seval] <;> rfl) ?_
  refine zay (by simp only [tre, tytre]; rfl) ?_
  simp only [outV, nrm, seval, List.map_cons, List.map_nil, zdk, List.length_nil]
 | true =>
 rw [cond_true] at h
 simp only [vz, tyf, seval, ua, rg, Bool.not_true]
 rcases o2 : zjy s with _ | L
 ·rw [o2] at h; cases h
 rw [o2, Option.bind_some] at h
 obtain ⟨hp, hi⟩ := zafd s L o2
 refine ktA hp ?_
 refine zac (fun tm => tm 2 = .ptr 1 0 ∧ tm 3 = .ptr 2 0 ∧ tm 9 = zis s) (by refine ⟨?_, ?_, ?_⟩ <;> simp only [ua, seval]) ?_
 rintro tm ⟨e2, e3, e9⟩
 simp only [vz, tyf, seval, ua, rg]
 refine zgz hi (by first | (simp only [znv, ziw, e9, zfc, seval] <;> rfl) | rfl) ?_
 intro LO hLO
 simp only [Option.some.injEq] at h
 obtain ⟨J, hJ⟩ : ∃ J : Option (List VV) → List (Nat × VObj) → Prop, J = (fun o hp => match o with
  | some l => ∃ p : List Gm, l = p.map sM ∧ hp = [(8, .deferred (some [])), (9, LO), (1, .cells (some 29) [.lit (.slice none 0 0)]), (2, .cells (some 32) [.lit (.int .i64 0)])] ∧ headE p = R
  | none => ∃ LD : Code → VObj, (∃ tml ps az bo d, LD = fun c => VObj.loop .done (some c) tml ps az bo d) ∧ hp = [(8, .deferred (some [])), (9, LD .ret), (1, .cells (some 29) [.sl (cellsL eI R.1) R.1.length false]), (2, .cells (some 32) [.lit (.int .i64 R.2)])]) := ⟨_, rfl⟩
 refine ⟨ownI J, zjl, ?_, ?_, ?_⟩
 ·rintro v rest Fr H nx hFr ⟨hp, hown, hj⟩
  rw [hJ] at hj
  obtain ⟨p, hl, rfl, hR⟩ := hj
  cases p with
  | nil => cases hl
  | cons e p =>
  simp only [List.map_cons, List.cons.injEq] at hl
  obtain ⟨rfl, rfl⟩ := hl
  obtain ⟨l8, n8, H8⟩ := hown.head
  obtain ⟨l9, n9, H9⟩ := hown.tail.head
  obtain ⟨l1, n1, H1⟩ := hown.tail.tail.head
  obtain ⟨l2, n2, H2⟩ := hown.tail.tail.tail.head
  refine zfx mixed (psl := [10]) hLO H9 zgq rfl (by kernel_rfl) (by kernel_rfl) ?_
  intro LB LD hLB hLD
  refine zib (fun tm => tm 2 = .ptr 1 0 ∧ tm 3 = .ptr 2 0 ∧ tm 10 = sM e) (by refine ⟨?_, ?_, ?_⟩ <;> simp only [zkn, zif, Tryz.ntmps42, e2, e3, seval]) ?_
  clear e2 e3 e9
  rintro tm ⟨e2, e3, e10⟩
  have m1 : (9 = nx) = False := by simp; omega
  have m2 : (nx = 9) = False := by simp; omega
  have m3 : (1 = nx) = False := by simp; omega
  have m4 : (nx = 1) = False := by simp; omega
  have m5 : (2 = nx) = False := by simp; omega
  have m6 : (nx = 2) = False := by simp; omega
  have m7 : (8 = nx) = False := by simp; omega
  simp only [vz, tyf, seval, ua, rg, RStart, e2, e3, e10, H9, H1, H2, Nat.add_zero, m1, m2, m3, m4, m5, m6]
  have hRe : R = (e.mix, 0) := hR.symm
  refine ⟨by simp only [zaa, seval], (show nx ≤ nx + 6 by omega), fun γ hγ => ?_, ?_⟩
  ·have g9 : γ ≠ 9 := fun e => n9 (e ▸ hγ)
   have gx := hFr γ hγ
   have g1 : γ ≠ 1 := fun e => n1 (e ▸ hγ)
   have g2 : γ ≠ 2 := fun e => n2 (e ▸ hγ)
   simp only [updH]
   repeat rw [if_neg (by first | assumption | omega)]
  ·simp only [Bool.false_eq_true, if_false]
   refine ⟨[(8, .deferred (some [])), (9, LD .ret), (1, .cells (some 29) [.sl (cellsL eI e.mix) e.mix.length false]), (2, .cells (some 32) [.lit (.int .i64 0)])], Own.cons (show 8 < nx + 6 by omega) n8 ?_ (Own.cons (show 9 < nx + 6 by omega) n9 ?_ (Own.cons (show 1 < nx + 6 by omega) n1 ?_ (Own.cons (show 2 < nx + 6 by omega) n2 ?_ (Own.nil)))), ?_⟩
   rotate_left 4
   ·rw [hJ]
    exact ⟨LD, ⟨_, _, _, _, _, hLD⟩, by rw [hRe]⟩
   all_goals simp only [zaa, seval, H8, m1, m2, m3, m4, m5, m6, m7, Nat.add_zero]
 ·refine ⟨[(8, .deferred (some [])), (9, LO), (1, .cells (some 29) [.lit (.slice none 0 0)]), (2, .cells (some 32) [.lit (.int .i64 0)])], Own.cons (show 8 < 10 by omega) (fun h => h) ?_ (Own.cons (show 9 < 10 by omega) (fun h => h) ?_ (Own.cons (show 1 < 10 by omega) (fun h => h) ?_ (Own.cons (show 2 < 10 by omega) (fun h => h) ?_ (Own.nil)))), ?_⟩
  rotate_left 4
  ·rw [hJ]
   exact ⟨L, rfl, rfl, h⟩
  all_goals simp only [zaa, seval]
 ·rintro H' nx' (⟨hp, hown, hj⟩ | ⟨hp, hown, hj⟩)
  ·rw [hJ] at hj
   obtain ⟨p, hl, rfl, hR⟩ := hj
   cases p with
   | cons e p => cases hl
   | nil =>
   subst hR
   obtain ⟨l8, n8, H8⟩ := hown.head
   obtain ⟨l9, n9, H9⟩ := hown.tail.head
   obtain ⟨l1, n1, H1⟩ := hown.tail.tail.head
   obtain ⟨l2, n2, H2⟩ := hown.tail.tail.tail.head
   refine zfj hLO H9 ?_
   intro LX
   simp only [vz, tyf, seval, ua, rg, e2, e3, H1, H2, headE]
   refine zhk (by simp only [zaa, seval, H8]) ?_
   refine zav (x := .tup [.lit (.slice none 0 0), .lit (.int .i64 5)]) (by simp only [Tryz.results42, resV, resL, resV1, zax, zcc, uw, cr, tyf, e2, e3, H1, H2, nm, seval] <;> rfl) ?_
   refine zay (by simp only [tre, tytre, Bool.and_self]) ?_
   simp only [outV, nrm, seval, List.map_cons, List.map_nil, zdk, List.length_nil]
  ·rw [hJ] at hj
   obtain ⟨LD, ⟨tml, ps, az, bo, d, hLD⟩, rfl⟩ := hj
   obtain ⟨l8, n8, H8⟩ := hown.head
   obtain ⟨l9, n9, H9⟩ := hown.tail.head
   obtain ⟨l1, n1, H1⟩ := hown.tail.tail.head
   obtain ⟨l2, n2, H2⟩ := hown.tail.tail.tail.head
   refine zgr hLD H9 ?_
   intro LX
   simp only [vz, tyf, seval, ua, rg, e2, e3, H1, H2]
   refine zhk (by simp only [zaa, seval, H8]) ?_
   refine zav (x := .tup [.sl (cellsL eI R.1) R.1.length false, .lit (.int .i64 R.2)]) (by simp only [Tryz.results42, resV, resL, resV1, zax, zcc, uw, cr, tyf, e2, e3, H1, H2, nm, seval] <;> rfl) ?_
   refine zay (by simp only [tre, tytre, Bool.and_self]) ?_
   simp only [outV, nrm, seval, List.map_cons, List.map_nil, zdk, List.length_nil]

def zkd (s : Gs) : Option (Int × Int) := Option.bind (zbl s) fun b => cond b (Option.bind (zjy s) fun L => cond (lenOk L) (some ((List.length L : Int), 0)) none) (some (0, 2))
theorem zpd (s : Gs) (R : Int × Int) (h : zkd s = some R) : VPure Tryz.prog G0 44 [.agg (cGs s)] (.tree (.tup [.lit (.int .i64 R.1), .lit (.int .i64 R.2)])) := by
 refine VPure.runR mixed Tryz.call44 Tryz.func44 rfl (by simp [Tryz.ntmps44]; kernel_rfl) ?_
 unfold zkd at h
 rcases o0 : zbl s with _ | b
 ·rw [o0] at h; cases h
 rw [o0, Option.bind_some] at h
 simp only [vz, tyf, seval, ua, rg]
 refine ktA (zdd _ _ o0) ?_
 cases b with
 | false =>
  simp only [cond_false, Option.some.injEq] at h
  subst h
  simp only [vz, tyf, seval, ua, rg, Bool.not_false]
  refine zav (x := .tup [.lit (.int .i64 0), .lit (.int .i64 2)]) (by simp only [Tryz.results44, resV, resL, resV1, zax, zcc, uw, cr, tyf, nm, seval] <;> rfl) ?_
  refine zay (by simp only [tre, tytre]; rfl) ?_
  simp only [outV, nrm, seval, List.map_cons, List.map_nil, zdk, List.length_nil]
 | true =>
 rw [cond_true] at h
 simp only [vz, tyf, seval, ua, rg, Bool.not_true]
 rcases o2 : zjy s with _ | L
 ·rw [o2] at h; cases h
 rw [o2, Option.bind_some] at h
 obtain ⟨hp, hi⟩ := zafd s L o2
 refine ktA hp ?_
 cases hln : lenOk L with
 | false => rw [hln] at h; cases h
 | true =>
 rw [hln, cond_true] at h
 have hlt : L.length < 9223372036854775808 := by simpa [lenOk] using hln
 refine zac (fun tm => tm 4 = .ptr 6 0 ∧ tm 9 = zis s) (by refine ⟨?_, ?_⟩ <;> simp only [ua, seval]) ?_
 rintro tm ⟨e4, e9⟩
 simp only [vz, tyf, seval, ua, rg]
 refine zgz hi (by first | (simp only [znv, ziw, e9, zfc, seval] <;> rfl) | rfl) ?_
 intro LO hLO
 simp only [Option.some.injEq] at h
 obtain ⟨J, hJ⟩ : ∃ J : Option (List VV) → List (Nat × VObj) → Prop, J = (fun o hp => match o with
  | some l => ∃ c : Nat, c + l.length = L.length ∧ hp = [(10, .deferred (some [])), (11, LO), (6, .cells (some 3) [.lit (.int .i64 c)])]
  | none => False) := ⟨_, rfl⟩
 refine ⟨ownI J, zjl, ?_, ?_, ?_⟩
 ·rintro v rest Fr H nx hFr ⟨hp, hown, hj⟩
  rw [hJ] at hj
  obtain ⟨c, hc, rfl⟩ := hj
  simp only [List.length_cons] at hc
  obtain ⟨l10, n10, H10⟩ := hown.head
  obtain ⟨l11, n11, H11⟩ := hown.tail.head
  obtain ⟨l6, n6, H6⟩ := hown.tail.tail.head
  refine zfx mixed (psl := [10]) hLO H11 zgq rfl (by kernel_rfl) (by kernel_rfl) ?_
  intro LB LD hLB hLD
  refine zib (fun tm => tm 4 = .ptr 6 0) (by simp only [zkn, zif, Tryz.ntmps44, e4, seval]) ?_
  clear e4 e9
  rintro tm e4
  have hw : IntKind.i64.wrap ((c : Int) + 1) = ((c + 1 : Nat) : Int) := by rw [IntWalk.i64_in _ (by omega)]; simp
  simp only [vz, tyf, seval, ua, rg, RStart, e4, H11, H6, hw]
  refine ⟨by simp only [zaa, seval], (show nx ≤ nx + 3 by omega), fun γ hγ => ?_, ?_⟩
  ·have g11 : γ ≠ 11 := fun e => n11 (e ▸ hγ)
   have g6 : γ ≠ 6 := fun e => n6 (e ▸ hγ)
   simp only [updH]
   repeat rw [if_neg (by first | assumption | omega)]
  ·simp only [if_true]
   refine ⟨[(10, .deferred (some [])), (11, LO), (6, .cells (some 3) [.lit (.int .i64 ((c + 1 : Nat) : Int))])], Own.cons (show 10 < nx + 3 by omega) n10 ?_ (Own.cons (show 11 < nx + 3 by omega) n11 ?_ (Own.cons (show 6 < nx + 3 by omega) n6 ?_ Own.nil)), ?_⟩
   rotate_left 3
   ·rw [hJ]
    exact ⟨c + 1, by omega, rfl⟩
   all_goals simp only [zaa, seval, H10]
 ·refine ⟨[(10, .deferred (some [])), (11, LO), (6, .cells (some 3) [.lit (.int .i64 ((0 : Nat) : Int))])], Own.cons (show 10 < 12 by omega) (fun h => h) ?_ (Own.cons (show 11 < 12 by omega) (fun h => h) ?_ (Own.cons (show 6 < 12 by omega) (fun h => h) ?_ Own.nil)), ?_⟩
  rotate_left 3
  ·rw [hJ]
   exact ⟨0, by simp, rfl⟩
  ·simp only [zaa, seval]
  ·simp only [zaa, seval]
  ·simp only [zaa, seval] <;> rfl
 ·rintro H' nx' (⟨hp, hown, hj⟩ | ⟨hp, hown, hj⟩)
  ·rw [hJ] at hj
   obtain ⟨c, hc, rfl⟩ := hj
   simp only [List.length_nil, Nat.add_zero] at hc
   subst hc
   subst h
   obtain ⟨l10, n10, H10⟩ := hown.head
   obtain ⟨l11, n11, H11⟩ := hown.tail.head
   obtain ⟨l6, n6, H6⟩ := hown.tail.tail.head
   refine zfj hLO H11 ?_
   intro LX
   simp only [vz, tyf, seval, ua, rg, e4, H6]
   refine zhk (by simp only [zaa, seval, H10]) ?_
   refine zav (x := .tup [.lit (.int .i64 (L.length : Int)), .lit (.int .i64 0)]) (by simp only [Tryz.results44, resV, resL, resV1, zax, zcc, uw, cr, tyf, nm, seval] <;> rfl) ?_
   refine zay (by simp only [tre, tytre, Bool.and_self]) ?_
   simp only [outV, nrm, seval, List.map_cons, List.map_nil]
  ·rw [hJ] at hj
   exact hj.elim
def zM : Gm := ⟨⟨⟨0, 0, 0⟩, ⟨⟨0, 0⟩, ⟨0, 0⟩, ⟨0, 0⟩⟩, ⟨0, 0⟩, 0, []⟩, []⟩
def zc : List VV := [.lit (.int .i64 0), .lit (.int .i64 0), .lit (.int .i64 0), .lit (.int .i64 0), .lit (.int .i64 0), .lit (.int .i64 0), .lit (.int .i64 0), .lit (.int .i64 0), .lit (.int .i64 0), .lit (.int .i64 0), .lit (.int .i64 0), .lit (.int .i64 0), .lit (.slice none 0 0), .lit (.slice none 0 0)]
theorem zc_eq : zc = [.lit (.int .i64 0), .lit (.int .i64 0), .lit (.int .i64 0), .lit (.int .i64 0), .lit (.int .i64 0), .lit (.int .i64 0), .lit (.int .i64 0), .lit (.int .i64 0), .lit (.int .i64 0), .lit (.int .i64 0), .lit (.int .i64 0), .lit (.int .i64 0), .lit (.slice none 0 0), .lit (.slice none 0 0)] := rfl
def bestO (better : Gm → Gm → Option Bool) : List Gm → Gm × Bool → Option (Gm × Bool)
 | [], acc => some acc
 | x :: L, acc => cond acc.2 (Option.bind (better x acc.1) fun t => bestO better L (cond t (x, true) acc)) (bestO better L (x, true))
theorem zyc {itv : VV} {bf : Nat} {mc : List VV} {L : List Gm} (hit : Iter Tryz.prog G0 itv (L.map sM)) (hmt : treeL mc = true) {better : Gm → Gm → Option Bool}
  (hb : ∀ a b t, better a b = some t → VPure Tryz.prog G0 bf (sM a :: sM b :: mc) (.tree (.lit (.bool t)))) (R : Gm × Bool) (h : bestO better L (zM, false) = some R) :
  VPure Tryz.prog G0 78 [itv, .fn (.func bf) [] mc] (.tree (.tup [sM R.1, .lit (.bool R.2)])) := by
 refine VPure.runR mixed Tryz.call78 Tryz.func78 rfl (by simp [Tryz.ntmps78]; kernel_rfl) ?_
 simp only [vz, tyf, seval, ua, rg]
 refine zlw (fun tm => tm 9 = itv ∧ tm 3 = .ptr 0 0 ∧ tm 4 = .ptr 1 0 ∧ tm 6 = .ptr 3 0 ∧ tm 7 = .ptr 4 0) (by refine ⟨?_, ?_, ?_, ?_, ?_⟩ <;> simp only [ua, seval]) ?_
 rintro tm ⟨e9, e3, e4, e6, e7⟩
 refine zgz hit (by first | (simp only [znv, ziw, e9, zfc, seval] <;> rfl) | rfl) ?_
 intro LO hLO
 obtain ⟨J, hJ⟩ : ∃ J : Option (List VV) → List (Nat × VObj) → Prop, J = (fun o hp => match o with
  | some l => ∃ (p : List Gm) (r : Gm) (fd : Bool) (y : List VV), l = p.map sM ∧ hp = [(7, .deferred (some [])), (8, LO), (0, .cells (some 111) [.fn (.func bf) [] mc]), (3, .cells (some 89) y), (1, .cells (some 89) zc), (4, .cells (some 4) [.lit (.bool fd)])] ∧ ((fd = true ∧ y = cGm r) ∨ (fd = false ∧ y = zc ∧ r = zM)) ∧ bestO better p (r, fd) = some R
  | none => False) := ⟨_, rfl⟩
 refine ⟨ownI J, zjl, ?_, ?_, ?_⟩
 ·rintro v rest Fr H nx hFr ⟨hp, hown, hj⟩
  rw [hJ] at hj
  obtain ⟨p, r, fd, y, hl, rfl, hy, hR⟩ := hj
  cases p with
  | nil => cases hl
  | cons e p =>
  simp only [List.map_cons, List.cons.injEq] at hl
  obtain ⟨rfl, rfl⟩ := hl
  obtain ⟨l7, n7, H7⟩ := hown.head
  obtain ⟨l8, n8, H8⟩ := hown.tail.head
  obtain ⟨l0, n0, H0⟩ := hown.tail.tail.head
  obtain ⟨l3, n3, H3⟩ := hown.tail.tail.tail.head
  obtain ⟨l1, n1, H1⟩ := hown.tail.tail.tail.tail.head
  obtain ⟨l4, n4, H4⟩ := hown.tail.tail.tail.tail.tail.head
  refine zfx mixed (psl := [10]) hLO H8 zgq rfl (by kernel_rfl) (by kernel_rfl) ?_
  intro LB LD hLB hLD
  refine zib (fun tm => tm 10 = sM e ∧ tm 3 = .ptr 0 0 ∧ tm 4 = .ptr 1 0 ∧ tm 6 = .ptr 3 0 ∧ tm 7 = .ptr 4 0) (by refine ⟨?_, ?_, ?_, ?_, ?_⟩ <;> simp only [zkn, zif, Tryz.ntmps78, e3, e4, e6, e7, seval]) ?_
  clear e9 e3 e4 e6 e7
  rintro tm ⟨e10, e3, e4, e6, e7⟩
  have m0 : (8 = nx) = False := by simp; omega
  have m1 : (nx = 8) = False := by simp; omega
  have m2 : (3 = nx) = False := by simp; omega
  have m3 : (nx = 3) = False := by simp; omega
  have m4 : (4 = nx) = False := by simp; omega
  have m5 : (nx = 4) = False := by simp; omega
  have m6 : (0 = nx) = False := by simp; omega
  have m7 : (nx = 0) = False := by simp; omega
  have m8 : (7 = nx) = False := by simp; omega
  have m9 : (1 = nx) = False := by simp; omega
  unfold bestO at hR
  rcases hy with ⟨rfl, rfl⟩ | ⟨rfl, rfl, rfl⟩
  ·simp only [cond_true] at hR
   rcases hbt : better e r with _ | t
   ·rw [hbt] at hR; cases hR
   rw [hbt, Option.bind_some] at hR
   simp only [vz, tyf, seval, ua, nm, rg, RStart, e10, e3, e6, e7, H8, H0, H3, H4, Nat.add_zero, m0, m1, m2, m3, m4, m5, m6, m7, m8, m9, Bool.not_true]
   refine ktreeR ?_ (hb e r t hbt) ?_
   ·have h1 : treeL (cGm e) = true := zbf.tree e
    have h2 : treeL (cGm r) = true := zbf.tree r
    show (treeL (cGm e) && (treeL (cGm r) && treeL mc)) = true
    rw [h1, h2, hmt]
    rfl
   cases t with
   | true =>
    simp only [vz, tyf, seval, ua, nm, rg, RStart, e10, e3, e6, e7, H8, H0, H3, H4, Nat.add_zero, m0, m1, m2, m3, m4, m5, m6, m7, m8, m9]
    refine ⟨by simp only [zaa, seval], (show nx ≤ nx + 13 by omega), fun γ hγ => ?_, ?_⟩
    ·have gx := hFr γ hγ
     have g8 : γ ≠ 8 := fun e => n8 (e ▸ hγ)
     have g3 : γ ≠ 3 := fun e => n3 (e ▸ hγ)
     have g4 : γ ≠ 4 := fun e => n4 (e ▸ hγ)
     simp only [updH]
     repeat rw [if_neg (by first | assumption | omega)]
    ·simp only [if_true]
     refine ⟨[(7, .deferred (some [])), (8, LO), (0, .cells (some 111) [.fn (.func bf) [] mc]), (3, .cells (some 89) (cGm e)), (1, .cells (some 89) zc), (4, .cells (some 4) [.lit (.bool true)])], Own.cons (show 7 < nx + 13 by omega) n7 ?_ (Own.cons (show 8 < nx + 13 by omega) n8 ?_ (Own.cons (show 0 < nx + 13 by omega) n0 ?_ (Own.cons (show 3 < nx + 13 by omega) n3 ?_ (Own.cons (show 1 < nx + 13 by omega) n1 ?_ (Own.cons (show 4 < nx + 13 by omega) n4 ?_ (Own.nil)))))), ?_⟩
     rotate_left 6
     ·rw [hJ]
      exact ⟨p, e, true, cGm e, rfl, rfl, .inl ⟨rfl, rfl⟩, hR⟩
     all_goals (simp only [zaa, seval, H7, H0, H3, H4, H1, Nat.add_zero, m0, m1, m2, m3, m4, m5, m6, m7, m8, m9] <;> rfl)
   | false =>
    simp only [vz, tyf, seval, ua, nm, rg, RStart, e10, e3, e6, e7, H8, H0, H3, H4, Nat.add_zero, m0, m1, m2, m3, m4, m5, m6, m7, m8, m9]
    refine ⟨by simp only [zaa, seval], (show nx ≤ nx + 10 by omega), fun γ hγ => ?_, ?_⟩
    ·have gx := hFr γ hγ
     have g8 : γ ≠ 8 := fun e => n8 (e ▸ hγ)
     have g3 : γ ≠ 3 := fun e => n3 (e ▸ hγ)
     have g4 : γ ≠ 4 := fun e => n4 (e ▸ hγ)
     simp only [updH]
     repeat rw [if_neg (by first | assumption | omega)]
    ·simp only [if_true]
     refine ⟨[(7, .deferred (some [])), (8, LO), (0, .cells (some 111) [.fn (.func bf) [] mc]), (3, .cells (some 89) (cGm r)), (1, .cells (some 89) zc), (4, .cells (some 4) [.lit (.bool true)])], Own.cons (show 7 < nx + 10 by omega) n7 ?_ (Own.cons (show 8 < nx + 10 by omega) n8 ?_ (Own.cons (show 0 < nx + 10 by omega) n0 ?_ (Own.cons (show 3 < nx + 10 by omega) n3 ?_ (Own.cons (show 1 < nx + 10 by omega) n1 ?_ (Own.cons (show 4 < nx + 10 by omega) n4 ?_ (Own.nil)))))), ?_⟩
     rotate_left 6
     ·rw [hJ]
      exact ⟨p, r, true, cGm r, rfl, rfl, .inl ⟨rfl, rfl⟩, hR⟩
     all_goals (simp only [zaa, seval, H7, H0, H3, H4, H1, Nat.add_zero, m0, m1, m2, m3, m4, m5, m6, m7, m8, m9] <;> rfl)
  ·simp only [cond_false] at hR
   simp only [vz, tyf, seval, ua, nm, rg, RStart, e10, e3, e6, e7, H8, H0, H3, H4, Nat.add_zero, m0, m1, m2, m3, m4, m5, m6, m7, m8, m9, zc_eq, Bool.not_false]
   refine ⟨by simp only [zaa, seval], (show nx ≤ nx + 13 by omega), fun γ hγ => ?_, ?_⟩
   ·have gx := hFr γ hγ
    have g8 : γ ≠ 8 := fun e => n8 (e ▸ hγ)
    have g3 : γ ≠ 3 := fun e => n3 (e ▸ hγ)
    have g4 : γ ≠ 4 := fun e => n4 (e ▸ hγ)
    simp only [updH]
    repeat rw [if_neg (by first | assumption | omega)]
   ·simp only [if_true]
    refine ⟨[(7, .deferred (some [])), (8, LO), (0, .cells (some 111) [.fn (.func bf) [] mc]), (3, .cells (some 89) (cGm e)), (1, .cells (some 89) zc), (4, .cells (some 4) [.lit (.bool true)])], Own.cons (show 7 < nx + 13 by omega) n7 ?_ (Own.cons (show 8 < nx + 13 by omega) n8 ?_ (Own.cons (show 0 < nx + 13 by omega) n0 ?_ (Own.cons (show 3 < nx + 13 by omega) n3 ?_ (Own.cons (show 1 < nx + 13 by omega) n1 ?_ (Own.cons (show 4 < nx + 13 by omega) n4 ?_ (Own.nil)))))), ?_⟩
    rotate_left 6
    ·rw [hJ]
     exact ⟨p, e, true, cGm e, rfl, rfl, .inl ⟨rfl, rfl⟩, hR⟩
    all_goals (simp only [zaa, seval, H7, H0, H3, H4, H1, Nat.add_zero, m0, m1, m2, m3, m4, m5, m6, m7, m8, m9] <;> rfl)
 ·refine ⟨[(7, .deferred (some [])), (8, LO), (0, .cells (some 111) [.fn (.func bf) [] mc]), (3, .cells (some 89) zc), (1, .cells (some 89) zc), (4, .cells (some 4) [.lit (.bool false)])], Own.cons (show 7 < 9 by omega) (fun h => h) ?_ (Own.cons (show 8 < 9 by omega) (fun h => h) ?_ (Own.cons (show 0 < 9 by omega) (fun h => h) ?_ (Own.cons (show 3 < 9 by omega) (fun h => h) ?_ (Own.cons (show 1 < 9 by omega) (fun h => h) ?_ (Own.cons (show 4 < 9 by omega) (fun h => h) ?_ (Own.nil)))))), ?_⟩
  rotate_left 6
  ·rw [hJ]
   exact ⟨L, zM, false, zc, rfl, rfl, .inr ⟨rfl, rfl, rfl⟩, h⟩
  all_goals (simp only [zaa, seval] <;> rfl)
 ·rintro H' nx' (⟨hp, hown, hj⟩ | ⟨hp, hown, hj⟩)
  ·rw [hJ] at hj
   obtain ⟨p, r, fd, y, hl, rfl, hy, hR⟩ := hj
   cases p with
   | cons e p => cases hl
   | nil =>
   simp only [bestO, Option.some.injEq] at hR
   subst hR
   obtain ⟨l7, n7, H7⟩ := hown.head
   obtain ⟨l8, n8, H8⟩ := hown.tail.head
   obtain ⟨l0, n0, H0⟩ := hown.tail.tail.head
   obtain ⟨l3, n3, H3⟩ := hown.tail.tail.tail.head
   obtain ⟨l1, n1, H1⟩ := hown.tail.tail.tail.tail.head
   obtain ⟨l4, n4, H4⟩ := hown.tail.tail.tail.tail.tail.head
   rcases hy with ⟨rfl, rfl⟩ | ⟨rfl, rfl, rfl⟩
   ·refine zfj hLO H8 ?_
    intro LX
    simp only [vz, tyf, seval, ua, nm, rg, e4, e6, e7, H3, H4, H1]
    refine zey (fun tm => tm 4 = .ptr 1 0 ∧ tm 6 = .ptr 3 0 ∧ tm 7 = .ptr 4 0) ⟨e4, e6, e7⟩ ?_
    clear e9 e3 e4 e6 e7
    rintro tm ⟨e4, e6, e7⟩
    simp only [vz, tyf, seval, ua, nm, rg, e4, e6, e7, H3, H4, H1, zc_eq]
    refine zel ⟨?_, ?_⟩
    ·simp only [zcm, zdj, zbe, zfn, and_true, true_and]
     repeat' (first | exact trivial | refine And.intro ?_ ?_ | rw [zbe] | rw [zeg] | exact Or.inl (by decide +kernel) | exact Or.inl (by dsimp only; decide +kernel) | (refine Or.inr ⟨?_, ?_⟩ <;> simp; done) | (refine Or.inr ⟨?_, ?_⟩ <;> simp <;> omega) | (refine Or.inr ⟨?_, ?_⟩ <;> simp [VEff.wr] <;> omega))
    simp only [vz, tyf, seval, ua, nm, rg, e4, e6, e7, H3, H4, H1, zc_eq]
    refine zhk (by simp only [zaa, seval, H7]) ?_
    refine zav (x := .tup [sM r, .lit (.bool true)]) (by simp only [Tryz.results78, resV, resL, resV1, zax, zcc, uw, cr, tyf, nm, seval, e4] <;> rfl) ?_
    have hs := zbf.tree r
    refine zay (by simp only [tre, tytre, hs, Bool.and_self]) ?_
    simp only [outV, nrm, tynrm, seval, List.map_cons, List.map_nil]
   ·refine zfj hLO H8 ?_
    intro LX
    simp only [vz, tyf, seval, ua, nm, rg, e4, e6, e7, H3, H4, H1]
    refine zey (fun tm => tm 4 = .ptr 1 0 ∧ tm 6 = .ptr 3 0 ∧ tm 7 = .ptr 4 0) ⟨e4, e6, e7⟩ ?_
    clear e9 e3 e4 e6 e7
    rintro tm ⟨e4, e6, e7⟩
    simp only [vz, tyf, seval, ua, nm, rg, e4, e6, e7, H3, H4, H1, zc_eq]
    refine zel ⟨?_, ?_⟩
    ·simp only [zcm, zdj, zbe, zfn, and_true, true_and]
     repeat' (first | exact trivial | refine And.intro ?_ ?_ | rw [zbe] | rw [zeg] | exact Or.inl (by decide +kernel) | exact Or.inl (by dsimp only; decide +kernel) | (refine Or.inr ⟨?_, ?_⟩ <;> simp; done) | (refine Or.inr ⟨?_, ?_⟩ <;> simp <;> omega) | (refine Or.inr ⟨?_, ?_⟩ <;> simp [VEff.wr] <;> omega))
    simp only [vz, tyf, seval, ua, nm, rg, e4, e6, e7, H3, H4, H1, zc_eq]
    refine zhk (by simp only [zaa, seval, H7]) ?_
    refine zav (x := .tup [.agg zc, .lit (.bool false)]) (by simp only [Tryz.results78, resV, resL, resV1, zax, zcc, uw, cr, tyf, nm, seval, e4] <;> rfl) ?_
    refine zay (by simp only [zc_eq, tre, tytre, Bool.and_self]) ?_
    simp only [outV, nrm, seval, zc_eq, List.map_cons, List.map_nil, zdk, List.length_nil]
    rfl
  ·rw [hJ] at hj
   exact hj.elim
def zbt (x0_x : Gm) : Option (Int) := Option.bind (zbk x0_x 0) (fun r1 => Option.bind (zbk x0_x 1) (fun r2 => Option.bind (zbk x0_x 2) (fun r3 => some (if (if (if 0 < r1 then r1 else 0) < r2 then r2 else (if 0 < r1 then r1 else 0)) < r3 then r3 else (if (if 0 < r1 then r1 else 0) < r2 then r2 else (if 0 < r1 then r1 else 0))))))
theorem zep (x0_x : Gm) (R : Int) (h : zbt x0_x = some R) : VPure Tryz.prog G0 81 [.agg (cGm x0_x)] (.tree (.lit (.int .i64 R))) := by
 refine VPure.runR mixed Tryz.call81 Tryz.func81 rfl (by simp [Tryz.ntmps81]; kernel_rfl) ?_
 obtain ⟨KF, h, kF, kN⟩ := zaq h
 simp only [zbt] at h
 simp only [vz, tyf, nm, seval]
 refine zfm mixed (by kernel_rfl) 4 ?_
 obtain ⟨r4, o5, h⟩ := optI h kN
 try simp only [hs] at h
 simp only [vz, tyf, nm, seval]
 refine ktA (zcs _ _ _ o5) ?_
 refine zac (fun tm => tm 1 = .ptr 0 0 ∧ tm 5 = .lit (.int .i64 0) ∧ tm 8 = .lit (.int .i64 0) ∧ tm 11 = .lit (.int .i64 r4) ∧ True) (by refine ⟨?_, ?_, ?_, ?_, trivial⟩ <;> first | (simp only [ua, nm, seval] <;> rfl) | rfl) ?_
 rintro tm ⟨e6, e7, e8, e9, _⟩
 obtain ⟨r10, o11, h⟩ := optI h kN
 try simp only [hs] at h
 simp only [vz, tyf, e6, e7, e8, e9, nm, seval]
 refine ktA (zcs _ _ _ o11) ?_
 refine zac (fun tm => tm 1 = .ptr 0 0 ∧ tm 5 = .lit (.int .i64 1) ∧ tm 8 = .lit (.int .i64 (if 0 < r4 then r4 else 0)) ∧ tm 11 = .lit (.int .i64 r10) ∧ True) (by refine ⟨e6, ?_, ?_, ?_, trivial⟩ <;> first | (simp only [ua, e6, e7, e8, e9, nm, seval] <;> rfl) | rfl) ?_
 rintro tm ⟨e12, e13, e14, e15, _⟩
 obtain ⟨r16, o17, h⟩ := optI h kN
 try simp only [hs] at h
 simp only [vz, tyf, e12, e13, e14, e15, nm, seval]
 refine ktA (zcs _ _ _ o17) ?_
 refine zac (fun tm => tm 1 = .ptr 0 0 ∧ tm 5 = .lit (.int .i64 2) ∧ tm 8 = .lit (.int .i64 (if (if 0 < r4 then r4 else 0) < r10 then r10 else (if 0 < r4 then r4 else 0))) ∧ tm 11 = .lit (.int .i64 r16) ∧ True) (by refine ⟨e12, ?_, ?_, ?_, trivial⟩ <;> first | (simp only [ua, e12, e13, e14, e15, nm, seval] <;> rfl) | rfl) ?_
 rintro tm ⟨e18, e19, e20, e21, _⟩
 try simp only [vz, tyf, e18, e19, e20, e21, nm, seval]
 refine zav (x := (.lit (.int .i64 (if (if (if 0 < r4 then r4 else 0) < r10 then r10 else (if 0 < r4 then r4 else 0)) < r16 then r16 else (if (if 0 < r4 then r4 else 0) < r10 then r10 else (if 0 < r4 then r4 else 0)))))) (by first | (simp only [Tryz.results81, resV, resL, resV1, zax, zcc, uw, cr, tyf, nm, seval] <;> rfl) | rfl) ?_
 obtain rfl := kF _ h
 refine zay ?_ ?_
 ·simp only [tre, tytre, Bool.and_self]
 ·first | (simp only [outV, uw, zak, cr, tyf, nrm, tynrm, e18, e19, e20, e21, nm, seval] <;> rfl) | rfl
def zdu (x0_a : Gm) (x1_b : Gm) : Option (Bool) := Option.bind (zbt x0_a) (fun r1 => Option.bind (zbt x1_b) (fun r2 => some (decide (r1 < r2))))
theorem znx (x0_a : Gm) (x1_b : Gm) (R : Bool) (h : zdu x0_a x1_b = some R) : VPure Tryz.prog G0 80 [.agg (cGm x0_a), .agg (cGm x1_b)] (.tree (.lit (.bool R))) := by
 refine VPure.runR mixed Tryz.call80 Tryz.func80 rfl (by simp [Tryz.ntmps80]; kernel_rfl) ?_
 obtain ⟨KF, h, kF, kN⟩ := zaq h
 simp only [zdu] at h
 simp only [vz, tyf, nm, seval]
 refine zgb (fun tm => tm 2 = .ptr 0 0 ∧ tm 3 = .ptr 1 0 ∧ True) (by refine ⟨?_, ?_, trivial⟩ <;> first | (simp only [ua, nm, seval] <;> rfl) | rfl) ?_
 rintro tm ⟨e3, e4, _⟩
 obtain ⟨r5, o6, h⟩ := optI h kN
 try simp only [hs] at h
 simp only [vz, tyf, e3, e4, nm, seval]
 refine dktA (zep _ _ o6) ?_
 refine zac (fun tm => tm 3 = .ptr 1 0 ∧ tm 6 = .lit (.int .i64 r5) ∧ True) (by refine ⟨e4, ?_, trivial⟩ <;> first | (simp only [ua, e3, e4, nm, seval] <;> rfl) | rfl) ?_
 rintro tm ⟨e7, e8, _⟩
 obtain ⟨r9, o10, h⟩ := optI h kN
 try simp only [hs] at h
 simp only [vz, tyf, e7, e8, nm, seval]
 refine dktA (zep _ _ o10) ?_
 refine zac (fun tm => tm 6 = .lit (.int .i64 r5) ∧ tm 8 = .lit (.int .i64 r9) ∧ True) (by refine ⟨e8, ?_, trivial⟩ <;> first | (simp only [ua, e7, e8, nm, seval] <;> rfl) | rfl) ?_
 rintro tm ⟨e11, e12, _⟩
 try simp only [vz, tyf, e11, e12, nm, seval]
 obtain rfl := kF _ h
 exact zab Tryz.results80 rfl
end Go.V
end
