/- Part of a proof. -/
import Derived.Test.YtekhjalgmlflpaaGreatDoorRbh
set_option linter.all false
set_option maxRecDepth 4000
set_option maxHeartbeats 40000000
section
namespace Go.V
open Go Go.Proofs
abbrev sM (x : Gm) : VV := .agg (cGm x)
def mixtO (s : Gs) : Nat → Nat → Option (List Gm)
 | 0, _ => some []
 | k + 1, c => Option.bind (zso (List.length s.Tins) ((c + 1 : Nat) : Int)) fun L => Option.bind (mixtO s k (c + 1)) fun r => some (L.map (Gm.mk s) ++ r)
def zis (s : Gs) : Option (List Gm) := mixtO s 8 0
def itX (s : Gs) : VV := .fn (.func 109) [] [.tp (cGs s)]
theorem zqa {s : Gs} : (itX s).tree = true := by
 have h : treeL (cGs s) = true := zar.tree s
 simp [itX, VV.tree, treeL, h]
theorem zamn {H : Nat → Option VObj} {f : FuncId} {el : Option TypeId} {cs : List VV} (hH : H 0 = some (.cells el cs)) (h : treeL cs = true) (hl : cs.length < 40) : sealV H 50 (.fn (.func f) [] [.ptr 0 0]) = some (.fn (.func f) [] [.tp cs]) := by
 have e0 : (VV.ptr 0 0).tree = false := rfl
 have e : sealV H 48 (.ptr 0 0) = some (.tp cs) := by
  show sealV H (47 + 1) _ = _
  simp only [sealV, e0, hH, Nat.zero_le, if_true, List.drop_zero]
  rw [zjw _ 47 h (by omega)]
  rfl
 have e1 : sealL H 49 [.ptr 0 0] = some [.tp cs] := by
  show sealL H (48 + 1) _ = _
  simp only [sealL, e]
 have e2 : sealL H 49 [] = some [] := by
  show sealL H (48 + 1) _ = _
  simp only [sealL]
 show sealV H (49 + 1) _ = _
 have e3 : (VV.fn (.func f) [] [.ptr 0 0]).tree = false := rfl
 simp only [sealV, e3, e1, e2]
 rfl
theorem zrl (s : Gs) : VPure Tryz.prog G0 79 [.agg (cGs s)] (.tree (itX s)) := by
 refine VPure.run mixed Tryz.call79 Tryz.func79 rfl (by simp [Tryz.ntmps79]; kernel_rfl) ?_
 simp only [vz, tyf, seval, ua, rg]
 refine ⟨rfl, .fn (.func 109) [] [.ptr 0 0], by simp [Tryz.results79, resV, resL, resV1, upd], 50, ?_⟩
 have h : treeL (cGs s) = true := zar.tree s
 exact zamn (cs := cGs s) (el := some 28) (by simp only [zaa, seval] <;> rfl) h (by simp [cGs])
theorem ztu {P : Program} {G : Glob} {fn : Func} {R Rp : VV → (Nat → Option VObj) → Nat → Prop} {tm : Nat → VV} {nx : Nat} : ∀ (ds : List Nat) (H : Nat → Option VObj), ds.Nodup → (∀ d ∈ ds, H d = some (.deferred (some []))) → (∀ H2, (∀ γ, γ ∉ ds → H2 γ = H γ) → OpenPostD P G fn R Rp .normal ⟨tm, H2, nx, []⟩) → OpenPostD P G fn R Rp .normal ⟨tm, H, nx, ds.map VDef.coll⟩
 | [], H, _, _, h => h H fun _ _ => rfl
 | d :: ds, H, hn, hd, h => by
  rw [List.nodup_cons] at hn
  refine zsv (hd d (List.mem_cons_self ..)) (ztu ds _ hn.2 (fun e he => ?_) fun H2 h2 => h H2 fun γ hγ => ?_)
  ·have hne : e ≠ d := fun hh => hn.1 (hh ▸ he)
   simp only [updH]
   rw [if_neg hne]
   exact hd e (List.mem_cons_of_mem _ he)
  ·simp only [List.mem_cons, not_or] at hγ
   rw [h2 γ hγ.2]
   simp only [updH]
   rw [if_neg hγ.1]
theorem zze {P : Program} {G : Glob} {fn : Func} {R Rp : VV → (Nat → Option VObj) → Nat → Prop} {tm : Nat → VV} {nx : Nat} : ∀ (ds : List Nat) (H : Nat → Option VObj), ds.Nodup → (∀ d ∈ ds, H d = some (.deferred (some []))) → (∀ H2, (∀ γ, γ ∉ ds → H2 γ = H γ) → OpenPostD P G fn R Rp .ret ⟨tm, H2, nx, []⟩) → OpenPostD P G fn R Rp .ret ⟨tm, H, nx, ds.map VDef.coll⟩
 | [], H, _, _, h => h H fun _ _ => rfl
 | d :: ds, H, hn, hd, h => by
  rw [List.nodup_cons] at hn
  refine ziq (hd d (List.mem_cons_self ..)) (zze ds _ hn.2 (fun e he => ?_) fun H2 h2 => h H2 fun γ hγ => ?_)
  ·have hne : e ≠ d := fun hh => hn.1 (hh ▸ he)
   simp only [updH]
   rw [if_neg hne]
   exact hd e (List.mem_cons_of_mem _ he)
  ·simp only [List.mem_cons, not_or] at hγ
   rw [h2 γ hγ.2]
   simp only [updH]
   rw [if_neg hγ.1]
theorem zarm {Fr : Nat → Prop} {H : Nat → Option VObj} {nx : Nat} {ds : List Nat} (h : ∀ d ∈ ds, d < nx ∧ ¬ Fr d ∧ H d = some (.deferred (some []))) : Own (ds.map fun d => (d, VObj.deferred (some []))) Fr H nx := by
 intro q hq
 obtain ⟨d, hd, rfl⟩ := List.mem_map.1 hq
 exact h d hd
theorem zafh {Fr : Nat → Prop} {H : Nat → Option VObj} {nx : Nat} {ds : List Nat} (h : Own (ds.map fun d => (d, VObj.deferred (some []))) Fr H nx) : ∀ d ∈ ds, d < nx ∧ ¬ Fr d ∧ H d = some (.deferred (some [])) := fun d hd => h (d, _) (List.mem_map.2 ⟨d, hd, rfl⟩)
theorem znk (s : Gs) (R : List Gm) (h : zis s = some R) : Iter Tryz.prog G0 (itX s) (R.map sM) := by
 refine ⟨109, [], _, rfl, fun β I hst hr H nx hβ hI => ?_⟩
 refine VOpen.run mixed Tryz.call109 Tryz.func109 rfl (by simp [Tryz.ntmps109]; kernel_rfl) ?_
 simp only [List.nil_append, List.cons_append, argsTm2, vz, tyf, seval, ua, rg]
 obtain ⟨J0, hJ0⟩ : ∃ J : Nat → St → Prop, J = (fun m st => ∃ (c : Nat) (ds : List Nat), c + m = 8 ∧ st.df = ds.map VDef.coll ∧ ds.Nodup ∧ (∀ d ∈ ds, nx < d ∧ d < st.nx ∧ st.H d = some (.deferred (some []))) ∧ nx < st.nx ∧ st.H nx = some (.cells (some 144) [.yl β]) ∧
   st.tm 1 = .tp (cGs s) ∧ st.tm 2 = .ptr nx 0 ∧ st.tm 5 = .lit (.int .i64 (c : Int)) ∧ ∃ L, mixtO s m c = some L ∧ I (some (L.map sM)) (fun γ => γ = nx ∨ γ ∈ ds) st.H st.nx) := ⟨_, rfl⟩
 refine loopK mixed (by kernel_rfl) J0 8 (by
  rw [hJ0]
  refine ⟨0, [], rfl, rfl, List.nodup_nil, fun d hd => (by cases hd), (by show nx < nx + 2; omega), ?_, ?_, ?_, ?_, R, h, ?_⟩
  ·simp [updH]
  ·rfl
  ·rfl
  ·rfl
  ·refine hst _ _ _ _ _ _ _ hI ?_ (by show nx ≤ nx + 2; omega) ?_
   ·intro γ hγ _
    simp only [updH]
    rw [if_neg (by omega)]
   ·rintro γ (rfl | hγ)
    ·right; show γ ≤ γ ∧ γ < γ + 2; omega
    ·cases hγ) ?_
 rintro m ⟨tm, H1, nx1, df⟩ hinv
 rw [hJ0] at hinv
 obtain ⟨c, ds, hc, hdf, hnd, hds, hnx, Hy, e1, e2, e5, L, hL, hI1⟩ := hinv
 simp only at hdf hds hnx Hy e1 e2 e5 hI1
 subst hdf
 cases m with
 | zero =>
  have hd1 : decide ((c : Int) < 8) = false := by simp; omega
  simp only [vz, tyf, seval, ua, e5, hd1]
  refine ztu ds _ hnd (fun d hd => (hds d hd).2.2) fun H2 h2 => ?_
  refine zkl (x := .tup []) (by simp [Tryz.results109, resV, resL]) (.inl ?_)
  simp only [mixtO, Option.some.injEq] at hL
  subst hL
  refine hst _ _ _ _ _ _ _ hI1 ?_ (by show nx1 ≤ nx1 + 1; omega) (fun γ h => h.elim)
  intro γ _ hn
  exact h2 γ fun hh => hn (.inr hh)
 | succ m =>
  have hd1 : decide ((c : Int) < 8) = true := by simp; omega
  have hw : IntKind.i64.wrap ((c : Int) + 1) = ((c + 1 : Nat) : Int) := by rw [IntWalk.i64_in _ (by omega)]; simp
  rw [mixtO] at hL
  rcases hLa : zso (List.length s.Tins) ((c + 1 : Nat) : Int) with _ | La
  ·rw [hLa] at hL; cases hL
  rw [hLa, Option.bind_some] at hL
  rcases hLr : mixtO s m (c + 1) with _ | Lr
  ·rw [hLr] at hL; cases hL
  rw [hLr, Option.bind_some, Option.some.injEq] at hL
  subst hL
  obtain ⟨hp, hi⟩ := zabq _ _ _ hLa
  simp only [vz, tyf, seval, ua, e1, e2, e5, hd1, hw]
  refine ktA hp ?_
  simp only [vz, tyf, seval, ua, rg]
  refine zmu (fun tm => tm 13 = itM (List.length s.Tins) ((c + 1 : Nat) : Int) ∧ tm 1 = .tp (cGs s) ∧ tm 2 = .ptr nx 0 ∧ tm 5 = .lit (.int .i64 (c : Int))) (by refine ⟨?_, ?_, ?_, ?_⟩ <;> simp only [ua, seval, e1, e2, e5] <;> rfl) ?_
  clear e1 e2 e5 tm
  rintro tm ⟨e13, e1, e2, e5⟩
  refine zhw hi (by first | (simp only [zpn, zkq, e13, zgf, seval] <;> rfl) | rfl) ?_
  intro LO hLO
  obtain ⟨hp0, hhp0⟩ : ∃ hp0 : List (Nat × VObj), hp0 = (nx, VObj.cells (some 144) [.yl β]) :: ds.map (fun d => (d, VObj.deferred (some []))) := ⟨_, rfl⟩
  obtain ⟨J, hJ⟩ : ∃ J : Option (List VV) → Option (List VV) → List (Nat × VObj) → Prop, J = (fun o o' hp => match o with
   | some l => ∃ p : List (List Int), l = p.map sI ∧ o' = some ((p.map (Gm.mk s) ++ Lr).map sM) ∧ hp = (nx1 + 9, .deferred (some [])) :: (nx1 + 10, LO) :: hp0
   | none => ∃ LD : Code → VObj, (∃ tml ps az bo d, LD = fun c => VObj.loop .done (some c) tml ps az bo d) ∧ o' = none ∧ hp = (nx1 + 9, .deferred (some [])) :: (nx1 + 10, LD .ret) :: hp0) := ⟨_, rfl⟩
  have hfr : ∀ (O : VObj) γ, (∃ q ∈ (nx1 + 9, VObj.deferred (some [])) :: (nx1 + 10, O) :: hp0, (q : Nat × VObj).1 = γ) ↔ γ = nx1 + 9 ∨ γ = nx1 + 10 ∨ γ = nx ∨ γ ∈ ds := by
   intro O γ
   rw [hhp0]
   constructor
   ·rintro ⟨q, hq, rfl⟩
    simp only [List.mem_cons, List.mem_map] at hq
    rcases hq with rfl | rfl | rfl | ⟨d, hd, rfl⟩
    ·exact .inl rfl
    ·exact .inr (.inl rfl)
    ·exact .inr (.inr (.inl rfl))
    ·exact .inr (.inr (.inr hd))
   ·rintro (rfl | rfl | rfl | hd)
    ·exact ⟨_, List.mem_cons_self .., rfl⟩
    ·exact ⟨_, List.mem_cons_of_mem _ (List.mem_cons_self ..), rfl⟩
    ·exact ⟨_, List.mem_cons_of_mem _ (List.mem_cons_of_mem _ (List.mem_cons_self ..)), rfl⟩
    ·exact ⟨(γ, _), List.mem_cons_of_mem _ (List.mem_cons_of_mem _ (List.mem_cons_of_mem _ (List.mem_map.2 ⟨γ, hd, rfl⟩))), rfl⟩
  refine ⟨ownI2 I J, zlm hst, ?_, ?_, ?_⟩
  ·rintro v rest Fr H2 nx2 hFr ⟨hp, o', hown, hj, hi⟩
   rw [hJ] at hj
   obtain ⟨p, hl, rfl, rfl⟩ := hj
   cases p with
   | nil => cases hl
   | cons e p =>
   simp only [List.map_cons, List.cons.injEq] at hl
   obtain ⟨rfl, rfl⟩ := hl
   obtain ⟨la, na, Ha⟩ := hown.head
   obtain ⟨lb, nb, Hb⟩ := hown.tail.head
   have hown0 := hown.tail.tail
   rw [hhp0] at hown0
   obtain ⟨lc, nc, Hc⟩ := hown0.head
   have hod := zafh hown0.tail
   simp only [hfr] at hi
   refine zgv mixed (psl := [14]) hLO Hb zht rfl (by kernel_rfl) (by kernel_rfl) ?_
   intro LB LD hLB hLD
   refine zjv (fun tm => tm 14 = sI e ∧ tm 1 = .tp (cGs s) ∧ tm 2 = .ptr nx 0) (by refine ⟨?_, ?_, ?_⟩ <;> simp only [zlx, zjz, Tryz.ntmps109, e1, e2, seval]) ?_
   clear e13 e1 e2 e5
   rintro tm ⟨e14, e1, e2⟩
   have hne : (nx = nx1 + 10) = False := by simp; omega
   simp only [vz, tyf, seval, ua, nm, rg, RStart, e14, e1, e2, Hb, Hc, hne]
   have hi2 : I (some (sM (Gm.mk s e) :: (p.map (Gm.mk s) ++ Lr).map sM)) (fun γ => Fr γ ∨ γ = nx1 + 9 ∨ γ = nx1 + 10 ∨ γ = nx ∨ γ ∈ ds) (updH H2 (nx1 + 10) LB) (nx2 + 7) := by
    refine hst _ _ _ _ _ _ _ hi ?_ (by omega) (fun γ h => .inl h)
    intro γ _ hn
    have g3 : γ ≠ nx1 + 10 := fun e => hn (.inr (.inr (.inl e)))
    simp only [updH]
    rw [if_neg g3]
   refine (hr (sM (Gm.mk s e)) ((p.map (Gm.mk s) ++ Lr).map sM) _ _ _ ?_ hi2) (some (some (nx1 + 10))) _ _ _ rfl rfl ?_
   ·rintro γ (hγ | rfl | rfl | rfl | hγ)
    ·have := hFr γ hγ; omega
    ·omega
    ·omega
    ·omega
    ·have := (hod γ hγ).1; omega
   rintro b H3 nx3 ⟨q1, q2, q3⟩
   have Ka : H3 (nx1 + 9) = some (.deferred (some [])) := by
    rw [q2 _ (.inr (.inl rfl))]
    simp only [updH]
    rw [if_neg (by omega)]
    exact Ha
   have Kb : H3 (nx1 + 10) = some LB := by
    rw [q2 _ (.inr (.inr (.inl rfl)))]
    simp only [zaa, seval]
   have Kc : H3 nx = some (.cells (some 144) [.yl β]) := by
    rw [q2 nx (.inr (.inr (.inr (.inl rfl))))]
    simp only [updH]
    rw [if_neg (by omega)]
    exact Hc
   have Kd : ∀ d ∈ ds, H3 d = some (.deferred (some [])) := by
    intro d hd
    have := hds d hd
    rw [q2 d (.inr (.inr (.inr (.inr hd))))]
    simp only [updH]
    rw [if_neg (by omega)]
    exact (hod d hd).2.2
   have KF : ∀ γ, Fr γ → H3 γ = H2 γ := by
    intro γ hγ
    have g3 : γ ≠ nx1 + 10 := fun e => nb (e ▸ hγ)
    rw [q2 γ (.inl hγ)]
    simp only [updH]
    rw [if_neg g3]
   have KO : ∀ (O : VObj), Own ((nx1 + 9, .deferred (some [])) :: (nx1 + 10, O) :: hp0) Fr (updH H3 (nx1 + 10) O) nx3 := by
    intro O
    refine Own.cons (show nx1 + 9 < nx3 by omega) na ?_ (Own.cons (show nx1 + 10 < nx3 by omega) nb ?_ ?_)
    ·simp only [updH]
     rw [if_neg (by omega)]
     exact Ka
    ·simp only [zaa, seval]
    ·rw [hhp0]
     refine Own.cons (show nx < nx3 by omega) nc ?_ (zarm fun d hd => ⟨?_, (hod d hd).2.1, ?_⟩)
     ·simp only [updH]
      rw [if_neg (by omega)]
      exact Kc
     ·have := (hod d hd).1; omega
     ·have := hds d hd
      simp only [updH]
      rw [if_neg (by omega)]
      exact Kd d hd
   cases b with
   | true =>
    simp only [vz, tyf, seval, ua, nm, rg, Bool.not_true]
    refine ⟨Kb, (show nx2 ≤ nx3 by omega), fun γ hγ => ?_, ?_⟩
    ·have g3 : γ ≠ nx1 + 10 := fun e => nb (e ▸ hγ)
     simp only [updH]
     rw [if_neg g3]
     exact KF γ hγ
    ·simp only [if_true] at q3 ⊢
     refine ⟨_, _, KO LO, by rw [hJ]; exact ⟨p, rfl, rfl, rfl⟩, ?_⟩
     simp only [hfr]
     refine hst _ _ _ _ _ _ _ q3 ?_ (by omega) (fun γ h => .inl h)
     intro γ _ hn
     have g3 : γ ≠ nx1 + 10 := fun e => hn (.inr (.inr (.inl e)))
     simp only [updH]
     rw [if_neg g3]
   | false =>
    simp only [vz, tyf, seval, ua, nm, rg, Bool.not_false]
    refine ⟨Kb, (show nx2 ≤ nx3 by omega), fun γ hγ => ?_, ?_⟩
    ·have g3 : γ ≠ nx1 + 10 := fun e => nb (e ▸ hγ)
     simp only [updH]
     rw [if_neg g3]
     exact KF γ hγ
    ·simp only [Bool.false_eq_true, if_false] at q3 ⊢
     refine ⟨_, _, KO (LD .ret), by rw [hJ]; exact ⟨LD, ⟨_, _, _, _, _, hLD⟩, rfl, rfl⟩, ?_⟩
     simp only [hfr]
     refine hst _ _ _ _ _ _ _ q3 ?_ (by omega) (fun γ h => .inl h)
     intro γ _ hn
     have g3 : γ ≠ nx1 + 10 := fun e => hn (.inr (.inr (.inl e)))
     simp only [updH]
     rw [if_neg g3]
  ·refine ⟨_, _, ?_, by rw [hJ]; exact ⟨La, rfl, rfl, rfl⟩, ?_⟩
   ·refine Own.cons (show nx1 + 9 < nx1 + 9 + 2 by omega) (fun h => h) ?_ (Own.cons (show nx1 + 10 < nx1 + 9 + 2 by omega) (fun h => h) ?_ ?_)
    ·simp only [updH]
     rw [if_neg (by omega)]
     simp
    ·simp only [updH]
     simp
    ·rw [hhp0]
     refine Own.cons (show nx < nx1 + 9 + 2 by omega) (fun h => h) ?_ (zarm fun d hd => ⟨?_, fun h => h, ?_⟩)
     ·simp only [updH]
      rw [if_neg (by omega), if_neg (by omega)]
      exact Hy
     ·have := (hds d hd).2.1; omega
     ·have := hds d hd
      simp only [updH]
      rw [if_neg (by omega), if_neg (by omega)]
      exact this.2.2
   ·simp only [hfr]
    refine hst _ _ _ _ _ _ _ hI1 ?_ (by omega) ?_
    ·intro γ hγ _
     simp only [updH]
     rw [if_neg (by omega), if_neg (by omega)]
    ·rintro γ (h | rfl | rfl | rfl | h)
     ·exact h.elim
     ·right; omega
     ·right; omega
     ·exact .inl (.inl rfl)
     ·exact .inl (.inr h)
  ·rintro H' nx' (⟨hp, o', hown, hj, hi⟩ | ⟨hp, o', hown, hj, hi⟩)
   ·rw [hJ] at hj
    obtain ⟨p, hl, rfl, rfl⟩ := hj
    cases p with
    | cons e p => cases hl
    | nil =>
    obtain ⟨la, na, Ha⟩ := hown.head
    obtain ⟨lb, nb, Hb⟩ := hown.tail.head
    have hown0 := hown.tail.tail
    rw [hhp0] at hown0
    obtain ⟨lc, nc, Hc⟩ := hown0.head
    have hod := zafh hown0.tail
    simp only [hfr] at hi
    refine zgm hLO Hb ?_
    intro LX
    simp only [vz, tyf, seval, ua, nm, rg, e1, e2, e5, hw]
    refine ⟨m, Nat.lt_succ_self _, ?_⟩
    rw [hJ0]
    refine ⟨c + 1, (nx1 + 9) :: ds, by omega, rfl, ?_, ?_, ?_, ?_, ?_, ?_, ?_, Lr, hLr, ?_⟩
    ·exact List.nodup_cons.2 ⟨fun hh => by have := hds _ hh; omega, hnd⟩
    ·intro d hd
     rcases List.mem_cons.1 hd with rfl | hd
     ·refine ⟨by omega, by show nx1 + 9 < nx' + 2; omega, ?_⟩
      show updH H' (nx1 + 10) LX (nx1 + 9) = _
      simp only [updH]
      rw [if_neg (by omega)]
      exact Ha
     ·have h1 := hds d hd
      have h2 := hod d hd
      refine ⟨h1.1, by show d < nx' + 2; omega, ?_⟩
      show updH H' (nx1 + 10) LX d = _
      simp only [updH]
      rw [if_neg (by omega)]
      exact h2.2.2
    ·show nx < nx' + 2
     omega
    ·show updH H' (nx1 + 10) LX nx = _
     simp only [updH]
     rw [if_neg (by omega)]
     exact Hc
    ·simp only [ua, seval, e1]
    ·simp only [ua, seval, e2]
    ·simp only [ua, seval]
    ·show I (some (Lr.map sM)) (fun γ => γ = nx ∨ γ ∈ (nx1 + 9) :: ds) (updH H' (nx1 + 10) LX) (nx' + 2)
     refine hst _ _ _ _ _ _ _ hi ?_ (by omega) ?_
     ·intro γ _ hn
      have g3 : γ ≠ nx1 + 10 := fun e => hn (.inr (.inr (.inl e)))
      simp only [updH]
      rw [if_neg g3]
     ·rintro γ (rfl | hγ)
      ·exact .inl (.inr (.inr (.inr (.inl rfl))))
      ·rcases List.mem_cons.1 hγ with rfl | hγ
       ·exact .inl (.inr (.inl rfl))
       ·exact .inl (.inr (.inr (.inr (.inr hγ))))
   ·rw [hJ] at hj
    obtain ⟨LD, ⟨tml, ps, az, bo, d, hLD⟩, rfl, rfl⟩ := hj
    obtain ⟨la, na, Ha⟩ := hown.head
    obtain ⟨lb, nb, Hb⟩ := hown.tail.head
    have hown0 := hown.tail.tail
    rw [hhp0] at hown0
    obtain ⟨lc, nc, Hc⟩ := hown0.head
    have hod := zafh hown0.tail
    simp only [hfr] at hi
    refine zhv hLD Hb ?_
    intro LX
    simp only [vz, tyf, seval, ua, nm, rg]
    refine zze ((nx1 + 9) :: ds) _ (List.nodup_cons.2 ⟨fun hh => by have := hds _ hh; omega, hnd⟩) ?_ fun H2 h2 => ?_
    ·intro d hd
     rcases List.mem_cons.1 hd with rfl | hd
     ·simp only [updH]
      rw [if_neg (by omega)]
      exact Ha
     ·have h1 := hds d hd
      simp only [updH]
      rw [if_neg (by omega)]
      exact (hod d hd).2.2
    ·refine zay (x := .tup []) (by simp [Tryz.results109, resV, resL]) (.inr ?_)
     refine hst _ _ _ _ _ _ _ hi ?_ (Nat.le_refl _) (fun γ h => h.elim)
     intro γ _ hn
     have g3 : γ ≠ nx1 + 10 := fun e => hn (.inr (.inr (.inl e)))
     rw [h2 γ (fun hh => by
      rcases List.mem_cons.1 hh with rfl | hh
      ·exact hn (.inr (.inl rfl))
      ·exact hn (.inr (.inr (.inr (.inr hh)))))]
     simp only [updH]
     rw [if_neg g3]
end Go.V
end
section
namespace Go.V
open Go Go.Proofs
def filterO (f : Gm → Option Bool) : List Gm → Option (List Gm)
 | [] => some []
 | x :: L => Option.bind (f x) fun t => Option.bind (filterO f L) fun r => some (cond t (x :: r) r)
theorem zalv {itv : VV} {mc : List VV} {bf : Nat} {L : List VV} (hit : Iter Tryz.prog G0 itv L) (hti : itv.tree = true) (htm : treeL mc = true) : VPure Tryz.prog G0 107 [itv, .fn (.func bf) [] mc] (.tree (.fn (.func 126) [] [.tp [itv], .tp [.fn (.func bf) [] mc]])) := by
 obtain ⟨f, fi, ca, rfl, _⟩ := hit
 refine VPure.run mixed Tryz.call107 Tryz.func107 rfl (by simp [Tryz.ntmps107]; kernel_rfl) ?_
 simp only [vz, tyf, seval, ua, rg]
 refine ⟨rfl, .fn (.func 126) [] [.ptr 0 0, .ptr 1 0], by simp [Tryz.results107, resV, resL, resV1, upd], 20, ?_⟩
 have hti' : (treeL fi && treeL ca) = true := hti
 simp [sealV, sealL, VV.tree, treeL, updH, htm, hti']
theorem zaew {itv : VV} {bf : Nat} {mc : List VV} {L L' : List Gm} (hit : Iter Tryz.prog G0 itv (L.map sM)) (hmt : treeL mc = true) {f : Gm → Option Bool}
  (hb : ∀ a t, f a = some t → VPure Tryz.prog G0 bf (sM a :: mc) (.tree (.lit (.bool t)))) (h : filterO f L = some L') :
  Iter Tryz.prog G0 (.fn (.func 126) [] [.tp [itv], .tp [.fn (.func bf) [] mc]]) (L'.map sM) := by
 refine ⟨126, [], _, rfl, fun β I hst hr H nx hβ hI => ?_⟩
 refine VOpen.run mixed Tryz.call126 Tryz.func126 rfl (by simp [Tryz.ntmps126]; kernel_rfl) ?_
 simp only [List.nil_append, List.cons_append, argsTm3, vz, tyf, seval, ua, rg]
 refine zmu (fun tm => tm 5 = itv ∧ tm 2 = .tp [.fn (.func bf) [] mc] ∧ tm 3 = .ptr nx 0) (by refine ⟨?_, ?_, ?_⟩ <;> simp only [ua, seval, Nat.add_zero]) ?_
 rintro tm ⟨e5, e2, e3⟩
 refine zhw hit (by first | (simp only [zpn, zkq, e5, zgf, seval] <;> rfl) | rfl) ?_
 intro LO hLO
 obtain ⟨J, hJ⟩ : ∃ J : Option (List VV) → Option (List VV) → List (Nat × VObj) → Prop, J = (fun o o' hp => match o with
  | some l => ∃ (p L2 : List Gm), l = p.map sM ∧ filterO f p = some L2 ∧ o' = some (L2.map sM) ∧ hp = [(nx, .cells (some 144) [.yl β]), (nx + 2, .deferred (some [])), (nx + 3, LO)]
  | none => ∃ LD : Code → VObj, (∃ tml ps az bo d, LD = fun c => VObj.loop .done (some c) tml ps az bo d) ∧ o' = none ∧ hp = [(nx, .cells (some 144) [.yl β]), (nx + 2, .deferred (some [])), (nx + 3, LD .ret)]) := ⟨_, rfl⟩
 refine ⟨ownI2 I J, zlm hst, ?_, ?_, ?_⟩
 ·rintro v rest Fr H1 nx1 hFr ⟨hp, o', hown, hj, hi⟩
  rw [hJ] at hj
  obtain ⟨p, L2, hl, hf, rfl, rfl⟩ := hj
  cases p with
  | nil => cases hl
  | cons e p =>
  simp only [List.map_cons, List.cons.injEq] at hl
  obtain ⟨rfl, rfl⟩ := hl
  obtain ⟨la, na, Ha⟩ := hown.head
  obtain ⟨lb, nb, Hb⟩ := hown.tail.head
  obtain ⟨lc, nc, Hc⟩ := hown.tail.tail.head
  have hfr : ∀ γ, (∃ q ∈ [(nx, .cells (some 144) [.yl β]), (nx + 2, .deferred (some [])), (nx + 3, LO)], (q : Nat × VObj).1 = γ) ↔ γ = nx ∨ γ = nx + 2 ∨ γ = nx + 3 := by
   intro γ
   simp [eq_comm]
  simp only [hfr] at hi
  unfold filterO at hf
  rcases ht : f e with _ | t
  ·rw [ht] at hf; cases hf
  rw [ht, Option.bind_some] at hf
  rcases hf2 : filterO f p with _ | L3
  ·rw [hf2] at hf; cases hf
  rw [hf2, Option.bind_some, Option.some.injEq] at hf
  refine zgv mixed (psl := [6]) hLO Hc zht rfl (by kernel_rfl) (by kernel_rfl) ?_
  intro LB LD hLB hLD
  refine zjv (fun tm => tm 6 = sM e ∧ tm 2 = .tp [.fn (.func bf) [] mc] ∧ tm 3 = .ptr nx 0) (by refine ⟨?_, ?_, ?_⟩ <;> simp only [zlx, zjz, Tryz.ntmps126, e2, e3, seval]) ?_
  clear e5 e2 e3
  rintro tm ⟨e6, e2, e3⟩
  have hne : (nx = nx + 3) = False := by simp
  have hm1 : (nx + 3 = nx1) = False := by simp; omega
  have hm2 : (nx1 = nx + 3) = False := by simp; omega
  have hm3 : (nx = nx1) = False := by simp; omega
  have hm5 : (nx + 2 = nx1) = False := by simp; omega
  have hm6 : (nx1 = nx + 2) = False := by simp; omega
  have hm4 : (nx1 = nx) = False := by simp; omega
  simp only [vz, tyf, seval, ua, nm, rg, RStart, e6, e2, e3, Ha, Hc, Nat.add_zero, hne, hm1, hm2, hm3, hm4, hm5, hm6]
  refine ktreeR ?_ (hb e t ht) ?_
  ·have h1 : treeL (cGm e) = true := zbs.tree e
   show (treeL (cGm e) && treeL mc) = true
   rw [h1, hmt]
   rfl
  cases t with
  | false =>
   simp only [cond_false] at hf
   subst hf
   simp only [vz, tyf, seval, ua, nm, rg, RStart, e6, e2, e3, Ha, Hc, Nat.add_zero, hne, hm1, hm2, hm3, hm4, hm5, hm6]
   refine ⟨by simp only [zaa, seval], (show nx1 ≤ nx1 + 11 by omega), fun γ hγ => ?_, ?_⟩
   ·have g3 : γ ≠ nx + 3 := fun e => nc (e ▸ hγ)
    have g4 := hFr γ hγ
    simp only [updH]
    repeat rw [if_neg (by first | assumption | omega)]
   ·simp only [if_true]
    refine ⟨[(nx, .cells (some 144) [.yl β]), (nx + 2, .deferred (some [])), (nx + 3, LO)], some (L3.map sM), Own.cons (show nx < nx1 + 11 by omega) na ?_ (Own.cons (show nx + 2 < nx1 + 11 by omega) nb ?_ (Own.cons (show nx + 3 < nx1 + 11 by omega) nc ?_ Own.nil)), ?_, ?_⟩
    ·simp only [zaa, Nat.add_zero, hne, hm1, hm2, hm3, hm4, seval, Ha]
    ·simp only [updH]
     repeat rw [if_neg (by omega)]
     exact Hb
    ·simp only [zaa, seval]
    ·rw [hJ]
     exact ⟨p, L3, rfl, hf2, rfl, rfl⟩
    ·simp only [hfr]
     refine hst _ _ _ _ _ _ _ hi ?_ (by omega) (fun γ h => .inl h)
     intro γ hγ hn
     have g3 : γ ≠ nx + 3 := fun e => hn (.inr (.inr (.inr e)))
     simp only [updH]
     repeat rw [if_neg (by first | assumption | omega)]
  | true =>
   simp only [cond_true] at hf
   subst hf
   simp only [vz, tyf, seval, ua, nm, rg, RStart, e6, e2, e3, Ha, Hc, Nat.add_zero, hne, hm1, hm2, hm3, hm4, hm5, hm6]
   refine (hr (sM e) (L3.map sM) (fun γ => Fr γ ∨ γ = nx ∨ γ = nx + 2 ∨ γ = nx + 3) _ (nx1 + 11) ?_ ?_) (some (some (nx + 3))) _ _ _ rfl rfl ?_
   ·rintro γ (hγ | rfl | rfl | rfl)
    ·have := hFr γ hγ; omega
    ·omega
    ·omega
    ·omega
   ·refine hst _ _ _ _ _ _ _ hi ?_ (by show nx1 ≤ nx1 + 11; omega) (fun γ h => .inl h)
    intro γ hγ hn
    have g3 : γ ≠ nx + 3 := fun e => hn (.inr (.inr (.inr e)))
    simp only [updH]
    repeat rw [if_neg (by first | assumption | omega)]
   rintro b H2 nx2 ⟨q1, q2, q3⟩
   have Ka : H2 nx = some (.cells (some 144) [.yl β]) := by rw [q2 nx (.inr (.inl rfl))]; simp only [zaa, Nat.add_zero, hne, hm1, hm2, hm3, hm4, seval, Ha]
   have Kb : H2 (nx + 2) = some (.deferred (some [])) := by rw [q2 _ (.inr (.inr (.inl rfl)))]; simp only [zaa, Nat.add_zero, nm, hm5, hm6, seval, Hb]
   have Kc : H2 (nx + 3) = some LB := by rw [q2 _ (.inr (.inr (.inr rfl)))]; simp only [zaa, Nat.add_zero, hm1, hm2, seval]
   have KF : ∀ γ, Fr γ → H2 γ = H1 γ := by
    intro γ hγ
    have g3 : γ ≠ nx + 3 := fun e => nc (e ▸ hγ)
    have g4 := hFr γ hγ
    rw [q2 γ (.inl hγ)]
    simp only [updH]
    repeat rw [if_neg (by first | assumption | omega)]
   cases b with
   | true =>
    simp only [vz, tyf, seval, ua, nm, rg, Bool.not_true]
    refine ⟨Kc, (show nx1 ≤ nx2 by omega), fun γ hγ => ?_, ?_⟩
    ·have g3 : γ ≠ nx + 3 := fun e => nc (e ▸ hγ)
     simp only [updH]
     rw [if_neg g3]
     exact KF γ hγ
    ·simp only [if_true] at q3 ⊢
     refine ⟨[(nx, .cells (some 144) [.yl β]), (nx + 2, .deferred (some [])), (nx + 3, LO)], some (L3.map sM), Own.cons (show nx < nx2 by omega) na ?_ (Own.cons (show nx + 2 < nx2 by omega) nb ?_ (Own.cons (show nx + 3 < nx2 by omega) nc ?_ Own.nil)), ?_, ?_⟩
     ·simp only [zaa, seval, hne, Ka]
     ·simp only [zaa, nm, seval, Kb]
     ·simp only [zaa, seval]
     ·rw [hJ]
      exact ⟨p, L3, rfl, hf2, rfl, rfl⟩
     ·simp only [hfr]
      refine hst _ _ _ _ _ _ _ q3 ?_ (by omega) (fun γ h => .inl h)
      intro γ _ hn
      have g3 : γ ≠ nx + 3 := fun e => hn (.inr (.inr (.inr e)))
      simp only [updH]
      rw [if_neg g3]
   | false =>
    simp only [vz, tyf, seval, ua, nm, rg, Bool.not_false]
    refine ⟨Kc, (show nx1 ≤ nx2 by omega), fun γ hγ => ?_, ?_⟩
    ·have g3 : γ ≠ nx + 3 := fun e => nc (e ▸ hγ)
     simp only [updH]
     rw [if_neg g3]
     exact KF γ hγ
    ·simp only [Bool.false_eq_true, if_false] at q3 ⊢
     have hfr2 : ∀ γ, (∃ q ∈ [(nx, .cells (some 144) [.yl β]), (nx + 2, .deferred (some [])), (nx + 3, LD .ret)], (q : Nat × VObj).1 = γ) ↔ γ = nx ∨ γ = nx + 2 ∨ γ = nx + 3 := by
      intro γ
      simp [eq_comm]
     refine ⟨[(nx, .cells (some 144) [.yl β]), (nx + 2, .deferred (some [])), (nx + 3, LD .ret)], none, Own.cons (show nx < nx2 by omega) na ?_ (Own.cons (show nx + 2 < nx2 by omega) nb ?_ (Own.cons (show nx + 3 < nx2 by omega) nc ?_ Own.nil)), ?_, ?_⟩
     ·simp only [zaa, seval, hne, Ka]
     ·simp only [zaa, nm, seval, Kb]
     ·simp only [zaa, seval]
     ·rw [hJ]
      exact ⟨LD, ⟨_, _, _, _, _, hLD⟩, rfl, rfl⟩
     ·simp only [hfr2]
      refine hst _ _ _ _ _ _ _ q3 ?_ (by omega) (fun γ h => .inl h)
      intro γ _ hn
      have g3 : γ ≠ nx + 3 := fun e => hn (.inr (.inr (.inr e)))
      simp only [updH]
      rw [if_neg g3]
 ·have hfr : ∀ γ, (∃ q ∈ [(nx, .cells (some 144) [.yl β]), (nx + 2, .deferred (some [])), (nx + 3, LO)], (q : Nat × VObj).1 = γ) ↔ γ = nx ∨ γ = nx + 2 ∨ γ = nx + 3 := by
   intro γ
   simp [eq_comm]
  refine ⟨[(nx, .cells (some 144) [.yl β]), (nx + 2, .deferred (some [])), (nx + 3, LO)], some (L'.map sM), Own.cons (show nx < nx + 4 by omega) (fun h => h) ?_ (Own.cons (show nx + 2 < nx + 4 by omega) (fun h => h) ?_ (Own.cons (show nx + 3 < nx + 4 by omega) (fun h => h) ?_ Own.nil)), ?_, ?_⟩
  ·simp only [updH]
   rw [if_neg (by omega), if_neg (by omega), if_pos (by omega)]
  ·simp only [updH]
   simp
  ·simp only [updH]
   simp
  ·rw [hJ]
   exact ⟨L, L', rfl, h, rfl, rfl⟩
  ·simp only [hfr]
   refine hst _ _ _ _ _ _ _ hI ?_ (by omega) ?_
   ·intro γ hγ _
    simp only [updH]
    repeat rw [if_neg (by omega)]
   ·rintro γ (h | rfl | rfl | rfl)
    ·exact h.elim
    ·right; omega
    ·right; omega
    ·right; omega
 ·rintro H' nx' (⟨hp, o', hown, hj, hi⟩ | ⟨hp, o', hown, hj, hi⟩)
  ·rw [hJ] at hj
   obtain ⟨p, L2, hl, hf, rfl, rfl⟩ := hj
   cases p with
   | cons e p => cases hl
   | nil =>
   simp only [filterO, Option.some.injEq] at hf
   subst hf
   obtain ⟨la, na, Ha⟩ := hown.head
   obtain ⟨lb, nb, Hb⟩ := hown.tail.head
   obtain ⟨lc, nc, Hc⟩ := hown.tail.tail.head
   have hfr : ∀ γ, (∃ q ∈ [(nx, .cells (some 144) [.yl β]), (nx + 2, .deferred (some [])), (nx + 3, LO)], (q : Nat × VObj).1 = γ) ↔ γ = nx ∨ γ = nx + 2 ∨ γ = nx + 3 := by
    intro γ
    simp [eq_comm]
   simp only [hfr] at hi
   refine zgm hLO Hc ?_
   intro LX
   simp only [vz, tyf, seval, ua, nm, rg]
   refine zsv (by simp only [zaa, nm, seval, Hb]) ?_
   refine zkl (x := .tup []) (by simp [Tryz.results126, resV, resL]) (.inl ?_)
   refine hst _ _ _ _ _ _ _ hi ?_ (Nat.le_refl _) (fun γ h => h.elim)
   intro γ _ hn
   have g2 : γ ≠ nx + 2 := fun e => hn (.inr (.inr (.inl e)))
   have g3 : γ ≠ nx + 3 := fun e => hn (.inr (.inr (.inr e)))
   simp only [updH]
   repeat rw [if_neg (by first | assumption | omega)]
  ·rw [hJ] at hj
   obtain ⟨LD, ⟨tml, ps, az, bo, d, hLD⟩, rfl, rfl⟩ := hj
   obtain ⟨la, na, Ha⟩ := hown.head
   obtain ⟨lb, nb, Hb⟩ := hown.tail.head
   obtain ⟨lc, nc, Hc⟩ := hown.tail.tail.head
   have hfr : ∀ γ, (∃ q ∈ [(nx, .cells (some 144) [.yl β]), (nx + 2, .deferred (some [])), (nx + 3, LD .ret)], (q : Nat × VObj).1 = γ) ↔ γ = nx ∨ γ = nx + 2 ∨ γ = nx + 3 := by
    intro γ
    simp [eq_comm]
   simp only [hfr] at hi
   refine zhv hLD Hc ?_
   intro LX
   simp only [vz, tyf, seval, ua, nm, rg]
   refine ziq (by simp only [zaa, nm, seval, Hb]) ?_
   refine zay (x := .tup []) (by simp [Tryz.results126, resV, resL]) (.inr ?_)
   refine hst _ _ _ _ _ _ _ hi ?_ (Nat.le_refl _) (fun γ h => h.elim)
   intro γ _ hn
   have g2 : γ ≠ nx + 2 := fun e => hn (.inr (.inr (.inl e)))
   have g3 : γ ≠ nx + 3 := fun e => hn (.inr (.inr (.inr e)))
   simp only [updH]
   repeat rw [if_neg (by first | assumption | omega)]
end Go.V
end
section
namespace Go.V
open Go Go.Proofs
theorem normX (s : Gs) {f : Nat} : normL [itX s, VV.fn (.func f) [] []] = [itX s, VV.fn (.func f) [] []] := by
 simp only [itX, zhd, zih, zacu]
def znp (s : Gs) : Option (List Gm) := Option.bind (zis s) (filterO zbp)
def zko (s : Gs) : VV := .fn (.func 126) [] [.tp [itX s], .tp [.fn (.func 68) [] []]]
theorem zagq (s : Gs) (R : List Gm) (h : znp s = some R) : VPure Tryz.prog G0 75 [.agg (cGs s)] (.tree (zko s)) ∧ Iter Tryz.prog G0 (zko s) (R.map sM) := by
 unfold znp at h
 rcases o1 : zis s with _ | L
 ·rw [o1] at h; cases h
 rw [o1, Option.bind_some] at h
 have hi := znk s L o1
 refine ⟨?_, zaew (mc := []) (bf := 68) hi rfl (fun a t ha => zds a t ha) h⟩
 refine VPure.run mixed Tryz.call75 Tryz.func75 rfl (by simp [Tryz.ntmps75]; kernel_rfl) ?_
 simp only [vz, tyf, seval, ua, rg]
 refine ktA (zrl s) ?_
 simp only [vz, tyf, seval, ua, rg]
 refine ktree (args0 := [itX s, .fn (.func 68) [] []]) (normX s) (by simp only [zjg, zme, zqa]; rfl) (zalv (mc := []) hi zqa rfl) ?_
 simp only [vz, tyf, seval, ua, rg]
 refine ⟨rfl, zko s, by simp [Tryz.results75, resV, resL, resV1, upd]; rfl, 2, ?_⟩
 have h9 := @zqa s
 simp [sealV, zko, VV.tree, treeL, h9]
theorem zvo {s : Gs} : (zko s).tree = true := by
 have h9 := @zqa s
 simp [zko, VV.tree, treeL, h9]
end Go.V
end
section
namespace Go.V
open Go Go.Proofs
def zlz (s : Gs) : Option (Int × Int) := Option.bind (zbv s) fun b => cond b (Option.bind (znp s) fun L => cond (lenOk L) (some ((List.length L : Int), 0)) none) (some (0, 2))
theorem zqd (s : Gs) (R : Int × Int) (h : zlz s = some R) : VPure Tryz.prog G0 44 [.agg (cGs s)] (.tree (.tup [.lit (.int .i64 R.1), .lit (.int .i64 R.2)])) := by
 refine VPure.runR mixed Tryz.call44 Tryz.func44 rfl (by simp [Tryz.ntmps44]; kernel_rfl) ?_
 unfold zlz at h
 rcases o0 : zbv s with _ | b
 ·rw [o0] at h; cases h
 rw [o0, Option.bind_some] at h
 simp only [vz, tyf, seval, ua, rg]
 refine ktA (zdm _ _ o0) ?_
 cases b with
 | false =>
  simp only [cond_false, Option.some.injEq] at h
  subst h
  simp only [vz, tyf, seval, ua, rg, Bool.not_false]
  refine zay (x := .tup [.lit (.int .i64 0), .lit (.int .i64 2)]) (by simp only [Tryz.results44, resV, resL, resV1, zba, zcc, uw, cr, tyf, nm, seval] <;> rfl) ?_
  refine zbb (by simp only [tre, tytre]; rfl) ?_
  simp only [outV, nrm, seval, List.map_cons, List.map_nil, zbu, List.length_nil]
 | true =>
 rw [cond_true] at h
 simp only [vz, tyf, seval, ua, rg, Bool.not_true]
 rcases o2 : znp s with _ | L
 ·rw [o2] at h; cases h
 rw [o2, Option.bind_some] at h
 obtain ⟨hp, hi⟩ := zagq s L o2
 refine ktA hp ?_
 cases hln : lenOk L with
 | false => rw [hln] at h; cases h
 | true =>
 rw [hln, cond_true] at h
 have hlt : L.length < 9223372036854775808 := by simpa [lenOk] using hln
 refine zae (fun tm => tm 4 = .ptr 6 0 ∧ tm 9 = zko s) (by refine ⟨?_, ?_⟩ <;> simp only [ua, seval]) ?_
 rintro tm ⟨e4, e9⟩
 simp only [vz, tyf, seval, ua, rg]
 refine zhw hi (by first | (simp only [zpn, zkq, e9, zgf, seval] <;> rfl) | rfl) ?_
 intro LO hLO
 simp only [Option.some.injEq] at h
 obtain ⟨J, hJ⟩ : ∃ J : Option (List VV) → List (Nat × VObj) → Prop, J = (fun o hp => match o with
  | some l => ∃ c : Nat, c + l.length = L.length ∧ hp = [(10, .deferred (some [])), (11, LO), (6, .cells (some 3) [.lit (.int .i64 c)])]
  | none => False) := ⟨_, rfl⟩
 refine ⟨ownI J, zle, ?_, ?_, ?_⟩
 ·rintro v rest Fr H nx hFr ⟨hp, hown, hj⟩
  rw [hJ] at hj
  obtain ⟨c, hc, rfl⟩ := hj
  simp only [List.length_cons] at hc
  obtain ⟨l10, n10, H10⟩ := hown.head
  obtain ⟨l11, n11, H11⟩ := hown.tail.head
  obtain ⟨l6, n6, H6⟩ := hown.tail.tail.head
  refine zgv mixed (psl := [10]) hLO H11 zht rfl (by kernel_rfl) (by kernel_rfl) ?_
  intro LB LD hLB hLD
  refine zjv (fun tm => tm 4 = .ptr 6 0) (by simp only [zlx, zjz, Tryz.ntmps44, e4, seval]) ?_
  clear e4 e9
  rintro tm e4
  have hw : IntKind.i64.wrap ((c : Int) + 1) = ((c + 1 : Nat) : Int) := by rw [IntWalk.i64_in _ (by omega)]; simp
  simp only [vz, tyf, seval, ua, rg, RStart, e4, H11, H6, hw]
  refine ⟨by simp only [zaa, seval], (show nx ≤ nx + 3 by omega), fun γ hγ => ?_, ?_⟩
  ·have g11 : γ ≠ 11 := fun e => n11 (e ▸ hγ)
   have g6 : γ ≠ 6 := fun e => n6 (e ▸ hγ)
   simp only [updH]
   repeat rw [if_neg (by first | assumption | omega)]
  ·simp only [if_true]
   refine ⟨[(10, .deferred (some [])), (11, LO), (6, .cells (some 3) [.lit (.int .i64 ((c + 1 : Nat) : Int))])], Own.cons (show 10 < nx + 3 by omega) n10 ?_ (Own.cons (show 11 < nx + 3 by omega) n11 ?_ (Own.cons (show 6 < nx + 3 by omega) n6 ?_ Own.nil)), ?_⟩
   rotate_left 3
   ·rw [hJ]
    exact ⟨c + 1, by omega, rfl⟩
   all_goals simp only [zaa, seval, H10]
 ·refine ⟨[(10, .deferred (some [])), (11, LO), (6, .cells (some 3) [.lit (.int .i64 ((0 : Nat) : Int))])], Own.cons (show 10 < 12 by omega) (fun h => h) ?_ (Own.cons (show 11 < 12 by omega) (fun h => h) ?_ (Own.cons (show 6 < 12 by omega) (fun h => h) ?_ Own.nil)), ?_⟩
  rotate_left 3
  ·rw [hJ]
   exact ⟨0, by simp, rfl⟩
  ·simp only [zaa, seval]
  ·simp only [zaa, seval]
  ·simp only [zaa, seval] <;> rfl
 ·rintro H' nx' (⟨hp, hown, hj⟩ | ⟨hp, hown, hj⟩)
  ·rw [hJ] at hj
   obtain ⟨c, hc, rfl⟩ := hj
   simp only [List.length_nil, Nat.add_zero] at hc
   subst hc
   subst h
   obtain ⟨l10, n10, H10⟩ := hown.head
   obtain ⟨l11, n11, H11⟩ := hown.tail.head
   obtain ⟨l6, n6, H6⟩ := hown.tail.tail.head
   refine zgm hLO H11 ?_
   intro LX
   simp only [vz, tyf, seval, ua, rg, e4, H6]
   refine ziq (by simp only [zaa, seval, H10]) ?_
   refine zay (x := .tup [.lit (.int .i64 (L.length : Int)), .lit (.int .i64 0)]) (by simp only [Tryz.results44, resV, resL, resV1, zba, zcc, uw, cr, tyf, nm, seval] <;> rfl) ?_
   refine zbb (by simp only [tre, tytre, Bool.and_self]) ?_
   simp only [outV, nrm, seval, List.map_cons, List.map_nil]
  ·rw [hJ] at hj
   exact hj.elim
end Go.V
end
section
namespace Go.V
open Go Go.Proofs
def zM : Gm := ⟨⟨⟨0, 0, 0⟩, ⟨⟨0, 0⟩, ⟨0, 0⟩, ⟨0, 0⟩⟩, ⟨0, 0⟩, 0, []⟩, []⟩
def zc : List VV := [.lit (.int .i64 0), .lit (.int .i64 0), .lit (.int .i64 0), .lit (.int .i64 0), .lit (.int .i64 0), .lit (.int .i64 0), .lit (.int .i64 0), .lit (.int .i64 0), .lit (.int .i64 0), .lit (.int .i64 0), .lit (.int .i64 0), .lit (.int .i64 0), .lit (.slice none 0 0), .lit (.slice none 0 0)]
theorem zc_eq : zc = [.lit (.int .i64 0), .lit (.int .i64 0), .lit (.int .i64 0), .lit (.int .i64 0), .lit (.int .i64 0), .lit (.int .i64 0), .lit (.int .i64 0), .lit (.int .i64 0), .lit (.int .i64 0), .lit (.int .i64 0), .lit (.int .i64 0), .lit (.int .i64 0), .lit (.slice none 0 0), .lit (.slice none 0 0)] := rfl
def bestO (better : Gm → Gm → Option Bool) : List Gm → Gm × Bool → Option (Gm × Bool)
 | [], acc => some acc
 | x :: L, acc => cond acc.2 (Option.bind (better x acc.1) fun t => bestO better L (cond t (x, true) acc)) (bestO better L (x, true))
theorem zyo {itv : VV} {bf : Nat} {mc : List VV} {L : List Gm} (hit : Iter Tryz.prog G0 itv (L.map sM)) (hmt : treeL mc = true) {better : Gm → Gm → Option Bool}
  (hb : ∀ a b t, better a b = some t → VPure Tryz.prog G0 bf (sM a :: sM b :: mc) (.tree (.lit (.bool t)))) (R : Gm × Bool) (h : bestO better L (zM, false) = some R) :
  VPure Tryz.prog G0 78 [itv, .fn (.func bf) [] mc] (.tree (.tup [sM R.1, .lit (.bool R.2)])) := by
 refine VPure.runR mixed Tryz.call78 Tryz.func78 rfl (by simp [Tryz.ntmps78]; kernel_rfl) ?_
 simp only [vz, tyf, seval, ua, rg]
 refine zmu (fun tm => tm 9 = itv ∧ tm 3 = .ptr 0 0 ∧ tm 4 = .ptr 1 0 ∧ tm 6 = .ptr 3 0 ∧ tm 7 = .ptr 4 0) (by refine ⟨?_, ?_, ?_, ?_, ?_⟩ <;> simp only [ua, seval]) ?_
 rintro tm ⟨e9, e3, e4, e6, e7⟩
 refine zhw hit (by first | (simp only [zpn, zkq, e9, zgf, seval] <;> rfl) | rfl) ?_
 intro LO hLO
 obtain ⟨J, hJ⟩ : ∃ J : Option (List VV) → List (Nat × VObj) → Prop, J = (fun o hp => match o with
  | some l => ∃ (p : List Gm) (r : Gm) (fd : Bool) (y : List VV), l = p.map sM ∧ hp = [(7, .deferred (some [])), (8, LO), (0, .cells (some 111) [.fn (.func bf) [] mc]), (3, .cells (some 89) y), (1, .cells (some 89) zc), (4, .cells (some 4) [.lit (.bool fd)])] ∧ ((fd = true ∧ y = cGm r) ∨ (fd = false ∧ y = zc ∧ r = zM)) ∧ bestO better p (r, fd) = some R
  | none => False) := ⟨_, rfl⟩
 refine ⟨ownI J, zle, ?_, ?_, ?_⟩
 ·rintro v rest Fr H nx hFr ⟨hp, hown, hj⟩
  rw [hJ] at hj
  obtain ⟨p, r, fd, y, hl, rfl, hy, hR⟩ := hj
  cases p with
  | nil => cases hl
  | cons e p =>
  simp only [List.map_cons, List.cons.injEq] at hl
  obtain ⟨rfl, rfl⟩ := hl
  obtain ⟨l7, n7, H7⟩ := hown.head
  obtain ⟨l8, n8, H8⟩ := hown.tail.head
  obtain ⟨l0, n0, H0⟩ := hown.tail.tail.head
  obtain ⟨l3, n3, H3⟩ := hown.tail.tail.tail.head
  obtain ⟨l1, n1, H1⟩ := hown.tail.tail.tail.tail.head
  obtain ⟨l4, n4, H4⟩ := hown.tail.tail.tail.tail.tail.head
  refine zgv mixed (psl := [10]) hLO H8 zht rfl (by kernel_rfl) (by kernel_rfl) ?_
  intro LB LD hLB hLD
  refine zjv (fun tm => tm 10 = sM e ∧ tm 3 = .ptr 0 0 ∧ tm 4 = .ptr 1 0 ∧ tm 6 = .ptr 3 0 ∧ tm 7 = .ptr 4 0) (by refine ⟨?_, ?_, ?_, ?_, ?_⟩ <;> simp only [zlx, zjz, Tryz.ntmps78, e3, e4, e6, e7, seval]) ?_
  clear e9 e3 e4 e6 e7
  rintro tm ⟨e10, e3, e4, e6, e7⟩
  have m0 : (8 = nx) = False := by simp; omega
  have m1 : (nx = 8) = False := by simp; omega
  have m2 : (3 = nx) = False := by simp; omega
  have m3 : (nx = 3) = False := by simp; omega
  have m4 : (4 = nx) = False := by simp; omega
  have m5 : (nx = 4) = False := by simp; omega
  have m6 : (0 = nx) = False := by simp; omega
  have m7 : (nx = 0) = False := by simp; omega
  have m8 : (7 = nx) = False := by simp; omega
  have m9 : (1 = nx) = False := by simp; omega
  unfold bestO at hR
  rcases hy with ⟨rfl, rfl⟩ | ⟨rfl, rfl, rfl⟩
  ·simp only [cond_true] at hR
   rcases hbt : better e r with _ | t
   ·rw [hbt] at hR; cases hR
   rw [hbt, Option.bind_some] at hR
   simp only [vz, tyf, seval, ua, nm, rg, RStart, e10, e3, e6, e7, H8, H0, H3, H4, Nat.add_zero, m0, m1, m2, m3, m4, m5, m6, m7, m8, m9, Bool.not_true]
   refine ktreeR ?_ (hb e r t hbt) ?_
   ·have h1 : treeL (cGm e) = true := zbs.tree e
    have h2 : treeL (cGm r) = true := zbs.tree r
    show (treeL (cGm e) && (treeL (cGm r) && treeL mc)) = true
    rw [h1, h2, hmt]
    rfl
   cases t with
   | true =>
    simp only [vz, tyf, seval, ua, nm, rg, RStart, e10, e3, e6, e7, H8, H0, H3, H4, Nat.add_zero, m0, m1, m2, m3, m4, m5, m6, m7, m8, m9]
    refine ⟨by simp only [zaa, seval], (show nx ≤ nx + 13 by omega), fun γ hγ => ?_, ?_⟩
    ·have gx := hFr γ hγ
     have g8 : γ ≠ 8 := fun e => n8 (e ▸ hγ)
     have g3 : γ ≠ 3 := fun e => n3 (e ▸ hγ)
     have g4 : γ ≠ 4 := fun e => n4 (e ▸ hγ)
     simp only [updH]
     repeat rw [if_neg (by first | assumption | omega)]
    ·simp only [if_true]
     refine ⟨[(7, .deferred (some [])), (8, LO), (0, .cells (some 111) [.fn (.func bf) [] mc]), (3, .cells (some 89) (cGm e)), (1, .cells (some 89) zc), (4, .cells (some 4) [.lit (.bool true)])], Own.cons (show 7 < nx + 13 by omega) n7 ?_ (Own.cons (show 8 < nx + 13 by omega) n8 ?_ (Own.cons (show 0 < nx + 13 by omega) n0 ?_ (Own.cons (show 3 < nx + 13 by omega) n3 ?_ (Own.cons (show 1 < nx + 13 by omega) n1 ?_ (Own.cons (show 4 < nx + 13 by omega) n4 ?_ (Own.nil)))))), ?_⟩
     rotate_left 6
     ·rw [hJ]
      exact ⟨p, e, true, cGm e, rfl, rfl, .inl ⟨rfl, rfl⟩, hR⟩
     all_goals (simp only [zaa, seval, H7, H0, H3, H4, H1, Nat.add_zero, m0, m1, m2, m3, m4, m5, m6, m7, m8, m9] <;> rfl)
   | false =>
    simp only [vz, tyf, seval, ua, nm, rg, RStart, e10, e3, e6, e7, H8, H0, H3, H4, Nat.add_zero, m0, m1, m2, m3, m4, m5, m6, m7, m8, m9]
    refine ⟨by simp only [zaa, seval], (show nx ≤ nx + 10 by omega), fun γ hγ => ?_, ?_⟩
    ·have gx := hFr γ hγ
     have g8 : γ ≠ 8 := fun e => n8 (e ▸ hγ)
     have g3 : γ ≠ 3 := fun e => n3 (e ▸ hγ)
     have g4 : γ ≠ 4 := fun e => n4 (e ▸ hγ)
     simp only [updH]
     repeat rw [if_neg (by first | assumption | omega)]
    ·simp only [if_true]
     refine ⟨[(7, .deferred (some [])), (8, LO), (0, .cells (some 111) [.fn (.func bf) [] mc]), (3, .cells (some 89) (cGm r)), (1, .cells (some 89) zc), (4, .cells (some 4) [.lit (.bool true)])], Own.cons (show 7 < nx + 10 by omega) n7 ?_ (Own.cons (show 8 < nx + 10 by omega) n8 ?_ (Own.cons (show 0 < nx + 10 by omega) n0 ?_ (Own.cons (show 3 < nx + 10 by omega) n3 ?_ (Own.cons (show 1 < nx + 10 by omega) n1 ?_ (Own.cons (show 4 < nx + 10 by omega) n4 ?_ (Own.nil)))))), ?_⟩
     rotate_left 6
     ·rw [hJ]
      exact ⟨p, r, true, cGm r, rfl, rfl, .inl ⟨rfl, rfl⟩, hR⟩
     all_goals (simp only [zaa, seval, H7, H0, H3, H4, H1, Nat.add_zero, m0, m1, m2, m3, m4, m5, m6, m7, m8, m9] <;> rfl)
  ·simp only [cond_false] at hR
   simp only [vz, tyf, seval, ua, nm, rg, RStart, e10, e3, e6, e7, H8, H0, H3, H4, Nat.add_zero, m0, m1, m2, m3, m4, m5, m6, m7, m8, m9, zc_eq, Bool.not_false]
   refine ⟨by simp only [zaa, seval], (show nx ≤ nx + 13 by omega), fun γ hγ => ?_, ?_⟩
   ·have gx := hFr γ hγ
    have g8 : γ ≠ 8 := fun e => n8 (e ▸ hγ)
    have g3 : γ ≠ 3 := fun e => n3 (e ▸ hγ)
    have g4 : γ ≠ 4 := fun e => n4 (e ▸ hγ)
    simp only [updH]
    repeat rw [if_neg (by first | assumption | omega)]
   ·simp only [if_true]
    refine ⟨[(7, .deferred (some [])), (8, LO), (0, .cells (some 111) [.fn (.func bf) [] mc]), (3, .cells (some 89) (cGm e)), (1, .cells (some 89) zc), (4, .cells (some 4) [.lit (.bool true)])], Own.cons (show 7 < nx + 13 by omega) n7 ?_ (Own.cons (show 8 < nx + 13 by omega) n8 ?_ (Own.cons (show 0 < nx + 13 by omega) n0 ?_ (Own.cons (show 3 < nx + 13 by omega) n3 ?_ (Own.cons (show 1 < nx + 13 by omega) n1 ?_ (Own.cons (show 4 < nx + 13 by omega) n4 ?_ (Own.nil)))))), ?_⟩
    rotate_left 6
    ·rw [hJ]
     exact ⟨p, e, true, cGm e, rfl, rfl, .inl ⟨rfl, rfl⟩, hR⟩
    all_goals (simp only [zaa, seval, H7, H0, H3, H4, H1, Nat.add_zero, m0, m1, m2, m3, m4, m5, m6, m7, m8, m9] <;> rfl)
 ·refine ⟨[(7, .deferred (some [])), (8, LO), (0, .cells (some 111) [.fn (.func bf) [] mc]), (3, .cells (some 89) zc), (1, .cells (some 89) zc), (4, .cells (some 4) [.lit (.bool false)])], Own.cons (show 7 < 9 by omega) (fun h => h) ?_ (Own.cons (show 8 < 9 by omega) (fun h => h) ?_ (Own.cons (show 0 < 9 by omega) (fun h => h) ?_ (Own.cons (show 3 < 9 by omega) (fun h => h) ?_ (Own.cons (show 1 < 9 by omega) (fun h => h) ?_ (Own.cons (show 4 < 9 by omega) (fun h => h) ?_ (Own.nil)))))), ?_⟩
  rotate_left 6
  ·rw [hJ]
   exact ⟨L, zM, false, zc, rfl, rfl, .inr ⟨rfl, rfl, rfl⟩, h⟩
  all_goals (simp only [zaa, seval] <;> rfl)
 ·rintro H' nx' (⟨hp, hown, hj⟩ | ⟨hp, hown, hj⟩)
  ·rw [hJ] at hj
   obtain ⟨p, r, fd, y, hl, rfl, hy, hR⟩ := hj
   cases p with
   | cons e p => cases hl
   | nil =>
   simp only [bestO, Option.some.injEq] at hR
   subst hR
   obtain ⟨l7, n7, H7⟩ := hown.head
   obtain ⟨l8, n8, H8⟩ := hown.tail.head
   obtain ⟨l0, n0, H0⟩ := hown.tail.tail.head
   obtain ⟨l3, n3, H3⟩ := hown.tail.tail.tail.head
   obtain ⟨l1, n1, H1⟩ := hown.tail.tail.tail.tail.head
   obtain ⟨l4, n4, H4⟩ := hown.tail.tail.tail.tail.tail.head
   rcases hy with ⟨rfl, rfl⟩ | ⟨rfl, rfl, rfl⟩
   ·refine zgm hLO H8 ?_
    intro LX
    simp only [vz, tyf, seval, ua, nm, rg, e4, e6, e7, H3, H4, H1]
    refine zbw (fun tm => tm 4 = .ptr 1 0 ∧ tm 6 = .ptr 3 0 ∧ tm 7 = .ptr 4 0) ⟨e4, e6, e7⟩ ?_
    clear e9 e3 e4 e6 e7
    rintro tm ⟨e4, e6, e7⟩
    simp only [vz, tyf, seval, ua, nm, rg, e4, e6, e7, H3, H4, H1, zc_eq]
    refine zbl ⟨?_, ?_⟩
    ·simp only [zas, zaz, zad, zbz, and_true, true_and]
     repeat' (first | exact trivial | refine And.intro ?_ ?_ | rw [zad] | rw [zbk] | exact Or.inl (by decide +kernel) | exact Or.inl (by dsimp only; decide +kernel) | (refine Or.inr ⟨?_, ?_⟩ <;> simp; done) | (refine Or.inr ⟨?_, ?_⟩ <;> simp <;> omega) | (refine Or.inr ⟨?_, ?_⟩ <;> simp [VEff.wr] <;> omega))
    simp only [vz, tyf, seval, ua, nm, rg, e4, e6, e7, H3, H4, H1, zc_eq]
    refine ziq (by simp only [zaa, seval, H7]) ?_
    refine zay (x := .tup [sM r, .lit (.bool true)]) (by simp only [Tryz.results78, resV, resL, resV1, zba, zcc, uw, cr, tyf, nm, seval, e4] <;> rfl) ?_
    have hs := zbs.tree r
    refine zbb (by simp only [tre, tytre, hs, Bool.and_self]) ?_
    simp only [outV, nrm, tynrm, seval, List.map_cons, List.map_nil]
   ·refine zgm hLO H8 ?_
    intro LX
    simp only [vz, tyf, seval, ua, nm, rg, e4, e6, e7, H3, H4, H1]
    refine zbw (fun tm => tm 4 = .ptr 1 0 ∧ tm 6 = .ptr 3 0 ∧ tm 7 = .ptr 4 0) ⟨e4, e6, e7⟩ ?_
    clear e9 e3 e4 e6 e7
    rintro tm ⟨e4, e6, e7⟩
    simp only [vz, tyf, seval, ua, nm, rg, e4, e6, e7, H3, H4, H1, zc_eq]
    refine zbl ⟨?_, ?_⟩
    ·simp only [zas, zaz, zad, zbz, and_true, true_and]
     repeat' (first | exact trivial | refine And.intro ?_ ?_ | rw [zad] | rw [zbk] | exact Or.inl (by decide +kernel) | exact Or.inl (by dsimp only; decide +kernel) | (refine Or.inr ⟨?_, ?_⟩ <;> simp; done) | (refine Or.inr ⟨?_, ?_⟩ <;> simp <;> omega) | (refine Or.inr ⟨?_, ?_⟩ <;> simp [VEff.wr] <;> omega))
    simp only [vz, tyf, seval, ua, nm, rg, e4, e6, e7, H3, H4, H1, zc_eq]
    refine ziq (by simp only [zaa, seval, H7]) ?_
    refine zay (x := .tup [.agg zc, .lit (.bool false)]) (by simp only [Tryz.results78, resV, resL, resV1, zba, zcc, uw, cr, tyf, nm, seval, e4] <;> rfl) ?_
    refine zbb (by simp only [zc_eq, tre, tytre, Bool.and_self]) ?_
    simp only [outV, nrm, seval, zc_eq, List.map_cons, List.map_nil, zbu, List.length_nil]
    rfl
  ·rw [hJ] at hj
   exact hj.elim
end Go.V
end
section
namespace Go.V
open Go Go.Proofs
def zdi (x0_x : Gm) : Option (Int) := Option.bind (zby x0_x 0) (fun r1 => Option.bind (zby x0_x 1) (fun r2 => Option.bind (zby x0_x 2) (fun r3 => some (if (if (if 0 < r1 then r1 else 0) < r2 then r2 else (if 0 < r1 then r1 else 0)) < r3 then r3 else (if (if 0 < r1 then r1 else 0) < r2 then r2 else (if 0 < r1 then r1 else 0))))))
theorem zfg (x0_x : Gm) (R : Int) (h : zdi x0_x = some R) : VPure Tryz.prog G0 81 [.agg (cGm x0_x)] (.tree (.lit (.int .i64 R))) := by
 refine VPure.runR mixed Tryz.call81 Tryz.func81 rfl (by simp [Tryz.ntmps81]; kernel_rfl) ?_
 obtain ⟨KF, h, kF, kN⟩ := zaq h
 simp only [zdi] at h
 simp only [vz, tyf, nm, seval]
 refine zfj mixed (by kernel_rfl) 4 ?_
 obtain ⟨r4, o5, h⟩ := optI h kN
 try simp only [hs] at h
 simp only [vz, tyf, nm, seval]
 refine ktA (zdr _ _ _ o5) ?_
 refine zae (fun tm => tm 1 = .ptr 0 0 ∧ tm 5 = .lit (.int .i64 0) ∧ tm 8 = .lit (.int .i64 0) ∧ tm 11 = .lit (.int .i64 r4) ∧ True) (by refine ⟨?_, ?_, ?_, ?_, trivial⟩ <;> first | (simp only [ua, nm, seval] <;> rfl) | rfl) ?_
 rintro tm ⟨e6, e7, e8, e9, _⟩
 obtain ⟨r10, o11, h⟩ := optI h kN
 try simp only [hs] at h
 simp only [vz, tyf, e6, e7, e8, e9, nm, seval]
 refine ktA (zdr _ _ _ o11) ?_
 refine zae (fun tm => tm 1 = .ptr 0 0 ∧ tm 5 = .lit (.int .i64 1) ∧ tm 8 = .lit (.int .i64 (if 0 < r4 then r4 else 0)) ∧ tm 11 = .lit (.int .i64 r10) ∧ True) (by refine ⟨e6, ?_, ?_, ?_, trivial⟩ <;> first | (simp only [ua, e6, e7, e8, e9, nm, seval] <;> rfl) | rfl) ?_
 rintro tm ⟨e12, e13, e14, e15, _⟩
 obtain ⟨r16, o17, h⟩ := optI h kN
 try simp only [hs] at h
 simp only [vz, tyf, e12, e13, e14, e15, nm, seval]
 refine ktA (zdr _ _ _ o17) ?_
 refine zae (fun tm => tm 1 = .ptr 0 0 ∧ tm 5 = .lit (.int .i64 2) ∧ tm 8 = .lit (.int .i64 (if (if 0 < r4 then r4 else 0) < r10 then r10 else (if 0 < r4 then r4 else 0))) ∧ tm 11 = .lit (.int .i64 r16) ∧ True) (by refine ⟨e12, ?_, ?_, ?_, trivial⟩ <;> first | (simp only [ua, e12, e13, e14, e15, nm, seval] <;> rfl) | rfl) ?_
 rintro tm ⟨e18, e19, e20, e21, _⟩
 try simp only [vz, tyf, e18, e19, e20, e21, nm, seval]
 refine zay (x := (.lit (.int .i64 (if (if (if 0 < r4 then r4 else 0) < r10 then r10 else (if 0 < r4 then r4 else 0)) < r16 then r16 else (if (if 0 < r4 then r4 else 0) < r10 then r10 else (if 0 < r4 then r4 else 0)))))) (by first | (simp only [Tryz.results81, resV, resL, resV1, zba, zcc, uw, cr, tyf, nm, seval] <;> rfl) | rfl) ?_
 obtain rfl := kF _ h
 refine zbb ?_ ?_
 ·simp only [tre, tytre, Bool.and_self]
 ·first | (simp only [outV, uw, zaf, cr, tyf, nrm, tynrm, e18, e19, e20, e21, nm, seval] <;> rfl) | rfl
end Go.V
end
section
namespace Go.V
open Go Go.Proofs
def zhg (x0_a : Gm) (x1_b : Gm) : Option (Bool) := Option.bind (zdi x0_a) (fun r1 => Option.bind (zdi x1_b) (fun r2 => some (decide (r1 < r2))))
theorem zpy (x0_a : Gm) (x1_b : Gm) (R : Bool) (h : zhg x0_a x1_b = some R) : VPure Tryz.prog G0 80 [.agg (cGm x0_a), .agg (cGm x1_b)] (.tree (.lit (.bool R))) := by
 refine VPure.runR mixed Tryz.call80 Tryz.func80 rfl (by simp [Tryz.ntmps80]; kernel_rfl) ?_
 obtain ⟨KF, h, kF, kN⟩ := zaq h
 simp only [zhg] at h
 simp only [vz, tyf, nm, seval]
 refine zeb (fun tm => tm 2 = .ptr 0 0 ∧ tm 3 = .ptr 1 0 ∧ True) (by refine ⟨?_, ?_, trivial⟩ <;> first | (simp only [ua, nm, seval] <;> rfl) | rfl) ?_
 rintro tm ⟨e3, e4, _⟩
 obtain ⟨r5, o6, h⟩ := optI h kN
 try simp only [hs] at h
 simp only [vz, tyf, e3, e4, nm, seval]
 refine dktA (zfg _ _ o6) ?_
 refine zae (fun tm => tm 3 = .ptr 1 0 ∧ tm 6 = .lit (.int .i64 r5) ∧ True) (by refine ⟨e4, ?_, trivial⟩ <;> first | (simp only [ua, e3, e4, nm, seval] <;> rfl) | rfl) ?_
 rintro tm ⟨e7, e8, _⟩
 obtain ⟨r9, o10, h⟩ := optI h kN
 try simp only [hs] at h
 simp only [vz, tyf, e7, e8, nm, seval]
 refine dktA (zfg _ _ o10) ?_
 refine zae (fun tm => tm 6 = .lit (.int .i64 r5) ∧ tm 8 = .lit (.int .i64 r9) ∧ True) (by refine ⟨e8, ?_, trivial⟩ <;> first | (simp only [ua, e7, e8, nm, seval] <;> rfl) | rfl) ?_
 rintro tm ⟨e11, e12, _⟩
 try simp only [vz, tyf, e11, e12, nm, seval]
 obtain rfl := kF _ h
 exact zab Tryz.results80 rfl
end Go.V
end
section
namespace Go.V
open Go Go.Proofs
def zcu  : List Int → Int → (List Int) → Option (LOut (List Int) ((List Int)))
 | [], c0_9, c0_3 => some (.go c0_3)
 | e0 :: p0, c0_9, c0_3 => cond (decide (e0 > 0)) (cond (roomOk 8 (List.length (c0_3 ++ [c0_9]))) (zcu p0 (c0_9 + 1) (c0_3 ++ [c0_9])) none) (zcu p0 (c0_9 + 1) c0_3)
def zee (x0_x : Gm) : Option (List Int) := cond (lenOk x0_x.mix) (lbind (zcu x0_x.mix 0 ([] : List Int)) (fun r2 => some r2) (fun c1 => some c1) (fun _ _ => none)) none
theorem zea (x0_x : Gm) (R : List Int) (h : zee x0_x = some R) : VPure Tryz.prog G0 84 [.agg (cGm x0_x)] (.tree (.sl (cellsL eI R) (List.length R) false)) := by
 refine VPure.runR mixed Tryz.call84 Tryz.func84 rfl (by simp [Tryz.ntmps84]; kernel_rfl) ?_
 obtain ⟨KF, h, kF, kN⟩ := zaq h
 simp only [zee] at h
 cases g4 : (lenOk x0_x.mix)
 ·simp only [g4, hs] at h
  exact absurd h kN
 simp only [g4, hs] at h
 simp only [vz, tyf, g4, nm, seval]
 obtain ⟨K3, h, kR3, kG3, kB3, kN3⟩ := zat h kN
 obtain ⟨f3, hf3, h⟩ := call3 h
 obtain ⟨I3, hI3⟩ : ∃ I : Nat → St → Prop, I = (fun m st => ∃ (p3 : List Int) (c3_9 : Int) (c3_3 : List Int) (y3_0 : VV), m = List.length p3 ∧ 0 ≤ c3_9 ∧ List.drop (Int.toNat c3_9) x0_x.mix = p3 ∧ st.df = [] ∧ 7 ≤ st.nx ∧ st.tm 7 = .sl (cellsL eI x0_x.mix) (List.length x0_x.mix) false ∧ st.tm 8 = .lit (.int .i64 (List.length x0_x.mix : Int)) ∧ st.tm 3 = y3_0 ∧ st.tm 9 = .lit (.int .i64 c3_9) ∧ ((∃ (β : Nat) (el : Option TypeId), y3_0 = .ref β 0 (List.length c3_3) 1 (List.length c3_3) ∧ β < st.nx ∧ st.H β = some (.cells el (cellsL eI c3_3))) ∨ (y3_0 = .lit (.slice none 0 0) ∧ c3_3 = [])) ∧ K3 (f3 p3 c3_9 c3_3)) := ⟨_, rfl⟩
 refine loopK mixed (by kernel_rfl) I3 (List.length x0_x.mix) (by rw [hI3]; refine ⟨x0_x.mix, 0, ([] : List Int), .lit (.slice none 0 0), rfl, Int.le_refl _, rfl, rfl, (show 7 ≤ 7 by omega), ?_, ?_, ?_, ?_, Or.inr ⟨rfl, rfl⟩, h⟩ <;> first | (simp only [ua, nm, seval] <;> rfl) | rfl) ?_
 rintro m ⟨tm, H, nx3, df⟩ hinv
 rw [hI3] at hinv
 obtain ⟨p3, c3_9, c3_3, y3_0, rfl, hi3, hp3, hdf, hn3, e5, e6, e7, e8, ow3_0, h⟩ := hinv
 simp only at hdf hn3 e5 e6 e7 e8 ow3_0
 have n9 := zcg (m := 7) (b := nx3) (by omega)
 subst hdf hf3
 rcases ow3_0 with ⟨b3_0, el3_0, rfl, lq11, H10⟩ | ⟨rfl, rfl⟩
 ·have q11 := ztn lq11
  cases p3 with
  | nil =>
   have d12 : (decide (c3_9 < (List.length x0_x.mix : Int))) = false := zap hi3 hp3
   simp only [zcu, hs, reduceCtorEq] at h
   replace h := kG3 _ h
   try dsimp only at h
   try simp only [hs] at h
   try simp only [vz, tyf, g4, n9, e5, e6, e7, e8, q11, H10, d12, nm, seval]
   refine zay (x := (.ref b3_0 0 (List.length c3_3) 1 (List.length c3_3))) (by first | (simp only [Tryz.results84, resV, resL, resV1, zba, zcc, uw, cr, tyf, g4, n9, q11, H10, d12, nm, seval] <;> rfl) | rfl) ?_
   obtain rfl := kF _ h
   refine zbb ?_ ?_
   ·simp only [tre, tytre, Bool.and_self]
   ·first | (simp only [outV, uw, zaf, cr, tyf, nrm, tynrm, g4, n9, e5, e6, e7, e8, q11, H10, d12, nm, seval] <;> rfl) | rfl
  | cons e3 p3 =>
   have d13 : (decide (c3_9 < (List.length x0_x.mix : Int))) = true := zbr hi3 hp3
   have o15 := zal hi3 hp3
   have w14 := zcf hi3 hp3 g4
   simp only [zcu, hs, reduceCtorEq] at h
   cases d16 : (decide (e3 > 0))
   ·simp only [d16, hs] at h
    have b17 := And.intro g4 (And.intro n9 (And.intro q11 (And.intro H10 (And.intro d13 (And.intro w14 d16)))))
    simp only [vz, tyf, b17, e5, e6, e7, e8, (ix29 o15), nm, seval]
    exact ⟨List.length p3, Nat.lt_succ_self _, by rw [hI3]; refine ⟨p3, c3_9 + 1, c3_3, .ref b3_0 0 (List.length c3_3) 1 (List.length c3_3), rfl, Int.le_trans hi3 (Int.le_add_one (Int.le_refl _)), zbe hi3 hp3, rfl, (show 7 ≤ nx3 + 10 by omega), e5, e6, ?_, ?_, Or.inl ⟨b3_0, el3_0, rfl, (by first | omega | (simp only [nm, seval]; omega)), ?_⟩, h⟩ <;> first | (simp only [ua, b17, e5, e6, e7, e8, nm, seval] <;> rfl) | rfl⟩
   simp only [d16, hs] at h
   have b18 := And.intro g4 (And.intro n9 (And.intro q11 (And.intro H10 (And.intro d13 (And.intro w14 d16)))))
   cases g19 : (roomOk 8 (List.length (c3_3 ++ [c3_9])))
   ·simp only [g19, hs] at h
    exact absurd h kN3
   simp only [g19, hs] at h
   simp only [vz, tyf, b18, e5, e6, e7, e8, (ix29 o15), g19, nm, seval]
   refine k_app (w := 1) (enc := eI) (xs := c3_3) (ys := ([c3_9])) (el := el3_0) (el2 := (some 3)) (fun _ => rfl) lf29 ao29 Tryz.underlying29 (by first | rfl | assumption | (simp only [zaa, zac, et29, b18, nm, seval] <;> rfl) | (simp only [zaa, zac, zci, zbu, zjb, zgn, tyf, b18, e5, e6, e7, e8, (ix29 o15), g19, nm, seval]; done)) (by first | rfl | assumption | (simp only [zaa, zac, et29, b18, nm, seval] <;> rfl) | (simp only [zaa, zac, zci, zbu, zjb, zgn, tyf, b18, e5, e6, e7, e8, (ix29 o15), g19, nm, seval]; done)) (Nat.zero_lt_succ _) g19 ?_
   simp only [vz, tyf, b18, e5, e6, e7, e8, (ix29 o15), g19, nm, seval]
   exact ⟨List.length p3, Nat.lt_succ_self _, by rw [hI3]; refine ⟨p3, c3_9 + 1, (c3_3 ++ [c3_9]), .ref (nx3 + 11) 0 (List.length (c3_3 ++ [c3_9])) 1 (List.length (c3_3 ++ [c3_9])), rfl, Int.le_trans hi3 (Int.le_add_one (Int.le_refl _)), zbe hi3 hp3, rfl, (show 7 ≤ nx3 + 15 by omega), e5, e6, ?_, ?_, Or.inl ⟨nx3 + 11, (sameEl el3_0 3), rfl, (by first | omega | (simp only [nm, seval]; omega)), ?_⟩, h⟩ <;> first | (simp only [ua, b18, e5, e6, e7, e8, nm, seval] <;> rfl) | rfl⟩
 ·cases p3 with
  | nil =>
   have d20 : (decide (c3_9 < (List.length x0_x.mix : Int))) = false := zap hi3 hp3
   simp only [zcu, hs, reduceCtorEq] at h
   replace h := kG3 _ h
   try dsimp only at h
   try simp only [hs] at h
   try simp only [vz, tyf, g4, n9, e5, e6, e7, e8, d20, nm, seval]
   refine zay (x := (.lit (.slice none 0 0))) (by first | (simp only [Tryz.results84, resV, resL, resV1, zba, zcc, uw, cr, tyf, g4, n9, d20, nm, seval] <;> rfl) | rfl) ?_
   obtain rfl := kF _ h
   refine zbb ?_ ?_
   ·simp only [tre, tytre, Bool.and_self]
   ·first | (simp only [outV, uw, zaf, cr, tyf, nrm, tynrm, g4, n9, e5, e6, e7, e8, d20, nm, seval] <;> rfl) | rfl
  | cons e3 p3 =>
   have d21 : (decide (c3_9 < (List.length x0_x.mix : Int))) = true := zbr hi3 hp3
   have o23 := zal hi3 hp3
   have w22 := zcf hi3 hp3 g4
   simp only [zcu, hs, reduceCtorEq] at h
   cases d24 : (decide (e3 > 0))
   ·simp only [d24, hs] at h
    simp only [vz, tyf, g4, n9, e5, e6, e7, e8, d21, (ix29 o23), w22, d24, nm, seval]
    exact ⟨List.length p3, Nat.lt_succ_self _, by rw [hI3]; refine ⟨p3, c3_9 + 1, ([] : List Int), .lit (.slice none 0 0), rfl, Int.le_trans hi3 (Int.le_add_one (Int.le_refl _)), zbe hi3 hp3, rfl, (show 7 ≤ nx3 + 10 by omega), e5, e6, ?_, ?_, Or.inr ⟨rfl, rfl⟩, h⟩ <;> first | (simp only [ua, n9, e5, e6, e7, e8, d21, w22, d24, nm, seval] <;> rfl) | rfl⟩
   simp only [d24, hs] at h
   cases g25 : (roomOk 8 (List.length (([] : List Int) ++ [c3_9])))
   ·simp only [g25, hs] at h
    exact absurd h kN3
   simp only [g25, hs] at h
   simp only [vz, tyf, g4, n9, e5, e6, e7, e8, d21, (ix29 o23), w22, d24, g25, nm, seval]
   refine zxd (w := 1) (enc := eI) (ys := ([c3_9])) (el2 := (some 3)) (fun _ => rfl) lf29 ao29 Tryz.underlying29 (by first | rfl | assumption | (simp only [zaa, zac, et29, n9, nm, seval] <;> rfl) | (simp only [zaa, zac, zci, zbu, zjb, zgn, tyf, g4, n9, e5, e6, e7, e8, d21, (ix29 o23), w22, d24, g25, nm, seval]; done)) (Nat.zero_lt_succ _) g25 ?_
   simp only [vz, tyf, g4, n9, e5, e6, e7, e8, d21, (ix29 o23), w22, d24, g25, nm, seval]
   exact ⟨List.length p3, Nat.lt_succ_self _, by rw [hI3]; refine ⟨p3, c3_9 + 1, (([] : List Int) ++ [c3_9]), .ref (nx3 + 11) 0 (List.length (([] : List Int) ++ [c3_9])) 1 (List.length (([] : List Int) ++ [c3_9])), rfl, Int.le_trans hi3 (Int.le_add_one (Int.le_refl _)), zbe hi3 hp3, rfl, (show 7 ≤ nx3 + 15 by omega), e5, e6, ?_, ?_, Or.inl ⟨nx3 + 11, (some 3), rfl, (by first | omega | (simp only [nm, seval]; omega)), ?_⟩, h⟩ <;> first | (simp only [ua, n9, e5, e6, e7, e8, d21, w22, d24, nm, seval] <;> rfl) | rfl⟩
end Go.V
end
section
namespace Go.V
open Go Go.Proofs
def zhb (x0_x : Int) : Option (Bool) := some (x0_x != x0_x)
theorem zja (x0_x : Int) (R : Bool) (h : zhb x0_x = some R) : VPure Tryz.prog G0 129 [.lit (.int .i64 x0_x)] (.tree (.lit (.bool R))) := by
 refine VPure.runR mixed Tryz.call129 Tryz.func129 rfl (by simp [Tryz.ntmps129]; kernel_rfl) ?_
 obtain ⟨KF, h, kF, kN⟩ := zaq h
 simp only [zhb] at h
 try simp only [vz, tyf, nm, seval]
 obtain rfl := kF _ h
 exact zab Tryz.results129 rfl
end Go.V
end
section
namespace Go.V
open Go Go.Proofs
def zge (x0_x : Int) (x1_y : Int) : Option (Int) := Option.bind (zhb x0_x) (fun r1 => Option.bind (zhb x1_y) (fun r2 => cond (r1) (cond (r2) (some 0) (some (-1))) (cond (r2) (some 1) (cond (decide (x0_x < x1_y)) (some (-1)) (cond (decide (x0_x > x1_y)) (some 1) (some 0))))))
theorem zid (x0_x : Int) (x1_y : Int) (R : Int) (h : zge x0_x x1_y = some R) : VPure Tryz.prog G0 113 [.lit (.int .i64 x0_x), .lit (.int .i64 x1_y)] (.tree (.lit (.int .i64 R))) := by
 refine VPure.runR mixed Tryz.call113 Tryz.func113 rfl (by simp [Tryz.ntmps113]; kernel_rfl) ?_
 obtain ⟨KF, h, kF, kN⟩ := zaq h
 simp only [zge] at h
 obtain ⟨r3, o4, h⟩ := optI h kN
 try simp only [hs] at h
 simp only [vz, tyf, nm, seval]
 refine ktA (zja _ _ o4) ?_
 refine zae (fun tm => tm 0 = .lit (.int .i64 x0_x) ∧ tm 1 = .lit (.int .i64 x1_y) ∧ tm 8 = .lit (.bool r3) ∧ True) (by refine ⟨?_, ?_, ?_, trivial⟩ <;> first | (simp only [ua, nm, seval] <;> rfl) | rfl) ?_
 rintro tm ⟨e5, e6, e7, _⟩
 obtain ⟨r8, o9, h⟩ := optI h kN
 try simp only [hs] at h
 simp only [vz, tyf, e5, e6, e7, nm, seval]
 refine ktA (zja _ _ o9) ?_
 refine zae (fun tm => tm 0 = .lit (.int .i64 x0_x) ∧ tm 1 = .lit (.int .i64 x1_y) ∧ tm 5 = .lit (.bool r3) ∧ tm 10 = .lit (.bool r8) ∧ True) (by refine ⟨e5, e6, ?_, ?_, trivial⟩ <;> first | (simp only [ua, e5, e6, e7, nm, seval] <;> rfl) | rfl) ?_
 rintro tm ⟨e10, e11, e12, e13, _⟩
 cases d14 : (r3)
 ·simp only [d14, hs] at h
  cases d15 : (r8)
  ·simp only [d15, hs] at h
   cases d16 : (decide (x0_x < x1_y))
   ·simp only [d16, hs] at h
    cases d17 : (decide (x0_x > x1_y))
    ·simp only [d17, hs] at h
     try simp only [vz, tyf, e10, e11, e12, e13, d14, d15, d16, d17, nm, seval]
     refine zay (x := (.lit (.int .i64 0))) (by first | (simp only [Tryz.results113, resV, resL, resV1, zba, zcc, uw, cr, tyf, d14, d15, d16, d17, nm, seval] <;> rfl) | rfl) ?_
     obtain rfl := kF _ h
     refine zbb ?_ ?_
     ·simp only [tre, tytre, Bool.and_self]
     ·first | (simp only [outV, uw, zaf, cr, tyf, nrm, tynrm, e10, e11, e12, e13, d14, d15, d16, d17, nm, seval] <;> rfl) | rfl
    simp only [d17, hs] at h
    try simp only [vz, tyf, e10, e11, e12, e13, d14, d15, d16, d17, nm, seval]
    refine zay (x := (.lit (.int .i64 1))) (by first | (simp only [Tryz.results113, resV, resL, resV1, zba, zcc, uw, cr, tyf, d14, d15, d16, d17, nm, seval] <;> rfl) | rfl) ?_
    obtain rfl := kF _ h
    refine zbb ?_ ?_
    ·simp only [tre, tytre, Bool.and_self]
    ·first | (simp only [outV, uw, zaf, cr, tyf, nrm, tynrm, e10, e11, e12, e13, d14, d15, d16, d17, nm, seval] <;> rfl) | rfl
   simp only [d16, hs] at h
   try simp only [vz, tyf, e10, e11, e12, e13, d14, d15, d16, nm, seval]
   refine zay (x := (.lit (.int .i64 (-1)))) (by first | (simp only [Tryz.results113, resV, resL, resV1, zba, zcc, uw, cr, tyf, d14, d15, d16, nm, seval] <;> rfl) | rfl) ?_
   obtain rfl := kF _ h
   refine zbb ?_ ?_
   ·simp only [tre, tytre, Bool.and_self]
   ·first | (simp only [outV, uw, zaf, cr, tyf, nrm, tynrm, e10, e11, e12, e13, d14, d15, d16, nm, seval] <;> rfl) | rfl
  simp only [d15, hs] at h
  try simp only [vz, tyf, e10, e11, e12, e13, d14, d15, nm, seval]
  refine zay (x := (.lit (.int .i64 1))) (by first | (simp only [Tryz.results113, resV, resL, resV1, zba, zcc, uw, cr, tyf, d14, d15, nm, seval] <;> rfl) | rfl) ?_
  obtain rfl := kF _ h
  refine zbb ?_ ?_
  ·simp only [tre, tytre, Bool.and_self]
  ·first | (simp only [outV, uw, zaf, cr, tyf, nrm, tynrm, e10, e11, e12, e13, d14, d15, nm, seval] <;> rfl) | rfl
 simp only [d14, hs] at h
 cases d18 : (r8)
 ·simp only [d18, hs] at h
  try simp only [vz, tyf, e10, e11, e12, e13, d14, d18, nm, seval]
  refine zay (x := (.lit (.int .i64 (-1)))) (by first | (simp only [Tryz.results113, resV, resL, resV1, zba, zcc, uw, cr, tyf, d14, d18, nm, seval] <;> rfl) | rfl) ?_
  obtain rfl := kF _ h
  refine zbb ?_ ?_
  ·simp only [tre, tytre, Bool.and_self]
  ·first | (simp only [outV, uw, zaf, cr, tyf, nrm, tynrm, e10, e11, e12, e13, d14, d18, nm, seval] <;> rfl) | rfl
 simp only [d18, hs] at h
 try simp only [vz, tyf, e10, e11, e12, e13, d14, d18, nm, seval]
 refine zay (x := (.lit (.int .i64 0))) (by first | (simp only [Tryz.results113, resV, resL, resV1, zba, zcc, uw, cr, tyf, d14, d18, nm, seval] <;> rfl) | rfl) ?_
 obtain rfl := kF _ h
 refine zbb ?_ ?_
 ·simp only [tre, tytre, Bool.and_self]
 ·first | (simp only [outV, uw, zaf, cr, tyf, nrm, tynrm, e10, e11, e12, e13, d14, d18, nm, seval] <;> rfl) | rfl
end Go.V
end
section
namespace Go.V
open Go Go.Proofs
def zgz  : List Int → Int → Option (LOut (Int) (Unit))
 | [], c0_8 => some (.go ())
 | e0 :: p0, c0_8 => cond (e0 != 0) (some (.ret e0)) (zgz p0 (c0_8 + 1))
def zlp (x0_vals : List Int) : Option (Int) := cond (lenOk x0_vals) (lbind (zgz x0_vals 0) (fun r2 => some r2) (fun c1 => some 0) (fun _ _ => none)) none
theorem zqe (x0_vals : List Int) (R : Int) (h : zlp x0_vals = some R) : VPure Tryz.prog G0 112 [.sl (cellsL eI x0_vals) (List.length x0_vals) false] (.tree (.lit (.int .i64 R))) := by
 refine VPure.runR mixed Tryz.call112 Tryz.func112 rfl (by simp [Tryz.ntmps112]; kernel_rfl) ?_
 obtain ⟨KF, h, kF, kN⟩ := zaq h
 simp only [zlp] at h
 cases g4 : (lenOk x0_vals)
 ·simp only [g4, hs] at h
  exact absurd h kN
 simp only [g4, hs] at h
 simp only [vz, tyf, g4, nm, seval]
 obtain ⟨K3, h, kR3, kG3, kB3, kN3⟩ := zat h kN
 obtain ⟨f3, hf3, h⟩ := call2 h
 obtain ⟨I3, hI3⟩ : ∃ I : Nat → St → Prop, I = (fun m st => ∃ (p3 : List Int) (c3_8 : Int), m = List.length p3 ∧ 0 ≤ c3_8 ∧ List.drop (Int.toNat c3_8) x0_vals = p3 ∧ st.df = [] ∧ 5 ≤ st.nx ∧ st.tm 3 = .lit (.int .i64 0) ∧ st.tm 6 = .sl (cellsL eI x0_vals) (List.length x0_vals) false ∧ st.tm 7 = .lit (.int .i64 (List.length x0_vals : Int)) ∧ st.tm 8 = .lit (.int .i64 c3_8) ∧ K3 (f3 p3 c3_8)) := ⟨_, rfl⟩
 refine loopK mixed (by kernel_rfl) I3 (List.length x0_vals) (by rw [hI3]; refine ⟨x0_vals, 0, rfl, Int.le_refl _, rfl, rfl, (show 5 ≤ 5 by omega), ?_, ?_, ?_, ?_, h⟩ <;> first | (simp only [ua, nm, seval] <;> rfl) | rfl) ?_
 rintro m ⟨tm, H, nx3, df⟩ hinv
 rw [hI3] at hinv
 obtain ⟨p3, c3_8, rfl, hi3, hp3, hdf, hn3, e5, e6, e7, e8, h⟩ := hinv
 simp only at hdf hn3 e5 e6 e7 e8
 have n9 := zcg (m := 5) (b := nx3) (by omega)
 subst hdf hf3
 cases p3 with
 | nil =>
  have d10 : (decide (c3_8 < (List.length x0_vals : Int))) = false := zap hi3 hp3
  simp only [zgz, hs, reduceCtorEq] at h
  replace h := kG3 _ h
  try dsimp only at h
  try simp only [hs] at h
  try simp only [vz, tyf, g4, n9, e5, e6, e7, e8, d10, nm, seval]
  refine zay (x := (.lit (.int .i64 0))) (by first | (simp only [Tryz.results112, resV, resL, resV1, zba, zcc, uw, cr, tyf, g4, n9, d10, nm, seval] <;> rfl) | rfl) ?_
  obtain rfl := kF _ h
  refine zbb ?_ ?_
  ·simp only [tre, tytre, Bool.and_self]
  ·first | (simp only [outV, uw, zaf, cr, tyf, nrm, tynrm, g4, n9, e5, e6, e7, e8, d10, nm, seval] <;> rfl) | rfl
 | cons e3 p3 =>
  have d11 : (decide (c3_8 < (List.length x0_vals : Int))) = true := zbr hi3 hp3
  have o13 := zal hi3 hp3
  have w12 := zcf hi3 hp3 g4
  simp only [zgz, hs, reduceCtorEq] at h
  cases d14 : (e3 != 0)
  ·simp only [d14, hs] at h
   simp only [vz, tyf, g4, n9, e5, e6, e7, e8, d11, (ix29 o13), w12, d14, nm, seval]
   exact ⟨List.length p3, Nat.lt_succ_self _, by rw [hI3]; refine ⟨p3, c3_8 + 1, rfl, Int.le_trans hi3 (Int.le_add_one (Int.le_refl _)), zbe hi3 hp3, rfl, (show 5 ≤ nx3 + 9 by omega), e5, e6, e7, ?_, h⟩ <;> first | (simp only [ua, n9, e5, e6, e7, e8, d11, w12, d14, nm, seval] <;> rfl) | rfl⟩
  simp only [d14, hs] at h
  try simp only [vz, tyf, g4, n9, e5, e6, e7, e8, d11, (ix29 o13), w12, d14, nm, seval]
  refine zay (x := (.lit (.int .i64 e3))) (by first | (simp only [Tryz.results112, resV, resL, resV1, zba, zcc, uw, cr, tyf, g4, n9, d11, (ix29 o13), w12, d14, nm, seval] <;> rfl) | rfl) ?_
  replace h := kR3 _ h
  try dsimp only at h
  obtain rfl := kF _ h
  refine zbb ?_ ?_
  ·simp only [tre, tytre, Bool.and_self]
  ·first | (simp only [outV, uw, zaf, cr, tyf, nrm, tynrm, g4, n9, e5, e6, e7, e8, d11, (ix29 o13), w12, d14, nm, seval] <;> rfl) | rfl
end Go.V
end
section
namespace Go.V
open Go Go.Proofs
def zdb (x1_s2 : List Int) : List Int → Int → Option (LOut (Int) (Unit))
 | [], c0_11 => some (.go ())
 | e0 :: p0, c0_11 => cond (decide (c0_11 ≥ (List.length x1_s2 : Int))) (some (.ret 1)) (Option.bind (getI x1_s2 c0_11) (fun x1 => Option.bind (zge e0 x1) (fun r2 => cond (r2 != 0) (some (.ret r2)) (zdb x1_s2 p0 (c0_11 + 1)))))
def zes (x0_s1 : List Int) (x1_s2 : List Int) : Option (Int) := cond (lenOk x0_s1) (lbind (zdb x1_s2 x0_s1 0) (fun r4 => some r4) (fun c3 => cond (decide ((List.length x0_s1 : Int) < (List.length x1_s2 : Int))) (some (-1)) (some 0)) (fun _ _ => none)) none
theorem zif (x0_s1 : List Int) (x1_s2 : List Int) (R : Int) (h : zes x0_s1 x1_s2 = some R) : VPure Tryz.prog G0 114 [.sl (cellsL eI x0_s1) (List.length x0_s1) false, .sl (cellsL eI x1_s2) (List.length x1_s2) false] (.tree (.lit (.int .i64 R))) := by
 refine VPure.runR mixed Tryz.call114 Tryz.func114 rfl (by simp [Tryz.ntmps114]; kernel_rfl) ?_
 obtain ⟨KF, h, kF, kN⟩ := zaq h
 simp only [zes] at h
 cases g6 : (lenOk x0_s1)
 ·simp only [g6, hs] at h
  exact absurd h kN
 simp only [g6, hs] at h
 simp only [vz, tyf, g6, nm, seval]
 obtain ⟨K5, h, kR5, kG5, kB5, kN5⟩ := zat h kN
 obtain ⟨f5, hf5, h⟩ := call2 h
 obtain ⟨I5, hI5⟩ : ∃ I : Nat → St → Prop, I = (fun m st => ∃ (p5 : List Int) (c5_11 : Int), m = List.length p5 ∧ 0 ≤ c5_11 ∧ List.drop (Int.toNat c5_11) x0_s1 = p5 ∧ st.df = [] ∧ 4 ≤ st.nx ∧ st.tm 0 = .sl (cellsL eI x0_s1) (List.length x0_s1) false ∧ st.tm 1 = .sl (cellsL eI x1_s2) (List.length x1_s2) false ∧ st.tm 9 = .sl (cellsL eI x0_s1) (List.length x0_s1) false ∧ st.tm 10 = .lit (.int .i64 (List.length x0_s1 : Int)) ∧ st.tm 11 = .lit (.int .i64 c5_11) ∧ K5 (f5 p5 c5_11)) := ⟨_, rfl⟩
 refine loopK mixed (by kernel_rfl) I5 (List.length x0_s1) (by rw [hI5]; refine ⟨x0_s1, 0, rfl, Int.le_refl _, rfl, rfl, (show 4 ≤ 4 by omega), ?_, ?_, ?_, ?_, ?_, h⟩ <;> first | (simp only [ua, nm, seval] <;> rfl) | rfl) ?_
 rintro m ⟨tm, H, nx5, df⟩ hinv
 rw [hI5] at hinv
 obtain ⟨p5, c5_11, rfl, hi5, hp5, hdf, hn5, e7, e8, e9, e10, e11, h⟩ := hinv
 simp only at hdf hn5 e7 e8 e9 e10 e11
 have n12 := zcg (m := 4) (b := nx5) (by omega)
 subst hdf hf5
 cases p5 with
 | nil =>
  have d13 : (decide (c5_11 < (List.length x0_s1 : Int))) = false := zap hi5 hp5
  simp only [zdb, hs, reduceCtorEq] at h
  replace h := kG5 _ h
  try dsimp only at h
  try simp only [hs] at h
  cases d14 : (decide ((List.length x0_s1 : Int) < (List.length x1_s2 : Int)))
  ·simp only [d14, hs] at h
   try simp only [vz, tyf, g6, n12, e7, e8, e9, e10, e11, d13, d14, nm, seval]
   refine zay (x := (.lit (.int .i64 0))) (by first | (simp only [Tryz.results114, resV, resL, resV1, zba, zcc, uw, cr, tyf, g6, n12, d13, d14, nm, seval] <;> rfl) | rfl) ?_
   obtain rfl := kF _ h
   refine zbb ?_ ?_
   ·simp only [tre, tytre, Bool.and_self]
   ·first | (simp only [outV, uw, zaf, cr, tyf, nrm, tynrm, g6, n12, e7, e8, e9, e10, e11, d13, d14, nm, seval] <;> rfl) | rfl
  simp only [d14, hs] at h
  try simp only [vz, tyf, g6, n12, e7, e8, e9, e10, e11, d13, d14, nm, seval]
  refine zay (x := (.lit (.int .i64 (-1)))) (by first | (simp only [Tryz.results114, resV, resL, resV1, zba, zcc, uw, cr, tyf, g6, n12, d13, d14, nm, seval] <;> rfl) | rfl) ?_
  obtain rfl := kF _ h
  refine zbb ?_ ?_
  ·simp only [tre, tytre, Bool.and_self]
  ·first | (simp only [outV, uw, zaf, cr, tyf, nrm, tynrm, g6, n12, e7, e8, e9, e10, e11, d13, d14, nm, seval] <;> rfl) | rfl
 | cons e5 p5 =>
  have d15 : (decide (c5_11 < (List.length x0_s1 : Int))) = true := zbr hi5 hp5
  have o17 := zal hi5 hp5
  have w16 := zcf hi5 hp5 g6
  simp only [zdb, hs, reduceCtorEq] at h
  cases d18 : (decide (c5_11 ≥ (List.length x1_s2 : Int)))
  ·simp only [d18, hs] at h
   obtain ⟨x19, o20, h⟩ := optI h kN5
   try simp only [hs] at h
   obtain ⟨r21, o22, h⟩ := optI h kN5
   try simp only [hs] at h
   simp only [vz, tyf, g6, n12, e7, e8, e9, e10, e11, d15, (ix29 o17), w16, d18, (ix29 o20), nm, seval]
   refine ktA (zid _ _ _ o22) ?_
   refine zae (fun tm => tm 0 = .sl (cellsL eI x0_s1) (List.length x0_s1) false ∧ tm 1 = .sl (cellsL eI x1_s2) (List.length x1_s2) false ∧ tm 9 = .sl (cellsL eI x0_s1) (List.length x0_s1) false ∧ tm 10 = .lit (.int .i64 (List.length x0_s1 : Int)) ∧ tm 11 = .lit (.int .i64 c5_11) ∧ tm 26 = .lit (.int .i64 r21) ∧ True) (by refine ⟨e7, e8, e9, e10, e11, ?_, trivial⟩ <;> first | (simp only [ua, n12, e7, e8, e9, e10, e11, d15, w16, d18, nm, seval] <;> rfl) | rfl) ?_
   rintro tm ⟨e23, e24, e25, e26, e27, e28, _⟩
   cases d29 : (r21 != 0)
   ·simp only [d29, hs] at h
    simp only [vz, tyf, g6, n12, d15, (ix29 o17), w16, d18, (ix29 o20), e23, e24, e25, e26, e27, e28, d29, nm, seval]
    exact ⟨List.length p5, Nat.lt_succ_self _, by rw [hI5]; refine ⟨p5, c5_11 + 1, rfl, Int.le_trans hi5 (Int.le_add_one (Int.le_refl _)), zbe hi5 hp5, rfl, (show 4 ≤ nx5 + 23 by omega), e23, e24, e25, e26, ?_, h⟩ <;> first | (simp only [ua, n12, d15, w16, d18, e23, e24, e25, e26, e27, e28, d29, nm, seval] <;> rfl) | rfl⟩
   simp only [d29, hs] at h
   try simp only [vz, tyf, g6, n12, d15, (ix29 o17), w16, d18, (ix29 o20), e23, e24, e25, e26, e27, e28, d29, nm, seval]
   refine zay (x := (.lit (.int .i64 r21))) (by first | (simp only [Tryz.results114, resV, resL, resV1, zba, zcc, uw, cr, tyf, g6, n12, d15, (ix29 o17), w16, d18, (ix29 o20), d29, nm, seval] <;> rfl) | rfl) ?_
   replace h := kR5 _ h
   try dsimp only at h
   obtain rfl := kF _ h
   refine zbb ?_ ?_
   ·simp only [tre, tytre, Bool.and_self]
   ·first | (simp only [outV, uw, zaf, cr, tyf, nrm, tynrm, g6, n12, d15, (ix29 o17), w16, d18, (ix29 o20), e23, e24, e25, e26, e27, e28, d29, nm, seval] <;> rfl) | rfl
  simp only [d18, hs] at h
  try simp only [vz, tyf, g6, n12, e7, e8, e9, e10, e11, d15, (ix29 o17), w16, d18, nm, seval]
  refine zay (x := (.lit (.int .i64 1))) (by first | (simp only [Tryz.results114, resV, resL, resV1, zba, zcc, uw, cr, tyf, g6, n12, d15, (ix29 o17), w16, d18, nm, seval] <;> rfl) | rfl) ?_
  replace h := kR5 _ h
  try dsimp only at h
  obtain rfl := kF _ h
  refine zbb ?_ ?_
  ·simp only [tre, tytre, Bool.and_self]
  ·first | (simp only [outV, uw, zaf, cr, tyf, nrm, tynrm, g6, n12, e7, e8, e9, e10, e11, d15, (ix29 o17), w16, d18, nm, seval] <;> rfl) | rfl
end Go.V
end
