/- Part of a proof. -/
import Derived.Test.YtekhjalgmlflpaaGreatDoorKbj
set_option linter.all false
set_option maxRecDepth 4000
set_option maxHeartbeats 40000000
section
namespace Go.V
open Go Go.Proofs IntKind
abbrev sM (x : Gm) : VV := .agg (cGm x)
def mixtO (s : Gs) : Nat → Nat → Option (List Gm)
 | 0, _ => some []
 | k + 1, c => Option.bind (Gn (List.length s.Tins) ((c + 1 : Nat) : Int)) fun L => Option.bind (mixtO s k (c + 1)) fun r => some (L.map (Gm.mk s) ++ r)
def CM (s : Gs) : Option (List Gm) := mixtO s 8 0
def itX (s : Gs) : VV := .fn (.func 109) [] [.tp (cGs s)]
theorem CN {s : Gs} : (itX s).tree = true := by
 have h : treeL (cGs s) = true := lS.tree s
 simp [itX, VV.tree, treeL, h]
theorem Pa {H : Nat → Option VObj} {f : FuncId} {el : Option TypeId} {cs : List VV} (hH : H 0 = some (.cells el cs)) (h : treeL cs = true) (hl : cs.length < 40) : sealV H 50 (.fn (.func f) [] [.ptr 0 0]) = some (.fn (.func f) [] [.tp cs]) := by
 have e0 : (VV.ptr 0 0).tree = false := rfl
 have e : sealV H 48 (.ptr 0 0) = some (.tp cs) := by
  show sealV H (47 + 1) _ = _
  simp only [sealV, e0, hH, Nat.zero_le, if_true, List.drop_zero]
  rw [sL _ 47 h (by omega)]
  rfl
 have e1 : aT H 49 [.ptr 0 0] = some [.tp cs] := by
  show aT H (48 + 1) _ = _
  simp only [aT, e]
 have e2 : aT H 49 [] = some [] := by
  show aT H (48 + 1) _ = _
  simp only [aT]
 show sealV H (49 + 1) _ = _
 have e3 : (VV.fn (.func f) [] [.ptr 0 0]).tree = false := rfl
 simp only [sealV, e3, e1, e2]
 rfl
theorem Wo (s : Gs) : ad Tryz.prog G0 79 [.agg (cGs s)] (.tree (itX s)) := by
 refine ad.run mixed Tryz.call79 Tryz.func79 rfl (by simp [Tryz.ntmps79]; kernel_rfl) ?_
 simp only [vz, tyf, seval, ua, rg]
 refine ⟨rfl, .fn (.func 109) [] [.ptr 0 0], by simp [Tryz.results79, resV, resL, ar, upd], 50, ?_⟩
 have h : treeL (cGs s) = true := lS.tree s
 exact Pa (cs := cGs s) (el := some 28) (by simp only [bG, seval] <;> rfl) h (by simp [cGs])
theorem Wp {P : Program} {G : Glob} {fn : Func} {R Rp : VV → (Nat → Option VObj) → Nat → Prop} {tm : Nat → VV} {nx : Nat} : ∀ (ds : List Nat) (H : Nat → Option VObj), ds.Nodup → (∀ d ∈ ds, H d = some (.deferred (some []))) → (∀ H2, (∀ γ, γ ∉ ds → H2 γ = H γ) → OpenPostD P G fn R Rp .normal ⟨tm, H2, nx, []⟩) → OpenPostD P G fn R Rp .normal ⟨tm, H, nx, ds.map VDef.coll⟩
 | [], H, _, _, h => h H fun _ _ => rfl
 | d :: ds, H, hn, hd, h => by
  rw [List.nodup_cons] at hn
  refine Pb (hd d (List.mem_cons_self ..)) (Wp ds _ hn.2 (fun e he => ?_) fun H2 h2 => h H2 fun γ hγ => ?_)
  ·have hne : e ≠ d := fun hh => hn.1 (hh ▸ he)
   simp only [updH]
   rw [if_neg hne]
   exact hd e (List.mem_cons_of_mem _ he)
  ·simp only [List.mem_cons, not_or] at hγ
   rw [h2 γ hγ.2]
   simp only [updH]
   rw [if_neg hγ.1]
theorem Wq {P : Program} {G : Glob} {fn : Func} {R Rp : VV → (Nat → Option VObj) → Nat → Prop} {tm : Nat → VV} {nx : Nat} : ∀ (ds : List Nat) (H : Nat → Option VObj), ds.Nodup → (∀ d ∈ ds, H d = some (.deferred (some []))) → (∀ H2, (∀ γ, γ ∉ ds → H2 γ = H γ) → OpenPostD P G fn R Rp .ret ⟨tm, H2, nx, []⟩) → OpenPostD P G fn R Rp .ret ⟨tm, H, nx, ds.map VDef.coll⟩
 | [], H, _, _, h => h H fun _ _ => rfl
 | d :: ds, H, hn, hd, h => by
  rw [List.nodup_cons] at hn
  refine rA (hd d (List.mem_cons_self ..)) (Wq ds _ hn.2 (fun e he => ?_) fun H2 h2 => h H2 fun γ hγ => ?_)
  ·have hne : e ≠ d := fun hh => hn.1 (hh ▸ he)
   simp only [updH]
   rw [if_neg hne]
   exact hd e (List.mem_cons_of_mem _ he)
  ·simp only [List.mem_cons, not_or] at hγ
   rw [h2 γ hγ.2]
   simp only [updH]
   rw [if_neg hγ.1]
theorem CP {Fr : Nat → Prop} {H : Nat → Option VObj} {nx : Nat} {ds : List Nat} (h : ∀ d ∈ ds, d < nx ∧ ¬ Fr d ∧ H d = some (.deferred (some []))) : Own (ds.map fun d => (d, VObj.deferred (some []))) Fr H nx := by
 intro q hq
 obtain ⟨d, hd, rfl⟩ := List.mem_map.1 hq
 exact h d hd
theorem wy {Fr : Nat → Prop} {H : Nat → Option VObj} {nx : Nat} {ds : List Nat} (h : Own (ds.map fun d => (d, VObj.deferred (some []))) Fr H nx) : ∀ d ∈ ds, d < nx ∧ ¬ Fr d ∧ H d = some (.deferred (some [])) := fun d hd => h (d, _) (List.mem_map.2 ⟨d, hd, rfl⟩)
theorem Wr (s : Gs) (R : List Gm) (h : CM s = some R) : Iter Tryz.prog G0 (itX s) (R.map sM) := by
 refine ⟨109, [], _, rfl, fun β I hst hr H nx hβ hI => ?_⟩
 refine aB.run mixed Tryz.call109 Tryz.func109 rfl (by simp [Tryz.ntmps109]; kernel_rfl) ?_
 simp only [List.nil_append, List.cons_append, argsTm2, vz, tyf, seval, ua, rg]
 obtain ⟨J0, Pc⟩ : ∃ J : Nat → St → Prop, J = (fun m st => ∃ (c : Nat) (ds : List Nat), c + m = 8 ∧ st.df = ds.map VDef.coll ∧ ds.Nodup ∧ (∀ d ∈ ds, nx < d ∧ d < st.nx ∧ st.H d = some (.deferred (some []))) ∧ nx < st.nx ∧ st.H nx = some (.cells (some 144) [.yl β]) ∧
   st.tm 1 = .tp (cGs s) ∧ st.tm 2 = .ptr nx 0 ∧ st.tm 5 = .lit (.int .i64 (c : Int)) ∧ ∃ L, mixtO s m c = some L ∧ I (some (L.map sM)) (fun γ => γ = nx ∨ γ ∈ ds) st.H st.nx) := ⟨_, rfl⟩
 refine loopK mixed (by kernel_rfl) J0 8 (by
  rw [Pc]
  refine ⟨0, [], rfl, rfl, List.nodup_nil, fun d hd => (by cases hd), (by show nx < nx + 2; omega), ?_, ?_, ?_, ?_, R, h, ?_⟩
  ·simp [updH]
  ·rfl
  ·rfl
  ·rfl
  ·refine hst _ _ _ _ _ _ _ hI ?_ (by show nx ≤ nx + 2; omega) ?_
   ·intro γ hγ _
    simp only [updH]
    rw [if_neg (by omega)]
   ·rintro γ (rfl | hγ)
    ·right; show γ ≤ γ ∧ γ < γ + 2; omega
    ·cases hγ) ?_
 rintro m ⟨tm, H1, bc, df⟩ hinv
 rw [Pc] at hinv
 obtain ⟨c, ds, hc, hdf, hnd, hds, hnx, Hy, e1, e2, e5, L, hL, rB⟩ := hinv
 simp only at hdf hds hnx Hy e1 e2 e5 rB
 subst hdf
 cases m with
 | zero =>
  have mw : decide ((c : Int) < 8) = false := by simp; omega
  simp only [vz, tyf, seval, ua, e5, mw]
  refine Wp ds _ hnd (fun d hd => (hds d hd).2.2) fun H2 h2 => ?_
  refine Bh (x := .tup []) (by simp [Tryz.results109, resV, resL]) (.inl ?_)
  simp only [mixtO, Option.some.injEq] at hL
  subst hL
  refine hst _ _ _ _ _ _ _ rB ?_ (by show bc ≤ bc + 1; omega) (fun γ h => h.elim)
  intro γ _ hn
  exact h2 γ fun hh => hn (.inr hh)
 | succ m =>
  have mw : decide ((c : Int) < 8) = true := by simp; omega
  have hw : i64.wrap ((c : Int) + 1) = ((c + 1 : Nat) : Int) := by rw [IntWalk.i64_in _ (by omega)]; simp
  rw [mixtO] at hL
  rcases hLa : Gn (List.length s.Tins) ((c + 1 : Nat) : Int) with _ | La
  ·rw [hLa] at hL; cases hL
  rw [hLa, Option.bind_some] at hL
  rcases hLr : mixtO s m (c + 1) with _ | Lr
  ·rw [hLr] at hL; cases hL
  rw [hLr, Option.bind_some, Option.some.injEq] at hL
  subst hL
  obtain ⟨hp, hi⟩ := Pd _ _ _ hLa
  simp only [vz, tyf, seval, ua, e1, e2, e5, mw, hw]
  refine ktA hp ?_
  simp only [vz, tyf, seval, ua, rg]
  refine zk (fun tm => tm 13 = itM (List.length s.Tins) ((c + 1 : Nat) : Int) ∧ tm 1 = .tp (cGs s) ∧ tm 2 = .ptr nx 0 ∧ tm 5 = .lit (.int .i64 (c : Int))) (by refine ⟨?_, ?_, ?_, ?_⟩ <;> simp only [ua, seval, e1, e2, e5] <;> rfl) ?_
  clear e1 e2 e5 tm
  rintro tm ⟨bd, e1, e2, e5⟩
  refine wh hi (by first | (simp only [nu, nw, bd, mQ, seval] <;> rfl) | rfl) ?_
  intro LO hLO
  obtain ⟨zH, nO⟩ : ∃ zH : List (Nat × VObj), zH = (nx, VObj.cells (some 144) [.yl β]) :: ds.map (fun d => (d, VObj.deferred (some []))) := ⟨_, rfl⟩
  obtain ⟨J, hJ⟩ : ∃ J : Option (List VV) → Option (List VV) → List (Nat × VObj) → Prop, J = (fun o o' hp => match o with
   | some l => ∃ p : List (List Int), l = p.map sI ∧ o' = some ((p.map (Gm.mk s) ++ Lr).map sM) ∧ hp = (bc + 9, .deferred (some [])) :: (bc + 10, LO) :: zH
   | none => ∃ LD : Code → VObj, (∃ tml ps az bo d, LD = fun c => VObj.loop .done (some c) tml ps az bo d) ∧ o' = none ∧ hp = (bc + 9, .deferred (some [])) :: (bc + 10, LD .ret) :: zH) := ⟨_, rfl⟩
  have hfr : ∀ (O : VObj) γ, (∃ q ∈ (bc + 9, VObj.deferred (some [])) :: (bc + 10, O) :: zH, (q : Nat × VObj).1 = γ) ↔ γ = bc + 9 ∨ γ = bc + 10 ∨ γ = nx ∨ γ ∈ ds := by
   intro O γ
   rw [nO]
   constructor
   ·rintro ⟨q, hq, rfl⟩
    simp only [List.mem_cons, List.mem_map] at hq
    rcases hq with rfl | rfl | rfl | ⟨d, hd, rfl⟩
    ·exact .inl rfl
    ·exact .inr (.inl rfl)
    ·exact .inr (.inr (.inl rfl))
    ·exact .inr (.inr (.inr hd))
   ·rintro (rfl | rfl | rfl | hd)
    ·exact ⟨_, List.mem_cons_self .., rfl⟩
    ·exact ⟨_, List.mem_cons_of_mem _ (List.mem_cons_self ..), rfl⟩
    ·exact ⟨_, List.mem_cons_of_mem _ (List.mem_cons_of_mem _ (List.mem_cons_self ..)), rfl⟩
    ·exact ⟨(γ, _), List.mem_cons_of_mem _ (List.mem_cons_of_mem _ (List.mem_cons_of_mem _ (List.mem_map.2 ⟨γ, hd, rfl⟩))), rfl⟩
  refine ⟨ownI2 I J, Ol hst, ?_, ?_, ?_⟩
  ·rintro v rest Fr H2 gZ hFr ⟨hp, o', hown, hj, hi⟩
   rw [hJ] at hj
   obtain ⟨p, hl, rfl, rfl⟩ := hj
   cases p with
   | nil => cases hl
   | cons e p =>
   simp only [List.map_cons, List.cons.injEq] at hl
   obtain ⟨rfl, rfl⟩ := hl
   obtain ⟨la, na, Ha⟩ := hown.head
   obtain ⟨lb, nb, Hb⟩ := hown.tail.head
   have hown0 := hown.tail.tail
   rw [nO] at hown0
   obtain ⟨lc, nc, Hc⟩ := hown0.head
   have hod := wy hown0.tail
   simp only [hfr] at hi
   refine wg mixed (psl := [14]) hLO Hb wz rfl (by kernel_rfl) (by kernel_rfl) ?_
   intro LB LD hLB hLD
   refine w1 (fun tm => tm 14 = sI e ∧ tm 1 = .tp (cGs s) ∧ tm 2 = .ptr nx 0) (by refine ⟨?_, ?_, ?_⟩ <;> simp only [w2, w4, Tryz.ntmps109, e1, e2, seval]) ?_
   clear bd e1 e2 e5
   rintro tm ⟨bg, e1, e2⟩
   have hne : (nx = bc + 10) = False := by simp; omega
   simp only [vz, tyf, seval, ua, nm, rg, RStart, bg, e1, e2, Hb, Hc, hne]
   have Pe : I (some (sM (Gm.mk s e) :: (p.map (Gm.mk s) ++ Lr).map sM)) (fun γ => Fr γ ∨ γ = bc + 9 ∨ γ = bc + 10 ∨ γ = nx ∨ γ ∈ ds) (updH H2 (bc + 10) LB) (gZ + 7) := by
    refine hst _ _ _ _ _ _ _ hi ?_ (by omega) (fun γ h => .inl h)
    intro γ _ hn
    have g3 : γ ≠ bc + 10 := fun e => hn (.inr (.inr (.inl e)))
    simp only [updH]
    rw [if_neg g3]
   refine (hr (sM (Gm.mk s e)) ((p.map (Gm.mk s) ++ Lr).map sM) _ _ _ ?_ Pe) (some (some (bc + 10))) _ _ _ rfl rfl ?_
   ·rintro γ (hγ | rfl | rfl | rfl | hγ)
    ·have := hFr γ hγ; omega
    ·omega
    ·omega
    ·omega
    ·have := (hod γ hγ).1; omega
   rintro b H3 gF ⟨q1, q2, q3⟩
   have Ka : H3 (bc + 9) = some (.deferred (some [])) := by
    rw [q2 _ (.inr (.inl rfl))]
    simp only [updH]
    rw [if_neg (by omega)]
    exact Ha
   have Kb : H3 (bc + 10) = some LB := by
    rw [q2 _ (.inr (.inr (.inl rfl)))]
    simp only [bG, seval]
   have Kc : H3 nx = some (.cells (some 144) [.yl β]) := by
    rw [q2 nx (.inr (.inr (.inr (.inl rfl))))]
    simp only [updH]
    rw [if_neg (by omega)]
    exact Hc
   have Kd : ∀ d ∈ ds, H3 d = some (.deferred (some [])) := by
    intro d hd
    have := hds d hd
    rw [q2 d (.inr (.inr (.inr (.inr hd))))]
    simp only [updH]
    rw [if_neg (by omega)]
    exact (hod d hd).2.2
   have KF : ∀ γ, Fr γ → H3 γ = H2 γ := by
    intro γ hγ
    have g3 : γ ≠ bc + 10 := fun e => nb (e ▸ hγ)
    rw [q2 γ (.inl hγ)]
    simp only [updH]
    rw [if_neg g3]
   have KO : ∀ (O : VObj), Own ((bc + 9, .deferred (some [])) :: (bc + 10, O) :: zH) Fr (updH H3 (bc + 10) O) gF := by
    intro O
    refine Own.cons (show bc + 9 < gF by omega) na ?_ (Own.cons (show bc + 10 < gF by omega) nb ?_ ?_)
    ·simp only [updH]
     rw [if_neg (by omega)]
     exact Ka
    ·simp only [bG, seval]
    ·rw [nO]
     refine Own.cons (show nx < gF by omega) nc ?_ (CP fun d hd => ⟨?_, (hod d hd).2.1, ?_⟩)
     ·simp only [updH]
      rw [if_neg (by omega)]
      exact Kc
     ·have := (hod d hd).1; omega
     ·have := hds d hd
      simp only [updH]
      rw [if_neg (by omega)]
      exact Kd d hd
   cases b with
   | true =>
    simp only [vz, tyf, seval, ua, nm, rg, Bool.not_true]
    refine ⟨Kb, (show gZ ≤ gF by omega), fun γ hγ => ?_, ?_⟩
    ·have g3 : γ ≠ bc + 10 := fun e => nb (e ▸ hγ)
     simp only [updH]
     rw [if_neg g3]
     exact KF γ hγ
    ·simp only [if_true] at q3 ⊢
     refine ⟨_, _, KO LO, by rw [hJ]; exact ⟨p, rfl, rfl, rfl⟩, ?_⟩
     simp only [hfr]
     refine hst _ _ _ _ _ _ _ q3 ?_ (by omega) (fun γ h => .inl h)
     intro γ _ hn
     have g3 : γ ≠ bc + 10 := fun e => hn (.inr (.inr (.inl e)))
     simp only [updH]
     rw [if_neg g3]
   | false =>
    simp only [vz, tyf, seval, ua, nm, rg, Bool.not_false]
    refine ⟨Kb, (show gZ ≤ gF by omega), fun γ hγ => ?_, ?_⟩
    ·have g3 : γ ≠ bc + 10 := fun e => nb (e ▸ hγ)
     simp only [updH]
     rw [if_neg g3]
     exact KF γ hγ
    ·simp only [Bool.false_eq_true, if_false] at q3 ⊢
     refine ⟨_, _, KO (LD .ret), by rw [hJ]; exact ⟨LD, ⟨_, _, _, _, _, hLD⟩, rfl, rfl⟩, ?_⟩
     simp only [hfr]
     refine hst _ _ _ _ _ _ _ q3 ?_ (by omega) (fun γ h => .inl h)
     intro γ _ hn
     have g3 : γ ≠ bc + 10 := fun e => hn (.inr (.inr (.inl e)))
     simp only [updH]
     rw [if_neg g3]
  ·refine ⟨_, _, ?_, by rw [hJ]; exact ⟨La, rfl, rfl, rfl⟩, ?_⟩
   ·refine Own.cons (show bc + 9 < bc + 9 + 2 by omega) (fun h => h) ?_ (Own.cons (show bc + 10 < bc + 9 + 2 by omega) (fun h => h) ?_ ?_)
    ·simp only [updH]
     rw [if_neg (by omega)]
     simp
    ·simp only [updH]
     simp
    ·rw [nO]
     refine Own.cons (show nx < bc + 9 + 2 by omega) (fun h => h) ?_ (CP fun d hd => ⟨?_, fun h => h, ?_⟩)
     ·simp only [updH]
      rw [if_neg (by omega), if_neg (by omega)]
      exact Hy
     ·have := (hds d hd).2.1; omega
     ·have := hds d hd
      simp only [updH]
      rw [if_neg (by omega), if_neg (by omega)]
      exact this.2.2
   ·simp only [hfr]
    refine hst _ _ _ _ _ _ _ rB ?_ (by omega) ?_
    ·intro γ hγ _
     simp only [updH]
     rw [if_neg (by omega), if_neg (by omega)]
    ·rintro γ (h | rfl | rfl | rfl | h)
     ·exact h.elim
     ·right; omega
     ·right; omega
     ·exact .inl (.inl rfl)
     ·exact .inl (.inr h)
  ·rintro H' nx' (⟨hp, o', hown, hj, hi⟩ | ⟨hp, o', hown, hj, hi⟩)
   ·rw [hJ] at hj
    obtain ⟨p, hl, rfl, rfl⟩ := hj
    cases p with
    | cons e p => cases hl
    | nil =>
    obtain ⟨la, na, Ha⟩ := hown.head
    obtain ⟨lb, nb, Hb⟩ := hown.tail.head
    have hown0 := hown.tail.tail
    rw [nO] at hown0
    obtain ⟨lc, nc, Hc⟩ := hown0.head
    have hod := wy hown0.tail
    simp only [hfr] at hi
    refine uc hLO Hb ?_
    intro LX
    simp only [vz, tyf, seval, ua, nm, rg, e1, e2, e5, hw]
    refine ⟨m, Nat.lt_succ_self _, ?_⟩
    rw [Pc]
    refine ⟨c + 1, (bc + 9) :: ds, by omega, rfl, ?_, ?_, ?_, ?_, ?_, ?_, ?_, Lr, hLr, ?_⟩
    ·exact List.nodup_cons.2 ⟨fun hh => by have := hds _ hh; omega, hnd⟩
    ·intro d hd
     rcases List.mem_cons.1 hd with rfl | hd
     ·refine ⟨by omega, by show bc + 9 < nx' + 2; omega, ?_⟩
      show updH H' (bc + 10) LX (bc + 9) = _
      simp only [updH]
      rw [if_neg (by omega)]
      exact Ha
     ·have h1 := hds d hd
      have h2 := hod d hd
      refine ⟨h1.1, by show d < nx' + 2; omega, ?_⟩
      show updH H' (bc + 10) LX d = _
      simp only [updH]
      rw [if_neg (by omega)]
      exact h2.2.2
    ·show nx < nx' + 2
     omega
    ·show updH H' (bc + 10) LX nx = _
     simp only [updH]
     rw [if_neg (by omega)]
     exact Hc
    ·simp only [ua, seval, e1]
    ·simp only [ua, seval, e2]
    ·simp only [ua, seval]
    ·show I (some (Lr.map sM)) (fun γ => γ = nx ∨ γ ∈ (bc + 9) :: ds) (updH H' (bc + 10) LX) (nx' + 2)
     refine hst _ _ _ _ _ _ _ hi ?_ (by omega) ?_
     ·intro γ _ hn
      have g3 : γ ≠ bc + 10 := fun e => hn (.inr (.inr (.inl e)))
      simp only [updH]
      rw [if_neg g3]
     ·rintro γ (rfl | hγ)
      ·exact .inl (.inr (.inr (.inr (.inl rfl))))
      ·rcases List.mem_cons.1 hγ with rfl | hγ
       ·exact .inl (.inr (.inl rfl))
       ·exact .inl (.inr (.inr (.inr (.inr hγ))))
   ·rw [hJ] at hj
    obtain ⟨LD, ⟨tml, ps, az, bo, d, hLD⟩, rfl, rfl⟩ := hj
    obtain ⟨la, na, Ha⟩ := hown.head
    obtain ⟨lb, nb, Hb⟩ := hown.tail.head
    have hown0 := hown.tail.tail
    rw [nO] at hown0
    obtain ⟨lc, nc, Hc⟩ := hown0.head
    have hod := wy hown0.tail
    simp only [hfr] at hi
    refine CQ hLD Hb ?_
    intro LX
    simp only [vz, tyf, seval, ua, nm, rg]
    refine Wq ((bc + 9) :: ds) _ (List.nodup_cons.2 ⟨fun hh => by have := hds _ hh; omega, hnd⟩) ?_ fun H2 h2 => ?_
    ·intro d hd
     rcases List.mem_cons.1 hd with rfl | hd
     ·simp only [updH]
      rw [if_neg (by omega)]
      exact Ha
     ·have h1 := hds d hd
      simp only [updH]
      rw [if_neg (by omega)]
      exact (hod d hd).2.2
    ·refine bP (x := .tup []) (by simp [Tryz.results109, resV, resL]) (.inr ?_)
     refine hst _ _ _ _ _ _ _ hi ?_ (Nat.le_refl _) (fun γ h => h.elim)
     intro γ _ hn
     have g3 : γ ≠ bc + 10 := fun e => hn (.inr (.inr (.inl e)))
     rw [h2 γ (fun hh => by
      rcases List.mem_cons.1 hh with rfl | hh
      ·exact hn (.inr (.inl rfl))
      ·exact hn (.inr (.inr (.inr (.inr hh)))))]
     simp only [updH]
     rw [if_neg g3]
end Go.V
end
section
namespace Go.V
open Go Go.Proofs IntKind
section
variable {P : Program} {G : Glob} {H : Nat → Option VObj} {γ : Nat} {α : Type} {enc : α → List VV} {t t2 e e2 w b : Nat} {xs ys : List α} {el : Option TypeId} {β : Nat} {f : Bool} {k : VV → VEff → Prop}
end
end Go.V
namespace Go.V
open Go Go.Proofs IntKind
end Go.V
namespace Go.V
open Go Go.Proofs IntKind
end Go.V
namespace Go.V
open Go Go.Proofs IntKind
set_option linter.defProp false
end Go.V
end
section
namespace Go.V
open Go Go.Proofs IntKind
end Go.V
namespace Go.V
theorem CS {α : Type} : ((([] : List α).length : Nat) : Int) = 0 := rfl
end Go.V
namespace Go.V
open Go Go.Proofs IntKind
end Go.V
end
section
namespace Go.V
open Go Go.Proofs IntKind




def filterO (f : Gm → Option Bool) : List Gm → Option (List Gm)
 | [] => some []
 | x :: L => Option.bind (f x) fun t => Option.bind (filterO f L) fun r => some (cond t (x :: r) r)
theorem Pf {itv : VV} {mc : List VV} {bf : Nat} {L : List VV} (hit : Iter Tryz.prog G0 itv L) (hti : itv.tree = true) (htm : treeL mc = true) : ad Tryz.prog G0 107 [itv, .fn (.func bf) [] mc] (.tree (.fn (.func 126) [] [.tp [itv], .tp [.fn (.func bf) [] mc]])) := by
 obtain ⟨f, fi, ca, rfl, _⟩ := hit
 refine ad.run mixed Tryz.call107 Tryz.func107 rfl (by simp [Tryz.ntmps107]; kernel_rfl) ?_
 simp only [vz, tyf, seval, ua, rg]
 refine ⟨rfl, .fn (.func 126) [] [.ptr 0 0, .ptr 1 0], by simp [Tryz.results107, resV, resL, ar, upd], 20, ?_⟩
 have hti' : (treeL fi && treeL ca) = true := hti
 simp [sealV, aT, VV.tree, treeL, updH, htm, hti']
theorem Pg {itv : VV} {bf : Nat} {mc : List VV} {L L' : List Gm} (hit : Iter Tryz.prog G0 itv (L.map sM)) (hmt : treeL mc = true) {f : Gm → Option Bool}
  (hb : ∀ a t, f a = some t → ad Tryz.prog G0 bf (sM a :: mc) (.tree (.lit (.bool t)))) (h : filterO f L = some L') :
  Iter Tryz.prog G0 (.fn (.func 126) [] [.tp [itv], .tp [.fn (.func bf) [] mc]]) (L'.map sM) := by
 refine ⟨126, [], _, rfl, fun β I hst hr H nx hβ hI => ?_⟩
 refine aB.run mixed Tryz.call126 Tryz.func126 rfl (by simp [Tryz.ntmps126]; kernel_rfl) ?_
 simp only [List.nil_append, List.cons_append, argsTm3, vz, tyf, seval, ua, rg]
 refine zk (fun tm => tm 5 = itv ∧ tm 2 = .tp [.fn (.func bf) [] mc] ∧ tm 3 = .ptr nx 0) (by refine ⟨?_, ?_, ?_⟩ <;> simp only [ua, seval, Nat.add_zero]) ?_
 rintro tm ⟨e5, e2, e3⟩
 refine wh hit (by first | (simp only [nu, nw, e5, mQ, seval] <;> rfl) | rfl) ?_
 intro LO hLO
 obtain ⟨J, hJ⟩ : ∃ J : Option (List VV) → Option (List VV) → List (Nat × VObj) → Prop, J = (fun o o' hp => match o with
  | some l => ∃ (p L2 : List Gm), l = p.map sM ∧ filterO f p = some L2 ∧ o' = some (L2.map sM) ∧ hp = [(nx, .cells (some 144) [.yl β]), (nx + 2, .deferred (some [])), (nx + 3, LO)]
  | none => ∃ LD : Code → VObj, (∃ tml ps az bo d, LD = fun c => VObj.loop .done (some c) tml ps az bo d) ∧ o' = none ∧ hp = [(nx, .cells (some 144) [.yl β]), (nx + 2, .deferred (some [])), (nx + 3, LD .ret)]) := ⟨_, rfl⟩
 refine ⟨ownI2 I J, Ol hst, ?_, ?_, ?_⟩
 ·rintro v rest Fr H1 bc hFr ⟨hp, o', hown, hj, hi⟩
  rw [hJ] at hj
  obtain ⟨p, L2, hl, hf, rfl, rfl⟩ := hj
  cases p with
  | nil => cases hl
  | cons e p =>
  simp only [List.map_cons, List.cons.injEq] at hl
  obtain ⟨rfl, rfl⟩ := hl
  obtain ⟨la, na, Ha⟩ := hown.head
  obtain ⟨lb, nb, Hb⟩ := hown.tail.head
  obtain ⟨lc, nc, Hc⟩ := hown.tail.tail.head
  have hfr : ∀ γ, (∃ q ∈ [(nx, .cells (some 144) [.yl β]), (nx + 2, .deferred (some [])), (nx + 3, LO)], (q : Nat × VObj).1 = γ) ↔ γ = nx ∨ γ = nx + 2 ∨ γ = nx + 3 := by
   intro γ
   simp [eq_comm]
  simp only [hfr] at hi
  unfold filterO at hf
  rcases ht : f e with _ | t
  ·rw [ht] at hf; cases hf
  rw [ht, Option.bind_some] at hf
  rcases w5 : filterO f p with _ | L3
  ·rw [w5] at hf; cases hf
  rw [w5, Option.bind_some, Option.some.injEq] at hf
  refine wg mixed (psl := [6]) hLO Hc wz rfl (by kernel_rfl) (by kernel_rfl) ?_
  intro LB LD hLB hLD
  refine w1 (fun tm => tm 6 = sM e ∧ tm 2 = .tp [.fn (.func bf) [] mc] ∧ tm 3 = .ptr nx 0) (by refine ⟨?_, ?_, ?_⟩ <;> simp only [w2, w4, Tryz.ntmps126, e2, e3, seval]) ?_
  clear e5 e2 e3
  rintro tm ⟨e6, e2, e3⟩
  have hne : (nx = nx + 3) = False := by simp
  have zI : (nx + 3 = bc) = False := by simp; omega
  have zJ : (bc = nx + 3) = False := by simp; omega
  have CT : (nx = bc) = False := by simp; omega
  have Gp : (nx + 2 = bc) = False := by simp; omega
  have Gq : (bc = nx + 2) = False := by simp; omega
  have CU : (bc = nx) = False := by simp; omega
  simp only [vz, tyf, seval, ua, nm, rg, RStart, e6, e2, e3, Ha, Hc, Nat.add_zero, hne, zI, zJ, CT, CU, Gp, Gq]
  refine ktreeR ?_ (hb e t ht) ?_
  ·have h1 : treeL (cGm e) = true := w7.tree e
   show (treeL (cGm e) && treeL mc) = true
   rw [h1, hmt]
   rfl
  cases t with
  | false =>
   simp only [cond_false] at hf
   subst hf
   simp only [vz, tyf, seval, ua, nm, rg, RStart, e6, e2, e3, Ha, Hc, Nat.add_zero, hne, zI, zJ, CT, CU, Gp, Gq]
   refine ⟨by simp only [bG, seval], (show bc ≤ bc + 11 by omega), fun γ hγ => ?_, ?_⟩
   ·have g3 : γ ≠ nx + 3 := fun e => nc (e ▸ hγ)
    have g4 := hFr γ hγ
    simp only [updH]
    repeat rw [if_neg (by first | assumption | omega)]
   ·simp only [if_true]
    refine ⟨[(nx, .cells (some 144) [.yl β]), (nx + 2, .deferred (some [])), (nx + 3, LO)], some (L3.map sM), Own.cons (show nx < bc + 11 by omega) na ?_ (Own.cons (show nx + 2 < bc + 11 by omega) nb ?_ (Own.cons (show nx + 3 < bc + 11 by omega) nc ?_ Own.nil)), ?_, ?_⟩
    ·simp only [bG, Nat.add_zero, hne, zI, zJ, CT, CU, seval, Ha]
    ·simp only [updH]
     repeat rw [if_neg (by omega)]
     exact Hb
    ·simp only [bG, seval]
    ·rw [hJ]
     exact ⟨p, L3, rfl, w5, rfl, rfl⟩
    ·simp only [hfr]
     refine hst _ _ _ _ _ _ _ hi ?_ (by omega) (fun γ h => .inl h)
     intro γ hγ hn
     have g3 : γ ≠ nx + 3 := fun e => hn (.inr (.inr (.inr e)))
     simp only [updH]
     repeat rw [if_neg (by first | assumption | omega)]
  | true =>
   simp only [cond_true] at hf
   subst hf
   simp only [vz, tyf, seval, ua, nm, rg, RStart, e6, e2, e3, Ha, Hc, Nat.add_zero, hne, zI, zJ, CT, CU, Gp, Gq]
   refine (hr (sM e) (L3.map sM) (fun γ => Fr γ ∨ γ = nx ∨ γ = nx + 2 ∨ γ = nx + 3) _ (bc + 11) ?_ ?_) (some (some (nx + 3))) _ _ _ rfl rfl ?_
   ·rintro γ (hγ | rfl | rfl | rfl)
    ·have := hFr γ hγ; omega
    ·omega
    ·omega
    ·omega
   ·refine hst _ _ _ _ _ _ _ hi ?_ (by show bc ≤ bc + 11; omega) (fun γ h => .inl h)
    intro γ hγ hn
    have g3 : γ ≠ nx + 3 := fun e => hn (.inr (.inr (.inr e)))
    simp only [updH]
    repeat rw [if_neg (by first | assumption | omega)]
   rintro b H2 gZ ⟨q1, q2, q3⟩
   have Ka : H2 nx = some (.cells (some 144) [.yl β]) := by rw [q2 nx (.inr (.inl rfl))]; simp only [bG, Nat.add_zero, hne, zI, zJ, CT, CU, seval, Ha]
   have Kb : H2 (nx + 2) = some (.deferred (some [])) := by rw [q2 _ (.inr (.inr (.inl rfl)))]; simp only [bG, Nat.add_zero, nm, Gp, Gq, seval, Hb]
   have Kc : H2 (nx + 3) = some LB := by rw [q2 _ (.inr (.inr (.inr rfl)))]; simp only [bG, Nat.add_zero, zI, zJ, seval]
   have KF : ∀ γ, Fr γ → H2 γ = H1 γ := by
    intro γ hγ
    have g3 : γ ≠ nx + 3 := fun e => nc (e ▸ hγ)
    have g4 := hFr γ hγ
    rw [q2 γ (.inl hγ)]
    simp only [updH]
    repeat rw [if_neg (by first | assumption | omega)]
   cases b with
   | true =>
    simp only [vz, tyf, seval, ua, nm, rg, Bool.not_true]
    refine ⟨Kc, (show bc ≤ gZ by omega), fun γ hγ => ?_, ?_⟩
    ·have g3 : γ ≠ nx + 3 := fun e => nc (e ▸ hγ)
     simp only [updH]
     rw [if_neg g3]
     exact KF γ hγ
    ·simp only [if_true] at q3 ⊢
     refine ⟨[(nx, .cells (some 144) [.yl β]), (nx + 2, .deferred (some [])), (nx + 3, LO)], some (L3.map sM), Own.cons (show nx < gZ by omega) na ?_ (Own.cons (show nx + 2 < gZ by omega) nb ?_ (Own.cons (show nx + 3 < gZ by omega) nc ?_ Own.nil)), ?_, ?_⟩
     ·simp only [bG, seval, hne, Ka]
     ·simp only [bG, nm, seval, Kb]
     ·simp only [bG, seval]
     ·rw [hJ]
      exact ⟨p, L3, rfl, w5, rfl, rfl⟩
     ·simp only [hfr]
      refine hst _ _ _ _ _ _ _ q3 ?_ (by omega) (fun γ h => .inl h)
      intro γ _ hn
      have g3 : γ ≠ nx + 3 := fun e => hn (.inr (.inr (.inr e)))
      simp only [updH]
      rw [if_neg g3]
   | false =>
    simp only [vz, tyf, seval, ua, nm, rg, Bool.not_false]
    refine ⟨Kc, (show bc ≤ gZ by omega), fun γ hγ => ?_, ?_⟩
    ·have g3 : γ ≠ nx + 3 := fun e => nc (e ▸ hγ)
     simp only [updH]
     rw [if_neg g3]
     exact KF γ hγ
    ·simp only [Bool.false_eq_true, if_false] at q3 ⊢
     have Ph : ∀ γ, (∃ q ∈ [(nx, .cells (some 144) [.yl β]), (nx + 2, .deferred (some [])), (nx + 3, LD .ret)], (q : Nat × VObj).1 = γ) ↔ γ = nx ∨ γ = nx + 2 ∨ γ = nx + 3 := by
      intro γ
      simp [eq_comm]
     refine ⟨[(nx, .cells (some 144) [.yl β]), (nx + 2, .deferred (some [])), (nx + 3, LD .ret)], none, Own.cons (show nx < gZ by omega) na ?_ (Own.cons (show nx + 2 < gZ by omega) nb ?_ (Own.cons (show nx + 3 < gZ by omega) nc ?_ Own.nil)), ?_, ?_⟩
     ·simp only [bG, seval, hne, Ka]
     ·simp only [bG, nm, seval, Kb]
     ·simp only [bG, seval]
     ·rw [hJ]
      exact ⟨LD, ⟨_, _, _, _, _, hLD⟩, rfl, rfl⟩
     ·simp only [Ph]
      refine hst _ _ _ _ _ _ _ q3 ?_ (by omega) (fun γ h => .inl h)
      intro γ _ hn
      have g3 : γ ≠ nx + 3 := fun e => hn (.inr (.inr (.inr e)))
      simp only [updH]
      rw [if_neg g3]
 ·have hfr : ∀ γ, (∃ q ∈ [(nx, .cells (some 144) [.yl β]), (nx + 2, .deferred (some [])), (nx + 3, LO)], (q : Nat × VObj).1 = γ) ↔ γ = nx ∨ γ = nx + 2 ∨ γ = nx + 3 := by
   intro γ
   simp [eq_comm]
  refine ⟨[(nx, .cells (some 144) [.yl β]), (nx + 2, .deferred (some [])), (nx + 3, LO)], some (L'.map sM), Own.cons (show nx < nx + 4 by omega) (fun h => h) ?_ (Own.cons (show nx + 2 < nx + 4 by omega) (fun h => h) ?_ (Own.cons (show nx + 3 < nx + 4 by omega) (fun h => h) ?_ Own.nil)), ?_, ?_⟩
  ·simp only [updH]
   rw [if_neg (by omega), if_neg (by omega), if_pos (by omega)]
  ·simp only [updH]
   simp
  ·simp only [updH]
   simp
  ·rw [hJ]
   exact ⟨L, L', rfl, h, rfl, rfl⟩
  ·simp only [hfr]
   refine hst _ _ _ _ _ _ _ hI ?_ (by omega) ?_
   ·intro γ hγ _
    simp only [updH]
    repeat rw [if_neg (by omega)]
   ·rintro γ (h | rfl | rfl | rfl)
    ·exact h.elim
    ·right; omega
    ·right; omega
    ·right; omega
 ·rintro H' nx' (⟨hp, o', hown, hj, hi⟩ | ⟨hp, o', hown, hj, hi⟩)
  ·rw [hJ] at hj
   obtain ⟨p, L2, hl, hf, rfl, rfl⟩ := hj
   cases p with
   | cons e p => cases hl
   | nil =>
   simp only [filterO, Option.some.injEq] at hf
   subst hf
   obtain ⟨la, na, Ha⟩ := hown.head
   obtain ⟨lb, nb, Hb⟩ := hown.tail.head
   obtain ⟨lc, nc, Hc⟩ := hown.tail.tail.head
   have hfr : ∀ γ, (∃ q ∈ [(nx, .cells (some 144) [.yl β]), (nx + 2, .deferred (some [])), (nx + 3, LO)], (q : Nat × VObj).1 = γ) ↔ γ = nx ∨ γ = nx + 2 ∨ γ = nx + 3 := by
    intro γ
    simp [eq_comm]
   simp only [hfr] at hi
   refine uc hLO Hc ?_
   intro LX
   simp only [vz, tyf, seval, ua, nm, rg]
   refine Pb (by simp only [bG, nm, seval, Hb]) ?_
   refine Bh (x := .tup []) (by simp [Tryz.results126, resV, resL]) (.inl ?_)
   refine hst _ _ _ _ _ _ _ hi ?_ (Nat.le_refl _) (fun γ h => h.elim)
   intro γ _ hn
   have g2 : γ ≠ nx + 2 := fun e => hn (.inr (.inr (.inl e)))
   have g3 : γ ≠ nx + 3 := fun e => hn (.inr (.inr (.inr e)))
   simp only [updH]
   repeat rw [if_neg (by first | assumption | omega)]
  ·rw [hJ] at hj
   obtain ⟨LD, ⟨tml, ps, az, bo, d, hLD⟩, rfl, rfl⟩ := hj
   obtain ⟨la, na, Ha⟩ := hown.head
   obtain ⟨lb, nb, Hb⟩ := hown.tail.head
   obtain ⟨lc, nc, Hc⟩ := hown.tail.tail.head
   have hfr : ∀ γ, (∃ q ∈ [(nx, .cells (some 144) [.yl β]), (nx + 2, .deferred (some [])), (nx + 3, LD .ret)], (q : Nat × VObj).1 = γ) ↔ γ = nx ∨ γ = nx + 2 ∨ γ = nx + 3 := by
    intro γ
    simp [eq_comm]
   simp only [hfr] at hi
   refine CQ hLD Hc ?_
   intro LX
   simp only [vz, tyf, seval, ua, nm, rg]
   refine rA (by simp only [bG, nm, seval, Hb]) ?_
   refine bP (x := .tup []) (by simp [Tryz.results126, resV, resL]) (.inr ?_)
   refine hst _ _ _ _ _ _ _ hi ?_ (Nat.le_refl _) (fun γ h => h.elim)
   intro γ _ hn
   have g2 : γ ≠ nx + 2 := fun e => hn (.inr (.inr (.inl e)))
   have g3 : γ ≠ nx + 3 := fun e => hn (.inr (.inr (.inr e)))
   simp only [updH]
   repeat rw [if_neg (by first | assumption | omega)]
theorem normX (s : Gs) {f : Nat} : normL [itX s, VV.fn (.func f) [] []] = [itX s, VV.fn (.func f) [] []] := by
 simp only [itX, uM, uN, Bl]
def ud (s : Gs) : Option (List Gm) := Option.bind (CM s) (filterO wc)
def ue (s : Gs) : VV := .fn (.func 126) [] [.tp [itX s], .tp [.fn (.func 68) [] []]]
theorem w8 (s : Gs) (R : List Gm) (h : ud s = some R) : ad Tryz.prog G0 75 [.agg (cGs s)] (.tree (ue s)) ∧ Iter Tryz.prog G0 (ue s) (R.map sM) := by
 unfold ud at h
 rcases o1 : CM s with _ | L
 ·rw [o1] at h; cases h
 rw [o1, Option.bind_some] at h
 have hi := Wr s L o1
 refine ⟨?_, Pg (mc := []) (bf := 68) hi rfl (fun a t ha => Pj a t ha) h⟩
 refine ad.run mixed Tryz.call75 Tryz.func75 rfl (by simp [Tryz.ntmps75]; kernel_rfl) ?_
 simp only [vz, tyf, seval, ua, rg]
 refine ktA (Wo s) ?_
 simp only [vz, tyf, seval, ua, rg]
 refine ktree (args0 := [itX s, .fn (.func 68) [] []]) (normX s) (by simp only [zn, Br, CN]; rfl) (Pf (mc := []) hi CN rfl) ?_
 simp only [vz, tyf, seval, ua, rg]
 refine ⟨rfl, ue s, by simp [Tryz.results75, resV, resL, ar, upd]; rfl, 2, ?_⟩
 have h9 := @CN s
 simp [sealV, ue, VV.tree, treeL, h9]
theorem zuk {s : Gs} : (ue s).tree = true := by
 have h9 := @CN s
 simp [ue, VV.tree, treeL, h9]
def headE (L : List Gm) : List Int × Int := match L with
 | [] => ([], 5)
 | x :: _ => (x.mix, 0)
def Pk (s : Gs) : Option (List Int × Int) := Option.bind (my s) fun b => cond b (Option.bind (ud s) fun L => some (headE L)) (some ([], 2))
theorem zqk (s : Gs) (R : List Int × Int) (h : Pk s = some R) : ad Tryz.prog G0 42 [.agg (cGs s)] (.tree (.tup [.sl (aa eI R.1) (List.length R.1) false, .lit (.int .i64 R.2)])) := by
 refine ad.runR mixed Tryz.call42 Tryz.func42 rfl (by simp [Tryz.ntmps42]; kernel_rfl) ?_
 unfold Pk at h
 rcases o0 : my s with _ | b
 ·rw [o0] at h; cases h
 rw [o0, Option.bind_some] at h
 simp only [vz, tyf, seval, ua, rg]
 refine ktA (wA _ _ o0) ?_
 cases b with
 | false =>
  simp only [cond_false, Option.some.injEq] at h
  subst h
  simp only [vz, tyf, seval, ua, rg, Bool.not_false]
  refine bP (x := .tup [.lit (.slice none 0 0), .lit (.int .i64 2)]) (by simp only [Tryz.results42, resV, resL, ar, bV, bU, uw, cr, tyf, nm, seval] <;> rfl) ?_
  refine bZ (by simp only [tre, au]; rfl) ?_
  simp only [outV, nrm, seval, List.map_cons, List.map_nil, lk, List.length_nil]
 | true =>
 rw [cond_true] at h
 simp only [vz, tyf, seval, ua, rg, Bool.not_true]
 rcases o2 : ud s with _ | L
 ·rw [o2] at h; cases h
 rw [o2, Option.bind_some] at h
 obtain ⟨hp, hi⟩ := w8 s L o2
 refine ktA hp ?_
 refine aV (fun tm => tm 2 = .ptr 1 0 ∧ tm 3 = .ptr 2 0 ∧ tm 9 = ue s) (by refine ⟨?_, ?_, ?_⟩ <;> simp only [ua, seval]) ?_
 rintro tm ⟨e2, e3, e9⟩
 simp only [vz, tyf, seval, ua, rg]
 refine wh hi (by first | (simp only [nu, nw, e9, mQ, seval] <;> rfl) | rfl) ?_
 intro LO hLO
 simp only [Option.some.injEq] at h
 obtain ⟨J, hJ⟩ : ∃ J : Option (List VV) → List (Nat × VObj) → Prop, J = (fun o hp => match o with
  | some l => ∃ p : List Gm, l = p.map sM ∧ hp = [(8, .deferred (some [])), (9, LO), (1, .cells (some 29) [.lit (.slice none 0 0)]), (2, .cells (some 32) [.lit (.int .i64 0)])] ∧ headE p = R
  | none => ∃ LD : Code → VObj, (∃ tml ps az bo d, LD = fun c => VObj.loop .done (some c) tml ps az bo d) ∧ hp = [(8, .deferred (some [])), (9, LD .ret), (1, .cells (some 29) [.sl (aa eI R.1) R.1.length false]), (2, .cells (some 32) [.lit (.int .i64 R.2)])]) := ⟨_, rfl⟩
 refine ⟨ownI J, Gc, ?_, ?_, ?_⟩
 ·rintro v rest Fr H nx hFr ⟨hp, hown, hj⟩
  rw [hJ] at hj
  obtain ⟨p, hl, rfl, hR⟩ := hj
  cases p with
  | nil => cases hl
  | cons e p =>
  simp only [List.map_cons, List.cons.injEq] at hl
  obtain ⟨rfl, rfl⟩ := hl
  obtain ⟨l8, n8, H8⟩ := hown.head
  obtain ⟨l9, n9, H9⟩ := hown.tail.head
  obtain ⟨l1, n1, H1⟩ := hown.tail.tail.head
  obtain ⟨l2, n2, H2⟩ := hown.tail.tail.tail.head
  refine wg mixed (psl := [10]) hLO H9 wz rfl (by kernel_rfl) (by kernel_rfl) ?_
  intro LB LD hLB hLD
  refine w1 (fun tm => tm 2 = .ptr 1 0 ∧ tm 3 = .ptr 2 0 ∧ tm 10 = sM e) (by refine ⟨?_, ?_, ?_⟩ <;> simp only [w2, w4, Tryz.ntmps42, e2, e3, seval]) ?_
  clear e2 e3 e9
  rintro tm ⟨e2, e3, aW⟩
  have m1 : (9 = nx) = False := by simp; omega
  have m2 : (nx = 9) = False := by simp; omega
  have m3 : (1 = nx) = False := by simp; omega
  have m4 : (nx = 1) = False := by simp; omega
  have m5 : (2 = nx) = False := by simp; omega
  have m6 : (nx = 2) = False := by simp; omega
  have m7 : (8 = nx) = False := by simp; omega
  simp only [vz, tyf, seval, ua, rg, RStart, e2, e3, aW, H9, H1, H2, Nat.add_zero, m1, m2, m3, m4, m5, m6]
  have hRe : R = (e.mix, 0) := hR.symm
  refine ⟨by simp only [bG, seval], (show nx ≤ nx + 6 by omega), fun γ hγ => ?_, ?_⟩
  ·have g9 : γ ≠ 9 := fun e => n9 (e ▸ hγ)
   have gx := hFr γ hγ
   have g1 : γ ≠ 1 := fun e => n1 (e ▸ hγ)
   have g2 : γ ≠ 2 := fun e => n2 (e ▸ hγ)
   simp only [updH]
   repeat rw [if_neg (by first | assumption | omega)]
  ·simp only [Bool.false_eq_true, if_false]
   refine ⟨[(8, .deferred (some [])), (9, LD .ret), (1, .cells (some 29) [.sl (aa eI e.mix) e.mix.length false]), (2, .cells (some 32) [.lit (.int .i64 0)])], Own.cons (show 8 < nx + 6 by omega) n8 ?_ (Own.cons (show 9 < nx + 6 by omega) n9 ?_ (Own.cons (show 1 < nx + 6 by omega) n1 ?_ (Own.cons (show 2 < nx + 6 by omega) n2 ?_ (Own.nil)))), ?_⟩
   rotate_left 4
   ·rw [hJ]
    exact ⟨LD, ⟨_, _, _, _, _, hLD⟩, by rw [hRe]⟩
   all_goals simp only [bG, seval, H8, m1, m2, m3, m4, m5, m6, m7, Nat.add_zero]
 ·refine ⟨[(8, .deferred (some [])), (9, LO), (1, .cells (some 29) [.lit (.slice none 0 0)]), (2, .cells (some 32) [.lit (.int .i64 0)])], Own.cons (show 8 < 10 by omega) (fun h => h) ?_ (Own.cons (show 9 < 10 by omega) (fun h => h) ?_ (Own.cons (show 1 < 10 by omega) (fun h => h) ?_ (Own.cons (show 2 < 10 by omega) (fun h => h) ?_ (Own.nil)))), ?_⟩
  rotate_left 4
  ·rw [hJ]
   exact ⟨L, rfl, rfl, h⟩
  all_goals simp only [bG, seval]
 ·rintro H' nx' (⟨hp, hown, hj⟩ | ⟨hp, hown, hj⟩)
  ·rw [hJ] at hj
   obtain ⟨p, hl, rfl, hR⟩ := hj
   cases p with
   | cons e p => cases hl
   | nil =>
   subst hR
   obtain ⟨l8, n8, H8⟩ := hown.head
   obtain ⟨l9, n9, H9⟩ := hown.tail.head
   obtain ⟨l1, n1, H1⟩ := hown.tail.tail.head
   obtain ⟨l2, n2, H2⟩ := hown.tail.tail.tail.head
   refine uc hLO H9 ?_
   intro LX
   simp only [vz, tyf, seval, ua, rg, e2, e3, H1, H2, headE]
   refine rA (by simp only [bG, seval, H8]) ?_
   refine bP (x := .tup [.lit (.slice none 0 0), .lit (.int .i64 5)]) (by simp only [Tryz.results42, resV, resL, ar, bV, bU, uw, cr, tyf, e2, e3, H1, H2, nm, seval] <;> rfl) ?_
   refine bZ (by simp only [tre, au, Bool.and_self]) ?_
   simp only [outV, nrm, seval, List.map_cons, List.map_nil, lk, List.length_nil]
  ·rw [hJ] at hj
   obtain ⟨LD, ⟨tml, ps, az, bo, d, hLD⟩, rfl⟩ := hj
   obtain ⟨l8, n8, H8⟩ := hown.head
   obtain ⟨l9, n9, H9⟩ := hown.tail.head
   obtain ⟨l1, n1, H1⟩ := hown.tail.tail.head
   obtain ⟨l2, n2, H2⟩ := hown.tail.tail.tail.head
   refine CQ hLD H9 ?_
   intro LX
   simp only [vz, tyf, seval, ua, rg, e2, e3, H1, H2]
   refine rA (by simp only [bG, seval, H8]) ?_
   refine bP (x := .tup [.sl (aa eI R.1) R.1.length false, .lit (.int .i64 R.2)]) (by simp only [Tryz.results42, resV, resL, ar, bV, bU, uw, cr, tyf, e2, e3, H1, H2, nm, seval] <;> rfl) ?_
   refine bZ (by simp only [tre, au, Bool.and_self]) ?_
   simp only [outV, nrm, seval, List.map_cons, List.map_nil, lk, List.length_nil]

def Pl (s : Gs) : Option (Int × Int) := Option.bind (my s) fun b => cond b (Option.bind (ud s) fun L => cond (lenOk L) (some ((List.length L : Int), 0)) none) (some (0, 2))
theorem zqq (s : Gs) (R : Int × Int) (h : Pl s = some R) : ad Tryz.prog G0 44 [.agg (cGs s)] (.tree (.tup [.lit (.int .i64 R.1), .lit (.int .i64 R.2)])) := by
 refine ad.runR mixed Tryz.call44 Tryz.func44 rfl (by simp [Tryz.ntmps44]; kernel_rfl) ?_
 unfold Pl at h
 rcases o0 : my s with _ | b
 ·rw [o0] at h; cases h
 rw [o0, Option.bind_some] at h
 simp only [vz, tyf, seval, ua, rg]
 refine ktA (wA _ _ o0) ?_
 cases b with
 | false =>
  simp only [cond_false, Option.some.injEq] at h
  subst h
  simp only [vz, tyf, seval, ua, rg, Bool.not_false]
  refine bP (x := .tup [.lit (.int .i64 0), .lit (.int .i64 2)]) (by simp only [Tryz.results44, resV, resL, ar, bV, bU, uw, cr, tyf, nm, seval] <;> rfl) ?_
  refine bZ (by simp only [tre, au]; rfl) ?_
  simp only [outV, nrm, seval, List.map_cons, List.map_nil, lk, List.length_nil]
 | true =>
 rw [cond_true] at h
 simp only [vz, tyf, seval, ua, rg, Bool.not_true]
 rcases o2 : ud s with _ | L
 ·rw [o2] at h; cases h
 rw [o2, Option.bind_some] at h
 obtain ⟨hp, hi⟩ := w8 s L o2
 refine ktA hp ?_
 cases hln : lenOk L with
 | false => rw [hln] at h; cases h
 | true =>
 rw [hln, cond_true] at h
 have hlt : L.length < 9223372036854775808 := by simpa [lenOk] using hln
 refine aV (fun tm => tm 4 = .ptr 6 0 ∧ tm 9 = ue s) (by refine ⟨?_, ?_⟩ <;> simp only [ua, seval]) ?_
 rintro tm ⟨e4, e9⟩
 simp only [vz, tyf, seval, ua, rg]
 refine wh hi (by first | (simp only [nu, nw, e9, mQ, seval] <;> rfl) | rfl) ?_
 intro LO hLO
 simp only [Option.some.injEq] at h
 obtain ⟨J, hJ⟩ : ∃ J : Option (List VV) → List (Nat × VObj) → Prop, J = (fun o hp => match o with
  | some l => ∃ c : Nat, c + l.length = L.length ∧ hp = [(10, .deferred (some [])), (11, LO), (6, .cells (some 3) [.lit (.int .i64 c)])]
  | none => False) := ⟨_, rfl⟩
 refine ⟨ownI J, Gc, ?_, ?_, ?_⟩
 ·rintro v rest Fr H nx hFr ⟨hp, hown, hj⟩
  rw [hJ] at hj
  obtain ⟨c, hc, rfl⟩ := hj
  simp only [List.length_cons] at hc
  obtain ⟨l10, Ws, fZ⟩ := hown.head
  obtain ⟨l11, fP, Gr⟩ := hown.tail.head
  obtain ⟨l6, n6, H6⟩ := hown.tail.tail.head
  refine wg mixed (psl := [10]) hLO Gr wz rfl (by kernel_rfl) (by kernel_rfl) ?_
  intro LB LD hLB hLD
  refine w1 (fun tm => tm 4 = .ptr 6 0) (by simp only [w2, w4, Tryz.ntmps44, e4, seval]) ?_
  clear e4 e9
  rintro tm e4
  have hw : i64.wrap ((c : Int) + 1) = ((c + 1 : Nat) : Int) := by rw [IntWalk.i64_in _ (by omega)]; simp
  simp only [vz, tyf, seval, ua, rg, RStart, e4, Gr, H6, hw]
  refine ⟨by simp only [bG, seval], (show nx ≤ nx + 3 by omega), fun γ hγ => ?_, ?_⟩
  ·have nP : γ ≠ 11 := fun e => fP (e ▸ hγ)
   have g6 : γ ≠ 6 := fun e => n6 (e ▸ hγ)
   simp only [updH]
   repeat rw [if_neg (by first | assumption | omega)]
  ·simp only [if_true]
   refine ⟨[(10, .deferred (some [])), (11, LO), (6, .cells (some 3) [.lit (.int .i64 ((c + 1 : Nat) : Int))])], Own.cons (show 10 < nx + 3 by omega) Ws ?_ (Own.cons (show 11 < nx + 3 by omega) fP ?_ (Own.cons (show 6 < nx + 3 by omega) n6 ?_ Own.nil)), ?_⟩
   rotate_left 3
   ·rw [hJ]
    exact ⟨c + 1, by omega, rfl⟩
   all_goals simp only [bG, seval, fZ]
 ·refine ⟨[(10, .deferred (some [])), (11, LO), (6, .cells (some 3) [.lit (.int .i64 ((0 : Nat) : Int))])], Own.cons (show 10 < 12 by omega) (fun h => h) ?_ (Own.cons (show 11 < 12 by omega) (fun h => h) ?_ (Own.cons (show 6 < 12 by omega) (fun h => h) ?_ Own.nil)), ?_⟩
  rotate_left 3
  ·rw [hJ]
   exact ⟨0, by simp, rfl⟩
  ·simp only [bG, seval]
  ·simp only [bG, seval]
  ·simp only [bG, seval] <;> rfl
 ·rintro H' nx' (⟨hp, hown, hj⟩ | ⟨hp, hown, hj⟩)
  ·rw [hJ] at hj
   obtain ⟨c, hc, rfl⟩ := hj
   simp only [List.length_nil, Nat.add_zero] at hc
   subst hc
   subst h
   obtain ⟨l10, Ws, fZ⟩ := hown.head
   obtain ⟨l11, fP, Gr⟩ := hown.tail.head
   obtain ⟨l6, n6, H6⟩ := hown.tail.tail.head
   refine uc hLO Gr ?_
   intro LX
   simp only [vz, tyf, seval, ua, rg, e4, H6]
   refine rA (by simp only [bG, seval, fZ]) ?_
   refine bP (x := .tup [.lit (.int .i64 (L.length : Int)), .lit (.int .i64 0)]) (by simp only [Tryz.results44, resV, resL, ar, bV, bU, uw, cr, tyf, nm, seval] <;> rfl) ?_
   refine bZ (by simp only [tre, au, Bool.and_self]) ?_
   simp only [outV, nrm, seval, List.map_cons, List.map_nil]
  ·rw [hJ] at hj
   exact hj.elim
def zM : Gm := ⟨⟨⟨0, 0, 0⟩, ⟨⟨0, 0⟩, ⟨0, 0⟩, ⟨0, 0⟩⟩, ⟨0, 0⟩, 0, []⟩, []⟩
def zc : List VV := [.lit (.int .i64 0), .lit (.int .i64 0), .lit (.int .i64 0), .lit (.int .i64 0), .lit (.int .i64 0), .lit (.int .i64 0), .lit (.int .i64 0), .lit (.int .i64 0), .lit (.int .i64 0), .lit (.int .i64 0), .lit (.int .i64 0), .lit (.int .i64 0), .lit (.slice none 0 0), .lit (.slice none 0 0)]
theorem zc_eq : zc = [.lit (.int .i64 0), .lit (.int .i64 0), .lit (.int .i64 0), .lit (.int .i64 0), .lit (.int .i64 0), .lit (.int .i64 0), .lit (.int .i64 0), .lit (.int .i64 0), .lit (.int .i64 0), .lit (.int .i64 0), .lit (.int .i64 0), .lit (.int .i64 0), .lit (.slice none 0 0), .lit (.slice none 0 0)] := rfl
def bestO (better : Gm → Gm → Option Bool) : List Gm → Gm × Bool → Option (Gm × Bool)
 | [], acc => some acc
 | x :: L, acc => cond acc.2 (Option.bind (better x acc.1) fun t => bestO better L (cond t (x, true) acc)) (bestO better L (x, true))
theorem Wt {itv : VV} {bf : Nat} {mc : List VV} {L : List Gm} (hit : Iter Tryz.prog G0 itv (L.map sM)) (hmt : treeL mc = true) {better : Gm → Gm → Option Bool}
  (hb : ∀ a b t, better a b = some t → ad Tryz.prog G0 bf (sM a :: sM b :: mc) (.tree (.lit (.bool t)))) (R : Gm × Bool) (h : bestO better L (zM, false) = some R) :
  ad Tryz.prog G0 78 [itv, .fn (.func bf) [] mc] (.tree (.tup [sM R.1, .lit (.bool R.2)])) := by
 refine ad.runR mixed Tryz.call78 Tryz.func78 rfl (by simp [Tryz.ntmps78]; kernel_rfl) ?_
 simp only [vz, tyf, seval, ua, rg]
 refine zk (fun tm => tm 9 = itv ∧ tm 3 = .ptr 0 0 ∧ tm 4 = .ptr 1 0 ∧ tm 6 = .ptr 3 0 ∧ tm 7 = .ptr 4 0) (by refine ⟨?_, ?_, ?_, ?_, ?_⟩ <;> simp only [ua, seval]) ?_
 rintro tm ⟨e9, e3, e4, e6, e7⟩
 refine wh hit (by first | (simp only [nu, nw, e9, mQ, seval] <;> rfl) | rfl) ?_
 intro LO hLO
 obtain ⟨J, hJ⟩ : ∃ J : Option (List VV) → List (Nat × VObj) → Prop, J = (fun o hp => match o with
  | some l => ∃ (p : List Gm) (r : Gm) (fd : Bool) (y : List VV), l = p.map sM ∧ hp = [(7, .deferred (some [])), (8, LO), (0, .cells (some 111) [.fn (.func bf) [] mc]), (3, .cells (some 89) y), (1, .cells (some 89) zc), (4, .cells (some 4) [.lit (.bool fd)])] ∧ ((fd = true ∧ y = cGm r) ∨ (fd = false ∧ y = zc ∧ r = zM)) ∧ bestO better p (r, fd) = some R
  | none => False) := ⟨_, rfl⟩
 refine ⟨ownI J, Gc, ?_, ?_, ?_⟩
 ·rintro v rest Fr H nx hFr ⟨hp, hown, hj⟩
  rw [hJ] at hj
  obtain ⟨p, r, fd, y, hl, rfl, hy, hR⟩ := hj
  cases p with
  | nil => cases hl
  | cons e p =>
  simp only [List.map_cons, List.cons.injEq] at hl
  obtain ⟨rfl, rfl⟩ := hl
  obtain ⟨l7, n7, H7⟩ := hown.head
  obtain ⟨l8, n8, H8⟩ := hown.tail.head
  obtain ⟨l0, n0, H0⟩ := hown.tail.tail.head
  obtain ⟨l3, n3, H3⟩ := hown.tail.tail.tail.head
  obtain ⟨l1, n1, H1⟩ := hown.tail.tail.tail.tail.head
  obtain ⟨l4, n4, H4⟩ := hown.tail.tail.tail.tail.tail.head
  refine wg mixed (psl := [10]) hLO H8 wz rfl (by kernel_rfl) (by kernel_rfl) ?_
  intro LB LD hLB hLD
  refine w1 (fun tm => tm 10 = sM e ∧ tm 3 = .ptr 0 0 ∧ tm 4 = .ptr 1 0 ∧ tm 6 = .ptr 3 0 ∧ tm 7 = .ptr 4 0) (by refine ⟨?_, ?_, ?_, ?_, ?_⟩ <;> simp only [w2, w4, Tryz.ntmps78, e3, e4, e6, e7, seval]) ?_
  clear e9 e3 e4 e6 e7
  rintro tm ⟨aW, e3, e4, e6, e7⟩
  have m0 : (8 = nx) = False := by simp; omega
  have m1 : (nx = 8) = False := by simp; omega
  have m2 : (3 = nx) = False := by simp; omega
  have m3 : (nx = 3) = False := by simp; omega
  have m4 : (4 = nx) = False := by simp; omega
  have m5 : (nx = 4) = False := by simp; omega
  have m6 : (0 = nx) = False := by simp; omega
  have m7 : (nx = 0) = False := by simp; omega
  have m8 : (7 = nx) = False := by simp; omega
  have m9 : (1 = nx) = False := by simp; omega
  unfold bestO at hR
  rcases hy with ⟨rfl, rfl⟩ | ⟨rfl, rfl, rfl⟩
  ·simp only [cond_true] at hR
   rcases hbt : better e r with _ | t
   ·rw [hbt] at hR; cases hR
   rw [hbt, Option.bind_some] at hR
   simp only [vz, tyf, seval, ua, nm, rg, RStart, aW, e3, e6, e7, H8, H0, H3, H4, Nat.add_zero, m0, m1, m2, m3, m4, m5, m6, m7, m8, m9, Bool.not_true]
   refine ktreeR ?_ (hb e r t hbt) ?_
   ·have h1 : treeL (cGm e) = true := w7.tree e
    have h2 : treeL (cGm r) = true := w7.tree r
    show (treeL (cGm e) && (treeL (cGm r) && treeL mc)) = true
    rw [h1, h2, hmt]
    rfl
   cases t with
   | true =>
    simp only [vz, tyf, seval, ua, nm, rg, RStart, aW, e3, e6, e7, H8, H0, H3, H4, Nat.add_zero, m0, m1, m2, m3, m4, m5, m6, m7, m8, m9]
    refine ⟨by simp only [bG, seval], (show nx ≤ nx + 13 by omega), fun γ hγ => ?_, ?_⟩
    ·have gx := hFr γ hγ
     have g8 : γ ≠ 8 := fun e => n8 (e ▸ hγ)
     have g3 : γ ≠ 3 := fun e => n3 (e ▸ hγ)
     have g4 : γ ≠ 4 := fun e => n4 (e ▸ hγ)
     simp only [updH]
     repeat rw [if_neg (by first | assumption | omega)]
    ·simp only [if_true]
     refine ⟨[(7, .deferred (some [])), (8, LO), (0, .cells (some 111) [.fn (.func bf) [] mc]), (3, .cells (some 89) (cGm e)), (1, .cells (some 89) zc), (4, .cells (some 4) [.lit (.bool true)])], Own.cons (show 7 < nx + 13 by omega) n7 ?_ (Own.cons (show 8 < nx + 13 by omega) n8 ?_ (Own.cons (show 0 < nx + 13 by omega) n0 ?_ (Own.cons (show 3 < nx + 13 by omega) n3 ?_ (Own.cons (show 1 < nx + 13 by omega) n1 ?_ (Own.cons (show 4 < nx + 13 by omega) n4 ?_ (Own.nil)))))), ?_⟩
     rotate_left 6
     ·rw [hJ]
      exact ⟨p, e, true, cGm e, rfl, rfl, .inl ⟨rfl, rfl⟩, hR⟩
     all_goals (simp only [bG, seval, H7, H0, H3, H4, H1, Nat.add_zero, m0, m1, m2, m3, m4, m5, m6, m7, m8, m9] <;> rfl)
   | false =>
    simp only [vz, tyf, seval, ua, nm, rg, RStart, aW, e3, e6, e7, H8, H0, H3, H4, Nat.add_zero, m0, m1, m2, m3, m4, m5, m6, m7, m8, m9]
    refine ⟨by simp only [bG, seval], (show nx ≤ nx + 10 by omega), fun γ hγ => ?_, ?_⟩
    ·have gx := hFr γ hγ
     have g8 : γ ≠ 8 := fun e => n8 (e ▸ hγ)
     have g3 : γ ≠ 3 := fun e => n3 (e ▸ hγ)
     have g4 : γ ≠ 4 := fun e => n4 (e ▸ hγ)
     simp only [updH]
     repeat rw [if_neg (by first | assumption | omega)]
    ·simp only [if_true]
     refine ⟨[(7, .deferred (some [])), (8, LO), (0, .cells (some 111) [.fn (.func bf) [] mc]), (3, .cells (some 89) (cGm r)), (1, .cells (some 89) zc), (4, .cells (some 4) [.lit (.bool true)])], Own.cons (show 7 < nx + 10 by omega) n7 ?_ (Own.cons (show 8 < nx + 10 by omega) n8 ?_ (Own.cons (show 0 < nx + 10 by omega) n0 ?_ (Own.cons (show 3 < nx + 10 by omega) n3 ?_ (Own.cons (show 1 < nx + 10 by omega) n1 ?_ (Own.cons (show 4 < nx + 10 by omega) n4 ?_ (Own.nil)))))), ?_⟩
     rotate_left 6
     ·rw [hJ]
      exact ⟨p, r, true, cGm r, rfl, rfl, .inl ⟨rfl, rfl⟩, hR⟩
     all_goals (simp only [bG, seval, H7, H0, H3, H4, H1, Nat.add_zero, m0, m1, m2, m3, m4, m5, m6, m7, m8, m9] <;> rfl)
  ·simp only [cond_false] at hR
   simp only [vz, tyf, seval, ua, nm, rg, RStart, aW, e3, e6, e7, H8, H0, H3, H4, Nat.add_zero, m0, m1, m2, m3, m4, m5, m6, m7, m8, m9, zc_eq, Bool.not_false]
   refine ⟨by simp only [bG, seval], (show nx ≤ nx + 13 by omega), fun γ hγ => ?_, ?_⟩
   ·have gx := hFr γ hγ
    have g8 : γ ≠ 8 := fun e => n8 (e ▸ hγ)
    have g3 : γ ≠ 3 := fun e => n3 (e ▸ hγ)
    have g4 : γ ≠ 4 := fun e => n4 (e ▸ hγ)
    simp only [updH]
    repeat rw [if_neg (by first | assumption | omega)]
   ·simp only [if_true]
    refine ⟨[(7, .deferred (some [])), (8, LO), (0, .cells (some 111) [.fn (.func bf) [] mc]), (3, .cells (some 89) (cGm e)), (1, .cells (some 89) zc), (4, .cells (some 4) [.lit (.bool true)])], Own.cons (show 7 < nx + 13 by omega) n7 ?_ (Own.cons (show 8 < nx + 13 by omega) n8 ?_ (Own.cons (show 0 < nx + 13 by omega) n0 ?_ (Own.cons (show 3 < nx + 13 by omega) n3 ?_ (Own.cons (show 1 < nx + 13 by omega) n1 ?_ (Own.cons (show 4 < nx + 13 by omega) n4 ?_ (Own.nil)))))), ?_⟩
    rotate_left 6
    ·rw [hJ]
     exact ⟨p, e, true, cGm e, rfl, rfl, .inl ⟨rfl, rfl⟩, hR⟩
    all_goals (simp only [bG, seval, H7, H0, H3, H4, H1, Nat.add_zero, m0, m1, m2, m3, m4, m5, m6, m7, m8, m9] <;> rfl)
 ·refine ⟨[(7, .deferred (some [])), (8, LO), (0, .cells (some 111) [.fn (.func bf) [] mc]), (3, .cells (some 89) zc), (1, .cells (some 89) zc), (4, .cells (some 4) [.lit (.bool false)])], Own.cons (show 7 < 9 by omega) (fun h => h) ?_ (Own.cons (show 8 < 9 by omega) (fun h => h) ?_ (Own.cons (show 0 < 9 by omega) (fun h => h) ?_ (Own.cons (show 3 < 9 by omega) (fun h => h) ?_ (Own.cons (show 1 < 9 by omega) (fun h => h) ?_ (Own.cons (show 4 < 9 by omega) (fun h => h) ?_ (Own.nil)))))), ?_⟩
  rotate_left 6
  ·rw [hJ]
   exact ⟨L, zM, false, zc, rfl, rfl, .inr ⟨rfl, rfl, rfl⟩, h⟩
  all_goals (simp only [bG, seval] <;> rfl)
 ·rintro H' nx' (⟨hp, hown, hj⟩ | ⟨hp, hown, hj⟩)
  ·rw [hJ] at hj
   obtain ⟨p, r, fd, y, hl, rfl, hy, hR⟩ := hj
   cases p with
   | cons e p => cases hl
   | nil =>
   simp only [bestO, Option.some.injEq] at hR
   subst hR
   obtain ⟨l7, n7, H7⟩ := hown.head
   obtain ⟨l8, n8, H8⟩ := hown.tail.head
   obtain ⟨l0, n0, H0⟩ := hown.tail.tail.head
   obtain ⟨l3, n3, H3⟩ := hown.tail.tail.tail.head
   obtain ⟨l1, n1, H1⟩ := hown.tail.tail.tail.tail.head
   obtain ⟨l4, n4, H4⟩ := hown.tail.tail.tail.tail.tail.head
   rcases hy with ⟨rfl, rfl⟩ | ⟨rfl, rfl, rfl⟩
   ·refine uc hLO H8 ?_
    intro LX
    simp only [vz, tyf, seval, ua, nm, rg, e4, e6, e7, H3, H4, H1]
    refine mZ (fun tm => tm 4 = .ptr 1 0 ∧ tm 6 = .ptr 3 0 ∧ tm 7 = .ptr 4 0) ⟨e4, e6, e7⟩ ?_
    clear e9 e3 e4 e6 e7
    rintro tm ⟨e4, e6, e7⟩
    simp only [vz, tyf, seval, ua, nm, rg, e4, e6, e7, H3, H4, H1, zc_eq]
    refine jS ⟨?_, ?_⟩
    ·simp only [jT, jU, eA, jV, and_true, true_and]
     repeat' (first | exact trivial | refine And.intro ?_ ?_ | rw [eA] | rw [jW] | exact Or.inl (by decide +kernel) | exact Or.inl (by dsimp only; decide +kernel) | (refine Or.inr ⟨?_, ?_⟩ <;> simp; done) | (refine Or.inr ⟨?_, ?_⟩ <;> simp <;> omega) | (refine Or.inr ⟨?_, ?_⟩ <;> simp [VEff.wr] <;> omega))
    simp only [vz, tyf, seval, ua, nm, rg, e4, e6, e7, H3, H4, H1, zc_eq]
    refine rA (by simp only [bG, seval, H7]) ?_
    refine bP (x := .tup [sM r, .lit (.bool true)]) (by simp only [Tryz.results78, resV, resL, ar, bV, bU, uw, cr, tyf, nm, seval, e4] <;> rfl) ?_
    have hs := w7.tree r
    refine bZ (by simp only [tre, au, hs, Bool.and_self]) ?_
    simp only [outV, nrm, av, seval, List.map_cons, List.map_nil]
   ·refine uc hLO H8 ?_
    intro LX
    simp only [vz, tyf, seval, ua, nm, rg, e4, e6, e7, H3, H4, H1]
    refine mZ (fun tm => tm 4 = .ptr 1 0 ∧ tm 6 = .ptr 3 0 ∧ tm 7 = .ptr 4 0) ⟨e4, e6, e7⟩ ?_
    clear e9 e3 e4 e6 e7
    rintro tm ⟨e4, e6, e7⟩
    simp only [vz, tyf, seval, ua, nm, rg, e4, e6, e7, H3, H4, H1, zc_eq]
    refine jS ⟨?_, ?_⟩
    ·simp only [jT, jU, eA, jV, and_true, true_and]
     repeat' (first | exact trivial | refine And.intro ?_ ?_ | rw [eA] | rw [jW] | exact Or.inl (by decide +kernel) | exact Or.inl (by dsimp only; decide +kernel) | (refine Or.inr ⟨?_, ?_⟩ <;> simp; done) | (refine Or.inr ⟨?_, ?_⟩ <;> simp <;> omega) | (refine Or.inr ⟨?_, ?_⟩ <;> simp [VEff.wr] <;> omega))
    simp only [vz, tyf, seval, ua, nm, rg, e4, e6, e7, H3, H4, H1, zc_eq]
    refine rA (by simp only [bG, seval, H7]) ?_
    refine bP (x := .tup [.agg zc, .lit (.bool false)]) (by simp only [Tryz.results78, resV, resL, ar, bV, bU, uw, cr, tyf, nm, seval, e4] <;> rfl) ?_
    refine bZ (by simp only [zc_eq, tre, au, Bool.and_self]) ?_
    simp only [outV, nrm, seval, zc_eq, List.map_cons, List.map_nil, lk, List.length_nil]
    rfl
  ·rw [hJ] at hj
   exact hj.elim
def zK (ah : Gm) : Option (Int) := Option.bind (tU ah 0) (fun r1 => Option.bind (tU ah 1) (fun r2 => Option.bind (tU ah 2) (fun r3 => some (if (if (if 0 < r1 then r1 else 0) < r2 then r2 else (if 0 < r1 then r1 else 0)) < r3 then r3 else (if (if 0 < r1 then r1 else 0) < r2 then r2 else (if 0 < r1 then r1 else 0))))))
theorem Pm (ah : Gm) (R : Int) (h : zK ah = some R) : ad Tryz.prog G0 81 [.agg (cGm ah)] (.tree (.lit (.int .i64 R))) := by
 refine ad.runR mixed Tryz.call81 Tryz.func81 rfl (by simp [Tryz.ntmps81]; kernel_rfl) ?_
 obtain ⟨KF, h, kF, kN⟩ := cQ h
 simp only [zK] at h
 simp only [vz, tyf, nm, seval]
 refine pv mixed (by kernel_rfl) 4 ?_
 obtain ⟨r4, o5, h⟩ := optI h kN
 try simp only [hs] at h
 simp only [vz, tyf, nm, seval]
 refine ktA (Gv _ _ _ o5) ?_
 refine aV (fun tm => tm 1 = .ptr 0 0 ∧ tm 5 = .lit (.int .i64 0) ∧ tm 8 = .lit (.int .i64 0) ∧ tm 11 = .lit (.int .i64 r4) ∧ True) (by refine ⟨?_, ?_, ?_, ?_, trivial⟩ <;> first | (simp only [ua, nm, seval] <;> rfl) | rfl) ?_
 rintro tm ⟨e6, e7, e8, e9, _⟩
 obtain ⟨dA, uf, h⟩ := optI h kN
 try simp only [hs] at h
 simp only [vz, tyf, e6, e7, e8, e9, nm, seval]
 refine ktA (Gv _ _ _ uf) ?_
 refine aV (fun tm => tm 1 = .ptr 0 0 ∧ tm 5 = .lit (.int .i64 1) ∧ tm 8 = .lit (.int .i64 (if 0 < r4 then r4 else 0)) ∧ tm 11 = .lit (.int .i64 dA) ∧ True) (by refine ⟨e6, ?_, ?_, ?_, trivial⟩ <;> first | (simp only [ua, e6, e7, e8, e9, nm, seval] <;> rfl) | rfl) ?_
 rintro tm ⟨aY, bd, bg, bK, _⟩
 obtain ⟨jO, jf, h⟩ := optI h kN
 try simp only [hs] at h
 simp only [vz, tyf, aY, bd, bg, bK, nm, seval]
 refine ktA (Gv _ _ _ jf) ?_
 refine aV (fun tm => tm 1 = .ptr 0 0 ∧ tm 5 = .lit (.int .i64 2) ∧ tm 8 = .lit (.int .i64 (if (if 0 < r4 then r4 else 0) < dA then dA else (if 0 < r4 then r4 else 0))) ∧ tm 11 = .lit (.int .i64 jO) ∧ True) (by refine ⟨aY, ?_, ?_, ?_, trivial⟩ <;> first | (simp only [ua, aY, bd, bg, bK, nm, seval] <;> rfl) | rfl) ?_
 rintro tm ⟨cv, cT, cB, bJ, _⟩
 try simp only [vz, tyf, cv, cT, cB, bJ, nm, seval]
 refine bP (x := (.lit (.int .i64 (if (if (if 0 < r4 then r4 else 0) < dA then dA else (if 0 < r4 then r4 else 0)) < jO then jO else (if (if 0 < r4 then r4 else 0) < dA then dA else (if 0 < r4 then r4 else 0)))))) (by first | (simp only [Tryz.results81, resV, resL, ar, bV, bU, uw, cr, tyf, nm, seval] <;> rfl) | rfl) ?_
 obtain rfl := kF _ h
 refine bZ ?_ ?_
 ·simp only [tre, au, Bool.and_self]
 ·first | (simp only [outV, uw, cA, cr, tyf, nrm, av, cv, cT, cB, bJ, nm, seval] <;> rfl) | rfl
def CV (cN : Gm) (cW : Gm) : Option (Bool) := Option.bind (zK cN) (fun r1 => Option.bind (zK cW) (fun r2 => some (decide (r1 < r2))))
theorem zpx (cN : Gm) (cW : Gm) (R : Bool) (h : CV cN cW = some R) : ad Tryz.prog G0 80 [.agg (cGm cN), .agg (cGm cW)] (.tree (.lit (.bool R))) := by
 refine ad.runR mixed Tryz.call80 Tryz.func80 rfl (by simp [Tryz.ntmps80]; kernel_rfl) ?_
 obtain ⟨KF, h, kF, kN⟩ := cQ h
 simp only [CV] at h
 simp only [vz, tyf, nm, seval]
 refine fu (fun tm => tm 2 = .ptr 0 0 ∧ tm 3 = .ptr 1 0 ∧ True) (by refine ⟨?_, ?_, trivial⟩ <;> first | (simp only [ua, nm, seval] <;> rfl) | rfl) ?_
 rintro tm ⟨e3, e4, _⟩
 obtain ⟨r5, o6, h⟩ := optI h kN
 try simp only [hs] at h
 simp only [vz, tyf, e3, e4, nm, seval]
 refine dktA (Pm _ _ o6) ?_
 refine aV (fun tm => tm 3 = .ptr 1 0 ∧ tm 6 = .lit (.int .i64 r5) ∧ True) (by refine ⟨e4, ?_, trivial⟩ <;> first | (simp only [ua, e3, e4, nm, seval] <;> rfl) | rfl) ?_
 rintro tm ⟨e7, e8, _⟩
 obtain ⟨r9, vb, h⟩ := optI h kN
 try simp only [hs] at h
 simp only [vz, tyf, e7, e8, nm, seval]
 refine dktA (Pm _ _ vb) ?_
 refine aV (fun tm => tm 6 = .lit (.int .i64 r5) ∧ tm 8 = .lit (.int .i64 r9) ∧ True) (by refine ⟨e8, ?_, trivial⟩ <;> first | (simp only [ua, e7, e8, nm, seval] <;> rfl) | rfl) ?_
 rintro tm ⟨aX, aY, _⟩
 try simp only [vz, tyf, aX, aY, nm, seval]
 obtain rfl := kF _ h
 exact bl Tryz.results80 rfl
def wB  : List Int → Int → (List Int) → Option (LOut (List Int) ((List Int)))
 | [], ql, cj => some (.go cj)
 | e0 :: p0, ql, cj => cond (decide (e0 > 0)) (cond (roomOk 8 (List.length (cj ++ [ql]))) (wB p0 (ql + 1) (cj ++ [ql])) none) (wB p0 (ql + 1) cj)
def zL (ah : Gm) : Option (List Int) := cond (lenOk ah.mix) (aK (wB ah.mix 0 ([] : List Int)) (fun r2 => some r2) (fun c1 => some c1) (fun _ _ => none)) none
theorem CW (ah : Gm) (R : List Int) (h : zL ah = some R) : ad Tryz.prog G0 84 [.agg (cGm ah)] (.tree (.sl (aa eI R) (List.length R) false)) := by
 refine ad.runR mixed Tryz.call84 Tryz.func84 rfl (by simp [Tryz.ntmps84]; kernel_rfl) ?_
 obtain ⟨KF, h, kF, kN⟩ := cQ h
 simp only [zL] at h
 cases g4 : (lenOk ah.mix)
 ·simp only [g4, hs] at h
  exact absurd h kN
 simp only [g4, hs] at h
 simp only [vz, tyf, g4, nm, seval]
 obtain ⟨K3, h, BU, rl, FR, v5⟩ := eO h kN
 obtain ⟨f3, ss, h⟩ := call3 h
 obtain ⟨I3, jc⟩ : ∃ I : Nat → St → Prop, I = (fun m st => ∃ (p3 : List Int) (dr : Int) (cR : List Int) (sW : VV), m = List.length p3 ∧ 0 ≤ dr ∧ List.drop (Int.toNat dr) ah.mix = p3 ∧ st.df = [] ∧ 7 ≤ st.nx ∧ st.tm 7 = .sl (aa eI ah.mix) (List.length ah.mix) false ∧ st.tm 8 = .lit (.int .i64 (List.length ah.mix : Int)) ∧ st.tm 3 = sW ∧ st.tm 9 = .lit (.int .i64 dr) ∧ ((∃ (β : Nat) (el : Option TypeId), sW = .ref β 0 (List.length cR) 1 (List.length cR) ∧ β < st.nx ∧ st.H β = some (.cells el (aa eI cR))) ∨ (sW = .lit (.slice none 0 0) ∧ cR = [])) ∧ K3 (f3 p3 dr cR)) := ⟨_, rfl⟩
 refine loopK mixed (by kernel_rfl) I3 (List.length ah.mix) (by rw [jc]; refine ⟨ah.mix, 0, ([] : List Int), .lit (.slice none 0 0), rfl, Int.le_refl _, rfl, rfl, (show 7 ≤ 7 by omega), ?_, ?_, ?_, ?_, Or.inr ⟨rfl, rfl⟩, h⟩ <;> first | (simp only [ua, nm, seval] <;> rfl) | rfl) ?_
 rintro m ⟨tm, H, gF, df⟩ hinv
 rw [jc] at hinv
 obtain ⟨p3, dr, cR, sW, rfl, ec, eW, hdf, su, e5, e6, e7, e8, ug, h⟩ := hinv
 simp only at hdf su e5 e6 e7 e8 ug
 have n9 := eN (m := 7) (b := gF) (by omega)
 subst hdf ss
 rcases ug with ⟨wC, qm, rfl, Pn, fZ⟩ | ⟨rfl, rfl⟩
 ·have CX := uQ Pn
  cases p3 with
  | nil =>
   have fk : (decide (dr < (List.length ah.mix : Int))) = false := iG ec eW
   simp only [wB, hs, reduceCtorEq] at h
   replace h := rl _ h
   try dsimp only at h
   try simp only [hs] at h
   try simp only [vz, tyf, g4, n9, e5, e6, e7, e8, CX, fZ, fk, nm, seval]
   refine bP (x := (.ref wC 0 (List.length cR) 1 (List.length cR))) (by first | (simp only [Tryz.results84, resV, resL, ar, bV, bU, uw, cr, tyf, g4, n9, CX, fZ, fk, nm, seval] <;> rfl) | rfl) ?_
   obtain rfl := kF _ h
   refine bZ ?_ ?_
   ·simp only [tre, au, Bool.and_self]
   ·first | (simp only [outV, uw, cA, cr, tyf, nrm, av, g4, n9, e5, e6, e7, e8, CX, fZ, fk, nm, seval] <;> rfl) | rfl
  | cons e3 p3 =>
   have cV : (decide (dr < (List.length ah.mix : Int))) = true := iH ec eW
   have nQ := fp ec eW
   have iM := iI ec eW g4
   simp only [wB, hs, reduceCtorEq] at h
   cases cG : (decide (e3 > 0))
   ·simp only [cG, hs] at h
    have uh := And.intro g4 (And.intro n9 (And.intro CX (And.intro fZ (And.intro cV (And.intro iM cG)))))
    simp only [vz, tyf, uh, e5, e6, e7, e8, (bp nQ), nm, seval]
    exact ⟨List.length p3, Nat.lt_succ_self _, by rw [jc]; refine ⟨p3, dr + 1, cR, .ref wC 0 (List.length cR) 1 (List.length cR), rfl, Int.le_trans ec (Int.le_add_one (Int.le_refl _)), eE ec eW, rfl, (show 7 ≤ gF + 10 by omega), e5, e6, ?_, ?_, Or.inl ⟨wC, qm, rfl, (by first | omega | (simp only [nm, seval]; omega)), ?_⟩, h⟩ <;> first | (simp only [ua, uh, e5, e6, e7, e8, nm, seval] <;> rfl) | rfl⟩
   simp only [cG, hs] at h
   have wD := And.intro g4 (And.intro n9 (And.intro CX (And.intro fZ (And.intro cV (And.intro iM cG)))))
   cases wE : (roomOk 8 (List.length (cR ++ [dr])))
   ·simp only [wE, hs] at h
    exact absurd h v5
   simp only [wE, hs] at h
   simp only [vz, tyf, wD, e5, e6, e7, e8, (bp nQ), wE, nm, seval]
   refine k_app (w := 1) (enc := eI) (xs := cR) (ys := ([dr])) (el := qm) (rz := (some 3)) (fun _ => rfl) mz mA Tryz.underlying29 (by first | rfl | assumption | (simp only [bG, fm, ll, wD, nm, seval] <;> rfl) | (simp only [bG, fm, rC, lk, py, pz, tyf, wD, e5, e6, e7, e8, (bp nQ), wE, nm, seval]; done)) (by first | rfl | assumption | (simp only [bG, fm, ll, wD, nm, seval] <;> rfl) | (simp only [bG, fm, rC, lk, py, pz, tyf, wD, e5, e6, e7, e8, (bp nQ), wE, nm, seval]; done)) (Nat.zero_lt_succ _) wE ?_
   simp only [vz, tyf, wD, e5, e6, e7, e8, (bp nQ), wE, nm, seval]
   exact ⟨List.length p3, Nat.lt_succ_self _, by rw [jc]; refine ⟨p3, dr + 1, (cR ++ [dr]), .ref (gF + 11) 0 (List.length (cR ++ [dr])) 1 (List.length (cR ++ [dr])), rfl, Int.le_trans ec (Int.le_add_one (Int.le_refl _)), eE ec eW, rfl, (show 7 ≤ gF + 15 by omega), e5, e6, ?_, ?_, Or.inl ⟨gF + 11, (sameEl qm 3), rfl, (by first | omega | (simp only [nm, seval]; omega)), ?_⟩, h⟩ <;> first | (simp only [ua, wD, e5, e6, e7, e8, nm, seval] <;> rfl) | rfl⟩
 ·cases p3 with
  | nil =>
   have cw : (decide (dr < (List.length ah.mix : Int))) = false := iG ec eW
   simp only [wB, hs, reduceCtorEq] at h
   replace h := rl _ h
   try dsimp only at h
   try simp only [hs] at h
   try simp only [vz, tyf, g4, n9, e5, e6, e7, e8, cw, nm, seval]
   refine bP (x := (.lit (.slice none 0 0))) (by first | (simp only [Tryz.results84, resV, resL, ar, bV, bU, uw, cr, tyf, g4, n9, cw, nm, seval] <;> rfl) | rfl) ?_
   obtain rfl := kF _ h
   refine bZ ?_ ?_
   ·simp only [tre, au, Bool.and_self]
   ·first | (simp only [outV, uw, cA, cr, tyf, nrm, av, g4, n9, e5, e6, e7, e8, cw, nm, seval] <;> rfl) | rfl
  | cons e3 p3 =>
   have fa : (decide (dr < (List.length ah.mix : Int))) = true := iH ec eW
   have Gw := fp ec eW
   have zN := iI ec eW g4
   simp only [wB, hs, reduceCtorEq] at h
   cases dY : (decide (e3 > 0))
   ·simp only [dY, hs] at h
    simp only [vz, tyf, g4, n9, e5, e6, e7, e8, fa, (bp Gw), zN, dY, nm, seval]
    exact ⟨List.length p3, Nat.lt_succ_self _, by rw [jc]; refine ⟨p3, dr + 1, ([] : List Int), .lit (.slice none 0 0), rfl, Int.le_trans ec (Int.le_add_one (Int.le_refl _)), eE ec eW, rfl, (show 7 ≤ gF + 10 by omega), e5, e6, ?_, ?_, Or.inr ⟨rfl, rfl⟩, h⟩ <;> first | (simp only [ua, n9, e5, e6, e7, e8, fa, zN, dY, nm, seval] <;> rfl) | rfl⟩
   simp only [dY, hs] at h
   cases ng : (roomOk 8 (List.length (([] : List Int) ++ [dr])))
   ·simp only [ng, hs] at h
    exact absurd h v5
   simp only [ng, hs] at h
   simp only [vz, tyf, g4, n9, e5, e6, e7, e8, fa, (bp Gw), zN, dY, ng, nm, seval]
   refine sV (w := 1) (enc := eI) (ys := ([dr])) (rz := (some 3)) (fun _ => rfl) mz mA Tryz.underlying29 (by first | rfl | assumption | (simp only [bG, fm, ll, n9, nm, seval] <;> rfl) | (simp only [bG, fm, rC, lk, py, pz, tyf, g4, n9, e5, e6, e7, e8, fa, (bp Gw), zN, dY, ng, nm, seval]; done)) (Nat.zero_lt_succ _) ng ?_
   simp only [vz, tyf, g4, n9, e5, e6, e7, e8, fa, (bp Gw), zN, dY, ng, nm, seval]
   exact ⟨List.length p3, Nat.lt_succ_self _, by rw [jc]; refine ⟨p3, dr + 1, (([] : List Int) ++ [dr]), .ref (gF + 11) 0 (List.length (([] : List Int) ++ [dr])) 1 (List.length (([] : List Int) ++ [dr])), rfl, Int.le_trans ec (Int.le_add_one (Int.le_refl _)), eE ec eW, rfl, (show 7 ≤ gF + 15 by omega), e5, e6, ?_, ?_, Or.inl ⟨gF + 11, (some 3), rfl, (by first | omega | (simp only [nm, seval]; omega)), ?_⟩, h⟩ <;> first | (simp only [ua, n9, e5, e6, e7, e8, fa, zN, dY, nm, seval] <;> rfl) | rfl⟩
def Gx (ah : Int) : Option (Bool) := some (ah != ah)
theorem Wu (ah : Int) (R : Bool) (h : Gx ah = some R) : ad Tryz.prog G0 129 [.lit (.int .i64 ah)] (.tree (.lit (.bool R))) := by
 refine ad.runR mixed Tryz.call129 Tryz.func129 rfl (by simp [Tryz.ntmps129]; kernel_rfl) ?_
 obtain ⟨KF, h, kF, kN⟩ := cQ h
 simp only [Gx] at h
 try simp only [vz, tyf, nm, seval]
 obtain rfl := kF _ h
 exact bl Tryz.results129 rfl
def Gy (ah : Int) (jF : Int) : Option (Int) := Option.bind (Gx ah) (fun r1 => Option.bind (Gx jF) (fun r2 => cond (r1) (cond (r2) (some 0) (some (-1))) (cond (r2) (some 1) (cond (decide (ah < jF)) (some (-1)) (cond (decide (ah > jF)) (some 1) (some 0))))))
theorem Wv (ah : Int) (jF : Int) (R : Int) (h : Gy ah jF = some R) : ad Tryz.prog G0 113 [.lit (.int .i64 ah), .lit (.int .i64 jF)] (.tree (.lit (.int .i64 R))) := by
 refine ad.runR mixed Tryz.call113 Tryz.func113 rfl (by simp [Tryz.ntmps113]; kernel_rfl) ?_
 obtain ⟨KF, h, kF, kN⟩ := cQ h
 simp only [Gy] at h
 obtain ⟨r3, o4, h⟩ := optI h kN
 try simp only [hs] at h
 simp only [vz, tyf, nm, seval]
 refine ktA (Wu _ _ o4) ?_
 refine aV (fun tm => tm 0 = .lit (.int .i64 ah) ∧ tm 1 = .lit (.int .i64 jF) ∧ tm 8 = .lit (.bool r3) ∧ True) (by refine ⟨?_, ?_, ?_, trivial⟩ <;> first | (simp only [ua, nm, seval] <;> rfl) | rfl) ?_
 rintro tm ⟨e5, e6, e7, _⟩
 obtain ⟨r8, o9, h⟩ := optI h kN
 try simp only [hs] at h
 simp only [vz, tyf, e5, e6, e7, nm, seval]
 refine ktA (Wu _ _ o9) ?_
 refine aV (fun tm => tm 0 = .lit (.int .i64 ah) ∧ tm 1 = .lit (.int .i64 jF) ∧ tm 5 = .lit (.bool r3) ∧ tm 10 = .lit (.bool r8) ∧ True) (by refine ⟨e5, e6, ?_, ?_, trivial⟩ <;> first | (simp only [ua, e5, e6, e7, nm, seval] <;> rfl) | rfl) ?_
 rintro tm ⟨aW, aX, aY, bd, _⟩
 cases bH : (r3)
 ·simp only [bH, hs] at h
  cases bu : (r8)
  ·simp only [bu, hs] at h
   cases cG : (decide (ah < jF))
   ·simp only [cG, hs] at h
    cases cL : (decide (ah > jF))
    ·simp only [cL, hs] at h
     try simp only [vz, tyf, aW, aX, aY, bd, bH, bu, cG, cL, nm, seval]
     refine bP (x := (.lit (.int .i64 0))) (by first | (simp only [Tryz.results113, resV, resL, ar, bV, bU, uw, cr, tyf, bH, bu, cG, cL, nm, seval] <;> rfl) | rfl) ?_
     obtain rfl := kF _ h
     refine bZ ?_ ?_
     ·simp only [tre, au, Bool.and_self]
     ·first | (simp only [outV, uw, cA, cr, tyf, nrm, av, aW, aX, aY, bd, bH, bu, cG, cL, nm, seval] <;> rfl) | rfl
    simp only [cL, hs] at h
    try simp only [vz, tyf, aW, aX, aY, bd, bH, bu, cG, cL, nm, seval]
    refine bP (x := (.lit (.int .i64 1))) (by first | (simp only [Tryz.results113, resV, resL, ar, bV, bU, uw, cr, tyf, bH, bu, cG, cL, nm, seval] <;> rfl) | rfl) ?_
    obtain rfl := kF _ h
    refine bZ ?_ ?_
    ·simp only [tre, au, Bool.and_self]
    ·first | (simp only [outV, uw, cA, cr, tyf, nrm, av, aW, aX, aY, bd, bH, bu, cG, cL, nm, seval] <;> rfl) | rfl
   simp only [cG, hs] at h
   try simp only [vz, tyf, aW, aX, aY, bd, bH, bu, cG, nm, seval]
   refine bP (x := (.lit (.int .i64 (-1)))) (by first | (simp only [Tryz.results113, resV, resL, ar, bV, bU, uw, cr, tyf, bH, bu, cG, nm, seval] <;> rfl) | rfl) ?_
   obtain rfl := kF _ h
   refine bZ ?_ ?_
   ·simp only [tre, au, Bool.and_self]
   ·first | (simp only [outV, uw, cA, cr, tyf, nrm, av, aW, aX, aY, bd, bH, bu, cG, nm, seval] <;> rfl) | rfl
  simp only [bu, hs] at h
  try simp only [vz, tyf, aW, aX, aY, bd, bH, bu, nm, seval]
  refine bP (x := (.lit (.int .i64 1))) (by first | (simp only [Tryz.results113, resV, resL, ar, bV, bU, uw, cr, tyf, bH, bu, nm, seval] <;> rfl) | rfl) ?_
  obtain rfl := kF _ h
  refine bZ ?_ ?_
  ·simp only [tre, au, Bool.and_self]
  ·first | (simp only [outV, uw, cA, cr, tyf, nrm, av, aW, aX, aY, bd, bH, bu, nm, seval] <;> rfl) | rfl
 simp only [bH, hs] at h
 cases cD : (r8)
 ·simp only [cD, hs] at h
  try simp only [vz, tyf, aW, aX, aY, bd, bH, cD, nm, seval]
  refine bP (x := (.lit (.int .i64 (-1)))) (by first | (simp only [Tryz.results113, resV, resL, ar, bV, bU, uw, cr, tyf, bH, cD, nm, seval] <;> rfl) | rfl) ?_
  obtain rfl := kF _ h
  refine bZ ?_ ?_
  ·simp only [tre, au, Bool.and_self]
  ·first | (simp only [outV, uw, cA, cr, tyf, nrm, av, aW, aX, aY, bd, bH, cD, nm, seval] <;> rfl) | rfl
 simp only [cD, hs] at h
 try simp only [vz, tyf, aW, aX, aY, bd, bH, cD, nm, seval]
 refine bP (x := (.lit (.int .i64 0))) (by first | (simp only [Tryz.results113, resV, resL, ar, bV, bU, uw, cr, tyf, bH, cD, nm, seval] <;> rfl) | rfl) ?_
 obtain rfl := kF _ h
 refine bZ ?_ ?_
 ·simp only [tre, au, Bool.and_self]
 ·first | (simp only [outV, uw, cA, cr, tyf, nrm, av, aW, aX, aY, bd, bH, cD, nm, seval] <;> rfl) | rfl
def Gz  : List Int → Int → Option (LOut (Int) (Unit))
 | [], i9 => some (.go ())
 | e0 :: p0, i9 => cond (e0 != 0) (some (.ret e0)) (Gz p0 (i9 + 1))
def Po (bO : List Int) : Option (Int) := cond (lenOk bO) (aK (Gz bO 0) (fun r2 => some r2) (fun c1 => some 0) (fun _ _ => none)) none
theorem zqn (bO : List Int) (R : Int) (h : Po bO = some R) : ad Tryz.prog G0 112 [.sl (aa eI bO) (List.length bO) false] (.tree (.lit (.int .i64 R))) := by
 refine ad.runR mixed Tryz.call112 Tryz.func112 rfl (by simp [Tryz.ntmps112]; kernel_rfl) ?_
 obtain ⟨KF, h, kF, kN⟩ := cQ h
 simp only [Po] at h
 cases g4 : (lenOk bO)
 ·simp only [g4, hs] at h
  exact absurd h kN
 simp only [g4, hs] at h
 simp only [vz, tyf, g4, nm, seval]
 obtain ⟨K3, h, BU, rl, FR, v5⟩ := eO h kN
 obtain ⟨f3, ss, h⟩ := call2 h
 obtain ⟨I3, jc⟩ : ∃ I : Nat → St → Prop, I = (fun m st => ∃ (p3 : List Int) (fz : Int), m = List.length p3 ∧ 0 ≤ fz ∧ List.drop (Int.toNat fz) bO = p3 ∧ st.df = [] ∧ 5 ≤ st.nx ∧ st.tm 3 = .lit (.int .i64 0) ∧ st.tm 6 = .sl (aa eI bO) (List.length bO) false ∧ st.tm 7 = .lit (.int .i64 (List.length bO : Int)) ∧ st.tm 8 = .lit (.int .i64 fz) ∧ K3 (f3 p3 fz)) := ⟨_, rfl⟩
 refine loopK mixed (by kernel_rfl) I3 (List.length bO) (by rw [jc]; refine ⟨bO, 0, rfl, Int.le_refl _, rfl, rfl, (show 5 ≤ 5 by omega), ?_, ?_, ?_, ?_, h⟩ <;> first | (simp only [ua, nm, seval] <;> rfl) | rfl) ?_
 rintro m ⟨tm, H, gF, df⟩ hinv
 rw [jc] at hinv
 obtain ⟨p3, fz, rfl, ec, eW, hdf, su, e5, e6, e7, e8, h⟩ := hinv
 simp only at hdf su e5 e6 e7 e8
 have n9 := eN (m := 5) (b := gF) (by omega)
 subst hdf ss
 cases p3 with
 | nil =>
  have bX : (decide (fz < (List.length bO : Int))) = false := iG ec eW
  simp only [Gz, hs, reduceCtorEq] at h
  replace h := rl _ h
  try dsimp only at h
  try simp only [hs] at h
  try simp only [vz, tyf, g4, n9, e5, e6, e7, e8, bX, nm, seval]
  refine bP (x := (.lit (.int .i64 0))) (by first | (simp only [Tryz.results112, resV, resL, ar, bV, bU, uw, cr, tyf, g4, n9, bX, nm, seval] <;> rfl) | rfl) ?_
  obtain rfl := kF _ h
  refine bZ ?_ ?_
  ·simp only [tre, au, Bool.and_self]
  ·first | (simp only [outV, uw, cA, cr, tyf, nrm, av, g4, n9, e5, e6, e7, e8, bX, nm, seval] <;> rfl) | rfl
 | cons e3 p3 =>
  have lp : (decide (fz < (List.length bO : Int))) = true := iH ec eW
  have kL := fp ec eW
  have lq := iI ec eW g4
  simp only [Gz, hs, reduceCtorEq] at h
  cases bH : (e3 != 0)
  ·simp only [bH, hs] at h
   simp only [vz, tyf, g4, n9, e5, e6, e7, e8, lp, (bp kL), lq, bH, nm, seval]
   exact ⟨List.length p3, Nat.lt_succ_self _, by rw [jc]; refine ⟨p3, fz + 1, rfl, Int.le_trans ec (Int.le_add_one (Int.le_refl _)), eE ec eW, rfl, (show 5 ≤ gF + 9 by omega), e5, e6, e7, ?_, h⟩ <;> first | (simp only [ua, n9, e5, e6, e7, e8, lp, lq, bH, nm, seval] <;> rfl) | rfl⟩
  simp only [bH, hs] at h
  try simp only [vz, tyf, g4, n9, e5, e6, e7, e8, lp, (bp kL), lq, bH, nm, seval]
  refine bP (x := (.lit (.int .i64 e3))) (by first | (simp only [Tryz.results112, resV, resL, ar, bV, bU, uw, cr, tyf, g4, n9, lp, (bp kL), lq, bH, nm, seval] <;> rfl) | rfl) ?_
  replace h := BU _ h
  try dsimp only at h
  obtain rfl := kF _ h
  refine bZ ?_ ?_
  ·simp only [tre, au, Bool.and_self]
  ·first | (simp only [outV, uw, cA, cr, tyf, nrm, av, g4, n9, e5, e6, e7, e8, lp, (bp kL), lq, bH, nm, seval] <;> rfl) | rfl
end Go.V
end
