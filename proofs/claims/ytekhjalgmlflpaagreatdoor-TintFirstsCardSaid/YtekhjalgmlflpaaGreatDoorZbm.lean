/- Part of a proof. -/
import Derived.Test.YtekhjalgmlflpaaGreatDoorZbk
import Derived.Test.YtekhjalgmlflpaaGreatDoorZbj
set_option linter.all false
set_option maxRecDepth 4000
set_option maxHeartbeats 40000000
section
namespace Go.V
open Go Go.Proofs IntKind
def filterO (f : Gm → Option Bool) : List Gm → Option (List Gm)
 | [] => some []
 | x :: L => Option.bind (f x) fun t => Option.bind (filterO f L) fun r => some (cond t (x :: r) r)
theorem z2 {itv : VV} {mc : List VV} {bf : Nat} {L : List VV} (hit : Iter Tryz.prog G0 itv L) (hti : itv.tree = true) (htm : treeL mc = true) : ad Tryz.prog G0 107 [itv, .fn (.func bf) [] mc] (.tree (.fn (.func 126) [] [.tp [itv], .tp [.fn (.func bf) [] mc]])) := by
 obtain ⟨f, fi, ca, rfl, _⟩ := hit
 refine ad.run mixed Tryz.call107 Tryz.func107 rfl (by simp [Tryz.ntmps107]; kernel_rfl) ?_
 simp only [vz, tyf, seval, ua, rg]
 refine ⟨rfl, .fn (.func 126) [] [.ptr 0 0, .ptr 1 0], by simp [Tryz.results107, resV, resL, av, upd], 20, ?_⟩
 have hti' : (treeL fi && treeL ca) = true := hti
 simp [sealV, sealL, VV.tree, treeL, updH, htm, hti']
theorem RE {itv : VV} {bf : Nat} {mc : List VV} {L L' : List Gm} (hit : Iter Tryz.prog G0 itv (L.map sM)) (hmt : treeL mc = true) {f : Gm → Option Bool}
  (hb : ∀ a t, f a = some t → ad Tryz.prog G0 bf (sM a :: mc) (.tree (.lit (.bool t)))) (h : filterO f L = some L') :
  Iter Tryz.prog G0 (.fn (.func 126) [] [.tp [itv], .tp [.fn (.func bf) [] mc]]) (L'.map sM) := by
 refine ⟨126, [], _, rfl, fun β I hst hr H nx hβ hI => ?_⟩
 refine aE.run mixed Tryz.call126 Tryz.func126 rfl (by simp [Tryz.ntmps126]; kernel_rfl) ?_
 simp only [List.nil_append, List.cons_append, argsTm3, vz, tyf, seval, ua, rg]
 refine sN (fun tm => tm 5 = itv ∧ tm 2 = .tp [.fn (.func bf) [] mc] ∧ tm 3 = .ptr nx 0) (by refine ⟨?_, ?_, ?_⟩ <;> simp only [ua, seval, Nat.add_zero]) ?_
 rintro tm ⟨e5, e2, e3⟩
 refine sU hit (by first | (simp only [nN, nO, e5, nh, seval] <;> rfl) | rfl) ?_
 intro LO hLO
 obtain ⟨J, hJ⟩ : ∃ J : Option (List VV) → Option (List VV) → List (Nat × VObj) → Prop, J = (fun o o' hp => match o with
  | some l => ∃ (p L2 : List Gm), l = p.map sM ∧ filterO f p = some L2 ∧ o' = some (L2.map sM) ∧ hp = [(nx, .cells (some 144) [.yl β]), (nx + 2, .deferred (some [])), (nx + 3, LO)]
  | none => ∃ LD : Code → VObj, (∃ tml ps az bo d, LD = fun c => VObj.loop .done (some c) tml ps az bo d) ∧ o' = none ∧ hp = [(nx, .cells (some 144) [.yl β]), (nx + 2, .deferred (some [])), (nx + 3, LD .ret)]) := ⟨_, rfl⟩
 refine ⟨ownI2 I J, FU hst, ?_, ?_, ?_⟩
 ·rintro v rest Fr H1 bl hFr ⟨hp, o', hown, hj, hi⟩
  rw [hJ] at hj
  obtain ⟨p, L2, hl, hf, rfl, rfl⟩ := hj
  cases p with
  | nil => cases hl
  | cons e p =>
  simp only [List.map_cons, List.cons.injEq] at hl
  obtain ⟨rfl, rfl⟩ := hl
  obtain ⟨la, na, Ha⟩ := hown.head
  obtain ⟨lb, nb, Hb⟩ := hown.tail.head
  obtain ⟨lc, nc, Hc⟩ := hown.tail.tail.head
  have hfr : ∀ γ, (∃ q ∈ [(nx, .cells (some 144) [.yl β]), (nx + 2, .deferred (some [])), (nx + 3, LO)], (q : Nat × VObj).1 = γ) ↔ γ = nx ∨ γ = nx + 2 ∨ γ = nx + 3 := by
   intro γ
   simp [eq_comm]
  simp only [hfr] at hi
  unfold filterO at hf
  rcases ht : f e with _ | t
  ·rw [ht] at hf; cases hf
  rw [ht, Option.bind_some] at hf
  rcases xd : filterO f p with _ | L3
  ·rw [xd] at hf; cases hf
  rw [xd, Option.bind_some, Option.some.injEq] at hf
  refine sT mixed (psl := [6]) hLO Hc tf rfl (by kernel_rfl) (by kernel_rfl) ?_
  intro LB LD hLB hLD
  refine tg (fun tm => tm 6 = sM e ∧ tm 2 = .tp [.fn (.func bf) [] mc] ∧ tm 3 = .ptr nx 0) (by refine ⟨?_, ?_, ?_⟩ <;> simp only [th, tk, Tryz.ntmps126, e2, e3, seval]) ?_
  clear e5 e2 e3
  rintro tm ⟨e6, e2, e3⟩
  have hne : (nx = nx + 3) = False := by simp
  have xe : (nx + 3 = bl) = False := by simp; omega
  have xf : (bl = nx + 3) = False := by simp; omega
  have z4 : (nx = bl) = False := by simp; omega
  have CF : (nx + 2 = bl) = False := by simp; omega
  have CG : (bl = nx + 2) = False := by simp; omega
  have z5 : (bl = nx) = False := by simp; omega
  simp only [vz, tyf, seval, ua, nm, rg, RStart, e6, e2, e3, Ha, Hc, Nat.add_zero, hne, xe, xf, z4, z5, CF, CG]
  refine ktreeR ?_ (hb e t ht) ?_
  ·have h1 : treeL (cGm e) = true := uU.tree e
   show (treeL (cGm e) && treeL mc) = true
   rw [h1, hmt]
   rfl
  cases t with
  | false =>
   simp only [cond_false] at hf
   subst hf
   simp only [vz, tyf, seval, ua, nm, rg, RStart, e6, e2, e3, Ha, Hc, Nat.add_zero, hne, xe, xf, z4, z5, CF, CG]
   refine ⟨by simp only [bp, seval], (show bl ≤ bl + 11 by omega), fun γ hγ => ?_, ?_⟩
   ·have g3 : γ ≠ nx + 3 := fun e => nc (e ▸ hγ)
    have g4 := hFr γ hγ
    simp only [updH]
    repeat rw [if_neg (by first | assumption | omega)]
   ·simp only [if_true]
    refine ⟨[(nx, .cells (some 144) [.yl β]), (nx + 2, .deferred (some [])), (nx + 3, LO)], some (L3.map sM), Own.cons (show nx < bl + 11 by omega) na ?_ (Own.cons (show nx + 2 < bl + 11 by omega) nb ?_ (Own.cons (show nx + 3 < bl + 11 by omega) nc ?_ Own.nil)), ?_, ?_⟩
    ·simp only [bp, Nat.add_zero, hne, xe, xf, z4, z5, seval, Ha]
    ·simp only [updH]
     repeat rw [if_neg (by omega)]
     exact Hb
    ·simp only [bp, seval]
    ·rw [hJ]
     exact ⟨p, L3, rfl, xd, rfl, rfl⟩
    ·simp only [hfr]
     refine hst _ _ _ _ _ _ _ hi ?_ (by omega) (fun γ h => .inl h)
     intro γ hγ hn
     have g3 : γ ≠ nx + 3 := fun e => hn (.inr (.inr (.inr e)))
     simp only [updH]
     repeat rw [if_neg (by first | assumption | omega)]
  | true =>
   simp only [cond_true] at hf
   subst hf
   simp only [vz, tyf, seval, ua, nm, rg, RStart, e6, e2, e3, Ha, Hc, Nat.add_zero, hne, xe, xf, z4, z5, CF, CG]
   refine (hr (sM e) (L3.map sM) (fun γ => Fr γ ∨ γ = nx ∨ γ = nx + 2 ∨ γ = nx + 3) _ (bl + 11) ?_ ?_) (some (some (nx + 3))) _ _ _ rfl rfl ?_
   ·rintro γ (hγ | rfl | rfl | rfl)
    ·have := hFr γ hγ; omega
    ·omega
    ·omega
    ·omega
   ·refine hst _ _ _ _ _ _ _ hi ?_ (by show bl ≤ bl + 11; omega) (fun γ h => .inl h)
    intro γ hγ hn
    have g3 : γ ≠ nx + 3 := fun e => hn (.inr (.inr (.inr e)))
    simp only [updH]
    repeat rw [if_neg (by first | assumption | omega)]
   rintro b H2 gW ⟨q1, q2, q3⟩
   have Ka : H2 nx = some (.cells (some 144) [.yl β]) := by rw [q2 nx (.inr (.inl rfl))]; simp only [bp, Nat.add_zero, hne, xe, xf, z4, z5, seval, Ha]
   have Kb : H2 (nx + 2) = some (.deferred (some [])) := by rw [q2 _ (.inr (.inr (.inl rfl)))]; simp only [bp, Nat.add_zero, nm, CF, CG, seval, Hb]
   have Kc : H2 (nx + 3) = some LB := by rw [q2 _ (.inr (.inr (.inr rfl)))]; simp only [bp, Nat.add_zero, xe, xf, seval]
   have KF : ∀ γ, Fr γ → H2 γ = H1 γ := by
    intro γ hγ
    have g3 : γ ≠ nx + 3 := fun e => nc (e ▸ hγ)
    have g4 := hFr γ hγ
    rw [q2 γ (.inl hγ)]
    simp only [updH]
    repeat rw [if_neg (by first | assumption | omega)]
   cases b with
   | true =>
    simp only [vz, tyf, seval, ua, nm, rg, Bool.not_true]
    refine ⟨Kc, (show bl ≤ gW by omega), fun γ hγ => ?_, ?_⟩
    ·have g3 : γ ≠ nx + 3 := fun e => nc (e ▸ hγ)
     simp only [updH]
     rw [if_neg g3]
     exact KF γ hγ
    ·simp only [if_true] at q3 ⊢
     refine ⟨[(nx, .cells (some 144) [.yl β]), (nx + 2, .deferred (some [])), (nx + 3, LO)], some (L3.map sM), Own.cons (show nx < gW by omega) na ?_ (Own.cons (show nx + 2 < gW by omega) nb ?_ (Own.cons (show nx + 3 < gW by omega) nc ?_ Own.nil)), ?_, ?_⟩
     ·simp only [bp, seval, hne, Ka]
     ·simp only [bp, nm, seval, Kb]
     ·simp only [bp, seval]
     ·rw [hJ]
      exact ⟨p, L3, rfl, xd, rfl, rfl⟩
     ·simp only [hfr]
      refine hst _ _ _ _ _ _ _ q3 ?_ (by omega) (fun γ h => .inl h)
      intro γ _ hn
      have g3 : γ ≠ nx + 3 := fun e => hn (.inr (.inr (.inr e)))
      simp only [updH]
      rw [if_neg g3]
   | false =>
    simp only [vz, tyf, seval, ua, nm, rg, Bool.not_false]
    refine ⟨Kc, (show bl ≤ gW by omega), fun γ hγ => ?_, ?_⟩
    ·have g3 : γ ≠ nx + 3 := fun e => nc (e ▸ hγ)
     simp only [updH]
     rw [if_neg g3]
     exact KF γ hγ
    ·simp only [Bool.false_eq_true, if_false] at q3 ⊢
     have HJ : ∀ γ, (∃ q ∈ [(nx, .cells (some 144) [.yl β]), (nx + 2, .deferred (some [])), (nx + 3, LD .ret)], (q : Nat × VObj).1 = γ) ↔ γ = nx ∨ γ = nx + 2 ∨ γ = nx + 3 := by
      intro γ
      simp [eq_comm]
     refine ⟨[(nx, .cells (some 144) [.yl β]), (nx + 2, .deferred (some [])), (nx + 3, LD .ret)], none, Own.cons (show nx < gW by omega) na ?_ (Own.cons (show nx + 2 < gW by omega) nb ?_ (Own.cons (show nx + 3 < gW by omega) nc ?_ Own.nil)), ?_, ?_⟩
     ·simp only [bp, seval, hne, Ka]
     ·simp only [bp, nm, seval, Kb]
     ·simp only [bp, seval]
     ·rw [hJ]
      exact ⟨LD, ⟨_, _, _, _, _, hLD⟩, rfl, rfl⟩
     ·simp only [HJ]
      refine hst _ _ _ _ _ _ _ q3 ?_ (by omega) (fun γ h => .inl h)
      intro γ _ hn
      have g3 : γ ≠ nx + 3 := fun e => hn (.inr (.inr (.inr e)))
      simp only [updH]
      rw [if_neg g3]
 ·have hfr : ∀ γ, (∃ q ∈ [(nx, .cells (some 144) [.yl β]), (nx + 2, .deferred (some [])), (nx + 3, LO)], (q : Nat × VObj).1 = γ) ↔ γ = nx ∨ γ = nx + 2 ∨ γ = nx + 3 := by
   intro γ
   simp [eq_comm]
  refine ⟨[(nx, .cells (some 144) [.yl β]), (nx + 2, .deferred (some [])), (nx + 3, LO)], some (L'.map sM), Own.cons (show nx < nx + 4 by omega) (fun h => h) ?_ (Own.cons (show nx + 2 < nx + 4 by omega) (fun h => h) ?_ (Own.cons (show nx + 3 < nx + 4 by omega) (fun h => h) ?_ Own.nil)), ?_, ?_⟩
  ·simp only [updH]
   rw [if_neg (by omega), if_neg (by omega), if_pos (by omega)]
  ·simp only [updH]
   simp
  ·simp only [updH]
   simp
  ·rw [hJ]
   exact ⟨L, L', rfl, h, rfl, rfl⟩
  ·simp only [hfr]
   refine hst _ _ _ _ _ _ _ hI ?_ (by omega) ?_
   ·intro γ hγ _
    simp only [updH]
    repeat rw [if_neg (by omega)]
   ·rintro γ (h | rfl | rfl | rfl)
    ·exact h.elim
    ·right; omega
    ·right; omega
    ·right; omega
 ·rintro H' nx' (⟨hp, o', hown, hj, hi⟩ | ⟨hp, o', hown, hj, hi⟩)
  ·rw [hJ] at hj
   obtain ⟨p, L2, hl, hf, rfl, rfl⟩ := hj
   cases p with
   | cons e p => cases hl
   | nil =>
   simp only [filterO, Option.some.injEq] at hf
   subst hf
   obtain ⟨la, na, Ha⟩ := hown.head
   obtain ⟨lb, nb, Hb⟩ := hown.tail.head
   obtain ⟨lc, nc, Hc⟩ := hown.tail.tail.head
   have hfr : ∀ γ, (∃ q ∈ [(nx, .cells (some 144) [.yl β]), (nx + 2, .deferred (some [])), (nx + 3, LO)], (q : Nat × VObj).1 = γ) ↔ γ = nx ∨ γ = nx + 2 ∨ γ = nx + 3 := by
    intro γ
    simp [eq_comm]
   simp only [hfr] at hi
   refine rG hLO Hc ?_
   intro LX
   simp only [vz, tyf, seval, ua, nm, rg]
   refine HK (by simp only [bp, nm, seval, Hb]) ?_
   refine ym (x := .tup []) (by simp [Tryz.results126, resV, resL]) (.inl ?_)
   refine hst _ _ _ _ _ _ _ hi ?_ (Nat.le_refl _) (fun γ h => h.elim)
   intro γ _ hn
   have g2 : γ ≠ nx + 2 := fun e => hn (.inr (.inr (.inl e)))
   have g3 : γ ≠ nx + 3 := fun e => hn (.inr (.inr (.inr e)))
   simp only [updH]
   repeat rw [if_neg (by first | assumption | omega)]
  ·rw [hJ] at hj
   obtain ⟨LD, ⟨tml, ps, az, bo, d, hLD⟩, rfl, rfl⟩ := hj
   obtain ⟨la, na, Ha⟩ := hown.head
   obtain ⟨lb, nb, Hb⟩ := hown.tail.head
   obtain ⟨lc, nc, Hc⟩ := hown.tail.tail.head
   have hfr : ∀ γ, (∃ q ∈ [(nx, .cells (some 144) [.yl β]), (nx + 2, .deferred (some [])), (nx + 3, LD .ret)], (q : Nat × VObj).1 = γ) ↔ γ = nx ∨ γ = nx + 2 ∨ γ = nx + 3 := by
    intro γ
    simp [eq_comm]
   simp only [hfr] at hi
   refine xg hLD Hc ?_
   intro LX
   simp only [vz, tyf, seval, ua, nm, rg]
   refine oc (by simp only [bp, nm, seval, Hb]) ?_
   refine bG (x := .tup []) (by simp [Tryz.results126, resV, resL]) (.inr ?_)
   refine hst _ _ _ _ _ _ _ hi ?_ (Nat.le_refl _) (fun γ h => h.elim)
   intro γ _ hn
   have g2 : γ ≠ nx + 2 := fun e => hn (.inr (.inr (.inl e)))
   have g3 : γ ≠ nx + 3 := fun e => hn (.inr (.inr (.inr e)))
   simp only [updH]
   repeat rw [if_neg (by first | assumption | omega)]
theorem normX (s : Gs) {f : Nat} : normL [itX s, VV.fn (.func f) [] []] = [itX s, VV.fn (.func f) [] []] := by
 simp only [itX, xh, xi, z6]
def qm (s : Gs) : Option (List Gm) := Option.bind (sS s) (filterO yn)
def tl (s : Gs) : VV := .fn (.func 126) [] [.tp [itX s], .tp [.fn (.func 68) [] []]]
theorem uW (s : Gs) (R : List Gm) (h : qm s = some R) : ad Tryz.prog G0 75 [.agg (cGs s)] (.tree (tl s)) ∧ Iter Tryz.prog G0 (tl s) (R.map sM) := by
 unfold qm at h
 rcases o1 : sS s with _ | L
 ·rw [o1] at h; cases h
 rw [o1, Option.bind_some] at h
 have hi := HL s L o1
 refine ⟨?_, RE (mc := []) (bf := 68) hi rfl (fun a t ha => Uc a t ha) h⟩
 refine ad.run mixed Tryz.call75 Tryz.func75 rfl (by simp [Tryz.ntmps75]; kernel_rfl) ?_
 simp only [vz, tyf, seval, ua, rg]
 refine ktA (HM s) ?_
 simp only [vz, tyf, seval, ua, rg]
 refine ktree (args0 := [itX s, .fn (.func 68) [] []]) (normX s) (by simp only [uX, xj, tn]; rfl) (z2 (mc := []) hi tn rfl) ?_
 simp only [vz, tyf, seval, ua, rg]
 refine ⟨rfl, tl s, by simp [Tryz.results75, resV, resL, av, upd]; rfl, 2, ?_⟩
 have h9 := @tn s
 simp [sealV, tl, VV.tree, treeL, h9]
theorem V5 {s : Gs} : (tl s).tree = true := by
 have h9 := @tn s
 simp [tl, VV.tree, treeL, h9]
def xk (s : Gs) : Option (List Gm) := Option.bind (sS s) (filterO z7)
def z8 (s : Gs) : VV := .fn (.func 126) [] [.tp [itX s], .tp [.fn (.func 69) [] []]]
theorem HN (s : Gs) (R : List Gm) (h : xk s = some R) : ad Tryz.prog G0 76 [.agg (cGs s)] (.tree (z8 s)) ∧ Iter Tryz.prog G0 (z8 s) (R.map sM) := by
 unfold xk at h
 rcases o1 : sS s with _ | L
 ·rw [o1] at h; cases h
 rw [o1, Option.bind_some] at h
 have hi := HL s L o1
 refine ⟨?_, RE (mc := []) (bf := 69) hi rfl (fun a t ha => V6 a t ha) h⟩
 refine ad.run mixed Tryz.call76 Tryz.func76 rfl (by simp [Tryz.ntmps76]; kernel_rfl) ?_
 simp only [vz, tyf, seval, ua, rg]
 refine ktA (HM s) ?_
 simp only [vz, tyf, seval, ua, rg]
 refine ktree (args0 := [itX s, .fn (.func 69) [] []]) (normX s) (by simp only [uX, xj, tn]; rfl) (z2 (mc := []) hi tn rfl) ?_
 simp only [vz, tyf, seval, ua, rg]
 refine ⟨rfl, z8 s, by simp [Tryz.results76, resV, resL, av, upd]; rfl, 2, ?_⟩
 have h9 := @tn s
 simp [sealV, z8, VV.tree, treeL, h9]
def headE (L : List Gm) : List Int × Int := match L with
 | [] => ([], 5)
 | x :: _ => (x.mix, 0)
def xl (s : Gs) : Option (List Int × Int) := Option.bind (mh s) fun b => cond b (Option.bind (qm s) fun L => some (headE L)) (some ([], 2))
theorem RF (s : Gs) (R : List Int × Int) (h : xl s = some R) : ad Tryz.prog G0 42 [.agg (cGs s)] (.tree (.tup [.sl (aa eI R.1) (List.length R.1) false, .lit (.int .i64 R.2)])) := by
 refine ad.runR mixed Tryz.call42 Tryz.func42 rfl (by simp [Tryz.ntmps42]; kernel_rfl) ?_
 unfold xl at h
 rcases o0 : mh s with _ | b
 ·rw [o0] at h; cases h
 rw [o0, Option.bind_some] at h
 simp only [vz, tyf, seval, ua, rg]
 refine ktA (wH _ _ o0) ?_
 cases b with
 | false =>
  simp only [cond_false, Option.some.injEq] at h
  subst h
  simp only [vz, tyf, seval, ua, rg, Bool.not_false]
  refine bG (x := .tup [.lit (.slice none 0 0), .lit (.int .i64 2)]) (by simp only [Tryz.results42, resV, resL, av, bL, bM, uw, cr, tyf, nm, seval] <;> rfl) ?_
  refine bO (by simp only [tre, ar]; rfl) ?_
  simp only [outV, nrm, seval, List.map_cons, List.map_nil, kd, List.length_nil]
 | true =>
 rw [cond_true] at h
 simp only [vz, tyf, seval, ua, rg, Bool.not_true]
 rcases o2 : qm s with _ | L
 ·rw [o2] at h; cases h
 rw [o2, Option.bind_some] at h
 obtain ⟨hp, hi⟩ := uW s L o2
 refine ktA hp ?_
 refine aZ (fun tm => tm 2 = .ptr 1 0 ∧ tm 3 = .ptr 2 0 ∧ tm 9 = tl s) (by refine ⟨?_, ?_, ?_⟩ <;> simp only [ua, seval]) ?_
 rintro tm ⟨e2, e3, e9⟩
 simp only [vz, tyf, seval, ua, rg]
 refine sU hi (by first | (simp only [nN, nO, e9, nh, seval] <;> rfl) | rfl) ?_
 intro LO hLO
 simp only [Option.some.injEq] at h
 obtain ⟨J, hJ⟩ : ∃ J : Option (List VV) → List (Nat × VObj) → Prop, J = (fun o hp => match o with
  | some l => ∃ p : List Gm, l = p.map sM ∧ hp = [(8, .deferred (some [])), (9, LO), (1, .cells (some 29) [.lit (.slice none 0 0)]), (2, .cells (some 32) [.lit (.int .i64 0)])] ∧ headE p = R
  | none => ∃ LD : Code → VObj, (∃ tml ps az bo d, LD = fun c => VObj.loop .done (some c) tml ps az bo d) ∧ hp = [(8, .deferred (some [])), (9, LD .ret), (1, .cells (some 29) [.sl (aa eI R.1) R.1.length false]), (2, .cells (some 32) [.lit (.int .i64 R.2)])]) := ⟨_, rfl⟩
 refine ⟨ownI J, yY, ?_, ?_, ?_⟩
 ·rintro v rest Fr H nx hFr ⟨hp, hown, hj⟩
  rw [hJ] at hj
  obtain ⟨p, hl, rfl, hR⟩ := hj
  cases p with
  | nil => cases hl
  | cons e p =>
  simp only [List.map_cons, List.cons.injEq] at hl
  obtain ⟨rfl, rfl⟩ := hl
  obtain ⟨l8, n8, H8⟩ := hown.head
  obtain ⟨l9, n9, H9⟩ := hown.tail.head
  obtain ⟨l1, n1, H1⟩ := hown.tail.tail.head
  obtain ⟨l2, n2, H2⟩ := hown.tail.tail.tail.head
  refine sT mixed (psl := [10]) hLO H9 tf rfl (by kernel_rfl) (by kernel_rfl) ?_
  intro LB LD hLB hLD
  refine tg (fun tm => tm 2 = .ptr 1 0 ∧ tm 3 = .ptr 2 0 ∧ tm 10 = sM e) (by refine ⟨?_, ?_, ?_⟩ <;> simp only [th, tk, Tryz.ntmps42, e2, e3, seval]) ?_
  clear e2 e3 e9
  rintro tm ⟨e2, e3, bm⟩
  have m1 : (9 = nx) = False := by simp; omega
  have m2 : (nx = 9) = False := by simp; omega
  have m3 : (1 = nx) = False := by simp; omega
  have m4 : (nx = 1) = False := by simp; omega
  have m5 : (2 = nx) = False := by simp; omega
  have m6 : (nx = 2) = False := by simp; omega
  have m7 : (8 = nx) = False := by simp; omega
  simp only [vz, tyf, seval, ua, rg, RStart, e2, e3, bm, H9, H1, H2, Nat.add_zero, m1, m2, m3, m4, m5, m6]
  have hRe : R = (e.mix, 0) := hR.symm
  refine ⟨by simp only [bp, seval], (show nx ≤ nx + 6 by omega), fun γ hγ => ?_, ?_⟩
  ·have g9 : γ ≠ 9 := fun e => n9 (e ▸ hγ)
   have gx := hFr γ hγ
   have g1 : γ ≠ 1 := fun e => n1 (e ▸ hγ)
   have g2 : γ ≠ 2 := fun e => n2 (e ▸ hγ)
   simp only [updH]
   repeat rw [if_neg (by first | assumption | omega)]
  ·simp only [Bool.false_eq_true, if_false]
   refine ⟨[(8, .deferred (some [])), (9, LD .ret), (1, .cells (some 29) [.sl (aa eI e.mix) e.mix.length false]), (2, .cells (some 32) [.lit (.int .i64 0)])], Own.cons (show 8 < nx + 6 by omega) n8 ?_ (Own.cons (show 9 < nx + 6 by omega) n9 ?_ (Own.cons (show 1 < nx + 6 by omega) n1 ?_ (Own.cons (show 2 < nx + 6 by omega) n2 ?_ (Own.nil)))), ?_⟩
   rotate_left 4
   ·rw [hJ]
    exact ⟨LD, ⟨_, _, _, _, _, hLD⟩, by rw [hRe]⟩
   all_goals simp only [bp, seval, H8, m1, m2, m3, m4, m5, m6, m7, Nat.add_zero]
 ·refine ⟨[(8, .deferred (some [])), (9, LO), (1, .cells (some 29) [.lit (.slice none 0 0)]), (2, .cells (some 32) [.lit (.int .i64 0)])], Own.cons (show 8 < 10 by omega) (fun h => h) ?_ (Own.cons (show 9 < 10 by omega) (fun h => h) ?_ (Own.cons (show 1 < 10 by omega) (fun h => h) ?_ (Own.cons (show 2 < 10 by omega) (fun h => h) ?_ (Own.nil)))), ?_⟩
  rotate_left 4
  ·rw [hJ]
   exact ⟨L, rfl, rfl, h⟩
  all_goals simp only [bp, seval]
 ·rintro H' nx' (⟨hp, hown, hj⟩ | ⟨hp, hown, hj⟩)
  ·rw [hJ] at hj
   obtain ⟨p, hl, rfl, hR⟩ := hj
   cases p with
   | cons e p => cases hl
   | nil =>
   subst hR
   obtain ⟨l8, n8, H8⟩ := hown.head
   obtain ⟨l9, n9, H9⟩ := hown.tail.head
   obtain ⟨l1, n1, H1⟩ := hown.tail.tail.head
   obtain ⟨l2, n2, H2⟩ := hown.tail.tail.tail.head
   refine rG hLO H9 ?_
   intro LX
   simp only [vz, tyf, seval, ua, rg, e2, e3, H1, H2, headE]
   refine oc (by simp only [bp, seval, H8]) ?_
   refine bG (x := .tup [.lit (.slice none 0 0), .lit (.int .i64 5)]) (by simp only [Tryz.results42, resV, resL, av, bL, bM, uw, cr, tyf, e2, e3, H1, H2, nm, seval] <;> rfl) ?_
   refine bO (by simp only [tre, ar, Bool.and_self]) ?_
   simp only [outV, nrm, seval, List.map_cons, List.map_nil, kd, List.length_nil]
  ·rw [hJ] at hj
   obtain ⟨LD, ⟨tml, ps, az, bo, d, hLD⟩, rfl⟩ := hj
   obtain ⟨l8, n8, H8⟩ := hown.head
   obtain ⟨l9, n9, H9⟩ := hown.tail.head
   obtain ⟨l1, n1, H1⟩ := hown.tail.tail.head
   obtain ⟨l2, n2, H2⟩ := hown.tail.tail.tail.head
   refine xg hLD H9 ?_
   intro LX
   simp only [vz, tyf, seval, ua, rg, e2, e3, H1, H2]
   refine oc (by simp only [bp, seval, H8]) ?_
   refine bG (x := .tup [.sl (aa eI R.1) R.1.length false, .lit (.int .i64 R.2)]) (by simp only [Tryz.results42, resV, resL, av, bL, bM, uw, cr, tyf, e2, e3, H1, H2, nm, seval] <;> rfl) ?_
   refine bO (by simp only [tre, ar, Bool.and_self]) ?_
   simp only [outV, nrm, seval, List.map_cons, List.map_nil, kd, List.length_nil]
def z9 (s : Gs) : Option (List Int × Int) := Option.bind (mh s) fun b => cond b (Option.bind (xk s) fun L => some (headE L)) (some ([], 2))
theorem V7 (s : Gs) (R : List Int × Int) (h : z9 s = some R) : ad Tryz.prog G0 43 [.agg (cGs s)] (.tree (.tup [.sl (aa eI R.1) (List.length R.1) false, .lit (.int .i64 R.2)])) := by
 refine ad.runR mixed Tryz.call43 Tryz.func43 rfl (by simp [Tryz.ntmps43]; kernel_rfl) ?_
 unfold z9 at h
 rcases o0 : mh s with _ | b
 ·rw [o0] at h; cases h
 rw [o0, Option.bind_some] at h
 simp only [vz, tyf, seval, ua, rg]
 refine ktA (wH _ _ o0) ?_
 cases b with
 | false =>
  simp only [cond_false, Option.some.injEq] at h
  subst h
  simp only [vz, tyf, seval, ua, rg, Bool.not_false]
  refine bG (x := .tup [.lit (.slice none 0 0), .lit (.int .i64 2)]) (by simp only [Tryz.results43, resV, resL, av, bL, bM, uw, cr, tyf, nm, seval] <;> rfl) ?_
  refine bO (by simp only [tre, ar]; rfl) ?_
  simp only [outV, nrm, seval, List.map_cons, List.map_nil, kd, List.length_nil]
 | true =>
 rw [cond_true] at h
 simp only [vz, tyf, seval, ua, rg, Bool.not_true]
 rcases o2 : xk s with _ | L
 ·rw [o2] at h; cases h
 rw [o2, Option.bind_some] at h
 obtain ⟨hp, hi⟩ := HN s L o2
 refine ktA hp ?_
 refine aZ (fun tm => tm 2 = .ptr 1 0 ∧ tm 3 = .ptr 2 0 ∧ tm 9 = z8 s) (by refine ⟨?_, ?_, ?_⟩ <;> simp only [ua, seval]) ?_
 rintro tm ⟨e2, e3, e9⟩
 simp only [vz, tyf, seval, ua, rg]
 refine sU hi (by first | (simp only [nN, nO, e9, nh, seval] <;> rfl) | rfl) ?_
 intro LO hLO
 simp only [Option.some.injEq] at h
 obtain ⟨J, hJ⟩ : ∃ J : Option (List VV) → List (Nat × VObj) → Prop, J = (fun o hp => match o with
  | some l => ∃ p : List Gm, l = p.map sM ∧ hp = [(8, .deferred (some [])), (9, LO), (1, .cells (some 29) [.lit (.slice none 0 0)]), (2, .cells (some 32) [.lit (.int .i64 0)])] ∧ headE p = R
  | none => ∃ LD : Code → VObj, (∃ tml ps az bo d, LD = fun c => VObj.loop .done (some c) tml ps az bo d) ∧ hp = [(8, .deferred (some [])), (9, LD .ret), (1, .cells (some 29) [.sl (aa eI R.1) R.1.length false]), (2, .cells (some 32) [.lit (.int .i64 R.2)])]) := ⟨_, rfl⟩
 refine ⟨ownI J, yY, ?_, ?_, ?_⟩
 ·rintro v rest Fr H nx hFr ⟨hp, hown, hj⟩
  rw [hJ] at hj
  obtain ⟨p, hl, rfl, hR⟩ := hj
  cases p with
  | nil => cases hl
  | cons e p =>
  simp only [List.map_cons, List.cons.injEq] at hl
  obtain ⟨rfl, rfl⟩ := hl
  obtain ⟨l8, n8, H8⟩ := hown.head
  obtain ⟨l9, n9, H9⟩ := hown.tail.head
  obtain ⟨l1, n1, H1⟩ := hown.tail.tail.head
  obtain ⟨l2, n2, H2⟩ := hown.tail.tail.tail.head
  refine sT mixed (psl := [10]) hLO H9 tf rfl (by kernel_rfl) (by kernel_rfl) ?_
  intro LB LD hLB hLD
  refine tg (fun tm => tm 2 = .ptr 1 0 ∧ tm 3 = .ptr 2 0 ∧ tm 10 = sM e) (by refine ⟨?_, ?_, ?_⟩ <;> simp only [th, tk, Tryz.ntmps43, e2, e3, seval]) ?_
  clear e2 e3 e9
  rintro tm ⟨e2, e3, bm⟩
  have m1 : (9 = nx) = False := by simp; omega
  have m2 : (nx = 9) = False := by simp; omega
  have m3 : (1 = nx) = False := by simp; omega
  have m4 : (nx = 1) = False := by simp; omega
  have m5 : (2 = nx) = False := by simp; omega
  have m6 : (nx = 2) = False := by simp; omega
  have m7 : (8 = nx) = False := by simp; omega
  simp only [vz, tyf, seval, ua, rg, RStart, e2, e3, bm, H9, H1, H2, Nat.add_zero, m1, m2, m3, m4, m5, m6]
  have hRe : R = (e.mix, 0) := hR.symm
  refine ⟨by simp only [bp, seval], (show nx ≤ nx + 6 by omega), fun γ hγ => ?_, ?_⟩
  ·have g9 : γ ≠ 9 := fun e => n9 (e ▸ hγ)
   have gx := hFr γ hγ
   have g1 : γ ≠ 1 := fun e => n1 (e ▸ hγ)
   have g2 : γ ≠ 2 := fun e => n2 (e ▸ hγ)
   simp only [updH]
   repeat rw [if_neg (by first | assumption | omega)]
  ·simp only [Bool.false_eq_true, if_false]
   refine ⟨[(8, .deferred (some [])), (9, LD .ret), (1, .cells (some 29) [.sl (aa eI e.mix) e.mix.length false]), (2, .cells (some 32) [.lit (.int .i64 0)])], Own.cons (show 8 < nx + 6 by omega) n8 ?_ (Own.cons (show 9 < nx + 6 by omega) n9 ?_ (Own.cons (show 1 < nx + 6 by omega) n1 ?_ (Own.cons (show 2 < nx + 6 by omega) n2 ?_ (Own.nil)))), ?_⟩
   rotate_left 4
   ·rw [hJ]
    exact ⟨LD, ⟨_, _, _, _, _, hLD⟩, by rw [hRe]⟩
   all_goals simp only [bp, seval, H8, m1, m2, m3, m4, m5, m6, m7, Nat.add_zero]
 ·refine ⟨[(8, .deferred (some [])), (9, LO), (1, .cells (some 29) [.lit (.slice none 0 0)]), (2, .cells (some 32) [.lit (.int .i64 0)])], Own.cons (show 8 < 10 by omega) (fun h => h) ?_ (Own.cons (show 9 < 10 by omega) (fun h => h) ?_ (Own.cons (show 1 < 10 by omega) (fun h => h) ?_ (Own.cons (show 2 < 10 by omega) (fun h => h) ?_ (Own.nil)))), ?_⟩
  rotate_left 4
  ·rw [hJ]
   exact ⟨L, rfl, rfl, h⟩
  all_goals simp only [bp, seval]
 ·rintro H' nx' (⟨hp, hown, hj⟩ | ⟨hp, hown, hj⟩)
  ·rw [hJ] at hj
   obtain ⟨p, hl, rfl, hR⟩ := hj
   cases p with
   | cons e p => cases hl
   | nil =>
   subst hR
   obtain ⟨l8, n8, H8⟩ := hown.head
   obtain ⟨l9, n9, H9⟩ := hown.tail.head
   obtain ⟨l1, n1, H1⟩ := hown.tail.tail.head
   obtain ⟨l2, n2, H2⟩ := hown.tail.tail.tail.head
   refine rG hLO H9 ?_
   intro LX
   simp only [vz, tyf, seval, ua, rg, e2, e3, H1, H2, headE]
   refine oc (by simp only [bp, seval, H8]) ?_
   refine bG (x := .tup [.lit (.slice none 0 0), .lit (.int .i64 5)]) (by simp only [Tryz.results43, resV, resL, av, bL, bM, uw, cr, tyf, e2, e3, H1, H2, nm, seval] <;> rfl) ?_
   refine bO (by simp only [tre, ar, Bool.and_self]) ?_
   simp only [outV, nrm, seval, List.map_cons, List.map_nil, kd, List.length_nil]
  ·rw [hJ] at hj
   obtain ⟨LD, ⟨tml, ps, az, bo, d, hLD⟩, rfl⟩ := hj
   obtain ⟨l8, n8, H8⟩ := hown.head
   obtain ⟨l9, n9, H9⟩ := hown.tail.head
   obtain ⟨l1, n1, H1⟩ := hown.tail.tail.head
   obtain ⟨l2, n2, H2⟩ := hown.tail.tail.tail.head
   refine xg hLD H9 ?_
   intro LX
   simp only [vz, tyf, seval, ua, rg, e2, e3, H1, H2]
   refine oc (by simp only [bp, seval, H8]) ?_
   refine bG (x := .tup [.sl (aa eI R.1) R.1.length false, .lit (.int .i64 R.2)]) (by simp only [Tryz.results43, resV, resL, av, bL, bM, uw, cr, tyf, e2, e3, H1, H2, nm, seval] <;> rfl) ?_
   refine bO (by simp only [tre, ar, Bool.and_self]) ?_
   simp only [outV, nrm, seval, List.map_cons, List.map_nil, kd, List.length_nil]
def xm (s : Gs) : Option (Int × Int) := Option.bind (mh s) fun b => cond b (Option.bind (qm s) fun L => cond (lenOk L) (some ((List.length L : Int), 0)) none) (some (0, 2))
theorem RG (s : Gs) (R : Int × Int) (h : xm s = some R) : ad Tryz.prog G0 44 [.agg (cGs s)] (.tree (.tup [.lit (.int .i64 R.1), .lit (.int .i64 R.2)])) := by
 refine ad.runR mixed Tryz.call44 Tryz.func44 rfl (by simp [Tryz.ntmps44]; kernel_rfl) ?_
 unfold xm at h
 rcases o0 : mh s with _ | b
 ·rw [o0] at h; cases h
 rw [o0, Option.bind_some] at h
 simp only [vz, tyf, seval, ua, rg]
 refine ktA (wH _ _ o0) ?_
 cases b with
 | false =>
  simp only [cond_false, Option.some.injEq] at h
  subst h
  simp only [vz, tyf, seval, ua, rg, Bool.not_false]
  refine bG (x := .tup [.lit (.int .i64 0), .lit (.int .i64 2)]) (by simp only [Tryz.results44, resV, resL, av, bL, bM, uw, cr, tyf, nm, seval] <;> rfl) ?_
  refine bO (by simp only [tre, ar]; rfl) ?_
  simp only [outV, nrm, seval, List.map_cons, List.map_nil, kd, List.length_nil]
 | true =>
 rw [cond_true] at h
 simp only [vz, tyf, seval, ua, rg, Bool.not_true]
 rcases o2 : qm s with _ | L
 ·rw [o2] at h; cases h
 rw [o2, Option.bind_some] at h
 obtain ⟨hp, hi⟩ := uW s L o2
 refine ktA hp ?_
 cases hln : lenOk L with
 | false => rw [hln] at h; cases h
 | true =>
 rw [hln, cond_true] at h
 have hlt : L.length < 9223372036854775808 := by simpa [lenOk] using hln
 refine aZ (fun tm => tm 4 = .ptr 6 0 ∧ tm 9 = tl s) (by refine ⟨?_, ?_⟩ <;> simp only [ua, seval]) ?_
 rintro tm ⟨e4, e9⟩
 simp only [vz, tyf, seval, ua, rg]
 refine sU hi (by first | (simp only [nN, nO, e9, nh, seval] <;> rfl) | rfl) ?_
 intro LO hLO
 simp only [Option.some.injEq] at h
 obtain ⟨J, hJ⟩ : ∃ J : Option (List VV) → List (Nat × VObj) → Prop, J = (fun o hp => match o with
  | some l => ∃ c : Nat, c + l.length = L.length ∧ hp = [(10, .deferred (some [])), (11, LO), (6, .cells (some 3) [.lit (.int .i64 c)])]
  | none => False) := ⟨_, rfl⟩
 refine ⟨ownI J, yY, ?_, ?_, ?_⟩
 ·rintro v rest Fr H nx hFr ⟨hp, hown, hj⟩
  rw [hJ] at hj
  obtain ⟨c, hc, rfl⟩ := hj
  simp only [List.length_cons] at hc
  obtain ⟨V8, rH, dh⟩ := hown.head
  obtain ⟨V9, kV, cY⟩ := hown.tail.head
  obtain ⟨l6, n6, H6⟩ := hown.tail.tail.head
  refine sT mixed (psl := [10]) hLO cY tf rfl (by kernel_rfl) (by kernel_rfl) ?_
  intro LB LD hLB hLD
  refine tg (fun tm => tm 4 = .ptr 6 0) (by simp only [th, tk, Tryz.ntmps44, e4, seval]) ?_
  clear e4 e9
  rintro tm e4
  have hw : i64.wrap ((c : Int) + 1) = ((c + 1 : Nat) : Int) := by rw [IntWalk.i64_in _ (by omega)]; simp
  simp only [vz, tyf, seval, ua, rg, RStart, e4, cY, H6, hw]
  refine ⟨by simp only [bp, seval], (show nx ≤ nx + 3 by omega), fun γ hγ => ?_, ?_⟩
  ·have iV : γ ≠ 11 := fun e => kV (e ▸ hγ)
   have g6 : γ ≠ 6 := fun e => n6 (e ▸ hγ)
   simp only [updH]
   repeat rw [if_neg (by first | assumption | omega)]
  ·simp only [if_true]
   refine ⟨[(10, .deferred (some [])), (11, LO), (6, .cells (some 3) [.lit (.int .i64 ((c + 1 : Nat) : Int))])], Own.cons (show 10 < nx + 3 by omega) rH ?_ (Own.cons (show 11 < nx + 3 by omega) kV ?_ (Own.cons (show 6 < nx + 3 by omega) n6 ?_ Own.nil)), ?_⟩
   rotate_left 3
   ·rw [hJ]
    exact ⟨c + 1, by omega, rfl⟩
   all_goals simp only [bp, seval, dh]
 ·refine ⟨[(10, .deferred (some [])), (11, LO), (6, .cells (some 3) [.lit (.int .i64 ((0 : Nat) : Int))])], Own.cons (show 10 < 12 by omega) (fun h => h) ?_ (Own.cons (show 11 < 12 by omega) (fun h => h) ?_ (Own.cons (show 6 < 12 by omega) (fun h => h) ?_ Own.nil)), ?_⟩
  rotate_left 3
  ·rw [hJ]
   exact ⟨0, by simp, rfl⟩
  ·simp only [bp, seval]
  ·simp only [bp, seval]
  ·simp only [bp, seval] <;> rfl
 ·rintro H' nx' (⟨hp, hown, hj⟩ | ⟨hp, hown, hj⟩)
  ·rw [hJ] at hj
   obtain ⟨c, hc, rfl⟩ := hj
   simp only [List.length_nil, Nat.add_zero] at hc
   subst hc
   subst h
   obtain ⟨V8, rH, dh⟩ := hown.head
   obtain ⟨V9, kV, cY⟩ := hown.tail.head
   obtain ⟨l6, n6, H6⟩ := hown.tail.tail.head
   refine rG hLO cY ?_
   intro LX
   simp only [vz, tyf, seval, ua, rg, e4, H6]
   refine oc (by simp only [bp, seval, dh]) ?_
   refine bG (x := .tup [.lit (.int .i64 (L.length : Int)), .lit (.int .i64 0)]) (by simp only [Tryz.results44, resV, resL, av, bL, bM, uw, cr, tyf, nm, seval] <;> rfl) ?_
   refine bO (by simp only [tre, ar, Bool.and_self]) ?_
   simp only [outV, nrm, seval, List.map_cons, List.map_nil]
  ·rw [hJ] at hj
   exact hj.elim
def zM : Gm := ⟨⟨⟨0, 0, 0⟩, ⟨⟨0, 0⟩, ⟨0, 0⟩, ⟨0, 0⟩⟩, ⟨0, 0⟩, 0, []⟩, []⟩
def zc : List VV := [.lit (.int .i64 0), .lit (.int .i64 0), .lit (.int .i64 0), .lit (.int .i64 0), .lit (.int .i64 0), .lit (.int .i64 0), .lit (.int .i64 0), .lit (.int .i64 0), .lit (.int .i64 0), .lit (.int .i64 0), .lit (.int .i64 0), .lit (.int .i64 0), .lit (.slice none 0 0), .lit (.slice none 0 0)]
theorem zc_eq : zc = [.lit (.int .i64 0), .lit (.int .i64 0), .lit (.int .i64 0), .lit (.int .i64 0), .lit (.int .i64 0), .lit (.int .i64 0), .lit (.int .i64 0), .lit (.int .i64 0), .lit (.int .i64 0), .lit (.int .i64 0), .lit (.int .i64 0), .lit (.int .i64 0), .lit (.slice none 0 0), .lit (.slice none 0 0)] := rfl
def bestO (better : Gm → Gm → Option Bool) : List Gm → Gm × Bool → Option (Gm × Bool)
 | [], acc => some acc
 | x :: L, acc => cond acc.2 (Option.bind (better x acc.1) fun t => bestO better L (cond t (x, true) acc)) (bestO better L (x, true))
theorem RH {itv : VV} {bf : Nat} {mc : List VV} {L : List Gm} (hit : Iter Tryz.prog G0 itv (L.map sM)) (hmt : treeL mc = true) {better : Gm → Gm → Option Bool}
  (hb : ∀ a b t, better a b = some t → ad Tryz.prog G0 bf (sM a :: sM b :: mc) (.tree (.lit (.bool t)))) (R : Gm × Bool) (h : bestO better L (zM, false) = some R) :
  ad Tryz.prog G0 78 [itv, .fn (.func bf) [] mc] (.tree (.tup [sM R.1, .lit (.bool R.2)])) := by
 refine ad.runR mixed Tryz.call78 Tryz.func78 rfl (by simp [Tryz.ntmps78]; kernel_rfl) ?_
 simp only [vz, tyf, seval, ua, rg]
 refine sN (fun tm => tm 9 = itv ∧ tm 3 = .ptr 0 0 ∧ tm 4 = .ptr 1 0 ∧ tm 6 = .ptr 3 0 ∧ tm 7 = .ptr 4 0) (by refine ⟨?_, ?_, ?_, ?_, ?_⟩ <;> simp only [ua, seval]) ?_
 rintro tm ⟨e9, e3, e4, e6, e7⟩
 refine sU hit (by first | (simp only [nN, nO, e9, nh, seval] <;> rfl) | rfl) ?_
 intro LO hLO
 obtain ⟨J, hJ⟩ : ∃ J : Option (List VV) → List (Nat × VObj) → Prop, J = (fun o hp => match o with
  | some l => ∃ (p : List Gm) (r : Gm) (fd : Bool) (y : List VV), l = p.map sM ∧ hp = [(7, .deferred (some [])), (8, LO), (0, .cells (some 111) [.fn (.func bf) [] mc]), (3, .cells (some 89) y), (1, .cells (some 89) zc), (4, .cells (some 4) [.lit (.bool fd)])] ∧ ((fd = true ∧ y = cGm r) ∨ (fd = false ∧ y = zc ∧ r = zM)) ∧ bestO better p (r, fd) = some R
  | none => False) := ⟨_, rfl⟩
 refine ⟨ownI J, yY, ?_, ?_, ?_⟩
 ·rintro v rest Fr H nx hFr ⟨hp, hown, hj⟩
  rw [hJ] at hj
  obtain ⟨p, r, fd, y, hl, rfl, hy, hR⟩ := hj
  cases p with
  | nil => cases hl
  | cons e p =>
  simp only [List.map_cons, List.cons.injEq] at hl
  obtain ⟨rfl, rfl⟩ := hl
  obtain ⟨l7, n7, H7⟩ := hown.head
  obtain ⟨l8, n8, H8⟩ := hown.tail.head
  obtain ⟨l0, n0, H0⟩ := hown.tail.tail.head
  obtain ⟨l3, n3, H3⟩ := hown.tail.tail.tail.head
  obtain ⟨l1, n1, H1⟩ := hown.tail.tail.tail.tail.head
  obtain ⟨l4, n4, H4⟩ := hown.tail.tail.tail.tail.tail.head
  refine sT mixed (psl := [10]) hLO H8 tf rfl (by kernel_rfl) (by kernel_rfl) ?_
  intro LB LD hLB hLD
  refine tg (fun tm => tm 10 = sM e ∧ tm 3 = .ptr 0 0 ∧ tm 4 = .ptr 1 0 ∧ tm 6 = .ptr 3 0 ∧ tm 7 = .ptr 4 0) (by refine ⟨?_, ?_, ?_, ?_, ?_⟩ <;> simp only [th, tk, Tryz.ntmps78, e3, e4, e6, e7, seval]) ?_
  clear e9 e3 e4 e6 e7
  rintro tm ⟨bm, e3, e4, e6, e7⟩
  have m0 : (8 = nx) = False := by simp; omega
  have m1 : (nx = 8) = False := by simp; omega
  have m2 : (3 = nx) = False := by simp; omega
  have m3 : (nx = 3) = False := by simp; omega
  have m4 : (4 = nx) = False := by simp; omega
  have m5 : (nx = 4) = False := by simp; omega
  have m6 : (0 = nx) = False := by simp; omega
  have m7 : (nx = 0) = False := by simp; omega
  have m8 : (7 = nx) = False := by simp; omega
  have m9 : (1 = nx) = False := by simp; omega
  unfold bestO at hR
  rcases hy with ⟨rfl, rfl⟩ | ⟨rfl, rfl, rfl⟩
  ·simp only [cond_true] at hR
   rcases hbt : better e r with _ | t
   ·rw [hbt] at hR; cases hR
   rw [hbt, Option.bind_some] at hR
   simp only [vz, tyf, seval, ua, nm, rg, RStart, bm, e3, e6, e7, H8, H0, H3, H4, Nat.add_zero, m0, m1, m2, m3, m4, m5, m6, m7, m8, m9, Bool.not_true]
   refine ktreeR ?_ (hb e r t hbt) ?_
   ·have h1 : treeL (cGm e) = true := uU.tree e
    have h2 : treeL (cGm r) = true := uU.tree r
    show (treeL (cGm e) && (treeL (cGm r) && treeL mc)) = true
    rw [h1, h2, hmt]
    rfl
   cases t with
   | true =>
    simp only [vz, tyf, seval, ua, nm, rg, RStart, bm, e3, e6, e7, H8, H0, H3, H4, Nat.add_zero, m0, m1, m2, m3, m4, m5, m6, m7, m8, m9]
    refine ⟨by simp only [bp, seval], (show nx ≤ nx + 13 by omega), fun γ hγ => ?_, ?_⟩
    ·have gx := hFr γ hγ
     have g8 : γ ≠ 8 := fun e => n8 (e ▸ hγ)
     have g3 : γ ≠ 3 := fun e => n3 (e ▸ hγ)
     have g4 : γ ≠ 4 := fun e => n4 (e ▸ hγ)
     simp only [updH]
     repeat rw [if_neg (by first | assumption | omega)]
    ·simp only [if_true]
     refine ⟨[(7, .deferred (some [])), (8, LO), (0, .cells (some 111) [.fn (.func bf) [] mc]), (3, .cells (some 89) (cGm e)), (1, .cells (some 89) zc), (4, .cells (some 4) [.lit (.bool true)])], Own.cons (show 7 < nx + 13 by omega) n7 ?_ (Own.cons (show 8 < nx + 13 by omega) n8 ?_ (Own.cons (show 0 < nx + 13 by omega) n0 ?_ (Own.cons (show 3 < nx + 13 by omega) n3 ?_ (Own.cons (show 1 < nx + 13 by omega) n1 ?_ (Own.cons (show 4 < nx + 13 by omega) n4 ?_ (Own.nil)))))), ?_⟩
     rotate_left 6
     ·rw [hJ]
      exact ⟨p, e, true, cGm e, rfl, rfl, .inl ⟨rfl, rfl⟩, hR⟩
     all_goals (simp only [bp, seval, H7, H0, H3, H4, H1, Nat.add_zero, m0, m1, m2, m3, m4, m5, m6, m7, m8, m9] <;> rfl)
   | false =>
    simp only [vz, tyf, seval, ua, nm, rg, RStart, bm, e3, e6, e7, H8, H0, H3, H4, Nat.add_zero, m0, m1, m2, m3, m4, m5, m6, m7, m8, m9]
    refine ⟨by simp only [bp, seval], (show nx ≤ nx + 10 by omega), fun γ hγ => ?_, ?_⟩
    ·have gx := hFr γ hγ
     have g8 : γ ≠ 8 := fun e => n8 (e ▸ hγ)
     have g3 : γ ≠ 3 := fun e => n3 (e ▸ hγ)
     have g4 : γ ≠ 4 := fun e => n4 (e ▸ hγ)
     simp only [updH]
     repeat rw [if_neg (by first | assumption | omega)]
    ·simp only [if_true]
     refine ⟨[(7, .deferred (some [])), (8, LO), (0, .cells (some 111) [.fn (.func bf) [] mc]), (3, .cells (some 89) (cGm r)), (1, .cells (some 89) zc), (4, .cells (some 4) [.lit (.bool true)])], Own.cons (show 7 < nx + 10 by omega) n7 ?_ (Own.cons (show 8 < nx + 10 by omega) n8 ?_ (Own.cons (show 0 < nx + 10 by omega) n0 ?_ (Own.cons (show 3 < nx + 10 by omega) n3 ?_ (Own.cons (show 1 < nx + 10 by omega) n1 ?_ (Own.cons (show 4 < nx + 10 by omega) n4 ?_ (Own.nil)))))), ?_⟩
     rotate_left 6
     ·rw [hJ]
      exact ⟨p, r, true, cGm r, rfl, rfl, .inl ⟨rfl, rfl⟩, hR⟩
     all_goals (simp only [bp, seval, H7, H0, H3, H4, H1, Nat.add_zero, m0, m1, m2, m3, m4, m5, m6, m7, m8, m9] <;> rfl)
  ·simp only [cond_false] at hR
   simp only [vz, tyf, seval, ua, nm, rg, RStart, bm, e3, e6, e7, H8, H0, H3, H4, Nat.add_zero, m0, m1, m2, m3, m4, m5, m6, m7, m8, m9, zc_eq, Bool.not_false]
   refine ⟨by simp only [bp, seval], (show nx ≤ nx + 13 by omega), fun γ hγ => ?_, ?_⟩
   ·have gx := hFr γ hγ
    have g8 : γ ≠ 8 := fun e => n8 (e ▸ hγ)
    have g3 : γ ≠ 3 := fun e => n3 (e ▸ hγ)
    have g4 : γ ≠ 4 := fun e => n4 (e ▸ hγ)
    simp only [updH]
    repeat rw [if_neg (by first | assumption | omega)]
   ·simp only [if_true]
    refine ⟨[(7, .deferred (some [])), (8, LO), (0, .cells (some 111) [.fn (.func bf) [] mc]), (3, .cells (some 89) (cGm e)), (1, .cells (some 89) zc), (4, .cells (some 4) [.lit (.bool true)])], Own.cons (show 7 < nx + 13 by omega) n7 ?_ (Own.cons (show 8 < nx + 13 by omega) n8 ?_ (Own.cons (show 0 < nx + 13 by omega) n0 ?_ (Own.cons (show 3 < nx + 13 by omega) n3 ?_ (Own.cons (show 1 < nx + 13 by omega) n1 ?_ (Own.cons (show 4 < nx + 13 by omega) n4 ?_ (Own.nil)))))), ?_⟩
    rotate_left 6
    ·rw [hJ]
     exact ⟨p, e, true, cGm e, rfl, rfl, .inl ⟨rfl, rfl⟩, hR⟩
    all_goals (simp only [bp, seval, H7, H0, H3, H4, H1, Nat.add_zero, m0, m1, m2, m3, m4, m5, m6, m7, m8, m9] <;> rfl)
 ·refine ⟨[(7, .deferred (some [])), (8, LO), (0, .cells (some 111) [.fn (.func bf) [] mc]), (3, .cells (some 89) zc), (1, .cells (some 89) zc), (4, .cells (some 4) [.lit (.bool false)])], Own.cons (show 7 < 9 by omega) (fun h => h) ?_ (Own.cons (show 8 < 9 by omega) (fun h => h) ?_ (Own.cons (show 0 < 9 by omega) (fun h => h) ?_ (Own.cons (show 3 < 9 by omega) (fun h => h) ?_ (Own.cons (show 1 < 9 by omega) (fun h => h) ?_ (Own.cons (show 4 < 9 by omega) (fun h => h) ?_ (Own.nil)))))), ?_⟩
  rotate_left 6
  ·rw [hJ]
   exact ⟨L, zM, false, zc, rfl, rfl, .inr ⟨rfl, rfl, rfl⟩, h⟩
  all_goals (simp only [bp, seval] <;> rfl)
 ·rintro H' nx' (⟨hp, hown, hj⟩ | ⟨hp, hown, hj⟩)
  ·rw [hJ] at hj
   obtain ⟨p, r, fd, y, hl, rfl, hy, hR⟩ := hj
   cases p with
   | cons e p => cases hl
   | nil =>
   simp only [bestO, Option.some.injEq] at hR
   subst hR
   obtain ⟨l7, n7, H7⟩ := hown.head
   obtain ⟨l8, n8, H8⟩ := hown.tail.head
   obtain ⟨l0, n0, H0⟩ := hown.tail.tail.head
   obtain ⟨l3, n3, H3⟩ := hown.tail.tail.tail.head
   obtain ⟨l1, n1, H1⟩ := hown.tail.tail.tail.tail.head
   obtain ⟨l4, n4, H4⟩ := hown.tail.tail.tail.tail.tail.head
   rcases hy with ⟨rfl, rfl⟩ | ⟨rfl, rfl, rfl⟩
   ·refine rG hLO H8 ?_
    intro LX
    simp only [vz, tyf, seval, ua, nm, rg, e4, e6, e7, H3, H4, H1]
    refine lP (fun tm => tm 4 = .ptr 1 0 ∧ tm 6 = .ptr 3 0 ∧ tm 7 = .ptr 4 0) ⟨e4, e6, e7⟩ ?_
    clear e9 e3 e4 e6 e7
    rintro tm ⟨e4, e6, e7⟩
    simp only [vz, tyf, seval, ua, nm, rg, e4, e6, e7, H3, H4, H1, zc_eq]
    refine ja ⟨?_, ?_⟩
    ·simp only [iQ, iR, dy, iS, and_true, true_and]
     repeat' (first | exact trivial | refine And.intro ?_ ?_ | rw [dy] | rw [iT] | exact Or.inl (by decide +kernel) | exact Or.inl (by dsimp only; decide +kernel) | (refine Or.inr ⟨?_, ?_⟩ <;> simp; done) | (refine Or.inr ⟨?_, ?_⟩ <;> simp <;> omega) | (refine Or.inr ⟨?_, ?_⟩ <;> simp [VEff.wr] <;> omega))
    simp only [vz, tyf, seval, ua, nm, rg, e4, e6, e7, H3, H4, H1, zc_eq]
    refine oc (by simp only [bp, seval, H7]) ?_
    refine bG (x := .tup [sM r, .lit (.bool true)]) (by simp only [Tryz.results78, resV, resL, av, bL, bM, uw, cr, tyf, nm, seval, e4] <;> rfl) ?_
    have hs := uU.tree r
    refine bO (by simp only [tre, ar, hs, Bool.and_self]) ?_
    simp only [outV, nrm, au, seval, List.map_cons, List.map_nil]
   ·refine rG hLO H8 ?_
    intro LX
    simp only [vz, tyf, seval, ua, nm, rg, e4, e6, e7, H3, H4, H1]
    refine lP (fun tm => tm 4 = .ptr 1 0 ∧ tm 6 = .ptr 3 0 ∧ tm 7 = .ptr 4 0) ⟨e4, e6, e7⟩ ?_
    clear e9 e3 e4 e6 e7
    rintro tm ⟨e4, e6, e7⟩
    simp only [vz, tyf, seval, ua, nm, rg, e4, e6, e7, H3, H4, H1, zc_eq]
    refine ja ⟨?_, ?_⟩
    ·simp only [iQ, iR, dy, iS, and_true, true_and]
     repeat' (first | exact trivial | refine And.intro ?_ ?_ | rw [dy] | rw [iT] | exact Or.inl (by decide +kernel) | exact Or.inl (by dsimp only; decide +kernel) | (refine Or.inr ⟨?_, ?_⟩ <;> simp; done) | (refine Or.inr ⟨?_, ?_⟩ <;> simp <;> omega) | (refine Or.inr ⟨?_, ?_⟩ <;> simp [VEff.wr] <;> omega))
    simp only [vz, tyf, seval, ua, nm, rg, e4, e6, e7, H3, H4, H1, zc_eq]
    refine oc (by simp only [bp, seval, H7]) ?_
    refine bG (x := .tup [.agg zc, .lit (.bool false)]) (by simp only [Tryz.results78, resV, resL, av, bL, bM, uw, cr, tyf, nm, seval, e4] <;> rfl) ?_
    refine bO (by simp only [zc_eq, tre, ar, Bool.and_self]) ?_
    simp only [outV, nrm, seval, zc_eq, List.map_cons, List.map_nil, kd, List.length_nil]
    rfl
  ·rw [hJ] at hj
   exact hj.elim
def xn (ah : Gm) : Option (Int) := Option.bind (qM ah 0) (fun r1 => Option.bind (qM ah 1) (fun r2 => Option.bind (qM ah 2) (fun r3 => some (if (if (if 0 < r1 then r1 else 0) < r2 then r2 else (if 0 < r1 then r1 else 0)) < r3 then r3 else (if (if 0 < r1 then r1 else 0) < r2 then r2 else (if 0 < r1 then r1 else 0))))))
theorem HO (ah : Gm) (R : Int) (h : xn ah = some R) : ad Tryz.prog G0 81 [.agg (cGm ah)] (.tree (.lit (.int .i64 R))) := by
 refine ad.runR mixed Tryz.call81 Tryz.func81 rfl (by simp [Tryz.ntmps81]; kernel_rfl) ?_
 obtain ⟨KF, h, kF, kN⟩ := dp h
 simp only [xn] at h
 simp only [vz, tyf, nm, seval]
 refine qN mixed (by kernel_rfl) 4 ?_
 obtain ⟨r4, o5, h⟩ := optI h kN
 try simp only [hs] at h
 simp only [vz, tyf, nm, seval]
 refine ktA (Cf _ _ _ o5) ?_
 refine aZ (fun tm => tm 1 = .ptr 0 0 ∧ tm 5 = .lit (.int .i64 0) ∧ tm 8 = .lit (.int .i64 0) ∧ tm 11 = .lit (.int .i64 r4) ∧ True) (by refine ⟨?_, ?_, ?_, ?_, trivial⟩ <;> first | (simp only [ua, nm, seval] <;> rfl) | rfl) ?_
 rintro tm ⟨e6, e7, e8, e9, _⟩
 obtain ⟨dG, wy, h⟩ := optI h kN
 try simp only [hs] at h
 simp only [vz, tyf, e6, e7, e8, e9, nm, seval]
 refine ktA (Cf _ _ _ wy) ?_
 refine aZ (fun tm => tm 1 = .ptr 0 0 ∧ tm 5 = .lit (.int .i64 1) ∧ tm 8 = .lit (.int .i64 (if 0 < r4 then r4 else 0)) ∧ tm 11 = .lit (.int .i64 dG) ∧ True) (by refine ⟨e6, ?_, ?_, ?_, trivial⟩ <;> first | (simp only [ua, e6, e7, e8, e9, nm, seval] <;> rfl) | rfl) ?_
 rintro tm ⟨aW, ba, bj, bQ, _⟩
 obtain ⟨oC, jE, h⟩ := optI h kN
 try simp only [hs] at h
 simp only [vz, tyf, aW, ba, bj, bQ, nm, seval]
 refine ktA (Cf _ _ _ jE) ?_
 refine aZ (fun tm => tm 1 = .ptr 0 0 ∧ tm 5 = .lit (.int .i64 2) ∧ tm 8 = .lit (.int .i64 (if (if 0 < r4 then r4 else 0) < dG then dG else (if 0 < r4 then r4 else 0))) ∧ tm 11 = .lit (.int .i64 oC) ∧ True) (by refine ⟨aW, ?_, ?_, ?_, trivial⟩ <;> first | (simp only [ua, aW, ba, bj, bQ, nm, seval] <;> rfl) | rfl) ?_
 rintro tm ⟨cv, dn, ck, bz, _⟩
 try simp only [vz, tyf, cv, dn, ck, bz, nm, seval]
 refine bG (x := (.lit (.int .i64 (if (if (if 0 < r4 then r4 else 0) < dG then dG else (if 0 < r4 then r4 else 0)) < oC then oC else (if (if 0 < r4 then r4 else 0) < dG then dG else (if 0 < r4 then r4 else 0)))))) (by first | (simp only [Tryz.results81, resV, resL, av, bL, bM, uw, cr, tyf, nm, seval] <;> rfl) | rfl) ?_
 obtain rfl := kF _ h
 refine bO ?_ ?_
 ·simp only [tre, ar, Bool.and_self]
 ·first | (simp only [outV, uw, bT, cr, tyf, nrm, au, cv, dn, ck, bz, nm, seval] <;> rfl) | rfl
def zA (db : Gm) (dE : Gm) : Option (Bool) := Option.bind (xn db) (fun r1 => Option.bind (xn dE) (fun r2 => some (decide (r1 < r2))))
theorem VA (db : Gm) (dE : Gm) (R : Bool) (h : zA db dE = some R) : ad Tryz.prog G0 80 [.agg (cGm db), .agg (cGm dE)] (.tree (.lit (.bool R))) := by
 refine ad.runR mixed Tryz.call80 Tryz.func80 rfl (by simp [Tryz.ntmps80]; kernel_rfl) ?_
 obtain ⟨KF, h, kF, kN⟩ := dp h
 simp only [zA] at h
 simp only [vz, tyf, nm, seval]
 refine mN (fun tm => tm 2 = .ptr 0 0 ∧ tm 3 = .ptr 1 0 ∧ True) (by refine ⟨?_, ?_, trivial⟩ <;> first | (simp only [ua, nm, seval] <;> rfl) | rfl) ?_
 rintro tm ⟨e3, e4, _⟩
 obtain ⟨r5, o6, h⟩ := optI h kN
 try simp only [hs] at h
 simp only [vz, tyf, e3, e4, nm, seval]
 refine dktA (HO _ _ o6) ?_
 refine aZ (fun tm => tm 3 = .ptr 1 0 ∧ tm 6 = .lit (.int .i64 r5) ∧ True) (by refine ⟨e4, ?_, trivial⟩ <;> first | (simp only [ua, e3, e4, nm, seval] <;> rfl) | rfl) ?_
 rintro tm ⟨e7, e8, _⟩
 obtain ⟨r9, yB, h⟩ := optI h kN
 try simp only [hs] at h
 simp only [vz, tyf, e7, e8, nm, seval]
 refine dktA (HO _ _ yB) ?_
 refine aZ (fun tm => tm 6 = .lit (.int .i64 r5) ∧ tm 8 = .lit (.int .i64 r9) ∧ True) (by refine ⟨e8, ?_, trivial⟩ <;> first | (simp only [ua, e7, e8, nm, seval] <;> rfl) | rfl) ?_
 rintro tm ⟨bg, aW, _⟩
 try simp only [vz, tyf, bg, aW, nm, seval]
 obtain rfl := kF _ h
 exact bB Tryz.results80 rfl
def uY  : List Int → Int → (List Int) → Option (LOut (List Int) ((List Int)))
 | [], d6, cz => some (.go cz)
 | e0 :: p0, d6, cz => cond (decide (e0 > 0)) (cond (aw 8 (List.length (cz ++ [d6]))) (uY p0 (d6 + 1) (cz ++ [d6])) none) (uY p0 (d6 + 1) cz)
def xo (ah : Gm) : Option (List Int) := cond (lenOk ah.mix) (aN (uY ah.mix 0 ([] : List Int)) (fun r2 => some r2) (fun c1 => some c1) (fun _ _ => none)) none
theorem zB (ah : Gm) (R : List Int) (h : xo ah = some R) : ad Tryz.prog G0 84 [.agg (cGm ah)] (.tree (.sl (aa eI R) (List.length R) false)) := by
 refine ad.runR mixed Tryz.call84 Tryz.func84 rfl (by simp [Tryz.ntmps84]; kernel_rfl) ?_
 obtain ⟨KF, h, kF, kN⟩ := dp h
 simp only [xo] at h
 cases g4 : (lenOk ah.mix)
 ·simp only [g4, hs] at h
  exact absurd h kN
 simp only [g4, hs] at h
 simp only [vz, tyf, g4, nm, seval]
 obtain ⟨K3, h, Cw, sF, EP, y7⟩ := fp h kN
 obtain ⟨f3, um, h⟩ := call3 h
 obtain ⟨I3, kP⟩ : ∃ I : Nat → St → Prop, I = (fun m st => ∃ (p3 : List Int) (dN : Int) (cZ : List Int) (rI : VV), m = List.length p3 ∧ 0 ≤ dN ∧ List.drop (Int.toNat dN) ah.mix = p3 ∧ st.df = [] ∧ 7 ≤ st.nx ∧ st.tm 7 = .sl (aa eI ah.mix) (List.length ah.mix) false ∧ st.tm 8 = .lit (.int .i64 (List.length ah.mix : Int)) ∧ st.tm 3 = rI ∧ st.tm 9 = .lit (.int .i64 dN) ∧ ((∃ (β : Nat) (el : Option TypeId), rI = .ref β 0 (List.length cZ) 1 (List.length cZ) ∧ β < st.nx ∧ st.H β = some (.cells el (aa eI cZ))) ∨ (rI = .lit (.slice none 0 0) ∧ cZ = [])) ∧ K3 (f3 p3 dN cZ)) := ⟨_, rfl⟩
 refine loopK mixed (by kernel_rfl) I3 (List.length ah.mix) (by rw [kP]; refine ⟨ah.mix, 0, ([] : List Int), .lit (.slice none 0 0), rfl, Int.le_refl _, rfl, rfl, (show 7 ≤ 7 by omega), ?_, ?_, ?_, ?_, Or.inr ⟨rfl, rfl⟩, h⟩ <;> first | (simp only [ua, nm, seval] <;> rfl) | rfl) ?_
 rintro m ⟨tm, H, iW, df⟩ hinv
 rw [kP] at hinv
 obtain ⟨p3, dN, cZ, rI, rfl, fg, gS, hdf, uo, e5, e6, e7, e8, tq, h⟩ := hinv
 simp only at hdf uo e5 e6 e7 e8 tq
 have n9 := fu (m := 7) (b := iW) (by omega)
 subst hdf um
 rcases tq with ⟨uZ, oU, rfl, u7, dh⟩ | ⟨rfl, rfl⟩
 ·have ld := rb u7
  cases p3 with
  | nil =>
   have ng : (decide (dN < (List.length ah.mix : Int))) = false := jX fg gS
   simp only [uY, hs, reduceCtorEq] at h
   replace h := sF _ h
   try dsimp only at h
   try simp only [hs] at h
   try simp only [vz, tyf, g4, n9, e5, e6, e7, e8, ld, dh, ng, nm, seval]
   refine bG (x := (.ref uZ 0 (List.length cZ) 1 (List.length cZ))) (by first | (simp only [Tryz.results84, resV, resL, av, bL, bM, uw, cr, tyf, g4, n9, ld, dh, ng, nm, seval] <;> rfl) | rfl) ?_
   obtain rfl := kF _ h
   refine bO ?_ ?_
   ·simp only [tre, ar, Bool.and_self]
   ·first | (simp only [outV, uw, bT, cr, tyf, nrm, au, g4, n9, e5, e6, e7, e8, ld, dh, ng, nm, seval] <;> rfl) | rfl
  | cons e3 p3 =>
   have cn : (decide (dN < (List.length ah.mix : Int))) = true := jY fg gS
   have me := iC fg gS
   have mP := jZ fg gS g4
   simp only [uY, hs, reduceCtorEq] at h
   cases cC : (decide (e3 > 0))
   ·simp only [cC, hs] at h
    have RI := And.intro g4 (And.intro n9 (And.intro ld (And.intro dh (And.intro cn (And.intro mP cC)))))
    simp only [vz, tyf, RI, e5, e6, e7, e8, (br me), nm, seval]
    exact ⟨List.length p3, Nat.lt_succ_self _, by rw [kP]; refine ⟨p3, dN + 1, cZ, .ref uZ 0 (List.length cZ) 1 (List.length cZ), rfl, Int.le_trans fg (Int.le_add_one (Int.le_refl _)), fM fg gS, rfl, (show 7 ≤ iW + 10 by omega), e5, e6, ?_, ?_, Or.inl ⟨uZ, oU, rfl, (by first | omega | (simp only [nm, seval]; omega)), ?_⟩, h⟩ <;> first | (simp only [ua, RI, e5, e6, e7, e8, nm, seval] <;> rfl) | rfl⟩
   simp only [cC, hs] at h
   have va := And.intro g4 (And.intro n9 (And.intro ld (And.intro dh (And.intro cn (And.intro mP cC)))))
   cases vb : (aw 8 (List.length (cZ ++ [dN])))
   ·simp only [vb, hs] at h
    exact absurd h y7
   simp only [vb, hs] at h
   simp only [vz, tyf, va, e5, e6, e7, e8, (br me), vb, nm, seval]
   refine k_app (w := 1) (enc := eI) (xs := cZ) (ys := ([dN])) (el := oU) (mR := (some 3)) (fun _ => rfl) fQ eV Tryz.underlying29 (by first | rfl | assumption | (simp only [bp, cO, ct, va, nm, seval] <;> rfl) | (simp only [bp, cO, sR, kd, rl, rn, tyf, va, e5, e6, e7, e8, (br me), vb, nm, seval]; done)) (by first | rfl | assumption | (simp only [bp, cO, ct, va, nm, seval] <;> rfl) | (simp only [bp, cO, sR, kd, rl, rn, tyf, va, e5, e6, e7, e8, (br me), vb, nm, seval]; done)) (Nat.zero_lt_succ _) vb ?_
   simp only [vz, tyf, va, e5, e6, e7, e8, (br me), vb, nm, seval]
   exact ⟨List.length p3, Nat.lt_succ_self _, by rw [kP]; refine ⟨p3, dN + 1, (cZ ++ [dN]), .ref (iW + 11) 0 (List.length (cZ ++ [dN])) 1 (List.length (cZ ++ [dN])), rfl, Int.le_trans fg (Int.le_add_one (Int.le_refl _)), fM fg gS, rfl, (show 7 ≤ iW + 15 by omega), e5, e6, ?_, ?_, Or.inl ⟨iW + 11, (sameEl oU 3), rfl, (by first | omega | (simp only [nm, seval]; omega)), ?_⟩, h⟩ <;> first | (simp only [ua, va, e5, e6, e7, e8, nm, seval] <;> rfl) | rfl⟩
 ·cases p3 with
  | nil =>
   have cI : (decide (dN < (List.length ah.mix : Int))) = false := jX fg gS
   simp only [uY, hs, reduceCtorEq] at h
   replace h := sF _ h
   try dsimp only at h
   try simp only [hs] at h
   try simp only [vz, tyf, g4, n9, e5, e6, e7, e8, cI, nm, seval]
   refine bG (x := (.lit (.slice none 0 0))) (by first | (simp only [Tryz.results84, resV, resL, av, bL, bM, uw, cr, tyf, g4, n9, cI, nm, seval] <;> rfl) | rfl) ?_
   obtain rfl := kF _ h
   refine bO ?_ ?_
   ·simp only [tre, ar, Bool.and_self]
   ·first | (simp only [outV, uw, bT, cr, tyf, nrm, au, g4, n9, e5, e6, e7, e8, cI, nm, seval] <;> rfl) | rfl
  | cons e3 p3 =>
   have jF : (decide (dN < (List.length ah.mix : Int))) = true := jY fg gS
   have CH := iC fg gS
   have xp := jZ fg gS g4
   simp only [uY, hs, reduceCtorEq] at h
   cases gR : (decide (e3 > 0))
   ·simp only [gR, hs] at h
    simp only [vz, tyf, g4, n9, e5, e6, e7, e8, jF, (br CH), xp, gR, nm, seval]
    exact ⟨List.length p3, Nat.lt_succ_self _, by rw [kP]; refine ⟨p3, dN + 1, ([] : List Int), .lit (.slice none 0 0), rfl, Int.le_trans fg (Int.le_add_one (Int.le_refl _)), fM fg gS, rfl, (show 7 ≤ iW + 10 by omega), e5, e6, ?_, ?_, Or.inr ⟨rfl, rfl⟩, h⟩ <;> first | (simp only [ua, n9, e5, e6, e7, e8, jF, xp, gR, nm, seval] <;> rfl) | rfl⟩
   simp only [gR, hs] at h
   cases jK : (aw 8 (List.length (([] : List Int) ++ [dN])))
   ·simp only [jK, hs] at h
    exact absurd h y7
   simp only [jK, hs] at h
   simp only [vz, tyf, g4, n9, e5, e6, e7, e8, jF, (br CH), xp, gR, jK, nm, seval]
   refine nk (w := 1) (enc := eI) (ys := ([dN])) (mR := (some 3)) (fun _ => rfl) fQ eV Tryz.underlying29 (by first | rfl | assumption | (simp only [bp, cO, ct, n9, nm, seval] <;> rfl) | (simp only [bp, cO, sR, kd, rl, rn, tyf, g4, n9, e5, e6, e7, e8, jF, (br CH), xp, gR, jK, nm, seval]; done)) (Nat.zero_lt_succ _) jK ?_
   simp only [vz, tyf, g4, n9, e5, e6, e7, e8, jF, (br CH), xp, gR, jK, nm, seval]
   exact ⟨List.length p3, Nat.lt_succ_self _, by rw [kP]; refine ⟨p3, dN + 1, (([] : List Int) ++ [dN]), .ref (iW + 11) 0 (List.length (([] : List Int) ++ [dN])) 1 (List.length (([] : List Int) ++ [dN])), rfl, Int.le_trans fg (Int.le_add_one (Int.le_refl _)), fM fg gS, rfl, (show 7 ≤ iW + 15 by omega), e5, e6, ?_, ?_, Or.inl ⟨iW + 11, (some 3), rfl, (by first | omega | (simp only [nm, seval]; omega)), ?_⟩, h⟩ <;> first | (simp only [ua, n9, e5, e6, e7, e8, jF, xp, gR, nm, seval] <;> rfl) | rfl⟩
def CI (ah : Int) : Option (Bool) := some (ah != ah)
theorem RJ (ah : Int) (R : Bool) (h : CI ah = some R) : ad Tryz.prog G0 129 [.lit (.int .i64 ah)] (.tree (.lit (.bool R))) := by
 refine ad.runR mixed Tryz.call129 Tryz.func129 rfl (by simp [Tryz.ntmps129]; kernel_rfl) ?_
 obtain ⟨KF, h, kF, kN⟩ := dp h
 simp only [CI] at h
 try simp only [vz, tyf, nm, seval]
 obtain rfl := kF _ h
 exact bB Tryz.results129 rfl
def CJ (ah : Int) (jS : Int) : Option (Int) := Option.bind (CI ah) (fun r1 => Option.bind (CI jS) (fun r2 => cond (r1) (cond (r2) (some 0) (some (-1))) (cond (r2) (some 1) (cond (decide (ah < jS)) (some (-1)) (cond (decide (ah > jS)) (some 1) (some 0))))))
theorem RK (ah : Int) (jS : Int) (R : Int) (h : CJ ah jS = some R) : ad Tryz.prog G0 113 [.lit (.int .i64 ah), .lit (.int .i64 jS)] (.tree (.lit (.int .i64 R))) := by
 refine ad.runR mixed Tryz.call113 Tryz.func113 rfl (by simp [Tryz.ntmps113]; kernel_rfl) ?_
 obtain ⟨KF, h, kF, kN⟩ := dp h
 simp only [CJ] at h
 obtain ⟨r3, o4, h⟩ := optI h kN
 try simp only [hs] at h
 simp only [vz, tyf, nm, seval]
 refine ktA (RJ _ _ o4) ?_
 refine aZ (fun tm => tm 0 = .lit (.int .i64 ah) ∧ tm 1 = .lit (.int .i64 jS) ∧ tm 8 = .lit (.bool r3) ∧ True) (by refine ⟨?_, ?_, ?_, trivial⟩ <;> first | (simp only [ua, nm, seval] <;> rfl) | rfl) ?_
 rintro tm ⟨e5, e6, e7, _⟩
 obtain ⟨r8, o9, h⟩ := optI h kN
 try simp only [hs] at h
 simp only [vz, tyf, e5, e6, e7, nm, seval]
 refine ktA (RJ _ _ o9) ?_
 refine aZ (fun tm => tm 0 = .lit (.int .i64 ah) ∧ tm 1 = .lit (.int .i64 jS) ∧ tm 5 = .lit (.bool r3) ∧ tm 10 = .lit (.bool r8) ∧ True) (by refine ⟨e5, e6, ?_, ?_, trivial⟩ <;> first | (simp only [ua, e5, e6, e7, nm, seval] <;> rfl) | rfl) ?_
 rintro tm ⟨bm, bg, aW, ba, _⟩
 cases cT : (r3)
 ·simp only [cT, hs] at h
  cases cm : (r8)
  ·simp only [cm, hs] at h
   cases cC : (decide (ah < jS))
   ·simp only [cC, hs] at h
    cases cP : (decide (ah > jS))
    ·simp only [cP, hs] at h
     try simp only [vz, tyf, bm, bg, aW, ba, cT, cm, cC, cP, nm, seval]
     refine bG (x := (.lit (.int .i64 0))) (by first | (simp only [Tryz.results113, resV, resL, av, bL, bM, uw, cr, tyf, cT, cm, cC, cP, nm, seval] <;> rfl) | rfl) ?_
     obtain rfl := kF _ h
     refine bO ?_ ?_
     ·simp only [tre, ar, Bool.and_self]
     ·first | (simp only [outV, uw, bT, cr, tyf, nrm, au, bm, bg, aW, ba, cT, cm, cC, cP, nm, seval] <;> rfl) | rfl
    simp only [cP, hs] at h
    try simp only [vz, tyf, bm, bg, aW, ba, cT, cm, cC, cP, nm, seval]
    refine bG (x := (.lit (.int .i64 1))) (by first | (simp only [Tryz.results113, resV, resL, av, bL, bM, uw, cr, tyf, cT, cm, cC, cP, nm, seval] <;> rfl) | rfl) ?_
    obtain rfl := kF _ h
    refine bO ?_ ?_
    ·simp only [tre, ar, Bool.and_self]
    ·first | (simp only [outV, uw, bT, cr, tyf, nrm, au, bm, bg, aW, ba, cT, cm, cC, cP, nm, seval] <;> rfl) | rfl
   simp only [cC, hs] at h
   try simp only [vz, tyf, bm, bg, aW, ba, cT, cm, cC, nm, seval]
   refine bG (x := (.lit (.int .i64 (-1)))) (by first | (simp only [Tryz.results113, resV, resL, av, bL, bM, uw, cr, tyf, cT, cm, cC, nm, seval] <;> rfl) | rfl) ?_
   obtain rfl := kF _ h
   refine bO ?_ ?_
   ·simp only [tre, ar, Bool.and_self]
   ·first | (simp only [outV, uw, bT, cr, tyf, nrm, au, bm, bg, aW, ba, cT, cm, cC, nm, seval] <;> rfl) | rfl
  simp only [cm, hs] at h
  try simp only [vz, tyf, bm, bg, aW, ba, cT, cm, nm, seval]
  refine bG (x := (.lit (.int .i64 1))) (by first | (simp only [Tryz.results113, resV, resL, av, bL, bM, uw, cr, tyf, cT, cm, nm, seval] <;> rfl) | rfl) ?_
  obtain rfl := kF _ h
  refine bO ?_ ?_
  ·simp only [tre, ar, Bool.and_self]
  ·first | (simp only [outV, uw, bT, cr, tyf, nrm, au, bm, bg, aW, ba, cT, cm, nm, seval] <;> rfl) | rfl
 simp only [cT, hs] at h
 cases cG : (r8)
 ·simp only [cG, hs] at h
  try simp only [vz, tyf, bm, bg, aW, ba, cT, cG, nm, seval]
  refine bG (x := (.lit (.int .i64 (-1)))) (by first | (simp only [Tryz.results113, resV, resL, av, bL, bM, uw, cr, tyf, cT, cG, nm, seval] <;> rfl) | rfl) ?_
  obtain rfl := kF _ h
  refine bO ?_ ?_
  ·simp only [tre, ar, Bool.and_self]
  ·first | (simp only [outV, uw, bT, cr, tyf, nrm, au, bm, bg, aW, ba, cT, cG, nm, seval] <;> rfl) | rfl
 simp only [cG, hs] at h
 try simp only [vz, tyf, bm, bg, aW, ba, cT, cG, nm, seval]
 refine bG (x := (.lit (.int .i64 0))) (by first | (simp only [Tryz.results113, resV, resL, av, bL, bM, uw, cr, tyf, cT, cG, nm, seval] <;> rfl) | rfl) ?_
 obtain rfl := kF _ h
 refine bO ?_ ?_
 ·simp only [tre, ar, Bool.and_self]
 ·first | (simp only [outV, uw, bT, cr, tyf, nrm, au, bm, bg, aW, ba, cT, cG, nm, seval] <;> rfl) | rfl
def CK  : List Int → Int → Option (LOut (Int) (Unit))
 | [], bW => some (.go ())
 | e0 :: p0, bW => cond (e0 != 0) (some (.ret e0)) (CK p0 (bW + 1))
def HP (bI : List Int) : Option (Int) := cond (lenOk bI) (aN (CK bI 0) (fun r2 => some r2) (fun c1 => some 0) (fun _ _ => none)) none
theorem VB (bI : List Int) (R : Int) (h : HP bI = some R) : ad Tryz.prog G0 112 [.sl (aa eI bI) (List.length bI) false] (.tree (.lit (.int .i64 R))) := by
 refine ad.runR mixed Tryz.call112 Tryz.func112 rfl (by simp [Tryz.ntmps112]; kernel_rfl) ?_
 obtain ⟨KF, h, kF, kN⟩ := dp h
 simp only [HP] at h
 cases g4 : (lenOk bI)
 ·simp only [g4, hs] at h
  exact absurd h kN
 simp only [g4, hs] at h
 simp only [vz, tyf, g4, nm, seval]
 obtain ⟨K3, h, Cw, sF, EP, y7⟩ := fp h kN
 obtain ⟨f3, um, h⟩ := call2 h
 obtain ⟨I3, kP⟩ : ∃ I : Nat → St → Prop, I = (fun m st => ∃ (p3 : List Int) (fw : Int), m = List.length p3 ∧ 0 ≤ fw ∧ List.drop (Int.toNat fw) bI = p3 ∧ st.df = [] ∧ 5 ≤ st.nx ∧ st.tm 3 = .lit (.int .i64 0) ∧ st.tm 6 = .sl (aa eI bI) (List.length bI) false ∧ st.tm 7 = .lit (.int .i64 (List.length bI : Int)) ∧ st.tm 8 = .lit (.int .i64 fw) ∧ K3 (f3 p3 fw)) := ⟨_, rfl⟩
 refine loopK mixed (by kernel_rfl) I3 (List.length bI) (by rw [kP]; refine ⟨bI, 0, rfl, Int.le_refl _, rfl, rfl, (show 5 ≤ 5 by omega), ?_, ?_, ?_, ?_, h⟩ <;> first | (simp only [ua, nm, seval] <;> rfl) | rfl) ?_
 rintro m ⟨tm, H, iW, df⟩ hinv
 rw [kP] at hinv
 obtain ⟨p3, fw, rfl, fg, gS, hdf, uo, e5, e6, e7, e8, h⟩ := hinv
 simp only at hdf uo e5 e6 e7 e8
 have n9 := fu (m := 5) (b := iW) (by omega)
 subst hdf um
 cases p3 with
 | nil =>
  have dX : (decide (fw < (List.length bI : Int))) = false := jX fg gS
  simp only [CK, hs, reduceCtorEq] at h
  replace h := sF _ h
  try dsimp only at h
  try simp only [hs] at h
  try simp only [vz, tyf, g4, n9, e5, e6, e7, e8, dX, nm, seval]
  refine bG (x := (.lit (.int .i64 0))) (by first | (simp only [Tryz.results112, resV, resL, av, bL, bM, uw, cr, tyf, g4, n9, dX, nm, seval] <;> rfl) | rfl) ?_
  obtain rfl := kF _ h
  refine bO ?_ ?_
  ·simp only [tre, ar, Bool.and_self]
  ·first | (simp only [outV, uw, bT, cr, tyf, nrm, au, g4, n9, e5, e6, e7, e8, dX, nm, seval] <;> rfl) | rfl
 | cons e3 p3 =>
  have qc : (decide (fw < (List.length bI : Int))) = true := jY fg gS
  have qd := iC fg gS
  have sG := jZ fg gS g4
  simp only [CK, hs, reduceCtorEq] at h
  cases cT : (e3 != 0)
  ·simp only [cT, hs] at h
   simp only [vz, tyf, g4, n9, e5, e6, e7, e8, qc, (br qd), sG, cT, nm, seval]
   exact ⟨List.length p3, Nat.lt_succ_self _, by rw [kP]; refine ⟨p3, fw + 1, rfl, Int.le_trans fg (Int.le_add_one (Int.le_refl _)), fM fg gS, rfl, (show 5 ≤ iW + 9 by omega), e5, e6, e7, ?_, h⟩ <;> first | (simp only [ua, n9, e5, e6, e7, e8, qc, sG, cT, nm, seval] <;> rfl) | rfl⟩
  simp only [cT, hs] at h
  try simp only [vz, tyf, g4, n9, e5, e6, e7, e8, qc, (br qd), sG, cT, nm, seval]
  refine bG (x := (.lit (.int .i64 e3))) (by first | (simp only [Tryz.results112, resV, resL, av, bL, bM, uw, cr, tyf, g4, n9, qc, (br qd), sG, cT, nm, seval] <;> rfl) | rfl) ?_
  replace h := Cw _ h
  try dsimp only at h
  obtain rfl := kF _ h
  refine bO ?_ ?_
  ·simp only [tre, ar, Bool.and_self]
  ·first | (simp only [outV, uw, bT, cr, tyf, nrm, au, g4, n9, e5, e6, e7, e8, qc, (br qd), sG, cT, nm, seval] <;> rfl) | rfl
def CL (dz : List Int) : List Int → Int → Option (LOut (Int) (Unit))
 | [], bw => some (.go ())
 | e0 :: p0, bw => cond (decide (bw ≥ (List.length dz : Int))) (some (.ret 1)) (Option.bind (getI dz bw) (fun x1 => Option.bind (CJ e0 x1) (fun r2 => cond (r2 != 0) (some (.ret r2)) (CL dz p0 (bw + 1)))))
def HQ (bU : List Int) (dz : List Int) : Option (Int) := cond (lenOk bU) (aN (CL dz bU 0) (fun r4 => some r4) (fun c3 => cond (decide ((List.length bU : Int) < (List.length dz : Int))) (some (-1)) (some 0)) (fun _ _ => none)) none
theorem VC (bU : List Int) (dz : List Int) (R : Int) (h : HQ bU dz = some R) : ad Tryz.prog G0 114 [.sl (aa eI bU) (List.length bU) false, .sl (aa eI dz) (List.length dz) false] (.tree (.lit (.int .i64 R))) := by
 refine ad.runR mixed Tryz.call114 Tryz.func114 rfl (by simp [Tryz.ntmps114]; kernel_rfl) ?_
 obtain ⟨KF, h, kF, kN⟩ := dp h
 simp only [HQ] at h
 cases g6 : (lenOk bU)
 ·simp only [g6, hs] at h
  exact absurd h kN
 simp only [g6, hs] at h
 simp only [vz, tyf, g6, nm, seval]
 obtain ⟨K5, h, CM, HR, VD, CN⟩ := fp h kN
 obtain ⟨f5, HS, h⟩ := call2 h
 obtain ⟨I5, vc⟩ : ∃ I : Nat → St → Prop, I = (fun m st => ∃ (p5 : List Int) (gj : Int), m = List.length p5 ∧ 0 ≤ gj ∧ List.drop (Int.toNat gj) bU = p5 ∧ st.df = [] ∧ 4 ≤ st.nx ∧ st.tm 0 = .sl (aa eI bU) (List.length bU) false ∧ st.tm 1 = .sl (aa eI dz) (List.length dz) false ∧ st.tm 9 = .sl (aa eI bU) (List.length bU) false ∧ st.tm 10 = .lit (.int .i64 (List.length bU : Int)) ∧ st.tm 11 = .lit (.int .i64 gj) ∧ K5 (f5 p5 gj)) := ⟨_, rfl⟩
 refine loopK mixed (by kernel_rfl) I5 (List.length bU) (by rw [vc]; refine ⟨bU, 0, rfl, Int.le_refl _, rfl, rfl, (show 4 ≤ 4 by omega), ?_, ?_, ?_, ?_, ?_, h⟩ <;> first | (simp only [ua, nm, seval] <;> rfl) | rfl) ?_
 rintro m ⟨tm, H, zC, df⟩ hinv
 rw [vc] at hinv
 obtain ⟨p5, gj, rfl, nw, oV, hdf, HT, e7, e8, e9, bm, bg, h⟩ := hinv
 simp only at hdf HT e7 e8 e9 bm bg
 have lW := fu (m := 4) (b := zC) (by omega)
 subst hdf HS
 cases p5 with
 | nil =>
  have cn : (decide (gj < (List.length bU : Int))) = false := jX nw oV
  simp only [CL, hs, reduceCtorEq] at h
  replace h := HR _ h
  try dsimp only at h
  try simp only [hs] at h
  cases cT : (decide ((List.length bU : Int) < (List.length dz : Int)))
  ·simp only [cT, hs] at h
   try simp only [vz, tyf, g6, lW, e7, e8, e9, bm, bg, cn, cT, nm, seval]
   refine bG (x := (.lit (.int .i64 0))) (by first | (simp only [Tryz.results114, resV, resL, av, bL, bM, uw, cr, tyf, g6, lW, cn, cT, nm, seval] <;> rfl) | rfl) ?_
   obtain rfl := kF _ h
   refine bO ?_ ?_
   ·simp only [tre, ar, Bool.and_self]
   ·first | (simp only [outV, uw, bT, cr, tyf, nrm, au, g6, lW, e7, e8, e9, bm, bg, cn, cT, nm, seval] <;> rfl) | rfl
  simp only [cT, hs] at h
  try simp only [vz, tyf, g6, lW, e7, e8, e9, bm, bg, cn, cT, nm, seval]
  refine bG (x := (.lit (.int .i64 (-1)))) (by first | (simp only [Tryz.results114, resV, resL, av, bL, bM, uw, cr, tyf, g6, lW, cn, cT, nm, seval] <;> rfl) | rfl) ?_
  obtain rfl := kF _ h
  refine bO ?_ ?_
  ·simp only [tre, ar, Bool.and_self]
  ·first | (simp only [outV, uw, bT, cr, tyf, nrm, au, g6, lW, e7, e8, e9, bm, bg, cn, cT, nm, seval] <;> rfl) | rfl
 | cons e5 p5 =>
  have cm : (decide (gj < (List.length bU : Int))) = true := jY nw oV
  have jE := iC nw oV
  have ka := jZ nw oV g6
  simp only [CL, hs, reduceCtorEq] at h
  cases cG : (decide (gj ≥ (List.length dz : Int)))
  ·simp only [cG, hs] at h
   obtain ⟨YY, od, h⟩ := optI h CN
   try simp only [hs] at h
   obtain ⟨nP, uq, h⟩ := optI h CN
   try simp only [hs] at h
   simp only [vz, tyf, g6, lW, e7, e8, e9, bm, bg, cm, (br jE), ka, cG, (br od), nm, seval]
   refine ktA (RK _ _ _ uq) ?_
   refine aZ (fun tm => tm 0 = .sl (aa eI bU) (List.length bU) false ∧ tm 1 = .sl (aa eI dz) (List.length dz) false ∧ tm 9 = .sl (aa eI bU) (List.length bU) false ∧ tm 10 = .lit (.int .i64 (List.length bU : Int)) ∧ tm 11 = .lit (.int .i64 gj) ∧ tm 26 = .lit (.int .i64 nP) ∧ True) (by refine ⟨e7, e8, e9, bm, bg, ?_, trivial⟩ <;> first | (simp only [ua, lW, e7, e8, e9, bm, bg, cm, ka, cG, nm, seval] <;> rfl) | rfl) ?_
   rintro tm ⟨bD, cF, cD, cH, bY, bE, _⟩
   cases en : (nP != 0)
   ·simp only [en, hs] at h
    simp only [vz, tyf, g6, lW, cm, (br jE), ka, cG, (br od), bD, cF, cD, cH, bY, bE, en, nm, seval]
    exact ⟨List.length p5, Nat.lt_succ_self _, by rw [vc]; refine ⟨p5, gj + 1, rfl, Int.le_trans nw (Int.le_add_one (Int.le_refl _)), fM nw oV, rfl, (show 4 ≤ zC + 23 by omega), bD, cF, cD, cH, ?_, h⟩ <;> first | (simp only [ua, lW, cm, ka, cG, bD, cF, cD, cH, bY, bE, en, nm, seval] <;> rfl) | rfl⟩
   simp only [en, hs] at h
   try simp only [vz, tyf, g6, lW, cm, (br jE), ka, cG, (br od), bD, cF, cD, cH, bY, bE, en, nm, seval]
   refine bG (x := (.lit (.int .i64 nP))) (by first | (simp only [Tryz.results114, resV, resL, av, bL, bM, uw, cr, tyf, g6, lW, cm, (br jE), ka, cG, (br od), en, nm, seval] <;> rfl) | rfl) ?_
   replace h := CM _ h
   try dsimp only at h
   obtain rfl := kF _ h
   refine bO ?_ ?_
   ·simp only [tre, ar, Bool.and_self]
   ·first | (simp only [outV, uw, bT, cr, tyf, nrm, au, g6, lW, cm, (br jE), ka, cG, (br od), bD, cF, cD, cH, bY, bE, en, nm, seval] <;> rfl) | rfl
  simp only [cG, hs] at h
  try simp only [vz, tyf, g6, lW, e7, e8, e9, bm, bg, cm, (br jE), ka, cG, nm, seval]
  refine bG (x := (.lit (.int .i64 1))) (by first | (simp only [Tryz.results114, resV, resL, av, bL, bM, uw, cr, tyf, g6, lW, cm, (br jE), ka, cG, nm, seval] <;> rfl) | rfl) ?_
  replace h := CM _ h
  try dsimp only at h
  obtain rfl := kF _ h
  refine bO ?_ ?_
  ·simp only [tre, ar, Bool.and_self]
  ·first | (simp only [outV, uw, bT, cr, tyf, nrm, au, g6, lW, e7, e8, e9, bm, bg, cm, (br jE), ka, cG, nm, seval] <;> rfl) | rfl
end Go.V
end
