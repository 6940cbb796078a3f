/- Part of a proof: a logic of values by content, lifted functions, what follows. -/
import Derived.Test.YtgdgkkloccpbnaaGreatDoorXbf
import Derived.Test.YtgdgkkloccpbnaaGreatDoorXbh
import Derived.Test.YtgdgkkloccpbnaaGreatDoorXbn
import Derived.Test.YtgdgkkloccpbnaaGreatDoorXbi
import Derived.Test.YtgdgkkloccpbnaaGreatDoorXbm
import Derived.Test.YtgdgkkloccpbnaaGreatDoorXbj
set_option linter.all false
set_option maxRecDepth 4000
set_option maxHeartbeats 40000000
section
namespace Go.V
open Go Go.Proofs
def zdy (x1_b : List Int) : List Int → Int → Option (LOut (Bool) (Unit))
 | [], c0_5 => some (.go ())
 | e0 :: p0, c0_5 => Option.bind (getI x1_b c0_5) (fun x1 => cond (e0 != x1) (some (.ret false)) (zdy x1_b p0 (c0_5 + 1)))
def zfy (x0_a : List Int) (x1_b : List Int) : Option (Bool) := cond ((List.length x0_a : Int) != (List.length x1_b : Int)) (some false) (cond (lenOk x0_a) (lbind (zdy x1_b x0_a 0) (fun r3 => some r3) (fun c2 => some true) (fun _ _ => none)) none)
theorem zou (x0_a : List Int) (x1_b : List Int) (R : Bool) (h : zfy x0_a x1_b = some R) : VPure Tryz.prog G0 21 [.sl (cellsL eI x0_a) (List.length x0_a) false, .sl (cellsL eI x1_b) (List.length x1_b) false] (.tree (.lit (.bool R))) := by
 refine VPure.runR mixed Tryz.call21 Tryz.func21 rfl (by simp [Tryz.ntmps21]; kernel_rfl) ?_
 obtain ⟨KF, h, kF, kN⟩ := zan h
 simp only [zfy] at h
 cases d4 : ((List.length x0_a : Int) != (List.length x1_b : Int))
 ·simp only [d4, hs] at h
  cases g6 : (lenOk x0_a)
  ·simp only [g6, hs] at h
   exact absurd h kN
  simp only [g6, hs] at h
  simp only [vz, tyf, d4, g6, nm, seval]
  obtain ⟨K5, h, kR5, kG5, kB5, kN5⟩ := zap h kN
  obtain ⟨f5, hf5, h⟩ := call2 h
  obtain ⟨I5, hI5⟩ : ∃ I : Nat → St → Prop, I = (fun m st => ∃ (p5 : List Int) (c5_5 : Int), m = List.length p5 ∧ 0 ≤ c5_5 ∧ List.drop (Int.toNat c5_5) x0_a = p5 ∧ st.df = [] ∧ 7 ≤ st.nx ∧ st.tm 0 = .sl (cellsL eI x0_a) (List.length x0_a) false ∧ st.tm 1 = .sl (cellsL eI x1_b) (List.length x1_b) false ∧ st.tm 5 = .lit (.int .i64 c5_5) ∧ K5 (f5 p5 c5_5)) := ⟨_, rfl⟩
  refine loopK mixed (by kernel_rfl) I5 (List.length x0_a) (by rw [hI5]; refine ⟨x0_a, 0, rfl, Int.le_refl _, rfl, rfl, (show 7 ≤ 7 by omega), ?_, ?_, ?_, h⟩ <;> first | (simp only [ua, d4, nm, seval] <;> rfl) | rfl) ?_
  rintro m ⟨tm, H, nx5, df⟩ hinv
  rw [hI5] at hinv
  obtain ⟨p5, c5_5, rfl, hi5, hp5, hdf, hn5, e7, e8, e9, h⟩ := hinv
  simp only at hdf hn5 e7 e8 e9
  have n10 := zbr (m := 7) (b := nx5) (by omega)
  subst hdf hf5
  cases p5 with
  | nil =>
   have d11 : (decide (c5_5 < (List.length x0_a : Int))) = false := zaf hi5 hp5
   simp only [zdy, hs, reduceCtorEq] at h
   replace h := kG5 _ h
   try dsimp only at h
   try simp only [hs] at h
   try simp only [vz, tyf, d4, g6, n10, e7, e8, e9, d11, nm, seval]
   obtain rfl := kF _ h
   exact zae Tryz.results21 rfl
  | cons e5 p5 =>
   have d12 : (decide (c5_5 < (List.length x0_a : Int))) = true := zao hi5 hp5
   have o14 := zad hi5 hp5
   have w13 := zat hi5 hp5 g6
   simp only [zdy, hs, reduceCtorEq] at h
   simp only [vz, tyf, d4, g6, n10, e7, e8, e9, d12, (ix23 o14), w13, nm, seval]
   refine zbl (fun tm => tm 0 = .sl (cellsL eI x0_a) (List.length x0_a) false ∧ tm 1 = .sl (cellsL eI x1_b) (List.length x1_b) false ∧ tm 5 = .lit (.int .i64 c5_5) ∧ True) (by refine ⟨e7, e8, e9, trivial⟩ <;> first | (simp only [ua, d4, n10, e7, e8, e9, d12, w13, nm, seval] <;> rfl) | rfl) ?_
   rintro tm ⟨e15, e16, e17, _⟩
   rcases o19 : (getI x1_b c5_5) with _ | x18
   ·simp only [o19, hs] at h
    exact absurd h kN5
   simp only [o19, hs] at h
   cases d20 : (e5 != x18)
   ·simp only [d20, hs] at h
    simp only [vz, tyf, d4, g6, n10, d12, (ix23 o14), w13, e15, e16, e17, (ix23 o19), d20, nm, seval]
    exact ⟨List.length p5, Nat.lt_succ_self _, by rw [hI5]; refine ⟨p5, c5_5 + 1, rfl, Int.le_trans hi5 (Int.le_add_one (Int.le_refl _)), zac hi5 hp5, rfl, (show 7 ≤ nx5 + 16 by omega), e15, e16, ?_, h⟩ <;> first | (simp only [ua, d4, n10, d12, w13, e15, e16, e17, d20, nm, seval] <;> rfl) | rfl⟩
   simp only [d20, hs] at h
   try simp only [vz, tyf, d4, g6, n10, d12, (ix23 o14), w13, e15, e16, e17, (ix23 o19), d20, nm, seval]
   replace h := kR5 _ h
   try dsimp only at h
   obtain rfl := kF _ h
   exact zae Tryz.results21 rfl
 simp only [d4, hs] at h
 try simp only [vz, tyf, d4, nm, seval]
 obtain rfl := kF _ h
 exact zae Tryz.results21 rfl
end Go.V
end
section
namespace Go.V
open Go
set_option linter.unusedVariables false
set_option linter.unusedSimpArgs false
theorem zsf (b : List Int) : ∀ (p r : List Int) (i : Int), 0 ≤ i → b.drop i.toNat = r → p.length = r.length → zdy b p i = goB (p == r)
 | [], [], _, _, _, _ => rfl
 | [], _ :: _, _, _, _, hl => by simp at hl
 | _ :: _, [], _, _, _, hl => by simp at hl
 | e :: p, q :: r, i, h0, h, hl => by
  have := zsf b p r (i + 1) (by omega) (zac h0 h) (by simpa using hl)
  simp only [zdy, zad h0 h, Option.bind_some, this, List.cons_beq_cons, zlm, bne, cnot]
theorem same_eq (a b : List Int) (h : lenOk a = true) : zfy a b = some (a == b) := by
 unfold zfy
 by_cases hl : a.length = b.length
 ·have : ((a.length : Int) != (b.length : Int)) = false := by simp [hl]
  simp only [this, cond_false, h, cond_true, zsf b a b 0 (by omega) rfl hl, zfo]
  cases a == b <;> rfl
 ·have : ((a.length : Int) != (b.length : Int)) = true := by simp; omega
  have h2 : (a == b) = false := by
   simp only [beq_eq_false_iff_ne, ne_eq]
   intro hh; exact hl (by rw [hh])
  simp only [this, cond_true, h2]
theorem zagr (s : GCoatSheet) : ∃ b, zfk s = some b := by
 unfold zfk
 cases decide ((s.Dry.length : Int) ≤ 14) with
 | false => exact ⟨_, rfl⟩
 | true =>
 cases decide ((s.Work.length : Int) ≤ 16) with
 | false => exact ⟨_, rfl⟩
 | true => exact ⟨_, rfl⟩
end Go.V
end
section
namespace Go.V
open Go Go.Proofs
set_option linter.unusedSimpArgs false
set_option linter.unusedVariables false
set_option maxRecDepth 4000
set_option maxHeartbeats 4000000
def filterO (f : List Int → Option Bool) : List (List Int) → Option (List (List Int))
 | [] => some []
 | x :: L => Option.bind (f x) fun t => Option.bind (filterO f L) fun r => some (cond t (x :: r) r)
theorem zakw {itv : VV} {mc : List VV} {bf : Nat} {L : List VV} (hit : Iter Tryz.prog G0 itv L) (hti : itv.tree = true) (htm : treeL mc = true) : VPure Tryz.prog G0 115 [itv, .fn (.func bf) [] mc] (.tree (.fn (.func 148) [] [.tp [itv], .tp [.fn (.func bf) [] mc]])) := by
 obtain ⟨f, fi, ca, rfl, _⟩ := hit
 refine VPure.run mixed Tryz.call115 Tryz.func115 rfl (by simp [Tryz.ntmps115]; kernel_rfl) ?_
 simp only [vz, tyf, seval, ua, rg]
 refine ⟨rfl, .fn (.func 148) [] [.ptr 0 0, .ptr 1 0], by simp [Tryz.results115, resV, resL, resV1, upd], 20, ?_⟩
 have hti' : (treeL fi && treeL ca) = true := hti
 simp [sealV, sealL, VV.tree, treeL, updH, htm, hti']
theorem zaen {itv : VV} {bf : Nat} {mc : List VV} {L L' : List (List Int)} (hit : Iter Tryz.prog G0 itv (L.map sI)) (hmt : treeL mc = true) {f : List Int → Option Bool}
  (hb : ∀ a t, f a = some t → VPure Tryz.prog G0 bf (sI a :: mc) (.tree (.lit (.bool t)))) (h : filterO f L = some L') :
  Iter Tryz.prog G0 (.fn (.func 148) [] [.tp [itv], .tp [.fn (.func bf) [] mc]]) (L'.map sI) := by
 refine ⟨148, [], _, rfl, fun β I hst hr H nx hβ hI => ?_⟩
 refine VOpen.run mixed Tryz.call148 Tryz.func148 rfl (by simp [Tryz.ntmps148]; kernel_rfl) ?_
 simp only [List.nil_append, List.cons_append, argsTm3, vz, tyf, seval, ua, rg]
 refine ziw (fun tm => tm 5 = itv ∧ tm 2 = .tp [.fn (.func bf) [] mc] ∧ tm 3 = .ptr nx 0) (by refine ⟨?_, ?_, ?_⟩ <;> simp only [ua, seval, Nat.add_zero]) ?_
 rintro tm ⟨e5, e2, e3⟩
 refine zsy hit (by first | (simp only [zhm, zfn, e5, zco, seval] <;> rfl) | rfl) ?_
 intro LO hLO
 obtain ⟨J, hJ⟩ : ∃ J : Option (List VV) → Option (List VV) → List (Nat × VObj) → Prop, J = (fun o o' hp => match o with
  | some l => ∃ (p L2 : List (List Int)), l = p.map sI ∧ filterO f p = some L2 ∧ o' = some (L2.map sI) ∧ hp = [(nx, .cells (some 128) [.yl β]), (nx + 2, .deferred (some [])), (nx + 3, LO)]
  | none => ∃ LD : Code → VObj, (∃ tml ps az bo d, LD = fun c => VObj.loop .done (some c) tml ps az bo d) ∧ o' = none ∧ hp = [(nx, .cells (some 128) [.yl β]), (nx + 2, .deferred (some [])), (nx + 3, LD .ret)]) := ⟨_, rfl⟩
 refine ⟨ownI2 I J, zvd hst, ?_, ?_, ?_⟩
 ·rintro v rest Fr H1 nx1 hFr ⟨hp, o', hown, hj, hi⟩
  rw [hJ] at hj
  obtain ⟨p, L2, hl, hf, rfl, rfl⟩ := hj
  cases p with
  | nil => cases hl
  | cons e p =>
  simp only [List.map_cons, List.cons.injEq] at hl
  obtain ⟨rfl, rfl⟩ := hl
  obtain ⟨la, na, Ha⟩ := hown.head
  obtain ⟨lb, nb, Hb⟩ := hown.tail.head
  obtain ⟨lc, nc, Hc⟩ := hown.tail.tail.head
  have hfr : ∀ γ, (∃ q ∈ [(nx, .cells (some 128) [.yl β]), (nx + 2, .deferred (some [])), (nx + 3, LO)], (q : Nat × VObj).1 = γ) ↔ γ = nx ∨ γ = nx + 2 ∨ γ = nx + 3 := by
   intro γ
   simp [eq_comm]
  simp only [hfr] at hi
  unfold filterO at hf
  rcases ht : f e with _ | t
  ·rw [ht] at hf; cases hf
  rw [ht, Option.bind_some] at hf
  rcases hf2 : filterO f p with _ | L3
  ·rw [hf2] at hf; cases hf
  rw [hf2, Option.bind_some, Option.some.injEq] at hf
  refine zpk mixed (psl := [6]) hLO Hc ztl rfl (by kernel_rfl) (by kernel_rfl) ?_
  intro LB LD hLB hLD
  refine zwk (fun tm => tm 6 = sI e ∧ tm 2 = .tp [.fn (.func bf) [] mc] ∧ tm 3 = .ptr nx 0) (by refine ⟨?_, ?_, ?_⟩ <;> simp only [zacg, zwb, Tryz.ntmps148, e2, e3, seval]) ?_
  clear e5 e2 e3
  rintro tm ⟨e6, e2, e3⟩
  have hne : (nx = nx + 3) = False := by simp
  simp only [vz, tyf, seval, ua, nm, rg, RStart, e6, e2, e3, Ha, Hc, hne]
  refine ktreeR ?_ (hb e t ht) ?_
  ·have h1 : treeL (cellsL eI e) = true := eI_ok.treeL e
   simp [treeL, VV.tree, h1, hmt]
  cases t with
  | false =>
   simp only [cond_false] at hf
   subst hf
   simp only [vz, tyf, seval, ua, nm, rg, RStart, e6, e2, e3, Ha, Hc, hne]
   refine ⟨by simp only [zab, seval], (show nx1 ≤ nx1 + 10 by omega), fun γ hγ => ?_, ?_⟩
   ·have g3 : γ ≠ nx + 3 := fun e => nc (e ▸ hγ)
    simp only [updH]
    repeat rw [if_neg g3]
   ·simp only [if_true]
    refine ⟨[(nx, .cells (some 128) [.yl β]), (nx + 2, .deferred (some [])), (nx + 3, LO)], some (L3.map sI), Own.cons (show nx < nx1 + 10 by omega) na ?_ (Own.cons (show nx + 2 < nx1 + 10 by omega) nb ?_ (Own.cons (show nx + 3 < nx1 + 10 by omega) nc ?_ Own.nil)), ?_, ?_⟩
    ·simp only [zab, seval, hne, Ha]
    ·simp only [zab, nm, seval, Hb]
    ·simp only [zab, seval]
    ·rw [hJ]
     exact ⟨p, L3, rfl, hf2, rfl, rfl⟩
    ·simp only [hfr]
     refine hst _ _ _ _ _ _ _ hi ?_ (by omega) (fun γ h => .inl h)
     intro γ _ hn
     have g3 : γ ≠ nx + 3 := fun e => hn (.inr (.inr (.inr e)))
     simp only [updH]
     repeat rw [if_neg g3]
  | true =>
   simp only [cond_true] at hf
   subst hf
   simp only [vz, tyf, seval, ua, nm, rg, RStart, e6, e2, e3, Ha, Hc, hne]
   have hi2 : I (some (sI e :: L3.map sI)) (fun γ => Fr γ ∨ γ = nx ∨ γ = nx + 2 ∨ γ = nx + 3) (updH H1 (nx + 3) LB) (nx1 + 10) := by
    refine hst _ _ _ _ _ _ _ hi ?_ (by omega) (fun γ h => .inl h)
    intro γ _ hn
    have g3 : γ ≠ nx + 3 := fun e => hn (.inr (.inr (.inr e)))
    simp only [updH]
    rw [if_neg g3]
   refine (hr (sI e) (L3.map sI) _ _ _ ?_ hi2) (some (some (nx + 3))) _ _ _ rfl rfl ?_
   ·rintro γ (hγ | rfl | rfl | rfl)
    ·have := hFr γ hγ; omega
    ·omega
    ·omega
    ·omega
   rintro b H2 nx2 ⟨q1, q2, q3⟩
   have Ka : H2 nx = some (.cells (some 128) [.yl β]) := by rw [q2 nx (.inr (.inl rfl))]; simp only [zab, seval, hne, Ha]
   have Kb : H2 (nx + 2) = some (.deferred (some [])) := by rw [q2 _ (.inr (.inr (.inl rfl)))]; simp only [zab, nm, seval, Hb]
   have Kc : H2 (nx + 3) = some LB := by rw [q2 _ (.inr (.inr (.inr rfl)))]; simp only [zab, seval]
   have KF : ∀ γ, Fr γ → H2 γ = H1 γ := by
    intro γ hγ
    have g3 : γ ≠ nx + 3 := fun e => nc (e ▸ hγ)
    rw [q2 γ (.inl hγ)]
    simp only [updH]
    rw [if_neg g3]
   cases b with
   | true =>
    simp only [vz, tyf, seval, ua, nm, rg, Bool.not_true]
    refine ⟨Kc, (show nx1 ≤ nx2 by omega), fun γ hγ => ?_, ?_⟩
    ·have g3 : γ ≠ nx + 3 := fun e => nc (e ▸ hγ)
     simp only [updH]
     rw [if_neg g3]
     exact KF γ hγ
    ·simp only [if_true] at q3 ⊢
     refine ⟨[(nx, .cells (some 128) [.yl β]), (nx + 2, .deferred (some [])), (nx + 3, LO)], some (L3.map sI), Own.cons (show nx < nx2 by omega) na ?_ (Own.cons (show nx + 2 < nx2 by omega) nb ?_ (Own.cons (show nx + 3 < nx2 by omega) nc ?_ Own.nil)), ?_, ?_⟩
     ·simp only [zab, seval, hne, Ka]
     ·simp only [zab, nm, seval, Kb]
     ·simp only [zab, seval]
     ·rw [hJ]
      exact ⟨p, L3, rfl, hf2, rfl, rfl⟩
     ·simp only [hfr]
      refine hst _ _ _ _ _ _ _ q3 ?_ (by omega) (fun γ h => .inl h)
      intro γ _ hn
      have g3 : γ ≠ nx + 3 := fun e => hn (.inr (.inr (.inr e)))
      simp only [updH]
      rw [if_neg g3]
   | false =>
    simp only [vz, tyf, seval, ua, nm, rg, Bool.not_false]
    refine ⟨Kc, (show nx1 ≤ nx2 by omega), fun γ hγ => ?_, ?_⟩
    ·have g3 : γ ≠ nx + 3 := fun e => nc (e ▸ hγ)
     simp only [updH]
     rw [if_neg g3]
     exact KF γ hγ
    ·simp only [Bool.false_eq_true, if_false] at q3 ⊢
     have hfr2 : ∀ γ, (∃ q ∈ [(nx, .cells (some 128) [.yl β]), (nx + 2, .deferred (some [])), (nx + 3, LD .ret)], (q : Nat × VObj).1 = γ) ↔ γ = nx ∨ γ = nx + 2 ∨ γ = nx + 3 := by
      intro γ
      simp [eq_comm]
     refine ⟨[(nx, .cells (some 128) [.yl β]), (nx + 2, .deferred (some [])), (nx + 3, LD .ret)], none, Own.cons (show nx < nx2 by omega) na ?_ (Own.cons (show nx + 2 < nx2 by omega) nb ?_ (Own.cons (show nx + 3 < nx2 by omega) nc ?_ Own.nil)), ?_, ?_⟩
     ·simp only [zab, seval, hne, Ka]
     ·simp only [zab, nm, seval, Kb]
     ·simp only [zab, seval]
     ·rw [hJ]
      exact ⟨LD, ⟨_, _, _, _, _, hLD⟩, rfl, rfl⟩
     ·simp only [hfr2]
      refine hst _ _ _ _ _ _ _ q3 ?_ (by omega) (fun γ h => .inl h)
      intro γ _ hn
      have g3 : γ ≠ nx + 3 := fun e => hn (.inr (.inr (.inr e)))
      simp only [updH]
      rw [if_neg g3]
 ·have hfr : ∀ γ, (∃ q ∈ [(nx, .cells (some 128) [.yl β]), (nx + 2, .deferred (some [])), (nx + 3, LO)], (q : Nat × VObj).1 = γ) ↔ γ = nx ∨ γ = nx + 2 ∨ γ = nx + 3 := by
   intro γ
   simp [eq_comm]
  refine ⟨[(nx, .cells (some 128) [.yl β]), (nx + 2, .deferred (some [])), (nx + 3, LO)], some (L'.map sI), Own.cons (show nx < nx + 4 by omega) (fun h => h) ?_ (Own.cons (show nx + 2 < nx + 4 by omega) (fun h => h) ?_ (Own.cons (show nx + 3 < nx + 4 by omega) (fun h => h) ?_ Own.nil)), ?_, ?_⟩
  ·simp only [updH]
   rw [if_neg (by omega), if_neg (by omega), if_pos (by omega)]
  ·simp only [updH]
   simp
  ·simp only [updH]
   simp
  ·rw [hJ]
   exact ⟨L, L', rfl, h, rfl, rfl⟩
  ·simp only [hfr]
   refine hst _ _ _ _ _ _ _ hI ?_ (by omega) ?_
   ·intro γ hγ _
    simp only [updH]
    repeat rw [if_neg (by omega)]
   ·rintro γ (h | rfl | rfl | rfl)
    ·exact h.elim
    ·right; omega
    ·right; omega
    ·right; omega
 ·rintro H' nx' (⟨hp, o', hown, hj, hi⟩ | ⟨hp, o', hown, hj, hi⟩)
  ·rw [hJ] at hj
   obtain ⟨p, L2, hl, hf, rfl, rfl⟩ := hj
   cases p with
   | cons e p => cases hl
   | nil =>
   simp only [filterO, Option.some.injEq] at hf
   subst hf
   obtain ⟨la, na, Ha⟩ := hown.head
   obtain ⟨lb, nb, Hb⟩ := hown.tail.head
   obtain ⟨lc, nc, Hc⟩ := hown.tail.tail.head
   have hfr : ∀ γ, (∃ q ∈ [(nx, .cells (some 128) [.yl β]), (nx + 2, .deferred (some [])), (nx + 3, LO)], (q : Nat × VObj).1 = γ) ↔ γ = nx ∨ γ = nx + 2 ∨ γ = nx + 3 := by
    intro γ
    simp [eq_comm]
   simp only [hfr] at hi
   refine zpw hLO Hc ?_
   intro LX
   simp only [vz, tyf, seval, ua, nm, rg]
   refine zagx (by simp only [zab, nm, seval, Hb]) ?_
   refine ztb (x := .tup []) (by simp [Tryz.results148, resV, resL]) (.inl ?_)
   refine hst _ _ _ _ _ _ _ hi ?_ (Nat.le_refl _) (fun γ h => h.elim)
   intro γ _ hn
   have g2 : γ ≠ nx + 2 := fun e => hn (.inr (.inr (.inl e)))
   have g3 : γ ≠ nx + 3 := fun e => hn (.inr (.inr (.inr e)))
   simp only [updH]
   repeat rw [if_neg (by first | assumption | omega)]
  ·rw [hJ] at hj
   obtain ⟨LD, ⟨tml, ps, az, bo, d, hLD⟩, rfl, rfl⟩ := hj
   obtain ⟨la, na, Ha⟩ := hown.head
   obtain ⟨lb, nb, Hb⟩ := hown.tail.head
   obtain ⟨lc, nc, Hc⟩ := hown.tail.tail.head
   have hfr : ∀ γ, (∃ q ∈ [(nx, .cells (some 128) [.yl β]), (nx + 2, .deferred (some [])), (nx + 3, LD .ret)], (q : Nat × VObj).1 = γ) ↔ γ = nx ∨ γ = nx + 2 ∨ γ = nx + 3 := by
    intro γ
    simp [eq_comm]
   simp only [hfr] at hi
   refine zvn hLD Hc ?_
   intro LX
   simp only [vz, tyf, seval, ua, nm, rg]
   refine zaep (by simp only [zab, nm, seval, Hb]) ?_
   refine zbt (x := .tup []) (by simp [Tryz.results148, resV, resL]) (.inr ?_)
   refine hst _ _ _ _ _ _ _ hi ?_ (Nat.le_refl _) (fun γ h => h.elim)
   intro γ _ hn
   have g2 : γ ≠ nx + 2 := fun e => hn (.inr (.inr (.inl e)))
   have g3 : γ ≠ nx + 3 := fun e => hn (.inr (.inr (.inr e)))
   simp only [updH]
   repeat rw [if_neg (by first | assumption | omega)]
end Go.V
end
section
namespace Go.V
open Go Go.Proofs
def zdh (x1_plan : List Int) (x2_day : Int) : List Int → Int → Option (LOut (Bool) (Unit))
 | [], c0_10 => some (.go ())
 | e0 :: p0, c0_10 => Option.bind (getI x1_plan c0_10) (fun x1 => cond (decide ((if x1 < e0 then x1 else e0) < x2_day)) (cond (e0 != x1) (some (.ret false)) (zdh x1_plan x2_day p0 (c0_10 + 1))) (zdh x1_plan x2_day p0 (c0_10 + 1)))
def zfv (x0_given : List Int) (x1_plan : List Int) (x2_day : Int) : Option (Bool) := cond (lenOk x0_given) (lbind (zdh x1_plan x2_day x0_given 0) (fun r3 => some r3) (fun c2 => some true) (fun _ _ => none)) none
theorem zol (x0_given : List Int) (x1_plan : List Int) (x2_day : Int) (R : Bool) (h : zfv x0_given x1_plan x2_day = some R) : VPure Tryz.prog G0 117 [.sl (cellsL eI x0_given) (List.length x0_given) false, .sl (cellsL eI x1_plan) (List.length x1_plan) false, .lit (.int .i64 x2_day)] (.tree (.lit (.bool R))) := by
 refine VPure.runR mixed Tryz.call117 Tryz.func117 rfl (by simp [Tryz.ntmps117]; kernel_rfl) ?_
 obtain ⟨KF, h, kF, kN⟩ := zan h
 simp only [zfv] at h
 cases g5 : (lenOk x0_given)
 ·simp only [g5, hs] at h
  exact absurd h kN
 simp only [g5, hs] at h
 simp only [vz, tyf, g5, nm, seval]
 obtain ⟨K4, h, kR4, kG4, kB4, kN4⟩ := zap h kN
 obtain ⟨f4, hf4, h⟩ := call2 h
 obtain ⟨I4, hI4⟩ : ∃ I : Nat → St → Prop, I = (fun m st => ∃ (p4 : List Int) (c4_10 : Int), m = List.length p4 ∧ 0 ≤ c4_10 ∧ List.drop (Int.toNat c4_10) x0_given = p4 ∧ st.df = [] ∧ 4 ≤ st.nx ∧ st.tm 0 = .sl (cellsL eI x0_given) (List.length x0_given) false ∧ st.tm 1 = .sl (cellsL eI x1_plan) (List.length x1_plan) false ∧ st.tm 2 = .lit (.int .i64 x2_day) ∧ st.tm 9 = .lit (.int .i64 (List.length x0_given : Int)) ∧ st.tm 10 = .lit (.int .i64 c4_10) ∧ K4 (f4 p4 c4_10)) := ⟨_, rfl⟩
 refine loopK mixed (by kernel_rfl) I4 (List.length x0_given) (by rw [hI4]; refine ⟨x0_given, 0, rfl, Int.le_refl _, rfl, rfl, (show 4 ≤ 4 by omega), ?_, ?_, ?_, ?_, ?_, h⟩ <;> first | (simp only [ua, nm, seval] <;> rfl) | rfl) ?_
 rintro m ⟨tm, H, nx4, df⟩ hinv
 rw [hI4] at hinv
 obtain ⟨p4, c4_10, rfl, hi4, hp4, hdf, hn4, e6, e7, e8, e9, e10, h⟩ := hinv
 simp only at hdf hn4 e6 e7 e8 e9 e10
 have n11 := zbr (m := 4) (b := nx4) (by omega)
 subst hdf hf4
 cases p4 with
 | nil =>
  have d12 : (decide (c4_10 < (List.length x0_given : Int))) = false := zaf hi4 hp4
  simp only [zdh, hs, reduceCtorEq] at h
  replace h := kG4 _ h
  try dsimp only at h
  try simp only [hs] at h
  try simp only [vz, tyf, g5, n11, e6, e7, e8, e9, e10, d12, nm, seval]
  obtain rfl := kF _ h
  exact zae Tryz.results117 rfl
 | cons e4 p4 =>
  have d13 : (decide (c4_10 < (List.length x0_given : Int))) = true := zao hi4 hp4
  have o15 := zad hi4 hp4
  have w14 := zat hi4 hp4 g5
  simp only [zdh, hs, reduceCtorEq] at h
  simp only [vz, tyf, g5, n11, e6, e7, e8, e9, e10, d13, (ix23 o15), w14, nm, seval]
  refine zbl (fun tm => tm 0 = .sl (cellsL eI x0_given) (List.length x0_given) false ∧ tm 1 = .sl (cellsL eI x1_plan) (List.length x1_plan) false ∧ tm 2 = .lit (.int .i64 x2_day) ∧ tm 7 = .lit (.int .i64 c4_10) ∧ tm 9 = .lit (.int .i64 (List.length x0_given : Int)) ∧ tm 10 = .lit (.int .i64 c4_10) ∧ True) (by refine ⟨e6, e7, e8, ?_, e9, e10, trivial⟩ <;> first | (simp only [ua, n11, e6, e7, e8, e9, e10, d13, w14, nm, seval] <;> rfl) | rfl) ?_
  rintro tm ⟨e16, e17, e18, e19, e20, e21, _⟩
  rcases o23 : (getI x1_plan c4_10) with _ | x22
  ·simp only [o23, hs] at h
   exact absurd h kN4
  simp only [o23, hs] at h
  cases d24 : (decide ((if x22 < e4 then x22 else e4) < x2_day))
  ·simp only [d24, hs] at h
   simp only [vz, tyf, g5, n11, d13, (ix23 o15), w14, e16, e17, e18, e19, e20, e21, (ix23 o23), d24, nm, seval]
   exact ⟨List.length p4, Nat.lt_succ_self _, by rw [hI4]; refine ⟨p4, c4_10 + 1, rfl, Int.le_trans hi4 (Int.le_add_one (Int.le_refl _)), zac hi4 hp4, rfl, (show 4 ≤ nx4 + 27 by omega), e16, e17, e18, e20, ?_, h⟩ <;> first | (simp only [ua, n11, d13, w14, e16, e17, e18, e19, e20, e21, d24, nm, seval] <;> rfl) | rfl⟩
  simp only [d24, hs] at h
  cases d25 : (e4 != x22)
  ·simp only [d25, hs] at h
   simp only [vz, tyf, g5, n11, d13, (ix23 o15), w14, e16, e17, e18, e19, e20, e21, (ix23 o23), d24, d25, nm, seval]
   exact ⟨List.length p4, Nat.lt_succ_self _, by rw [hI4]; refine ⟨p4, c4_10 + 1, rfl, Int.le_trans hi4 (Int.le_add_one (Int.le_refl _)), zac hi4 hp4, rfl, (show 4 ≤ nx4 + 27 by omega), e16, e17, e18, e20, ?_, h⟩ <;> first | (simp only [ua, n11, d13, w14, e16, e17, e18, e19, e20, e21, d24, d25, nm, seval] <;> rfl) | rfl⟩
  simp only [d25, hs] at h
  try simp only [vz, tyf, g5, n11, d13, (ix23 o15), w14, e16, e17, e18, e19, e20, e21, (ix23 o23), d24, d25, nm, seval]
  replace h := kR4 _ h
  try dsimp only at h
  obtain rfl := kF _ h
  exact zae Tryz.results117 rfl
end Go.V
end
section
namespace Go.V
open Go Go.Proofs
def zbv (x0_plan : List Int) (x1_a1 : List Int) (x2_a2 : Int) : Option (Bool) := Option.bind (zfv x1_a1 x0_plan x2_a2) (fun r1 => some r1)
theorem zgt (x0_plan : List Int) (x1_a1 : List Int) (x2_a2 : Int) (R : Bool) (h : zbv x0_plan x1_a1 x2_a2 = some R) : VPure Tryz.prog G0 116 [.sl (cellsL eI x0_plan) (List.length x0_plan) false, .tp ([.sl (cellsL eI x1_a1) (List.length x1_a1) false]), .tp ([.lit (.int .i64 x2_a2)])] (.tree (.lit (.bool R))) := by
 refine VPure.runR mixed Tryz.call116 Tryz.func116 rfl (by simp [Tryz.ntmps116]; kernel_rfl) ?_
 obtain ⟨KF, h, kF, kN⟩ := zan h
 simp only [zbv] at h
 rcases o3 : (zfv x1_a1 x0_plan x2_a2) with _ | r2
 ·simp only [o3, hs] at h
  exact absurd h kN
 simp only [o3, hs] at h
 simp only [vz, tyf, nm, seval]
 refine ktree (args0 := [.sl (cellsL eI x1_a1) (List.length x1_a1) false, .sl (cellsL eI x0_plan) (List.length x0_plan) false, .lit (.int .i64 x2_a2)]) (by first | (simp only [nrm, tynrm] <;> rfl) | rfl) (by simp only [tre, tytre, Bool.and_self]) (zol _ _ _ _ o3) ?_
 refine zam (fun tm => tm 8 = .lit (.bool r2) ∧ True) (by refine ⟨?_, trivial⟩ <;> first | (simp only [ua, nm, seval] <;> rfl) | rfl) ?_
 rintro tm ⟨e4, _⟩
 try simp only [vz, tyf, e4, nm, seval]
 obtain rfl := kF _ h
 exact zae Tryz.results116 rfl
end Go.V
end
section
namespace Go.V
open Go Go.Proofs
set_option linter.unusedSimpArgs false
set_option linter.unusedVariables false
set_option maxRecDepth 4000
set_option maxHeartbeats 4000000
def zcr (x : Gcoatsums) (g : List Int) (d : Int) : Option (List (List Int)) := Option.bind (zdo x) fun L => filterO (fun q => zbv q g d) L
theorem zjg (x : Gcoatsums) (g : List Int) (d : Int) (R : List (List Int)) (h : zcr x g d = some R) : ∃ itv : VV, itv.tree = true ∧ VPure Tryz.prog G0 79 [.agg (cGcoatsums x), sI g, .lit (.int .i64 d)] (.tree itv) ∧ Iter Tryz.prog G0 itv (R.map sI) := by
 unfold zcr at h
 rcases o1 : zdo x with _ | L
 ·rw [o1] at h; cases h
 rw [o1, Option.bind_some] at h
 obtain ⟨itv, hti, hp, hit⟩ := zmk x L o1
 have hg : treeL (cellsL eI g) = true := eI_ok.treeL g
 have hmt : treeL [VV.tp [sI g], VV.tp [.lit (.int .i64 d)]] = true := by simp [treeL, VV.tree, hg]
 have hwi := zaen (bf := 116) (mc := [.tp [sI g], .tp [.lit (.int .i64 d)]]) hit hmt (f := fun q => zbv q g d) (fun a t ha => zgt a g d t ha) h
 have hwo := zakw (bf := 116) (mc := [.tp [sI g], .tp [.lit (.int .i64 d)]]) hit hti hmt
 refine ⟨_, by simp [VV.tree, treeL, hg, hti], ?_, hwi⟩
 refine VPure.run mixed Tryz.call79 Tryz.func79 rfl (by simp [Tryz.ntmps79]; kernel_rfl) ?_
 simp only [vz, tyf, seval, ua, rg]
 refine ktree (args0 := [.agg (cGcoatsums x)]) (by first | (simp only [nrm, tynrm] <;> rfl) | rfl) (by simp only [tre, tytre, Bool.and_self]) hp ?_
 simp only [vz, tyf, seval, ua, rg]
 refine kopen ?_
 rw [zku]
 refine VOpen.mono (VOpen.freezeN [1, 2] ?_ (args' := [itv, .fn (.func 116) [] [.tp [sI g], .tp [.lit (.int .i64 d)]]]) ⟨.same, Frozen.closure [(1, [sI g]), (2, [.lit (.int .i64 d)])] 5 (by simp) ?_, trivial⟩ (VOpen.of_pure hwo (by simp [VV.tree, treeL, hg, hti]))) ?_ (fun _ _ _ h => h.elim)
 ·intro γ hγ
  rcases List.mem_cons.1 hγ with rfl | hγ
  ·exact ⟨some 23, [sI g], by simp [updH]⟩
  rw [List.mem_singleton.1 hγ]
  exact ⟨some 3, [.lit (.int .i64 d)], by simp [updH]⟩
 ·intro p hp
  rcases List.mem_cons.1 hp with rfl | hp
  ·exact ⟨⟨some 23, by simp [updH]⟩, by simp [lessN], by simp [treeL, VV.tree, hg], by simp⟩
  rw [List.mem_singleton.1 hp]
  exact ⟨⟨some 3, by simp [updH]⟩, by simp [lessN], by simp [treeL, VV.tree], by simp⟩
 rintro v H2 nx2 ⟨rfl, rfl, rfl⟩
 simp only [vz, tyf, seval, ua]
 refine ⟨rfl, .fn (.func 148) [] [.tp [itv], .tp [.fn (.func 116) [] [.tp [sI g], .tp [.lit (.int .i64 d)]]]], by simp [Tryz.results79, resV, resL, resV1, upd], 2, ?_⟩
 simp [sealV, VV.tree, treeL, hg, hti]
end Go.V
end
section
namespace Go.V
open Go Go.Proofs
set_option linter.unusedSimpArgs false
set_option linter.unusedVariables false
set_option maxRecDepth 4000
set_option maxHeartbeats 4000000
def bestO (better : List Int → List Int → Option Bool) : List (List Int) → List Int × Bool → Option (List Int × Bool)
 | [], acc => some acc
 | x :: L, acc => cond acc.2 (Option.bind (better x acc.1) fun t => bestO better L (cond t (x, true) acc)) (bestO better L (x, true))
theorem zagz {itv : VV} {bf : Nat} {mc : List VV} {L : List (List Int)} (hit : Iter Tryz.prog G0 itv (L.map sI)) (hmt : treeL mc = true) {better : List Int → List Int → Option Bool}
  (hb : ∀ a b t, better a b = some t → VPure Tryz.prog G0 bf (sI a :: sI b :: mc) (.tree (.lit (.bool t)))) (R : List Int × Bool) (h : bestO better L ([], false) = some R) :
  VPure Tryz.prog G0 68 [itv, .fn (.func bf) [] mc] (.tree (.tup [sI R.1, .lit (.bool R.2)])) := by
 refine VPure.runR mixed Tryz.call68 Tryz.func68 rfl (by simp [Tryz.ntmps68]; kernel_rfl) ?_
 simp only [vz, tyf, seval, ua, rg]
 refine ziw (fun tm => tm 9 = itv ∧ tm 3 = .ptr 0 0 ∧ tm 6 = .ptr 3 0 ∧ tm 7 = .ptr 4 0) (by refine ⟨?_, ?_, ?_, ?_⟩ <;> simp only [ua, seval]) ?_
 rintro tm ⟨e9, e3, e6, e7⟩
 refine zsy hit (by first | (simp only [zhm, zfn, e9, zco, seval] <;> rfl) | rfl) ?_
 intro LO hLO
 obtain ⟨J, hJ⟩ : ∃ J : Option (List VV) → List (Nat × VObj) → Prop, J = (fun o hp => match o with
  | some l => ∃ (p : List (List Int)) (r : List Int) (fd : Bool) (y : VV), l = p.map sI ∧ hp = [(7, .deferred (some [])), (8, LO), (0, .cells (some 36) [.fn (.func bf) [] mc]), (3, .cells (some 23) [y]), (4, .cells (some 4) [.lit (.bool fd)])] ∧ ((fd = true ∧ y = sI r) ∨ (fd = false ∧ y = .lit (.slice none 0 0) ∧ r = [])) ∧ bestO better p (r, fd) = some R
  | none => False) := ⟨_, rfl⟩
 refine ⟨ownI J, zzt, ?_, ?_, ?_⟩
 ·rintro v rest Fr H nx hFr ⟨hp, hown, hj⟩
  rw [hJ] at hj
  obtain ⟨p, r, fd, y, hl, rfl, hy, hR⟩ := hj
  cases p with
  | nil => cases hl
  | cons e p =>
  simp only [List.map_cons, List.cons.injEq] at hl
  obtain ⟨rfl, rfl⟩ := hl
  obtain ⟨l7, n7, H7⟩ := hown.head
  obtain ⟨l8, n8, H8⟩ := hown.tail.head
  obtain ⟨l0, n0, H0⟩ := hown.tail.tail.head
  obtain ⟨l3, n3, H3⟩ := hown.tail.tail.tail.head
  obtain ⟨l4, n4, H4⟩ := hown.tail.tail.tail.tail.head
  refine zpk mixed (psl := [10]) hLO H8 ztl rfl (by kernel_rfl) (by kernel_rfl) ?_
  intro LB LD hLB hLD
  refine zwk (fun tm => tm 10 = sI e ∧ tm 3 = .ptr 0 0 ∧ tm 6 = .ptr 3 0 ∧ tm 7 = .ptr 4 0) (by refine ⟨?_, ?_, ?_, ?_⟩ <;> simp only [zacg, zwb, Tryz.ntmps68, e3, e6, e7, seval]) ?_
  clear e9 e3 e6 e7
  rintro tm ⟨e10, e3, e6, e7⟩
  unfold bestO at hR
  rcases hy with ⟨rfl, rfl⟩ | ⟨rfl, rfl, rfl⟩
  ·simp only [cond_true] at hR
   rcases hbt : better e r with _ | t
   ·rw [hbt] at hR; cases hR
   rw [hbt, Option.bind_some] at hR
   simp only [vz, tyf, seval, ua, nm, rg, RStart, e10, e3, e6, e7, H8, H0, H3, H4, Bool.not_true]
   refine ktreeR ?_ (hb e r t hbt) ?_
   ·have h1 : treeL (cellsL eI e) = true := eI_ok.treeL e
    have h2 : treeL (cellsL eI r) = true := eI_ok.treeL r
    simp [treeL, VV.tree, h1, h2, hmt]
   cases t with
   | true =>
    simp only [vz, tyf, seval, ua, nm, rg, RStart, e10, e3, e6, e7, H8, H0, H3, H4]
    refine ⟨by simp only [zab, seval], (show nx ≤ nx + 12 by omega), fun γ hγ => ?_, ?_⟩
    ·have g8 : γ ≠ 8 := fun e => n8 (e ▸ hγ)
     have g3 : γ ≠ 3 := fun e => n3 (e ▸ hγ)
     have g4 : γ ≠ 4 := fun e => n4 (e ▸ hγ)
     simp only [updH]
     repeat rw [if_neg (by first | assumption | omega)]
    ·simp only [if_true]
     refine ⟨[(7, .deferred (some [])), (8, LO), (0, .cells (some 36) [.fn (.func bf) [] mc]), (3, .cells (some 23) [sI e]), (4, .cells (some 4) [.lit (.bool true)])], Own.cons (show 7 < nx + 12 by omega) n7 ?_ (Own.cons (show 8 < nx + 12 by omega) n8 ?_ (Own.cons (show 0 < nx + 12 by omega) n0 ?_ (Own.cons (show 3 < nx + 12 by omega) n3 ?_ (Own.cons (show 4 < nx + 12 by omega) n4 ?_ (Own.nil))))), ?_⟩
     rotate_left 5
     ·rw [hJ]
      exact ⟨p, e, true, sI e, rfl, rfl, .inl ⟨rfl, rfl⟩, hR⟩
     all_goals simp only [zab, seval, H7, H0, H3, H4]
   | false =>
    simp only [vz, tyf, seval, ua, nm, rg, RStart, e10, e3, e6, e7, H8, H0, H3, H4]
    refine ⟨by simp only [zab, seval], (show nx ≤ nx + 9 by omega), fun γ hγ => ?_, ?_⟩
    ·have g8 : γ ≠ 8 := fun e => n8 (e ▸ hγ)
     have g3 : γ ≠ 3 := fun e => n3 (e ▸ hγ)
     have g4 : γ ≠ 4 := fun e => n4 (e ▸ hγ)
     simp only [updH]
     repeat rw [if_neg (by first | assumption | omega)]
    ·simp only [if_true]
     refine ⟨[(7, .deferred (some [])), (8, LO), (0, .cells (some 36) [.fn (.func bf) [] mc]), (3, .cells (some 23) [sI r]), (4, .cells (some 4) [.lit (.bool true)])], Own.cons (show 7 < nx + 9 by omega) n7 ?_ (Own.cons (show 8 < nx + 9 by omega) n8 ?_ (Own.cons (show 0 < nx + 9 by omega) n0 ?_ (Own.cons (show 3 < nx + 9 by omega) n3 ?_ (Own.cons (show 4 < nx + 9 by omega) n4 ?_ (Own.nil))))), ?_⟩
     rotate_left 5
     ·rw [hJ]
      exact ⟨p, r, true, sI r, rfl, rfl, .inl ⟨rfl, rfl⟩, hR⟩
     all_goals simp only [zab, seval, H7, H0, H3, H4]
  ·simp only [cond_false] at hR
   simp only [vz, tyf, seval, ua, nm, rg, RStart, e10, e3, e6, e7, H8, H0, H3, H4, Bool.not_false]
   refine ⟨by simp only [zab, seval], (show nx ≤ nx + 12 by omega), fun γ hγ => ?_, ?_⟩
   ·have g8 : γ ≠ 8 := fun e => n8 (e ▸ hγ)
    have g3 : γ ≠ 3 := fun e => n3 (e ▸ hγ)
    have g4 : γ ≠ 4 := fun e => n4 (e ▸ hγ)
    simp only [updH]
    repeat rw [if_neg (by first | assumption | omega)]
   ·simp only [if_true]
    refine ⟨[(7, .deferred (some [])), (8, LO), (0, .cells (some 36) [.fn (.func bf) [] mc]), (3, .cells (some 23) [sI e]), (4, .cells (some 4) [.lit (.bool true)])], Own.cons (show 7 < nx + 12 by omega) n7 ?_ (Own.cons (show 8 < nx + 12 by omega) n8 ?_ (Own.cons (show 0 < nx + 12 by omega) n0 ?_ (Own.cons (show 3 < nx + 12 by omega) n3 ?_ (Own.cons (show 4 < nx + 12 by omega) n4 ?_ (Own.nil))))), ?_⟩
    rotate_left 5
    ·rw [hJ]
     exact ⟨p, e, true, sI e, rfl, rfl, .inl ⟨rfl, rfl⟩, hR⟩
    all_goals simp only [zab, seval, H7, H0, H3, H4]
 ·refine ⟨[(7, .deferred (some [])), (8, LO), (0, .cells (some 36) [.fn (.func bf) [] mc]), (3, .cells (some 23) [.lit (.slice none 0 0)]), (4, .cells (some 4) [.lit (.bool false)])], Own.cons (show 7 < 9 by omega) (fun h => h) ?_ (Own.cons (show 8 < 9 by omega) (fun h => h) ?_ (Own.cons (show 0 < 9 by omega) (fun h => h) ?_ (Own.cons (show 3 < 9 by omega) (fun h => h) ?_ (Own.cons (show 4 < 9 by omega) (fun h => h) ?_ (Own.nil))))), ?_⟩
  rotate_left 5
  ·rw [hJ]
   exact ⟨L, [], false, .lit (.slice none 0 0), rfl, rfl, .inr ⟨rfl, rfl, rfl⟩, h⟩
  all_goals simp only [zab, seval]
 ·rintro H' nx' (⟨hp, hown, hj⟩ | ⟨hp, hown, hj⟩)
  ·rw [hJ] at hj
   obtain ⟨p, r, fd, y, hl, rfl, hy, hR⟩ := hj
   cases p with
   | cons e p => cases hl
   | nil =>
   simp only [bestO, Option.some.injEq] at hR
   subst hR
   obtain ⟨l7, n7, H7⟩ := hown.head
   obtain ⟨l8, n8, H8⟩ := hown.tail.head
   obtain ⟨l0, n0, H0⟩ := hown.tail.tail.head
   obtain ⟨l3, n3, H3⟩ := hown.tail.tail.tail.head
   obtain ⟨l4, n4, H4⟩ := hown.tail.tail.tail.tail.head
   refine zpw hLO H8 ?_
   intro LX
   simp only [vz, tyf, seval, ua, nm, rg, e6, e7, H3, H4]
   refine zbl (fun tm => tm 6 = .ptr 3 0 ∧ tm 7 = .ptr 4 0) ⟨e6, e7⟩ ?_
   clear e9 e3 e6 e7
   rintro tm ⟨e6, e7⟩
   simp only [vz, tyf, seval, ua, nm, rg, e6, e7, H3, H4]
   refine zaep (by simp only [zab, seval, H7]) ?_
   refine zbt (x := .tup [y, .lit (.bool fd)]) (by simp only [Tryz.results68, resV, resL, resV1, zcq, zev, uw, cr, tyf, nm, seval] <;> rfl) ?_
   have hs := eI_ok.treeL r
   rcases hy with ⟨rfl, rfl⟩ | ⟨rfl, rfl, rfl⟩
   ·refine zcv (by simp only [tre, tytre, hs, Bool.and_self]) ?_
    simp only [outV, nrm, seval, List.map_cons, List.map_nil]
   ·refine zcv (by simp only [tre, tytre, Bool.and_self]) ?_
    simp only [outV, nrm, seval, List.map_cons, List.map_nil, zaj, List.length_nil]
    rfl
  ·rw [hJ] at hj
   exact hj.elim
end Go.V
end
section
namespace Go.V
open Go Go.Proofs
def zes (x0_s : GCoatSheet) (x1_day : Int) : Option (Bool) := Option.bind (zau 0 x1_day (IntKind.i64.wrap ((List.length x0_s.Dry : Int) - 1))) (fun r1 => some r1)
theorem zlz (x0_s : GCoatSheet) (x1_day : Int) (R : Bool) (h : zes x0_s x1_day = some R) : VPure Tryz.prog G0 78 [.agg (cGCoatSheet x0_s), .lit (.int .i64 x1_day)] (.tree (.lit (.bool R))) := by
 refine VPure.runR mixed Tryz.call78 Tryz.func78 rfl (by simp [Tryz.ntmps78]; kernel_rfl) ?_
 obtain ⟨KF, h, kF, kN⟩ := zan h
 simp only [zes] at h
 rcases o3 : (zau 0 x1_day (IntKind.i64.wrap ((List.length x0_s.Dry : Int) - 1))) with _ | r2
 ·simp only [o3, hs] at h
  exact absurd h kN
 simp only [o3, hs] at h
 simp only [vz, tyf, nm, seval]
 refine ktree (args0 := [.lit (.int .i64 0), .lit (.int .i64 x1_day), .lit (.int .i64 (IntKind.i64.wrap ((List.length x0_s.Dry : Int) - 1)))]) (by first | (simp only [nrm, tynrm] <;> rfl) | rfl) (by simp only [tre, tytre, Bool.and_self]) (zct _ _ _ _ o3) ?_
 refine zam (fun tm => tm 10 = .lit (.bool r2) ∧ True) (by refine ⟨?_, trivial⟩ <;> first | (simp only [ua, nm, seval] <;> rfl) | rfl) ?_
 rintro tm ⟨e4, _⟩
 try simp only [vz, tyf, e4, nm, seval]
 obtain rfl := kF _ h
 exact zae Tryz.results78 rfl
end Go.V
end
section
namespace Go.V
open Go Go.Proofs
def zcp (x1_plan : List Int) : List Int → Int → Int → Option (LOut (Int) (Int))
 | [], c0_9, c0_5 => some (.go c0_5)
 | e0 :: p0, c0_9, c0_5 => Option.bind (getI x1_plan c0_9) (fun x1 => cond (e0 != x1) (zcp x1_plan p0 (c0_9 + 1) (IntKind.i64.wrap (c0_5 + 1))) (zcp x1_plan p0 (c0_9 + 1) c0_5))
def zby (x0_given : List Int) (x1_plan : List Int) : Option (Int) := cond (lenOk x0_given) (lbind (zcp x1_plan x0_given 0 0) (fun r3 => some r3) (fun c2 => some c2) (fun _ _ => none)) none
theorem zgh (x0_given : List Int) (x1_plan : List Int) (R : Int) (h : zby x0_given x1_plan = some R) : VPure Tryz.prog G0 81 [.sl (cellsL eI x0_given) (List.length x0_given) false, .sl (cellsL eI x1_plan) (List.length x1_plan) false] (.tree (.lit (.int .i64 R))) := by
 refine VPure.runR mixed Tryz.call81 Tryz.func81 rfl (by simp [Tryz.ntmps81]; kernel_rfl) ?_
 obtain ⟨KF, h, kF, kN⟩ := zan h
 simp only [zby] at h
 cases g5 : (lenOk x0_given)
 ·simp only [g5, hs] at h
  exact absurd h kN
 simp only [g5, hs] at h
 simp only [vz, tyf, g5, nm, seval]
 obtain ⟨K4, h, kR4, kG4, kB4, kN4⟩ := zap h kN
 obtain ⟨f4, hf4, h⟩ := call3 h
 obtain ⟨I4, hI4⟩ : ∃ I : Nat → St → Prop, I = (fun m st => ∃ (p4 : List Int) (c4_9 : Int) (c4_5 : Int), m = List.length p4 ∧ 0 ≤ c4_9 ∧ List.drop (Int.toNat c4_9) x0_given = p4 ∧ st.df = [] ∧ 5 ≤ st.nx ∧ st.tm 0 = .sl (cellsL eI x0_given) (List.length x0_given) false ∧ st.tm 1 = .sl (cellsL eI x1_plan) (List.length x1_plan) false ∧ st.tm 8 = .lit (.int .i64 (List.length x0_given : Int)) ∧ st.tm 5 = .lit (.int .i64 c4_5) ∧ st.tm 9 = .lit (.int .i64 c4_9) ∧ K4 (f4 p4 c4_9 c4_5)) := ⟨_, rfl⟩
 refine loopK mixed (by kernel_rfl) I4 (List.length x0_given) (by rw [hI4]; refine ⟨x0_given, 0, 0, rfl, Int.le_refl _, rfl, rfl, (show 5 ≤ 5 by omega), ?_, ?_, ?_, ?_, ?_, h⟩ <;> first | (simp only [ua, nm, seval] <;> rfl) | rfl) ?_
 rintro m ⟨tm, H, nx4, df⟩ hinv
 rw [hI4] at hinv
 obtain ⟨p4, c4_9, c4_5, rfl, hi4, hp4, hdf, hn4, e6, e7, e8, e9, e10, h⟩ := hinv
 simp only at hdf hn4 e6 e7 e8 e9 e10
 have n11 := zbr (m := 5) (b := nx4) (by omega)
 subst hdf hf4
 cases p4 with
 | nil =>
  have d12 : (decide (c4_9 < (List.length x0_given : Int))) = false := zaf hi4 hp4
  simp only [zcp, hs, reduceCtorEq] at h
  replace h := kG4 _ h
  try dsimp only at h
  try simp only [hs] at h
  try simp only [vz, tyf, g5, n11, e6, e7, e8, e9, e10, d12, nm, seval]
  refine zbt (x := (.lit (.int .i64 c4_5))) (by first | (simp only [Tryz.results81, resV, resL, resV1, zcq, zev, uw, cr, tyf, g5, n11, d12, nm, seval] <;> rfl) | rfl) ?_
  obtain rfl := kF _ h
  refine zcv ?_ ?_
  ·simp only [tre, tytre, Bool.and_self]
  ·first | (simp only [outV, uw, zba, cr, tyf, nrm, tynrm, g5, n11, e6, e7, e8, e9, e10, d12, nm, seval] <;> rfl) | rfl
 | cons e4 p4 =>
  have d13 : (decide (c4_9 < (List.length x0_given : Int))) = true := zao hi4 hp4
  have o15 := zad hi4 hp4
  have w14 := zat hi4 hp4 g5
  simp only [zcp, hs, reduceCtorEq] at h
  simp only [vz, tyf, g5, n11, e6, e7, e8, e9, e10, d13, (ix23 o15), w14, nm, seval]
  refine zbl (fun tm => tm 0 = .sl (cellsL eI x0_given) (List.length x0_given) false ∧ tm 1 = .sl (cellsL eI x1_plan) (List.length x1_plan) false ∧ tm 5 = .lit (.int .i64 c4_5) ∧ tm 6 = .lit (.int .i64 c4_9) ∧ tm 8 = .lit (.int .i64 (List.length x0_given : Int)) ∧ tm 9 = .lit (.int .i64 c4_9) ∧ True) (by refine ⟨e6, e7, e9, ?_, e8, e10, trivial⟩ <;> first | (simp only [ua, n11, e6, e7, e8, e9, e10, d13, w14, nm, seval] <;> rfl) | rfl) ?_
  rintro tm ⟨e16, e17, e18, e19, e20, e21, _⟩
  rcases o23 : (getI x1_plan c4_9) with _ | x22
  ·simp only [o23, hs] at h
   exact absurd h kN4
  simp only [o23, hs] at h
  cases d24 : (e4 != x22)
  ·simp only [d24, hs] at h
   simp only [vz, tyf, g5, n11, d13, (ix23 o15), w14, e16, e17, e18, e19, e20, e21, (ix23 o23), d24, nm, seval]
   exact ⟨List.length p4, Nat.lt_succ_self _, by rw [hI4]; refine ⟨p4, c4_9 + 1, c4_5, rfl, Int.le_trans hi4 (Int.le_add_one (Int.le_refl _)), zac hi4 hp4, rfl, (show 5 ≤ nx4 + 14 by omega), e16, e17, e20, e18, ?_, h⟩ <;> first | (simp only [ua, n11, d13, w14, e16, e17, e18, e19, e20, e21, d24, nm, seval] <;> rfl) | rfl⟩
  simp only [d24, hs] at h
  simp only [vz, tyf, g5, n11, d13, (ix23 o15), w14, e16, e17, e18, e19, e20, e21, (ix23 o23), d24, nm, seval]
  exact ⟨List.length p4, Nat.lt_succ_self _, by rw [hI4]; refine ⟨p4, c4_9 + 1, IntKind.i64.wrap (c4_5 + 1), rfl, Int.le_trans hi4 (Int.le_add_one (Int.le_refl _)), zac hi4 hp4, rfl, (show 5 ≤ nx4 + 17 by omega), e16, e17, e20, ?_, ?_, h⟩ <;> first | (simp only [ua, n11, d13, w14, e16, e17, e18, e19, e20, e21, d24, nm, seval] <;> rfl) | rfl⟩
end Go.V
end
section
namespace Go.V
open Go Go.Proofs
def zde (x0_a : List Int) (x1_b : List Int) (x2_a2 : List Int) : Option (Bool) := Option.bind (zby x2_a2 x0_a) (fun r1 => Option.bind (zby x2_a2 x1_b) (fun r2 => some (decide (r1 < r2))))
theorem znh (x0_a : List Int) (x1_b : List Int) (x2_a2 : List Int) (R : Bool) (h : zde x0_a x1_b x2_a2 = some R) : VPure Tryz.prog G0 80 [.sl (cellsL eI x0_a) (List.length x0_a) false, .sl (cellsL eI x1_b) (List.length x1_b) false, .tp ([.sl (cellsL eI x2_a2) (List.length x2_a2) false])] (.tree (.lit (.bool R))) := by
 refine VPure.runR mixed Tryz.call80 Tryz.func80 rfl (by simp [Tryz.ntmps80]; kernel_rfl) ?_
 obtain ⟨KF, h, kF, kN⟩ := zan h
 simp only [zde] at h
 simp only [vz, tyf, nm, seval]
 refine zbl (fun tm => tm 0 = .sl (cellsL eI x0_a) (List.length x0_a) false ∧ tm 1 = .sl (cellsL eI x1_b) (List.length x1_b) false ∧ tm 2 = .tp ([.sl (cellsL eI x2_a2) (List.length x2_a2) false]) ∧ True) (by refine ⟨?_, ?_, ?_, trivial⟩ <;> first | (simp only [ua, nm, seval] <;> rfl) | rfl) ?_
 rintro tm ⟨e3, e4, e5, _⟩
 rcases o7 : (zby x2_a2 x0_a) with _ | r6
 ·simp only [o7, hs] at h
  exact absurd h kN
 simp only [o7, hs] at h
 simp only [vz, tyf, e3, e4, e5, nm, seval]
 refine dktree (args0 := [.sl (cellsL eI x2_a2) (List.length x2_a2) false, .sl (cellsL eI x0_a) (List.length x0_a) false]) (by first | (simp only [nrm, tynrm] <;> rfl) | rfl) (by simp only [tre, tytre, Bool.and_self]) (zgh _ _ _ o7) ?_
 refine zam (fun tm => tm 1 = .sl (cellsL eI x1_b) (List.length x1_b) false ∧ tm 2 = .tp ([.sl (cellsL eI x2_a2) (List.length x2_a2) false]) ∧ tm 8 = .lit (.int .i64 r6) ∧ True) (by refine ⟨e4, e5, ?_, trivial⟩ <;> first | (simp only [ua, e3, e4, e5, nm, seval] <;> rfl) | rfl) ?_
 rintro tm ⟨e8, e9, e10, _⟩
 rcases o12 : (zby x2_a2 x1_b) with _ | r11
 ·simp only [o12, hs] at h
  exact absurd h kN
 simp only [o12, hs] at h
 simp only [vz, tyf, e8, e9, e10, nm, seval]
 refine dktree (args0 := [.sl (cellsL eI x2_a2) (List.length x2_a2) false, .sl (cellsL eI x1_b) (List.length x1_b) false]) (by first | (simp only [nrm, tynrm] <;> rfl) | rfl) (by simp only [tre, tytre, Bool.and_self]) (zgh _ _ _ o12) ?_
 refine zam (fun tm => tm 8 = .lit (.int .i64 r6) ∧ tm 11 = .lit (.int .i64 r11) ∧ True) (by refine ⟨e10, ?_, trivial⟩ <;> first | (simp only [ua, e8, e9, e10, nm, seval] <;> rfl) | rfl) ?_
 rintro tm ⟨e13, e14, _⟩
 try simp only [vz, tyf, e13, e14, nm, seval]
 obtain rfl := kF _ h
 exact zae Tryz.results80 rfl
end Go.V
end
section
namespace Go.V
open Go Go.Proofs
def zdw (s : GCoatSheet) (p : List Int) (d : Int) : Option (List Int × Int × Int) := Option.bind (zdu s) fun b1 => cond b1 (Option.bind (zfj s p) fun b2 => cond b2 (Option.bind (zes s d) fun b3 => cond b3
 (Option.bind (zdq s) fun x => Option.bind (zcr x p d) fun L => Option.bind (bestO (fun a b => zde a b p) L ([], false)) fun r => cond r.2 (Option.bind (zby p r.1) fun n => some (r.1, n, 0)) (some ([], 0, 5)))
 (some ([], 0, 2))) (some ([], 0, 2))) (some ([], 0, 2))
theorem zqd (s : GCoatSheet) (p : List Int) (d : Int) (R : List Int × Int × Int) (h : zdw s p d = some R) : VPure Tryz.prog G0 41 [.agg (cGCoatSheet s), sI p, .lit (.int .i64 d)] (.tree (.tup [sI R.1, .lit (.int .i64 R.2.1), .lit (.int .i64 R.2.2)])) := by
 refine VPure.runRW Tryz.call41 Tryz.func41 rfl (by simp [Tryz.ntmps41]) ?_
 refine zaqc mixed (by kernel_rfl) ?_
 simp only [vz, tyf, seval, ua, rg]
 have ht1 : treeL (cGCoatSheet s) = true := zal.tree s
 have hpt : treeL (cellsL eI p) = true := eI_ok.treeL p
 refine VWp.freeze2 (a := 3) (b := 4) (γ := 0) (δ := 1) (e1 := some 26) (e2 := some 23) (c1 := cGCoatSheet s) (c2 := [sI p]) (by simp only [ua, seval, Nat.add_zero]) (by simp only [ua, seval]) (by simp only [ua, seval]; rfl) (by simp only [ua, seval]) ht1 (by simp [treeL, VV.tree, hpt]) (by intro x h0 h1; simp [updH, h0, h1]) ?_
 refine zaqo mixed (by kernel_rfl) ?_
 unfold zdw at h
 rcases o1 : zdu s with _ | b1
 ·rw [o1] at h; cases h
 rw [o1, Option.bind_some] at h
 simp only [vz, tyf, seval, ua, rg]
 refine ktree (args0 := [.agg (cGCoatSheet s)]) (by first | (simp only [nrm, tynrm] <;> rfl) | rfl) (by simp only [tre, tytre, Bool.and_self]) (zlu _ _ o1) ?_
 have hbad : R = ([], 0, 2) → ∀ (tm : Nat → VV) (H : Nat → Option VObj) (nx : Nat), tm 6 = .lit (.slice none 0 0) → tm 7 = .lit (.int .i64 0) → tm 8 = .lit (.int .i64 2) → OpenPostD Tryz.prog G0 Tryz.f41 (RR (.tree (.tup [sI R.1, .lit (.int .i64 R.2.1), .lit (.int .i64 R.2.2)]))) (RPn (.tree (.tup [sI R.1, .lit (.int .i64 R.2.1), .lit (.int .i64 R.2.2)]))) .ret ⟨tm, H, nx, []⟩ := by
  rintro rfl tm H nx h6 h7 h8
  refine zbt (x := .tup [.lit (.slice none 0 0), .lit (.int .i64 0), .lit (.int .i64 2)]) (by simp only [Tryz.results41, resV, resL, resV1, h6, h7, h8, nm, seval] <;> rfl) ?_
  refine zcv (by simp only [tre, tytre, Bool.and_self]) ?_
  simp only [outV, nrm, seval, List.map_cons, List.map_nil, zaj, List.length_nil]
  rfl
 cases b1 with
 | false =>
  simp only [cond_false, Option.some.injEq] at h
  simp only [vz, tyf, seval, ua, rg, Bool.not_false]
  exact hbad h.symm _ _ _ (by simp only [ua, seval]) (by simp only [ua, seval]) (by simp only [ua, seval])
 | true =>
 rw [cond_true] at h
 simp only [vz, tyf, seval, ua, rg, Bool.not_true]
 rcases o2 : zfj s p with _ | b2
 ·rw [o2] at h; cases h
 rw [o2, Option.bind_some] at h
 refine ktree (args0 := [.agg (cGCoatSheet s), sI p]) (by first | (simp only [nrm, tynrm] <;> rfl) | rfl) (by simp only [tre, tytre, Bool.and_self]) (znc _ _ _ o2) ?_
 cases b2 with
 | false =>
  simp only [cond_false, Option.some.injEq] at h
  simp only [vz, tyf, seval, ua, rg, Bool.not_false]
  exact hbad h.symm _ _ _ (by simp only [ua, seval]) (by simp only [ua, seval]) (by simp only [ua, seval])
 | true =>
 rw [cond_true] at h
 simp only [vz, tyf, seval, ua, rg, Bool.not_true]
 rcases o3 : zes s d with _ | b3
 ·rw [o3] at h; cases h
 rw [o3, Option.bind_some] at h
 refine ktree (args0 := [.agg (cGCoatSheet s), .lit (.int .i64 d)]) (by first | (simp only [nrm, tynrm] <;> rfl) | rfl) (by simp only [tre, tytre, Bool.and_self]) (zlz _ _ _ o3) ?_
 cases b3 with
 | false =>
  simp only [cond_false, Option.some.injEq] at h
  simp only [vz, tyf, seval, ua, rg, Bool.not_false]
  exact hbad h.symm _ _ _ (by simp only [ua, seval]) (by simp only [ua, seval]) (by simp only [ua, seval])
 | true =>
 rw [cond_true] at h
 simp only [vz, tyf, seval, ua, rg, Bool.not_true]
 rcases o4 : zdq s with _ | x
 ·rw [o4] at h; cases h
 rw [o4, Option.bind_some] at h
 rcases o5 : zcr x p d with _ | L
 ·rw [o5] at h; cases h
 rw [o5, Option.bind_some] at h
 rcases o6 : bestO (fun a b => zde a b p) L ([], false) with _ | r
 ·rw [o6] at h; cases h
 rw [o6, Option.bind_some] at h
 obtain ⟨itv, hti, hp, hit⟩ := zjg x p d L o5
 have hmt : treeL [VV.tp [sI p]] = true := by simp [treeL, VV.tree, hpt]
 have hbo := zagz (bf := 80) (mc := [.tp [sI p]]) hit hmt (better := fun a b => zde a b p) (fun a b t ht => znh a b p t ht) r o6
 refine zbl (fun tm => tm 2 = .lit (.int .i64 d) ∧ tm 3 = .tp (cGCoatSheet s) ∧ tm 4 = .tp [sI p]) (by refine ⟨?_, ?_, ?_⟩ <;> first | (simp only [ua, seval]; done) | (simp only [ua, seval]; rfl)) ?_
 rintro tm ⟨e2, e3, e4⟩
 simp only [vz, tyf, seval, ua, rg, e2, e3, e4]
 refine dktree (args0 := [.agg (cGCoatSheet s)]) (by first | (simp only [nrm, tynrm] <;> rfl) | rfl) (by simp only [tre, tytre, Bool.and_self]) (zob _ _ o4) ?_
 simp only [vz, tyf, seval, ua, rg, e2, e3, e4]
 refine dktree (args0 := [.agg (cGcoatsums x), sI p, .lit (.int .i64 d)]) (by first | (simp only [nrm, tynrm] <;> rfl) | rfl) (by simp only [tre, tytre, Bool.and_self]) hp ?_
 simp only [vz, tyf, seval, ua, rg, e2, e3, e4]
 refine .inl ⟨by simp [treeL, VV.tree, hpt, hti], .tree _, hbo, ?_⟩
 simp only [vz, tyf, seval, ua, rg, e2, e3, e4]
 obtain ⟨r1, r2⟩ := r
 cases r2 with
 | false =>
  simp only [cond_false, Option.some.injEq] at h
  subst h
  simp only [vz, tyf, seval, ua, rg, e2, e3, e4, Bool.not_false]
  refine zbt (x := .tup [.lit (.slice none 0 0), .lit (.int .i64 0), .lit (.int .i64 5)]) (by simp only [Tryz.results41, resV, resL, resV1, uw, nm, seval] <;> rfl) ?_
  refine zcv (by simp only [tre, tytre, Bool.and_self]) ?_
  simp only [outV, nrm, seval, List.map_cons, List.map_nil, zaj, List.length_nil]
  rfl
 | true =>
  simp only [cond_true] at h
  rcases o7 : zby p r1 with _ | n
  ·rw [o7] at h; cases h
  rw [o7, Option.bind_some, Option.some.injEq] at h
  subst h
  simp only [vz, tyf, seval, ua, rg, e2, e3, e4, Bool.not_true]
  refine ktree (args0 := [sI p, sI r1]) (by first | (simp only [nrm, tynrm] <;> rfl) | rfl) (by simp only [tre, tytre, Bool.and_self]) (zgh _ _ _ o7) ?_
  simp only [vz, tyf, seval, ua, rg, e2, e3, e4]
  refine zbt (x := .tup [sI r1, .lit (.int .i64 n), .lit (.int .i64 0)]) (by simp only [Tryz.results41, resV, resL, resV1, uw, nm, seval] <;> rfl) ?_
  refine zcv (by simp only [tre, tytre, Bool.and_self]) ?_
  simp only [outV, nrm, seval, List.map_cons, List.map_nil]
end Go.V
end
section
namespace Go.V
open Go Go.Proofs
def zca (x1_plan : List Int) (x2_day : Int) : List Int → Int → Option (LOut (Bool) (Unit))
 | [], c0_7 => some (.go ())
 | e0 :: p0, c0_7 => Option.bind (getI x1_plan c0_7) (fun x1 => cond (decide (x1 < x2_day)) (cond (e0 != x1) (some (.ret false)) (cond (decide (x1 ≥ x2_day)) (cond (decide (e0 < x2_day)) (some (.ret false)) (zca x1_plan x2_day p0 (c0_7 + 1))) (zca x1_plan x2_day p0 (c0_7 + 1)))) (cond (decide (x1 ≥ x2_day)) (cond (decide (e0 < x2_day)) (some (.ret false)) (zca x1_plan x2_day p0 (c0_7 + 1))) (zca x1_plan x2_day p0 (c0_7 + 1))))
def zen (x0_l : List Int) (x1_plan : List Int) (x2_day : Int) : Option (Bool) := cond (lenOk x0_l) (lbind (zca x1_plan x2_day x0_l 0) (fun r3 => some r3) (fun c2 => some true) (fun _ _ => none)) none
theorem ziy (x0_l : List Int) (x1_plan : List Int) (x2_day : Int) (R : Bool) (h : zen x0_l x1_plan x2_day = some R) : VPure Tryz.prog G0 44 [.sl (cellsL eI x0_l) (List.length x0_l) false, .sl (cellsL eI x1_plan) (List.length x1_plan) false, .lit (.int .i64 x2_day)] (.tree (.lit (.bool R))) := by
 refine VPure.runR mixed Tryz.call44 Tryz.func44 rfl (by simp [Tryz.ntmps44]; kernel_rfl) ?_
 obtain ⟨KF, h, kF, kN⟩ := zan h
 simp only [zen] at h
 cases g5 : (lenOk x0_l)
 ·simp only [g5, hs] at h
  exact absurd h kN
 simp only [g5, hs] at h
 simp only [vz, tyf, g5, nm, seval]
 obtain ⟨K4, h, kR4, kG4, kB4, kN4⟩ := zap h kN
 obtain ⟨f4, hf4, h⟩ := call2 h
 obtain ⟨I4, hI4⟩ : ∃ I : Nat → St → Prop, I = (fun m st => ∃ (p4 : List Int) (c4_7 : Int), m = List.length p4 ∧ 0 ≤ c4_7 ∧ List.drop (Int.toNat c4_7) x0_l = p4 ∧ st.df = [] ∧ 2 ≤ st.nx ∧ st.tm 0 = .sl (cellsL eI x0_l) (List.length x0_l) false ∧ st.tm 1 = .sl (cellsL eI x1_plan) (List.length x1_plan) false ∧ st.tm 2 = .lit (.int .i64 x2_day) ∧ st.tm 7 = .lit (.int .i64 c4_7) ∧ K4 (f4 p4 c4_7)) := ⟨_, rfl⟩
 refine loopK mixed (by kernel_rfl) I4 (List.length x0_l) (by rw [hI4]; refine ⟨x0_l, 0, rfl, Int.le_refl _, rfl, rfl, (show 2 ≤ 2 by omega), ?_, ?_, ?_, ?_, h⟩ <;> first | (simp only [ua, nm, seval] <;> rfl) | rfl) ?_
 rintro m ⟨tm, H, nx4, df⟩ hinv
 rw [hI4] at hinv
 obtain ⟨p4, c4_7, rfl, hi4, hp4, hdf, hn4, e6, e7, e8, e9, h⟩ := hinv
 simp only at hdf hn4 e6 e7 e8 e9
 have n10 := zbr (m := 2) (b := nx4) (by omega)
 subst hdf hf4
 cases p4 with
 | nil =>
  have d11 : (decide (c4_7 < (List.length x0_l : Int))) = false := zaf hi4 hp4
  simp only [zca, hs, reduceCtorEq] at h
  replace h := kG4 _ h
  try dsimp only at h
  try simp only [hs] at h
  try simp only [vz, tyf, g5, n10, e6, e7, e8, e9, d11, nm, seval]
  obtain rfl := kF _ h
  exact zae Tryz.results44 rfl
 | cons e4 p4 =>
  have d12 : (decide (c4_7 < (List.length x0_l : Int))) = true := zao hi4 hp4
  have o14 := zad hi4 hp4
  have w13 := zat hi4 hp4 g5
  simp only [zca, hs, reduceCtorEq] at h
  simp only [vz, tyf, g5, n10, e6, e7, e8, e9, d12, (ix23 o14), w13, nm, seval]
  refine zbl (fun tm => tm 0 = .sl (cellsL eI x0_l) (List.length x0_l) false ∧ tm 1 = .sl (cellsL eI x1_plan) (List.length x1_plan) false ∧ tm 2 = .lit (.int .i64 x2_day) ∧ tm 7 = .lit (.int .i64 c4_7) ∧ True) (by refine ⟨e6, e7, e8, e9, trivial⟩ <;> first | (simp only [ua, n10, e6, e7, e8, e9, d12, w13, nm, seval] <;> rfl) | rfl) ?_
  rintro tm ⟨e15, e16, e17, e18, _⟩
  rcases o20 : (getI x1_plan c4_7) with _ | x19
  ·simp only [o20, hs] at h
   exact absurd h kN4
  simp only [o20, hs] at h
  cases d21 : (decide (x19 < x2_day))
  ·simp only [d21, hs] at h
   cases d22 : (decide (x19 ≥ x2_day))
   ·simp only [d22, hs] at h
    simp only [vz, tyf, g5, n10, d12, (ix23 o14), w13, e15, e16, e17, e18, (ix23 o20), d21, d22, nm, seval]
    exact ⟨List.length p4, Nat.lt_succ_self _, by rw [hI4]; refine ⟨p4, c4_7 + 1, rfl, Int.le_trans hi4 (Int.le_add_one (Int.le_refl _)), zac hi4 hp4, rfl, (show 2 ≤ nx4 + 40 by omega), e15, e16, e17, ?_, h⟩ <;> first | (simp only [ua, n10, d12, w13, e15, e16, e17, e18, d21, d22, nm, seval] <;> rfl) | rfl⟩
   simp only [d22, hs] at h
   cases d23 : (decide (e4 < x2_day))
   ·simp only [d23, hs] at h
    have b24 := And.intro g5 (And.intro n10 (And.intro d12 (And.intro w13 (And.intro d21 (And.intro d22 d23)))))
    simp only [vz, tyf, b24, (ix23 o14), e15, e16, e17, e18, (ix23 o20), nm, seval]
    exact ⟨List.length p4, Nat.lt_succ_self _, by rw [hI4]; refine ⟨p4, c4_7 + 1, rfl, Int.le_trans hi4 (Int.le_add_one (Int.le_refl _)), zac hi4 hp4, rfl, (show 2 ≤ nx4 + 40 by omega), e15, e16, e17, ?_, h⟩ <;> first | (simp only [ua, b24, e15, e16, e17, e18, nm, seval] <;> rfl) | rfl⟩
   simp only [d23, hs] at h
   have b25 := And.intro g5 (And.intro n10 (And.intro d12 (And.intro w13 (And.intro d21 (And.intro d22 d23)))))
   try simp only [vz, tyf, b25, (ix23 o14), e15, e16, e17, e18, (ix23 o20), nm, seval]
   replace h := kR4 _ h
   try dsimp only at h
   obtain rfl := kF _ h
   exact zae Tryz.results44 rfl
  simp only [d21, hs] at h
  cases d26 : (e4 != x19)
  ·simp only [d26, hs] at h
   cases d27 : (decide (x19 ≥ x2_day))
   ·simp only [d27, hs] at h
    have b28 := And.intro g5 (And.intro n10 (And.intro d12 (And.intro w13 (And.intro d21 (And.intro d26 d27)))))
    simp only [vz, tyf, b28, (ix23 o14), e15, e16, e17, e18, (ix23 o20), nm, seval]
    exact ⟨List.length p4, Nat.lt_succ_self _, by rw [hI4]; refine ⟨p4, c4_7 + 1, rfl, Int.le_trans hi4 (Int.le_add_one (Int.le_refl _)), zac hi4 hp4, rfl, (show 2 ≤ nx4 + 40 by omega), e15, e16, e17, ?_, h⟩ <;> first | (simp only [ua, b28, e15, e16, e17, e18, nm, seval] <;> rfl) | rfl⟩
   simp only [d27, hs] at h
   have b29 := And.intro g5 (And.intro n10 (And.intro d12 (And.intro w13 (And.intro d21 (And.intro d26 d27)))))
   cases d30 : (decide (e4 < x2_day))
   ·simp only [d30, hs] at h
    simp only [vz, tyf, b29, (ix23 o14), e15, e16, e17, e18, (ix23 o20), d30, nm, seval]
    exact ⟨List.length p4, Nat.lt_succ_self _, by rw [hI4]; refine ⟨p4, c4_7 + 1, rfl, Int.le_trans hi4 (Int.le_add_one (Int.le_refl _)), zac hi4 hp4, rfl, (show 2 ≤ nx4 + 40 by omega), e15, e16, e17, ?_, h⟩ <;> first | (simp only [ua, b29, e15, e16, e17, e18, d30, nm, seval] <;> rfl) | rfl⟩
   simp only [d30, hs] at h
   try simp only [vz, tyf, b29, (ix23 o14), e15, e16, e17, e18, (ix23 o20), d30, nm, seval]
   replace h := kR4 _ h
   try dsimp only at h
   obtain rfl := kF _ h
   exact zae Tryz.results44 rfl
  simp only [d26, hs] at h
  try simp only [vz, tyf, g5, n10, d12, (ix23 o14), w13, e15, e16, e17, e18, (ix23 o20), d21, d26, nm, seval]
  replace h := kR4 _ h
  try dsimp only at h
  obtain rfl := kF _ h
  exact zae Tryz.results44 rfl
end Go.V
end
