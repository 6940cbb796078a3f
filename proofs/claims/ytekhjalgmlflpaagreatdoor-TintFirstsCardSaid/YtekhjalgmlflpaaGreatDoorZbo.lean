/- Part of a proof. -/
import Derived.Test.YtekhjalgmlflpaaGreatDoorZbn
set_option linter.all false
set_option maxRecDepth 4000
set_option maxHeartbeats 40000000
section
namespace Go.V
open Go Go.Proofs IntKind
theorem pL {a b : VV} : vfield Tryz.prog 24 (.agg [a, b]) 0 = some a := by
 have h1 : aggT Tryz.prog 3 = some false := by kernel_rfl
 have h2 : szT Tryz.prog 3 = some 1 := by kernel_rfl
 simp [vfield, Tryz.underlying24, vpart, h1, h2]
theorem pM {a b : VV} : vfield Tryz.prog 24 (.agg [a, b]) 1 = some b := by
 have h1 : aggT Tryz.prog 3 = some false := by kernel_rfl
 have h2 : szT Tryz.prog 3 = some 1 := by kernel_rfl
 simp [vfield, Tryz.underlying24, vpart, h1, h2]
def fdL (s : Gs) (am : Ga) (d : Gi) : List Gt → Option Bool
 | [] => some true
 | t :: p => Option.bind (x8 d t.pg) fun v => Option.bind (Dc d) fun z => Option.bind (x8 d am) fun w => cond (decide (i64.wrap (v.High + i64.wrap (s.Off * z)) ≥ w.Low)) (some false) (fdL s am d p)
def fdirL (s : Gs) (am : Ga) : List Gi → Option (Gi × Bool)
 | [] => some (⟨0, 0, 0⟩, false)
 | d :: L => Option.bind (fdL s am d s.Tins) fun t => cond t (some (d, true)) (fdirL s am L)
def Ok (s : Gs) : Option (Gi × Bool) := Option.bind (qJ s) fun am => Option.bind Db fun L => cond (lenOk s.Tins) (fdirL s am L) none
theorem Y8 (s : Gs) (R : Gi × Bool) (h : Ok s = some R) : ad Tryz.prog G0 73 [.agg (cGs s)] (.tree (.tup [.agg (cGi R.1), .lit (.bool R.2)])) := by
 refine ad.runR mixed Tryz.call73 Tryz.func73 rfl (by simp [Tryz.ntmps73]; kernel_rfl) ?_
 unfold Ok at h
 rcases o1 : qJ s with _ | am
 ·rw [o1] at h; cases h
 rw [o1, Option.bind_some] at h
 rcases o2 : Db with _ | L
 ·rw [o2] at h; cases h
 rw [o2, Option.bind_some] at h
 cases o3 : lenOk s.Tins with
 | false => rw [o3] at h; cases h
 | true =>
 rw [o3, cond_true] at h
 have hi := KN L o2
 simp only [vz, tyf, seval, ua, rg]
 refine Tn mixed (by kernel_rfl) ?_
 simp only [vz, tyf, seval, ua, rg]
 refine ktA (Cg _ _ o1) ?_
 simp only [vz, tyf, seval, ua, rg]
 refine ktree (args0 := []) (by simp only [nrm]) rfl KL ?_
 refine aZ (fun tm => tm 1 = .ptr 0 0 ∧ tm 2 = .ptr 1 0 ∧ tm 3 = .ptr 2 0 ∧ tm 4 = .ptr 5 0 ∧ tm 10 = itD) (by refine ⟨?_, ?_, ?_, ?_, ?_⟩ <;> simp only [ua, seval]) ?_
 rintro tm ⟨e1, e2, e3, e4, bm⟩
 simp only [vz, tyf, seval, ua, rg]
 refine sU hi (by first | (simp only [nN, nO, bm, nh, seval] <;> rfl) | rfl) ?_
 intro LO hLO
 obtain ⟨J, hJ⟩ : ∃ J : Option (List VV) → List (Nat × VObj) → Prop, J = (fun o hp => match o with
  | some l => ∃ p : List Gi, l = p.map sD ∧ hp = [(8, .deferred (some [])), (9, LO), (0, .cells (some 28) (cGs s)), (1, .cells (some 99) (cGi ⟨0, 0, 0⟩)), (2, .cells (some 4) [.lit (.bool false)]), (5, .cells (some 25) (cGa am))] ∧ fdirL s am p = some R
  | none => ∃ LD : Code → VObj, (∃ tml ps az bo d, LD = fun c => VObj.loop .done (some c) tml ps az bo d) ∧ hp = [(8, .deferred (some [])), (9, LD .ret), (0, .cells (some 28) (cGs s)), (1, .cells (some 99) (cGi R.1)), (2, .cells (some 4) [.lit (.bool true)]), (5, .cells (some 25) (cGa am))] ∧ R.2 = true) := ⟨_, rfl⟩
 refine ⟨ownI J, yY, ?_, ?_, ?_⟩
 ·rintro v rest Fr H nx hFr ⟨hp, hown, hj⟩
  rw [hJ] at hj
  obtain ⟨p, hl, rfl, hR⟩ := hj
  cases p with
  | nil => cases hl
  | cons d p =>
  simp only [List.map_cons, List.cons.injEq] at hl
  obtain ⟨rfl, rfl⟩ := hl
  obtain ⟨l8, n8, H8⟩ := hown.head
  obtain ⟨l9, n9, H9⟩ := hown.tail.head
  obtain ⟨l0, n0, H0⟩ := hown.tail.tail.head
  obtain ⟨l1, n1, H1⟩ := hown.tail.tail.tail.head
  obtain ⟨l2, n2, H2⟩ := hown.tail.tail.tail.tail.head
  obtain ⟨l5, n5, H5⟩ := hown.tail.tail.tail.tail.tail.head
  refine sT mixed (psl := [11]) hLO H9 tf rfl (by kernel_rfl) (by kernel_rfl) ?_
  intro LB LD hLB hLD
  refine tg (fun tm => tm 1 = .ptr 0 0 ∧ tm 2 = .ptr 1 0 ∧ tm 3 = .ptr 2 0 ∧ tm 4 = .ptr 5 0 ∧ tm 11 = sD d) (by refine ⟨?_, ?_, ?_, ?_, ?_⟩ <;> simp only [th, tk, Tryz.ntmps73, e1, e2, e3, e4, seval]) ?_
  clear e1 e2 e3 e4 bm
  rintro tm ⟨e1, e2, e3, e4, bg⟩
  have m1 : (9 = nx) = False := by simp; omega
  have m2 : (nx = 9) = False := by simp; omega
  have m3 : (0 = nx) = False := by simp; omega
  have m4 : (nx = 0) = False := by simp; omega
  simp only [vz, tyf, seval, ua, nm, rg, RStart, e1, e2, e3, e4, bg, H9, H0, Nat.add_zero, m1, m2, m3, m4]
  unfold fdirL at hR
  rcases hT : fdL s am d s.Tins with _ | t
  ·rw [hT] at hR; cases hR
  rw [hT, Option.bind_some] at hR
  obtain ⟨I0, Ol⟩ : ∃ I0 : Nat → St → Prop, I0 = (fun m st => ∃ (q : List Gt) (c : Int), m = q.length ∧ 0 ≤ c ∧ List.drop (Int.toNat c) s.Tins = q ∧ st.df = [] ∧ nx + 6 ≤ st.nx ∧ (∀ γ, γ < nx → st.H γ = updH H 9 LB γ) ∧ st.H nx = some (.cells (some 99) (cGi d)) ∧
   st.tm 1 = .ptr 0 0 ∧ st.tm 2 = .ptr 1 0 ∧ st.tm 3 = .ptr 2 0 ∧ st.tm 4 = .ptr 5 0 ∧ st.tm 5 = .ptr nx 0 ∧ st.tm 13 = .sl (aa cGt s.Tins) (List.length s.Tins) false ∧ st.tm 14 = .lit (.int .i64 (List.length s.Tins)) ∧ st.tm 15 = .lit (.int .i64 c) ∧ fdL s am d q = some t) := ⟨_, rfl⟩
  refine loopK mixed (by kernel_rfl) I0 (List.length s.Tins) (by
   rw [Ol]
   refine ⟨s.Tins, 0, rfl, Int.le_refl _, rfl, rfl, (by show nx + 6 ≤ nx + 6; omega), ?_, ?_, ?_, ?_, ?_, ?_, ?_, ?_, ?_, ?_, hT⟩
   ·intro γ hγ
    simp only [updH]
    by_cases g9 : γ = 9
    ·rw [if_pos g9, if_pos g9]
    ·rw [if_neg g9, if_neg (by omega), if_neg (by omega), if_neg g9]
   ·simp only [bp, Nat.add_zero, m1, m2, seval] <;> rfl
   all_goals simp only [ua, seval, e1, e2, e3, e4]) ?_
  rintro m ⟨tm, K, kx, df⟩ hinv
  rw [Ol] at hinv
  obtain ⟨q, c, rfl, hc, hq, hdf, hkx, hK, Kx, f1, f2, f3, f4, f5, lY, kR, kU, lZ⟩ := hinv
  simp only at hdf hkx hK Kx f1 f2 f3 f4 f5 lY kR kU
  subst hdf
  have K0 : K 0 = some (.cells (some 28) (cGs s)) := by
   rw [hK 0 (by omega)]
   simp only [updH]
   rw [if_neg (by omega)]
   exact H0
  have K5 : K 5 = some (.cells (some 25) (cGa am)) := by
   rw [hK 5 (by omega)]
   simp only [updH]
   rw [if_neg (by omega)]
   exact H5
  have K8 : K 8 = some (.deferred (some [])) := by
   rw [hK 8 (by omega)]
   simp only [updH]
   rw [if_neg (by omega)]
   exact H8
  have K9 : K 9 = some LB := by
   rw [hK 9 (by omega)]
   simp only [bp, seval]
  have K1 : K 1 = some (.cells (some 99) (cGi ⟨0, 0, 0⟩)) := by
   rw [hK 1 (by omega)]
   simp only [updH]
   rw [if_neg (by omega)]
   exact H1
  have K2 : K 2 = some (.cells (some 4) [.lit (.bool false)]) := by
   rw [hK 2 (by omega)]
   simp only [updH]
   rw [if_neg (by omega)]
   exact H2
  cases q with
  | nil =>
   have pC : decide (c < (List.length s.Tins : Int)) = false := jX hc hq
   simp only [fdL, Option.some.injEq] at lZ
   subst lZ
   simp only [cond_true, Option.some.injEq] at hR
   subst hR
   simp only [vz, tyf, seval, ua, nm, rg, f1, f2, f3, f4, f5, lY, kR, kU, pC, K1, K2, Kx]
   refine ⟨?_, (show nx ≤ kx + 4 by omega), fun γ hγ => ?_, ?_⟩
   ·simp only [updH]
    repeat rw [if_neg (by omega)]
    exact K9
   ·have gx := hFr γ hγ
    have g9 : γ ≠ 9 := fun e => n9 (e ▸ hγ)
    have g1 : γ ≠ 1 := fun e => n1 (e ▸ hγ)
    have g2 : γ ≠ 2 := fun e => n2 (e ▸ hγ)
    simp only [updH]
    rw [if_neg g9, if_neg g2, if_neg g1, hK γ gx]
    simp only [updH]
    rw [if_neg g9]
   ·simp only [Bool.false_eq_true, if_false]
    refine ⟨[(8, .deferred (some [])), (9, LD .ret), (0, .cells (some 28) (cGs s)), (1, .cells (some 99) (cGi d)), (2, .cells (some 4) [.lit (.bool true)]), (5, .cells (some 25) (cGa am))], Own.cons (show 8 < kx + 4 by omega) n8 ?_ (Own.cons (show 9 < kx + 4 by omega) n9 ?_ (Own.cons (show 0 < kx + 4 by omega) n0 ?_ (Own.cons (show 1 < kx + 4 by omega) n1 ?_ (Own.cons (show 2 < kx + 4 by omega) n2 ?_ (Own.cons (show 5 < kx + 4 by omega) n5 ?_ Own.nil))))), ?_⟩
    rotate_left 6
    ·rw [hJ]
     exact ⟨LD, ⟨_, _, _, _, _, hLD⟩, rfl, rfl⟩
    all_goals (simp only [bp, seval, K8, K0, K5] <;> rfl)
  | cons x q =>
   have pC : decide (c < (List.length s.Tins : Int)) = true := jY hc hq
   have o := iC hc hq
   have hw := jZ hc hq o3
   have x1 : (0 = kx + 3) = False := by simp
   have x2 : (5 = kx + 3) = False := by simp; omega
   have x3 : (nx = kx + 3) = False := by simp; omega
   simp only [vz, tyf, seval, ua, nm, rg, f1, f2, f3, f4, f5, lY, kR, kU, pC, K0, K5, Kx, (cw o)]
   refine mN (fun tm => tm 1 = .ptr 0 0 ∧ tm 2 = .ptr 1 0 ∧ tm 3 = .ptr 2 0 ∧ tm 4 = .ptr 5 0 ∧ tm 5 = .ptr nx 0 ∧ tm 7 = .ptr (kx + 3) 0 ∧ tm 13 = .sl (aa cGt s.Tins) (List.length s.Tins) false ∧ tm 14 = .lit (.int .i64 (List.length s.Tins)) ∧ tm 15 = .lit (.int .i64 c)) (by refine ⟨?_, ?_, ?_, ?_, ?_, ?_, ?_, ?_, ?_⟩ <;> simp only [ua, seval, f1, f2, f3, f4, f5, lY, kR, kU]) ?_
   clear f1 f2 f3 f4 f5 lY kR kU tm
   rintro tm ⟨f1, f2, f3, f4, f5, f7, lY, kR, kU⟩
   simp only [fdL] at lZ
   rcases ov : x8 d x.pg with _ | v
   ·rw [ov] at lZ; cases lZ
   rw [ov, Option.bind_some] at lZ
   rcases oz : Dc d with _ | z
   ·rw [oz] at lZ; cases lZ
   rw [oz, Option.bind_some] at lZ
   rcases ow : x8 d am with _ | w
   ·rw [ow] at lZ; cases lZ
   rw [ow, Option.bind_some] at lZ
   simp only [vz, tyf, seval, ua, nm, rg, f1, f4, f5, f7, K0, K5, Kx, x1, x2, x3, pL, pM]
   refine dktA (Sy _ _ _ ov) ?_
   refine aZ (fun tm => tm 1 = .ptr 0 0 ∧ tm 2 = .ptr 1 0 ∧ tm 3 = .ptr 2 0 ∧ tm 4 = .ptr 5 0 ∧ tm 5 = .ptr nx 0 ∧ tm 13 = .sl (aa cGt s.Tins) (List.length s.Tins) false ∧ tm 14 = .lit (.int .i64 (List.length s.Tins)) ∧ tm 15 = .lit (.int .i64 c) ∧ tm 22 = .agg (aK v)) (by refine ⟨?_, ?_, ?_, ?_, ?_, ?_, ?_, ?_, ?_⟩ <;> (simp only [ua, seval, f1, f2, f3, f4, f5, lY, kR, kU, f7] <;> rfl)) ?_
   clear f1 f2 f3 f4 f5 lY kR kU  f7 tm
   rintro tm ⟨f1, f2, f3, f4, f5, lY, kR, kU, Om⟩
   simp only [vz, tyf, seval, ua, nm, rg, f1, f4, f5, Om, K0, K5, Kx, x1, x2, x3, pL, pM]
   refine dktA (Wv _ _ oz) ?_
   refine aZ (fun tm => tm 1 = .ptr 0 0 ∧ tm 2 = .ptr 1 0 ∧ tm 3 = .ptr 2 0 ∧ tm 4 = .ptr 5 0 ∧ tm 5 = .ptr nx 0 ∧ tm 13 = .sl (aa cGt s.Tins) (List.length s.Tins) false ∧ tm 14 = .lit (.int .i64 (List.length s.Tins)) ∧ tm 15 = .lit (.int .i64 c) ∧ tm 23 = .lit (.int .i64 v.High) ∧ tm 25 = .lit (.int .i64 s.Off) ∧ tm 27 = .lit (.int .i64 z)) (by refine ⟨?_, ?_, ?_, ?_, ?_, ?_, ?_, ?_, ?_, ?_, ?_⟩ <;> (simp only [ua, seval, f1, f2, f3, f4, f5, lY, kR, kU, Om] <;> rfl)) ?_
   clear f1 f2 f3 f4 f5 lY kR kU  Om tm
   rintro tm ⟨f1, f2, f3, f4, f5, lY, kR, kU, yp, On, Oo⟩
   simp only [vz, tyf, seval, ua, nm, rg, f1, f4, f5, yp, On, Oo, K0, K5, Kx, x1, x2, x3, pL, pM]
   refine dktA (Sy _ _ _ ow) ?_
   refine aZ (fun tm => tm 1 = .ptr 0 0 ∧ tm 2 = .ptr 1 0 ∧ tm 3 = .ptr 2 0 ∧ tm 4 = .ptr 5 0 ∧ tm 5 = .ptr nx 0 ∧ tm 13 = .sl (aa cGt s.Tins) (List.length s.Tins) false ∧ tm 14 = .lit (.int .i64 (List.length s.Tins)) ∧ tm 15 = .lit (.int .i64 c) ∧ tm 29 = .lit (.int .i64 (i64.wrap (v.High + i64.wrap (s.Off * z)))) ∧ tm 32 = .agg (aK w)) (by refine ⟨?_, ?_, ?_, ?_, ?_, ?_, ?_, ?_, ?_, ?_⟩ <;> (simp only [ua, seval, f1, f2, f3, f4, f5, lY, kR, kU, yp, On, Oo] <;> rfl)) ?_
   clear f1 f2 f3 f4 f5 lY kR kU  yp  On  Oo tm
   rintro tm ⟨f1, f2, f3, f4, f5, lY, kR, kU, TE, TF⟩
   cases hcmp : decide (i64.wrap (v.High + i64.wrap (s.Off * z)) ≥ w.Low) with
   | true =>
    rw [hcmp, cond_true, Option.some.injEq] at lZ
    subst lZ
    rw [cond_false] at hR
    simp only [vz, tyf, seval, ua, nm, rg, f1, f4, f5, TE, TF, K0, K5, Kx, x1, x2, x3, pL, pM, hcmp]
    refine ⟨?_, (show nx ≤ kx + 21 by omega), fun γ hγ => ?_, ?_⟩
    ·simp only [updH]
     repeat rw [if_neg (by omega)]
     exact K9
    ·have gx := hFr γ hγ
     have g9 : γ ≠ 9 := fun e => n9 (e ▸ hγ)
     simp only [updH]
     rw [if_neg g9, if_neg (by omega), if_neg (by omega), hK γ gx]
     simp only [updH]
     rw [if_neg g9]
    ·simp only [if_true]
     refine ⟨[(8, .deferred (some [])), (9, LO), (0, .cells (some 28) (cGs s)), (1, .cells (some 99) (cGi ⟨0, 0, 0⟩)), (2, .cells (some 4) [.lit (.bool false)]), (5, .cells (some 25) (cGa am))], Own.cons (show 8 < kx + 21 by omega) n8 ?_ (Own.cons (show 9 < kx + 21 by omega) n9 ?_ (Own.cons (show 0 < kx + 21 by omega) n0 ?_ (Own.cons (show 1 < kx + 21 by omega) n1 ?_ (Own.cons (show 2 < kx + 21 by omega) n2 ?_ (Own.cons (show 5 < kx + 21 by omega) n5 ?_ Own.nil))))), ?_⟩
     rotate_left 6
     ·rw [hJ]
      exact ⟨p, rfl, rfl, hR⟩
     ·simp only [updH]
      repeat rw [if_neg (by omega)]
      exact K8
     ·simp only [bp, seval]
     ·simp only [updH]
      repeat rw [if_neg (by omega)]
      exact K0
     ·simp only [updH]
      repeat rw [if_neg (by omega)]
      exact K1
     ·simp only [updH]
      repeat rw [if_neg (by omega)]
      exact K2
     ·simp only [updH]
      repeat rw [if_neg (by omega)]
      exact K5
   | false =>
    rw [hcmp, cond_false] at lZ
    simp only [vz, tyf, seval, ua, nm, rg, f1, f4, f5, TE, TF, kU, K0, K5, Kx, x1, x2, x3, pL, pM, hcmp, hw]
    refine ⟨q.length, Nat.lt_succ_self _, ?_⟩
    rw [Ol]
    refine ⟨q, c + 1, rfl, by omega, fM hc hq, rfl, (by show nx + 6 ≤ kx + 23; omega), ?_, ?_, ?_, ?_, ?_, ?_, ?_, ?_, ?_, ?_, lZ⟩
    ·intro γ hγ
     simp only [updH]
     rw [if_neg (by omega), if_neg (by omega)]
     exact hK γ hγ
    ·simp only [updH]
     rw [if_neg (by omega), if_neg (by omega)]
     exact Kx
    all_goals simp only [ua, seval, f1, f2, f3, f4, f5, lY, kR]
 ·refine ⟨[(8, .deferred (some [])), (9, LO), (0, .cells (some 28) (cGs s)), (1, .cells (some 99) (cGi ⟨0, 0, 0⟩)), (2, .cells (some 4) [.lit (.bool false)]), (5, .cells (some 25) (cGa am))], Own.cons (show 8 < 10 by omega) (fun h => h) ?_ (Own.cons (show 9 < 10 by omega) (fun h => h) ?_ (Own.cons (show 0 < 10 by omega) (fun h => h) ?_ (Own.cons (show 1 < 10 by omega) (fun h => h) ?_ (Own.cons (show 2 < 10 by omega) (fun h => h) ?_ (Own.cons (show 5 < 10 by omega) (fun h => h) ?_ Own.nil))))), ?_⟩
  rotate_left 6
  ·rw [hJ]
   exact ⟨L, rfl, rfl, h⟩
  all_goals (simp only [bp, seval] <;> rfl)
 ·rintro H' nx' (⟨hp, hown, hj⟩ | ⟨hp, hown, hj⟩)
  ·rw [hJ] at hj
   obtain ⟨p, hl, rfl, hR⟩ := hj
   cases p with
   | cons e p => cases hl
   | nil =>
   simp only [fdirL, Option.some.injEq] at hR
   subst hR
   obtain ⟨l8, n8, H8⟩ := hown.head
   obtain ⟨l9, n9, H9⟩ := hown.tail.head
   obtain ⟨l0, n0, H0⟩ := hown.tail.tail.head
   obtain ⟨l1, n1, H1⟩ := hown.tail.tail.tail.head
   obtain ⟨l2, n2, H2⟩ := hown.tail.tail.tail.tail.head
   refine rG hLO H9 ?_
   intro LX
   simp only [vz, tyf, seval, ua, rg, e1, e2, e3, e4, H1, H2]
   refine oc (by simp only [bp, seval, H8]) ?_
   refine bG (x := .tup [.agg (cGi ⟨0, 0, 0⟩), .lit (.bool false)]) (by simp only [Tryz.results73, resV, resL, av, bL, bM, uw, cr, tyf, e2, e3, H1, H2, nm, seval] <;> rfl) ?_
   refine bO (by simp only [tre, ar, Bool.and_self]) ?_
   simp only [outV, nrm, au, seval, List.map_cons, List.map_nil]
   rfl
  ·rw [hJ] at hj
   obtain ⟨LD, ⟨tml, ps, az, bo, d, hLD⟩, rfl, TG⟩ := hj
   obtain ⟨l8, n8, H8⟩ := hown.head
   obtain ⟨l9, n9, H9⟩ := hown.tail.head
   obtain ⟨l0, n0, H0⟩ := hown.tail.tail.head
   obtain ⟨l1, n1, H1⟩ := hown.tail.tail.tail.head
   obtain ⟨l2, n2, H2⟩ := hown.tail.tail.tail.tail.head
   obtain ⟨R1, R2⟩ := R
   simp only at TG H1
   subst TG
   refine xg hLD H9 ?_
   intro LX
   simp only [vz, tyf, seval, ua, rg, e1, e2, e3, e4, H1, H2]
   refine oc (by simp only [bp, seval, H8]) ?_
   refine bG (x := .tup [.agg (cGi R1), .lit (.bool true)]) (by simp only [Tryz.results73, resV, resL, av, bL, bM, uw, cr, tyf, e2, e3, H1, H2, nm, seval] <;> rfl) ?_
   refine bO (by simp only [tre, ar, Bool.and_self]) ?_
   simp only [outV, nrm, au, seval, List.map_cons, List.map_nil]
   rfl
def Oq (ae : Gs) : Option (Gi × Int) := Option.bind (mh ae) (fun r1 => cond (r1) (Option.bind (Ok ae) (fun r2 => cond (r2.2) (some (r2.1, 0)) (some ((Gi.mk 0 0 0), 5)))) (some ((Gi.mk 0 0 0), 2)))
theorem Y9 (ae : Gs) (R : Gi × Int) (h : Oq ae = some R) : ad Tryz.prog G0 37 [.agg (cGs ae)] (.tree (.tup [.agg (cGi R.1), .lit (.int .i64 R.2)])) := by
 refine ad.runR mixed Tryz.call37 Tryz.func37 rfl (by simp [Tryz.ntmps37]; kernel_rfl) ?_
 obtain ⟨KF, h, kF, kN⟩ := dp h
 simp only [Oq] at h
 obtain ⟨r3, o4, h⟩ := optI h kN
 try simp only [hs] at h
 simp only [vz, tyf, nm, seval]
 refine ktA (wH _ _ o4) ?_
 refine aZ (fun tm => tm 1 = .ptr 0 0 ∧ tm 2 = .ptr 1 0 ∧ tm 7 = .lit (.bool r3) ∧ True) (by refine ⟨?_, ?_, ?_, trivial⟩ <;> first | (simp only [ua, nm, seval] <;> rfl) | rfl) ?_
 rintro tm ⟨e5, e6, e7, _⟩
 cases d8 : (r3)
 ·simp only [d8, hs] at h
  try simp only [vz, tyf, e5, e6, e7, d8, nm, seval]
  refine bG (x := (.tup [.agg ([.lit (.int .i64 0)] ++ [.lit (.int .i64 0)] ++ [.lit (.int .i64 0)]), .lit (.int .i64 2)])) (by first | (simp only [Tryz.results37, resV, resL, av, bL, bM, uw, cr, tyf, e5, e6, e7, d8, nm, seval] <;> rfl) | rfl) ?_
  obtain rfl := kF _ h
  refine bO ?_ ?_
  ·simp only [tre, ar, Bool.and_self]
  ·first | (simp only [outV, uw, bT, cr, tyf, nrm, au, e5, e6, e7, d8, nm, seval] <;> rfl) | rfl
 simp only [d8, hs] at h
 obtain ⟨r9, yB, h⟩ := optI h kN
 try simp only [hs] at h
 simp only [vz, tyf, e5, e6, e7, d8, nm, seval]
 refine ktA (Y8 _ _ yB) ?_
 refine aZ (fun tm => tm 2 = .ptr 1 0 ∧ tm 12 = .tup [.agg (cGi r9.1), .lit (.bool r9.2)] ∧ True) (by refine ⟨e6, ?_, trivial⟩ <;> first | (simp only [ua, e5, e6, e7, d8, nm, seval] <;> rfl) | rfl) ?_
 rintro tm ⟨bg, aW, _⟩
 cases cn : (r9.2)
 ·simp only [cn, hs] at h
  try simp only [vz, tyf, d8, bg, aW, cn, nm, seval]
  refine bG (x := (.tup [.agg ([.lit (.int .i64 0)] ++ [.lit (.int .i64 0)] ++ [.lit (.int .i64 0)]), .lit (.int .i64 5)])) (by first | (simp only [Tryz.results37, resV, resL, av, bL, bM, uw, cr, tyf, d8, bg, aW, cn, nm, seval] <;> rfl) | rfl) ?_
  obtain rfl := kF _ h
  refine bO ?_ ?_
  ·simp only [tre, ar, Bool.and_self]
  ·first | (simp only [outV, uw, bT, cr, tyf, nrm, au, d8, bg, aW, cn, nm, seval] <;> rfl) | rfl
 simp only [cn, hs] at h
 try simp only [vz, tyf, d8, bg, aW, cn, nm, seval]
 refine bG (x := (.tup [.agg (cGi r9.1), .lit (.int .i64 0)])) (by first | (simp only [Tryz.results37, resV, resL, av, bL, bM, uw, cr, tyf, d8, bg, aW, cn, nm, seval] <;> rfl) | rfl) ?_
 obtain rfl := kF _ h
 refine bO ?_ ?_
 ·simp only [tre, ar, Bool.and_self]
 ·first | (simp only [outV, uw, bT, cr, tyf, nrm, au, d8, bg, aW, cn, nm, seval] <;> rfl) | rfl
def sA : Gs := ⟨⟨60, 40, 20⟩, ⟨⟨1, 2⟩, ⟨1, 1⟩, ⟨0, 0⟩⟩, ⟨5, 5⟩, 5, [⟨⟨⟨80, 82⟩, ⟨20, 20⟩, ⟨0, 2⟩⟩⟩, ⟨⟨⟨20, 22⟩, ⟨60, 60⟩, ⟨40, 40⟩⟩⟩, ⟨⟨⟨50, 50⟩, ⟨10, 12⟩, ⟨30, 30⟩⟩⟩]⟩
def sB : Gs := ⟨⟨60, 40, 20⟩, ⟨⟨1, 2⟩, ⟨1, 1⟩, ⟨0, 0⟩⟩, ⟨5, 5⟩, 5, [⟨⟨⟨20, 22⟩, ⟨60, 60⟩, ⟨40, 40⟩⟩⟩, ⟨⟨⟨50, 50⟩, ⟨10, 12⟩, ⟨30, 30⟩⟩⟩]⟩
theorem Ot : Oq sB = some (⟨0, 0, -2⟩, 0) := by kernel_rfl
theorem Ou : xm sA = some (9, 0) := by kernel_rfl
theorem Ov : KG sA = some ([1, 1, 0], 5, 0) := by kernel_rfl
theorem Ow : KH sA = some ([0, 1], 0) := by kernel_rfl
theorem Ox : xl sA = some ([1, 1, 0], 0) := by kernel_rfl
theorem qshA : VV.agg (cGs sA) = kA := by kernel_rfl
theorem qshB : VV.agg (cGs sB) = kB := by kernel_rfl
theorem pCount : ad Tryz.prog G0 44 [kA] (.tree kCount) := qshA ▸ RG sA (9, 0) Ou
theorem pNear : ad Tryz.prog G0 50 [kA] (.tree kNear) := qshA ▸ Wm sA ([1, 1, 0], 5, 0) Ov
theorem pNeeds : ad Tryz.prog G0 55 [kA] (.tree kNeeds) := qshA ▸ Wn sA ([0, 1], 0) Ow
theorem pFirst : ad Tryz.prog G0 42 [kA] (.tree kFirst) := qshA ▸ RF sA ([1, 1, 0], 0) Ox
theorem pProof : ad Tryz.prog G0 37 [kB] (.tree kProof) := qshB ▸ Y9 sB (⟨0, 0, -2⟩, 0) Ot
theorem pMay : ad Tryz.prog G0 43 [kA] (.tree kMay) := ad.closedB hmix 1000 (by kernel_rfl)
def kTab : KTab := [
  (54, [], kA),
  (56, [], kB),
  (53, [], kD),
  (18, [kD], kAim),
  (19, [kA, .sl [.lit (.int .i64 (1)), .lit (.int .i64 (1)), .lit (.int .i64 (0))] 3 false], kSums),
  (27, [kA, .sl [.lit (.int .i64 (3)), .lit (.int .i64 (2)), .lit (.int .i64 (0))] 3 false], kWord),
  (24, [kA, .sl [.lit (.int .i64 (1)), .lit (.int .i64 (1)), .lit (.int .i64 (0))] 3 false, .agg [.sl [.lit (.int .i64 80),.lit (.int .i64 20),.lit (.int .i64 0),.lit (.int .i64 20),.lit (.int .i64 60),.lit (.int .i64 40),.lit (.int .i64 50),.lit (.int .i64 10),.lit (.int .i64 30)] 3 false,.lit (.int .i64 5),.lit (.int .i64 2),.lit (.int .i64 1),.lit (.int .i64 0)]], kTrue),
  (28, [kD, .sl [.lit (.int .i64 (1)), .lit (.int .i64 (1)), .lit (.int .i64 (0))] 3 false], kYears),
  (57, [.lit (.string ⟨⟨[98, 111, 97, 114, 100, 32, 49, 32, 50, 32, 51, 32, 48, 32, 48, 32, 49, 10, 102, 97, 100, 101, 32, 48, 32, 48, 32, 48, 32, 48, 32, 48, 32, 48, 10, 116, 105, 110, 32, 49, 32, 49, 32, 50, 32, 50, 32, 51, 32, 51, 10, 101, 110, 100, 32, 49, 54, 52, 10]⟩⟩)], kRead),
  (44, [kA], kCount),
  (50, [kA], kNear),
  (55, [kA], kNeeds),
  (37, [kB], kProof),
  (42, [kA], kFirst),
  (43, [kA], kMay)]
theorem kTabOk : KTabOk Tryz.prog G0 kTab := ⟨⟨by kernel_rfl, pA⟩, ⟨⟨by kernel_rfl, pB⟩, ⟨⟨by kernel_rfl, pD⟩, ⟨⟨by kernel_rfl, pAim⟩, ⟨⟨by kernel_rfl, pSums⟩, ⟨⟨by kernel_rfl, pWord⟩, ⟨⟨by kernel_rfl, pTrue⟩, ⟨⟨by kernel_rfl, pYears⟩, ⟨⟨by kernel_rfl, pRead⟩, ⟨⟨by kernel_rfl, pCount⟩, ⟨⟨by kernel_rfl, pNear⟩, ⟨⟨by kernel_rfl, pNeeds⟩, ⟨⟨by kernel_rfl, pProof⟩, ⟨⟨by kernel_rfl, pFirst⟩, ⟨⟨by kernel_rfl, pMay⟩, trivial⟩⟩⟩⟩⟩⟩⟩⟩⟩⟩⟩⟩⟩⟩⟩
theorem pKnown : ad Tryz.prog G0 16 [] (.tree (.lit (.bool true))) := ad.closedT hmix kTabOk 1000 (by kernel_rfl)
#print axioms pKnown
theorem xT : ad Tryz.prog G0 16 [] (.tree (.lit (.bool true))) := pKnown

def z3 : Ga := ⟨⟨0, 0⟩, ⟨0, 0⟩, ⟨0, 0⟩⟩
theorem TrOk.b {s : Gs} (hs : ShOk s) {t : Gu} (ht : TrOk s t) (p : P3) : ∀ a ∈ t.Tins, 0 ≤ selI a p ∧ selI a p ≤ 99 := by
 intro a ha
 obtain ⟨i, hi⟩ := List.mem_iff_getElem?.1 ha
 have hlt := (List.getElem?_eq_some_iff.1 hi).1
 obtain ⟨c, hc⟩ : ∃ c, s.Tins[i]? = some c := ⟨_, List.getElem?_eq_getElem (by rw [← ht.n]; exact hlt)⟩
 have h1 := ht.tin i a c hi hc p
 have h2 := hs.low p c (List.mem_of_getElem? hc)
 have h3 := hs.high p c (List.mem_of_getElem? hc)
 omega
theorem Oy {s : Gs} (hs : ShOk s) {mix : List Int} (hm : MixOk s mix) (h : surelyB s mix = true) {y : Int} (hy : s.Years.Low ≤ y ∧ y ≤ s.Years.High) : allC s mix y = true := by
 rw [E3 hs hm] at h
 have key : ∀ p, canB s mix p y = true := by
  intro p
  have h1 := h p
  have hf := hs.fade p
  have hyr := hs.yrs
  have h2 := ub hs hm p
  have hP := hm.s
  have l1 := Ec (old := selI s.Old p) (y := y) (y' := s.Years.High) (f := (selS s.Fade p).Low) (f' := (selS s.Fade p).High) (by omega) (by omega) (by omega) (by omega)
  have l2 := Ec (old := selI s.Old p) (y := s.Years.Low) (y' := y) (f := (selS s.Fade p).Low) (f' := (selS s.Fade p).Low) (by omega) (by omega) (by omega) (by omega)
  have e1 : (aimP s p).Low = aB (selI s.Old p) s.Years.High (selS s.Fade p).High := rfl
  have e2 : (aimP s p).High = aB (selI s.Old p) s.Years.Low (selS s.Fade p).Low := rfl
  have m1 := Int.mul_le_mul_of_nonneg_left l1 (show 0 ≤ sumL mix by omega)
  have m2 := Int.mul_le_mul_of_nonneg_left l2 (show 0 ≤ sumL mix by omega)
  have h5 : (aH s mix p).High - sumL mix * (aimP s p).Low ≤ s.Off * sumL mix ∧ sumL mix * (aimP s p).High - (aH s mix p).Low ≤ s.Off * sumL mix := by
   unfold mostI at h1
   split at h1 <;> omega
  rw [e1, e2, Int.mul_comm s.Off] at h5
  unfold canB
  rw [Bl]
  refine ⟨(selS s.Fade p).Low, by omega, by omega, ?_⟩
  simp only [canT, Bool.and_eq_true, decide_eq_true_eq]
  omega
 simp only [allC, key, Bool.and_self]
def xU (dE : List Int) : List Int → Int → Option (LOut (Bool) (Unit))
 | [], bS => some (.go ())
 | e0 :: p0, bS => Option.bind (getI dE bS) (fun x1 => cond (e0 != x1) (some (.ret false)) (xU dE p0 (bS + 1)))
def sv (db : List Int) (dE : List Int) : Option (Bool) := cond ((List.length db : Int) != (List.length dE : Int)) (some false) (cond (lenOk db) (aN (xU dE db 0) (fun r3 => some r3) (fun c2 => some true) (fun _ _ => none)) none)
theorem Oz (db : List Int) (dE : List Int) (R : Bool) (h : sv db dE = some R) : ad Tryz.prog G0 47 [.sl (aa eI db) (List.length db) false, .sl (aa eI dE) (List.length dE) false] (.tree (.lit (.bool R))) := by
 refine ad.runR mixed Tryz.call47 Tryz.func47 rfl (by simp [Tryz.ntmps47]; kernel_rfl) ?_
 obtain ⟨KF, h, kF, kN⟩ := dp h
 simp only [sv] at h
 cases d4 : ((List.length db : Int) != (List.length dE : Int))
 ·simp only [d4, hs] at h
  cases g6 : (lenOk db)
  ·simp only [g6, hs] at h
   exact absurd h kN
  simp only [g6, hs] at h
  simp only [vz, tyf, d4, g6, nm, seval]
  obtain ⟨K5, h, CM, HR, VD, CN⟩ := fp h kN
  obtain ⟨f5, HS, h⟩ := call2 h
  obtain ⟨I5, vc⟩ : ∃ I : Nat → St → Prop, I = (fun m st => ∃ (p5 : List Int) (kJ : Int), m = List.length p5 ∧ 0 ≤ kJ ∧ List.drop (Int.toNat kJ) db = p5 ∧ st.df = [] ∧ 7 ≤ st.nx ∧ st.tm 0 = .sl (aa eI db) (List.length db) false ∧ st.tm 1 = .sl (aa eI dE) (List.length dE) false ∧ st.tm 5 = .lit (.int .i64 kJ) ∧ K5 (f5 p5 kJ)) := ⟨_, rfl⟩
  refine loopK mixed (by kernel_rfl) I5 (List.length db) (by rw [vc]; refine ⟨db, 0, rfl, Int.le_refl _, rfl, rfl, (show 7 ≤ 7 by omega), ?_, ?_, ?_, h⟩ <;> first | (simp only [ua, d4, nm, seval] <;> rfl) | rfl) ?_
  rintro m ⟨tm, H, zC, df⟩ hinv
  rw [vc] at hinv
  obtain ⟨p5, kJ, rfl, nw, oV, hdf, HT, e7, e8, e9, h⟩ := hinv
  simp only at hdf HT e7 e8 e9
  have rH := fu (m := 7) (b := zC) (by omega)
  subst hdf HS
  cases p5 with
  | nil =>
   have qc : (decide (kJ < (List.length db : Int))) = false := jX nw oV
   simp only [xU, hs, reduceCtorEq] at h
   replace h := HR _ h
   try dsimp only at h
   try simp only [hs] at h
   try simp only [vz, tyf, d4, g6, rH, e7, e8, e9, qc, nm, seval]
   obtain rfl := kF _ h
   exact bB Tryz.results47 rfl
  | cons e5 p5 =>
   have ng : (decide (kJ < (List.length db : Int))) = true := jY nw oV
   have s8 := iC nw oV
   have w4 := jZ nw oV g6
   simp only [xU, hs, reduceCtorEq] at h
   simp only [vz, tyf, d4, g6, rH, e7, e8, e9, ng, (br s8), w4, nm, seval]
   refine mN (fun tm => tm 0 = .sl (aa eI db) (List.length db) false ∧ tm 1 = .sl (aa eI dE) (List.length dE) false ∧ tm 5 = .lit (.int .i64 kJ) ∧ True) (by refine ⟨e7, e8, e9, trivial⟩ <;> first | (simp only [ua, d4, rH, e7, e8, e9, ng, w4, nm, seval] <;> rfl) | rfl) ?_
   rintro tm ⟨bQ, bu, bC, _⟩
   obtain ⟨qZ, fa, h⟩ := optI h CN
   try simp only [hs] at h
   cases cI : (e5 != qZ)
   ·simp only [cI, hs] at h
    simp only [vz, tyf, d4, g6, rH, ng, (br s8), w4, bQ, bu, bC, (br fa), cI, nm, seval]
    exact ⟨List.length p5, Nat.lt_succ_self _, by rw [vc]; refine ⟨p5, kJ + 1, rfl, Int.le_trans nw (Int.le_add_one (Int.le_refl _)), fM nw oV, rfl, (show 7 ≤ zC + 16 by omega), bQ, bu, ?_, h⟩ <;> first | (simp only [ua, d4, rH, ng, w4, bQ, bu, bC, cI, nm, seval] <;> rfl) | rfl⟩
   simp only [cI, hs] at h
   try simp only [vz, tyf, d4, g6, rH, ng, (br s8), w4, bQ, bu, bC, (br fa), cI, nm, seval]
   replace h := CM _ h
   try dsimp only at h
   obtain rfl := kF _ h
   exact bB Tryz.results47 rfl
 simp only [d4, hs] at h
 try simp only [vz, tyf, d4, nm, seval]
 obtain rfl := kF _ h
 exact bB Tryz.results47 rfl
theorem Bx (b : List Int) : ∀ (l : List Int) (c : Int), 0 ≤ c → b.drop c.toNat = l → xU b l c = some (.go ())
 | [], c, _, _ => rfl
 | e :: l, c, h0, hd => by
  have ih := Bx b l (c + 1) (by omega) (fM h0 hd)
  simp only [xU, iC h0 hd, Option.bind_some, bne_self_eq_false, cond_false, ih]
theorem TH {l : List Int} (h : lenOk l = true) : sv l l = some true := by
 unfold sv
 rw [Bx l l 0 (Int.le_refl _) rfl, h]
 simp [aN]
theorem MixOk.lenOk {s : Gs} (hs : ShOk s) {q : List Int} (h : MixOk s q) : lenOk q = true := by
 have := hs.n; have := h.n
 unfold Go.V.lenOk
 rw [decide_eq_true_eq]
 omega
def sureL (s : Gs) : List (List Int) := (allL s).filter (surelyB s)
def mayB (s : Gs) (q : List Int) : Bool := !(yearsL s q).isEmpty
def mayL (s : Gs) : List (List Int) := (allL s).filter (mayB s)
theorem O0 {f : Gm → Option Bool} {s : Gs} {B : List Int → Bool} : ∀ (L : List (List Int)), (∀ q ∈ L, f ⟨s, q⟩ = some (B q)) → filterO f (L.map (Gm.mk s)) = some ((L.filter B).map (Gm.mk s))
 | [], _ => rfl
 | q :: L, h => by
  have ih := O0 (f := f) (B := B) L fun x hx => h x (List.mem_cons_of_mem _ hx)
  simp only [List.map_cons, filterO, h q (List.mem_cons_self ..), ih, Option.bind_some, List.filter_cons]
  cases B q <;> rfl
theorem By {s : Gs} (hs : ShOk s) : qm s = some ((sureL s).map (Gm.mk s)) := by
 unfold qm
 rw [Rj hs, Option.bind_some]
 exact O0 (B := surelyB s) (allL s) fun q hq => E2 hs ((vr hs).1 hq)
theorem O1 {s : Gs} (hs : ShOk s) : xk s = some ((mayL s).map (Gm.mk s)) := by
 unfold xk
 rw [Rj hs, Option.bind_some]
 exact O0 (B := mayB s) (allL s) fun q hq => Ob hs ((vr hs).1 hq)
def hdE : List (List Int) → List Int × Int
 | [] => ([], 5)
 | x :: _ => (x, 0)
theorem Bz {s : Gs} (L : List (List Int)) : headE (L.map (Gm.mk s)) = hdE L := by
 cases L <;> rfl
theorem O2 {s : Gs} (h : lenOk s.Tins = true) : xl s = some (cond (sheetB s) (hdE (sureL s)) ([], 2)) := by
 unfold xl
 rw [LH h, Option.bind_some]
 cases hb : sheetB s with
 | false => rfl
 | true => simp only [cond_true, By (ShOk.of hb), Option.bind_some, Bz]
theorem O3 {s : Gs} (h : lenOk s.Tins = true) : z9 s = some (cond (sheetB s) (hdE (mayL s)) ([], 2)) := by
 unfold z9
 rw [LH h, Option.bind_some]
 cases hb : sheetB s with
 | false => rfl
 | true => simp only [cond_true, O1 (ShOk.of hb), Option.bind_some, Bz]
theorem O4 {s : Gs} (hs : ShOk s) : (sureL s).length ≤ 5832 := Nat.le_trans (List.length_filter_le ..) (KJ hs)
theorem O5 {s : Gs} (h : lenOk s.Tins = true) : xm s = some (cond (sheetB s) (((sureL s).length : Int), (0 : Int)) (0, 2)) := by
 unfold xm
 rw [LH h, Option.bind_some]
 cases hb : sheetB s with
 | false => rfl
 | true =>
  have hl := O4 (ShOk.of hb)
  have : lenOk ((sureL s).map (Gm.mk s)) = true := by
   unfold lenOk
   rw [decide_eq_true_eq, List.length_map]
   omega
  simp only [cond_true, By (ShOk.of hb), Option.bind_some, this, List.length_map]
def hdR : List (List Int) → LOut (List Int × Bool) Unit
 | [] => .go ()
 | x :: _ => .ret (x, true)
def hdF : List (List Int) → List Int × Bool
 | [] => ([], false)
 | x :: _ => (x, true)
theorem TI {s : Gs} (hs : ShOk s) : ∀ (L : List (List Int)) (c : Int), (∀ q ∈ L, MixOk s q) → xx s L c = some (hdR (L.filter (surelyB s)))
 | [], c, _ => rfl
 | q :: L, c, h => by
  have ih := TI hs L (c + 1) fun x hx => h x (List.mem_cons_of_mem _ hx)
  simp only [xx, Od hs (h q (List.mem_cons_self ..)), Option.bind_some, ih, ← Of hs, List.filter_cons]
  cases surelyB s q <;> rfl
theorem O6 {s : Gs} (hs : ShOk s) : Ac s = some (hdF (sureL s)) := by
 unfold Ac
 rw [vq hs, Option.bind_some, KK hs, TI hs _ _ fun q hq => (vr hs).1 hq]
 show _ = some (hdF ((allL s).filter (surelyB s)))
 cases (allL s).filter (surelyB s) <;> rfl
theorem O7 {s : Gs} (hs : ShOk s) {q : List Int} (hm : MixOk s q) : (wordI s q != 1) = mayB s q := by
 unfold wordI mayB
 cases hb : surelyB s q with
 | true =>
  have hy := hs.yrs
  have h1 : s.Years.Low ∈ yearsL s q := (vW _ _).2 ⟨Int.le_refl _, by unfold yrsN; omega, Oy hs hm hb ⟨Int.le_refl _, hy.2.1⟩⟩
  revert h1
  cases yearsL s q with
  | nil => intro h1; cases h1
  | cons a l => intro _; rfl
 | false => cases (yearsL s q).isEmpty <;> rfl
theorem B0 {s : Gs} (hs : ShOk s) : ∀ (L : List (List Int)) (c : Int), (∀ q ∈ L, MixOk s q) → xz s L c = some (hdR (L.filter (mayB s)))
 | [], c, _ => rfl
 | q :: L, c, h => by
  have hq := h q (List.mem_cons_self ..)
  have ih := B0 hs L (c + 1) fun x hx => h x (List.mem_cons_of_mem _ hx)
  simp only [xz, Og hs hq, Option.bind_some, ih, O7 hs hq, List.filter_cons]
  cases mayB s q <;> rfl
theorem O8 {s : Gs} (hs : ShOk s) : Ae s = some (hdF (mayL s)) := by
 unfold Ae
 rw [vq hs, Option.bind_some, KK hs, B0 hs _ _ fun q hq => (vr hs).1 hq]
 show _ = some (hdF ((allL s).filter (mayB s)))
 cases (allL s).filter (mayB s) <;> rfl
theorem O9 {s : Gs} (hs : ShOk s) : ∀ (L : List (List Int)) (c n : Int), (∀ q ∈ L, MixOk s q) → 0 ≤ n → n + L.length ≤ 1000000 → tx s L c n = some (.go (n + (L.filter (surelyB s)).length))
 | [], c, n, _, _, _ => by simp [tx]
 | q :: L, c, n, h, h0, hn => by
  have hq := h q (List.mem_cons_self ..)
  rw [List.length_cons] at hn
  have i1 := O9 hs L (c + 1) (n + 1) (fun x hx => h x (List.mem_cons_of_mem _ hx)) (by omega) (by omega)
  have i2 := O9 hs L (c + 1) n (fun x hx => h x (List.mem_cons_of_mem _ hx)) h0 (by omega)
  simp only [tx, Od hs hq, Option.bind_some, ← Of hs, List.filter_cons]
  rw [cB (by omega) (by omega), i1, i2]
  cases surelyB s q with
  | false => rfl
  | true =>
   simp only [cond_true, if_true, List.length_cons]
   rw [show n + 1 + ((L.filter (surelyB s)).length : Int) = n + (((L.filter (surelyB s)).length + 1 : Nat) : Int) by omega]
theorem OA {s : Gs} (hs : ShOk s) : tz s = some ((sureL s).length : Int) := by
 have := KJ hs
 unfold tz
 rw [vq hs, Option.bind_some, KK hs, O9 hs _ _ _ (fun q hq => (vr hs).1 hq) (Int.le_refl _) (by omega)]
 simp only [cond_true, aN, Int.zero_add]
 rfl
def D0 (ae : Gs) : Option (Bool) := Option.bind (Dh ae) (fun r1 => cond (r1) (Option.bind (xl ae) (fun r2 => Option.bind (z9 ae) (fun r3 => Option.bind (xm ae) (fun r4 => Option.bind (Aq ae) (fun r5 => cond (r5) (Option.bind (Ac ae) (fun r6 => Option.bind (Ae ae) (fun r7 => cond (r6.2) (cond (r2.2 != 0) (some false) (Option.bind (sv r2.1 r6.1) (fun r8 => cond (r8) (cond (r7.2) (cond (r3.2 != 0) (some false) (Option.bind (sv r3.1 r7.1) (fun r9 => cond (r9) (cond (r4.2 == 0) (Option.bind (tz ae) (fun dG => cond (r4.1 == dG) (some true) (some false))) (some false)) (some false)))) (cond (r3.2 != 5) (some false) (cond ((List.length r3.1 : Int) != 0) (some false) (cond (r4.2 == 0) (Option.bind (tz ae) (fun eK => cond (r4.1 == eK) (some true) (some false))) (some false))))) (some false)))) (cond (r2.2 != 5) (some false) (cond ((List.length r2.1 : Int) != 0) (some false) (cond (r7.2) (cond (r3.2 != 0) (some false) (Option.bind (sv r3.1 r7.1) (fun jP => cond (jP) (cond (r4.2 == 0) (Option.bind (tz ae) (fun fc => cond (r4.1 == fc) (some true) (some false))) (some false)) (some false)))) (cond (r3.2 != 5) (some false) (cond ((List.length r3.1 : Int) != 0) (some false) (cond (r4.2 == 0) (Option.bind (tz ae) (fun mS => cond (r4.1 == mS) (some true) (some false))) (some false)))))))))) (cond (r2.2 == 2) (cond ((List.length r2.1 : Int) == 0) (cond (r3.2 == 2) (cond ((List.length r3.1 : Int) == 0) (cond (r4.2 == 2) (cond (r4.1 == 0) (some true) (some false)) (some false)) (some false)) (some false)) (some false)) (some false))))))) (some true))
theorem YA (ae : Gs) (R : Bool) (h : D0 ae = some R) : ad Tryz.prog G0 11 [.agg (cGs ae)] (.tree (.lit (.bool R))) := by
 refine ad.runR mixed Tryz.call11 Tryz.func11 rfl (by simp [Tryz.ntmps11]; kernel_rfl) ?_
 obtain ⟨KF, h, kF, kN⟩ := dp h
 simp only [D0] at h
 obtain ⟨sL, EX, h⟩ := optI h kN
 try simp only [hs] at h
 simp only [vz, tyf, nm, seval]
 refine ktA (WX _ _ EX) ?_
 refine aZ (fun tm => tm 1 = .ptr 0 0 ∧ tm 14 = .lit (.bool sL) ∧ True) (by refine ⟨?_, ?_, trivial⟩ <;> first | (simp only [ua, nm, seval] <;> rfl) | rfl) ?_
 rintro tm ⟨bC, cv, _⟩
 cases cl : (sL)
 ·simp only [cl, hs] at h
  simp only [vz, tyf, bC, cv, cl, nm, seval]
  refine ktree0 xT ?_
  try simp only [vz, tyf, bC, cv, cl, nm, seval]
  obtain rfl := kF _ h
  exact bB Tryz.results11 rfl
 simp only [cl, hs] at h
 obtain ⟨ib, EO, h⟩ := optI h kN
 try simp only [hs] at h
 simp only [vz, tyf, bC, cv, cl, nm, seval]
 refine ktA (RF _ _ EO) ?_
 refine aZ (fun tm => tm 1 = .ptr 0 0 ∧ tm 19 = .tup [.sl (aa eI ib.1) (List.length ib.1) false, .lit (.int .i64 ib.2)] ∧ True) (by refine ⟨bC, ?_, trivial⟩ <;> first | (simp only [ua, bC, cv, cl, nm, seval] <;> rfl) | rfl) ?_
 rintro tm ⟨bK, bD, _⟩
 obtain ⟨ff, wz, h⟩ := optI h kN
 try simp only [hs] at h
 simp only [vz, tyf, cl, bK, bD, nm, seval]
 refine ktA (V7 _ _ wz) ?_
 refine aZ (fun tm => tm 1 = .ptr 0 0 ∧ tm 3 = .sl (aa eI ib.1) (List.length ib.1) false ∧ tm 4 = .lit (.int .i64 ib.2) ∧ tm 24 = .tup [.sl (aa eI ff.1) (List.length ff.1) false, .lit (.int .i64 ff.2)] ∧ True) (by refine ⟨bK, ?_, ?_, ?_, trivial⟩ <;> first | (simp only [ua, cl, bK, bD, nm, seval] <;> rfl) | rfl) ?_
 rintro tm ⟨cH, bY, bE, bA, _⟩
 obtain ⟨fb, yh, h⟩ := optI h kN
 try simp only [hs] at h
 simp only [vz, tyf, cl, cH, bY, bE, bA, nm, seval]
 refine ktA (RG _ _ yh) ?_
 refine aZ (fun tm => tm 1 = .ptr 0 0 ∧ tm 3 = .sl (aa eI ib.1) (List.length ib.1) false ∧ tm 4 = .lit (.int .i64 ib.2) ∧ tm 5 = .sl (aa eI ff.1) (List.length ff.1) false ∧ tm 6 = .lit (.int .i64 ff.2) ∧ tm 29 = .tup [.lit (.int .i64 fb.1), .lit (.int .i64 fb.2)] ∧ True) (by refine ⟨cH, bY, bE, ?_, ?_, ?_, trivial⟩ <;> first | (simp only [ua, cl, cH, bY, bE, bA, nm, seval] <;> rfl) | rfl) ?_
 rintro tm ⟨cQ, cK, bV, gZ, dP, eu, _⟩
 obtain ⟨TJ, YB, h⟩ := optI h kN
 try simp only [hs] at h
 simp only [vz, tyf, cl, cQ, cK, bV, gZ, dP, eu, nm, seval]
 refine ktA (Wz _ _ YB) ?_
 refine aZ (fun tm => tm 1 = .ptr 0 0 ∧ tm 3 = .sl (aa eI ib.1) (List.length ib.1) false ∧ tm 4 = .lit (.int .i64 ib.2) ∧ tm 5 = .sl (aa eI ff.1) (List.length ff.1) false ∧ tm 6 = .lit (.int .i64 ff.2) ∧ tm 7 = .lit (.int .i64 fb.1) ∧ tm 8 = .lit (.int .i64 fb.2) ∧ tm 33 = .lit (.bool TJ) ∧ True) (by refine ⟨cQ, cK, bV, gZ, dP, ?_, ?_, ?_, trivial⟩ <;> first | (simp only [ua, cl, cQ, cK, bV, gZ, dP, eu, nm, seval] <;> rfl) | rfl) ?_
 rintro tm ⟨cb, cU, cV, dQ, jb, jc, eM, ep, _⟩
 cases iP : (TJ)
 ·simp only [iP, hs] at h
  cases di : (ib.2 == 2)
  ·simp only [di, hs] at h
   try simp only [vz, tyf, cl, cb, cU, cV, dQ, jb, jc, eM, ep, iP, di, nm, seval]
   obtain rfl := kF _ h
   exact bB Tryz.results11 rfl
  simp only [di, hs] at h
  cases ez : ((List.length ib.1 : Int) == 0)
  ·simp only [ez, hs] at h
   try simp only [vz, tyf, cl, cb, cU, cV, dQ, jb, jc, eM, ep, iP, di, ez, nm, seval]
   obtain rfl := kF _ h
   exact bB Tryz.results11 rfl
  simp only [ez, hs] at h
  cases xV : (ff.2 == 2)
  ·simp only [xV, hs] at h
   try simp only [vz, tyf, cl, cb, cU, cV, dQ, jb, jc, eM, ep, iP, di, ez, xV, nm, seval]
   obtain rfl := kF _ h
   exact bB Tryz.results11 rfl
  simp only [xV, hs] at h
  cases B1 : ((List.length ff.1 : Int) == 0)
  ·simp only [B1, hs] at h
   try simp only [vz, tyf, cl, cb, cU, cV, dQ, jb, jc, eM, ep, iP, di, ez, xV, B1, nm, seval]
   obtain rfl := kF _ h
   exact bB Tryz.results11 rfl
  simp only [B1, hs] at h
  cases D1 : (fb.2 == 2)
  ·simp only [D1, hs] at h
   have YC := And.intro cl (And.intro iP (And.intro di (And.intro ez (And.intro xV (And.intro B1 D1)))))
   try simp only [vz, tyf, YC, cb, cU, cV, dQ, jb, jc, eM, ep, nm, seval]
   obtain rfl := kF _ h
   exact bB Tryz.results11 rfl
  simp only [D1, hs] at h
  have OB := And.intro cl (And.intro iP (And.intro di (And.intro ez (And.intro xV (And.intro B1 D1)))))
  cases ir : (fb.1 == 0)
  ·simp only [ir, hs] at h
   try simp only [vz, tyf, OB, cb, cU, cV, dQ, jb, jc, eM, ep, ir, nm, seval]
   obtain rfl := kF _ h
   exact bB Tryz.results11 rfl
  simp only [ir, hs] at h
  simp only [vz, tyf, OB, cb, cU, cV, dQ, jb, jc, eM, ep, ir, nm, seval]
  refine ktree0 xT ?_
  try simp only [vz, tyf, OB, cb, cU, cV, dQ, jb, jc, eM, ep, ir, nm, seval]
  obtain rfl := kF _ h
  exact bB Tryz.results11 rfl
 simp only [iP, hs] at h
 obtain ⟨mU, zi, h⟩ := optI h kN
 try simp only [hs] at h
 simp only [vz, tyf, cl, cb, cU, cV, dQ, jb, jc, eM, ep, iP, nm, seval]
 refine ktA (Wo _ _ zi) ?_
 refine aZ (fun tm => tm 1 = .ptr 0 0 ∧ tm 3 = .sl (aa eI ib.1) (List.length ib.1) false ∧ tm 4 = .lit (.int .i64 ib.2) ∧ tm 5 = .sl (aa eI ff.1) (List.length ff.1) false ∧ tm 6 = .lit (.int .i64 ff.2) ∧ tm 7 = .lit (.int .i64 fb.1) ∧ tm 8 = .lit (.int .i64 fb.2) ∧ tm 64 = .tup [.sl (aa eI mU.1) (List.length mU.1) false, .lit (.bool mU.2)] ∧ True) (by refine ⟨cb, cU, cV, dQ, jb, jc, eM, ?_, trivial⟩ <;> first | (simp only [ua, cl, cb, cU, cV, dQ, jb, jc, eM, ep, iP, nm, seval] <;> rfl) | rfl) ?_
 rintro tm ⟨hO, fN, jn, fO, dR, d7, dJ, dS, _⟩
 obtain ⟨oE, EW, h⟩ := optI h kN
 try simp only [hs] at h
 simp only [vz, tyf, cl, iP, hO, fN, jn, fO, dR, d7, dJ, dS, nm, seval]
 refine ktA (Wp _ _ EW) ?_
 refine aZ (fun tm => tm 1 = .ptr 0 0 ∧ tm 3 = .sl (aa eI ib.1) (List.length ib.1) false ∧ tm 4 = .lit (.int .i64 ib.2) ∧ tm 5 = .sl (aa eI ff.1) (List.length ff.1) false ∧ tm 6 = .lit (.int .i64 ff.2) ∧ tm 7 = .lit (.int .i64 fb.1) ∧ tm 8 = .lit (.int .i64 fb.2) ∧ tm 9 = .sl (aa eI mU.1) (List.length mU.1) false ∧ tm 10 = .lit (.bool mU.2) ∧ tm 69 = .tup [.sl (aa eI oE.1) (List.length oE.1) false, .lit (.bool oE.2)] ∧ True) (by refine ⟨hO, fN, jn, fO, dR, d7, dJ, ?_, ?_, ?_, trivial⟩ <;> first | (simp only [ua, cl, iP, hO, fN, jn, fO, dR, d7, dJ, dS, nm, seval] <;> rfl) | rfl) ?_
 rintro tm ⟨dA, fX, gn, fk, fY, dI, dw, eQ, eR, eC, _⟩
 cases ma : (mU.2)
 ·simp only [ma, hs] at h
  cases tK : (ib.2 != 5)
  ·simp only [tK, hs] at h
   cases gV : ((List.length ib.1 : Int) != 0)
   ·simp only [gV, hs] at h
    cases xW : (oE.2)
    ·simp only [xW, hs] at h
     cases qB : (ff.2 != 5)
     ·simp only [qB, hs] at h
      have vY := And.intro cl (And.intro iP (And.intro ma (And.intro tK (And.intro gV (And.intro xW qB)))))
      cases sw : ((List.length ff.1 : Int) != 0)
      ·simp only [sw, hs] at h
       cases np : (fb.2 == 0)
       ·simp only [np, hs] at h
        try simp only [vz, tyf, vY, dA, fX, gn, fk, fY, dI, dw, eQ, eR, eC, sw, np, nm, seval]
        obtain rfl := kF _ h
        exact bB Tryz.results11 rfl
       simp only [np, hs] at h
       obtain ⟨TK, YD, h⟩ := optI h kN
       try simp only [hs] at h
       simp only [vz, tyf, vY, dA, fX, gn, fk, fY, dI, dw, eQ, eR, eC, sw, np, nm, seval]
       refine ktA (CY _ _ YD) ?_
       refine aZ (fun tm => tm 124 = .lit (.bool true) ∧ tm 125 = .lit (.int .i64 fb.1) ∧ tm 127 = .lit (.int .i64 TK) ∧ True) (by refine ⟨?_, ?_, ?_, trivial⟩ <;> first | (simp only [ua, vY, dA, fX, gn, fk, fY, dI, dw, eQ, eR, eC, sw, np, nm, seval] <;> rfl) | rfl) ?_
       rintro tm ⟨fx, fy, eT, _⟩
       cases nZ : (fb.1 == TK)
       ·simp only [nZ, hs] at h
        try simp only [vz, tyf, vY, sw, np, fx, fy, eT, nZ, nm, seval]
        obtain rfl := kF _ h
        exact bB Tryz.results11 rfl
       simp only [nZ, hs] at h
       simp only [vz, tyf, vY, sw, np, fx, fy, eT, nZ, nm, seval]
       refine ktree0 xT ?_
       try simp only [vz, tyf, vY, sw, np, fx, fy, eT, nZ, nm, seval]
       obtain rfl := kF _ h
       exact bB Tryz.results11 rfl
      simp only [sw, hs] at h
      try simp only [vz, tyf, vY, dA, fX, gn, fk, fY, dI, dw, eQ, eR, eC, sw, nm, seval]
      obtain rfl := kF _ h
      exact bB Tryz.results11 rfl
     simp only [qB, hs] at h
     have YE := And.intro cl (And.intro iP (And.intro ma (And.intro tK (And.intro gV (And.intro xW qB)))))
     try simp only [vz, tyf, YE, dA, fX, gn, fk, fY, dI, dw, eQ, eR, eC, nm, seval]
     obtain rfl := kF _ h
     exact bB Tryz.results11 rfl
    simp only [xW, hs] at h
    cases D2 : (ff.2 != 0)
    ·simp only [D2, hs] at h
     have oM := And.intro cl (And.intro iP (And.intro ma (And.intro tK (And.intro gV (And.intro xW D2)))))
     obtain ⟨TL, YF, h⟩ := optI h kN
     try simp only [hs] at h
     simp only [vz, tyf, oM, dA, fX, gn, fk, fY, dI, dw, eQ, eR, eC, nm, seval]
     refine ktA (Oz _ _ _ YF) ?_
     refine aZ (fun tm => tm 1 = .ptr 0 0 ∧ tm 7 = .lit (.int .i64 fb.1) ∧ tm 8 = .lit (.int .i64 fb.2) ∧ tm 109 = .lit (.bool false) ∧ tm 111 = .lit (.bool true) ∧ tm 114 = .lit (.bool false) ∧ tm 117 = .lit (.bool TL) ∧ True) (by refine ⟨dA, dI, dw, ?_, ?_, ?_, ?_, trivial⟩ <;> first | (simp only [ua, oM, dA, fX, gn, fk, fY, dI, dw, eQ, eR, eC, nm, seval] <;> rfl) | rfl) ?_
     rintro tm ⟨oT, km, dj, dK, cW, eD, eE, _⟩
     cases iZ : (TL)
     ·simp only [iZ, hs] at h
      try simp only [vz, tyf, oM, oT, km, dj, dK, cW, eD, eE, iZ, nm, seval]
      obtain rfl := kF _ h
      exact bB Tryz.results11 rfl
     simp only [iZ, hs] at h
     cases dx : (fb.2 == 0)
     ·simp only [dx, hs] at h
      try simp only [vz, tyf, oM, oT, km, dj, dK, cW, eD, eE, iZ, dx, nm, seval]
      obtain rfl := kF _ h
      exact bB Tryz.results11 rfl
     simp only [dx, hs] at h
     obtain ⟨B2, pq, h⟩ := optI h kN
     try simp only [hs] at h
     simp only [vz, tyf, oM, oT, km, dj, dK, cW, eD, eE, iZ, dx, nm, seval]
     refine ktA (CY _ _ pq) ?_
     refine aZ (fun tm => tm 124 = .lit (.bool true) ∧ tm 125 = .lit (.int .i64 fb.1) ∧ tm 127 = .lit (.int .i64 B2) ∧ True) (by refine ⟨?_, ?_, ?_, trivial⟩ <;> first | (simp only [ua, oM, oT, km, dj, dK, cW, eD, eE, iZ, dx, nm, seval] <;> rfl) | rfl) ?_
     rintro tm ⟨vZ, gu, eF, _⟩
     cases pN : (fb.1 == B2)
     ·simp only [pN, hs] at h
      try simp only [vz, tyf, oM, iZ, dx, vZ, gu, eF, pN, nm, seval]
      obtain rfl := kF _ h
      exact bB Tryz.results11 rfl
     simp only [pN, hs] at h
     simp only [vz, tyf, oM, iZ, dx, vZ, gu, eF, pN, nm, seval]
     refine ktree0 xT ?_
     try simp only [vz, tyf, oM, iZ, dx, vZ, gu, eF, pN, nm, seval]
     obtain rfl := kF _ h
     exact bB Tryz.results11 rfl
    simp only [D2, hs] at h
    have OC := And.intro cl (And.intro iP (And.intro ma (And.intro tK (And.intro gV (And.intro xW D2)))))
    try simp only [vz, tyf, OC, dA, fX, gn, fk, fY, dI, dw, eQ, eR, eC, nm, seval]
    obtain rfl := kF _ h
    exact bB Tryz.results11 rfl
   simp only [gV, hs] at h
   try simp only [vz, tyf, cl, iP, dA, fX, gn, fk, fY, dI, dw, eQ, eR, eC, ma, tK, gV, nm, seval]
   obtain rfl := kF _ h
   exact bB Tryz.results11 rfl
  simp only [tK, hs] at h
  try simp only [vz, tyf, cl, iP, dA, fX, gn, fk, fY, dI, dw, eQ, eR, eC, ma, tK, nm, seval]
  obtain rfl := kF _ h
  exact bB Tryz.results11 rfl
 simp only [ma, hs] at h
 cases jU : (ib.2 != 0)
 ·simp only [jU, hs] at h
  obtain ⟨B3, OD, h⟩ := optI h kN
  try simp only [hs] at h
  simp only [vz, tyf, cl, iP, dA, fX, gn, fk, fY, dI, dw, eQ, eR, eC, ma, jU, nm, seval]
  refine ktA (Oz _ _ _ OD) ?_
  refine aZ (fun tm => tm 1 = .ptr 0 0 ∧ tm 5 = .sl (aa eI ff.1) (List.length ff.1) false ∧ tm 6 = .lit (.int .i64 ff.2) ∧ tm 7 = .lit (.int .i64 fb.1) ∧ tm 8 = .lit (.int .i64 fb.2) ∧ tm 11 = .sl (aa eI oE.1) (List.length oE.1) false ∧ tm 12 = .lit (.bool oE.2) ∧ tm 83 = .lit (.bool false) ∧ tm 85 = .lit (.bool true) ∧ tm 88 = .lit (.bool false) ∧ tm 91 = .lit (.bool B3) ∧ True) (by refine ⟨dA, fk, fY, dI, dw, ?_, ?_, ?_, ?_, ?_, ?_, trivial⟩ <;> first | (simp only [ua, cl, iP, dA, fX, gn, fk, fY, dI, dw, eQ, eR, eC, ma, jU, nm, seval] <;> rfl) | rfl) ?_
  rintro tm ⟨fW, gO, gP, gC, gD, iy, eh, ei, ej, dr, dD, _⟩
  cases mH : (B3)
  ·simp only [mH, hs] at h
   try simp only [vz, tyf, cl, iP, ma, jU, fW, gO, gP, gC, gD, iy, eh, ei, ej, dr, dD, mH, nm, seval]
   obtain rfl := kF _ h
   exact bB Tryz.results11 rfl
  simp only [mH, hs] at h
  cases nI : (oE.2)
  ·simp only [nI, hs] at h
   cases da : (ff.2 != 5)
   ·simp only [da, hs] at h
    have mI := And.intro cl (And.intro iP (And.intro ma (And.intro jU (And.intro mH (And.intro nI da)))))
    cases kK : ((List.length ff.1 : Int) != 0)
    ·simp only [kK, hs] at h
     cases lJ : (fb.2 == 0)
     ·simp only [lJ, hs] at h
      try simp only [vz, tyf, mI, fW, gO, gP, gC, gD, iy, eh, ei, ej, dr, dD, kK, lJ, nm, seval]
      obtain rfl := kF _ h
      exact bB Tryz.results11 rfl
     simp only [lJ, hs] at h
     obtain ⟨B4, OE, h⟩ := optI h kN
     try simp only [hs] at h
     simp only [vz, tyf, mI, fW, gO, gP, gC, gD, iy, eh, ei, ej, dr, dD, kK, lJ, nm, seval]
     refine ktA (CY _ _ OE) ?_
     refine aZ (fun tm => tm 124 = .lit (.bool true) ∧ tm 125 = .lit (.int .i64 fb.1) ∧ tm 127 = .lit (.int .i64 B4) ∧ True) (by refine ⟨?_, ?_, ?_, trivial⟩ <;> first | (simp only [ua, mI, fW, gO, gP, gC, gD, iy, eh, ei, ej, dr, dD, kK, lJ, nm, seval] <;> rfl) | rfl) ?_
     rintro tm ⟨dU, gv, iq, _⟩
     cases lu : (fb.1 == B4)
     ·simp only [lu, hs] at h
      try simp only [vz, tyf, mI, kK, lJ, dU, gv, iq, lu, nm, seval]
      obtain rfl := kF _ h
      exact bB Tryz.results11 rfl
     simp only [lu, hs] at h
     simp only [vz, tyf, mI, kK, lJ, dU, gv, iq, lu, nm, seval]
     refine ktree0 xT ?_
     try simp only [vz, tyf, mI, kK, lJ, dU, gv, iq, lu, nm, seval]
     obtain rfl := kF _ h
     exact bB Tryz.results11 rfl
    simp only [kK, hs] at h
    try simp only [vz, tyf, mI, fW, gO, gP, gC, gD, iy, eh, ei, ej, dr, dD, kK, nm, seval]
    obtain rfl := kF _ h
    exact bB Tryz.results11 rfl
   simp only [da, hs] at h
   have OF := And.intro cl (And.intro iP (And.intro ma (And.intro jU (And.intro mH (And.intro nI da)))))
   try simp only [vz, tyf, OF, fW, gO, gP, gC, gD, iy, eh, ei, ej, dr, dD, nm, seval]
   obtain rfl := kF _ h
   exact bB Tryz.results11 rfl
  simp only [nI, hs] at h
  cases f8 : (ff.2 != 0)
  ·simp only [f8, hs] at h
   have kL := And.intro cl (And.intro iP (And.intro ma (And.intro jU (And.intro mH (And.intro nI f8)))))
   obtain ⟨py, vE, h⟩ := optI h kN
   try simp only [hs] at h
   simp only [vz, tyf, kL, fW, gO, gP, gC, gD, iy, eh, ei, ej, dr, dD, nm, seval]
   refine ktA (Oz _ _ _ vE) ?_
   refine aZ (fun tm => tm 1 = .ptr 0 0 ∧ tm 7 = .lit (.int .i64 fb.1) ∧ tm 8 = .lit (.int .i64 fb.2) ∧ tm 109 = .lit (.bool false) ∧ tm 111 = .lit (.bool true) ∧ tm 114 = .lit (.bool false) ∧ tm 117 = .lit (.bool py) ∧ True) (by refine ⟨fW, gC, gD, ?_, ?_, ?_, ?_, trivial⟩ <;> first | (simp only [ua, kL, fW, gO, gP, gC, gD, iy, eh, ei, ej, dr, dD, nm, seval] <;> rfl) | rfl) ?_
   rintro tm ⟨k9, kC, lv, lx, sx, sy, s5, _⟩
   cases kM : (py)
   ·simp only [kM, hs] at h
    try simp only [vz, tyf, kL, k9, kC, lv, lx, sx, sy, s5, kM, nm, seval]
    obtain rfl := kF _ h
    exact bB Tryz.results11 rfl
   simp only [kM, hs] at h
   cases lK : (fb.2 == 0)
   ·simp only [lK, hs] at h
    try simp only [vz, tyf, kL, k9, kC, lv, lx, sx, sy, s5, kM, lK, nm, seval]
    obtain rfl := kF _ h
    exact bB Tryz.results11 rfl
   simp only [lK, hs] at h
   obtain ⟨B5, OG, h⟩ := optI h kN
   try simp only [hs] at h
   simp only [vz, tyf, kL, k9, kC, lv, lx, sx, sy, s5, kM, lK, nm, seval]
   refine ktA (CY _ _ OG) ?_
   refine aZ (fun tm => tm 124 = .lit (.bool true) ∧ tm 125 = .lit (.int .i64 fb.1) ∧ tm 127 = .lit (.int .i64 B5) ∧ True) (by refine ⟨?_, ?_, ?_, trivial⟩ <;> first | (simp only [ua, kL, k9, kC, lv, lx, sx, sy, s5, kM, lK, nm, seval] <;> rfl) | rfl) ?_
   rintro tm ⟨wa, wb, wc, _⟩
   cases pO : (fb.1 == B5)
   ·simp only [pO, hs] at h
    try simp only [vz, tyf, kL, kM, lK, wa, wb, wc, pO, nm, seval]
    obtain rfl := kF _ h
    exact bB Tryz.results11 rfl
   simp only [pO, hs] at h
   simp only [vz, tyf, kL, kM, lK, wa, wb, wc, pO, nm, seval]
   refine ktree0 xT ?_
   try simp only [vz, tyf, kL, kM, lK, wa, wb, wc, pO, nm, seval]
   obtain rfl := kF _ h
   exact bB Tryz.results11 rfl
  simp only [f8, hs] at h
  have OH := And.intro cl (And.intro iP (And.intro ma (And.intro jU (And.intro mH (And.intro nI f8)))))
  try simp only [vz, tyf, OH, fW, gO, gP, gC, gD, iy, eh, ei, ej, dr, dD, nm, seval]
  obtain rfl := kF _ h
  exact bB Tryz.results11 rfl
 simp only [jU, hs] at h
 try simp only [vz, tyf, cl, iP, dA, fX, gn, fk, fY, dI, dw, eQ, eR, eC, ma, jU, nm, seval]
 obtain rfl := kF _ h
 exact bB Tryz.results11 rfl
theorem YG (s : Gs) (h : lenOk s.Tins = true) : D0 s = some true := by
 unfold D0
 rw [show Dh s = some (decide ((List.length s.Tins : Int) ≤ 6)) from rfl, O2 h, O3 h, O5 h, LI h]
 cases decide ((List.length s.Tins : Int) ≤ 6) with
 | false => rfl
 | true =>
 simp only [Option.bind_some, cond_true]
 cases hb : sheetB s with
 | false => rfl
 | true =>
  have hs := ShOk.of hb
  have h1 : ∀ q ∈ sureL s, sv q q = some true := fun q hq => TH (((vr hs).1 (List.mem_filter.1 hq).1).lenOk hs)
  have h2 : ∀ q ∈ mayL s, sv q q = some true := fun q hq => TH (((vr hs).1 (List.mem_filter.1 hq).1).lenOk hs)
  simp only [cond_true, O6 hs, O8 hs, OA hs, Option.bind_some, beq_self_eq_true]
  revert h1 h2
  cases sureL s with
  | nil =>
   cases mayL s with
   | nil => intro _ _; rfl
   | cons b m =>
    intro _ h2
    simp only [hdE, hdF, cond_true, cond_false, h2 b (List.mem_cons_self ..), Option.bind_some]
    rfl
  | cons a l =>
   cases mayL s with
   | nil =>
    intro h1 _
    simp only [hdE, hdF, cond_true, cond_false, h1 a (List.mem_cons_self ..), Option.bind_some]
    rfl
   | cons b m =>
    intro h1 h2
    simp only [hdE, hdF, cond_true, cond_false, h1 a (List.mem_cons_self ..), h2 b (List.mem_cons_self ..), Option.bind_some]
    rfl
end Go.V
end
