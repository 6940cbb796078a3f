/- Part of a proof. -/
import Derived.Test.YtekhjalgmlflpaaGreatDoorWbm
import Derived.Test.YtekhjalgmlflpaaGreatDoorWbk
set_option linter.all false
set_option maxRecDepth 4000
set_option maxHeartbeats 40000000
section
namespace Go.V
open Go Go.Proofs
theorem zacc {a b : VV} : vfield Tryz.prog 24 (.agg [a, b]) 0 = some a := by
 have h1 : aggT Tryz.prog 3 = some false := by kernel_rfl
 have h2 : szT Tryz.prog 3 = some 1 := by kernel_rfl
 simp [vfield, Tryz.underlying24, vpart, h1, h2]
theorem zabx {a b : VV} : vfield Tryz.prog 24 (.agg [a, b]) 1 = some b := by
 have h1 : aggT Tryz.prog 3 = some false := by kernel_rfl
 have h2 : szT Tryz.prog 3 = some 1 := by kernel_rfl
 simp [vfield, Tryz.underlying24, vpart, h1, h2]
def fdL (s : Gs) (am : Ga) (d : Gi) : List Gt → Option Bool
 | [] => some true
 | t :: p => Option.bind (zby d t.pg) fun v => Option.bind (zeb d) fun z => Option.bind (zby d am) fun w => cond (decide (IntKind.i64.wrap (v.High + IntKind.i64.wrap (s.Off * z)) ≥ w.Low)) (some false) (fdL s am d p)
def fdirL (s : Gs) (am : Ga) : List Gi → Option (Gi × Bool)
 | [] => some (⟨0, 0, 0⟩, false)
 | d :: L => Option.bind (fdL s am d s.Tins) fun t => cond t (some (d, true)) (fdirL s am L)
def zfc (s : Gs) : Option (Gi × Bool) := Option.bind (zfr s) fun am => Option.bind zyd fun L => cond (lenOk s.Tins) (fdirL s am L) none
theorem zij (s : Gs) (R : Gi × Bool) (h : zfc s = some R) : VPure Tryz.prog G0 73 [.agg (cGs s)] (.tree (.tup [.agg (cGi R.1), .lit (.bool R.2)])) := by
 refine VPure.runR mixed Tryz.call73 Tryz.func73 rfl (by simp [Tryz.ntmps73]; kernel_rfl) ?_
 unfold zfc at h
 rcases o1 : zfr s with _ | am
 ·rw [o1] at h; cases h
 rw [o1, Option.bind_some] at h
 rcases o2 : zyd with _ | L
 ·rw [o2] at h; cases h
 rw [o2, Option.bind_some] at h
 cases o3 : lenOk s.Tins with
 | false => rw [o3] at h; cases h
 | true =>
 rw [o3, cond_true] at h
 have hi := zafy L o2
 simp only [vz, tyf, seval, ua, rg]
 refine zxk mixed (by kernel_rfl) ?_
 simp only [vz, tyf, seval, ua, rg]
 refine ktA (zhp _ _ o1) ?_
 simp only [vz, tyf, seval, ua, rg]
 refine ktree (args0 := []) (by simp only [nrm]) rfl zaow ?_
 refine zab (fun tm => tm 1 = .ptr 0 0 ∧ tm 2 = .ptr 1 0 ∧ tm 3 = .ptr 2 0 ∧ tm 4 = .ptr 5 0 ∧ tm 10 = itD) (by refine ⟨?_, ?_, ?_, ?_, ?_⟩ <;> simp only [ua, seval]) ?_
 rintro tm ⟨e1, e2, e3, e4, e10⟩
 simp only [vz, tyf, seval, ua, rg]
 refine zhj hi (by first | (simp only [znz, zje, e10, zfg, seval] <;> rfl) | rfl) ?_
 intro LO hLO
 obtain ⟨J, hJ⟩ : ∃ J : Option (List VV) → List (Nat × VObj) → Prop, J = (fun o hp => match o with
  | some l => ∃ p : List Gi, l = p.map sD ∧ hp = [(8, .deferred (some [])), (9, LO), (0, .cells (some 28) (cGs s)), (1, .cells (some 99) (cGi ⟨0, 0, 0⟩)), (2, .cells (some 4) [.lit (.bool false)]), (5, .cells (some 25) (cGa am))] ∧ fdirL s am p = some R
  | none => ∃ LD : Code → VObj, (∃ tml ps az bo d, LD = fun c => VObj.loop .done (some c) tml ps az bo d) ∧ hp = [(8, .deferred (some [])), (9, LD .ret), (0, .cells (some 28) (cGs s)), (1, .cells (some 99) (cGi R.1)), (2, .cells (some 4) [.lit (.bool true)]), (5, .cells (some 25) (cGa am))] ∧ R.2 = true) := ⟨_, rfl⟩
 refine ⟨ownI J, zkc, ?_, ?_, ?_⟩
 ·rintro v rest Fr H nx hFr ⟨hp, hown, hj⟩
  rw [hJ] at hj
  obtain ⟨p, hl, rfl, hR⟩ := hj
  cases p with
  | nil => cases hl
  | cons d p =>
  simp only [List.map_cons, List.cons.injEq] at hl
  obtain ⟨rfl, rfl⟩ := hl
  obtain ⟨l8, n8, H8⟩ := hown.head
  obtain ⟨l9, n9, H9⟩ := hown.tail.head
  obtain ⟨l0, n0, H0⟩ := hown.tail.tail.head
  obtain ⟨l1, n1, H1⟩ := hown.tail.tail.tail.head
  obtain ⟨l2, n2, H2⟩ := hown.tail.tail.tail.tail.head
  obtain ⟨l5, n5, H5⟩ := hown.tail.tail.tail.tail.tail.head
  refine zfv mixed (psl := [11]) hLO H9 zgz rfl (by kernel_rfl) (by kernel_rfl) ?_
  intro LB LD hLB hLD
  refine zis (fun tm => tm 1 = .ptr 0 0 ∧ tm 2 = .ptr 1 0 ∧ tm 3 = .ptr 2 0 ∧ tm 4 = .ptr 5 0 ∧ tm 11 = sD d) (by refine ⟨?_, ?_, ?_, ?_, ?_⟩ <;> simp only [zlb, ziy, Tryz.ntmps73, e1, e2, e3, e4, seval]) ?_
  clear e1 e2 e3 e4 e10
  rintro tm ⟨e1, e2, e3, e4, e11⟩
  have m1 : (9 = nx) = False := by simp; omega
  have m2 : (nx = 9) = False := by simp; omega
  have m3 : (0 = nx) = False := by simp; omega
  have m4 : (nx = 0) = False := by simp; omega
  simp only [vz, tyf, seval, ua, nm, rg, RStart, e1, e2, e3, e4, e11, H9, H0, Nat.add_zero, m1, m2, m3, m4]
  unfold fdirL at hR
  rcases hT : fdL s am d s.Tins with _ | t
  ·rw [hT] at hR; cases hR
  rw [hT, Option.bind_some] at hR
  obtain ⟨I0, hI0⟩ : ∃ I0 : Nat → St → Prop, I0 = (fun m st => ∃ (q : List Gt) (c : Int), m = q.length ∧ 0 ≤ c ∧ List.drop (Int.toNat c) s.Tins = q ∧ st.df = [] ∧ nx + 6 ≤ st.nx ∧ (∀ γ, γ < nx → st.H γ = updH H 9 LB γ) ∧ st.H nx = some (.cells (some 99) (cGi d)) ∧
   st.tm 1 = .ptr 0 0 ∧ st.tm 2 = .ptr 1 0 ∧ st.tm 3 = .ptr 2 0 ∧ st.tm 4 = .ptr 5 0 ∧ st.tm 5 = .ptr nx 0 ∧ st.tm 13 = .sl (cellsL cGt s.Tins) (List.length s.Tins) false ∧ st.tm 14 = .lit (.int .i64 (List.length s.Tins)) ∧ st.tm 15 = .lit (.int .i64 c) ∧ fdL s am d q = some t) := ⟨_, rfl⟩
  refine loopK mixed (by kernel_rfl) I0 (List.length s.Tins) (by
   rw [hI0]
   refine ⟨s.Tins, 0, rfl, Int.le_refl _, rfl, rfl, (by show nx + 6 ≤ nx + 6; omega), ?_, ?_, ?_, ?_, ?_, ?_, ?_, ?_, ?_, ?_, hT⟩
   ·intro γ hγ
    simp only [updH]
    by_cases g9 : γ = 9
    ·rw [if_pos g9, if_pos g9]
    ·rw [if_neg g9, if_neg (by omega), if_neg (by omega), if_neg g9]
   ·simp only [zaa, Nat.add_zero, m1, m2, seval] <;> rfl
   all_goals simp only [ua, seval, e1, e2, e3, e4]) ?_
  rintro m ⟨tm, K, kx, df⟩ hinv
  rw [hI0] at hinv
  obtain ⟨q, c, rfl, hc, hq, hdf, hkx, hK, Kx, f1, f2, f3, f4, f5, f13, f14, f15, hT2⟩ := hinv
  simp only at hdf hkx hK Kx f1 f2 f3 f4 f5 f13 f14 f15
  subst hdf
  have K0 : K 0 = some (.cells (some 28) (cGs s)) := by
   rw [hK 0 (by omega)]
   simp only [updH]
   rw [if_neg (by omega)]
   exact H0
  have K5 : K 5 = some (.cells (some 25) (cGa am)) := by
   rw [hK 5 (by omega)]
   simp only [updH]
   rw [if_neg (by omega)]
   exact H5
  have K8 : K 8 = some (.deferred (some [])) := by
   rw [hK 8 (by omega)]
   simp only [updH]
   rw [if_neg (by omega)]
   exact H8
  have K9 : K 9 = some LB := by
   rw [hK 9 (by omega)]
   simp only [zaa, seval]
  have K1 : K 1 = some (.cells (some 99) (cGi ⟨0, 0, 0⟩)) := by
   rw [hK 1 (by omega)]
   simp only [updH]
   rw [if_neg (by omega)]
   exact H1
  have K2 : K 2 = some (.cells (some 4) [.lit (.bool false)]) := by
   rw [hK 2 (by omega)]
   simp only [updH]
   rw [if_neg (by omega)]
   exact H2
  cases q with
  | nil =>
   have hd1 : decide (c < (List.length s.Tins : Int)) = false := zbe hc hq
   simp only [fdL, Option.some.injEq] at hT2
   subst hT2
   simp only [cond_true, Option.some.injEq] at hR
   subst hR
   simp only [vz, tyf, seval, ua, nm, rg, f1, f2, f3, f4, f5, f13, f14, f15, hd1, K1, K2, Kx]
   refine ⟨?_, (show nx ≤ kx + 4 by omega), fun γ hγ => ?_, ?_⟩
   ·simp only [updH]
    repeat rw [if_neg (by omega)]
    exact K9
   ·have gx := hFr γ hγ
    have g9 : γ ≠ 9 := fun e => n9 (e ▸ hγ)
    have g1 : γ ≠ 1 := fun e => n1 (e ▸ hγ)
    have g2 : γ ≠ 2 := fun e => n2 (e ▸ hγ)
    simp only [updH]
    rw [if_neg g9, if_neg g2, if_neg g1, hK γ gx]
    simp only [updH]
    rw [if_neg g9]
   ·simp only [Bool.false_eq_true, if_false]
    refine ⟨[(8, .deferred (some [])), (9, LD .ret), (0, .cells (some 28) (cGs s)), (1, .cells (some 99) (cGi d)), (2, .cells (some 4) [.lit (.bool true)]), (5, .cells (some 25) (cGa am))], Own.cons (show 8 < kx + 4 by omega) n8 ?_ (Own.cons (show 9 < kx + 4 by omega) n9 ?_ (Own.cons (show 0 < kx + 4 by omega) n0 ?_ (Own.cons (show 1 < kx + 4 by omega) n1 ?_ (Own.cons (show 2 < kx + 4 by omega) n2 ?_ (Own.cons (show 5 < kx + 4 by omega) n5 ?_ Own.nil))))), ?_⟩
    rotate_left 6
    ·rw [hJ]
     exact ⟨LD, ⟨_, _, _, _, _, hLD⟩, rfl, rfl⟩
    all_goals (simp only [zaa, seval, K8, K0, K5] <;> rfl)
  | cons x q =>
   have hd1 : decide (c < (List.length s.Tins : Int)) = true := zcu hc hq
   have o := zbb hc hq
   have hw := zds hc hq o3
   have x1 : (0 = kx + 3) = False := by simp
   have x2 : (5 = kx + 3) = False := by simp; omega
   have x3 : (nx = kx + 3) = False := by simp; omega
   simp only [vz, tyf, seval, ua, nm, rg, f1, f2, f3, f4, f5, f13, f14, f15, hd1, K0, K5, Kx, (ix26 o)]
   refine zgf (fun tm => tm 1 = .ptr 0 0 ∧ tm 2 = .ptr 1 0 ∧ tm 3 = .ptr 2 0 ∧ tm 4 = .ptr 5 0 ∧ tm 5 = .ptr nx 0 ∧ tm 7 = .ptr (kx + 3) 0 ∧ tm 13 = .sl (cellsL cGt s.Tins) (List.length s.Tins) false ∧ tm 14 = .lit (.int .i64 (List.length s.Tins)) ∧ tm 15 = .lit (.int .i64 c)) (by refine ⟨?_, ?_, ?_, ?_, ?_, ?_, ?_, ?_, ?_⟩ <;> simp only [ua, seval, f1, f2, f3, f4, f5, f13, f14, f15]) ?_
   clear f1 f2 f3 f4 f5 f13 f14 f15 tm
   rintro tm ⟨f1, f2, f3, f4, f5, f7, f13, f14, f15⟩
   simp only [fdL] at hT2
   rcases ov : zby d x.pg with _ | v
   ·rw [ov] at hT2; cases hT2
   rw [ov, Option.bind_some] at hT2
   rcases oz : zeb d with _ | z
   ·rw [oz] at hT2; cases hT2
   rw [oz, Option.bind_some] at hT2
   rcases ow : zby d am with _ | w
   ·rw [ow] at hT2; cases hT2
   rw [ow, Option.bind_some] at hT2
   simp only [vz, tyf, seval, ua, nm, rg, f1, f4, f5, f7, K0, K5, Kx, x1, x2, x3, zacc, zabx]
   refine dktA (zfe _ _ _ ov) ?_
   refine zab (fun tm => tm 1 = .ptr 0 0 ∧ tm 2 = .ptr 1 0 ∧ tm 3 = .ptr 2 0 ∧ tm 4 = .ptr 5 0 ∧ tm 5 = .ptr nx 0 ∧ tm 13 = .sl (cellsL cGt s.Tins) (List.length s.Tins) false ∧ tm 14 = .lit (.int .i64 (List.length s.Tins)) ∧ tm 15 = .lit (.int .i64 c) ∧ tm 22 = .agg (cGSpan v)) (by refine ⟨?_, ?_, ?_, ?_, ?_, ?_, ?_, ?_, ?_⟩ <;> (simp only [ua, seval, f1, f2, f3, f4, f5, f13, f14, f15, f7] <;> rfl)) ?_
   clear f1 f2 f3 f4 f5 f13 f14 f15  f7 tm
   rintro tm ⟨f1, f2, f3, f4, f5, f13, f14, f15, f22⟩
   simp only [vz, tyf, seval, ua, nm, rg, f1, f4, f5, f22, K0, K5, Kx, x1, x2, x3, zacc, zabx]
   refine dktA (zix _ _ oz) ?_
   refine zab (fun tm => tm 1 = .ptr 0 0 ∧ tm 2 = .ptr 1 0 ∧ tm 3 = .ptr 2 0 ∧ tm 4 = .ptr 5 0 ∧ tm 5 = .ptr nx 0 ∧ tm 13 = .sl (cellsL cGt s.Tins) (List.length s.Tins) false ∧ tm 14 = .lit (.int .i64 (List.length s.Tins)) ∧ tm 15 = .lit (.int .i64 c) ∧ tm 23 = .lit (.int .i64 v.High) ∧ tm 25 = .lit (.int .i64 s.Off) ∧ tm 27 = .lit (.int .i64 z)) (by refine ⟨?_, ?_, ?_, ?_, ?_, ?_, ?_, ?_, ?_, ?_, ?_⟩ <;> (simp only [ua, seval, f1, f2, f3, f4, f5, f13, f14, f15, f22] <;> rfl)) ?_
   clear f1 f2 f3 f4 f5 f13 f14 f15  f22 tm
   rintro tm ⟨f1, f2, f3, f4, f5, f13, f14, f15, f23, f25, f27⟩
   simp only [vz, tyf, seval, ua, nm, rg, f1, f4, f5, f23, f25, f27, K0, K5, Kx, x1, x2, x3, zacc, zabx]
   refine dktA (zfe _ _ _ ow) ?_
   refine zab (fun tm => tm 1 = .ptr 0 0 ∧ tm 2 = .ptr 1 0 ∧ tm 3 = .ptr 2 0 ∧ tm 4 = .ptr 5 0 ∧ tm 5 = .ptr nx 0 ∧ tm 13 = .sl (cellsL cGt s.Tins) (List.length s.Tins) false ∧ tm 14 = .lit (.int .i64 (List.length s.Tins)) ∧ tm 15 = .lit (.int .i64 c) ∧ tm 29 = .lit (.int .i64 (IntKind.i64.wrap (v.High + IntKind.i64.wrap (s.Off * z)))) ∧ tm 32 = .agg (cGSpan w)) (by refine ⟨?_, ?_, ?_, ?_, ?_, ?_, ?_, ?_, ?_, ?_⟩ <;> (simp only [ua, seval, f1, f2, f3, f4, f5, f13, f14, f15, f23, f25, f27] <;> rfl)) ?_
   clear f1 f2 f3 f4 f5 f13 f14 f15  f23  f25  f27 tm
   rintro tm ⟨f1, f2, f3, f4, f5, f13, f14, f15, f29, f32⟩
   cases hcmp : decide (IntKind.i64.wrap (v.High + IntKind.i64.wrap (s.Off * z)) ≥ w.Low) with
   | true =>
    rw [hcmp, cond_true, Option.some.injEq] at hT2
    subst hT2
    rw [cond_false] at hR
    simp only [vz, tyf, seval, ua, nm, rg, f1, f4, f5, f29, f32, K0, K5, Kx, x1, x2, x3, zacc, zabx, hcmp]
    refine ⟨?_, (show nx ≤ kx + 21 by omega), fun γ hγ => ?_, ?_⟩
    ·simp only [updH]
     repeat rw [if_neg (by omega)]
     exact K9
    ·have gx := hFr γ hγ
     have g9 : γ ≠ 9 := fun e => n9 (e ▸ hγ)
     simp only [updH]
     rw [if_neg g9, if_neg (by omega), if_neg (by omega), hK γ gx]
     simp only [updH]
     rw [if_neg g9]
    ·simp only [if_true]
     refine ⟨[(8, .deferred (some [])), (9, LO), (0, .cells (some 28) (cGs s)), (1, .cells (some 99) (cGi ⟨0, 0, 0⟩)), (2, .cells (some 4) [.lit (.bool false)]), (5, .cells (some 25) (cGa am))], Own.cons (show 8 < kx + 21 by omega) n8 ?_ (Own.cons (show 9 < kx + 21 by omega) n9 ?_ (Own.cons (show 0 < kx + 21 by omega) n0 ?_ (Own.cons (show 1 < kx + 21 by omega) n1 ?_ (Own.cons (show 2 < kx + 21 by omega) n2 ?_ (Own.cons (show 5 < kx + 21 by omega) n5 ?_ Own.nil))))), ?_⟩
     rotate_left 6
     ·rw [hJ]
      exact ⟨p, rfl, rfl, hR⟩
     ·simp only [updH]
      repeat rw [if_neg (by omega)]
      exact K8
     ·simp only [zaa, seval]
     ·simp only [updH]
      repeat rw [if_neg (by omega)]
      exact K0
     ·simp only [updH]
      repeat rw [if_neg (by omega)]
      exact K1
     ·simp only [updH]
      repeat rw [if_neg (by omega)]
      exact K2
     ·simp only [updH]
      repeat rw [if_neg (by omega)]
      exact K5
   | false =>
    rw [hcmp, cond_false] at hT2
    simp only [vz, tyf, seval, ua, nm, rg, f1, f4, f5, f29, f32, f15, K0, K5, Kx, x1, x2, x3, zacc, zabx, hcmp, hw]
    refine ⟨q.length, Nat.lt_succ_self _, ?_⟩
    rw [hI0]
    refine ⟨q, c + 1, rfl, by omega, zbr hc hq, rfl, (by show nx + 6 ≤ kx + 23; omega), ?_, ?_, ?_, ?_, ?_, ?_, ?_, ?_, ?_, ?_, hT2⟩
    ·intro γ hγ
     simp only [updH]
     rw [if_neg (by omega), if_neg (by omega)]
     exact hK γ hγ
    ·simp only [updH]
     rw [if_neg (by omega), if_neg (by omega)]
     exact Kx
    all_goals simp only [ua, seval, f1, f2, f3, f4, f5, f13, f14]
 ·refine ⟨[(8, .deferred (some [])), (9, LO), (0, .cells (some 28) (cGs s)), (1, .cells (some 99) (cGi ⟨0, 0, 0⟩)), (2, .cells (some 4) [.lit (.bool false)]), (5, .cells (some 25) (cGa am))], Own.cons (show 8 < 10 by omega) (fun h => h) ?_ (Own.cons (show 9 < 10 by omega) (fun h => h) ?_ (Own.cons (show 0 < 10 by omega) (fun h => h) ?_ (Own.cons (show 1 < 10 by omega) (fun h => h) ?_ (Own.cons (show 2 < 10 by omega) (fun h => h) ?_ (Own.cons (show 5 < 10 by omega) (fun h => h) ?_ Own.nil))))), ?_⟩
  rotate_left 6
  ·rw [hJ]
   exact ⟨L, rfl, rfl, h⟩
  all_goals (simp only [zaa, seval] <;> rfl)
 ·rintro H' nx' (⟨hp, hown, hj⟩ | ⟨hp, hown, hj⟩)
  ·rw [hJ] at hj
   obtain ⟨p, hl, rfl, hR⟩ := hj
   cases p with
   | cons e p => cases hl
   | nil =>
   simp only [fdirL, Option.some.injEq] at hR
   subst hR
   obtain ⟨l8, n8, H8⟩ := hown.head
   obtain ⟨l9, n9, H9⟩ := hown.tail.head
   obtain ⟨l0, n0, H0⟩ := hown.tail.tail.head
   obtain ⟨l1, n1, H1⟩ := hown.tail.tail.tail.head
   obtain ⟨l2, n2, H2⟩ := hown.tail.tail.tail.tail.head
   refine zfm hLO H9 ?_
   intro LX
   simp only [vz, tyf, seval, ua, rg, e1, e2, e3, e4, H1, H2]
   refine zht (by simp only [zaa, seval, H8]) ?_
   refine zat (x := .tup [.agg (cGi ⟨0, 0, 0⟩), .lit (.bool false)]) (by simp only [Tryz.results73, resV, resL, resV1, zau, zbo, uw, cr, tyf, e2, e3, H1, H2, nm, seval] <;> rfl) ?_
   refine zaw (by simp only [tre, tytre, Bool.and_self]) ?_
   simp only [outV, nrm, tynrm, seval, List.map_cons, List.map_nil]
   rfl
  ·rw [hJ] at hj
   obtain ⟨LD, ⟨tml, ps, az, bo, d, hLD⟩, rfl, hR2⟩ := hj
   obtain ⟨l8, n8, H8⟩ := hown.head
   obtain ⟨l9, n9, H9⟩ := hown.tail.head
   obtain ⟨l0, n0, H0⟩ := hown.tail.tail.head
   obtain ⟨l1, n1, H1⟩ := hown.tail.tail.tail.head
   obtain ⟨l2, n2, H2⟩ := hown.tail.tail.tail.tail.head
   obtain ⟨R1, R2⟩ := R
   simp only at hR2 H1
   subst hR2
   refine zhb hLD H9 ?_
   intro LX
   simp only [vz, tyf, seval, ua, rg, e1, e2, e3, e4, H1, H2]
   refine zht (by simp only [zaa, seval, H8]) ?_
   refine zat (x := .tup [.agg (cGi R1), .lit (.bool true)]) (by simp only [Tryz.results73, resV, resL, resV1, zau, zbo, uw, cr, tyf, e2, e3, H1, H2, nm, seval] <;> rfl) ?_
   refine zaw (by simp only [tre, tytre, Bool.and_self]) ?_
   simp only [outV, nrm, tynrm, seval, List.map_cons, List.map_nil]
   rfl
end Go.V
end
section
namespace Go.V
open Go Go.Proofs
def zkz (x0_s : Gs) : Option (Gi × Int) := Option.bind (zbl x0_s) (fun r1 => cond (r1) (Option.bind (zfc x0_s) (fun r2 => cond (r2.2) (some (r2.1, 0)) (some ((Gi.mk 0 0 0), 5)))) (some ((Gi.mk 0 0 0), 2)))
theorem zpo (x0_s : Gs) (R : Gi × Int) (h : zkz x0_s = some R) : VPure Tryz.prog G0 37 [.agg (cGs x0_s)] (.tree (.tup [.agg (cGi R.1), .lit (.int .i64 R.2)])) := by
 refine VPure.runR mixed Tryz.call37 Tryz.func37 rfl (by simp [Tryz.ntmps37]; kernel_rfl) ?_
 obtain ⟨KF, h, kF, kN⟩ := zan h
 simp only [zkz] at h
 obtain ⟨r3, o4, h⟩ := optI h kN
 try simp only [hs] at h
 simp only [vz, tyf, nm, seval]
 refine ktA (zcz _ _ o4) ?_
 refine zab (fun tm => tm 1 = .ptr 0 0 ∧ tm 2 = .ptr 1 0 ∧ tm 7 = .lit (.bool r3) ∧ True) (by refine ⟨?_, ?_, ?_, trivial⟩ <;> first | (simp only [ua, nm, seval] <;> rfl) | rfl) ?_
 rintro tm ⟨e5, e6, e7, _⟩
 cases d8 : (r3)
 ·simp only [d8, hs] at h
  try simp only [vz, tyf, e5, e6, e7, d8, nm, seval]
  refine zat (x := (.tup [.agg ([.lit (.int .i64 0)] ++ [.lit (.int .i64 0)] ++ [.lit (.int .i64 0)]), .lit (.int .i64 2)])) (by first | (simp only [Tryz.results37, resV, resL, resV1, zau, zbo, uw, cr, tyf, e5, e6, e7, d8, nm, seval] <;> rfl) | rfl) ?_
  obtain rfl := kF _ h
  refine zaw ?_ ?_
  ·simp only [tre, tytre, Bool.and_self]
  ·first | (simp only [outV, uw, zaf, cr, tyf, nrm, tynrm, e5, e6, e7, d8, nm, seval] <;> rfl) | rfl
 simp only [d8, hs] at h
 obtain ⟨r9, o10, h⟩ := optI h kN
 try simp only [hs] at h
 simp only [vz, tyf, e5, e6, e7, d8, nm, seval]
 refine ktA (zij _ _ o10) ?_
 refine zab (fun tm => tm 2 = .ptr 1 0 ∧ tm 12 = .tup [.agg (cGi r9.1), .lit (.bool r9.2)] ∧ True) (by refine ⟨e6, ?_, trivial⟩ <;> first | (simp only [ua, e5, e6, e7, d8, nm, seval] <;> rfl) | rfl) ?_
 rintro tm ⟨e11, e12, _⟩
 cases d13 : (r9.2)
 ·simp only [d13, hs] at h
  try simp only [vz, tyf, d8, e11, e12, d13, nm, seval]
  refine zat (x := (.tup [.agg ([.lit (.int .i64 0)] ++ [.lit (.int .i64 0)] ++ [.lit (.int .i64 0)]), .lit (.int .i64 5)])) (by first | (simp only [Tryz.results37, resV, resL, resV1, zau, zbo, uw, cr, tyf, d8, e11, e12, d13, nm, seval] <;> rfl) | rfl) ?_
  obtain rfl := kF _ h
  refine zaw ?_ ?_
  ·simp only [tre, tytre, Bool.and_self]
  ·first | (simp only [outV, uw, zaf, cr, tyf, nrm, tynrm, d8, e11, e12, d13, nm, seval] <;> rfl) | rfl
 simp only [d13, hs] at h
 try simp only [vz, tyf, d8, e11, e12, d13, nm, seval]
 refine zat (x := (.tup [.agg (cGi r9.1), .lit (.int .i64 0)])) (by first | (simp only [Tryz.results37, resV, resL, resV1, zau, zbo, uw, cr, tyf, d8, e11, e12, d13, nm, seval] <;> rfl) | rfl) ?_
 obtain rfl := kF _ h
 refine zaw ?_ ?_
 ·simp only [tre, tytre, Bool.and_self]
 ·first | (simp only [outV, uw, zaf, cr, tyf, nrm, tynrm, d8, e11, e12, d13, nm, seval] <;> rfl) | rfl
end Go.V
end
section
namespace Go.V
open Go Go.Proofs
def headE (L : List Gm) : List Int × Int := match L with
 | [] => ([], 5)
 | x :: _ => (x.mix, 0)
def zkv (s : Gs) : Option (List Int × Int) := Option.bind (zbl s) fun b => cond b (Option.bind (zmk s) fun L => some (headE L)) (some ([], 2))
theorem zpr (s : Gs) (R : List Int × Int) (h : zkv s = some R) : VPure Tryz.prog G0 42 [.agg (cGs s)] (.tree (.tup [.sl (cellsL eI R.1) (List.length R.1) false, .lit (.int .i64 R.2)])) := by
 refine VPure.runR mixed Tryz.call42 Tryz.func42 rfl (by simp [Tryz.ntmps42]; kernel_rfl) ?_
 unfold zkv at h
 rcases o0 : zbl s with _ | b
 ·rw [o0] at h; cases h
 rw [o0, Option.bind_some] at h
 simp only [vz, tyf, seval, ua, rg]
 refine ktA (zcz _ _ o0) ?_
 cases b with
 | false =>
  simp only [cond_false, Option.some.injEq] at h
  subst h
  simp only [vz, tyf, seval, ua, rg, Bool.not_false]
  refine zat (x := .tup [.lit (.slice none 0 0), .lit (.int .i64 2)]) (by simp only [Tryz.results42, resV, resL, resV1, zau, zbo, uw, cr, tyf, nm, seval] <;> rfl) ?_
  refine zaw (by simp only [tre, tytre]; rfl) ?_
  simp only [outV, nrm, seval, List.map_cons, List.map_nil, zdv, List.length_nil]
 | true =>
 rw [cond_true] at h
 simp only [vz, tyf, seval, ua, rg, Bool.not_true]
 rcases o2 : zmk s with _ | L
 ·rw [o2] at h; cases h
 rw [o2, Option.bind_some] at h
 obtain ⟨hp, hi⟩ := zady s L o2
 refine ktA hp ?_
 refine zab (fun tm => tm 2 = .ptr 1 0 ∧ tm 3 = .ptr 2 0 ∧ tm 9 = zjp s) (by refine ⟨?_, ?_, ?_⟩ <;> simp only [ua, seval]) ?_
 rintro tm ⟨e2, e3, e9⟩
 simp only [vz, tyf, seval, ua, rg]
 refine zhj hi (by first | (simp only [znz, zje, e9, zfg, seval] <;> rfl) | rfl) ?_
 intro LO hLO
 simp only [Option.some.injEq] at h
 obtain ⟨J, hJ⟩ : ∃ J : Option (List VV) → List (Nat × VObj) → Prop, J = (fun o hp => match o with
  | some l => ∃ p : List Gm, l = p.map sM ∧ hp = [(8, .deferred (some [])), (9, LO), (1, .cells (some 29) [.lit (.slice none 0 0)]), (2, .cells (some 32) [.lit (.int .i64 0)])] ∧ headE p = R
  | none => ∃ LD : Code → VObj, (∃ tml ps az bo d, LD = fun c => VObj.loop .done (some c) tml ps az bo d) ∧ hp = [(8, .deferred (some [])), (9, LD .ret), (1, .cells (some 29) [.sl (cellsL eI R.1) R.1.length false]), (2, .cells (some 32) [.lit (.int .i64 R.2)])]) := ⟨_, rfl⟩
 refine ⟨ownI J, zkc, ?_, ?_, ?_⟩
 ·rintro v rest Fr H nx hFr ⟨hp, hown, hj⟩
  rw [hJ] at hj
  obtain ⟨p, hl, rfl, hR⟩ := hj
  cases p with
  | nil => cases hl
  | cons e p =>
  simp only [List.map_cons, List.cons.injEq] at hl
  obtain ⟨rfl, rfl⟩ := hl
  obtain ⟨l8, n8, H8⟩ := hown.head
  obtain ⟨l9, n9, H9⟩ := hown.tail.head
  obtain ⟨l1, n1, H1⟩ := hown.tail.tail.head
  obtain ⟨l2, n2, H2⟩ := hown.tail.tail.tail.head
  refine zfv mixed (psl := [10]) hLO H9 zgz rfl (by kernel_rfl) (by kernel_rfl) ?_
  intro LB LD hLB hLD
  refine zis (fun tm => tm 2 = .ptr 1 0 ∧ tm 3 = .ptr 2 0 ∧ tm 10 = sM e) (by refine ⟨?_, ?_, ?_⟩ <;> simp only [zlb, ziy, Tryz.ntmps42, e2, e3, seval]) ?_
  clear e2 e3 e9
  rintro tm ⟨e2, e3, e10⟩
  have m1 : (9 = nx) = False := by simp; omega
  have m2 : (nx = 9) = False := by simp; omega
  have m3 : (1 = nx) = False := by simp; omega
  have m4 : (nx = 1) = False := by simp; omega
  have m5 : (2 = nx) = False := by simp; omega
  have m6 : (nx = 2) = False := by simp; omega
  have m7 : (8 = nx) = False := by simp; omega
  simp only [vz, tyf, seval, ua, rg, RStart, e2, e3, e10, H9, H1, H2, Nat.add_zero, m1, m2, m3, m4, m5, m6]
  have hRe : R = (e.mix, 0) := hR.symm
  refine ⟨by simp only [zaa, seval], (show nx ≤ nx + 6 by omega), fun γ hγ => ?_, ?_⟩
  ·have g9 : γ ≠ 9 := fun e => n9 (e ▸ hγ)
   have gx := hFr γ hγ
   have g1 : γ ≠ 1 := fun e => n1 (e ▸ hγ)
   have g2 : γ ≠ 2 := fun e => n2 (e ▸ hγ)
   simp only [updH]
   repeat rw [if_neg (by first | assumption | omega)]
  ·simp only [Bool.false_eq_true, if_false]
   refine ⟨[(8, .deferred (some [])), (9, LD .ret), (1, .cells (some 29) [.sl (cellsL eI e.mix) e.mix.length false]), (2, .cells (some 32) [.lit (.int .i64 0)])], Own.cons (show 8 < nx + 6 by omega) n8 ?_ (Own.cons (show 9 < nx + 6 by omega) n9 ?_ (Own.cons (show 1 < nx + 6 by omega) n1 ?_ (Own.cons (show 2 < nx + 6 by omega) n2 ?_ (Own.nil)))), ?_⟩
   rotate_left 4
   ·rw [hJ]
    exact ⟨LD, ⟨_, _, _, _, _, hLD⟩, by rw [hRe]⟩
   all_goals simp only [zaa, seval, H8, m1, m2, m3, m4, m5, m6, m7, Nat.add_zero]
 ·refine ⟨[(8, .deferred (some [])), (9, LO), (1, .cells (some 29) [.lit (.slice none 0 0)]), (2, .cells (some 32) [.lit (.int .i64 0)])], Own.cons (show 8 < 10 by omega) (fun h => h) ?_ (Own.cons (show 9 < 10 by omega) (fun h => h) ?_ (Own.cons (show 1 < 10 by omega) (fun h => h) ?_ (Own.cons (show 2 < 10 by omega) (fun h => h) ?_ (Own.nil)))), ?_⟩
  rotate_left 4
  ·rw [hJ]
   exact ⟨L, rfl, rfl, h⟩
  all_goals simp only [zaa, seval]
 ·rintro H' nx' (⟨hp, hown, hj⟩ | ⟨hp, hown, hj⟩)
  ·rw [hJ] at hj
   obtain ⟨p, hl, rfl, hR⟩ := hj
   cases p with
   | cons e p => cases hl
   | nil =>
   subst hR
   obtain ⟨l8, n8, H8⟩ := hown.head
   obtain ⟨l9, n9, H9⟩ := hown.tail.head
   obtain ⟨l1, n1, H1⟩ := hown.tail.tail.head
   obtain ⟨l2, n2, H2⟩ := hown.tail.tail.tail.head
   refine zfm hLO H9 ?_
   intro LX
   simp only [vz, tyf, seval, ua, rg, e2, e3, H1, H2, headE]
   refine zht (by simp only [zaa, seval, H8]) ?_
   refine zat (x := .tup [.lit (.slice none 0 0), .lit (.int .i64 5)]) (by simp only [Tryz.results42, resV, resL, resV1, zau, zbo, uw, cr, tyf, e2, e3, H1, H2, nm, seval] <;> rfl) ?_
   refine zaw (by simp only [tre, tytre, Bool.and_self]) ?_
   simp only [outV, nrm, seval, List.map_cons, List.map_nil, zdv, List.length_nil]
  ·rw [hJ] at hj
   obtain ⟨LD, ⟨tml, ps, az, bo, d, hLD⟩, rfl⟩ := hj
   obtain ⟨l8, n8, H8⟩ := hown.head
   obtain ⟨l9, n9, H9⟩ := hown.tail.head
   obtain ⟨l1, n1, H1⟩ := hown.tail.tail.head
   obtain ⟨l2, n2, H2⟩ := hown.tail.tail.tail.head
   refine zhb hLD H9 ?_
   intro LX
   simp only [vz, tyf, seval, ua, rg, e2, e3, H1, H2]
   refine zht (by simp only [zaa, seval, H8]) ?_
   refine zat (x := .tup [.sl (cellsL eI R.1) R.1.length false, .lit (.int .i64 R.2)]) (by simp only [Tryz.results42, resV, resL, resV1, zau, zbo, uw, cr, tyf, e2, e3, H1, H2, nm, seval] <;> rfl) ?_
   refine zaw (by simp only [tre, tytre, Bool.and_self]) ?_
   simp only [outV, nrm, seval, List.map_cons, List.map_nil, zdv, List.length_nil]
end Go.V
end
section
namespace Go.V
open Go
def sA : Gs := ⟨⟨60, 40, 20⟩, ⟨⟨1, 2⟩, ⟨1, 1⟩, ⟨0, 0⟩⟩, ⟨5, 5⟩, 5, [⟨⟨⟨80, 82⟩, ⟨20, 20⟩, ⟨0, 2⟩⟩⟩, ⟨⟨⟨20, 22⟩, ⟨60, 60⟩, ⟨40, 40⟩⟩⟩, ⟨⟨⟨50, 50⟩, ⟨10, 12⟩, ⟨30, 30⟩⟩⟩]⟩
def sB : Gs := ⟨⟨60, 40, 20⟩, ⟨⟨1, 2⟩, ⟨1, 1⟩, ⟨0, 0⟩⟩, ⟨5, 5⟩, 5, [⟨⟨⟨20, 22⟩, ⟨60, 60⟩, ⟨40, 40⟩⟩⟩, ⟨⟨⟨50, 50⟩, ⟨10, 12⟩, ⟨30, 30⟩⟩⟩]⟩
theorem zajp : zkz sB = some (⟨0, 0, -2⟩, 0) := by kernel_rfl
theorem zamb : zkp sA = some (9, 0) := by kernel_rfl
theorem zaqd : zmj sA = some ([1, 1, 0], 5, 0) := by kernel_rfl
theorem zakn : zkq sA = some ([0, 1], 0) := by kernel_rfl
theorem zals : zkv sA = some ([1, 1, 0], 0) := by kernel_rfl
end Go.V
end
section
namespace Go.V
open Go Go.Proofs
theorem qshA : VV.agg (cGs sA) = kA := by kernel_rfl
theorem qshB : VV.agg (cGs sB) = kB := by kernel_rfl
theorem pCount : VPure Tryz.prog G0 44 [kA] (.tree kCount) := qshA ▸ zpm sA (9, 0) zamb
theorem pNear : VPure Tryz.prog G0 50 [kA] (.tree kNear) := qshA ▸ zrr sA ([1, 1, 0], 5, 0) zaqd
theorem pNeeds : VPure Tryz.prog G0 55 [kA] (.tree kNeeds) := qshA ▸ zpp sA ([0, 1], 0) zakn
theorem pFirst : VPure Tryz.prog G0 42 [kA] (.tree kFirst) := qshA ▸ zpr sA ([1, 1, 0], 0) zals
theorem pProof : VPure Tryz.prog G0 37 [kB] (.tree kProof) := qshB ▸ zpo sB (⟨0, 0, -2⟩, 0) zajp
end Go.V
end
section
namespace Go.V
open Go Go.Proofs
theorem pMay : VPure Tryz.prog G0 43 [kA] (.tree kMay) := VPure.closedB hmix 1000 (by kernel_rfl)
end Go.V
end
section
namespace Go.V
open Go Go.Proofs
def kTab : KTab := [
  (54, [], kA),
  (56, [], kB),
  (53, [], kD),
  (18, [kD], kAim),
  (19, [kA, .sl [.lit (.int .i64 (1)), .lit (.int .i64 (1)), .lit (.int .i64 (0))] 3 false], kSums),
  (27, [kA, .sl [.lit (.int .i64 (3)), .lit (.int .i64 (2)), .lit (.int .i64 (0))] 3 false], kWord),
  (24, [kA, .sl [.lit (.int .i64 (1)), .lit (.int .i64 (1)), .lit (.int .i64 (0))] 3 false, .agg [.sl [.lit (.int .i64 80),.lit (.int .i64 20),.lit (.int .i64 0),.lit (.int .i64 20),.lit (.int .i64 60),.lit (.int .i64 40),.lit (.int .i64 50),.lit (.int .i64 10),.lit (.int .i64 30)] 3 false,.lit (.int .i64 5),.lit (.int .i64 2),.lit (.int .i64 1),.lit (.int .i64 0)]], kTrue),
  (28, [kD, .sl [.lit (.int .i64 (1)), .lit (.int .i64 (1)), .lit (.int .i64 (0))] 3 false], kYears),
  (57, [.lit (.string ⟨⟨[98, 111, 97, 114, 100, 32, 49, 32, 50, 32, 51, 32, 48, 32, 48, 32, 49, 10, 102, 97, 100, 101, 32, 48, 32, 48, 32, 48, 32, 48, 32, 48, 32, 48, 10, 116, 105, 110, 32, 49, 32, 49, 32, 50, 32, 50, 32, 51, 32, 51, 10, 101, 110, 100, 32, 49, 54, 52, 10]⟩⟩)], kRead),
  (44, [kA], kCount),
  (50, [kA], kNear),
  (55, [kA], kNeeds),
  (37, [kB], kProof),
  (42, [kA], kFirst),
  (43, [kA], kMay)]
theorem kTabOk : KTabOk Tryz.prog G0 kTab := ⟨⟨by kernel_rfl, pA⟩, ⟨⟨by kernel_rfl, pB⟩, ⟨⟨by kernel_rfl, pD⟩, ⟨⟨by kernel_rfl, pAim⟩, ⟨⟨by kernel_rfl, pSums⟩, ⟨⟨by kernel_rfl, pWord⟩, ⟨⟨by kernel_rfl, pTrue⟩, ⟨⟨by kernel_rfl, pYears⟩, ⟨⟨by kernel_rfl, pRead⟩, ⟨⟨by kernel_rfl, pCount⟩, ⟨⟨by kernel_rfl, pNear⟩, ⟨⟨by kernel_rfl, pNeeds⟩, ⟨⟨by kernel_rfl, pProof⟩, ⟨⟨by kernel_rfl, pFirst⟩, ⟨⟨by kernel_rfl, pMay⟩, trivial⟩⟩⟩⟩⟩⟩⟩⟩⟩⟩⟩⟩⟩⟩⟩
theorem pKnown : VPure Tryz.prog G0 16 [] (.tree (.lit (.bool true))) := VPure.closedT hmix kTabOk 1000 (by kernel_rfl)
#print axioms pKnown
end Go.V
end
section
namespace Go.V
open Go Go.Proofs
theorem zed : VPure Tryz.prog G0 16 [] (.tree (.lit (.bool true))) := pKnown
end Go.V
end
section
namespace Go.V
open Go Go.Proofs
def zfh (x0_s : Gs) (x1_a1 : List Int) : Option (Bool) := Option.bind (zhl x0_s) (fun r1 => cond (r1) (cond (decide ((List.length x1_a1 : Int) > 6)) (some true) (Option.bind (zhw x0_s x1_a1) (fun r2 => Option.bind (zhi x0_s x1_a1) (fun r3 => Option.bind (zgi x0_s) (fun r4 => cond (r4) (Option.bind (zid x0_s x1_a1) (fun r5 => cond (r5) (Option.bind (zfn x0_s x1_a1) (fun r6 => cond (r6.2) (cond (r3.2 != 0) (some false) (cond (r3.1.Low == r6.1.Low && (r3.1.High == r6.1.High)) (cond (r2.2 == 0) (Option.bind (zgc x0_s x1_a1) (fun r7 => cond (r2.1 == r7) (some true) (some false))) (some false)) (some false))) (cond (r3.2 != 5) (some false) (cond (r3.1.Low == 0 && (r3.1.High == 0)) (cond (r2.2 == 0) (Option.bind (zgc x0_s x1_a1) (fun r8 => cond (r2.1 == r8) (some true) (some false))) (some false)) (some false))))) (cond (r2.2 == 2) (cond (r2.1 == 0) (cond (r3.2 == 2) (cond (r3.1.Low == 0 && (r3.1.High == 0)) (some true) (some false)) (some false)) (some false)) (some false)))) (cond (r2.2 == 2) (cond (r2.1 == 0) (cond (r3.2 == 2) (cond (r3.1.Low == 0 && (r3.1.High == 0)) (some true) (some false)) (some false)) (some false)) (some false))))))) (some true))
theorem zkw (x0_s : Gs) (x1_a1 : List Int) (R : Bool) (h : zfh x0_s x1_a1 = some R) : VPure Tryz.prog G0 5 [.agg (cGs x0_s), .sl (cellsL eI x1_a1) (List.length x1_a1) false] (.tree (.lit (.bool R))) := by
 refine VPure.runR mixed Tryz.call5 Tryz.func5 rfl (by simp [Tryz.ntmps5]; kernel_rfl) ?_
 obtain ⟨KF, h, kF, kN⟩ := zan h
 simp only [zfh] at h
 obtain ⟨r9, o10, h⟩ := optI h kN
 try simp only [hs] at h
 simp only [vz, tyf, nm, seval]
 refine ktA (zok _ _ o10) ?_
 refine zab (fun tm => tm 1 = .sl (cellsL eI x1_a1) (List.length x1_a1) false ∧ tm 2 = .ptr 0 0 ∧ tm 12 = .lit (.bool r9) ∧ True) (by refine ⟨?_, ?_, ?_, trivial⟩ <;> first | (simp only [ua, nm, seval] <;> rfl) | rfl) ?_
 rintro tm ⟨e11, e12, e13, _⟩
 cases d14 : (r9)
 ·simp only [d14, hs] at h
  simp only [vz, tyf, e11, e12, e13, d14, nm, seval]
  refine ktree0 zed ?_
  try simp only [vz, tyf, e11, e12, e13, d14, nm, seval]
  obtain rfl := kF _ h
  exact zac Tryz.results5 rfl
 simp only [d14, hs] at h
 cases d15 : (decide ((List.length x1_a1 : Int) > 6))
 ·simp only [d15, hs] at h
  obtain ⟨r16, o17, h⟩ := optI h kN
  try simp only [hs] at h
  simp only [vz, tyf, e11, e12, e13, d14, d15, nm, seval]
  refine ktA (zrb _ _ _ o17) ?_
  refine zab (fun tm => tm 1 = .sl (cellsL eI x1_a1) (List.length x1_a1) false ∧ tm 2 = .ptr 0 0 ∧ tm 23 = .tup [.lit (.int .i64 r16.1), .lit (.int .i64 r16.2)] ∧ True) (by refine ⟨e11, e12, ?_, trivial⟩ <;> first | (simp only [ua, e11, e12, e13, d14, d15, nm, seval] <;> rfl) | rfl) ?_
  rintro tm ⟨e18, e19, e20, _⟩
  obtain ⟨r21, o22, h⟩ := optI h kN
  try simp only [hs] at h
  simp only [vz, tyf, d14, d15, e18, e19, e20, nm, seval]
  refine ktA (zpq _ _ _ o22) ?_
  refine zab (fun tm => tm 1 = .sl (cellsL eI x1_a1) (List.length x1_a1) false ∧ tm 2 = .ptr 0 0 ∧ tm 5 = .lit (.int .i64 r16.1) ∧ tm 6 = .lit (.int .i64 r16.2) ∧ tm 29 = .tup [.agg (cGSpan r21.1), .lit (.int .i64 r21.2)] ∧ True) (by refine ⟨e18, e19, ?_, ?_, ?_, trivial⟩ <;> first | (simp only [ua, d14, d15, e18, e19, e20, nm, seval] <;> rfl) | rfl) ?_
  rintro tm ⟨e23, e24, e25, e26, e27, _⟩
  obtain ⟨r28, o29, h⟩ := optI h kN
  try simp only [hs] at h
  simp only [vz, tyf, d14, d15, e23, e24, e25, e26, e27, nm, seval]
  refine ktA (znm _ _ o29) ?_
  refine zab (fun tm => tm 1 = .sl (cellsL eI x1_a1) (List.length x1_a1) false ∧ tm 2 = .ptr 0 0 ∧ tm 5 = .lit (.int .i64 r16.1) ∧ tm 6 = .lit (.int .i64 r16.2) ∧ tm 7 = .ptr 24 0 ∧ tm 8 = .lit (.int .i64 r21.2) ∧ tm 33 = .lit (.bool r28) ∧ True) (by refine ⟨e23, e24, e25, e26, ?_, ?_, ?_, trivial⟩ <;> first | (simp only [ua, d14, d15, e23, e24, e25, e26, e27, nm, seval] <;> rfl) | rfl) ?_
  rintro tm ⟨e30, e31, e32, e33, e34, e35, e36, _⟩
  cases d37 : (r28)
  ·simp only [d37, hs] at h
   cases d38 : (r16.2 == 2)
   ·simp only [d38, hs] at h
    try simp only [vz, tyf, d14, d15, e30, e31, e32, e33, e34, e35, e36, d37, d38, nm, seval]
    obtain rfl := kF _ h
    exact zac Tryz.results5 rfl
   simp only [d38, hs] at h
   cases d39 : (r16.1 == 0)
   ·simp only [d39, hs] at h
    try simp only [vz, tyf, d14, d15, e30, e31, e32, e33, e34, e35, e36, d37, d38, d39, nm, seval]
    obtain rfl := kF _ h
    exact zac Tryz.results5 rfl
   simp only [d39, hs] at h
   cases d40 : (r21.2 == 2)
   ·simp only [d40, hs] at h
    try simp only [vz, tyf, d14, d15, e30, e31, e32, e33, e34, e35, e36, d37, d38, d39, d40, nm, seval]
    obtain rfl := kF _ h
    exact zac Tryz.results5 rfl
   simp only [d40, hs] at h
   cases d41 : (r21.1.Low == 0 && (r21.1.High == 0))
   ·simp only [d41, hs] at h
    have b42 := And.intro d14 (And.intro d15 (And.intro d37 (And.intro d38 (And.intro d39 (And.intro d40 d41)))))
    try simp only [vz, tyf, b42, e30, e31, e32, e33, e34, e35, e36, nm, seval]
    obtain rfl := kF _ h
    exact zac Tryz.results5 rfl
   simp only [d41, hs] at h
   have b43 := And.intro d14 (And.intro d15 (And.intro d37 (And.intro d38 (And.intro d39 (And.intro d40 d41)))))
   simp only [vz, tyf, b43, e30, e31, e32, e33, e34, e35, e36, nm, seval]
   refine ktree0 zed ?_
   try simp only [vz, tyf, b43, e30, e31, e32, e33, e34, e35, e36, nm, seval]
   obtain rfl := kF _ h
   exact zac Tryz.results5 rfl
  simp only [d37, hs] at h
  obtain ⟨r44, o45, h⟩ := optI h kN
  try simp only [hs] at h
  simp only [vz, tyf, d14, d15, e30, e31, e32, e33, e34, e35, e36, d37, nm, seval]
  refine ktA (zqz _ _ _ o45) ?_
  refine zab (fun tm => tm 1 = .sl (cellsL eI x1_a1) (List.length x1_a1) false ∧ tm 2 = .ptr 0 0 ∧ tm 5 = .lit (.int .i64 r16.1) ∧ tm 6 = .lit (.int .i64 r16.2) ∧ tm 7 = .ptr 24 0 ∧ tm 8 = .lit (.int .i64 r21.2) ∧ tm 35 = .lit (.bool false) ∧ tm 38 = .lit (.bool r44) ∧ True) (by refine ⟨e30, e31, e32, e33, e34, e35, ?_, ?_, trivial⟩ <;> first | (simp only [ua, d14, d15, e30, e31, e32, e33, e34, e35, e36, d37, nm, seval] <;> rfl) | rfl) ?_
  rintro tm ⟨e46, e47, e48, e49, e50, e51, e52, e53, _⟩
  cases d54 : (r44)
  ·simp only [d54, hs] at h
   cases d55 : (r16.2 == 2)
   ·simp only [d55, hs] at h
    try simp only [vz, tyf, d14, d15, d37, e46, e47, e48, e49, e50, e51, e52, e53, d54, d55, nm, seval]
    obtain rfl := kF _ h
    exact zac Tryz.results5 rfl
   simp only [d55, hs] at h
   cases d56 : (r16.1 == 0)
   ·simp only [d56, hs] at h
    try simp only [vz, tyf, d14, d15, d37, e46, e47, e48, e49, e50, e51, e52, e53, d54, d55, d56, nm, seval]
    obtain rfl := kF _ h
    exact zac Tryz.results5 rfl
   simp only [d56, hs] at h
   cases d57 : (r21.2 == 2)
   ·simp only [d57, hs] at h
    have b58 := And.intro d14 (And.intro d15 (And.intro d37 (And.intro d54 (And.intro d55 (And.intro d56 d57)))))
    try simp only [vz, tyf, b58, e46, e47, e48, e49, e50, e51, e52, e53, nm, seval]
    obtain rfl := kF _ h
    exact zac Tryz.results5 rfl
   simp only [d57, hs] at h
   have b59 := And.intro d14 (And.intro d15 (And.intro d37 (And.intro d54 (And.intro d55 (And.intro d56 d57)))))
   cases d60 : (r21.1.Low == 0 && (r21.1.High == 0))
   ·simp only [d60, hs] at h
    try simp only [vz, tyf, b59, e46, e47, e48, e49, e50, e51, e52, e53, d60, nm, seval]
    obtain rfl := kF _ h
    exact zac Tryz.results5 rfl
   simp only [d60, hs] at h
   simp only [vz, tyf, b59, e46, e47, e48, e49, e50, e51, e52, e53, d60, nm, seval]
   refine ktree0 zed ?_
   try simp only [vz, tyf, b59, e46, e47, e48, e49, e50, e51, e52, e53, d60, nm, seval]
   obtain rfl := kF _ h
   exact zac Tryz.results5 rfl
  simp only [d54, hs] at h
  obtain ⟨r61, o62, h⟩ := optI h kN
  try simp only [hs] at h
  simp only [vz, tyf, d14, d15, d37, e46, e47, e48, e49, e50, e51, e52, e53, d54, nm, seval]
  refine ktA (zjh _ _ _ o62) ?_
  refine zab (fun tm => tm 1 = .sl (cellsL eI x1_a1) (List.length x1_a1) false ∧ tm 2 = .ptr 0 0 ∧ tm 5 = .lit (.int .i64 r16.1) ∧ tm 6 = .lit (.int .i64 r16.2) ∧ tm 7 = .ptr 24 0 ∧ tm 8 = .lit (.int .i64 r21.2) ∧ tm 62 = .tup [.agg (cGSpan r61.1), .lit (.bool r61.2)] ∧ True) (by refine ⟨e46, e47, e48, e49, e50, e51, ?_, trivial⟩ <;> first | (simp only [ua, d14, d15, d37, e46, e47, e48, e49, e50, e51, e52, e53, d54, nm, seval] <;> rfl) | rfl) ?_
  rintro tm ⟨e63, e64, e65, e66, e67, e68, e69, _⟩
  cases d70 : (r61.2)
  ·simp only [d70, hs] at h
   cases d71 : (r21.2 != 5)
   ·simp only [d71, hs] at h
    cases d72 : (r21.1.Low == 0 && (r21.1.High == 0))
    ·simp only [d72, hs] at h
     have b73 := And.intro d14 (And.intro d15 (And.intro d37 (And.intro d54 (And.intro d70 (And.intro d71 d72)))))
     try simp only [vz, tyf, b73, e63, e64, e65, e66, e67, e68, e69, nm, seval]
     obtain rfl := kF _ h
     exact zac Tryz.results5 rfl
    simp only [d72, hs] at h
    have b74 := And.intro d14 (And.intro d15 (And.intro d37 (And.intro d54 (And.intro d70 (And.intro d71 d72)))))
    cases d75 : (r16.2 == 0)
    ·simp only [d75, hs] at h
     try simp only [vz, tyf, b74, e63, e64, e65, e66, e67, e68, e69, d75, nm, seval]
     obtain rfl := kF _ h
     exact zac Tryz.results5 rfl
    simp only [d75, hs] at h
    obtain ⟨r76, o77, h⟩ := optI h kN
    try simp only [hs] at h
    simp only [vz, tyf, b74, e63, e64, e65, e66, e67, e68, e69, d75, nm, seval]
    refine ktA (zkn _ _ _ o77) ?_
    refine zab (fun tm => tm 90 = .lit (.bool true) ∧ tm 91 = .lit (.int .i64 r16.1) ∧ tm 94 = .lit (.int .i64 r76) ∧ True) (by refine ⟨?_, ?_, ?_, trivial⟩ <;> first | (simp only [ua, b74, e63, e64, e65, e66, e67, e68, e69, d75, nm, seval] <;> rfl) | rfl) ?_
    rintro tm ⟨e78, e79, e80, _⟩
    cases d81 : (r16.1 == r76)
    ·simp only [d81, hs] at h
     try simp only [vz, tyf, b74, d75, e78, e79, e80, d81, nm, seval]
     obtain rfl := kF _ h
     exact zac Tryz.results5 rfl
    simp only [d81, hs] at h
    simp only [vz, tyf, b74, d75, e78, e79, e80, d81, nm, seval]
    refine ktree0 zed ?_
    try simp only [vz, tyf, b74, d75, e78, e79, e80, d81, nm, seval]
    obtain rfl := kF _ h
    exact zac Tryz.results5 rfl
   simp only [d71, hs] at h
   try simp only [vz, tyf, d14, d15, d37, d54, e63, e64, e65, e66, e67, e68, e69, d70, d71, nm, seval]
   obtain rfl := kF _ h
   exact zac Tryz.results5 rfl
  simp only [d70, hs] at h
  cases d82 : (r21.2 != 0)
  ·simp only [d82, hs] at h
   cases d83 : (r21.1.Low == r61.1.Low && (r21.1.High == r61.1.High))
   ·simp only [d83, hs] at h
    have b84 := And.intro d14 (And.intro d15 (And.intro d37 (And.intro d54 (And.intro d70 (And.intro d82 d83)))))
    try simp only [vz, tyf, b84, e63, e64, e65, e66, e67, e68, e69, nm, seval]
    obtain rfl := kF _ h
    exact zac Tryz.results5 rfl
   simp only [d83, hs] at h
   have b85 := And.intro d14 (And.intro d15 (And.intro d37 (And.intro d54 (And.intro d70 (And.intro d82 d83)))))
   cases d86 : (r16.2 == 0)
   ·simp only [d86, hs] at h
    try simp only [vz, tyf, b85, e63, e64, e65, e66, e67, e68, e69, d86, nm, seval]
    obtain rfl := kF _ h
    exact zac Tryz.results5 rfl
   simp only [d86, hs] at h
   obtain ⟨r87, o88, h⟩ := optI h kN
   try simp only [hs] at h
   simp only [vz, tyf, b85, e63, e64, e65, e66, e67, e68, e69, d86, nm, seval]
   refine ktA (zkn _ _ _ o88) ?_
   refine zab (fun tm => tm 90 = .lit (.bool true) ∧ tm 91 = .lit (.int .i64 r16.1) ∧ tm 94 = .lit (.int .i64 r87) ∧ True) (by refine ⟨?_, ?_, ?_, trivial⟩ <;> first | (simp only [ua, b85, e63, e64, e65, e66, e67, e68, e69, d86, nm, seval] <;> rfl) | rfl) ?_
   rintro tm ⟨e89, e90, e91, _⟩
   cases d92 : (r16.1 == r87)
   ·simp only [d92, hs] at h
    try simp only [vz, tyf, b85, d86, e89, e90, e91, d92, nm, seval]
    obtain rfl := kF _ h
    exact zac Tryz.results5 rfl
   simp only [d92, hs] at h
   simp only [vz, tyf, b85, d86, e89, e90, e91, d92, nm, seval]
   refine ktree0 zed ?_
   try simp only [vz, tyf, b85, d86, e89, e90, e91, d92, nm, seval]
   obtain rfl := kF _ h
   exact zac Tryz.results5 rfl
  simp only [d82, hs] at h
  try simp only [vz, tyf, d14, d15, d37, d54, e63, e64, e65, e66, e67, e68, e69, d70, d82, nm, seval]
  obtain rfl := kF _ h
  exact zac Tryz.results5 rfl
 simp only [d15, hs] at h
 simp only [vz, tyf, e11, e12, e13, d14, d15, nm, seval]
 refine ktree0 zed ?_
 try simp only [vz, tyf, e11, e12, e13, d14, d15, nm, seval]
 obtain rfl := kF _ h
 exact zac Tryz.results5 rfl
end Go.V
end
section
namespace Go.V
open Go
theorem zrc (s : Gs) (mix : List Int) (h : lenOk s.Tins = true) (hm : lenOk mix = true) : zfh s mix = some true := by
 unfold zfh
 rw [show zhl s = some (decide ((List.length s.Tins : Int) ≤ 6)) from rfl, zaob h, zakq h, zahe h]
 cases decide ((List.length s.Tins : Int) ≤ 6) with
 | false => rfl
 | true =>
 cases decide ((List.length mix : Int) > 6) with
 | true => rfl
 | false =>
 simp only [Option.bind_some, cond_true, cond_false]
 cases hb : sheetB s with
 | false => rfl
 | true =>
  have hs := ShOk.of hb
  simp only [cond_true, zapf hs hm, Option.bind_some, Bool.true_and]
  cases hx : mixB s mix with
  | false => rfl
  | true =>
   have hm := MixOk.of hx
   simp only [cond_true, zxx hs hm, zajk hs hm, Option.bind_some, beq_self_eq_true]
   cases yearsL s mix with
   | nil => rfl
   | cons a l => simp [spanY]
end Go.V
end
