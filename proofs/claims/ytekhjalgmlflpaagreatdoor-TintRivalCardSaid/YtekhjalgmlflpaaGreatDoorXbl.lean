/- Part of a proof. -/
import Derived.Test.YtekhjalgmlflpaaGreatDoorXbk
set_option linter.all false
set_option maxRecDepth 4000
set_option maxHeartbeats 40000000
section
namespace Go.V
open Go Go.Proofs
theorem zadi {a b : VV} : vfield Tryz.prog 24 (.agg [a, b]) 0 = some a := by
 have h1 : aggT Tryz.prog 3 = some false := by kernel_rfl
 have h2 : szT Tryz.prog 3 = some 1 := by kernel_rfl
 simp [vfield, Tryz.underlying24, vpart, h1, h2]
theorem zaer {a b : VV} : vfield Tryz.prog 24 (.agg [a, b]) 1 = some b := by
 have h1 : aggT Tryz.prog 3 = some false := by kernel_rfl
 have h2 : szT Tryz.prog 3 = some 1 := by kernel_rfl
 simp [vfield, Tryz.underlying24, vpart, h1, h2]
def fdL (s : Gs) (am : Ga) (d : Gi) : List Gt → Option Bool
 | [] => some true
 | t :: p => Option.bind (zbv d t.pg) fun v => Option.bind (zdu d) fun z => Option.bind (zbv d am) fun w => cond (decide (IntKind.i64.wrap (v.High + IntKind.i64.wrap (s.Off * z)) ≥ w.Low)) (some false) (fdL s am d p)
def fdirL (s : Gs) (am : Ga) : List Gi → Option (Gi × Bool)
 | [] => some (⟨0, 0, 0⟩, false)
 | d :: L => Option.bind (fdL s am d s.Tins) fun t => cond t (some (d, true)) (fdirL s am L)
def zfb (s : Gs) : Option (Gi × Bool) := Option.bind (zfw s) fun am => Option.bind zxa fun L => cond (lenOk s.Tins) (fdirL s am L) none
theorem zih (s : Gs) (R : Gi × Bool) (h : zfb s = some R) : VPure Tryz.prog G0 73 [.agg (cGs s)] (.tree (.tup [.agg (cGi R.1), .lit (.bool R.2)])) := by
 refine VPure.runR mixed Tryz.call73 Tryz.func73 rfl (by simp [Tryz.ntmps73]; kernel_rfl) ?_
 unfold zfb at h
 rcases o1 : zfw s with _ | am
 ·rw [o1] at h; cases h
 rw [o1, Option.bind_some] at h
 rcases o2 : zxa with _ | L
 ·rw [o2] at h; cases h
 rw [o2, Option.bind_some] at h
 cases o3 : lenOk s.Tins with
 | false => rw [o3] at h; cases h
 | true =>
 rw [o3, cond_true] at h
 have hi := zahp L o2
 simp only [vz, tyf, seval, ua, rg]
 refine zwl mixed (by kernel_rfl) ?_
 simp only [vz, tyf, seval, ua, rg]
 refine ktA (zhm _ _ o1) ?_
 simp only [vz, tyf, seval, ua, rg]
 refine ktree (args0 := []) (by simp only [nrm]) rfl zaoe ?_
 refine zab (fun tm => tm 1 = .ptr 0 0 ∧ tm 2 = .ptr 1 0 ∧ tm 3 = .ptr 2 0 ∧ tm 4 = .ptr 5 0 ∧ tm 10 = itD) (by refine ⟨?_, ?_, ?_, ?_, ?_⟩ <;> simp only [ua, seval]) ?_
 rintro tm ⟨e1, e2, e3, e4, e10⟩
 simp only [vz, tyf, seval, ua, rg]
 refine zgn hi (by first | (simp only [zmo, zis, e10, zev, seval] <;> rfl) | rfl) ?_
 intro LO hLO
 obtain ⟨J, hJ⟩ : ∃ J : Option (List VV) → List (Nat × VObj) → Prop, J = (fun o hp => match o with
  | some l => ∃ p : List Gi, l = p.map sD ∧ hp = [(8, .deferred (some [])), (9, LO), (0, .cells (some 28) (cGs s)), (1, .cells (some 99) (cGi ⟨0, 0, 0⟩)), (2, .cells (some 4) [.lit (.bool false)]), (5, .cells (some 25) (cGa am))] ∧ fdirL s am p = some R
  | none => ∃ LD : Code → VObj, (∃ tml ps az bo d, LD = fun c => VObj.loop .done (some c) tml ps az bo d) ∧ hp = [(8, .deferred (some [])), (9, LD .ret), (0, .cells (some 28) (cGs s)), (1, .cells (some 99) (cGi R.1)), (2, .cells (some 4) [.lit (.bool true)]), (5, .cells (some 25) (cGa am))] ∧ R.2 = true) := ⟨_, rfl⟩
 refine ⟨ownI J, zia, ?_, ?_, ?_⟩
 ·rintro v rest Fr H nx hFr ⟨hp, hown, hj⟩
  rw [hJ] at hj
  obtain ⟨p, hl, rfl, hR⟩ := hj
  cases p with
  | nil => cases hl
  | cons d p =>
  simp only [List.map_cons, List.cons.injEq] at hl
  obtain ⟨rfl, rfl⟩ := hl
  obtain ⟨l8, n8, H8⟩ := hown.head
  obtain ⟨l9, n9, H9⟩ := hown.tail.head
  obtain ⟨l0, n0, H0⟩ := hown.tail.tail.head
  obtain ⟨l1, n1, H1⟩ := hown.tail.tail.tail.head
  obtain ⟨l2, n2, H2⟩ := hown.tail.tail.tail.tail.head
  obtain ⟨l5, n5, H5⟩ := hown.tail.tail.tail.tail.tail.head
  refine zfn mixed (psl := [11]) hLO H9 zgp rfl (by kernel_rfl) (by kernel_rfl) ?_
  intro LB LD hLB hLD
  refine zhl (fun tm => tm 1 = .ptr 0 0 ∧ tm 2 = .ptr 1 0 ∧ tm 3 = .ptr 2 0 ∧ tm 4 = .ptr 5 0 ∧ tm 11 = sD d) (by refine ⟨?_, ?_, ?_, ?_, ?_⟩ <;> simp only [ziv, zhk, Tryz.ntmps73, e1, e2, e3, e4, seval]) ?_
  clear e1 e2 e3 e4 e10
  rintro tm ⟨e1, e2, e3, e4, e11⟩
  have m1 : (9 = nx) = False := by simp; omega
  have m2 : (nx = 9) = False := by simp; omega
  have m3 : (0 = nx) = False := by simp; omega
  have m4 : (nx = 0) = False := by simp; omega
  simp only [vz, tyf, seval, ua, nm, rg, RStart, e1, e2, e3, e4, e11, H9, H0, Nat.add_zero, m1, m2, m3, m4]
  unfold fdirL at hR
  rcases hT : fdL s am d s.Tins with _ | t
  ·rw [hT] at hR; cases hR
  rw [hT, Option.bind_some] at hR
  obtain ⟨I0, hI0⟩ : ∃ I0 : Nat → St → Prop, I0 = (fun m st => ∃ (q : List Gt) (c : Int), m = q.length ∧ 0 ≤ c ∧ List.drop (Int.toNat c) s.Tins = q ∧ st.df = [] ∧ nx + 6 ≤ st.nx ∧ (∀ γ, γ < nx → st.H γ = updH H 9 LB γ) ∧ st.H nx = some (.cells (some 99) (cGi d)) ∧
   st.tm 1 = .ptr 0 0 ∧ st.tm 2 = .ptr 1 0 ∧ st.tm 3 = .ptr 2 0 ∧ st.tm 4 = .ptr 5 0 ∧ st.tm 5 = .ptr nx 0 ∧ st.tm 13 = .sl (cellsL cGt s.Tins) (List.length s.Tins) false ∧ st.tm 14 = .lit (.int .i64 (List.length s.Tins)) ∧ st.tm 15 = .lit (.int .i64 c) ∧ fdL s am d q = some t) := ⟨_, rfl⟩
  refine loopK mixed (by kernel_rfl) I0 (List.length s.Tins) (by
   rw [hI0]
   refine ⟨s.Tins, 0, rfl, Int.le_refl _, rfl, rfl, (by show nx + 6 ≤ nx + 6; omega), ?_, ?_, ?_, ?_, ?_, ?_, ?_, ?_, ?_, ?_, hT⟩
   ·intro γ hγ
    simp only [updH]
    by_cases g9 : γ = 9
    ·rw [if_pos g9, if_pos g9]
    ·rw [if_neg g9, if_neg (by omega), if_neg (by omega), if_neg g9]
   ·simp only [zac, Nat.add_zero, m1, m2, seval] <;> rfl
   all_goals simp only [ua, seval, e1, e2, e3, e4]) ?_
  rintro m ⟨tm, K, kx, df⟩ hinv
  rw [hI0] at hinv
  obtain ⟨q, c, rfl, hc, hq, hdf, hkx, hK, Kx, f1, f2, f3, f4, f5, f13, f14, f15, hT2⟩ := hinv
  simp only at hdf hkx hK Kx f1 f2 f3 f4 f5 f13 f14 f15
  subst hdf
  have K0 : K 0 = some (.cells (some 28) (cGs s)) := by
   rw [hK 0 (by omega)]
   simp only [updH]
   rw [if_neg (by omega)]
   exact H0
  have K5 : K 5 = some (.cells (some 25) (cGa am)) := by
   rw [hK 5 (by omega)]
   simp only [updH]
   rw [if_neg (by omega)]
   exact H5
  have K8 : K 8 = some (.deferred (some [])) := by
   rw [hK 8 (by omega)]
   simp only [updH]
   rw [if_neg (by omega)]
   exact H8
  have K9 : K 9 = some LB := by
   rw [hK 9 (by omega)]
   simp only [zac, seval]
  have K1 : K 1 = some (.cells (some 99) (cGi ⟨0, 0, 0⟩)) := by
   rw [hK 1 (by omega)]
   simp only [updH]
   rw [if_neg (by omega)]
   exact H1
  have K2 : K 2 = some (.cells (some 4) [.lit (.bool false)]) := by
   rw [hK 2 (by omega)]
   simp only [updH]
   rw [if_neg (by omega)]
   exact H2
  cases q with
  | nil =>
   have hd1 : decide (c < (List.length s.Tins : Int)) = false := zbc hc hq
   simp only [fdL, Option.some.injEq] at hT2
   subst hT2
   simp only [cond_true, Option.some.injEq] at hR
   subst hR
   simp only [vz, tyf, seval, ua, nm, rg, f1, f2, f3, f4, f5, f13, f14, f15, hd1, K1, K2, Kx]
   refine ⟨?_, (show nx ≤ kx + 4 by omega), fun γ hγ => ?_, ?_⟩
   ·simp only [updH]
    repeat rw [if_neg (by omega)]
    exact K9
   ·have gx := hFr γ hγ
    have g9 : γ ≠ 9 := fun e => n9 (e ▸ hγ)
    have g1 : γ ≠ 1 := fun e => n1 (e ▸ hγ)
    have g2 : γ ≠ 2 := fun e => n2 (e ▸ hγ)
    simp only [updH]
    rw [if_neg g9, if_neg g2, if_neg g1, hK γ gx]
    simp only [updH]
    rw [if_neg g9]
   ·simp only [Bool.false_eq_true, if_false]
    refine ⟨[(8, .deferred (some [])), (9, LD .ret), (0, .cells (some 28) (cGs s)), (1, .cells (some 99) (cGi d)), (2, .cells (some 4) [.lit (.bool true)]), (5, .cells (some 25) (cGa am))], Own.cons (show 8 < kx + 4 by omega) n8 ?_ (Own.cons (show 9 < kx + 4 by omega) n9 ?_ (Own.cons (show 0 < kx + 4 by omega) n0 ?_ (Own.cons (show 1 < kx + 4 by omega) n1 ?_ (Own.cons (show 2 < kx + 4 by omega) n2 ?_ (Own.cons (show 5 < kx + 4 by omega) n5 ?_ Own.nil))))), ?_⟩
    rotate_left 6
    ·rw [hJ]
     exact ⟨LD, ⟨_, _, _, _, _, hLD⟩, rfl, rfl⟩
    all_goals (simp only [zac, seval, K8, K0, K5] <;> rfl)
  | cons x q =>
   have hd1 : decide (c < (List.length s.Tins : Int)) = true := zci hc hq
   have o := zax hc hq
   have hw := zdh hc hq o3
   have x1 : (0 = kx + 3) = False := by simp
   have x2 : (5 = kx + 3) = False := by simp; omega
   have x3 : (nx = kx + 3) = False := by simp; omega
   simp only [vz, tyf, seval, ua, nm, rg, f1, f2, f3, f4, f5, f13, f14, f15, hd1, K0, K5, Kx, (ix26 o)]
   refine zfu (fun tm => tm 1 = .ptr 0 0 ∧ tm 2 = .ptr 1 0 ∧ tm 3 = .ptr 2 0 ∧ tm 4 = .ptr 5 0 ∧ tm 5 = .ptr nx 0 ∧ tm 7 = .ptr (kx + 3) 0 ∧ tm 13 = .sl (cellsL cGt s.Tins) (List.length s.Tins) false ∧ tm 14 = .lit (.int .i64 (List.length s.Tins)) ∧ tm 15 = .lit (.int .i64 c)) (by refine ⟨?_, ?_, ?_, ?_, ?_, ?_, ?_, ?_, ?_⟩ <;> simp only [ua, seval, f1, f2, f3, f4, f5, f13, f14, f15]) ?_
   clear f1 f2 f3 f4 f5 f13 f14 f15 tm
   rintro tm ⟨f1, f2, f3, f4, f5, f7, f13, f14, f15⟩
   simp only [fdL] at hT2
   rcases ov : zbv d x.pg with _ | v
   ·rw [ov] at hT2; cases hT2
   rw [ov, Option.bind_some] at hT2
   rcases oz : zdu d with _ | z
   ·rw [oz] at hT2; cases hT2
   rw [oz, Option.bind_some] at hT2
   rcases ow : zbv d am with _ | w
   ·rw [ow] at hT2; cases hT2
   rw [ow, Option.bind_some] at hT2
   simp only [vz, tyf, seval, ua, nm, rg, f1, f4, f5, f7, K0, K5, Kx, x1, x2, x3, zadi, zaer]
   refine dktA (zff _ _ _ ov) ?_
   refine zab (fun tm => tm 1 = .ptr 0 0 ∧ tm 2 = .ptr 1 0 ∧ tm 3 = .ptr 2 0 ∧ tm 4 = .ptr 5 0 ∧ tm 5 = .ptr nx 0 ∧ tm 13 = .sl (cellsL cGt s.Tins) (List.length s.Tins) false ∧ tm 14 = .lit (.int .i64 (List.length s.Tins)) ∧ tm 15 = .lit (.int .i64 c) ∧ tm 22 = .agg (cGSpan v)) (by refine ⟨?_, ?_, ?_, ?_, ?_, ?_, ?_, ?_, ?_⟩ <;> (simp only [ua, seval, f1, f2, f3, f4, f5, f13, f14, f15, f7] <;> rfl)) ?_
   clear f1 f2 f3 f4 f5 f13 f14 f15  f7 tm
   rintro tm ⟨f1, f2, f3, f4, f5, f13, f14, f15, f22⟩
   simp only [vz, tyf, seval, ua, nm, rg, f1, f4, f5, f22, K0, K5, Kx, x1, x2, x3, zadi, zaer]
   refine dktA (zij _ _ oz) ?_
   refine zab (fun tm => tm 1 = .ptr 0 0 ∧ tm 2 = .ptr 1 0 ∧ tm 3 = .ptr 2 0 ∧ tm 4 = .ptr 5 0 ∧ tm 5 = .ptr nx 0 ∧ tm 13 = .sl (cellsL cGt s.Tins) (List.length s.Tins) false ∧ tm 14 = .lit (.int .i64 (List.length s.Tins)) ∧ tm 15 = .lit (.int .i64 c) ∧ tm 23 = .lit (.int .i64 v.High) ∧ tm 25 = .lit (.int .i64 s.Off) ∧ tm 27 = .lit (.int .i64 z)) (by refine ⟨?_, ?_, ?_, ?_, ?_, ?_, ?_, ?_, ?_, ?_, ?_⟩ <;> (simp only [ua, seval, f1, f2, f3, f4, f5, f13, f14, f15, f22] <;> rfl)) ?_
   clear f1 f2 f3 f4 f5 f13 f14 f15  f22 tm
   rintro tm ⟨f1, f2, f3, f4, f5, f13, f14, f15, f23, f25, f27⟩
   simp only [vz, tyf, seval, ua, nm, rg, f1, f4, f5, f23, f25, f27, K0, K5, Kx, x1, x2, x3, zadi, zaer]
   refine dktA (zff _ _ _ ow) ?_
   refine zab (fun tm => tm 1 = .ptr 0 0 ∧ tm 2 = .ptr 1 0 ∧ tm 3 = .ptr 2 0 ∧ tm 4 = .ptr 5 0 ∧ tm 5 = .ptr nx 0 ∧ tm 13 = .sl (cellsL cGt s.Tins) (List.length s.Tins) false ∧ tm 14 = .lit (.int .i64 (List.length s.Tins)) ∧ tm 15 = .lit (.int .i64 c) ∧ tm 29 = .lit (.int .i64 (IntKind.i64.wrap (v.High + IntKind.i64.wrap (s.Off * z)))) ∧ tm 32 = .agg (cGSpan w)) (by refine ⟨?_, ?_, ?_, ?_, ?_, ?_, ?_, ?_, ?_, ?_⟩ <;> (simp only [ua, seval, f1, f2, f3, f4, f5, f13, f14, f15, f23, f25, f27] <;> rfl)) ?_
   clear f1 f2 f3 f4 f5 f13 f14 f15  f23  f25  f27 tm
   rintro tm ⟨f1, f2, f3, f4, f5, f13, f14, f15, f29, f32⟩
   cases hcmp : decide (IntKind.i64.wrap (v.High + IntKind.i64.wrap (s.Off * z)) ≥ w.Low) with
   | true =>
    rw [hcmp, cond_true, Option.some.injEq] at hT2
    subst hT2
    rw [cond_false] at hR
    simp only [vz, tyf, seval, ua, nm, rg, f1, f4, f5, f29, f32, K0, K5, Kx, x1, x2, x3, zadi, zaer, hcmp]
    refine ⟨?_, (show nx ≤ kx + 21 by omega), fun γ hγ => ?_, ?_⟩
    ·simp only [updH]
     repeat rw [if_neg (by omega)]
     exact K9
    ·have gx := hFr γ hγ
     have g9 : γ ≠ 9 := fun e => n9 (e ▸ hγ)
     simp only [updH]
     rw [if_neg g9, if_neg (by omega), if_neg (by omega), hK γ gx]
     simp only [updH]
     rw [if_neg g9]
    ·simp only [if_true]
     refine ⟨[(8, .deferred (some [])), (9, LO), (0, .cells (some 28) (cGs s)), (1, .cells (some 99) (cGi ⟨0, 0, 0⟩)), (2, .cells (some 4) [.lit (.bool false)]), (5, .cells (some 25) (cGa am))], Own.cons (show 8 < kx + 21 by omega) n8 ?_ (Own.cons (show 9 < kx + 21 by omega) n9 ?_ (Own.cons (show 0 < kx + 21 by omega) n0 ?_ (Own.cons (show 1 < kx + 21 by omega) n1 ?_ (Own.cons (show 2 < kx + 21 by omega) n2 ?_ (Own.cons (show 5 < kx + 21 by omega) n5 ?_ Own.nil))))), ?_⟩
     rotate_left 6
     ·rw [hJ]
      exact ⟨p, rfl, rfl, hR⟩
     ·simp only [updH]
      repeat rw [if_neg (by omega)]
      exact K8
     ·simp only [zac, seval]
     ·simp only [updH]
      repeat rw [if_neg (by omega)]
      exact K0
     ·simp only [updH]
      repeat rw [if_neg (by omega)]
      exact K1
     ·simp only [updH]
      repeat rw [if_neg (by omega)]
      exact K2
     ·simp only [updH]
      repeat rw [if_neg (by omega)]
      exact K5
   | false =>
    rw [hcmp, cond_false] at hT2
    simp only [vz, tyf, seval, ua, nm, rg, f1, f4, f5, f29, f32, f15, K0, K5, Kx, x1, x2, x3, zadi, zaer, hcmp, hw]
    refine ⟨q.length, Nat.lt_succ_self _, ?_⟩
    rw [hI0]
    refine ⟨q, c + 1, rfl, by omega, zbr hc hq, rfl, (by show nx + 6 ≤ kx + 23; omega), ?_, ?_, ?_, ?_, ?_, ?_, ?_, ?_, ?_, ?_, hT2⟩
    ·intro γ hγ
     simp only [updH]
     rw [if_neg (by omega), if_neg (by omega)]
     exact hK γ hγ
    ·simp only [updH]
     rw [if_neg (by omega), if_neg (by omega)]
     exact Kx
    all_goals simp only [ua, seval, f1, f2, f3, f4, f5, f13, f14]
 ·refine ⟨[(8, .deferred (some [])), (9, LO), (0, .cells (some 28) (cGs s)), (1, .cells (some 99) (cGi ⟨0, 0, 0⟩)), (2, .cells (some 4) [.lit (.bool false)]), (5, .cells (some 25) (cGa am))], Own.cons (show 8 < 10 by omega) (fun h => h) ?_ (Own.cons (show 9 < 10 by omega) (fun h => h) ?_ (Own.cons (show 0 < 10 by omega) (fun h => h) ?_ (Own.cons (show 1 < 10 by omega) (fun h => h) ?_ (Own.cons (show 2 < 10 by omega) (fun h => h) ?_ (Own.cons (show 5 < 10 by omega) (fun h => h) ?_ Own.nil))))), ?_⟩
  rotate_left 6
  ·rw [hJ]
   exact ⟨L, rfl, rfl, h⟩
  all_goals (simp only [zac, seval] <;> rfl)
 ·rintro H' nx' (⟨hp, hown, hj⟩ | ⟨hp, hown, hj⟩)
  ·rw [hJ] at hj
   obtain ⟨p, hl, rfl, hR⟩ := hj
   cases p with
   | cons e p => cases hl
   | nil =>
   simp only [fdirL, Option.some.injEq] at hR
   subst hR
   obtain ⟨l8, n8, H8⟩ := hown.head
   obtain ⟨l9, n9, H9⟩ := hown.tail.head
   obtain ⟨l0, n0, H0⟩ := hown.tail.tail.head
   obtain ⟨l1, n1, H1⟩ := hown.tail.tail.tail.head
   obtain ⟨l2, n2, H2⟩ := hown.tail.tail.tail.tail.head
   refine zet hLO H9 ?_
   intro LX
   simp only [vz, tyf, seval, ua, rg, e1, e2, e3, e4, H1, H2]
   refine zgq (by simp only [zac, seval, H8]) ?_
   refine zaw (x := .tup [.agg (cGi ⟨0, 0, 0⟩), .lit (.bool false)]) (by simp only [Tryz.results73, resV, resL, resV1, zba, zbz, uw, cr, tyf, e2, e3, H1, H2, nm, seval] <;> rfl) ?_
   refine zbb (by simp only [tre, tytre, Bool.and_self]) ?_
   simp only [outV, nrm, tynrm, seval, List.map_cons, List.map_nil]
   rfl
  ·rw [hJ] at hj
   obtain ⟨LD, ⟨tml, ps, az, bo, d, hLD⟩, rfl, hR2⟩ := hj
   obtain ⟨l8, n8, H8⟩ := hown.head
   obtain ⟨l9, n9, H9⟩ := hown.tail.head
   obtain ⟨l0, n0, H0⟩ := hown.tail.tail.head
   obtain ⟨l1, n1, H1⟩ := hown.tail.tail.tail.head
   obtain ⟨l2, n2, H2⟩ := hown.tail.tail.tail.tail.head
   obtain ⟨R1, R2⟩ := R
   simp only at hR2 H1
   subst hR2
   refine zgb hLD H9 ?_
   intro LX
   simp only [vz, tyf, seval, ua, rg, e1, e2, e3, e4, H1, H2]
   refine zgq (by simp only [zac, seval, H8]) ?_
   refine zaw (x := .tup [.agg (cGi R1), .lit (.bool true)]) (by simp only [Tryz.results73, resV, resL, resV1, zba, zbz, uw, cr, tyf, e2, e3, H1, H2, nm, seval] <;> rfl) ?_
   refine zbb (by simp only [tre, tytre, Bool.and_self]) ?_
   simp only [outV, nrm, tynrm, seval, List.map_cons, List.map_nil]
   rfl
def zkh (x0_s : Gs) : Option (Gi × Int) := Option.bind (zbl x0_s) (fun r1 => cond (r1) (Option.bind (zfb x0_s) (fun r2 => cond (r2.2) (some (r2.1, 0)) (some ((Gi.mk 0 0 0), 5)))) (some ((Gi.mk 0 0 0), 2)))
theorem zpa (x0_s : Gs) (R : Gi × Int) (h : zkh x0_s = some R) : VPure Tryz.prog G0 37 [.agg (cGs x0_s)] (.tree (.tup [.agg (cGi R.1), .lit (.int .i64 R.2)])) := by
 refine VPure.runR mixed Tryz.call37 Tryz.func37 rfl (by simp [Tryz.ntmps37]; kernel_rfl) ?_
 obtain ⟨KF, h, kF, kN⟩ := zan h
 simp only [zkh] at h
 obtain ⟨r3, o4, h⟩ := optI h kN
 try simp only [hs] at h
 simp only [vz, tyf, nm, seval]
 refine ktA (zct _ _ o4) ?_
 refine zab (fun tm => tm 1 = .ptr 0 0 ∧ tm 2 = .ptr 1 0 ∧ tm 7 = .lit (.bool r3) ∧ True) (by refine ⟨?_, ?_, ?_, trivial⟩ <;> first | (simp only [ua, nm, seval] <;> rfl) | rfl) ?_
 rintro tm ⟨e5, e6, e7, _⟩
 cases d8 : (r3)
 ·simp only [d8, hs] at h
  try simp only [vz, tyf, e5, e6, e7, d8, nm, seval]
  refine zaw (x := (.tup [.agg ([.lit (.int .i64 0)] ++ [.lit (.int .i64 0)] ++ [.lit (.int .i64 0)]), .lit (.int .i64 2)])) (by first | (simp only [Tryz.results37, resV, resL, resV1, zba, zbz, uw, cr, tyf, e5, e6, e7, d8, nm, seval] <;> rfl) | rfl) ?_
  obtain rfl := kF _ h
  refine zbb ?_ ?_
  ·simp only [tre, tytre, Bool.and_self]
  ·first | (simp only [outV, uw, zak, cr, tyf, nrm, tynrm, e5, e6, e7, d8, nm, seval] <;> rfl) | rfl
 simp only [d8, hs] at h
 obtain ⟨r9, o10, h⟩ := optI h kN
 try simp only [hs] at h
 simp only [vz, tyf, e5, e6, e7, d8, nm, seval]
 refine ktA (zih _ _ o10) ?_
 refine zab (fun tm => tm 2 = .ptr 1 0 ∧ tm 12 = .tup [.agg (cGi r9.1), .lit (.bool r9.2)] ∧ True) (by refine ⟨e6, ?_, trivial⟩ <;> first | (simp only [ua, e5, e6, e7, d8, nm, seval] <;> rfl) | rfl) ?_
 rintro tm ⟨e11, e12, _⟩
 cases d13 : (r9.2)
 ·simp only [d13, hs] at h
  try simp only [vz, tyf, d8, e11, e12, d13, nm, seval]
  refine zaw (x := (.tup [.agg ([.lit (.int .i64 0)] ++ [.lit (.int .i64 0)] ++ [.lit (.int .i64 0)]), .lit (.int .i64 5)])) (by first | (simp only [Tryz.results37, resV, resL, resV1, zba, zbz, uw, cr, tyf, d8, e11, e12, d13, nm, seval] <;> rfl) | rfl) ?_
  obtain rfl := kF _ h
  refine zbb ?_ ?_
  ·simp only [tre, tytre, Bool.and_self]
  ·first | (simp only [outV, uw, zak, cr, tyf, nrm, tynrm, d8, e11, e12, d13, nm, seval] <;> rfl) | rfl
 simp only [d13, hs] at h
 try simp only [vz, tyf, d8, e11, e12, d13, nm, seval]
 refine zaw (x := (.tup [.agg (cGi r9.1), .lit (.int .i64 0)])) (by first | (simp only [Tryz.results37, resV, resL, resV1, zba, zbz, uw, cr, tyf, d8, e11, e12, d13, nm, seval] <;> rfl) | rfl) ?_
 obtain rfl := kF _ h
 refine zbb ?_ ?_
 ·simp only [tre, tytre, Bool.and_self]
 ·first | (simp only [outV, uw, zak, cr, tyf, nrm, tynrm, d8, e11, e12, d13, nm, seval] <;> rfl) | rfl
end Go.V
end
section
namespace Go.V
open Go
def sA : Gs := ⟨⟨60, 40, 20⟩, ⟨⟨1, 2⟩, ⟨1, 1⟩, ⟨0, 0⟩⟩, ⟨5, 5⟩, 5, [⟨⟨⟨80, 82⟩, ⟨20, 20⟩, ⟨0, 2⟩⟩⟩, ⟨⟨⟨20, 22⟩, ⟨60, 60⟩, ⟨40, 40⟩⟩⟩, ⟨⟨⟨50, 50⟩, ⟨10, 12⟩, ⟨30, 30⟩⟩⟩]⟩
def sB : Gs := ⟨⟨60, 40, 20⟩, ⟨⟨1, 2⟩, ⟨1, 1⟩, ⟨0, 0⟩⟩, ⟨5, 5⟩, 5, [⟨⟨⟨20, 22⟩, ⟨60, 60⟩, ⟨40, 40⟩⟩⟩, ⟨⟨⟨50, 50⟩, ⟨10, 12⟩, ⟨30, 30⟩⟩⟩]⟩
theorem zajw : zkh sB = some (⟨0, 0, -2⟩, 0) := by kernel_rfl
theorem zamt : zgc sA = some (9, 0) := by kernel_rfl
theorem zaqi : zlp sA = some ([1, 1, 0], 5, 0) := by kernel_rfl
theorem zalb : zki sA = some ([0, 1], 0) := by kernel_rfl
theorem zamb : zga sA = some ([1, 1, 0], 0) := by kernel_rfl
end Go.V
end
section
namespace Go.V
open Go Go.Proofs
theorem qshA : VV.agg (cGs sA) = kA := by kernel_rfl
theorem qshB : VV.agg (cGs sB) = kB := by kernel_rfl
theorem pCount : VPure Tryz.prog G0 44 [kA] (.tree kCount) := qshA ▸ zkc sA (9, 0) zamt
theorem pNear : VPure Tryz.prog G0 50 [kA] (.tree kNear) := qshA ▸ zrg sA ([1, 1, 0], 5, 0) zaqi
theorem pNeeds : VPure Tryz.prog G0 55 [kA] (.tree kNeeds) := qshA ▸ zoz sA ([0, 1], 0) zalb
theorem pFirst : VPure Tryz.prog G0 42 [kA] (.tree kFirst) := qshA ▸ zke sA ([1, 1, 0], 0) zamb
theorem pProof : VPure Tryz.prog G0 37 [kB] (.tree kProof) := qshB ▸ zpa sB (⟨0, 0, -2⟩, 0) zajw
theorem pMay : VPure Tryz.prog G0 43 [kA] (.tree kMay) := VPure.closedB hmix 1000 (by kernel_rfl)
def kTab : KTab := [
  (54, [], kA),
  (56, [], kB),
  (53, [], kD),
  (18, [kD], kAim),
  (19, [kA, .sl [.lit (.int .i64 (1)), .lit (.int .i64 (1)), .lit (.int .i64 (0))] 3 false], kSums),
  (27, [kA, .sl [.lit (.int .i64 (3)), .lit (.int .i64 (2)), .lit (.int .i64 (0))] 3 false], kWord),
  (24, [kA, .sl [.lit (.int .i64 (1)), .lit (.int .i64 (1)), .lit (.int .i64 (0))] 3 false, .agg [.sl [.lit (.int .i64 80),.lit (.int .i64 20),.lit (.int .i64 0),.lit (.int .i64 20),.lit (.int .i64 60),.lit (.int .i64 40),.lit (.int .i64 50),.lit (.int .i64 10),.lit (.int .i64 30)] 3 false,.lit (.int .i64 5),.lit (.int .i64 2),.lit (.int .i64 1),.lit (.int .i64 0)]], kTrue),
  (28, [kD, .sl [.lit (.int .i64 (1)), .lit (.int .i64 (1)), .lit (.int .i64 (0))] 3 false], kYears),
  (57, [.lit (.string ⟨⟨[98, 111, 97, 114, 100, 32, 49, 32, 50, 32, 51, 32, 48, 32, 48, 32, 49, 10, 102, 97, 100, 101, 32, 48, 32, 48, 32, 48, 32, 48, 32, 48, 32, 48, 10, 116, 105, 110, 32, 49, 32, 49, 32, 50, 32, 50, 32, 51, 32, 51, 10, 101, 110, 100, 32, 49, 54, 52, 10]⟩⟩)], kRead),
  (44, [kA], kCount),
  (50, [kA], kNear),
  (55, [kA], kNeeds),
  (37, [kB], kProof),
  (42, [kA], kFirst),
  (43, [kA], kMay)]
theorem kTabOk : KTabOk Tryz.prog G0 kTab := ⟨⟨by kernel_rfl, pA⟩, ⟨⟨by kernel_rfl, pB⟩, ⟨⟨by kernel_rfl, pD⟩, ⟨⟨by kernel_rfl, pAim⟩, ⟨⟨by kernel_rfl, pSums⟩, ⟨⟨by kernel_rfl, pWord⟩, ⟨⟨by kernel_rfl, pTrue⟩, ⟨⟨by kernel_rfl, pYears⟩, ⟨⟨by kernel_rfl, pRead⟩, ⟨⟨by kernel_rfl, pCount⟩, ⟨⟨by kernel_rfl, pNear⟩, ⟨⟨by kernel_rfl, pNeeds⟩, ⟨⟨by kernel_rfl, pProof⟩, ⟨⟨by kernel_rfl, pFirst⟩, ⟨⟨by kernel_rfl, pMay⟩, trivial⟩⟩⟩⟩⟩⟩⟩⟩⟩⟩⟩⟩⟩⟩⟩
theorem pKnown : VPure Tryz.prog G0 16 [] (.tree (.lit (.bool true))) := VPure.closedT hmix kTabOk 1000 (by kernel_rfl)
#print axioms pKnown
theorem zad : VPure Tryz.prog G0 16 [] (.tree (.lit (.bool true))) := pKnown

end Go.V
end
section
namespace Go.V
open Go
def z3 : Ga := ⟨⟨0, 0⟩, ⟨0, 0⟩, ⟨0, 0⟩⟩
theorem TrOk.b {s : Gs} (hs : ShOk s) {t : Gu} (ht : TrOk s t) (p : P3) : ∀ a ∈ t.Tins, 0 ≤ selI a p ∧ selI a p ≤ 99 := by
 intro a ha
 obtain ⟨i, hi⟩ := List.mem_iff_getElem?.1 ha
 have hlt := (List.getElem?_eq_some_iff.1 hi).1
 obtain ⟨c, hc⟩ : ∃ c, s.Tins[i]? = some c := ⟨_, List.getElem?_eq_getElem (by rw [← ht.n]; exact hlt)⟩
 have h1 := ht.tin i a c hi hc p
 have h2 := hs.low p c (List.mem_of_getElem? hc)
 have h3 := hs.high p c (List.mem_of_getElem? hc)
 omega
theorem zabk {s : Gs} (hs : ShOk s) {mix : List Int} (hm : MixOk s mix) (h : surelyB s mix = true) {y : Int} (hy : s.Years.Low ≤ y ∧ y ≤ s.Years.High) : allC s mix y = true := by
 rw [zzo hs hm] at h
 have key : ∀ p, canB s mix p y = true := by
  intro p
  have h1 := h p
  have hf := hs.fade p
  have hyr := hs.yrs
  have h2 := zadz hs hm p
  have hP := hm.s
  have l1 := znp (old := selI s.Old p) (y := y) (y' := s.Years.High) (f := (selS s.Fade p).Low) (f' := (selS s.Fade p).High) (by omega) (by omega) (by omega) (by omega)
  have l2 := znp (old := selI s.Old p) (y := s.Years.Low) (y' := y) (f := (selS s.Fade p).Low) (f' := (selS s.Fade p).Low) (by omega) (by omega) (by omega) (by omega)
  have e1 : (aimP s p).Low = leftI (selI s.Old p) s.Years.High (selS s.Fade p).High := rfl
  have e2 : (aimP s p).High = leftI (selI s.Old p) s.Years.Low (selS s.Fade p).Low := rfl
  have m1 := Int.mul_le_mul_of_nonneg_left l1 (show 0 ≤ sumL mix by omega)
  have m2 := Int.mul_le_mul_of_nonneg_left l2 (show 0 ≤ sumL mix by omega)
  have h5 : (sumsP s mix p).High - sumL mix * (aimP s p).Low ≤ s.Off * sumL mix ∧ sumL mix * (aimP s p).High - (sumsP s mix p).Low ≤ s.Off * sumL mix := by
   unfold mostI at h1
   split at h1 <;> omega
  rw [e1, e2, Int.mul_comm s.Off] at h5
  unfold canB
  rw [zacc]
  refine ⟨(selS s.Fade p).Low, by omega, by omega, ?_⟩
  simp only [canT, Bool.and_eq_true, decide_eq_true_eq]
  omega
 simp only [allC, key, Bool.and_self]
end Go.V
end
section
namespace Go.V
open Go Go.Proofs
def zdb (x1_b : List Int) : List Int → Int → Option (LOut (Bool) (Unit))
 | [], c0_5 => some (.go ())
 | e0 :: p0, c0_5 => Option.bind (getI x1_b c0_5) (fun x1 => cond (e0 != x1) (some (.ret false)) (zdb x1_b p0 (c0_5 + 1)))
def zce (x0_a : List Int) (x1_b : List Int) : Option (Bool) := cond ((List.length x0_a : Int) != (List.length x1_b : Int)) (some false) (cond (lenOk x0_a) (lbind (zdb x1_b x0_a 0) (fun r3 => some r3) (fun c2 => some true) (fun _ _ => none)) none)
theorem zdc (x0_a : List Int) (x1_b : List Int) (R : Bool) (h : zce x0_a x1_b = some R) : VPure Tryz.prog G0 47 [.sl (cellsL eI x0_a) (List.length x0_a) false, .sl (cellsL eI x1_b) (List.length x1_b) false] (.tree (.lit (.bool R))) := by
 refine VPure.runR mixed Tryz.call47 Tryz.func47 rfl (by simp [Tryz.ntmps47]; kernel_rfl) ?_
 obtain ⟨KF, h, kF, kN⟩ := zan h
 simp only [zce] at h
 cases d4 : ((List.length x0_a : Int) != (List.length x1_b : Int))
 ·simp only [d4, hs] at h
  cases g6 : (lenOk x0_a)
  ·simp only [g6, hs] at h
   exact absurd h kN
  simp only [g6, hs] at h
  simp only [vz, tyf, d4, g6, nm, seval]
  obtain ⟨K5, h, kR5, kG5, kB5, kN5⟩ := zbh h kN
  obtain ⟨f5, hf5, h⟩ := call2 h
  obtain ⟨I5, hI5⟩ : ∃ I : Nat → St → Prop, I = (fun m st => ∃ (p5 : List Int) (c5_5 : Int), m = List.length p5 ∧ 0 ≤ c5_5 ∧ List.drop (Int.toNat c5_5) x0_a = p5 ∧ st.df = [] ∧ 7 ≤ st.nx ∧ st.tm 0 = .sl (cellsL eI x0_a) (List.length x0_a) false ∧ st.tm 1 = .sl (cellsL eI x1_b) (List.length x1_b) false ∧ st.tm 5 = .lit (.int .i64 c5_5) ∧ K5 (f5 p5 c5_5)) := ⟨_, rfl⟩
  refine loopK mixed (by kernel_rfl) I5 (List.length x0_a) (by rw [hI5]; refine ⟨x0_a, 0, rfl, Int.le_refl _, rfl, rfl, (show 7 ≤ 7 by omega), ?_, ?_, ?_, h⟩ <;> first | (simp only [ua, d4, nm, seval] <;> rfl) | rfl) ?_
  rintro m ⟨tm, H, nx5, df⟩ hinv
  rw [hI5] at hinv
  obtain ⟨p5, c5_5, rfl, hi5, hp5, hdf, hn5, e7, e8, e9, h⟩ := hinv
  simp only at hdf hn5 e7 e8 e9
  have n10 := zcw (m := 7) (b := nx5) (by omega)
  subst hdf hf5
  cases p5 with
  | nil =>
   have d11 : (decide (c5_5 < (List.length x0_a : Int))) = false := zbc hi5 hp5
   simp only [zdb, hs, reduceCtorEq] at h
   replace h := kG5 _ h
   try dsimp only at h
   try simp only [hs] at h
   try simp only [vz, tyf, d4, g6, n10, e7, e8, e9, d11, nm, seval]
   obtain rfl := kF _ h
   exact zaa Tryz.results47 rfl
  | cons e5 p5 =>
   have d12 : (decide (c5_5 < (List.length x0_a : Int))) = true := zci hi5 hp5
   have o14 := zax hi5 hp5
   have w13 := zdh hi5 hp5 g6
   simp only [zdb, hs, reduceCtorEq] at h
   simp only [vz, tyf, d4, g6, n10, e7, e8, e9, d12, (ix29 o14), w13, nm, seval]
   refine zfu (fun tm => tm 0 = .sl (cellsL eI x0_a) (List.length x0_a) false ∧ tm 1 = .sl (cellsL eI x1_b) (List.length x1_b) false ∧ tm 5 = .lit (.int .i64 c5_5) ∧ True) (by refine ⟨e7, e8, e9, trivial⟩ <;> first | (simp only [ua, d4, n10, e7, e8, e9, d12, w13, nm, seval] <;> rfl) | rfl) ?_
   rintro tm ⟨e15, e16, e17, _⟩
   obtain ⟨x18, o19, h⟩ := optI h kN5
   try simp only [hs] at h
   cases d20 : (e5 != x18)
   ·simp only [d20, hs] at h
    simp only [vz, tyf, d4, g6, n10, d12, (ix29 o14), w13, e15, e16, e17, (ix29 o19), d20, nm, seval]
    exact ⟨List.length p5, Nat.lt_succ_self _, by rw [hI5]; refine ⟨p5, c5_5 + 1, rfl, Int.le_trans hi5 (Int.le_add_one (Int.le_refl _)), zbr hi5 hp5, rfl, (show 7 ≤ nx5 + 16 by omega), e15, e16, ?_, h⟩ <;> first | (simp only [ua, d4, n10, d12, w13, e15, e16, e17, d20, nm, seval] <;> rfl) | rfl⟩
   simp only [d20, hs] at h
   try simp only [vz, tyf, d4, g6, n10, d12, (ix29 o14), w13, e15, e16, e17, (ix29 o19), d20, nm, seval]
   replace h := kR5 _ h
   try dsimp only at h
   obtain rfl := kF _ h
   exact zaa Tryz.results47 rfl
 simp only [d4, hs] at h
 try simp only [vz, tyf, d4, nm, seval]
 obtain rfl := kF _ h
 exact zaa Tryz.results47 rfl
end Go.V
end
section
namespace Go.V
open Go
theorem zaiw (b : List Int) : ∀ (l : List Int) (c : Int), 0 ≤ c → b.drop c.toNat = l → zdb b l c = some (.go ())
 | [], c, _, _ => rfl
 | e :: l, c, h0, hd => by
  have ih := zaiw b l (c + 1) (by omega) (zbr h0 hd)
  simp only [zdb, zax h0 hd, Option.bind_some, bne_self_eq_false, cond_false, ih]
theorem zafz {l : List Int} (h : lenOk l = true) : zce l l = some true := by
 unfold zce
 rw [zaiw l l 0 (Int.le_refl _) rfl, h]
 simp [lbind]
theorem MixOk.lenOk {s : Gs} (hs : ShOk s) {q : List Int} (h : MixOk s q) : lenOk q = true := by
 have := hs.n; have := h.n
 unfold Go.V.lenOk
 rw [decide_eq_true_eq]
 omega
def sureL (s : Gs) : List (List Int) := (allL s).filter (surelyB s)
def mayB (s : Gs) (q : List Int) : Bool := !(yearsL s q).isEmpty
def mayL (s : Gs) : List (List Int) := (allL s).filter (mayB s)
theorem zok {f : Gm → Option Bool} {s : Gs} {B : List Int → Bool} : ∀ (L : List (List Int)), (∀ q ∈ L, f ⟨s, q⟩ = some (B q)) → filterO f (L.map (Gm.mk s)) = some ((L.filter B).map (Gm.mk s))
 | [], _ => rfl
 | q :: L, h => by
  have ih := zok (f := f) (B := B) L fun x hx => h x (List.mem_cons_of_mem _ hx)
  simp only [List.map_cons, filterO, h q (List.mem_cons_self ..), ih, Option.bind_some, List.filter_cons]
  cases B q <;> rfl
theorem zait {s : Gs} (hs : ShOk s) : zkb s = some ((sureL s).map (Gm.mk s)) := by
 unfold zkb
 rw [zpr hs, Option.bind_some]
 exact zok (B := surelyB s) (allL s) fun q hq => zyc hs ((zil hs).1 hq)
theorem zys {s : Gs} (hs : ShOk s) : zgy s = some ((mayL s).map (Gm.mk s)) := by
 unfold zgy
 rw [zpr hs, Option.bind_some]
 exact zok (B := mayB s) (allL s) fun q hq => zpj hs ((zil hs).1 hq)
def hdE : List (List Int) → List Int × Int
 | [] => ([], 5)
 | x :: _ => (x, 0)
theorem zwi {s : Gs} (L : List (List Int)) : headE (L.map (Gm.mk s)) = hdE L := by
 cases L <;> rfl
theorem zakh {s : Gs} (h : lenOk s.Tins = true) : zga s = some (cond (sheetB s) (hdE (sureL s)) ([], 2)) := by
 unfold zga
 rw [zkx h, Option.bind_some]
 cases hb : sheetB s with
 | false => rfl
 | true => simp only [cond_true, zait (ShOk.of hb), Option.bind_some, zwi]
theorem zatd {s : Gs} (h : lenOk s.Tins = true) : zjl s = some (cond (sheetB s) (hdE (mayL s)) ([], 2)) := by
 unfold zjl
 rw [zkx h, Option.bind_some]
 cases hb : sheetB s with
 | false => rfl
 | true => simp only [cond_true, zys (ShOk.of hb), Option.bind_some, zwi]
theorem zagn {s : Gs} (hs : ShOk s) : (sureL s).length ≤ 5832 := Nat.le_trans (List.length_filter_le ..) (zams hs)
theorem zakr {s : Gs} (h : lenOk s.Tins = true) : zgc s = some (cond (sheetB s) (((sureL s).length : Int), (0 : Int)) (0, 2)) := by
 unfold zgc
 rw [zkx h, Option.bind_some]
 cases hb : sheetB s with
 | false => rfl
 | true =>
  have hl := zagn (ShOk.of hb)
  have : lenOk ((sureL s).map (Gm.mk s)) = true := by
   unfold lenOk
   rw [decide_eq_true_eq, List.length_map]
   omega
  simp only [cond_true, zait (ShOk.of hb), Option.bind_some, this, List.length_map]
theorem ztz {s : Gs} (hs : ShOk s) {q : List Int} (hm : MixOk s q) : (wordI s q != 1) = mayB s q := by
 unfold wordI mayB
 cases hb : surelyB s q with
 | true =>
  have hy := hs.yrs
  have h1 : s.Years.Low ∈ yearsL s q := (zakp _ _).2 ⟨Int.le_refl _, by unfold yrsN; omega, zabk hs hm hb ⟨Int.le_refl _, hy.2.1⟩⟩
  revert h1
  cases yearsL s q with
  | nil => intro h1; cases h1
  | cons a l => intro _; rfl
 | false => cases (yearsL s q).isEmpty <;> rfl
end Go.V
end
section
namespace Go.V
open Go Go.Proofs
def zdk (x1_b : List Int) : List Int → Int → Option (LOut (Bool) (Unit))
 | [], c0_5 => some (.go ())
 | e0 :: p0, c0_5 => cond (decide (c0_5 < (List.length x1_b : Int))) (Option.bind (getI x1_b c0_5) (fun x1 => cond (e0 != x1) (some (.ret (decide (e0 < x1)))) (zdk x1_b p0 (c0_5 + 1)))) (some (.go ()))
def zfo (x0_a : List Int) (x1_b : List Int) : Option (Bool) := cond (lenOk x0_a) (lbind (zdk x1_b x0_a 0) (fun r3 => some r3) (fun c2 => some (decide ((List.length x0_a : Int) < (List.length x1_b : Int)))) (fun _ _ => none)) none
theorem zmn (x0_a : List Int) (x1_b : List Int) (R : Bool) (h : zfo x0_a x1_b = some R) : VPure Tryz.prog G0 41 [.sl (cellsL eI x0_a) (List.length x0_a) false, .sl (cellsL eI x1_b) (List.length x1_b) false] (.tree (.lit (.bool R))) := by
 refine VPure.runR mixed Tryz.call41 Tryz.func41 rfl (by simp [Tryz.ntmps41]; kernel_rfl) ?_
 obtain ⟨KF, h, kF, kN⟩ := zan h
 simp only [zfo] at h
 cases g5 : (lenOk x0_a)
 ·simp only [g5, hs] at h
  exact absurd h kN
 simp only [g5, hs] at h
 simp only [vz, tyf, g5, nm, seval]
 obtain ⟨K4, h, kR4, kG4, kB4, kN4⟩ := zbh h kN
 obtain ⟨f4, hf4, h⟩ := call2 h
 obtain ⟨I4, hI4⟩ : ∃ I : Nat → St → Prop, I = (fun m st => ∃ (p4 : List Int) (c4_5 : Int), m = List.length p4 ∧ 0 ≤ c4_5 ∧ List.drop (Int.toNat c4_5) x0_a = p4 ∧ st.df = [] ∧ 2 ≤ st.nx ∧ st.tm 0 = .sl (cellsL eI x0_a) (List.length x0_a) false ∧ st.tm 1 = .sl (cellsL eI x1_b) (List.length x1_b) false ∧ st.tm 5 = .lit (.int .i64 c4_5) ∧ K4 (f4 p4 c4_5)) := ⟨_, rfl⟩
 refine loopK mixed (by kernel_rfl) I4 (List.length x0_a) (by rw [hI4]; refine ⟨x0_a, 0, rfl, Int.le_refl _, rfl, rfl, (show 2 ≤ 2 by omega), ?_, ?_, ?_, h⟩ <;> first | (simp only [ua, nm, seval] <;> rfl) | rfl) ?_
 rintro m ⟨tm, H, nx4, df⟩ hinv
 rw [hI4] at hinv
 obtain ⟨p4, c4_5, rfl, hi4, hp4, hdf, hn4, e6, e7, e8, h⟩ := hinv
 simp only at hdf hn4 e6 e7 e8
 have n9 := zcw (m := 2) (b := nx4) (by omega)
 subst hdf hf4
 cases p4 with
 | nil =>
  have d10 : (decide (c4_5 < (List.length x0_a : Int))) = false := zbc hi4 hp4
  simp only [zdk, hs, reduceCtorEq] at h
  replace h := kG4 _ h
  try dsimp only at h
  try simp only [hs] at h
  try simp only [vz, tyf, g5, n9, e6, e7, e8, d10, nm, seval]
  obtain rfl := kF _ h
  exact zaa Tryz.results41 rfl
 | cons e4 p4 =>
  have d11 : (decide (c4_5 < (List.length x0_a : Int))) = true := zci hi4 hp4
  have o13 := zax hi4 hp4
  have w12 := zdh hi4 hp4 g5
  simp only [zdk, hs, reduceCtorEq] at h
  cases d14 : (decide (c4_5 < (List.length x1_b : Int)))
  ·simp only [d14, hs] at h
   replace h := kG4 _ h
   try dsimp only at h
   try simp only [hs] at h
   try simp only [vz, tyf, g5, n9, e6, e7, e8, d11, (ix29 o13), w12, d14, nm, seval]
   obtain rfl := kF _ h
   exact zaa Tryz.results41 rfl
  simp only [d14, hs] at h
  simp only [vz, tyf, g5, n9, e6, e7, e8, d11, (ix29 o13), w12, d14, nm, seval]
  refine zfu (fun tm => tm 0 = .sl (cellsL eI x0_a) (List.length x0_a) false ∧ tm 1 = .sl (cellsL eI x1_b) (List.length x1_b) false ∧ tm 5 = .lit (.int .i64 c4_5) ∧ True) (by refine ⟨e6, e7, e8, trivial⟩ <;> first | (simp only [ua, n9, e6, e7, e8, d11, w12, d14, nm, seval] <;> rfl) | rfl) ?_
  rintro tm ⟨e15, e16, e17, _⟩
  obtain ⟨x18, o19, h⟩ := optI h kN4
  try simp only [hs] at h
  cases d20 : (e4 != x18)
  ·simp only [d20, hs] at h
   simp only [vz, tyf, g5, n9, d11, (ix29 o13), w12, d14, e15, e16, e17, (ix29 o19), d20, nm, seval]
   exact ⟨List.length p4, Nat.lt_succ_self _, by rw [hI4]; refine ⟨p4, c4_5 + 1, rfl, Int.le_trans hi4 (Int.le_add_one (Int.le_refl _)), zbr hi4 hp4, rfl, (show 2 ≤ nx4 + 22 by omega), e15, e16, ?_, h⟩ <;> first | (simp only [ua, n9, d11, w12, d14, e15, e16, e17, d20, nm, seval] <;> rfl) | rfl⟩
  simp only [d20, hs] at h
  simp only [vz, tyf, g5, n9, d11, (ix29 o13), w12, d14, e15, e16, e17, (ix29 o19), d20, nm, seval]
  refine zfu (fun tm => tm 0 = .sl (cellsL eI x0_a) (List.length x0_a) false ∧ tm 1 = .sl (cellsL eI x1_b) (List.length x1_b) false ∧ tm 5 = .lit (.int .i64 c4_5) ∧ True) (by refine ⟨e15, e16, e17, trivial⟩ <;> first | (simp only [ua, n9, d11, w12, d14, e15, e16, e17, d20, nm, seval] <;> rfl) | rfl) ?_
  rintro tm ⟨e21, e22, e23, _⟩
  try simp only [vz, tyf, g5, n9, d11, (ix29 o13), w12, d14, (ix29 o19), d20, e21, e22, e23, nm, seval]
  replace h := kR4 _ h
  try dsimp only at h
  obtain rfl := kF _ h
  exact zaa Tryz.results41 rfl
def zal (x0_a : List Int) (x1_b : List Int) : Option (Bool) := Option.bind (zep x0_a) (fun r1 => Option.bind (zep x1_b) (fun r2 => cond (decide (r1 < r2)) (some true) (cond (r1 == r2) (Option.bind (zfo x0_a x1_b) (fun r3 => some r3)) (some false))))
theorem zai (x0_a : List Int) (x1_b : List Int) (R : Bool) (h : zal x0_a x1_b = some R) : VPure Tryz.prog G0 49 [.sl (cellsL eI x0_a) (List.length x0_a) false, .sl (cellsL eI x1_b) (List.length x1_b) false] (.tree (.lit (.bool R))) := by
 refine VPure.runR mixed Tryz.call49 Tryz.func49 rfl (by simp [Tryz.ntmps49]; kernel_rfl) ?_
 obtain ⟨KF, h, kF, kN⟩ := zan h
 simp only [zal] at h
 obtain ⟨r4, o5, h⟩ := optI h kN
 try simp only [hs] at h
 simp only [vz, tyf, nm, seval]
 refine ktA (zer _ _ o5) ?_
 refine zab (fun tm => tm 0 = .sl (cellsL eI x0_a) (List.length x0_a) false ∧ tm 1 = .sl (cellsL eI x1_b) (List.length x1_b) false ∧ tm 6 = .lit (.int .i64 r4) ∧ True) (by refine ⟨?_, ?_, ?_, trivial⟩ <;> first | (simp only [ua, nm, seval] <;> rfl) | rfl) ?_
 rintro tm ⟨e6, e7, e8, _⟩
 obtain ⟨r9, o10, h⟩ := optI h kN
 try simp only [hs] at h
 simp only [vz, tyf, e6, e7, e8, nm, seval]
 refine ktA (zer _ _ o10) ?_
 refine zab (fun tm => tm 0 = .sl (cellsL eI x0_a) (List.length x0_a) false ∧ tm 1 = .sl (cellsL eI x1_b) (List.length x1_b) false ∧ tm 6 = .lit (.int .i64 r4) ∧ tm 8 = .lit (.int .i64 r9) ∧ True) (by refine ⟨e6, e7, e8, ?_, trivial⟩ <;> first | (simp only [ua, e6, e7, e8, nm, seval] <;> rfl) | rfl) ?_
 rintro tm ⟨e11, e12, e13, e14, _⟩
 cases d15 : (decide (r4 < r9))
 ·simp only [d15, hs] at h
  simp only [vz, tyf, e11, e12, e13, e14, d15, nm, seval]
  refine ktA (zer _ _ o5) ?_
  refine zab (fun tm => tm 0 = .sl (cellsL eI x0_a) (List.length x0_a) false ∧ tm 1 = .sl (cellsL eI x1_b) (List.length x1_b) false ∧ tm 10 = .lit (.bool false) ∧ tm 12 = .lit (.int .i64 r4) ∧ True) (by refine ⟨e11, e12, ?_, ?_, trivial⟩ <;> first | (simp only [ua, e11, e12, e13, e14, d15, nm, seval] <;> rfl) | rfl) ?_
  rintro tm ⟨e16, e17, e18, e19, _⟩
  simp only [vz, tyf, d15, e16, e17, e18, e19, nm, seval]
  refine ktA (zer _ _ o10) ?_
  refine zab (fun tm => tm 0 = .sl (cellsL eI x0_a) (List.length x0_a) false ∧ tm 1 = .sl (cellsL eI x1_b) (List.length x1_b) false ∧ tm 10 = .lit (.bool false) ∧ tm 12 = .lit (.int .i64 r4) ∧ tm 14 = .lit (.int .i64 r9) ∧ True) (by refine ⟨e16, e17, e18, e19, ?_, trivial⟩ <;> first | (simp only [ua, d15, e16, e17, e18, e19, nm, seval] <;> rfl) | rfl) ?_
  rintro tm ⟨e20, e21, e22, e23, e24, _⟩
  cases d25 : (r4 == r9)
  ·simp only [d25, hs] at h
   try simp only [vz, tyf, d15, e20, e21, e22, e23, e24, d25, nm, seval]
   obtain rfl := kF _ h
   exact zaa Tryz.results49 rfl
  simp only [d25, hs] at h
  obtain ⟨r26, o27, h⟩ := optI h kN
  try simp only [hs] at h
  simp only [vz, tyf, d15, e20, e21, e22, e23, e24, d25, nm, seval]
  refine ktA (zmn _ _ _ o27) ?_
  refine zab (fun tm => tm 10 = .lit (.bool false) ∧ tm 16 = .lit (.bool true) ∧ tm 19 = .lit (.bool r26) ∧ True) (by refine ⟨e22, ?_, ?_, trivial⟩ <;> first | (simp only [ua, d15, e20, e21, e22, e23, e24, d25, nm, seval] <;> rfl) | rfl) ?_
  rintro tm ⟨e28, e29, e30, _⟩
  try simp only [vz, tyf, d15, d25, e28, e29, e30, nm, seval]
  obtain rfl := kF _ h
  exact zaa Tryz.results49 rfl
 simp only [d15, hs] at h
 try simp only [vz, tyf, e11, e12, e13, e14, d15, nm, seval]
 obtain rfl := kF _ h
 exact zaa Tryz.results49 rfl
def zav (x0_s : Gs) (x1_mix : List Int) : Option (Int × Bool) := Option.bind (zhu x0_s x1_mix) (fun r1 => cond (r1.2 == 0) (cond (decide (r1.1 ≥ 1)) (some (r1.1, decide (r1.1 ≤ 3))) (some (r1.1, false))) (some (r1.1, false)))
theorem zao (x0_s : Gs) (x1_mix : List Int) (R : Int × Bool) (h : zav x0_s x1_mix = some R) : VPure Tryz.prog G0 36 [.agg (cGs x0_s), .sl (cellsL eI x1_mix) (List.length x1_mix) false] (.tree (.tup [.lit (.int .i64 R.1), .lit (.bool R.2)])) := by
 refine VPure.runR mixed Tryz.call36 Tryz.func36 rfl (by simp [Tryz.ntmps36]; kernel_rfl) ?_
 obtain ⟨KF, h, kF, kN⟩ := zan h
 simp only [zav] at h
 obtain ⟨r2, o3, h⟩ := optI h kN
 try simp only [hs] at h
 simp only [vz, tyf, nm, seval]
 refine ktA (zqv _ _ _ o3) ?_
 refine zab (fun tm => tm 11 = .tup [.lit (.int .i64 r2.1), .lit (.int .i64 r2.2)] ∧ True) (by refine ⟨?_, trivial⟩ <;> first | (simp only [ua, nm, seval] <;> rfl) | rfl) ?_
 rintro tm ⟨e4, _⟩
 cases d5 : (r2.2 == 0)
 ·simp only [d5, hs] at h
  try simp only [vz, tyf, e4, d5, nm, seval]
  refine zaw (x := (.tup [.lit (.int .i64 r2.1), .lit (.bool false)])) (by first | (simp only [Tryz.results36, resV, resL, resV1, zba, zbz, uw, cr, tyf, d5, nm, seval] <;> rfl) | rfl) ?_
  obtain rfl := kF _ h
  refine zbb ?_ ?_
  ·simp only [tre, tytre, Bool.and_self]
  ·first | (simp only [outV, uw, zak, cr, tyf, nrm, tynrm, e4, d5, nm, seval] <;> rfl) | rfl
 simp only [d5, hs] at h
 cases d6 : (decide (r2.1 ≥ 1))
 ·simp only [d6, hs] at h
  try simp only [vz, tyf, e4, d5, d6, nm, seval]
  refine zaw (x := (.tup [.lit (.int .i64 r2.1), .lit (.bool false)])) (by first | (simp only [Tryz.results36, resV, resL, resV1, zba, zbz, uw, cr, tyf, d5, d6, nm, seval] <;> rfl) | rfl) ?_
  obtain rfl := kF _ h
  refine zbb ?_ ?_
  ·simp only [tre, tytre, Bool.and_self]
  ·first | (simp only [outV, uw, zak, cr, tyf, nrm, tynrm, e4, d5, d6, nm, seval] <;> rfl) | rfl
 simp only [d6, hs] at h
 try simp only [vz, tyf, e4, d5, d6, nm, seval]
 refine zaw (x := (.tup [.lit (.int .i64 r2.1), .lit (.bool (decide (r2.1 ≤ 3)))])) (by first | (simp only [Tryz.results36, resV, resL, resV1, zba, zbz, uw, cr, tyf, d5, d6, nm, seval] <;> rfl) | rfl) ?_
 obtain rfl := kF _ h
 refine zbb ?_ ?_
 ·simp only [tre, tytre, Bool.and_self]
 ·first | (simp only [outV, uw, zak, cr, tyf, nrm, tynrm, e4, d5, d6, nm, seval] <;> rfl) | rfl
end Go.V
end
section
namespace Go.V
open Go
def ltL : List Int → List Int → Bool
 | a :: x, b :: y => cond (a != b) (decide (a < b)) (ltL x y)
 | _, _ => false
theorem zxo {b : List Int} : ∀ (p q : List Int) (c : Int), 0 ≤ c → b.drop c.toNat = q → p.length = q.length → ∃ r, zdk b p c = some r ∧ ((r = .go () ∧ ltL p q = false) ∨ r = .ret (ltL p q))
 | [], [], _, _, _, _ => ⟨_, rfl, .inl ⟨rfl, rfl⟩⟩
 | _ :: _, [], _, _, _, h => by simp at h
 | [], _ :: _, _, _, _, h => by simp at h
 | e :: p, v :: q, c, h0, h, hl => by
  have hg := zax h0 h
  have hlt := (zapb hg).2
  simp only [zdk, hg, Option.bind_some, decide_eq_true hlt, cond_true, ltL]
  cases hne : (e != v) with
  | true => exact ⟨_, rfl, .inr rfl⟩
  | false =>
   simp only [cond_false]
   exact zxo p q (c + 1) (by omega) (zbr h0 h) (by simpa using hl)
theorem zafm {a b : List Int} (ha : lenOk a = true) (h : a.length = b.length) : zfo a b = some (ltL a b) := by
 unfold zfo
 obtain ⟨r, hr, h2⟩ := zxo a b 0 (Int.le_refl _) rfl h
 rw [ha, hr]
 rcases h2 with ⟨rfl, h3⟩ | rfl
 ·simp [lbind, h, h3]
 ·simp [lbind]
theorem zaif : ∀ {x y : List Int}, x.length = y.length → (ltL x y = true ↔ lexL x y)
 | [], [], _ => by simp [ltL, lexL]
 | [], _ :: _, h => by simp at h
 | _ :: _, [], h => by simp at h
 | a :: x, b :: y, h => by
  have ih := zaif (x := x) (y := y) (by simpa using h)
  show cond (a != b) (decide (a < b)) (ltL x y) = true ↔ (a < b ∨ a = b ∧ lexL x y)
  by_cases e : a = b
  ·subst e
   rw [bne_self_eq_false, cond_false, ih]
   constructor
   ·exact fun h => .inr ⟨rfl, h⟩
   ·rintro (h | h)
    ·omega
    ·exact h.2
  ·rw [bne_iff_ne.2 e, cond_true, decide_eq_true_eq]
   constructor
   ·exact .inl
   ·rintro (h | h)
    ·exact h
    ·exact absurd h.1 e
def sooL (a b : List Int) : Prop := sumL a < sumL b ∨ sumL a = sumL b ∧ lexL a b
def sooB (a b : List Int) : Bool := cond (decide (sumL a < sumL b)) true (cond (sumL a == sumL b) (ltL a b) false)
theorem zajk {a b : List Int} (h : a.length = b.length) : sooB a b = true ↔ sooL a b := by
 unfold sooB sooL
 rw [← zaif h]
 by_cases e : sumL a < sumL b
 ·simp [e]
 ·rw [decide_eq_false e, cond_false]
  by_cases e2 : sumL a = sumL b
  ·simp [e2]
  ·rw [beq_eq_false_iff_ne.2 e2, cond_false]
   simp [e, e2]
theorem zsy {a b : List Int} (h : sooL a b) : ¬ sooL b a := by
 rintro (k | ⟨k, k2⟩) <;> rcases h with h | ⟨h, h2⟩
 ·omega
 ·omega
 ·omega
 ·exact zpm (zss h2 k2)
theorem znb {s : Gs} (hs : ShOk s) {a b : List Int} (ha : MixOk s a) (hb : MixOk s b) : zal a b = some (sooB a b) := by
 have hN := hs.n
 have h1 := ha.n
 have h2 := hb.n
 unfold zal
 rw [zqq ha.b (by omega), zqq hb.b (by omega), zafm (ha.lenOk hs) (by omega)]
 unfold sooB
 simp only [Option.bind_some]
 cases decide (sumL a < sumL b) <;> cases (sumL a == sumL b) <;> rfl
theorem zaiq {n : Nat} (d : Nat) (hd : n = d + 1) : ∀ (k : Nat) (c : Int), 0 ≤ c → (allR n k c).Pairwise sooL
 | 0, c, _ => List.Pairwise.nil
 | k + 1, c, h0 => by
  rw [allR, List.pairwise_append]
  subst hd
  have hsum : ∀ (j : Int) (q : List Int), 0 ≤ j → q ∈ mixL j (d + 1) [] → sumL q = j := fun j q hj hq => by
   obtain ⟨t, ht, _, _, h5⟩ := (zkt d [] q (by simp only [sumL]; omega)).1 hq
   rw [List.nil_append] at ht
   subst ht
   simp only [sumL] at h5
   omega
  refine ⟨?_, zaiq d rfl k (c + 1) (by omega), fun x hx y hy => ?_⟩
  ·have hp := zajc (parts := c) d [] (by simp only [sumL]; omega)
   exact hp.imp_of_mem fun {a b} ha hb hl => .inr ⟨by rw [hsum c a h0 ha, hsum c b h0 hb], hl⟩
  ·obtain ⟨j, h1, h2, h3⟩ := (zuj k (c + 1)).1 hy
   left
   rw [hsum c x h0 hx, hsum j y (by omega) h3]
   omega
theorem zanz {s : Gs} (hs : ShOk s) : (allL s).Pairwise sooL := by
 have hN := hs.n
 exact zaiq (s.Tins.length - 1) (by omega) 8 1 (by omega)
theorem zuv {s : Gs} (hs : ShOk s) {B : List Int → Bool} {q : List Int} {L : List (List Int)} (h : (allL s).filter B = q :: L) {o : List Int} (ho : MixOk s o) (hB : B o = true) : sooB o q = false ∧ (o = q ∨ o ∈ L) := by
 have hp : (q :: L).Pairwise sooL := h ▸ (zanz hs).filter B
 have hm : o ∈ q :: L := h ▸ List.mem_filter.2 ⟨(zil hs).2 ho, hB⟩
 have hq : MixOk s q := (zil hs).1 (List.mem_filter.1 (h ▸ List.mem_cons_self .. : q ∈ (allL s).filter B)).1
 have hl : o.length = q.length := by rw [ho.n, hq.n]
 refine ⟨?_, List.mem_cons.1 hm⟩
 rw [Bool.eq_false_iff]
 intro hc
 have hc := (zajk hl).1 hc
 rcases List.mem_cons.1 hm with rfl | hm
 ·exact zsy hc hc
 ·exact zsy ((List.pairwise_cons.1 hp).1 o hm) hc
def sumM (f : Nat → Nat) : Nat → Nat
 | 0 => 0
 | k + 1 => f k + sumM f k
def lenM : Nat → Nat → Nat
 | 0, _ => 1
 | d + 1, r => sumM (lenM d) (r + 1)
theorem zth {β : Type} {f : Int → List β} {g : Nat → Nat} : ∀ (k : Nat) (c : Int), (∀ j : Nat, j < k → (f (c + k - 1 - j)).length = g j) → (flatR f k c).length = sumM g k
 | 0, c, _ => rfl
 | k + 1, c, h => by
  have ih := zth (f := f) (g := g) k (c + 1) (fun j hj => by
   rw [← h j (by omega)]
   congr 2
   omega)
  have h0 := h k (by omega)
  rw [show c + ((k + 1 : Nat) : Int) - 1 - (k : Int) = c by omega] at h0
  rw [flatR, List.length_append, ih, h0, sumM]
theorem zes {parts : Int} : ∀ (d : Nat) (l : List Int), sumL l ≤ parts → (mixL parts (d + 1) l).length = lenM d (parts - sumL l).toNat
 | 0, l, _ => rfl
 | d + 1, l, h => by
  rw [mixL, lenM, show (parts - sumL l).toNat + 1 = (parts - sumL l + 1).toNat by omega]
  refine zth _ _ fun j hj => ?_
  rw [zes d _ (by rw [zgf, zfv]; omega), zgf, zfv]
  congr 1
  omega
theorem zakn {s : Gs} (hs : ShOk s) : (allL s).length ≤ 494 := by
 have hN := hs.n
 obtain ⟨d, hd⟩ : ∃ d, s.Tins.length = d + 1 := ⟨s.Tins.length - 1, by omega⟩
 unfold allL
 rw [hd]
 simp only [allR, List.length_append, List.length_nil]
 rw [zes d [] (by simp [sumL]), zes d [] (by simp [sumL]), zes d [] (by simp [sumL]), zes d [] (by simp [sumL]), zes d [] (by simp [sumL]), zes d [] (by simp [sumL]), zes d [] (by simp [sumL]), zes d [] (by simp [sumL])]
 have : d ≤ 3 := by omega
 match d, this with
 | 0, _ => decide
 | 1, _ => decide
 | 2, _ => decide
 | 3, _ => decide
theorem znf {s : Gs} {q : List Int} : (wordI s q = 3 ∧ surelyB s q = true) ∨ (wordI s q = 2 ∧ surelyB s q = false) ∨ (wordI s q = 1 ∧ surelyB s q = false) := by
 unfold wordI
 cases surelyB s q with
 | true => exact .inl ⟨rfl, rfl⟩
 | false =>
  cases (yearsL s q).isEmpty
  ·exact .inr (.inl ⟨rfl, rfl⟩)
  ·exact .inr (.inr ⟨rfl, rfl⟩)
theorem zqt {s : Gs} (hs : ShOk s) (h : lenOk s.Tins = true) {q : List Int} (hq : MixOk s q) : zav s q = some (wordI s q, true) := by
 unfold zav
 rw [zaoi h, hs.ok, hq.ok]
 simp only [Bool.and_self, cond_true, Option.bind_some, beq_self_eq_true]
 rcases znf (s := s) (q := q) with ⟨e, _⟩ | ⟨e, _⟩ | ⟨e, _⟩ <;> rw [e] <;> rfl
theorem zamp {s : Gs} {q : List Int} : (wordI s q == 3) = surelyB s q := by
 rcases znf (s := s) (q := q) with ⟨e, f⟩ | ⟨e, f⟩ | ⟨e, f⟩ <;> rw [e, f] <;> rfl
theorem zvn {s : Gs} (hs : ShOk s) {q : List Int} (hq : MixOk s q) (h : surelyB s q = true) : mayB s q = true := by
 rw [← ztz hs hq]
 rcases znf (s := s) (q := q) with ⟨e, f⟩ | ⟨e, f⟩ | ⟨e, f⟩
 ·rw [e]; rfl
 ·rw [h] at f; cases f
 ·rw [h] at f; cases f
theorem zagf {s : Gs} (h : lenOk s.Tins = true) {mix : List Int} (hm : lenOk mix = true) : ∃ b, zgk s mix = some b ∧ (b = true → ShOk s ∧ MixOk s mix) := by
 unfold zgk
 rw [show zhr s = some (decide ((List.length s.Tins : Int) ≤ 6)) from rfl, zahs h]
 cases decide ((List.length s.Tins : Int) ≤ 6) with
 | false => exact ⟨false, rfl, fun h => by cases h⟩
 | true =>
 cases decide ((List.length mix : Int) ≤ 6) with
 | false => exact ⟨false, rfl, fun h => by cases h⟩
 | true =>
 simp only [Option.bind_some, cond_true]
 cases hb : sheetB s with
 | false => exact ⟨false, rfl, fun h => by cases h⟩
 | true =>
  have hs := ShOk.of hb
  simp only [cond_true, zxg hs hm, Option.bind_some]
  exact ⟨_, rfl, fun hx => ⟨hs, MixOk.of hx⟩⟩
end Go.V
end
