/- Part of a proof. -/
import Derived.Test.YtekhjalgmlflpaaGreatDoorVbl
set_option linter.all false
set_option maxRecDepth 4000
set_option maxHeartbeats 40000000
section
namespace Go.V
open Go Go.Proofs
theorem zaau {a b : VV} : vfield Tryz.prog 24 (.agg [a, b]) 0 = some a := by
 have h1 : aggT Tryz.prog 3 = some false := by kernel_rfl
 have h2 : szT Tryz.prog 3 = some 1 := by kernel_rfl
 simp [vfield, Tryz.underlying24, vpart, h1, h2]
theorem zadn {a b : VV} : vfield Tryz.prog 24 (.agg [a, b]) 1 = some b := by
 have h1 : aggT Tryz.prog 3 = some false := by kernel_rfl
 have h2 : szT Tryz.prog 3 = some 1 := by kernel_rfl
 simp [vfield, Tryz.underlying24, vpart, h1, h2]
def fdL (s : Gs) (am : Ga) (d : Gi) : List Gt → Option Bool
 | [] => some true
 | t :: p => Option.bind (zbv d t.pg) fun v => Option.bind (zdq d) fun z => Option.bind (zbv d am) fun w => cond (decide (IntKind.i64.wrap (v.High + IntKind.i64.wrap (s.Off * z)) ≥ w.Low)) (some false) (fdL s am d p)
def fdirL (s : Gs) (am : Ga) : List Gi → Option (Gi × Bool)
 | [] => some (⟨0, 0, 0⟩, false)
 | d :: L => Option.bind (fdL s am d s.Tins) fun t => cond t (some (d, true)) (fdirL s am L)
def zew (s : Gs) : Option (Gi × Bool) := Option.bind (zfp s) fun am => Option.bind zxw fun L => cond (lenOk s.Tins) (fdirL s am L) none
theorem zia (s : Gs) (R : Gi × Bool) (h : zew s = some R) : VPure Tryz.prog G0 73 [.agg (cGs s)] (.tree (.tup [.agg (cGi R.1), .lit (.bool R.2)])) := by
 refine VPure.runR mixed Tryz.call73 Tryz.func73 rfl (by simp [Tryz.ntmps73]; kernel_rfl) ?_
 unfold zew at h
 rcases o1 : zfp s with _ | am
 ·rw [o1] at h; cases h
 rw [o1, Option.bind_some] at h
 rcases o2 : zxw with _ | L
 ·rw [o2] at h; cases h
 rw [o2, Option.bind_some] at h
 cases o3 : lenOk s.Tins with
 | false => rw [o3] at h; cases h
 | true =>
 rw [o3, cond_true] at h
 have hi := zaif L o2
 simp only [vz, tyf, seval, ua, rg]
 refine zxl mixed (by kernel_rfl) ?_
 simp only [vz, tyf, seval, ua, rg]
 refine ktA (zhi _ _ o1) ?_
 simp only [vz, tyf, seval, ua, rg]
 refine ktree (args0 := []) (by simp only [nrm]) rfl zapj ?_
 refine zac (fun tm => tm 1 = .ptr 0 0 ∧ tm 2 = .ptr 1 0 ∧ tm 3 = .ptr 2 0 ∧ tm 4 = .ptr 5 0 ∧ tm 10 = itD) (by refine ⟨?_, ?_, ?_, ?_, ?_⟩ <;> simp only [ua, seval]) ?_
 rintro tm ⟨e1, e2, e3, e4, e10⟩
 simp only [vz, tyf, seval, ua, rg]
 refine zgz hi (by first | (simp only [znv, ziw, e10, zfc, seval] <;> rfl) | rfl) ?_
 intro LO hLO
 obtain ⟨J, hJ⟩ : ∃ J : Option (List VV) → List (Nat × VObj) → Prop, J = (fun o hp => match o with
  | some l => ∃ p : List Gi, l = p.map sD ∧ hp = [(8, .deferred (some [])), (9, LO), (0, .cells (some 28) (cGs s)), (1, .cells (some 99) (cGi ⟨0, 0, 0⟩)), (2, .cells (some 4) [.lit (.bool false)]), (5, .cells (some 25) (cGa am))] ∧ fdirL s am p = some R
  | none => ∃ LD : Code → VObj, (∃ tml ps az bo d, LD = fun c => VObj.loop .done (some c) tml ps az bo d) ∧ hp = [(8, .deferred (some [])), (9, LD .ret), (0, .cells (some 28) (cGs s)), (1, .cells (some 99) (cGi R.1)), (2, .cells (some 4) [.lit (.bool true)]), (5, .cells (some 25) (cGa am))] ∧ R.2 = true) := ⟨_, rfl⟩
 refine ⟨ownI J, zjl, ?_, ?_, ?_⟩
 ·rintro v rest Fr H nx hFr ⟨hp, hown, hj⟩
  rw [hJ] at hj
  obtain ⟨p, hl, rfl, hR⟩ := hj
  cases p with
  | nil => cases hl
  | cons d p =>
  simp only [List.map_cons, List.cons.injEq] at hl
  obtain ⟨rfl, rfl⟩ := hl
  obtain ⟨l8, n8, H8⟩ := hown.head
  obtain ⟨l9, n9, H9⟩ := hown.tail.head
  obtain ⟨l0, n0, H0⟩ := hown.tail.tail.head
  obtain ⟨l1, n1, H1⟩ := hown.tail.tail.tail.head
  obtain ⟨l2, n2, H2⟩ := hown.tail.tail.tail.tail.head
  obtain ⟨l5, n5, H5⟩ := hown.tail.tail.tail.tail.tail.head
  refine zfx mixed (psl := [11]) hLO H9 zgq rfl (by kernel_rfl) (by kernel_rfl) ?_
  intro LB LD hLB hLD
  refine zib (fun tm => tm 1 = .ptr 0 0 ∧ tm 2 = .ptr 1 0 ∧ tm 3 = .ptr 2 0 ∧ tm 4 = .ptr 5 0 ∧ tm 11 = sD d) (by refine ⟨?_, ?_, ?_, ?_, ?_⟩ <;> simp only [zkn, zif, Tryz.ntmps73, e1, e2, e3, e4, seval]) ?_
  clear e1 e2 e3 e4 e10
  rintro tm ⟨e1, e2, e3, e4, e11⟩
  have m1 : (9 = nx) = False := by simp; omega
  have m2 : (nx = 9) = False := by simp; omega
  have m3 : (0 = nx) = False := by simp; omega
  have m4 : (nx = 0) = False := by simp; omega
  simp only [vz, tyf, seval, ua, nm, rg, RStart, e1, e2, e3, e4, e11, H9, H0, Nat.add_zero, m1, m2, m3, m4]
  unfold fdirL at hR
  rcases hT : fdL s am d s.Tins with _ | t
  ·rw [hT] at hR; cases hR
  rw [hT, Option.bind_some] at hR
  obtain ⟨I0, hI0⟩ : ∃ I0 : Nat → St → Prop, I0 = (fun m st => ∃ (q : List Gt) (c : Int), m = q.length ∧ 0 ≤ c ∧ List.drop (Int.toNat c) s.Tins = q ∧ st.df = [] ∧ nx + 6 ≤ st.nx ∧ (∀ γ, γ < nx → st.H γ = updH H 9 LB γ) ∧ st.H nx = some (.cells (some 99) (cGi d)) ∧
   st.tm 1 = .ptr 0 0 ∧ st.tm 2 = .ptr 1 0 ∧ st.tm 3 = .ptr 2 0 ∧ st.tm 4 = .ptr 5 0 ∧ st.tm 5 = .ptr nx 0 ∧ st.tm 13 = .sl (cellsL cGt s.Tins) (List.length s.Tins) false ∧ st.tm 14 = .lit (.int .i64 (List.length s.Tins)) ∧ st.tm 15 = .lit (.int .i64 c) ∧ fdL s am d q = some t) := ⟨_, rfl⟩
  refine loopK mixed (by kernel_rfl) I0 (List.length s.Tins) (by
   rw [hI0]
   refine ⟨s.Tins, 0, rfl, Int.le_refl _, rfl, rfl, (by show nx + 6 ≤ nx + 6; omega), ?_, ?_, ?_, ?_, ?_, ?_, ?_, ?_, ?_, ?_, hT⟩
   ·intro γ hγ
    simp only [updH]
    by_cases g9 : γ = 9
    ·rw [if_pos g9, if_pos g9]
    ·rw [if_neg g9, if_neg (by omega), if_neg (by omega), if_neg g9]
   ·simp only [zaa, Nat.add_zero, m1, m2, seval] <;> rfl
   all_goals simp only [ua, seval, e1, e2, e3, e4]) ?_
  rintro m ⟨tm, K, kx, df⟩ hinv
  rw [hI0] at hinv
  obtain ⟨q, c, rfl, hc, hq, hdf, hkx, hK, Kx, f1, f2, f3, f4, f5, f13, f14, f15, hT2⟩ := hinv
  simp only at hdf hkx hK Kx f1 f2 f3 f4 f5 f13 f14 f15
  subst hdf
  have K0 : K 0 = some (.cells (some 28) (cGs s)) := by
   rw [hK 0 (by omega)]
   simp only [updH]
   rw [if_neg (by omega)]
   exact H0
  have K5 : K 5 = some (.cells (some 25) (cGa am)) := by
   rw [hK 5 (by omega)]
   simp only [updH]
   rw [if_neg (by omega)]
   exact H5
  have K8 : K 8 = some (.deferred (some [])) := by
   rw [hK 8 (by omega)]
   simp only [updH]
   rw [if_neg (by omega)]
   exact H8
  have K9 : K 9 = some LB := by
   rw [hK 9 (by omega)]
   simp only [zaa, seval]
  have K1 : K 1 = some (.cells (some 99) (cGi ⟨0, 0, 0⟩)) := by
   rw [hK 1 (by omega)]
   simp only [updH]
   rw [if_neg (by omega)]
   exact H1
  have K2 : K 2 = some (.cells (some 4) [.lit (.bool false)]) := by
   rw [hK 2 (by omega)]
   simp only [updH]
   rw [if_neg (by omega)]
   exact H2
  cases q with
  | nil =>
   have hd1 : decide (c < (List.length s.Tins : Int)) = false := zba hc hq
   simp only [fdL, Option.some.injEq] at hT2
   subst hT2
   simp only [cond_true, Option.some.injEq] at hR
   subst hR
   simp only [vz, tyf, seval, ua, nm, rg, f1, f2, f3, f4, f5, f13, f14, f15, hd1, K1, K2, Kx]
   refine ⟨?_, (show nx ≤ kx + 4 by omega), fun γ hγ => ?_, ?_⟩
   ·simp only [updH]
    repeat rw [if_neg (by omega)]
    exact K9
   ·have gx := hFr γ hγ
    have g9 : γ ≠ 9 := fun e => n9 (e ▸ hγ)
    have g1 : γ ≠ 1 := fun e => n1 (e ▸ hγ)
    have g2 : γ ≠ 2 := fun e => n2 (e ▸ hγ)
    simp only [updH]
    rw [if_neg g9, if_neg g2, if_neg g1, hK γ gx]
    simp only [updH]
    rw [if_neg g9]
   ·simp only [Bool.false_eq_true, if_false]
    refine ⟨[(8, .deferred (some [])), (9, LD .ret), (0, .cells (some 28) (cGs s)), (1, .cells (some 99) (cGi d)), (2, .cells (some 4) [.lit (.bool true)]), (5, .cells (some 25) (cGa am))], Own.cons (show 8 < kx + 4 by omega) n8 ?_ (Own.cons (show 9 < kx + 4 by omega) n9 ?_ (Own.cons (show 0 < kx + 4 by omega) n0 ?_ (Own.cons (show 1 < kx + 4 by omega) n1 ?_ (Own.cons (show 2 < kx + 4 by omega) n2 ?_ (Own.cons (show 5 < kx + 4 by omega) n5 ?_ Own.nil))))), ?_⟩
    rotate_left 6
    ·rw [hJ]
     exact ⟨LD, ⟨_, _, _, _, _, hLD⟩, rfl, rfl⟩
    all_goals (simp only [zaa, seval, K8, K0, K5] <;> rfl)
  | cons x q =>
   have hd1 : decide (c < (List.length s.Tins : Int)) = true := zcl hc hq
   have o := zaz hc hq
   have hw := zdg hc hq o3
   have x1 : (0 = kx + 3) = False := by simp
   have x2 : (5 = kx + 3) = False := by simp; omega
   have x3 : (nx = kx + 3) = False := by simp; omega
   simp only [vz, tyf, seval, ua, nm, rg, f1, f2, f3, f4, f5, f13, f14, f15, hd1, K0, K5, Kx, (ix26 o)]
   refine zgb (fun tm => tm 1 = .ptr 0 0 ∧ tm 2 = .ptr 1 0 ∧ tm 3 = .ptr 2 0 ∧ tm 4 = .ptr 5 0 ∧ tm 5 = .ptr nx 0 ∧ tm 7 = .ptr (kx + 3) 0 ∧ tm 13 = .sl (cellsL cGt s.Tins) (List.length s.Tins) false ∧ tm 14 = .lit (.int .i64 (List.length s.Tins)) ∧ tm 15 = .lit (.int .i64 c)) (by refine ⟨?_, ?_, ?_, ?_, ?_, ?_, ?_, ?_, ?_⟩ <;> simp only [ua, seval, f1, f2, f3, f4, f5, f13, f14, f15]) ?_
   clear f1 f2 f3 f4 f5 f13 f14 f15 tm
   rintro tm ⟨f1, f2, f3, f4, f5, f7, f13, f14, f15⟩
   simp only [fdL] at hT2
   rcases ov : zbv d x.pg with _ | v
   ·rw [ov] at hT2; cases hT2
   rw [ov, Option.bind_some] at hT2
   rcases oz : zdq d with _ | z
   ·rw [oz] at hT2; cases hT2
   rw [oz, Option.bind_some] at hT2
   rcases ow : zbv d am with _ | w
   ·rw [ow] at hT2; cases hT2
   rw [ow, Option.bind_some] at hT2
   simp only [vz, tyf, seval, ua, nm, rg, f1, f4, f5, f7, K0, K5, Kx, x1, x2, x3, zaau, zadn]
   refine dktA (zfa _ _ _ ov) ?_
   refine zac (fun tm => tm 1 = .ptr 0 0 ∧ tm 2 = .ptr 1 0 ∧ tm 3 = .ptr 2 0 ∧ tm 4 = .ptr 5 0 ∧ tm 5 = .ptr nx 0 ∧ tm 13 = .sl (cellsL cGt s.Tins) (List.length s.Tins) false ∧ tm 14 = .lit (.int .i64 (List.length s.Tins)) ∧ tm 15 = .lit (.int .i64 c) ∧ tm 22 = .agg (cGSpan v)) (by refine ⟨?_, ?_, ?_, ?_, ?_, ?_, ?_, ?_, ?_⟩ <;> (simp only [ua, seval, f1, f2, f3, f4, f5, f13, f14, f15, f7] <;> rfl)) ?_
   clear f1 f2 f3 f4 f5 f13 f14 f15  f7 tm
   rintro tm ⟨f1, f2, f3, f4, f5, f13, f14, f15, f22⟩
   simp only [vz, tyf, seval, ua, nm, rg, f1, f4, f5, f22, K0, K5, Kx, x1, x2, x3, zaau, zadn]
   refine dktA (zij _ _ oz) ?_
   refine zac (fun tm => tm 1 = .ptr 0 0 ∧ tm 2 = .ptr 1 0 ∧ tm 3 = .ptr 2 0 ∧ tm 4 = .ptr 5 0 ∧ tm 5 = .ptr nx 0 ∧ tm 13 = .sl (cellsL cGt s.Tins) (List.length s.Tins) false ∧ tm 14 = .lit (.int .i64 (List.length s.Tins)) ∧ tm 15 = .lit (.int .i64 c) ∧ tm 23 = .lit (.int .i64 v.High) ∧ tm 25 = .lit (.int .i64 s.Off) ∧ tm 27 = .lit (.int .i64 z)) (by refine ⟨?_, ?_, ?_, ?_, ?_, ?_, ?_, ?_, ?_, ?_, ?_⟩ <;> (simp only [ua, seval, f1, f2, f3, f4, f5, f13, f14, f15, f22] <;> rfl)) ?_
   clear f1 f2 f3 f4 f5 f13 f14 f15  f22 tm
   rintro tm ⟨f1, f2, f3, f4, f5, f13, f14, f15, f23, f25, f27⟩
   simp only [vz, tyf, seval, ua, nm, rg, f1, f4, f5, f23, f25, f27, K0, K5, Kx, x1, x2, x3, zaau, zadn]
   refine dktA (zfa _ _ _ ow) ?_
   refine zac (fun tm => tm 1 = .ptr 0 0 ∧ tm 2 = .ptr 1 0 ∧ tm 3 = .ptr 2 0 ∧ tm 4 = .ptr 5 0 ∧ tm 5 = .ptr nx 0 ∧ tm 13 = .sl (cellsL cGt s.Tins) (List.length s.Tins) false ∧ tm 14 = .lit (.int .i64 (List.length s.Tins)) ∧ tm 15 = .lit (.int .i64 c) ∧ tm 29 = .lit (.int .i64 (IntKind.i64.wrap (v.High + IntKind.i64.wrap (s.Off * z)))) ∧ tm 32 = .agg (cGSpan w)) (by refine ⟨?_, ?_, ?_, ?_, ?_, ?_, ?_, ?_, ?_, ?_⟩ <;> (simp only [ua, seval, f1, f2, f3, f4, f5, f13, f14, f15, f23, f25, f27] <;> rfl)) ?_
   clear f1 f2 f3 f4 f5 f13 f14 f15  f23  f25  f27 tm
   rintro tm ⟨f1, f2, f3, f4, f5, f13, f14, f15, f29, f32⟩
   cases hcmp : decide (IntKind.i64.wrap (v.High + IntKind.i64.wrap (s.Off * z)) ≥ w.Low) with
   | true =>
    rw [hcmp, cond_true, Option.some.injEq] at hT2
    subst hT2
    rw [cond_false] at hR
    simp only [vz, tyf, seval, ua, nm, rg, f1, f4, f5, f29, f32, K0, K5, Kx, x1, x2, x3, zaau, zadn, hcmp]
    refine ⟨?_, (show nx ≤ kx + 21 by omega), fun γ hγ => ?_, ?_⟩
    ·simp only [updH]
     repeat rw [if_neg (by omega)]
     exact K9
    ·have gx := hFr γ hγ
     have g9 : γ ≠ 9 := fun e => n9 (e ▸ hγ)
     simp only [updH]
     rw [if_neg g9, if_neg (by omega), if_neg (by omega), hK γ gx]
     simp only [updH]
     rw [if_neg g9]
    ·simp only [if_true]
     refine ⟨[(8, .deferred (some [])), (9, LO), (0, .cells (some 28) (cGs s)), (1, .cells (some 99) (cGi ⟨0, 0, 0⟩)), (2, .cells (some 4) [.lit (.bool false)]), (5, .cells (some 25) (cGa am))], Own.cons (show 8 < kx + 21 by omega) n8 ?_ (Own.cons (show 9 < kx + 21 by omega) n9 ?_ (Own.cons (show 0 < kx + 21 by omega) n0 ?_ (Own.cons (show 1 < kx + 21 by omega) n1 ?_ (Own.cons (show 2 < kx + 21 by omega) n2 ?_ (Own.cons (show 5 < kx + 21 by omega) n5 ?_ Own.nil))))), ?_⟩
     rotate_left 6
     ·rw [hJ]
      exact ⟨p, rfl, rfl, hR⟩
     ·simp only [updH]
      repeat rw [if_neg (by omega)]
      exact K8
     ·simp only [zaa, seval]
     ·simp only [updH]
      repeat rw [if_neg (by omega)]
      exact K0
     ·simp only [updH]
      repeat rw [if_neg (by omega)]
      exact K1
     ·simp only [updH]
      repeat rw [if_neg (by omega)]
      exact K2
     ·simp only [updH]
      repeat rw [if_neg (by omega)]
      exact K5
   | false =>
    rw [hcmp, cond_false] at hT2
    simp only [vz, tyf, seval, ua, nm, rg, f1, f4, f5, f29, f32, f15, K0, K5, Kx, x1, x2, x3, zaau, zadn, hcmp, hw]
    refine ⟨q.length, Nat.lt_succ_self _, ?_⟩
    rw [hI0]
    refine ⟨q, c + 1, rfl, by omega, zbu hc hq, rfl, (by show nx + 6 ≤ kx + 23; omega), ?_, ?_, ?_, ?_, ?_, ?_, ?_, ?_, ?_, ?_, hT2⟩
    ·intro γ hγ
     simp only [updH]
     rw [if_neg (by omega), if_neg (by omega)]
     exact hK γ hγ
    ·simp only [updH]
     rw [if_neg (by omega), if_neg (by omega)]
     exact Kx
    all_goals simp only [ua, seval, f1, f2, f3, f4, f5, f13, f14]
 ·refine ⟨[(8, .deferred (some [])), (9, LO), (0, .cells (some 28) (cGs s)), (1, .cells (some 99) (cGi ⟨0, 0, 0⟩)), (2, .cells (some 4) [.lit (.bool false)]), (5, .cells (some 25) (cGa am))], Own.cons (show 8 < 10 by omega) (fun h => h) ?_ (Own.cons (show 9 < 10 by omega) (fun h => h) ?_ (Own.cons (show 0 < 10 by omega) (fun h => h) ?_ (Own.cons (show 1 < 10 by omega) (fun h => h) ?_ (Own.cons (show 2 < 10 by omega) (fun h => h) ?_ (Own.cons (show 5 < 10 by omega) (fun h => h) ?_ Own.nil))))), ?_⟩
  rotate_left 6
  ·rw [hJ]
   exact ⟨L, rfl, rfl, h⟩
  all_goals (simp only [zaa, seval] <;> rfl)
 ·rintro H' nx' (⟨hp, hown, hj⟩ | ⟨hp, hown, hj⟩)
  ·rw [hJ] at hj
   obtain ⟨p, hl, rfl, hR⟩ := hj
   cases p with
   | cons e p => cases hl
   | nil =>
   simp only [fdirL, Option.some.injEq] at hR
   subst hR
   obtain ⟨l8, n8, H8⟩ := hown.head
   obtain ⟨l9, n9, H9⟩ := hown.tail.head
   obtain ⟨l0, n0, H0⟩ := hown.tail.tail.head
   obtain ⟨l1, n1, H1⟩ := hown.tail.tail.tail.head
   obtain ⟨l2, n2, H2⟩ := hown.tail.tail.tail.tail.head
   refine zfj hLO H9 ?_
   intro LX
   simp only [vz, tyf, seval, ua, rg, e1, e2, e3, e4, H1, H2]
   refine zhk (by simp only [zaa, seval, H8]) ?_
   refine zav (x := .tup [.agg (cGi ⟨0, 0, 0⟩), .lit (.bool false)]) (by simp only [Tryz.results73, resV, resL, resV1, zax, zcc, uw, cr, tyf, e2, e3, H1, H2, nm, seval] <;> rfl) ?_
   refine zay (by simp only [tre, tytre, Bool.and_self]) ?_
   simp only [outV, nrm, tynrm, seval, List.map_cons, List.map_nil]
   rfl
  ·rw [hJ] at hj
   obtain ⟨LD, ⟨tml, ps, az, bo, d, hLD⟩, rfl, hR2⟩ := hj
   obtain ⟨l8, n8, H8⟩ := hown.head
   obtain ⟨l9, n9, H9⟩ := hown.tail.head
   obtain ⟨l0, n0, H0⟩ := hown.tail.tail.head
   obtain ⟨l1, n1, H1⟩ := hown.tail.tail.tail.head
   obtain ⟨l2, n2, H2⟩ := hown.tail.tail.tail.tail.head
   obtain ⟨R1, R2⟩ := R
   simp only at hR2 H1
   subst hR2
   refine zgr hLD H9 ?_
   intro LX
   simp only [vz, tyf, seval, ua, rg, e1, e2, e3, e4, H1, H2]
   refine zhk (by simp only [zaa, seval, H8]) ?_
   refine zav (x := .tup [.agg (cGi R1), .lit (.bool true)]) (by simp only [Tryz.results73, resV, resL, resV1, zax, zcc, uw, cr, tyf, e2, e3, H1, H2, nm, seval] <;> rfl) ?_
   refine zay (by simp only [tre, tytre, Bool.and_self]) ?_
   simp only [outV, nrm, tynrm, seval, List.map_cons, List.map_nil]
   rfl
def zkc (x0_s : Gs) : Option (Gi × Int) := Option.bind (zbl x0_s) (fun r1 => cond (r1) (Option.bind (zew x0_s) (fun r2 => cond (r2.2) (some (r2.1, 0)) (some ((Gi.mk 0 0 0), 5)))) (some ((Gi.mk 0 0 0), 2)))
theorem zow (x0_s : Gs) (R : Gi × Int) (h : zkc x0_s = some R) : VPure Tryz.prog G0 37 [.agg (cGs x0_s)] (.tree (.tup [.agg (cGi R.1), .lit (.int .i64 R.2)])) := by
 refine VPure.runR mixed Tryz.call37 Tryz.func37 rfl (by simp [Tryz.ntmps37]; kernel_rfl) ?_
 obtain ⟨KF, h, kF, kN⟩ := zaq h
 simp only [zkc] at h
 obtain ⟨r3, o4, h⟩ := optI h kN
 try simp only [hs] at h
 simp only [vz, tyf, nm, seval]
 refine ktA (zdd _ _ o4) ?_
 refine zac (fun tm => tm 1 = .ptr 0 0 ∧ tm 2 = .ptr 1 0 ∧ tm 7 = .lit (.bool r3) ∧ True) (by refine ⟨?_, ?_, ?_, trivial⟩ <;> first | (simp only [ua, nm, seval] <;> rfl) | rfl) ?_
 rintro tm ⟨e5, e6, e7, _⟩
 cases d8 : (r3)
 ·simp only [d8, hs] at h
  try simp only [vz, tyf, e5, e6, e7, d8, nm, seval]
  refine zav (x := (.tup [.agg ([.lit (.int .i64 0)] ++ [.lit (.int .i64 0)] ++ [.lit (.int .i64 0)]), .lit (.int .i64 2)])) (by first | (simp only [Tryz.results37, resV, resL, resV1, zax, zcc, uw, cr, tyf, e5, e6, e7, d8, nm, seval] <;> rfl) | rfl) ?_
  obtain rfl := kF _ h
  refine zay ?_ ?_
  ·simp only [tre, tytre, Bool.and_self]
  ·first | (simp only [outV, uw, zak, cr, tyf, nrm, tynrm, e5, e6, e7, d8, nm, seval] <;> rfl) | rfl
 simp only [d8, hs] at h
 obtain ⟨r9, o10, h⟩ := optI h kN
 try simp only [hs] at h
 simp only [vz, tyf, e5, e6, e7, d8, nm, seval]
 refine ktA (zia _ _ o10) ?_
 refine zac (fun tm => tm 2 = .ptr 1 0 ∧ tm 12 = .tup [.agg (cGi r9.1), .lit (.bool r9.2)] ∧ True) (by refine ⟨e6, ?_, trivial⟩ <;> first | (simp only [ua, e5, e6, e7, d8, nm, seval] <;> rfl) | rfl) ?_
 rintro tm ⟨e11, e12, _⟩
 cases d13 : (r9.2)
 ·simp only [d13, hs] at h
  try simp only [vz, tyf, d8, e11, e12, d13, nm, seval]
  refine zav (x := (.tup [.agg ([.lit (.int .i64 0)] ++ [.lit (.int .i64 0)] ++ [.lit (.int .i64 0)]), .lit (.int .i64 5)])) (by first | (simp only [Tryz.results37, resV, resL, resV1, zax, zcc, uw, cr, tyf, d8, e11, e12, d13, nm, seval] <;> rfl) | rfl) ?_
  obtain rfl := kF _ h
  refine zay ?_ ?_
  ·simp only [tre, tytre, Bool.and_self]
  ·first | (simp only [outV, uw, zak, cr, tyf, nrm, tynrm, d8, e11, e12, d13, nm, seval] <;> rfl) | rfl
 simp only [d13, hs] at h
 try simp only [vz, tyf, d8, e11, e12, d13, nm, seval]
 refine zav (x := (.tup [.agg (cGi r9.1), .lit (.int .i64 0)])) (by first | (simp only [Tryz.results37, resV, resL, resV1, zax, zcc, uw, cr, tyf, d8, e11, e12, d13, nm, seval] <;> rfl) | rfl) ?_
 obtain rfl := kF _ h
 refine zay ?_ ?_
 ·simp only [tre, tytre, Bool.and_self]
 ·first | (simp only [outV, uw, zak, cr, tyf, nrm, tynrm, d8, e11, e12, d13, nm, seval] <;> rfl) | rfl
end Go.V
end
section
namespace Go.V
open Go
def sA : Gs := ⟨⟨60, 40, 20⟩, ⟨⟨1, 2⟩, ⟨1, 1⟩, ⟨0, 0⟩⟩, ⟨5, 5⟩, 5, [⟨⟨⟨80, 82⟩, ⟨20, 20⟩, ⟨0, 2⟩⟩⟩, ⟨⟨⟨20, 22⟩, ⟨60, 60⟩, ⟨40, 40⟩⟩⟩, ⟨⟨⟨50, 50⟩, ⟨10, 12⟩, ⟨30, 30⟩⟩⟩]⟩
def sB : Gs := ⟨⟨60, 40, 20⟩, ⟨⟨1, 2⟩, ⟨1, 1⟩, ⟨0, 0⟩⟩, ⟨5, 5⟩, 5, [⟨⟨⟨20, 22⟩, ⟨60, 60⟩, ⟨40, 40⟩⟩⟩, ⟨⟨⟨50, 50⟩, ⟨10, 12⟩, ⟨30, 30⟩⟩⟩]⟩
theorem zakn : zkc sB = some (⟨0, 0, -2⟩, 0) := by kernel_rfl
theorem zakm : zkd sA = some (9, 0) := by kernel_rfl
theorem zarc : zgm sA = some ([1, 1, 0], 5, 0) := by kernel_rfl
theorem zakt : zkm sA = some ([0, 1], 0) := by kernel_rfl
theorem zake : zfs sA = some ([1, 1, 0], 0) := by kernel_rfl
end Go.V
end
section
namespace Go.V
open Go Go.Proofs
theorem qshA : VV.agg (cGs sA) = kA := by kernel_rfl
theorem qshB : VV.agg (cGs sB) = kB := by kernel_rfl
theorem pCount : VPure Tryz.prog G0 44 [kA] (.tree kCount) := qshA ▸ zpd sA (9, 0) zakm
theorem pNear : VPure Tryz.prog G0 50 [kA] (.tree kNear) := qshA ▸ zkz sA ([1, 1, 0], 5, 0) zarc
theorem pNeeds : VPure Tryz.prog G0 55 [kA] (.tree kNeeds) := qshA ▸ zph sA ([0, 1], 0) zakt
theorem pFirst : VPure Tryz.prog G0 42 [kA] (.tree kFirst) := qshA ▸ zjx sA ([1, 1, 0], 0) zake
theorem pProof : VPure Tryz.prog G0 37 [kB] (.tree kProof) := qshB ▸ zow sB (⟨0, 0, -2⟩, 0) zakn
theorem pMay : VPure Tryz.prog G0 43 [kA] (.tree kMay) := VPure.closedB hmix 1000 (by kernel_rfl)
def kTab : KTab := [
  (54, [], kA),
  (56, [], kB),
  (53, [], kD),
  (18, [kD], kAim),
  (19, [kA, .sl [.lit (.int .i64 (1)), .lit (.int .i64 (1)), .lit (.int .i64 (0))] 3 false], kSums),
  (27, [kA, .sl [.lit (.int .i64 (3)), .lit (.int .i64 (2)), .lit (.int .i64 (0))] 3 false], kWord),
  (24, [kA, .sl [.lit (.int .i64 (1)), .lit (.int .i64 (1)), .lit (.int .i64 (0))] 3 false, .agg [.sl [.lit (.int .i64 80),.lit (.int .i64 20),.lit (.int .i64 0),.lit (.int .i64 20),.lit (.int .i64 60),.lit (.int .i64 40),.lit (.int .i64 50),.lit (.int .i64 10),.lit (.int .i64 30)] 3 false,.lit (.int .i64 5),.lit (.int .i64 2),.lit (.int .i64 1),.lit (.int .i64 0)]], kTrue),
  (28, [kD, .sl [.lit (.int .i64 (1)), .lit (.int .i64 (1)), .lit (.int .i64 (0))] 3 false], kYears),
  (57, [.lit (.string ⟨⟨[98, 111, 97, 114, 100, 32, 49, 32, 50, 32, 51, 32, 48, 32, 48, 32, 49, 10, 102, 97, 100, 101, 32, 48, 32, 48, 32, 48, 32, 48, 32, 48, 32, 48, 10, 116, 105, 110, 32, 49, 32, 49, 32, 50, 32, 50, 32, 51, 32, 51, 10, 101, 110, 100, 32, 49, 54, 52, 10]⟩⟩)], kRead),
  (44, [kA], kCount),
  (50, [kA], kNear),
  (55, [kA], kNeeds),
  (37, [kB], kProof),
  (42, [kA], kFirst),
  (43, [kA], kMay)]
theorem kTabOk : KTabOk Tryz.prog G0 kTab := ⟨⟨by kernel_rfl, pA⟩, ⟨⟨by kernel_rfl, pB⟩, ⟨⟨by kernel_rfl, pD⟩, ⟨⟨by kernel_rfl, pAim⟩, ⟨⟨by kernel_rfl, pSums⟩, ⟨⟨by kernel_rfl, pWord⟩, ⟨⟨by kernel_rfl, pTrue⟩, ⟨⟨by kernel_rfl, pYears⟩, ⟨⟨by kernel_rfl, pRead⟩, ⟨⟨by kernel_rfl, pCount⟩, ⟨⟨by kernel_rfl, pNear⟩, ⟨⟨by kernel_rfl, pNeeds⟩, ⟨⟨by kernel_rfl, pProof⟩, ⟨⟨by kernel_rfl, pFirst⟩, ⟨⟨by kernel_rfl, pMay⟩, trivial⟩⟩⟩⟩⟩⟩⟩⟩⟩⟩⟩⟩⟩⟩⟩
theorem pKnown : VPure Tryz.prog G0 16 [] (.tree (.lit (.bool true))) := VPure.closedT hmix kTabOk 1000 (by kernel_rfl)
#print axioms pKnown
theorem zbb : VPure Tryz.prog G0 16 [] (.tree (.lit (.bool true))) := pKnown

end Go.V
end
section
namespace Go.V
open Go
def z3 : Ga := ⟨⟨0, 0⟩, ⟨0, 0⟩, ⟨0, 0⟩⟩
theorem TrOk.b {s : Gs} (hs : ShOk s) {t : Gu} (ht : TrOk s t) (p : P3) : ∀ a ∈ t.Tins, 0 ≤ selI a p ∧ selI a p ≤ 99 := by
 intro a ha
 obtain ⟨i, hi⟩ := List.mem_iff_getElem?.1 ha
 have hlt := (List.getElem?_eq_some_iff.1 hi).1
 obtain ⟨c, hc⟩ : ∃ c, s.Tins[i]? = some c := ⟨_, List.getElem?_eq_getElem (by rw [← ht.n]; exact hlt)⟩
 have h1 := ht.tin i a c hi hc p
 have h2 := hs.low p c (List.mem_of_getElem? hc)
 have h3 := hs.high p c (List.mem_of_getElem? hc)
 omega
end Go.V
end
section
namespace Go.V
open Go Go.Proofs

end Go.V
end
section
namespace Go.V
open Go
theorem MixOk.lenOk {s : Gs} (hs : ShOk s) {q : List Int} (h : MixOk s q) : lenOk q = true := by
 have := hs.n; have := h.n
 unfold Go.V.lenOk
 rw [decide_eq_true_eq]
 omega
def sureL (s : Gs) : List (List Int) := (allL s).filter (surelyB s)
theorem zue {f : Gm → Option Bool} {s : Gs} {B : List Int → Bool} : ∀ (L : List (List Int)), (∀ q ∈ L, f ⟨s, q⟩ = some (B q)) → filterO f (L.map (Gm.mk s)) = some ((L.filter B).map (Gm.mk s))
 | [], _ => rfl
 | q :: L, h => by
  have ih := zue (f := f) (B := B) L fun x hx => h x (List.mem_cons_of_mem _ hx)
  simp only [List.map_cons, filterO, h q (List.mem_cons_self ..), ih, Option.bind_some, List.filter_cons]
  cases B q <;> rfl
theorem zaow {s : Gs} (hs : ShOk s) : zjy s = some ((sureL s).map (Gm.mk s)) := by
 unfold zjy
 rw [zql hs, Option.bind_some]
 exact zue (B := surelyB s) (allL s) fun q hq => zyg hs ((zlj hs).1 hq)
def hdE : List (List Int) → List Int × Int
 | [] => ([], 5)
 | x :: _ => (x, 0)
theorem zahs {s : Gs} (L : List (List Int)) : headE (L.map (Gm.mk s)) = hdE L := by
 cases L <;> rfl
theorem zakb {s : Gs} (h : lenOk s.Tins = true) : zfs s = some (cond (sheetB s) (hdE (sureL s)) ([], 2)) := by
 unfold zfs
 rw [zng h, Option.bind_some]
 cases hb : sheetB s with
 | false => rfl
 | true => simp only [cond_true, zaow (ShOk.of hb), Option.bind_some, zahs]
theorem zrx {s : Gs} (hs : ShOk s) {q : List Int} (hm : MixOk s q) : zbt ⟨s, q⟩ = some (needI s q) := by
 have h0 := zaht hs hm .p0
 have h1 := zaht hs hm .p1
 have h2 := zaht hs hm .p2
 simp only [P3.i] at h0 h1 h2
 unfold zbt
 rw [h0, h1, h2]
 rfl
def bestL (s : Gs) : List (List Int) → List Int → List Int
 | [], b => b
 | q :: L, b => bestL s L (cond (decide (needI s q < needI s b)) q b)
theorem zamn {s : Gs} (hs : ShOk s) {q b : List Int} (hq : MixOk s q) (hb : MixOk s b) : zdu ⟨s, q⟩ ⟨s, b⟩ = some (decide (needI s q < needI s b)) := by
 unfold zdu
 rw [zrx hs hq, zrx hs hb]
 rfl
theorem zacu {s : Gs} : ∀ (L : List (List Int)) (b : List Int), (∀ q ∈ L, MixOk s q) → MixOk s b → MixOk s (bestL s L b)
 | [], b, _, hb => hb
 | q :: L, b, h, hb => by
  rw [bestL]
  refine zacu L _ (fun x hx => h x (List.mem_cons_of_mem _ hx)) ?_
  cases decide (needI s q < needI s b)
  ·exact hb
  ·exact h q (List.mem_cons_self ..)
theorem zup {s : Gs} (hs : ShOk s) : ∀ (L : List (List Int)) (b : List Int), (∀ q ∈ L, MixOk s q) → MixOk s b → bestO zdu (L.map (Gm.mk s)) (⟨s, b⟩, true) = some (⟨s, bestL s L b⟩, true)
 | [], b, _, hb => rfl
 | q :: L, b, h, hb => by
  have hq := h q (List.mem_cons_self ..)
  have hL : ∀ x ∈ L, MixOk s x := fun x hx => h x (List.mem_cons_of_mem _ hx)
  rw [List.map_cons, bestO, bestL, zamn hs hq hb]
  cases hd : decide (needI s q < needI s b)
  ·exact zup hs L b hL hb
  ·exact zup hs L q hL hq
theorem zqx {s : Gs} (hs : ShOk s) : ∃ q L, allL s = q :: L := by
 have hN := hs.n
 obtain ⟨d, hd⟩ : ∃ d, s.Tins.length = d + 1 := ⟨s.Tins.length - 1, by omega⟩
 have := zaiu (parts := 1) d [] (by simp only [sumL]; omega)
 unfold allL
 rw [hd]
 simp only [allR]
 revert this
 cases mixL 1 (d + 1) [] with
 | nil => intro h; cases h
 | cons q L => intro _; exact ⟨q, _, rfl⟩
def nearL (s : Gs) : List Int := match allL s with
 | [] => []
 | q :: L => bestL s L q
theorem zvw {s : Gs} (hs : ShOk s) : MixOk s (nearL s) := by
 obtain ⟨q, L, hL⟩ := zqx hs
 have h : ∀ x ∈ allL s, MixOk s x := fun x hx => (zlj hs).1 hx
 unfold nearL
 rw [hL] at h ⊢
 exact zacu L q (fun x hx => h x (List.mem_cons_of_mem _ hx)) (h q (List.mem_cons_self ..))
theorem zaqa {s : Gs} (h : lenOk s.Tins = true) : zgm s = some (cond (sheetB s) (nearL s, needI s (nearL s), 0) ([], 0, 2)) := by
 unfold zgm
 rw [zng h, Option.bind_some]
 cases hb : sheetB s with
 | false => rfl
 | true =>
  have hs := ShOk.of hb
  obtain ⟨q, L, hL⟩ := zqx hs
  have h : ∀ x ∈ allL s, MixOk s x := fun x hx => (zlj hs).1 hx
  have hn := zvw hs
  have hnl : nearL s = bestL s L q := by unfold nearL; rw [hL]
  rw [hL] at h
  rw [hnl] at hn ⊢
  rw [zql hs, hL]
  simp only [cond_true, Option.bind_some, List.map_cons, bestO, cond_false, zup hs L q (fun x hx => h x (List.mem_cons_of_mem _ hx)) (h q (List.mem_cons_self ..)), zrx hs hn]
end Go.V
end
section
namespace Go.V
open Go Go.Proofs
def zdc (x1_b : List Int) : List Int → Int → Option (LOut (Bool) (Unit))
 | [], c0_5 => some (.go ())
 | e0 :: p0, c0_5 => cond (decide (c0_5 < (List.length x1_b : Int))) (Option.bind (getI x1_b c0_5) (fun x1 => cond (e0 != x1) (some (.ret (decide (e0 < x1)))) (zdc x1_b p0 (c0_5 + 1)))) (some (.go ()))
def zfo (x0_a : List Int) (x1_b : List Int) : Option (Bool) := cond (lenOk x0_a) (lbind (zdc x1_b x0_a 0) (fun r3 => some r3) (fun c2 => some (decide ((List.length x0_a : Int) < (List.length x1_b : Int)))) (fun _ _ => none)) none
theorem zmo (x0_a : List Int) (x1_b : List Int) (R : Bool) (h : zfo x0_a x1_b = some R) : VPure Tryz.prog G0 41 [.sl (cellsL eI x0_a) (List.length x0_a) false, .sl (cellsL eI x1_b) (List.length x1_b) false] (.tree (.lit (.bool R))) := by
 refine VPure.runR mixed Tryz.call41 Tryz.func41 rfl (by simp [Tryz.ntmps41]; kernel_rfl) ?_
 obtain ⟨KF, h, kF, kN⟩ := zaq h
 simp only [zfo] at h
 cases g5 : (lenOk x0_a)
 ·simp only [g5, hs] at h
  exact absurd h kN
 simp only [g5, hs] at h
 simp only [vz, tyf, g5, nm, seval]
 obtain ⟨K4, h, kR4, kG4, kB4, kN4⟩ := zbh h kN
 obtain ⟨f4, hf4, h⟩ := call2 h
 obtain ⟨I4, hI4⟩ : ∃ I : Nat → St → Prop, I = (fun m st => ∃ (p4 : List Int) (c4_5 : Int), m = List.length p4 ∧ 0 ≤ c4_5 ∧ List.drop (Int.toNat c4_5) x0_a = p4 ∧ st.df = [] ∧ 2 ≤ st.nx ∧ st.tm 0 = .sl (cellsL eI x0_a) (List.length x0_a) false ∧ st.tm 1 = .sl (cellsL eI x1_b) (List.length x1_b) false ∧ st.tm 5 = .lit (.int .i64 c4_5) ∧ K4 (f4 p4 c4_5)) := ⟨_, rfl⟩
 refine loopK mixed (by kernel_rfl) I4 (List.length x0_a) (by rw [hI4]; refine ⟨x0_a, 0, rfl, Int.le_refl _, rfl, rfl, (show 2 ≤ 2 by omega), ?_, ?_, ?_, h⟩ <;> first | (simp only [ua, nm, seval] <;> rfl) | rfl) ?_
 rintro m ⟨tm, H, nx4, df⟩ hinv
 rw [hI4] at hinv
 obtain ⟨p4, c4_5, rfl, hi4, hp4, hdf, hn4, e6, e7, e8, h⟩ := hinv
 simp only at hdf hn4 e6 e7 e8
 have n9 := zcw (m := 2) (b := nx4) (by omega)
 subst hdf hf4
 cases p4 with
 | nil =>
  have d10 : (decide (c4_5 < (List.length x0_a : Int))) = false := zba hi4 hp4
  simp only [zdc, hs, reduceCtorEq] at h
  replace h := kG4 _ h
  try dsimp only at h
  try simp only [hs] at h
  try simp only [vz, tyf, g5, n9, e6, e7, e8, d10, nm, seval]
  obtain rfl := kF _ h
  exact zab Tryz.results41 rfl
 | cons e4 p4 =>
  have d11 : (decide (c4_5 < (List.length x0_a : Int))) = true := zcl hi4 hp4
  have o13 := zaz hi4 hp4
  have w12 := zdg hi4 hp4 g5
  simp only [zdc, hs, reduceCtorEq] at h
  cases d14 : (decide (c4_5 < (List.length x1_b : Int)))
  ·simp only [d14, hs] at h
   replace h := kG4 _ h
   try dsimp only at h
   try simp only [hs] at h
   try simp only [vz, tyf, g5, n9, e6, e7, e8, d11, (ix29 o13), w12, d14, nm, seval]
   obtain rfl := kF _ h
   exact zab Tryz.results41 rfl
  simp only [d14, hs] at h
  simp only [vz, tyf, g5, n9, e6, e7, e8, d11, (ix29 o13), w12, d14, nm, seval]
  refine zgb (fun tm => tm 0 = .sl (cellsL eI x0_a) (List.length x0_a) false ∧ tm 1 = .sl (cellsL eI x1_b) (List.length x1_b) false ∧ tm 5 = .lit (.int .i64 c4_5) ∧ True) (by refine ⟨e6, e7, e8, trivial⟩ <;> first | (simp only [ua, n9, e6, e7, e8, d11, w12, d14, nm, seval] <;> rfl) | rfl) ?_
  rintro tm ⟨e15, e16, e17, _⟩
  obtain ⟨x18, o19, h⟩ := optI h kN4
  try simp only [hs] at h
  cases d20 : (e4 != x18)
  ·simp only [d20, hs] at h
   simp only [vz, tyf, g5, n9, d11, (ix29 o13), w12, d14, e15, e16, e17, (ix29 o19), d20, nm, seval]
   exact ⟨List.length p4, Nat.lt_succ_self _, by rw [hI4]; refine ⟨p4, c4_5 + 1, rfl, Int.le_trans hi4 (Int.le_add_one (Int.le_refl _)), zbu hi4 hp4, rfl, (show 2 ≤ nx4 + 22 by omega), e15, e16, ?_, h⟩ <;> first | (simp only [ua, n9, d11, w12, d14, e15, e16, e17, d20, nm, seval] <;> rfl) | rfl⟩
  simp only [d20, hs] at h
  simp only [vz, tyf, g5, n9, d11, (ix29 o13), w12, d14, e15, e16, e17, (ix29 o19), d20, nm, seval]
  refine zgb (fun tm => tm 0 = .sl (cellsL eI x0_a) (List.length x0_a) false ∧ tm 1 = .sl (cellsL eI x1_b) (List.length x1_b) false ∧ tm 5 = .lit (.int .i64 c4_5) ∧ True) (by refine ⟨e15, e16, e17, trivial⟩ <;> first | (simp only [ua, n9, d11, w12, d14, e15, e16, e17, d20, nm, seval] <;> rfl) | rfl) ?_
  rintro tm ⟨e21, e22, e23, _⟩
  try simp only [vz, tyf, g5, n9, d11, (ix29 o13), w12, d14, (ix29 o19), d20, e21, e22, e23, nm, seval]
  replace h := kR4 _ h
  try dsimp only at h
  obtain rfl := kF _ h
  exact zab Tryz.results41 rfl
def zdl (x0_a : List Int) (x1_b : List Int) : Option (Bool) := Option.bind (zen x0_a) (fun r1 => Option.bind (zen x1_b) (fun r2 => cond (decide (r1 < r2)) (some true) (cond (r1 == r2) (Option.bind (zfo x0_a x1_b) (fun r3 => some r3)) (some false))))
theorem zfe (x0_a : List Int) (x1_b : List Int) (R : Bool) (h : zdl x0_a x1_b = some R) : VPure Tryz.prog G0 49 [.sl (cellsL eI x0_a) (List.length x0_a) false, .sl (cellsL eI x1_b) (List.length x1_b) false] (.tree (.lit (.bool R))) := by
 refine VPure.runR mixed Tryz.call49 Tryz.func49 rfl (by simp [Tryz.ntmps49]; kernel_rfl) ?_
 obtain ⟨KF, h, kF, kN⟩ := zaq h
 simp only [zdl] at h
 obtain ⟨r4, o5, h⟩ := optI h kN
 try simp only [hs] at h
 simp only [vz, tyf, nm, seval]
 refine ktA (zem _ _ o5) ?_
 refine zac (fun tm => tm 0 = .sl (cellsL eI x0_a) (List.length x0_a) false ∧ tm 1 = .sl (cellsL eI x1_b) (List.length x1_b) false ∧ tm 6 = .lit (.int .i64 r4) ∧ True) (by refine ⟨?_, ?_, ?_, trivial⟩ <;> first | (simp only [ua, nm, seval] <;> rfl) | rfl) ?_
 rintro tm ⟨e6, e7, e8, _⟩
 obtain ⟨r9, o10, h⟩ := optI h kN
 try simp only [hs] at h
 simp only [vz, tyf, e6, e7, e8, nm, seval]
 refine ktA (zem _ _ o10) ?_
 refine zac (fun tm => tm 0 = .sl (cellsL eI x0_a) (List.length x0_a) false ∧ tm 1 = .sl (cellsL eI x1_b) (List.length x1_b) false ∧ tm 6 = .lit (.int .i64 r4) ∧ tm 8 = .lit (.int .i64 r9) ∧ True) (by refine ⟨e6, e7, e8, ?_, trivial⟩ <;> first | (simp only [ua, e6, e7, e8, nm, seval] <;> rfl) | rfl) ?_
 rintro tm ⟨e11, e12, e13, e14, _⟩
 cases d15 : (decide (r4 < r9))
 ·simp only [d15, hs] at h
  simp only [vz, tyf, e11, e12, e13, e14, d15, nm, seval]
  refine ktA (zem _ _ o5) ?_
  refine zac (fun tm => tm 0 = .sl (cellsL eI x0_a) (List.length x0_a) false ∧ tm 1 = .sl (cellsL eI x1_b) (List.length x1_b) false ∧ tm 10 = .lit (.bool false) ∧ tm 12 = .lit (.int .i64 r4) ∧ True) (by refine ⟨e11, e12, ?_, ?_, trivial⟩ <;> first | (simp only [ua, e11, e12, e13, e14, d15, nm, seval] <;> rfl) | rfl) ?_
  rintro tm ⟨e16, e17, e18, e19, _⟩
  simp only [vz, tyf, d15, e16, e17, e18, e19, nm, seval]
  refine ktA (zem _ _ o10) ?_
  refine zac (fun tm => tm 0 = .sl (cellsL eI x0_a) (List.length x0_a) false ∧ tm 1 = .sl (cellsL eI x1_b) (List.length x1_b) false ∧ tm 10 = .lit (.bool false) ∧ tm 12 = .lit (.int .i64 r4) ∧ tm 14 = .lit (.int .i64 r9) ∧ True) (by refine ⟨e16, e17, e18, e19, ?_, trivial⟩ <;> first | (simp only [ua, d15, e16, e17, e18, e19, nm, seval] <;> rfl) | rfl) ?_
  rintro tm ⟨e20, e21, e22, e23, e24, _⟩
  cases d25 : (r4 == r9)
  ·simp only [d25, hs] at h
   try simp only [vz, tyf, d15, e20, e21, e22, e23, e24, d25, nm, seval]
   obtain rfl := kF _ h
   exact zab Tryz.results49 rfl
  simp only [d25, hs] at h
  obtain ⟨r26, o27, h⟩ := optI h kN
  try simp only [hs] at h
  simp only [vz, tyf, d15, e20, e21, e22, e23, e24, d25, nm, seval]
  refine ktA (zmo _ _ _ o27) ?_
  refine zac (fun tm => tm 10 = .lit (.bool false) ∧ tm 16 = .lit (.bool true) ∧ tm 19 = .lit (.bool r26) ∧ True) (by refine ⟨e22, ?_, ?_, trivial⟩ <;> first | (simp only [ua, d15, e20, e21, e22, e23, e24, d25, nm, seval] <;> rfl) | rfl) ?_
  rintro tm ⟨e28, e29, e30, _⟩
  try simp only [vz, tyf, d15, d25, e28, e29, e30, nm, seval]
  obtain rfl := kF _ h
  exact zab Tryz.results49 rfl
 simp only [d15, hs] at h
 try simp only [vz, tyf, e11, e12, e13, e14, d15, nm, seval]
 obtain rfl := kF _ h
 exact zab Tryz.results49 rfl
def zdx (x0_s : Gs) (x1_mix : List Int) : Option (Int × Bool) := Option.bind (zhr x0_s x1_mix) (fun r1 => cond (r1.2 == 0) (cond (decide (r1.1 ≥ 1)) (some (r1.1, decide (r1.1 ≤ 3))) (some (r1.1, false))) (some (r1.1, false)))
theorem zez (x0_s : Gs) (x1_mix : List Int) (R : Int × Bool) (h : zdx x0_s x1_mix = some R) : VPure Tryz.prog G0 36 [.agg (cGs x0_s), .sl (cellsL eI x1_mix) (List.length x1_mix) false] (.tree (.tup [.lit (.int .i64 R.1), .lit (.bool R.2)])) := by
 refine VPure.runR mixed Tryz.call36 Tryz.func36 rfl (by simp [Tryz.ntmps36]; kernel_rfl) ?_
 obtain ⟨KF, h, kF, kN⟩ := zaq h
 simp only [zdx] at h
 obtain ⟨r2, o3, h⟩ := optI h kN
 try simp only [hs] at h
 simp only [vz, tyf, nm, seval]
 refine ktA (zrm _ _ _ o3) ?_
 refine zac (fun tm => tm 11 = .tup [.lit (.int .i64 r2.1), .lit (.int .i64 r2.2)] ∧ True) (by refine ⟨?_, trivial⟩ <;> first | (simp only [ua, nm, seval] <;> rfl) | rfl) ?_
 rintro tm ⟨e4, _⟩
 cases d5 : (r2.2 == 0)
 ·simp only [d5, hs] at h
  try simp only [vz, tyf, e4, d5, nm, seval]
  refine zav (x := (.tup [.lit (.int .i64 r2.1), .lit (.bool false)])) (by first | (simp only [Tryz.results36, resV, resL, resV1, zax, zcc, uw, cr, tyf, d5, nm, seval] <;> rfl) | rfl) ?_
  obtain rfl := kF _ h
  refine zay ?_ ?_
  ·simp only [tre, tytre, Bool.and_self]
  ·first | (simp only [outV, uw, zak, cr, tyf, nrm, tynrm, e4, d5, nm, seval] <;> rfl) | rfl
 simp only [d5, hs] at h
 cases d6 : (decide (r2.1 ≥ 1))
 ·simp only [d6, hs] at h
  try simp only [vz, tyf, e4, d5, d6, nm, seval]
  refine zav (x := (.tup [.lit (.int .i64 r2.1), .lit (.bool false)])) (by first | (simp only [Tryz.results36, resV, resL, resV1, zax, zcc, uw, cr, tyf, d5, d6, nm, seval] <;> rfl) | rfl) ?_
  obtain rfl := kF _ h
  refine zay ?_ ?_
  ·simp only [tre, tytre, Bool.and_self]
  ·first | (simp only [outV, uw, zak, cr, tyf, nrm, tynrm, e4, d5, d6, nm, seval] <;> rfl) | rfl
 simp only [d6, hs] at h
 try simp only [vz, tyf, e4, d5, d6, nm, seval]
 refine zav (x := (.tup [.lit (.int .i64 r2.1), .lit (.bool (decide (r2.1 ≤ 3)))])) (by first | (simp only [Tryz.results36, resV, resL, resV1, zax, zcc, uw, cr, tyf, d5, d6, nm, seval] <;> rfl) | rfl) ?_
 obtain rfl := kF _ h
 refine zay ?_ ?_
 ·simp only [tre, tytre, Bool.and_self]
 ·first | (simp only [outV, uw, zak, cr, tyf, nrm, tynrm, e4, d5, d6, nm, seval] <;> rfl) | rfl
end Go.V
end
section
namespace Go.V
open Go
def ltL : List Int → List Int → Bool
 | a :: x, b :: y => cond (a != b) (decide (a < b)) (ltL x y)
 | _, _ => false
theorem zwo {b : List Int} : ∀ (p q : List Int) (c : Int), 0 ≤ c → b.drop c.toNat = q → p.length = q.length → ∃ r, zdc b p c = some r ∧ ((r = .go () ∧ ltL p q = false) ∨ r = .ret (ltL p q))
 | [], [], _, _, _, _ => ⟨_, rfl, .inl ⟨rfl, rfl⟩⟩
 | _ :: _, [], _, _, _, h => by simp at h
 | [], _ :: _, _, _, _, h => by simp at h
 | e :: p, v :: q, c, h0, h, hl => by
  have hg := zaz h0 h
  have hlt := (zarw hg).2
  simp only [zdc, hg, Option.bind_some, decide_eq_true hlt, cond_true, ltL]
  cases hne : (e != v) with
  | true => exact ⟨_, rfl, .inr rfl⟩
  | false =>
   simp only [cond_false]
   exact zwo p q (c + 1) (by omega) (zbu h0 h) (by simpa using hl)
theorem zafr {a b : List Int} (ha : lenOk a = true) (h : a.length = b.length) : zfo a b = some (ltL a b) := by
 unfold zfo
 obtain ⟨r, hr, h2⟩ := zwo a b 0 (Int.le_refl _) rfl h
 rw [ha, hr]
 rcases h2 with ⟨rfl, h3⟩ | rfl
 ·simp [lbind, h, h3]
 ·simp [lbind]
theorem zajs : ∀ {x y : List Int}, x.length = y.length → (ltL x y = true ↔ lexL x y)
 | [], [], _ => by simp [ltL, lexL]
 | [], _ :: _, h => by simp at h
 | _ :: _, [], h => by simp at h
 | a :: x, b :: y, h => by
  have ih := zajs (x := x) (y := y) (by simpa using h)
  show cond (a != b) (decide (a < b)) (ltL x y) = true ↔ (a < b ∨ a = b ∧ lexL x y)
  by_cases e : a = b
  ·subst e
   rw [bne_self_eq_false, cond_false, ih]
   constructor
   ·exact fun h => .inr ⟨rfl, h⟩
   ·rintro (h | h)
    ·omega
    ·exact h.2
  ·rw [bne_iff_ne.2 e, cond_true, decide_eq_true_eq]
   constructor
   ·exact .inl
   ·rintro (h | h)
    ·exact h
    ·exact absurd h.1 e
def sooL (a b : List Int) : Prop := sumL a < sumL b ∨ sumL a = sumL b ∧ lexL a b
def sooB (a b : List Int) : Bool := cond (decide (sumL a < sumL b)) true (cond (sumL a == sumL b) (ltL a b) false)
theorem zakz {a b : List Int} (h : a.length = b.length) : sooB a b = true ↔ sooL a b := by
 unfold sooB sooL
 rw [← zajs h]
 by_cases e : sumL a < sumL b
 ·simp [e]
 ·rw [decide_eq_false e, cond_false]
  by_cases e2 : sumL a = sumL b
  ·simp [e2]
  ·rw [beq_eq_false_iff_ne.2 e2, cond_false]
   simp [e, e2]
theorem zsu {a b : List Int} (h : sooL a b) : ¬ sooL b a := by
 rintro (k | ⟨k, k2⟩) <;> rcases h with h | ⟨h, h2⟩
 ·omega
 ·omega
 ·omega
 ·exact zqf (znp h2 k2)
theorem zahf {s : Gs} (hs : ShOk s) {a b : List Int} (ha : MixOk s a) (hb : MixOk s b) : zdl a b = some (sooB a b) := by
 have hN := hs.n
 have h1 := ha.n
 have h2 := hb.n
 unfold zdl
 rw [zrp ha.b (by omega), zrp hb.b (by omega), zafr (ha.lenOk hs) (by omega)]
 unfold sooB
 simp only [Option.bind_some]
 cases decide (sumL a < sumL b) <;> cases (sumL a == sumL b) <;> rfl
theorem zajj {n : Nat} (d : Nat) (hd : n = d + 1) : ∀ (k : Nat) (c : Int), 0 ≤ c → (allR n k c).Pairwise sooL
 | 0, c, _ => List.Pairwise.nil
 | k + 1, c, h0 => by
  rw [allR, List.pairwise_append]
  subst hd
  have hsum : ∀ (j : Int) (q : List Int), 0 ≤ j → q ∈ mixL j (d + 1) [] → sumL q = j := fun j q hj hq => by
   obtain ⟨t, ht, _, _, h5⟩ := (zkl d [] q (by simp only [sumL]; omega)).1 hq
   rw [List.nil_append] at ht
   subst ht
   simp only [sumL] at h5
   omega
  refine ⟨?_, zajj d rfl k (c + 1) (by omega), fun x hx y hy => ?_⟩
  ·have hp := zajg (parts := c) d [] (by simp only [sumL]; omega)
   exact hp.imp_of_mem fun {a b} ha hb hl => .inr ⟨by rw [hsum c a h0 ha, hsum c b h0 hb], hl⟩
  ·obtain ⟨j, h1, h2, h3⟩ := (zvb k (c + 1)).1 hy
   left
   rw [hsum c x h0 hx, hsum j y (by omega) h3]
   omega
theorem zaoz {s : Gs} (hs : ShOk s) : (allL s).Pairwise sooL := by
 have hN := hs.n
 exact zajj (s.Tins.length - 1) (by omega) 8 1 (by omega)
theorem zsn {s : Gs} {q : List Int} : (wordI s q = 3 ∧ surelyB s q = true) ∨ (wordI s q = 2 ∧ surelyB s q = false) ∨ (wordI s q = 1 ∧ surelyB s q = false) := by
 unfold wordI
 cases surelyB s q with
 | true => exact .inl ⟨rfl, rfl⟩
 | false =>
  cases (yearsL s q).isEmpty
  ·exact .inr (.inl ⟨rfl, rfl⟩)
  ·exact .inr (.inr ⟨rfl, rfl⟩)
theorem zaay {s : Gs} (hs : ShOk s) (h : lenOk s.Tins = true) {q : List Int} (hq : MixOk s q) : zdx s q = some (wordI s q, true) := by
 unfold zdx
 rw [zark h, hs.ok, hq.ok]
 simp only [Bool.and_self, cond_true, Option.bind_some, beq_self_eq_true]
 rcases zsn (s := s) (q := q) with ⟨e, _⟩ | ⟨e, _⟩ | ⟨e, _⟩ <;> rw [e] <;> rfl
theorem zapk {s : Gs} {q : List Int} : (wordI s q == 3) = surelyB s q := by
 rcases zsn (s := s) (q := q) with ⟨e, f⟩ | ⟨e, f⟩ | ⟨e, f⟩ <;> rw [e, f] <;> rfl
theorem zagu {s : Gs} (h : lenOk s.Tins = true) {mix : List Int} (hm : lenOk mix = true) : ∃ b, zge s mix = some b ∧ (b = true → ShOk s ∧ MixOk s mix) := by
 unfold zge
 rw [show zhf s = some (decide ((List.length s.Tins : Int) ≤ 6)) from rfl, zago h]
 cases decide ((List.length s.Tins : Int) ≤ 6) with
 | false => exact ⟨false, rfl, fun h => by cases h⟩
 | true =>
 cases decide ((List.length mix : Int) ≤ 6) with
 | false => exact ⟨false, rfl, fun h => by cases h⟩
 | true =>
 simp only [Option.bind_some, cond_true]
 cases hb : sheetB s with
 | false => exact ⟨false, rfl, fun h => by cases h⟩
 | true =>
  have hs := ShOk.of hb
  simp only [cond_true, zaje hs hm, Option.bind_some]
  exact ⟨_, rfl, fun hx => ⟨hs, MixOk.of hx⟩⟩
end Go.V
end
section
namespace Go.V
open Go Go.Proofs
def zev (x0_s : Gs) (x1_a1 : Int) (x2_a2 : List Int) : Option (Bool) := Option.bind (zge x0_s x2_a2) (fun r1 => cond (r1) (Option.bind (zfr x1_a1) (fun r2 => cond (r2) (Option.bind (zgm x0_s) (fun r3 => Option.bind (zfs (Gs.mk x0_s.Old x0_s.Fade x0_s.Years x1_a1 x0_s.Tins)) (fun r4 => Option.bind (zdx (Gs.mk x0_s.Old x0_s.Fade x0_s.Years x1_a1 x0_s.Tins) x2_a2) (fun r5 => cond (r3.2.2 != 0) (some false) (cond (decide (r3.2.1 < 0)) (some false) (Option.bind (zgn x0_s r3.1) (fun r6 => cond (r6) (cond (r4.2 != 0) (cond (r4.2 != 5) (some false) (cond (r5.2) (cond ((r4.2 == 0) != (decide (x1_a1 ≥ r3.2.1))) (some false) (cond (r5.1 == 3) (cond (decide (x1_a1 < r3.2.1)) (some false) (Option.bind (zdx (Gs.mk x0_s.Old x0_s.Fade x0_s.Years x1_a1 x0_s.Tins) r3.1) (fun r7 => cond (r7.2) (cond ((r7.1 == 3) != (decide (x1_a1 ≥ r3.2.1))) (some false) (cond (x1_a1 != r3.2.1) (some true) (cond (r5.1 != 3) (some true) (Option.bind (zdl x2_a2 r3.1) (fun r8 => cond (r8) (some false) (some true)))))) (some false)))) (Option.bind (zdx (Gs.mk x0_s.Old x0_s.Fade x0_s.Years x1_a1 x0_s.Tins) r3.1) (fun r9 => cond (r9.2) (cond ((r9.1 == 3) != (decide (x1_a1 ≥ r3.2.1))) (some false) (cond (x1_a1 != r3.2.1) (some true) (cond (r5.1 != 3) (some true) (Option.bind (zdl x2_a2 r3.1) (fun r10 => cond (r10) (some false) (some true)))))) (some false))))) (some false))) (cond (r5.2) (cond ((r4.2 == 0) != (decide (x1_a1 ≥ r3.2.1))) (some false) (cond (r5.1 == 3) (cond (decide (x1_a1 < r3.2.1)) (some false) (Option.bind (zdx (Gs.mk x0_s.Old x0_s.Fade x0_s.Years x1_a1 x0_s.Tins) r3.1) (fun r11 => cond (r11.2) (cond ((r11.1 == 3) != (decide (x1_a1 ≥ r3.2.1))) (some false) (cond (x1_a1 != r3.2.1) (some true) (cond (r5.1 != 3) (some true) (Option.bind (zdl x2_a2 r3.1) (fun r12 => cond (r12) (some false) (some true)))))) (some false)))) (Option.bind (zdx (Gs.mk x0_s.Old x0_s.Fade x0_s.Years x1_a1 x0_s.Tins) r3.1) (fun r13 => cond (r13.2) (cond ((r13.1 == 3) != (decide (x1_a1 ≥ r3.2.1))) (some false) (cond (x1_a1 != r3.2.1) (some true) (cond (r5.1 != 3) (some true) (Option.bind (zdl x2_a2 r3.1) (fun r14 => cond (r14) (some false) (some true)))))) (some false))))) (some false))) (some false)))))))) (some true))) (some true))
theorem zjv (x0_s : Gs) (x1_a1 : Int) (x2_a2 : List Int) (R : Bool) (h : zev x0_s x1_a1 x2_a2 = some R) : VPure Tryz.prog G0 14 [.agg (cGs x0_s), .lit (.int .i64 x1_a1), .sl (cellsL eI x2_a2) (List.length x2_a2) false] (.tree (.lit (.bool R))) := by
 refine VPure.runR mixed Tryz.call14 Tryz.func14 rfl (by simp [Tryz.ntmps14]; kernel_rfl) ?_
 obtain ⟨KF, h, kF, kN⟩ := zaq h
 simp only [zev] at h
 obtain ⟨r15, o16, h⟩ := optI h kN
 try simp only [hs] at h
 simp only [vz, tyf, nm, seval]
 refine ktA (znl _ _ _ o16) ?_
 refine zac (fun tm => tm 1 = .lit (.int .i64 x1_a1) ∧ tm 2 = .sl (cellsL eI x2_a2) (List.length x2_a2) false ∧ tm 3 = .ptr 0 0 ∧ tm 19 = .lit (.bool r15) ∧ True) (by refine ⟨?_, ?_, ?_, ?_, trivial⟩ <;> first | (simp only [ua, nm, seval] <;> rfl) | rfl) ?_
 rintro tm ⟨e17, e18, e19, e20, _⟩
 cases d21 : (r15)
 ·simp only [d21, hs] at h
  simp only [vz, tyf, e17, e18, e19, e20, d21, nm, seval]
  refine ktree0 zbb ?_
  try simp only [vz, tyf, e17, e18, e19, e20, d21, nm, seval]
  obtain rfl := kF _ h
  exact zab Tryz.results14 rfl
 simp only [d21, hs] at h
 obtain ⟨r22, o23, h⟩ := optI h kN
 try simp only [hs] at h
 simp only [vz, tyf, e17, e18, e19, e20, d21, nm, seval]
 refine ktA (zle _ _ o23) ?_
 refine zac (fun tm => tm 1 = .lit (.int .i64 x1_a1) ∧ tm 2 = .sl (cellsL eI x2_a2) (List.length x2_a2) false ∧ tm 3 = .ptr 0 0 ∧ tm 21 = .lit (.bool false) ∧ tm 23 = .lit (.bool r22) ∧ True) (by refine ⟨e17, e18, e19, ?_, ?_, trivial⟩ <;> first | (simp only [ua, e17, e18, e19, e20, d21, nm, seval] <;> rfl) | rfl) ?_
 rintro tm ⟨e24, e25, e26, e27, e28, _⟩
 cases d29 : (r22)
 ·simp only [d29, hs] at h
  simp only [vz, tyf, d21, e24, e25, e26, e27, e28, d29, nm, seval]
  refine ktree0 zbb ?_
  try simp only [vz, tyf, d21, e24, e25, e26, e27, e28, d29, nm, seval]
  obtain rfl := kF _ h
  exact zab Tryz.results14 rfl
 simp only [d29, hs] at h
 obtain ⟨r30, o31, h⟩ := optI h kN
 try simp only [hs] at h
 simp only [vz, tyf, d21, e24, e25, e26, e27, e28, d29, nm, seval]
 refine ktA (zkz _ _ o31) ?_
 refine zac (fun tm => tm 1 = .lit (.int .i64 x1_a1) ∧ tm 2 = .sl (cellsL eI x2_a2) (List.length x2_a2) false ∧ tm 3 = .ptr 0 0 ∧ tm 29 = .tup [.sl (cellsL eI r30.1) (List.length r30.1) false, .lit (.int .i64 r30.2.1), .lit (.int .i64 r30.2.2)] ∧ True) (by refine ⟨e24, e25, e26, ?_, trivial⟩ <;> first | (simp only [ua, d21, e24, e25, e26, e27, e28, d29, nm, seval] <;> rfl) | rfl) ?_
 rintro tm ⟨e32, e33, e34, e35, _⟩
 obtain ⟨r36, o37, h⟩ := optI h kN
 try simp only [hs] at h
 simp only [vz, tyf, d21, d29, e32, e33, e34, e35, nm, seval]
 refine ktA (zjx _ _ o37) ?_
 refine zac (fun tm => tm 1 = .lit (.int .i64 x1_a1) ∧ tm 2 = .sl (cellsL eI x2_a2) (List.length x2_a2) false ∧ tm 3 = .ptr 0 0 ∧ tm 7 = .sl (cellsL eI r30.1) (List.length r30.1) false ∧ tm 8 = .lit (.int .i64 r30.2.1) ∧ tm 9 = .lit (.int .i64 r30.2.2) ∧ tm 10 = .ptr 21 0 ∧ tm 38 = .tup [.sl (cellsL eI r36.1) (List.length r36.1) false, .lit (.int .i64 r36.2)] ∧ True) (by refine ⟨e32, e33, e34, ?_, ?_, ?_, ?_, ?_, trivial⟩ <;> first | (simp only [ua, d21, d29, e32, e33, e34, e35, nm, seval] <;> rfl) | rfl) ?_
 rintro tm ⟨e38, e39, e40, e41, e42, e43, e44, e45, _⟩
 obtain ⟨r46, o47, h⟩ := optI h kN
 try simp only [hs] at h
 simp only [vz, tyf, d21, d29, e38, e39, e40, e41, e42, e43, e44, e45, nm, seval]
 refine ktA (zez _ _ _ o47) ?_
 refine zac (fun tm => tm 1 = .lit (.int .i64 x1_a1) ∧ tm 2 = .sl (cellsL eI x2_a2) (List.length x2_a2) false ∧ tm 3 = .ptr 0 0 ∧ tm 7 = .sl (cellsL eI r30.1) (List.length r30.1) false ∧ tm 8 = .lit (.int .i64 r30.2.1) ∧ tm 9 = .lit (.int .i64 r30.2.2) ∧ tm 10 = .ptr 21 0 ∧ tm 12 = .lit (.int .i64 r36.2) ∧ tm 44 = .tup [.lit (.int .i64 r46.1), .lit (.bool r46.2)] ∧ True) (by refine ⟨e38, e39, e40, e41, e42, e43, e44, ?_, ?_, trivial⟩ <;> first | (simp only [ua, d21, d29, e38, e39, e40, e41, e42, e43, e44, e45, nm, seval] <;> rfl) | rfl) ?_
 rintro tm ⟨e48, e49, e50, e51, e52, e53, e54, e55, e56, _⟩
 cases d57 : (r30.2.2 != 0)
 ·simp only [d57, hs] at h
  cases d58 : (decide (r30.2.1 < 0))
  ·simp only [d58, hs] at h
   obtain ⟨r59, o60, h⟩ := optI h kN
   try simp only [hs] at h
   simp only [vz, tyf, d21, d29, e48, e49, e50, e51, e52, e53, e54, e55, e56, d57, d58, nm, seval]
   refine ktA (zlc _ _ _ o60) ?_
   refine zac (fun tm => tm 1 = .lit (.int .i64 x1_a1) ∧ tm 2 = .sl (cellsL eI x2_a2) (List.length x2_a2) false ∧ tm 7 = .sl (cellsL eI r30.1) (List.length r30.1) false ∧ tm 8 = .lit (.int .i64 r30.2.1) ∧ tm 10 = .ptr 21 0 ∧ tm 12 = .lit (.int .i64 r36.2) ∧ tm 13 = .lit (.int .i64 r46.1) ∧ tm 14 = .lit (.bool r46.2) ∧ tm 53 = .lit (.bool false) ∧ tm 56 = .lit (.bool r59) ∧ True) (by refine ⟨e48, e49, e51, e52, e54, e55, ?_, ?_, ?_, ?_, trivial⟩ <;> first | (simp only [ua, d21, d29, e48, e49, e50, e51, e52, e53, e54, e55, e56, d57, d58, nm, seval] <;> rfl) | rfl) ?_
   rintro tm ⟨e61, e62, e63, e64, e65, e66, e67, e68, e69, e70, _⟩
   cases d71 : (r59)
   ·simp only [d71, hs] at h
    try simp only [vz, tyf, d21, d29, d57, d58, e61, e62, e63, e64, e65, e66, e67, e68, e69, e70, d71, nm, seval]
    obtain rfl := kF _ h
    exact zab Tryz.results14 rfl
   simp only [d71, hs] at h
   cases d72 : (r36.2 != 0)
   ·simp only [d72, hs] at h
    cases d73 : (r46.2)
    ·simp only [d73, hs] at h
     have b74 := And.intro d21 (And.intro d29 (And.intro d57 (And.intro d58 (And.intro d71 (And.intro d72 d73)))))
     try simp only [vz, tyf, b74, e61, e62, e63, e64, e65, e66, e67, e68, e69, e70, nm, seval]
     obtain rfl := kF _ h
     exact zab Tryz.results14 rfl
    simp only [d73, hs] at h
    have b75 := And.intro d21 (And.intro d29 (And.intro d57 (And.intro d58 (And.intro d71 (And.intro d72 d73)))))
    cases d76 : ((r36.2 == 0) != (decide (x1_a1 ≥ r30.2.1)))
    ·simp only [d76, hs] at h
     cases d77 : (r46.1 == 3)
     ·simp only [d77, hs] at h
      obtain ⟨r78, o79, h⟩ := optI h kN
      try simp only [hs] at h
      simp only [vz, tyf, b75, e61, e62, e63, e64, e65, e66, e67, e68, e69, e70, d76, d77, nm, seval]
      refine ktA (zez _ _ _ o79) ?_
      refine zac (fun tm => tm 1 = .lit (.int .i64 x1_a1) ∧ tm 2 = .sl (cellsL eI x2_a2) (List.length x2_a2) false ∧ tm 7 = .sl (cellsL eI r30.1) (List.length r30.1) false ∧ tm 8 = .lit (.int .i64 r30.2.1) ∧ tm 13 = .lit (.int .i64 r46.1) ∧ tm 91 = .tup [.lit (.int .i64 r78.1), .lit (.bool r78.2)] ∧ True) (by refine ⟨e61, e62, e63, e64, e67, ?_, trivial⟩ <;> first | (simp only [ua, b75, e61, e62, e63, e64, e65, e66, e67, e68, e69, e70, d76, d77, nm, seval] <;> rfl) | rfl) ?_
      rintro tm ⟨e80, e81, e82, e83, e84, e85, _⟩
      cases d86 : (r78.2)
      ·simp only [d86, hs] at h
       try simp only [vz, tyf, b75, d76, d77, e80, e81, e82, e83, e84, e85, d86, nm, seval]
       obtain rfl := kF _ h
       exact zab Tryz.results14 rfl
      simp only [d86, hs] at h
      cases d87 : ((r78.1 == 3) != (decide (x1_a1 ≥ r30.2.1)))
      ·simp only [d87, hs] at h
       cases d88 : (x1_a1 != r30.2.1)
       ·simp only [d88, hs] at h
        cases d89 : (r46.1 != 3)
        ·simp only [d89, hs] at h
         have b90 := And.intro b75 (And.intro d76 (And.intro d77 (And.intro d86 (And.intro d87 (And.intro d88 d89)))))
         obtain ⟨r91, o92, h⟩ := optI h kN
         try simp only [hs] at h
         simp only [vz, tyf, b90, e80, e81, e82, e83, e84, e85, nm, seval]
         refine ktA (zfe _ _ _ o92) ?_
         refine zac (fun tm => tm 111 = .lit (.bool false) ∧ tm 114 = .lit (.bool r91) ∧ True) (by refine ⟨?_, ?_, trivial⟩ <;> first | (simp only [ua, b90, e80, e81, e82, e83, e84, e85, nm, seval] <;> rfl) | rfl) ?_
         rintro tm ⟨e93, e94, _⟩
         cases d95 : (r91)
         ·simp only [d95, hs] at h
          simp only [vz, tyf, b90, e93, e94, d95, nm, seval]
          refine ktree0 zbb ?_
          try simp only [vz, tyf, b90, e93, e94, d95, nm, seval]
          obtain rfl := kF _ h
          exact zab Tryz.results14 rfl
         simp only [d95, hs] at h
         try simp only [vz, tyf, b90, e93, e94, d95, nm, seval]
         obtain rfl := kF _ h
         exact zab Tryz.results14 rfl
        simp only [d89, hs] at h
        have b96 := And.intro b75 (And.intro d76 (And.intro d77 (And.intro d86 (And.intro d87 (And.intro d88 d89)))))
        simp only [vz, tyf, b96, e80, e81, e82, e83, e84, e85, nm, seval]
        refine ktree0 zbb ?_
        try simp only [vz, tyf, b96, e80, e81, e82, e83, e84, e85, nm, seval]
        obtain rfl := kF _ h
        exact zab Tryz.results14 rfl
       simp only [d88, hs] at h
       simp only [vz, tyf, b75, d76, d77, e80, e81, e82, e83, e84, e85, d86, d87, d88, nm, seval]
       refine ktree0 zbb ?_
       try simp only [vz, tyf, b75, d76, d77, e80, e81, e82, e83, e84, e85, d86, d87, d88, nm, seval]
       obtain rfl := kF _ h
       exact zab Tryz.results14 rfl
      simp only [d87, hs] at h
      try simp only [vz, tyf, b75, d76, d77, e80, e81, e82, e83, e84, e85, d86, d87, nm, seval]
      obtain rfl := kF _ h
      exact zab Tryz.results14 rfl
     simp only [d77, hs] at h
     cases d97 : (decide (x1_a1 < r30.2.1))
     ·simp only [d97, hs] at h
      obtain ⟨r98, o99, h⟩ := optI h kN
      try simp only [hs] at h
      simp only [vz, tyf, b75, e61, e62, e63, e64, e65, e66, e67, e68, e69, e70, d76, d77, d97, nm, seval]
      refine ktA (zez _ _ _ o99) ?_
      refine zac (fun tm => tm 1 = .lit (.int .i64 x1_a1) ∧ tm 2 = .sl (cellsL eI x2_a2) (List.length x2_a2) false ∧ tm 7 = .sl (cellsL eI r30.1) (List.length r30.1) false ∧ tm 8 = .lit (.int .i64 r30.2.1) ∧ tm 13 = .lit (.int .i64 r46.1) ∧ tm 91 = .tup [.lit (.int .i64 r98.1), .lit (.bool r98.2)] ∧ True) (by refine ⟨e61, e62, e63, e64, e67, ?_, trivial⟩ <;> first | (simp only [ua, b75, e61, e62, e63, e64, e65, e66, e67, e68, e69, e70, d76, d77, d97, nm, seval] <;> rfl) | rfl) ?_
      rintro tm ⟨e100, e101, e102, e103, e104, e105, _⟩
      cases d106 : (r98.2)
      ·simp only [d106, hs] at h
       try simp only [vz, tyf, b75, d76, d77, d97, e100, e101, e102, e103, e104, e105, d106, nm, seval]
       obtain rfl := kF _ h
       exact zab Tryz.results14 rfl
      simp only [d106, hs] at h
      cases d107 : ((r98.1 == 3) != (decide (x1_a1 ≥ r30.2.1)))
      ·simp only [d107, hs] at h
       cases d108 : (x1_a1 != r30.2.1)
       ·simp only [d108, hs] at h
        have b109 := And.intro b75 (And.intro d76 (And.intro d77 (And.intro d97 (And.intro d106 (And.intro d107 d108)))))
        cases d110 : (r46.1 != 3)
        ·simp only [d110, hs] at h
         obtain ⟨r111, o112, h⟩ := optI h kN
         try simp only [hs] at h
         simp only [vz, tyf, b109, e100, e101, e102, e103, e104, e105, d110, nm, seval]
         refine ktA (zfe _ _ _ o112) ?_
         refine zac (fun tm => tm 111 = .lit (.bool false) ∧ tm 114 = .lit (.bool r111) ∧ True) (by refine ⟨?_, ?_, trivial⟩ <;> first | (simp only [ua, b109, e100, e101, e102, e103, e104, e105, d110, nm, seval] <;> rfl) | rfl) ?_
         rintro tm ⟨e113, e114, _⟩
         cases d115 : (r111)
         ·simp only [d115, hs] at h
          simp only [vz, tyf, b109, d110, e113, e114, d115, nm, seval]
          refine ktree0 zbb ?_
          try simp only [vz, tyf, b109, d110, e113, e114, d115, nm, seval]
          obtain rfl := kF _ h
          exact zab Tryz.results14 rfl
         simp only [d115, hs] at h
         try simp only [vz, tyf, b109, d110, e113, e114, d115, nm, seval]
         obtain rfl := kF _ h
         exact zab Tryz.results14 rfl
        simp only [d110, hs] at h
        simp only [vz, tyf, b109, e100, e101, e102, e103, e104, e105, d110, nm, seval]
        refine ktree0 zbb ?_
        try simp only [vz, tyf, b109, e100, e101, e102, e103, e104, e105, d110, nm, seval]
        obtain rfl := kF _ h
        exact zab Tryz.results14 rfl
       simp only [d108, hs] at h
       have b116 := And.intro b75 (And.intro d76 (And.intro d77 (And.intro d97 (And.intro d106 (And.intro d107 d108)))))
       simp only [vz, tyf, b116, e100, e101, e102, e103, e104, e105, nm, seval]
       refine ktree0 zbb ?_
       try simp only [vz, tyf, b116, e100, e101, e102, e103, e104, e105, nm, seval]
       obtain rfl := kF _ h
       exact zab Tryz.results14 rfl
      simp only [d107, hs] at h
      try simp only [vz, tyf, b75, d76, d77, d97, e100, e101, e102, e103, e104, e105, d106, d107, nm, seval]
      obtain rfl := kF _ h
      exact zab Tryz.results14 rfl
     simp only [d97, hs] at h
     try simp only [vz, tyf, b75, e61, e62, e63, e64, e65, e66, e67, e68, e69, e70, d76, d77, d97, nm, seval]
     obtain rfl := kF _ h
     exact zab Tryz.results14 rfl
    simp only [d76, hs] at h
    try simp only [vz, tyf, b75, e61, e62, e63, e64, e65, e66, e67, e68, e69, e70, d76, nm, seval]
    obtain rfl := kF _ h
    exact zab Tryz.results14 rfl
   simp only [d72, hs] at h
   cases d117 : (r36.2 != 5)
   ·simp only [d117, hs] at h
    have b118 := And.intro d21 (And.intro d29 (And.intro d57 (And.intro d58 (And.intro d71 (And.intro d72 d117)))))
    cases d119 : (r46.2)
    ·simp only [d119, hs] at h
     try simp only [vz, tyf, b118, e61, e62, e63, e64, e65, e66, e67, e68, e69, e70, d119, nm, seval]
     obtain rfl := kF _ h
     exact zab Tryz.results14 rfl
    simp only [d119, hs] at h
    cases d120 : ((r36.2 == 0) != (decide (x1_a1 ≥ r30.2.1)))
    ·simp only [d120, hs] at h
     cases d121 : (r46.1 == 3)
     ·simp only [d121, hs] at h
      obtain ⟨r122, o123, h⟩ := optI h kN
      try simp only [hs] at h
      simp only [vz, tyf, b118, e61, e62, e63, e64, e65, e66, e67, e68, e69, e70, d119, d120, d121, nm, seval]
      refine ktA (zez _ _ _ o123) ?_
      refine zac (fun tm => tm 1 = .lit (.int .i64 x1_a1) ∧ tm 2 = .sl (cellsL eI x2_a2) (List.length x2_a2) false ∧ tm 7 = .sl (cellsL eI r30.1) (List.length r30.1) false ∧ tm 8 = .lit (.int .i64 r30.2.1) ∧ tm 13 = .lit (.int .i64 r46.1) ∧ tm 91 = .tup [.lit (.int .i64 r122.1), .lit (.bool r122.2)] ∧ True) (by refine ⟨e61, e62, e63, e64, e67, ?_, trivial⟩ <;> first | (simp only [ua, b118, e61, e62, e63, e64, e65, e66, e67, e68, e69, e70, d119, d120, d121, nm, seval] <;> rfl) | rfl) ?_
      rintro tm ⟨e124, e125, e126, e127, e128, e129, _⟩
      cases d130 : (r122.2)
      ·simp only [d130, hs] at h
       try simp only [vz, tyf, b118, d119, d120, d121, e124, e125, e126, e127, e128, e129, d130, nm, seval]
       obtain rfl := kF _ h
       exact zab Tryz.results14 rfl
      simp only [d130, hs] at h
      cases d131 : ((r122.1 == 3) != (decide (x1_a1 ≥ r30.2.1)))
      ·simp only [d131, hs] at h
       cases d132 : (x1_a1 != r30.2.1)
       ·simp only [d132, hs] at h
        have b133 := And.intro b118 (And.intro d119 (And.intro d120 (And.intro d121 (And.intro d130 (And.intro d131 d132)))))
        cases d134 : (r46.1 != 3)
        ·simp only [d134, hs] at h
         obtain ⟨r135, o136, h⟩ := optI h kN
         try simp only [hs] at h
         simp only [vz, tyf, b133, e124, e125, e126, e127, e128, e129, d134, nm, seval]
         refine ktA (zfe _ _ _ o136) ?_
         refine zac (fun tm => tm 111 = .lit (.bool false) ∧ tm 114 = .lit (.bool r135) ∧ True) (by refine ⟨?_, ?_, trivial⟩ <;> first | (simp only [ua, b133, e124, e125, e126, e127, e128, e129, d134, nm, seval] <;> rfl) | rfl) ?_
         rintro tm ⟨e137, e138, _⟩
         cases d139 : (r135)
         ·simp only [d139, hs] at h
          simp only [vz, tyf, b133, d134, e137, e138, d139, nm, seval]
          refine ktree0 zbb ?_
          try simp only [vz, tyf, b133, d134, e137, e138, d139, nm, seval]
          obtain rfl := kF _ h
          exact zab Tryz.results14 rfl
         simp only [d139, hs] at h
         try simp only [vz, tyf, b133, d134, e137, e138, d139, nm, seval]
         obtain rfl := kF _ h
         exact zab Tryz.results14 rfl
        simp only [d134, hs] at h
        simp only [vz, tyf, b133, e124, e125, e126, e127, e128, e129, d134, nm, seval]
        refine ktree0 zbb ?_
        try simp only [vz, tyf, b133, e124, e125, e126, e127, e128, e129, d134, nm, seval]
        obtain rfl := kF _ h
        exact zab Tryz.results14 rfl
       simp only [d132, hs] at h
       have b140 := And.intro b118 (And.intro d119 (And.intro d120 (And.intro d121 (And.intro d130 (And.intro d131 d132)))))
       simp only [vz, tyf, b140, e124, e125, e126, e127, e128, e129, nm, seval]
       refine ktree0 zbb ?_
       try simp only [vz, tyf, b140, e124, e125, e126, e127, e128, e129, nm, seval]
       obtain rfl := kF _ h
       exact zab Tryz.results14 rfl
      simp only [d131, hs] at h
      try simp only [vz, tyf, b118, d119, d120, d121, e124, e125, e126, e127, e128, e129, d130, d131, nm, seval]
      obtain rfl := kF _ h
      exact zab Tryz.results14 rfl
     simp only [d121, hs] at h
     cases d141 : (decide (x1_a1 < r30.2.1))
     ·simp only [d141, hs] at h
      obtain ⟨r142, o143, h⟩ := optI h kN
      try simp only [hs] at h
      simp only [vz, tyf, b118, e61, e62, e63, e64, e65, e66, e67, e68, e69, e70, d119, d120, d121, d141, nm, seval]
      refine ktA (zez _ _ _ o143) ?_
      refine zac (fun tm => tm 1 = .lit (.int .i64 x1_a1) ∧ tm 2 = .sl (cellsL eI x2_a2) (List.length x2_a2) false ∧ tm 7 = .sl (cellsL eI r30.1) (List.length r30.1) false ∧ tm 8 = .lit (.int .i64 r30.2.1) ∧ tm 13 = .lit (.int .i64 r46.1) ∧ tm 91 = .tup [.lit (.int .i64 r142.1), .lit (.bool r142.2)] ∧ True) (by refine ⟨e61, e62, e63, e64, e67, ?_, trivial⟩ <;> first | (simp only [ua, b118, e61, e62, e63, e64, e65, e66, e67, e68, e69, e70, d119, d120, d121, d141, nm, seval] <;> rfl) | rfl) ?_
      rintro tm ⟨e144, e145, e146, e147, e148, e149, _⟩
      cases d150 : (r142.2)
      ·simp only [d150, hs] at h
       try simp only [vz, tyf, b118, d119, d120, d121, d141, e144, e145, e146, e147, e148, e149, d150, nm, seval]
       obtain rfl := kF _ h
       exact zab Tryz.results14 rfl
      simp only [d150, hs] at h
      cases d151 : ((r142.1 == 3) != (decide (x1_a1 ≥ r30.2.1)))
      ·simp only [d151, hs] at h
       have b152 := And.intro b118 (And.intro d119 (And.intro d120 (And.intro d121 (And.intro d141 (And.intro d150 d151)))))
       cases d153 : (x1_a1 != r30.2.1)
       ·simp only [d153, hs] at h
        cases d154 : (r46.1 != 3)
        ·simp only [d154, hs] at h
         obtain ⟨r155, o156, h⟩ := optI h kN
         try simp only [hs] at h
         simp only [vz, tyf, b152, e144, e145, e146, e147, e148, e149, d153, d154, nm, seval]
         refine ktA (zfe _ _ _ o156) ?_
         refine zac (fun tm => tm 111 = .lit (.bool false) ∧ tm 114 = .lit (.bool r155) ∧ True) (by refine ⟨?_, ?_, trivial⟩ <;> first | (simp only [ua, b152, e144, e145, e146, e147, e148, e149, d153, d154, nm, seval] <;> rfl) | rfl) ?_
         rintro tm ⟨e157, e158, _⟩
         cases d159 : (r155)
         ·simp only [d159, hs] at h
          simp only [vz, tyf, b152, d153, d154, e157, e158, d159, nm, seval]
          refine ktree0 zbb ?_
          try simp only [vz, tyf, b152, d153, d154, e157, e158, d159, nm, seval]
          obtain rfl := kF _ h
          exact zab Tryz.results14 rfl
         simp only [d159, hs] at h
         try simp only [vz, tyf, b152, d153, d154, e157, e158, d159, nm, seval]
         obtain rfl := kF _ h
         exact zab Tryz.results14 rfl
        simp only [d154, hs] at h
        simp only [vz, tyf, b152, e144, e145, e146, e147, e148, e149, d153, d154, nm, seval]
        refine ktree0 zbb ?_
        try simp only [vz, tyf, b152, e144, e145, e146, e147, e148, e149, d153, d154, nm, seval]
        obtain rfl := kF _ h
        exact zab Tryz.results14 rfl
       simp only [d153, hs] at h
       simp only [vz, tyf, b152, e144, e145, e146, e147, e148, e149, d153, nm, seval]
       refine ktree0 zbb ?_
       try simp only [vz, tyf, b152, e144, e145, e146, e147, e148, e149, d153, nm, seval]
       obtain rfl := kF _ h
       exact zab Tryz.results14 rfl
      simp only [d151, hs] at h
      have b160 := And.intro b118 (And.intro d119 (And.intro d120 (And.intro d121 (And.intro d141 (And.intro d150 d151)))))
      try simp only [vz, tyf, b160, e144, e145, e146, e147, e148, e149, nm, seval]
      obtain rfl := kF _ h
      exact zab Tryz.results14 rfl
     simp only [d141, hs] at h
     try simp only [vz, tyf, b118, e61, e62, e63, e64, e65, e66, e67, e68, e69, e70, d119, d120, d121, d141, nm, seval]
     obtain rfl := kF _ h
     exact zab Tryz.results14 rfl
    simp only [d120, hs] at h
    try simp only [vz, tyf, b118, e61, e62, e63, e64, e65, e66, e67, e68, e69, e70, d119, d120, nm, seval]
    obtain rfl := kF _ h
    exact zab Tryz.results14 rfl
   simp only [d117, hs] at h
   have b161 := And.intro d21 (And.intro d29 (And.intro d57 (And.intro d58 (And.intro d71 (And.intro d72 d117)))))
   try simp only [vz, tyf, b161, e61, e62, e63, e64, e65, e66, e67, e68, e69, e70, nm, seval]
   obtain rfl := kF _ h
   exact zab Tryz.results14 rfl
  simp only [d58, hs] at h
  try simp only [vz, tyf, d21, d29, e48, e49, e50, e51, e52, e53, e54, e55, e56, d57, d58, nm, seval]
  obtain rfl := kF _ h
  exact zab Tryz.results14 rfl
 simp only [d57, hs] at h
 try simp only [vz, tyf, d21, d29, e48, e49, e50, e51, e52, e53, e54, e55, e56, d57, nm, seval]
 obtain rfl := kF _ h
 exact zab Tryz.results14 rfl
end Go.V
end
section
namespace Go.V
open Go
theorem zaeq {a b c : List Int} (h : sooL a b) (k : sooL b c) : sooL a c := by
 rcases h with h | ⟨h, h2⟩ <;> rcases k with k | ⟨k, k2⟩
 ·exact .inl (by omega)
 ·exact .inl (by omega)
 ·exact .inl (by omega)
 ·exact .inr ⟨by omega, znp h2 k2⟩
theorem zjm {s : Gs} : ∀ (L : List (List Int)) (b : List Int), needI s (bestL s L b) ≤ needI s b ∧ ∀ q ∈ L, needI s (bestL s L b) ≤ needI s q
 | [], b => ⟨Int.le_refl _, fun q hq => by cases hq⟩
 | q :: L, b => by
  rw [bestL]
  cases hd : decide (needI s q < needI s b) with
  | true =>
   have hd := of_decide_eq_true hd
   obtain ⟨h1, h2⟩ := zjm (s := s) L q
   rw [cond_true]
   refine ⟨by omega, fun x hx => ?_⟩
   rcases List.mem_cons.1 hx with rfl | hx
   ·exact h1
   ·exact h2 x hx
  | false =>
   have hd := of_decide_eq_false hd
   obtain ⟨h1, h2⟩ := zjm (s := s) L b
   rw [cond_false]
   refine ⟨h1, fun x hx => ?_⟩
   rcases List.mem_cons.1 hx with rfl | hx
   ·omega
   ·exact h2 x hx
theorem zhx {s : Gs} : ∀ (L : List (List Int)) (b : List Int), (b :: L).Pairwise sooL → ∀ o ∈ b :: L, needI s o ≤ needI s (bestL s L b) → o = bestL s L b ∨ sooL (bestL s L b) o
 | [], b, _, o, ho, _ => .inl (List.mem_singleton.1 ho)
 | q :: L, b, hp, o, ho, hn => by
  obtain ⟨hp1, hp2⟩ := List.pairwise_cons.1 hp
  have hbL : (b :: L).Pairwise sooL := List.pairwise_cons.2 ⟨fun x hx => hp1 x (List.mem_cons_of_mem _ hx), (List.pairwise_cons.1 hp2).2⟩
  rw [bestL] at hn ⊢
  cases hd : decide (needI s q < needI s b) with
  | true =>
   have hdd := of_decide_eq_true hd
   rw [hd, cond_true] at hn
   rw [cond_true]
   have hm := (zjm (s := s) L q).1
   rcases List.mem_cons.1 ho with rfl | ho
   ·omega
   ·exact zhx L q hp2 o ho hn
  | false =>
   have hdd := of_decide_eq_false hd
   rw [hd, cond_false] at hn
   rw [cond_false]
   have hm := (zjm (s := s) L b).1
   rcases List.mem_cons.1 ho with rfl | ho
   ·exact zhx L o hbL o (List.mem_cons_self ..) hn
   ·rcases List.mem_cons.1 ho with rfl | ho
    ·have hb := zhx (s := s) L b hbL b (List.mem_cons_self ..) (by omega)
     have hbq := hp1 o (List.mem_cons_self ..)
     rcases hb with hb | hb
     ·rw [← hb]
      exact .inr hbq
     ·exact .inr (zaeq hb hbq)
    ·exact zhx L b hbL o (List.mem_cons_of_mem _ ho) hn
theorem zsb {s : Gs} (hs : ShOk s) {o : List Int} (ho : MixOk s o) : needI s (nearL s) ≤ needI s o ∧ (needI s o ≤ needI s (nearL s) → sooB o (nearL s) = false) := by
 obtain ⟨q, L, hL⟩ := zqx hs
 have hmo : o ∈ q :: L := hL ▸ (zlj hs).2 ho
 have hpw : (q :: L).Pairwise sooL := hL ▸ zaoz hs
 have hok := zvw hs
 have hnl : nearL s = bestL s L q := by unfold nearL; rw [hL]
 rw [hnl] at hok ⊢
 refine ⟨?_, fun hle => ?_⟩
 ·rcases List.mem_cons.1 hmo with rfl | h
  ·exact (zjm L o).1
  ·exact (zjm L q).2 o h
 ·rw [Bool.eq_false_iff]
  intro hc
  have hc := (zakz (by rw [ho.n, hok.n])).1 hc
  rcases zhx L q hpw o hmo hle with h | h
  ·rw [← h] at hc
   exact zsu hc hc
  ·exact zsu hc h
theorem zvx {s : Gs} {q : List Int} : 0 ≤ needI s q := by
 unfold needI maxI
 split <;> split <;> split <;> omega
theorem zasi (n : Int) : zfr n = some (inB 1 20 n) := by
 unfold zfr
 rw [zacs]
 rfl
theorem zpe (s : Gs) (off : Int) (o : List Int) (h : lenOk s.Tins = true) (hm : lenOk o = true) : zev s off o = some true := by
 unfold zev
 obtain ⟨b, hb, hb2⟩ := zagu h hm
 rw [hb]
 cases b with
 | false => rfl
 | true =>
 obtain ⟨hs, ho⟩ := hb2 rfl
 rw [zasi]
 simp only [Option.bind_some, cond_true]
 cases hoff : inB 1 20 off with
 | false => rfl
 | true =>
 have hoff := zit.1 hoff
 obtain ⟨x, hx⟩ : ∃ x, x = Gs.mk s.Old s.Fade s.Years off s.Tins := ⟨_, rfl⟩
 rw [← hx]
 have hxo : ShOk x := by
  subst hx
  exact ⟨hs.old, hs.fade, hs.yrs, hoff, hs.n, hs.tin⟩
 have hxt : x.Tins = s.Tins := by rw [hx]
 have hxl : lenOk x.Tins = true := by rw [hxt]; exact h
 have hmix : ∀ q, MixOk s q → MixOk x q := fun q hq => ⟨by rw [hxt]; exact hq.n, hq.b, hq.s⟩
 have hmix2 : ∀ q, MixOk x q → MixOk s q := fun q hq => ⟨by rw [← hxt]; exact hq.n, hq.b, hq.s⟩
 have hneed : ∀ q, needI x q = needI s q := fun q => by subst hx; rfl
 have hsure : ∀ q, surelyB x q = decide (needI s q ≤ off) := fun q => by rw [zaad hxo, hneed, hx]
 have hno := zvw hs
 have hnp := zsb hs ho
 have hn0 := zvx (s := s) (q := nearL s)
 have hfe : (sureL x = [] ∧ decide (off ≥ needI s (nearL s)) = false) ∨ (∃ a l, sureL x = a :: l) ∧ decide (off ≥ needI s (nearL s)) = true := by
  cases hl : sureL x with
  | nil =>
   refine .inl ⟨rfl, decide_eq_false fun hc => ?_⟩
   have : nearL s ∈ sureL x := List.mem_filter.2 ⟨(zlj hxo).2 (hmix _ hno), by rw [hsure]; exact decide_eq_true hc⟩
   rw [hl] at this
   cases this
  | cons a l =>
   refine .inr ⟨⟨a, l, rfl⟩, decide_eq_true ?_⟩
   have ha := List.mem_filter.1 (hl ▸ List.mem_cons_self .. : a ∈ sureL x)
   have h1 := of_decide_eq_true ((hsure a) ▸ ha.2)
   have h2 := (zsb hs (hmix2 a ((zlj hxo).1 ha.1))).1
   show needI s (nearL s) ≤ off
   omega
 have h3 : ∀ q, (wordI x q != 3) = !surelyB x q := fun q => by rw [← zapk]; rfl
 rw [zaqa h, zakb hxl, zaay hxo hxl (hmix o ho), hs.ok, hxo.ok]
 simp only [Option.bind_some, cond_true, decide_eq_false (Int.not_lt.2 hn0), cond_false, zaje hs (hno.lenOk hs), hno.ok, zaay hxo hxl (hmix _ hno), zapk, h3, hsure, zahf hs ho hno]
 have hge : decide (off ≥ needI s (nearL s)) = decide (needI s (nearL s) ≤ off) := rfl
 rw [hge] at hfe ⊢
 have hlt : decide (off < needI s (nearL s)) = !decide (needI s (nearL s) ≤ off) := by
  by_cases e : needI s (nearL s) ≤ off
  ·rw [decide_eq_true e, decide_eq_false (Int.not_lt.2 e)]; rfl
  ·rw [decide_eq_false e, decide_eq_true (Int.not_le.1 e)]; rfl
 have how : decide (needI s o ≤ off) = true → decide (needI s (nearL s) ≤ off) = true := fun k => decide_eq_true (by have := of_decide_eq_true k; omega)
 have hlast : (off != needI s (nearL s)) = false → decide (needI s o ≤ off) = true → sooB o (nearL s) = false := fun k1 k2 => hnp.2 (by
  have := of_decide_eq_true k2
  have k1 : off = needI s (nearL s) := by simpa using k1
  omega)
 rw [hlt]
 rcases hfe with ⟨h1, h2⟩ | ⟨⟨a, l, h1⟩, h2⟩
 ·rw [h1, h2]
  cases hw : decide (needI s o ≤ off) with
  | true =>
   have hw2 := how hw
   rw [h2] at hw2
   cases hw2
  | false =>
   simp only [hdE]
   cases (off != needI s (nearL s)) <;> rfl
 ·rw [h1, h2]
  simp only [hdE]
  cases hw : decide (needI s o ≤ off) with
  | true =>
   cases hq : (off != needI s (nearL s)) with
   | true => rfl
   | false => rw [hlast hq hw]; rfl
  | false => cases (off != needI s (nearL s)) <;> rfl
end Go.V
end
