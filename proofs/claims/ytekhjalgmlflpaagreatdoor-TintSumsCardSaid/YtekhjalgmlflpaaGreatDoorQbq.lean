/- Part of a proof: a logic of values by content, lifted functions, what follows. -/
import Derived.Test.YtekhjalgmlflpaaGreatDoorQbp
import Derived.Test.YtekhjalgmlflpaaGreatDoorQbh
import Derived.Test.YtekhjalgmlflpaaGreatDoorQbf
import Derived.Test.YtekhjalgmlflpaaGreatDoorQbe
import Derived.Test.YtekhjalgmlflpaaGreatDoorQbg
import Derived.Test.YtekhjalgmlflpaaGreatDoorQbo
import Derived.Test.YtekhjalgmlflpaaGreatDoorQbm
import Derived.Test.YtekhjalgmlflpaaGreatDoorQbk
import Derived.Test.YtekhjalgmlflpaaGreatDoorQbi
import Derived.Test.YtekhjalgmlflpaaGreatDoorQbj
set_option linter.all false
set_option maxRecDepth 4000
set_option maxHeartbeats 40000000
section
namespace Go.V
open Go Go.Proofs
theorem zabb {a b : VV} : vfield Tryz.prog 24 (.agg [a, b]) 0 = some a := by
 have h1 : aggT Tryz.prog 3 = some false := by kernel_rfl
 have h2 : szT Tryz.prog 3 = some 1 := by kernel_rfl
 simp [vfield, Tryz.underlying24, vpart, h1, h2]
theorem zadh {a b : VV} : vfield Tryz.prog 24 (.agg [a, b]) 1 = some b := by
 have h1 : aggT Tryz.prog 3 = some false := by kernel_rfl
 have h2 : szT Tryz.prog 3 = some 1 := by kernel_rfl
 simp [vfield, Tryz.underlying24, vpart, h1, h2]
def fdL (s : GTintSheet) (am : GA3GSpan) (d : GA3Int) : List GTintTin → Option Bool
 | [] => some true
 | t :: p => Option.bind (zbz d t.Pigments) fun v => Option.bind (zea d) fun z => Option.bind (zbz d am) fun w => cond (decide (IntKind.i64.wrap (v.High + IntKind.i64.wrap (s.Off * z)) ≥ w.Low)) (some false) (fdL s am d p)
def fdirL (s : GTintSheet) (am : GA3GSpan) : List GA3Int → Option (GA3Int × Bool)
 | [] => some (⟨0, 0, 0⟩, false)
 | d :: L => Option.bind (fdL s am d s.Tins) fun t => cond t (some (d, true)) (fdirL s am L)
def zdz (s : GTintSheet) : Option (GA3Int × Bool) := Option.bind (zdt s) fun am => Option.bind zxy fun L => cond (lenOk s.Tins) (fdirL s am L) none
theorem ziw (s : GTintSheet) (R : GA3Int × Bool) (h : zdz s = some R) : VPure Tryz.prog G0 73 [.agg (cGTintSheet s)] (.tree (.tup [.agg (cGA3Int R.1), .lit (.bool R.2)])) := by
 refine VPure.runR mixed Tryz.call73 Tryz.func73 rfl (by simp [Tryz.ntmps73]; kernel_rfl) ?_
 unfold zdz at h
 rcases o1 : zdt s with _ | am
 ·rw [o1] at h; cases h
 rw [o1, Option.bind_some] at h
 rcases o2 : zxy with _ | L
 ·rw [o2] at h; cases h
 rw [o2, Option.bind_some] at h
 cases o3 : lenOk s.Tins with
 | false => rw [o3] at h; cases h
 | true =>
 rw [o3, cond_true] at h
 have hi := zagc L o2
 simp only [vz, tyf, seval, ua, rg]
 refine zafi mixed (by kernel_rfl) ?_
 simp only [vz, tyf, seval, ua, rg]
 refine ktree (args0 := [.agg (cGTintSheet s)]) (by first | (simp only [nrm, tynrm] <;> rfl) | rfl) (by simp only [tre, tytre, Bool.and_self]) (zgq _ _ o1) ?_
 simp only [vz, tyf, seval, ua, rg]
 refine ktree (args0 := []) (by simp only [nrm]) rfl zanp ?_
 refine zac (fun tm => tm 1 = .ptr 0 0 ∧ tm 2 = .ptr 1 0 ∧ tm 3 = .ptr 2 0 ∧ tm 4 = .ptr 5 0 ∧ tm 10 = itD) (by refine ⟨?_, ?_, ?_, ?_, ?_⟩ <;> simp only [ua, seval]) ?_
 rintro tm ⟨e1, e2, e3, e4, e10⟩
 simp only [vz, tyf, seval, ua, rg]
 refine zhn hi (by first | (simp only [znt, zjl, e10, zfj, seval] <;> rfl) | rfl) ?_
 intro LO hLO
 obtain ⟨J, hJ⟩ : ∃ J : Option (List VV) → List (Nat × VObj) → Prop, J = (fun o hp => match o with
  | some l => ∃ p : List GA3Int, l = p.map sD ∧ hp = [(8, .deferred (some [])), (9, LO), (0, .cells (some 28) (cGTintSheet s)), (1, .cells (some 99) (cGA3Int ⟨0, 0, 0⟩)), (2, .cells (some 4) [.lit (.bool false)]), (5, .cells (some 25) (cGA3GSpan am))] ∧ fdirL s am p = some R
  | none => ∃ LD : Code → VObj, (∃ tml ps az bo d, LD = fun c => VObj.loop .done (some c) tml ps az bo d) ∧ hp = [(8, .deferred (some [])), (9, LD .ret), (0, .cells (some 28) (cGTintSheet s)), (1, .cells (some 99) (cGA3Int R.1)), (2, .cells (some 4) [.lit (.bool true)]), (5, .cells (some 25) (cGA3GSpan am))] ∧ R.2 = true) := ⟨_, rfl⟩
 refine ⟨ownI J, zkn, ?_, ?_, ?_⟩
 ·rintro v rest Fr H nx hFr ⟨hp, hown, hj⟩
  rw [hJ] at hj
  obtain ⟨p, hl, rfl, hR⟩ := hj
  cases p with
  | nil => cases hl
  | cons d p =>
  simp only [List.map_cons, List.cons.injEq] at hl
  obtain ⟨rfl, rfl⟩ := hl
  obtain ⟨l8, n8, H8⟩ := hown.head
  obtain ⟨l9, n9, H9⟩ := hown.tail.head
  obtain ⟨l0, n0, H0⟩ := hown.tail.tail.head
  obtain ⟨l1, n1, H1⟩ := hown.tail.tail.tail.head
  obtain ⟨l2, n2, H2⟩ := hown.tail.tail.tail.tail.head
  obtain ⟨l5, n5, H5⟩ := hown.tail.tail.tail.tail.tail.head
  refine zgb mixed (psl := [11]) hLO H9 zhm rfl (by kernel_rfl) (by kernel_rfl) ?_
  intro LB LD hLB hLD
  refine ziy (fun tm => tm 1 = .ptr 0 0 ∧ tm 2 = .ptr 1 0 ∧ tm 3 = .ptr 2 0 ∧ tm 4 = .ptr 5 0 ∧ tm 11 = sD d) (by refine ⟨?_, ?_, ?_, ?_, ?_⟩ <;> simp only [zlc, zix, Tryz.ntmps73, e1, e2, e3, e4, seval]) ?_
  clear e1 e2 e3 e4 e10
  rintro tm ⟨e1, e2, e3, e4, e11⟩
  have m1 : (9 = nx) = False := by simp; omega
  have m2 : (nx = 9) = False := by simp; omega
  have m3 : (0 = nx) = False := by simp; omega
  have m4 : (nx = 0) = False := by simp; omega
  simp only [vz, tyf, seval, ua, nm, rg, RStart, e1, e2, e3, e4, e11, H9, H0, Nat.add_zero, m1, m2, m3, m4]
  unfold fdirL at hR
  rcases hT : fdL s am d s.Tins with _ | t
  ·rw [hT] at hR; cases hR
  rw [hT, Option.bind_some] at hR
  obtain ⟨I0, hI0⟩ : ∃ I0 : Nat → St → Prop, I0 = (fun m st => ∃ (q : List GTintTin) (c : Int), m = q.length ∧ 0 ≤ c ∧ List.drop (Int.toNat c) s.Tins = q ∧ st.df = [] ∧ nx + 6 ≤ st.nx ∧ (∀ γ, γ < nx → st.H γ = updH H 9 LB γ) ∧ st.H nx = some (.cells (some 99) (cGA3Int d)) ∧
   st.tm 1 = .ptr 0 0 ∧ st.tm 2 = .ptr 1 0 ∧ st.tm 3 = .ptr 2 0 ∧ st.tm 4 = .ptr 5 0 ∧ st.tm 5 = .ptr nx 0 ∧ st.tm 13 = .sl (cellsL cGTintTin s.Tins) (List.length s.Tins) false ∧ st.tm 14 = .lit (.int .i64 (List.length s.Tins)) ∧ st.tm 15 = .lit (.int .i64 c) ∧ fdL s am d q = some t) := ⟨_, rfl⟩
  refine loopK mixed (by kernel_rfl) I0 (List.length s.Tins) (by
   rw [hI0]
   refine ⟨s.Tins, 0, rfl, Int.le_refl _, rfl, rfl, (by show nx + 6 ≤ nx + 6; omega), ?_, ?_, ?_, ?_, ?_, ?_, ?_, ?_, ?_, ?_, hT⟩
   ·intro γ hγ
    simp only [updH]
    by_cases g9 : γ = 9
    ·rw [if_pos g9, if_pos g9]
    ·rw [if_neg g9, if_neg (by omega), if_neg (by omega), if_neg g9]
   ·simp only [zaa, Nat.add_zero, m1, m2, seval] <;> rfl
   all_goals simp only [ua, seval, e1, e2, e3, e4]) ?_
  rintro m ⟨tm, K, kx, df⟩ hinv
  rw [hI0] at hinv
  obtain ⟨q, c, rfl, hc, hq, hdf, hkx, hK, Kx, f1, f2, f3, f4, f5, f13, f14, f15, hT2⟩ := hinv
  simp only at hdf hkx hK Kx f1 f2 f3 f4 f5 f13 f14 f15
  subst hdf
  have K0 : K 0 = some (.cells (some 28) (cGTintSheet s)) := by
   rw [hK 0 (by omega)]
   simp only [updH]
   rw [if_neg (by omega)]
   exact H0
  have K5 : K 5 = some (.cells (some 25) (cGA3GSpan am)) := by
   rw [hK 5 (by omega)]
   simp only [updH]
   rw [if_neg (by omega)]
   exact H5
  have K8 : K 8 = some (.deferred (some [])) := by
   rw [hK 8 (by omega)]
   simp only [updH]
   rw [if_neg (by omega)]
   exact H8
  have K9 : K 9 = some LB := by
   rw [hK 9 (by omega)]
   simp only [zaa, seval]
  have K1 : K 1 = some (.cells (some 99) (cGA3Int ⟨0, 0, 0⟩)) := by
   rw [hK 1 (by omega)]
   simp only [updH]
   rw [if_neg (by omega)]
   exact H1
  have K2 : K 2 = some (.cells (some 4) [.lit (.bool false)]) := by
   rw [hK 2 (by omega)]
   simp only [updH]
   rw [if_neg (by omega)]
   exact H2
  cases q with
  | nil =>
   have hd1 : decide (c < (List.length s.Tins : Int)) = false := zam hc hq
   simp only [fdL, Option.some.injEq] at hT2
   subst hT2
   simp only [cond_true, Option.some.injEq] at hR
   subst hR
   simp only [vz, tyf, seval, ua, nm, rg, f1, f2, f3, f4, f5, f13, f14, f15, hd1, K1, K2, Kx]
   refine ⟨?_, (show nx ≤ kx + 4 by omega), fun γ hγ => ?_, ?_⟩
   ·simp only [updH]
    repeat rw [if_neg (by omega)]
    exact K9
   ·have gx := hFr γ hγ
    have g9 : γ ≠ 9 := fun e => n9 (e ▸ hγ)
    have g1 : γ ≠ 1 := fun e => n1 (e ▸ hγ)
    have g2 : γ ≠ 2 := fun e => n2 (e ▸ hγ)
    simp only [updH]
    rw [if_neg g9, if_neg g2, if_neg g1, hK γ gx]
    simp only [updH]
    rw [if_neg g9]
   ·simp only [Bool.false_eq_true, if_false]
    refine ⟨[(8, .deferred (some [])), (9, LD .ret), (0, .cells (some 28) (cGTintSheet s)), (1, .cells (some 99) (cGA3Int d)), (2, .cells (some 4) [.lit (.bool true)]), (5, .cells (some 25) (cGA3GSpan am))], Own.cons (show 8 < kx + 4 by omega) n8 ?_ (Own.cons (show 9 < kx + 4 by omega) n9 ?_ (Own.cons (show 0 < kx + 4 by omega) n0 ?_ (Own.cons (show 1 < kx + 4 by omega) n1 ?_ (Own.cons (show 2 < kx + 4 by omega) n2 ?_ (Own.cons (show 5 < kx + 4 by omega) n5 ?_ Own.nil))))), ?_⟩
    rotate_left 6
    ·rw [hJ]
     exact ⟨LD, ⟨_, _, _, _, _, hLD⟩, rfl, rfl⟩
    all_goals (simp only [zaa, seval, K8, K0, K5] <;> rfl)
  | cons x q =>
   have hd1 : decide (c < (List.length s.Tins : Int)) = true := zbp hc hq
   have o := zaj hc hq
   have hw := zcm hc hq o3
   have x1 : (0 = kx + 3) = False := by simp
   have x2 : (5 = kx + 3) = False := by simp; omega
   have x3 : (nx = kx + 3) = False := by simp; omega
   simp only [vz, tyf, seval, ua, nm, rg, f1, f2, f3, f4, f5, f13, f14, f15, hd1, K0, K5, Kx, (ix26 o)]
   refine zcq (fun tm => tm 1 = .ptr 0 0 ∧ tm 2 = .ptr 1 0 ∧ tm 3 = .ptr 2 0 ∧ tm 4 = .ptr 5 0 ∧ tm 5 = .ptr nx 0 ∧ tm 7 = .ptr (kx + 3) 0 ∧ tm 13 = .sl (cellsL cGTintTin s.Tins) (List.length s.Tins) false ∧ tm 14 = .lit (.int .i64 (List.length s.Tins)) ∧ tm 15 = .lit (.int .i64 c)) (by refine ⟨?_, ?_, ?_, ?_, ?_, ?_, ?_, ?_, ?_⟩ <;> simp only [ua, seval, f1, f2, f3, f4, f5, f13, f14, f15]) ?_
   clear f1 f2 f3 f4 f5 f13 f14 f15 tm
   rintro tm ⟨f1, f2, f3, f4, f5, f7, f13, f14, f15⟩
   simp only [fdL] at hT2
   rcases ov : zbz d x.Pigments with _ | v
   ·rw [ov] at hT2; cases hT2
   rw [ov, Option.bind_some] at hT2
   rcases oz : zea d with _ | z
   ·rw [oz] at hT2; cases hT2
   rw [oz, Option.bind_some] at hT2
   rcases ow : zbz d am with _ | w
   ·rw [ow] at hT2; cases hT2
   rw [ow, Option.bind_some] at hT2
   simp only [vz, tyf, seval, ua, nm, rg, f1, f4, f5, f7, K0, K5, Kx, x1, x2, x3, zabb, zadh]
   refine dktree (args0 := [.agg (cGA3Int d), .agg (cGA3GSpan x.Pigments)]) (by first | (simp only [nrm, tynrm] <;> rfl) | rfl) (by simp only [tre, tytre, Bool.and_self]) (zff _ _ _ ov) ?_
   refine zac (fun tm => tm 1 = .ptr 0 0 ∧ tm 2 = .ptr 1 0 ∧ tm 3 = .ptr 2 0 ∧ tm 4 = .ptr 5 0 ∧ tm 5 = .ptr nx 0 ∧ tm 13 = .sl (cellsL cGTintTin s.Tins) (List.length s.Tins) false ∧ tm 14 = .lit (.int .i64 (List.length s.Tins)) ∧ tm 15 = .lit (.int .i64 c) ∧ tm 22 = .agg (cGSpan v)) (by refine ⟨?_, ?_, ?_, ?_, ?_, ?_, ?_, ?_, ?_⟩ <;> (simp only [ua, seval, f1, f2, f3, f4, f5, f13, f14, f15, f7] <;> rfl)) ?_
   clear f1 f2 f3 f4 f5 f13 f14 f15  f7 tm
   rintro tm ⟨f1, f2, f3, f4, f5, f13, f14, f15, f22⟩
   simp only [vz, tyf, seval, ua, nm, rg, f1, f4, f5, f22, K0, K5, Kx, x1, x2, x3, zabb, zadh]
   refine dktree (args0 := [.agg (cGA3Int d)]) (by first | (simp only [nrm, tynrm] <;> rfl) | rfl) (by simp only [tre, tytre, Bool.and_self]) (zjg _ _ oz) ?_
   refine zac (fun tm => tm 1 = .ptr 0 0 ∧ tm 2 = .ptr 1 0 ∧ tm 3 = .ptr 2 0 ∧ tm 4 = .ptr 5 0 ∧ tm 5 = .ptr nx 0 ∧ tm 13 = .sl (cellsL cGTintTin s.Tins) (List.length s.Tins) false ∧ tm 14 = .lit (.int .i64 (List.length s.Tins)) ∧ tm 15 = .lit (.int .i64 c) ∧ tm 23 = .lit (.int .i64 v.High) ∧ tm 25 = .lit (.int .i64 s.Off) ∧ tm 27 = .lit (.int .i64 z)) (by refine ⟨?_, ?_, ?_, ?_, ?_, ?_, ?_, ?_, ?_, ?_, ?_⟩ <;> (simp only [ua, seval, f1, f2, f3, f4, f5, f13, f14, f15, f22] <;> rfl)) ?_
   clear f1 f2 f3 f4 f5 f13 f14 f15  f22 tm
   rintro tm ⟨f1, f2, f3, f4, f5, f13, f14, f15, f23, f25, f27⟩
   simp only [vz, tyf, seval, ua, nm, rg, f1, f4, f5, f23, f25, f27, K0, K5, Kx, x1, x2, x3, zabb, zadh]
   refine dktree (args0 := [.agg (cGA3Int d), .agg (cGA3GSpan am)]) (by first | (simp only [nrm, tynrm] <;> rfl) | rfl) (by simp only [tre, tytre, Bool.and_self]) (zff _ _ _ ow) ?_
   refine zac (fun tm => tm 1 = .ptr 0 0 ∧ tm 2 = .ptr 1 0 ∧ tm 3 = .ptr 2 0 ∧ tm 4 = .ptr 5 0 ∧ tm 5 = .ptr nx 0 ∧ tm 13 = .sl (cellsL cGTintTin s.Tins) (List.length s.Tins) false ∧ tm 14 = .lit (.int .i64 (List.length s.Tins)) ∧ tm 15 = .lit (.int .i64 c) ∧ tm 29 = .lit (.int .i64 (IntKind.i64.wrap (v.High + IntKind.i64.wrap (s.Off * z)))) ∧ tm 32 = .agg (cGSpan w)) (by refine ⟨?_, ?_, ?_, ?_, ?_, ?_, ?_, ?_, ?_, ?_⟩ <;> (simp only [ua, seval, f1, f2, f3, f4, f5, f13, f14, f15, f23, f25, f27] <;> rfl)) ?_
   clear f1 f2 f3 f4 f5 f13 f14 f15  f23  f25  f27 tm
   rintro tm ⟨f1, f2, f3, f4, f5, f13, f14, f15, f29, f32⟩
   cases hcmp : decide (IntKind.i64.wrap (v.High + IntKind.i64.wrap (s.Off * z)) ≥ w.Low) with
   | true =>
    rw [hcmp, cond_true, Option.some.injEq] at hT2
    subst hT2
    rw [cond_false] at hR
    simp only [vz, tyf, seval, ua, nm, rg, f1, f4, f5, f29, f32, K0, K5, Kx, x1, x2, x3, zabb, zadh, hcmp]
    refine ⟨?_, (show nx ≤ kx + 21 by omega), fun γ hγ => ?_, ?_⟩
    ·simp only [updH]
     repeat rw [if_neg (by omega)]
     exact K9
    ·have gx := hFr γ hγ
     have g9 : γ ≠ 9 := fun e => n9 (e ▸ hγ)
     simp only [updH]
     rw [if_neg g9, if_neg (by omega), if_neg (by omega), hK γ gx]
     simp only [updH]
     rw [if_neg g9]
    ·simp only [if_true]
     refine ⟨[(8, .deferred (some [])), (9, LO), (0, .cells (some 28) (cGTintSheet s)), (1, .cells (some 99) (cGA3Int ⟨0, 0, 0⟩)), (2, .cells (some 4) [.lit (.bool false)]), (5, .cells (some 25) (cGA3GSpan am))], Own.cons (show 8 < kx + 21 by omega) n8 ?_ (Own.cons (show 9 < kx + 21 by omega) n9 ?_ (Own.cons (show 0 < kx + 21 by omega) n0 ?_ (Own.cons (show 1 < kx + 21 by omega) n1 ?_ (Own.cons (show 2 < kx + 21 by omega) n2 ?_ (Own.cons (show 5 < kx + 21 by omega) n5 ?_ Own.nil))))), ?_⟩
     rotate_left 6
     ·rw [hJ]
      exact ⟨p, rfl, rfl, hR⟩
     ·simp only [updH]
      repeat rw [if_neg (by omega)]
      exact K8
     ·simp only [zaa, seval]
     ·simp only [updH]
      repeat rw [if_neg (by omega)]
      exact K0
     ·simp only [updH]
      repeat rw [if_neg (by omega)]
      exact K1
     ·simp only [updH]
      repeat rw [if_neg (by omega)]
      exact K2
     ·simp only [updH]
      repeat rw [if_neg (by omega)]
      exact K5
   | false =>
    rw [hcmp, cond_false] at hT2
    simp only [vz, tyf, seval, ua, nm, rg, f1, f4, f5, f29, f32, f15, K0, K5, Kx, x1, x2, x3, zabb, zadh, hcmp, hw]
    refine ⟨q.length, Nat.lt_succ_self _, ?_⟩
    rw [hI0]
    refine ⟨q, c + 1, rfl, by omega, zay hc hq, rfl, (by show nx + 6 ≤ kx + 23; omega), ?_, ?_, ?_, ?_, ?_, ?_, ?_, ?_, ?_, ?_, hT2⟩
    ·intro γ hγ
     simp only [updH]
     rw [if_neg (by omega), if_neg (by omega)]
     exact hK γ hγ
    ·simp only [updH]
     rw [if_neg (by omega), if_neg (by omega)]
     exact Kx
    all_goals simp only [ua, seval, f1, f2, f3, f4, f5, f13, f14]
 ·refine ⟨[(8, .deferred (some [])), (9, LO), (0, .cells (some 28) (cGTintSheet s)), (1, .cells (some 99) (cGA3Int ⟨0, 0, 0⟩)), (2, .cells (some 4) [.lit (.bool false)]), (5, .cells (some 25) (cGA3GSpan am))], Own.cons (show 8 < 10 by omega) (fun h => h) ?_ (Own.cons (show 9 < 10 by omega) (fun h => h) ?_ (Own.cons (show 0 < 10 by omega) (fun h => h) ?_ (Own.cons (show 1 < 10 by omega) (fun h => h) ?_ (Own.cons (show 2 < 10 by omega) (fun h => h) ?_ (Own.cons (show 5 < 10 by omega) (fun h => h) ?_ Own.nil))))), ?_⟩
  rotate_left 6
  ·rw [hJ]
   exact ⟨L, rfl, rfl, h⟩
  all_goals (simp only [zaa, seval] <;> rfl)
 ·rintro H' nx' (⟨hp, hown, hj⟩ | ⟨hp, hown, hj⟩)
  ·rw [hJ] at hj
   obtain ⟨p, hl, rfl, hR⟩ := hj
   cases p with
   | cons e p => cases hl
   | nil =>
   simp only [fdirL, Option.some.injEq] at hR
   subst hR
   obtain ⟨l8, n8, H8⟩ := hown.head
   obtain ⟨l9, n9, H9⟩ := hown.tail.head
   obtain ⟨l0, n0, H0⟩ := hown.tail.tail.head
   obtain ⟨l1, n1, H1⟩ := hown.tail.tail.tail.head
   obtain ⟨l2, n2, H2⟩ := hown.tail.tail.tail.tail.head
   refine zfo hLO H9 ?_
   intro LX
   simp only [vz, tyf, seval, ua, rg, e1, e2, e3, e4, H1, H2]
   refine zia (by simp only [zaa, seval, H8]) ?_
   refine zaq (x := .tup [.agg (cGA3Int ⟨0, 0, 0⟩), .lit (.bool false)]) (by simp only [Tryz.results73, resV, resL, resV1, zat, zbs, uw, cr, tyf, e2, e3, H1, H2, nm, seval] <;> rfl) ?_
   refine zau (by simp only [tre, tytre, Bool.and_self]) ?_
   simp only [outV, nrm, tynrm, seval, List.map_cons, List.map_nil]
   rfl
  ·rw [hJ] at hj
   obtain ⟨LD, ⟨tml, ps, az, bo, d, hLD⟩, rfl, hR2⟩ := hj
   obtain ⟨l8, n8, H8⟩ := hown.head
   obtain ⟨l9, n9, H9⟩ := hown.tail.head
   obtain ⟨l0, n0, H0⟩ := hown.tail.tail.head
   obtain ⟨l1, n1, H1⟩ := hown.tail.tail.tail.head
   obtain ⟨l2, n2, H2⟩ := hown.tail.tail.tail.tail.head
   obtain ⟨R1, R2⟩ := R
   simp only at hR2 H1
   subst hR2
   refine zho hLD H9 ?_
   intro LX
   simp only [vz, tyf, seval, ua, rg, e1, e2, e3, e4, H1, H2]
   refine zia (by simp only [zaa, seval, H8]) ?_
   refine zaq (x := .tup [.agg (cGA3Int R1), .lit (.bool true)]) (by simp only [Tryz.results73, resV, resL, resV1, zat, zbs, uw, cr, tyf, e2, e3, H1, H2, nm, seval] <;> rfl) ?_
   refine zau (by simp only [tre, tytre, Bool.and_self]) ?_
   simp only [outV, nrm, tynrm, seval, List.map_cons, List.map_nil]
   rfl
end Go.V
end
section
namespace Go.V
open Go Go.Proofs
def zks (x0_s : GTintSheet) : Option (GA3Int × Int) := Option.bind (zap x0_s) (fun r1 => cond (r1) (Option.bind (zdz x0_s) (fun r2 => cond (r2.2) (some (r2.1, 0)) (some ((GA3Int.mk 0 0 0), 5)))) (some ((GA3Int.mk 0 0 0), 2)))
theorem zpp (x0_s : GTintSheet) (R : GA3Int × Int) (h : zks x0_s = some R) : VPure Tryz.prog G0 37 [.agg (cGTintSheet x0_s)] (.tree (.tup [.agg (cGA3Int R.1), .lit (.int .i64 R.2)])) := by
 refine VPure.runR mixed Tryz.call37 Tryz.func37 rfl (by simp [Tryz.ntmps37]; kernel_rfl) ?_
 obtain ⟨KF, h, kF, kN⟩ := zak h
 simp only [zks] at h
 rcases o4 : (zap x0_s) with _ | r3
 ·simp only [o4, hs] at h
  exact absurd h kN
 simp only [o4, hs] at h
 simp only [vz, tyf, nm, seval]
 refine ktree (args0 := [.agg (cGTintSheet x0_s)]) (by first | (simp only [nrm, tynrm] <;> rfl) | rfl) (by simp only [tre, tytre, Bool.and_self]) (zcg _ _ o4) ?_
 refine zac (fun tm => tm 1 = .ptr 0 0 ∧ tm 2 = .ptr 1 0 ∧ tm 7 = .lit (.bool r3) ∧ True) (by refine ⟨?_, ?_, ?_, trivial⟩ <;> first | (simp only [ua, nm, seval] <;> rfl) | rfl) ?_
 rintro tm ⟨e5, e6, e7, _⟩
 cases d8 : (r3)
 ·simp only [d8, hs] at h
  try simp only [vz, tyf, e5, e6, e7, d8, nm, seval]
  refine zaq (x := (.tup [.agg ([.lit (.int .i64 0)] ++ [.lit (.int .i64 0)] ++ [.lit (.int .i64 0)]), .lit (.int .i64 2)])) (by first | (simp only [Tryz.results37, resV, resL, resV1, zat, zbs, uw, cr, tyf, e5, e6, e7, d8, nm, seval] <;> rfl) | rfl) ?_
  obtain rfl := kF _ h
  refine zau ?_ ?_
  ·simp only [tre, tytre, Bool.and_self]
  ·first | (simp only [outV, uw, zae, cr, tyf, nrm, tynrm, e5, e6, e7, d8, nm, seval] <;> rfl) | rfl
 simp only [d8, hs] at h
 rcases o10 : (zdz x0_s) with _ | r9
 ·simp only [o10, hs] at h
  exact absurd h kN
 simp only [o10, hs] at h
 simp only [vz, tyf, e5, e6, e7, d8, nm, seval]
 refine ktree (args0 := [.agg (cGTintSheet x0_s)]) (by first | (simp only [nrm, tynrm] <;> rfl) | rfl) (by simp only [tre, tytre, Bool.and_self]) (ziw _ _ o10) ?_
 refine zac (fun tm => tm 2 = .ptr 1 0 ∧ tm 12 = .tup [.agg (cGA3Int r9.1), .lit (.bool r9.2)] ∧ True) (by refine ⟨e6, ?_, trivial⟩ <;> first | (simp only [ua, e5, e6, e7, d8, nm, seval] <;> rfl) | rfl) ?_
 rintro tm ⟨e11, e12, _⟩
 cases d13 : (r9.2)
 ·simp only [d13, hs] at h
  try simp only [vz, tyf, d8, e11, e12, d13, nm, seval]
  refine zaq (x := (.tup [.agg ([.lit (.int .i64 0)] ++ [.lit (.int .i64 0)] ++ [.lit (.int .i64 0)]), .lit (.int .i64 5)])) (by first | (simp only [Tryz.results37, resV, resL, resV1, zat, zbs, uw, cr, tyf, d8, e11, e12, d13, nm, seval] <;> rfl) | rfl) ?_
  obtain rfl := kF _ h
  refine zau ?_ ?_
  ·simp only [tre, tytre, Bool.and_self]
  ·first | (simp only [outV, uw, zae, cr, tyf, nrm, tynrm, d8, e11, e12, d13, nm, seval] <;> rfl) | rfl
 simp only [d13, hs] at h
 try simp only [vz, tyf, d8, e11, e12, d13, nm, seval]
 refine zaq (x := (.tup [.agg (cGA3Int r9.1), .lit (.int .i64 0)])) (by first | (simp only [Tryz.results37, resV, resL, resV1, zat, zbs, uw, cr, tyf, d8, e11, e12, d13, nm, seval] <;> rfl) | rfl) ?_
 obtain rfl := kF _ h
 refine zau ?_ ?_
 ·simp only [tre, tytre, Bool.and_self]
 ·first | (simp only [outV, uw, zae, cr, tyf, nrm, tynrm, d8, e11, e12, d13, nm, seval] <;> rfl) | rfl
end Go.V
end
section
namespace Go.V
open Go Go.Proofs
def headE (L : List Gtintmixed) : List Int × Int := match L with
 | [] => ([], 5)
 | x :: _ => (x.mix, 0)
def zkv (s : GTintSheet) : Option (List Int × Int) := Option.bind (zap s) fun b => cond b (Option.bind (zmr s) fun L => some (headE L)) (some ([], 2))
theorem zpo (s : GTintSheet) (R : List Int × Int) (h : zkv s = some R) : VPure Tryz.prog G0 42 [.agg (cGTintSheet s)] (.tree (.tup [.sl (cellsL eI R.1) (List.length R.1) false, .lit (.int .i64 R.2)])) := by
 refine VPure.runR mixed Tryz.call42 Tryz.func42 rfl (by simp [Tryz.ntmps42]; kernel_rfl) ?_
 unfold zkv at h
 rcases o0 : zap s with _ | b
 ·rw [o0] at h; cases h
 rw [o0, Option.bind_some] at h
 simp only [vz, tyf, seval, ua, rg]
 refine ktree (args0 := [.agg (cGTintSheet s)]) (by first | (simp only [nrm, tynrm] <;> rfl) | rfl) (by simp only [tre, tytre, Bool.and_self]) (zcg _ _ o0) ?_
 cases b with
 | false =>
  simp only [cond_false, Option.some.injEq] at h
  subst h
  simp only [vz, tyf, seval, ua, rg, Bool.not_false]
  refine zaq (x := .tup [.lit (.slice none 0 0), .lit (.int .i64 2)]) (by simp only [Tryz.results42, resV, resL, resV1, zat, zbs, uw, cr, tyf, nm, seval] <;> rfl) ?_
  refine zau (by simp only [tre, tytre]; rfl) ?_
  simp only [outV, nrm, seval, List.map_cons, List.map_nil, zdv, List.length_nil]
 | true =>
 rw [cond_true] at h
 simp only [vz, tyf, seval, ua, rg, Bool.not_true]
 rcases o2 : zmr s with _ | L
 ·rw [o2] at h; cases h
 rw [o2, Option.bind_some] at h
 obtain ⟨hp, hi⟩ := zabs s L o2
 refine ktree (args0 := [.agg (cGTintSheet s)]) (by first | (simp only [nrm, tynrm] <;> rfl) | rfl) (by simp only [tre, tytre, Bool.and_self]) hp ?_
 refine zac (fun tm => tm 2 = .ptr 1 0 ∧ tm 3 = .ptr 2 0 ∧ tm 9 = zjv s) (by refine ⟨?_, ?_, ?_⟩ <;> simp only [ua, seval]) ?_
 rintro tm ⟨e2, e3, e9⟩
 simp only [vz, tyf, seval, ua, rg]
 refine zhn hi (by first | (simp only [znt, zjl, e9, zfj, seval] <;> rfl) | rfl) ?_
 intro LO hLO
 simp only [Option.some.injEq] at h
 obtain ⟨J, hJ⟩ : ∃ J : Option (List VV) → List (Nat × VObj) → Prop, J = (fun o hp => match o with
  | some l => ∃ p : List Gtintmixed, l = p.map sM ∧ hp = [(8, .deferred (some [])), (9, LO), (1, .cells (some 29) [.lit (.slice none 0 0)]), (2, .cells (some 32) [.lit (.int .i64 0)])] ∧ headE p = R
  | none => ∃ LD : Code → VObj, (∃ tml ps az bo d, LD = fun c => VObj.loop .done (some c) tml ps az bo d) ∧ hp = [(8, .deferred (some [])), (9, LD .ret), (1, .cells (some 29) [.sl (cellsL eI R.1) R.1.length false]), (2, .cells (some 32) [.lit (.int .i64 R.2)])]) := ⟨_, rfl⟩
 refine ⟨ownI J, zkn, ?_, ?_, ?_⟩
 ·rintro v rest Fr H nx hFr ⟨hp, hown, hj⟩
  rw [hJ] at hj
  obtain ⟨p, hl, rfl, hR⟩ := hj
  cases p with
  | nil => cases hl
  | cons e p =>
  simp only [List.map_cons, List.cons.injEq] at hl
  obtain ⟨rfl, rfl⟩ := hl
  obtain ⟨l8, n8, H8⟩ := hown.head
  obtain ⟨l9, n9, H9⟩ := hown.tail.head
  obtain ⟨l1, n1, H1⟩ := hown.tail.tail.head
  obtain ⟨l2, n2, H2⟩ := hown.tail.tail.tail.head
  refine zgb mixed (psl := [10]) hLO H9 zhm rfl (by kernel_rfl) (by kernel_rfl) ?_
  intro LB LD hLB hLD
  refine ziy (fun tm => tm 2 = .ptr 1 0 ∧ tm 3 = .ptr 2 0 ∧ tm 10 = sM e) (by refine ⟨?_, ?_, ?_⟩ <;> simp only [zlc, zix, Tryz.ntmps42, e2, e3, seval]) ?_
  clear e2 e3 e9
  rintro tm ⟨e2, e3, e10⟩
  have m1 : (9 = nx) = False := by simp; omega
  have m2 : (nx = 9) = False := by simp; omega
  have m3 : (1 = nx) = False := by simp; omega
  have m4 : (nx = 1) = False := by simp; omega
  have m5 : (2 = nx) = False := by simp; omega
  have m6 : (nx = 2) = False := by simp; omega
  have m7 : (8 = nx) = False := by simp; omega
  simp only [vz, tyf, seval, ua, rg, RStart, e2, e3, e10, H9, H1, H2, Nat.add_zero, m1, m2, m3, m4, m5, m6]
  have hRe : R = (e.mix, 0) := hR.symm
  refine ⟨by simp only [zaa, seval], (show nx ≤ nx + 6 by omega), fun γ hγ => ?_, ?_⟩
  ·have g9 : γ ≠ 9 := fun e => n9 (e ▸ hγ)
   have gx := hFr γ hγ
   have g1 : γ ≠ 1 := fun e => n1 (e ▸ hγ)
   have g2 : γ ≠ 2 := fun e => n2 (e ▸ hγ)
   simp only [updH]
   repeat rw [if_neg (by first | assumption | omega)]
  ·simp only [Bool.false_eq_true, if_false]
   refine ⟨[(8, .deferred (some [])), (9, LD .ret), (1, .cells (some 29) [.sl (cellsL eI e.mix) e.mix.length false]), (2, .cells (some 32) [.lit (.int .i64 0)])], Own.cons (show 8 < nx + 6 by omega) n8 ?_ (Own.cons (show 9 < nx + 6 by omega) n9 ?_ (Own.cons (show 1 < nx + 6 by omega) n1 ?_ (Own.cons (show 2 < nx + 6 by omega) n2 ?_ (Own.nil)))), ?_⟩
   rotate_left 4
   ·rw [hJ]
    exact ⟨LD, ⟨_, _, _, _, _, hLD⟩, by rw [hRe]⟩
   all_goals simp only [zaa, seval, H8, m1, m2, m3, m4, m5, m6, m7, Nat.add_zero]
 ·refine ⟨[(8, .deferred (some [])), (9, LO), (1, .cells (some 29) [.lit (.slice none 0 0)]), (2, .cells (some 32) [.lit (.int .i64 0)])], Own.cons (show 8 < 10 by omega) (fun h => h) ?_ (Own.cons (show 9 < 10 by omega) (fun h => h) ?_ (Own.cons (show 1 < 10 by omega) (fun h => h) ?_ (Own.cons (show 2 < 10 by omega) (fun h => h) ?_ (Own.nil)))), ?_⟩
  rotate_left 4
  ·rw [hJ]
   exact ⟨L, rfl, rfl, h⟩
  all_goals simp only [zaa, seval]
 ·rintro H' nx' (⟨hp, hown, hj⟩ | ⟨hp, hown, hj⟩)
  ·rw [hJ] at hj
   obtain ⟨p, hl, rfl, hR⟩ := hj
   cases p with
   | cons e p => cases hl
   | nil =>
   subst hR
   obtain ⟨l8, n8, H8⟩ := hown.head
   obtain ⟨l9, n9, H9⟩ := hown.tail.head
   obtain ⟨l1, n1, H1⟩ := hown.tail.tail.head
   obtain ⟨l2, n2, H2⟩ := hown.tail.tail.tail.head
   refine zfo hLO H9 ?_
   intro LX
   simp only [vz, tyf, seval, ua, rg, e2, e3, H1, H2, headE]
   refine zia (by simp only [zaa, seval, H8]) ?_
   refine zaq (x := .tup [.lit (.slice none 0 0), .lit (.int .i64 5)]) (by simp only [Tryz.results42, resV, resL, resV1, zat, zbs, uw, cr, tyf, e2, e3, H1, H2, nm, seval] <;> rfl) ?_
   refine zau (by simp only [tre, tytre, Bool.and_self]) ?_
   simp only [outV, nrm, seval, List.map_cons, List.map_nil, zdv, List.length_nil]
  ·rw [hJ] at hj
   obtain ⟨LD, ⟨tml, ps, az, bo, d, hLD⟩, rfl⟩ := hj
   obtain ⟨l8, n8, H8⟩ := hown.head
   obtain ⟨l9, n9, H9⟩ := hown.tail.head
   obtain ⟨l1, n1, H1⟩ := hown.tail.tail.head
   obtain ⟨l2, n2, H2⟩ := hown.tail.tail.tail.head
   refine zho hLD H9 ?_
   intro LX
   simp only [vz, tyf, seval, ua, rg, e2, e3, H1, H2]
   refine zia (by simp only [zaa, seval, H8]) ?_
   refine zaq (x := .tup [.sl (cellsL eI R.1) R.1.length false, .lit (.int .i64 R.2)]) (by simp only [Tryz.results42, resV, resL, resV1, zat, zbs, uw, cr, tyf, e2, e3, H1, H2, nm, seval] <;> rfl) ?_
   refine zau (by simp only [tre, tytre, Bool.and_self]) ?_
   simp only [outV, nrm, seval, List.map_cons, List.map_nil, zdv, List.length_nil]
end Go.V
end
section
namespace Go.V
open Go
def sA : GTintSheet := ⟨⟨60, 40, 20⟩, ⟨⟨1, 2⟩, ⟨1, 1⟩, ⟨0, 0⟩⟩, ⟨5, 5⟩, 5, [⟨⟨⟨80, 82⟩, ⟨20, 20⟩, ⟨0, 2⟩⟩⟩, ⟨⟨⟨20, 22⟩, ⟨60, 60⟩, ⟨40, 40⟩⟩⟩, ⟨⟨⟨50, 50⟩, ⟨10, 12⟩, ⟨30, 30⟩⟩⟩]⟩
def sB : GTintSheet := ⟨⟨60, 40, 20⟩, ⟨⟨1, 2⟩, ⟨1, 1⟩, ⟨0, 0⟩⟩, ⟨5, 5⟩, 5, [⟨⟨⟨20, 22⟩, ⟨60, 60⟩, ⟨40, 40⟩⟩⟩, ⟨⟨⟨50, 50⟩, ⟨10, 12⟩, ⟨30, 30⟩⟩⟩]⟩
theorem zajv : zks sB = some (⟨0, 0, -2⟩, 0) := by kernel_rfl
theorem zaml : zkz sA = some (9, 0) := by kernel_rfl
theorem zamt : zmg sA = some ([1, 1, 0], 5, 0) := by kernel_rfl
theorem zajk : zle sA = some ([0, 1], 0) := by kernel_rfl
theorem zajm : zkv sA = some ([1, 1, 0], 0) := by kernel_rfl
end Go.V
end
section
namespace Go.V
open Go Go.Proofs
theorem qshA : VV.agg (cGTintSheet sA) = kA := by kernel_rfl
theorem qshB : VV.agg (cGTintSheet sB) = kB := by kernel_rfl
theorem pCount : VPure Tryz.prog G0 44 [kA] (.tree kCount) := qshA ▸ zpr sA (9, 0) zaml
theorem pNear : VPure Tryz.prog G0 50 [kA] (.tree kNear) := qshA ▸ zry sA ([1, 1, 0], 5, 0) zamt
theorem pNeeds : VPure Tryz.prog G0 55 [kA] (.tree kNeeds) := qshA ▸ zpt sA ([0, 1], 0) zajk
theorem pFirst : VPure Tryz.prog G0 42 [kA] (.tree kFirst) := qshA ▸ zpo sA ([1, 1, 0], 0) zajm
theorem pProof : VPure Tryz.prog G0 37 [kB] (.tree kProof) := qshB ▸ zpp sB (⟨0, 0, -2⟩, 0) zajv
end Go.V
end
section
namespace Go.V
open Go Go.Proofs
theorem pMay : VPure Tryz.prog G0 43 [kA] (.tree kMay) := VPure.closedB hmix 1000 (by kernel_rfl)
end Go.V
end
section
namespace Go.V
open Go Go.Proofs
def kTab : KTab := [
  (54, [], kA),
  (56, [], kB),
  (53, [], kD),
  (18, [kD], kAim),
  (19, [kA, .sl [.lit (.int .i64 (1)), .lit (.int .i64 (1)), .lit (.int .i64 (0))] 3 false], kSums),
  (27, [kA, .sl [.lit (.int .i64 (3)), .lit (.int .i64 (2)), .lit (.int .i64 (0))] 3 false], kWord),
  (24, [kA, .sl [.lit (.int .i64 (1)), .lit (.int .i64 (1)), .lit (.int .i64 (0))] 3 false, .agg [.sl [.lit (.int .i64 80),.lit (.int .i64 20),.lit (.int .i64 0),.lit (.int .i64 20),.lit (.int .i64 60),.lit (.int .i64 40),.lit (.int .i64 50),.lit (.int .i64 10),.lit (.int .i64 30)] 3 false,.lit (.int .i64 5),.lit (.int .i64 2),.lit (.int .i64 1),.lit (.int .i64 0)]], kTrue),
  (28, [kD, .sl [.lit (.int .i64 (1)), .lit (.int .i64 (1)), .lit (.int .i64 (0))] 3 false], kYears),
  (57, [.lit (.string ⟨⟨[98, 111, 97, 114, 100, 32, 49, 32, 50, 32, 51, 32, 48, 32, 48, 32, 49, 10, 102, 97, 100, 101, 32, 48, 32, 48, 32, 48, 32, 48, 32, 48, 32, 48, 10, 116, 105, 110, 32, 49, 32, 49, 32, 50, 32, 50, 32, 51, 32, 51, 10, 101, 110, 100, 32, 49, 54, 52, 10]⟩⟩)], kRead),
  (44, [kA], kCount),
  (50, [kA], kNear),
  (55, [kA], kNeeds),
  (37, [kB], kProof),
  (42, [kA], kFirst),
  (43, [kA], kMay)]
theorem kTabOk : KTabOk Tryz.prog G0 kTab := ⟨⟨by kernel_rfl, pA⟩, ⟨⟨by kernel_rfl, pB⟩, ⟨⟨by kernel_rfl, pD⟩, ⟨⟨by kernel_rfl, pAim⟩, ⟨⟨by kernel_rfl, pSums⟩, ⟨⟨by kernel_rfl, pWord⟩, ⟨⟨by kernel_rfl, pTrue⟩, ⟨⟨by kernel_rfl, pYears⟩, ⟨⟨by kernel_rfl, pRead⟩, ⟨⟨by kernel_rfl, pCount⟩, ⟨⟨by kernel_rfl, pNear⟩, ⟨⟨by kernel_rfl, pNeeds⟩, ⟨⟨by kernel_rfl, pProof⟩, ⟨⟨by kernel_rfl, pFirst⟩, ⟨⟨by kernel_rfl, pMay⟩, trivial⟩⟩⟩⟩⟩⟩⟩⟩⟩⟩⟩⟩⟩⟩⟩
theorem pKnown : VPure Tryz.prog G0 16 [] (.tree (.lit (.bool true))) := VPure.closedT hmix kTabOk 1000 (by kernel_rfl)
#print axioms pKnown
end Go.V
end
section
namespace Go.V
open Go Go.Proofs
theorem zbk : VPure Tryz.prog G0 16 [] (.tree (.lit (.bool true))) := pKnown
end Go.V
end
section
namespace Go.V
open Go Go.Proofs
def zfs (x0_s : GTintSheet) (x1_a1 : List Int) : Option (Bool) := Option.bind (zeg x0_s) (fun r1 => cond (r1) (cond (decide ((List.length x1_a1 : Int) > 6)) (some true) (Option.bind (zge x0_s) (fun r2 => Option.bind (zio x0_s) (fun r3 => Option.bind (zhd x0_s x1_a1) (fun r4 => Option.bind (zee x0_s) (fun r5 => cond (r5) (cond (r2 != 0) (some false) (cond (r3.2 != 0) (some false) (Option.bind (zgz x0_s) (fun r6 => cond (r3.1.a0.Low == r6.a0.Low && (r3.1.a0.High == r6.a0.High && (r3.1.a1.Low == r6.a1.Low && (r3.1.a1.High == r6.a1.High && (r3.1.a2.Low == r6.a2.Low && (r3.1.a2.High == r6.a2.High)))))) (Option.bind (zfr x0_s x1_a1) (fun r7 => cond (r7) (cond (r4.2 == 0) (Option.bind (zgh x0_s x1_a1) (fun r8 => cond (r4.1.a0.Low == r8.a0.Low && (r4.1.a0.High == r8.a0.High && (r4.1.a1.Low == r8.a1.Low && (r4.1.a1.High == r8.a1.High && (r4.1.a2.Low == r8.a2.Low && (r4.1.a2.High == r8.a2.High)))))) (some true) (some false))) (some false)) (cond (r4.2 == 2) (cond (r4.1.a0.Low == 0 && (r4.1.a0.High == 0 && (r4.1.a1.Low == 0 && (r4.1.a1.High == 0 && (r4.1.a2.Low == 0 && (r4.1.a2.High == 0)))))) (some true) (some false)) (some false)))) (some false))))) (cond (r2 == 2) (cond (r3.2 == 2) (cond (r3.1.a0.Low == 0 && (r3.1.a0.High == 0 && (r3.1.a1.Low == 0 && (r3.1.a1.High == 0 && (r3.1.a2.Low == 0 && (r3.1.a2.High == 0)))))) (cond (r4.2 == 2) (cond (r4.1.a0.Low == 0 && (r4.1.a0.High == 0 && (r4.1.a1.Low == 0 && (r4.1.a1.High == 0 && (r4.1.a2.Low == 0 && (r4.1.a2.High == 0)))))) (some true) (some false)) (some false)) (some false)) (some false)) (some false)))))))) (some true))
theorem zlp (x0_s : GTintSheet) (x1_a1 : List Int) (R : Bool) (h : zfs x0_s x1_a1 = some R) : VPure Tryz.prog G0 3 [.agg (cGTintSheet x0_s), .sl (cellsL eI x1_a1) (List.length x1_a1) false] (.tree (.lit (.bool R))) := by
 refine VPure.runR mixed Tryz.call3 Tryz.func3 rfl (by simp [Tryz.ntmps3]; kernel_rfl) ?_
 obtain ⟨KF, h, kF, kN⟩ := zak h
 simp only [zfs] at h
 rcases o10 : (zeg x0_s) with _ | r9
 ·simp only [o10, hs] at h
  exact absurd h kN
 simp only [o10, hs] at h
 simp only [vz, tyf, nm, seval]
 refine ktree (args0 := [.agg (cGTintSheet x0_s)]) (by first | (simp only [nrm, tynrm] <;> rfl) | rfl) (by simp only [tre, tytre, Bool.and_self]) (zjo _ _ o10) ?_
 refine zac (fun tm => tm 1 = .sl (cellsL eI x1_a1) (List.length x1_a1) false ∧ tm 2 = .ptr 0 0 ∧ tm 11 = .lit (.bool r9) ∧ True) (by refine ⟨?_, ?_, ?_, trivial⟩ <;> first | (simp only [ua, nm, seval] <;> rfl) | rfl) ?_
 rintro tm ⟨e11, e12, e13, _⟩
 cases d14 : (r9)
 ·simp only [d14, hs] at h
  simp only [vz, tyf, e11, e12, e13, d14, nm, seval]
  refine ktree0 zbk ?_
  try simp only [vz, tyf, e11, e12, e13, d14, nm, seval]
  obtain rfl := kF _ h
  exact zab Tryz.results3 rfl
 simp only [d14, hs] at h
 cases d15 : (decide ((List.length x1_a1 : Int) > 6))
 ·simp only [d15, hs] at h
  rcases o17 : (zge x0_s) with _ | r16
  ·simp only [o17, hs] at h
   exact absurd h kN
  simp only [o17, hs] at h
  simp only [vz, tyf, e11, e12, e13, d14, d15, nm, seval]
  refine ktree (args0 := [.agg (cGTintSheet x0_s)]) (by first | (simp only [nrm, tynrm] <;> rfl) | rfl) (by simp only [tre, tytre, Bool.and_self]) (zpq _ _ o17) ?_
  refine zac (fun tm => tm 1 = .sl (cellsL eI x1_a1) (List.length x1_a1) false ∧ tm 2 = .ptr 0 0 ∧ tm 20 = .lit (.int .i64 r16) ∧ True) (by refine ⟨e11, e12, ?_, trivial⟩ <;> first | (simp only [ua, e11, e12, e13, d14, d15, nm, seval] <;> rfl) | rfl) ?_
  rintro tm ⟨e18, e19, e20, _⟩
  rcases o22 : (zio x0_s) with _ | r21
  ·simp only [o22, hs] at h
   exact absurd h kN
  simp only [o22, hs] at h
  simp only [vz, tyf, d14, d15, e18, e19, e20, nm, seval]
  refine ktree (args0 := [.agg (cGTintSheet x0_s)]) (by first | (simp only [nrm, tynrm] <;> rfl) | rfl) (by simp only [tre, tytre, Bool.and_self]) (ztt _ _ o22) ?_
  refine zac (fun tm => tm 1 = .sl (cellsL eI x1_a1) (List.length x1_a1) false ∧ tm 2 = .ptr 0 0 ∧ tm 5 = .lit (.int .i64 r16) ∧ tm 23 = .tup [.agg (cGA3GSpan r21.1), .lit (.int .i64 r21.2)] ∧ True) (by refine ⟨e18, e19, ?_, ?_, trivial⟩ <;> first | (simp only [ua, d14, d15, e18, e19, e20, nm, seval] <;> rfl) | rfl) ?_
  rintro tm ⟨e23, e24, e25, e26, _⟩
  rcases o28 : (zhd x0_s x1_a1) with _ | r27
  ·simp only [o28, hs] at h
   exact absurd h kN
  simp only [o28, hs] at h
  simp only [vz, tyf, d14, d15, e23, e24, e25, e26, nm, seval]
  refine ktree (args0 := [.agg (cGTintSheet x0_s), .sl (cellsL eI x1_a1) (List.length x1_a1) false]) (by first | (simp only [nrm, tynrm] <;> rfl) | rfl) (by simp only [tre, tytre, Bool.and_self]) (zrs _ _ _ o28) ?_
  refine zac (fun tm => tm 1 = .sl (cellsL eI x1_a1) (List.length x1_a1) false ∧ tm 2 = .ptr 0 0 ∧ tm 5 = .lit (.int .i64 r16) ∧ tm 6 = .ptr 18 0 ∧ tm 7 = .lit (.int .i64 r21.2) ∧ tm 29 = .tup [.agg (cGA3GSpan r27.1), .lit (.int .i64 r27.2)] ∧ True) (by refine ⟨e23, e24, e25, ?_, ?_, ?_, trivial⟩ <;> first | (simp only [ua, d14, d15, e23, e24, e25, e26, nm, seval] <;> rfl) | rfl) ?_
  rintro tm ⟨e29, e30, e31, e32, e33, e34, _⟩
  rcases o36 : (zee x0_s) with _ | r35
  ·simp only [o36, hs] at h
   exact absurd h kN
  simp only [o36, hs] at h
  simp only [vz, tyf, d14, d15, e29, e30, e31, e32, e33, e34, nm, seval]
  refine ktree (args0 := [.agg (cGTintSheet x0_s)]) (by first | (simp only [nrm, tynrm] <;> rfl) | rfl) (by simp only [tre, tytre, Bool.and_self]) (zkc _ _ o36) ?_
  refine zac (fun tm => tm 1 = .sl (cellsL eI x1_a1) (List.length x1_a1) false ∧ tm 2 = .ptr 0 0 ∧ tm 5 = .lit (.int .i64 r16) ∧ tm 6 = .ptr 18 0 ∧ tm 7 = .lit (.int .i64 r21.2) ∧ tm 8 = .ptr 27 0 ∧ tm 9 = .lit (.int .i64 r27.2) ∧ tm 33 = .lit (.bool r35) ∧ True) (by refine ⟨e29, e30, e31, e32, e33, ?_, ?_, ?_, trivial⟩ <;> first | (simp only [ua, d14, d15, e29, e30, e31, e32, e33, e34, nm, seval] <;> rfl) | rfl) ?_
  rintro tm ⟨e37, e38, e39, e40, e41, e42, e43, e44, _⟩
  cases d45 : (r35)
  ·simp only [d45, hs] at h
   cases d46 : (r16 == 2)
   ·simp only [d46, hs] at h
    try simp only [vz, tyf, d14, d15, e37, e38, e39, e40, e41, e42, e43, e44, d45, d46, nm, seval]
    obtain rfl := kF _ h
    exact zab Tryz.results3 rfl
   simp only [d46, hs] at h
   cases d47 : (r21.2 == 2)
   ·simp only [d47, hs] at h
    try simp only [vz, tyf, d14, d15, e37, e38, e39, e40, e41, e42, e43, e44, d45, d46, d47, nm, seval]
    obtain rfl := kF _ h
    exact zab Tryz.results3 rfl
   simp only [d47, hs] at h
   cases d48 : (r21.1.a0.Low == 0 && (r21.1.a0.High == 0 && (r21.1.a1.Low == 0 && (r21.1.a1.High == 0 && (r21.1.a2.Low == 0 && (r21.1.a2.High == 0))))))
   ·simp only [d48, hs] at h
    try simp only [vz, tyf, d14, d15, e37, e38, e39, e40, e41, e42, e43, e44, d45, d46, d47, d48, nm, seval]
    obtain rfl := kF _ h
    exact zab Tryz.results3 rfl
   simp only [d48, hs] at h
   cases d49 : (r27.2 == 2)
   ·simp only [d49, hs] at h
    have b50 := And.intro d14 (And.intro d15 (And.intro d45 (And.intro d46 (And.intro d47 (And.intro d48 d49)))))
    try simp only [vz, tyf, b50, e37, e38, e39, e40, e41, e42, e43, e44, nm, seval]
    obtain rfl := kF _ h
    exact zab Tryz.results3 rfl
   simp only [d49, hs] at h
   have b51 := And.intro d14 (And.intro d15 (And.intro d45 (And.intro d46 (And.intro d47 (And.intro d48 d49)))))
   cases d52 : (r27.1.a0.Low == 0 && (r27.1.a0.High == 0 && (r27.1.a1.Low == 0 && (r27.1.a1.High == 0 && (r27.1.a2.Low == 0 && (r27.1.a2.High == 0))))))
   ·simp only [d52, hs] at h
    try simp only [vz, tyf, b51, e37, e38, e39, e40, e41, e42, e43, e44, d52, nm, seval]
    obtain rfl := kF _ h
    exact zab Tryz.results3 rfl
   simp only [d52, hs] at h
   simp only [vz, tyf, b51, e37, e38, e39, e40, e41, e42, e43, e44, d52, nm, seval]
   refine ktree0 zbk ?_
   try simp only [vz, tyf, b51, e37, e38, e39, e40, e41, e42, e43, e44, d52, nm, seval]
   obtain rfl := kF _ h
   exact zab Tryz.results3 rfl
  simp only [d45, hs] at h
  simp only [vz, tyf, d14, d15, e37, e38, e39, e40, e41, e42, e43, e44, d45, nm, seval]
  refine zcq (fun tm => tm 1 = .sl (cellsL eI x1_a1) (List.length x1_a1) false ∧ tm 2 = .ptr 0 0 ∧ tm 5 = .lit (.int .i64 r16) ∧ tm 6 = .ptr 18 0 ∧ tm 7 = .lit (.int .i64 r21.2) ∧ tm 8 = .ptr 27 0 ∧ tm 9 = .lit (.int .i64 r27.2) ∧ True) (by refine ⟨e37, e38, e39, e40, e41, e42, e43, trivial⟩ <;> first | (simp only [ua, d14, d15, e37, e38, e39, e40, e41, e42, e43, e44, d45, nm, seval] <;> rfl) | rfl) ?_
  rintro tm ⟨e53, e54, e55, e56, e57, e58, e59, _⟩
  cases d60 : (r16 != 0)
  ·simp only [d60, hs] at h
   cases d61 : (r21.2 != 0)
   ·simp only [d61, hs] at h
    rcases o63 : (zgz x0_s) with _ | r62
    ·simp only [o63, hs] at h
     exact absurd h kN
    simp only [o63, hs] at h
    simp only [vz, tyf, d14, d15, d45, e53, e54, e55, e56, e57, e58, e59, d60, d61, nm, seval]
    refine dktree (args0 := [.agg (cGTintSheet x0_s)]) (by first | (simp only [nrm, tynrm] <;> rfl) | rfl) (by simp only [tre, tytre, Bool.and_self]) (zse _ _ o63) ?_
    refine zac (fun tm => tm 1 = .sl (cellsL eI x1_a1) (List.length x1_a1) false ∧ tm 2 = .ptr 0 0 ∧ tm 8 = .ptr 27 0 ∧ tm 9 = .lit (.int .i64 r27.2) ∧ tm 64 = .lit (.bool false) ∧ tm 65 = .agg (cGA3GSpan r21.1) ∧ tm 67 = .agg (cGA3GSpan r62) ∧ True) (by refine ⟨e53, e54, e58, e59, ?_, ?_, ?_, trivial⟩ <;> first | (simp only [ua, d14, d15, d45, e53, e54, e55, e56, e57, e58, e59, d60, d61, nm, seval] <;> rfl) | rfl) ?_
    rintro tm ⟨e64, e65, e66, e67, e68, e69, e70, _⟩
    cases d71 : (r21.1.a0.Low == r62.a0.Low && (r21.1.a0.High == r62.a0.High && (r21.1.a1.Low == r62.a1.Low && (r21.1.a1.High == r62.a1.High && (r21.1.a2.Low == r62.a2.Low && (r21.1.a2.High == r62.a2.High))))))
    ·simp only [d71, hs] at h
     try simp only [vz, tyf, d14, d15, d45, d60, d61, e64, e65, e66, e67, e68, e69, e70, d71, nm, seval]
     obtain rfl := kF _ h
     exact zab Tryz.results3 rfl
    simp only [d71, hs] at h
    rcases o73 : (zfr x0_s x1_a1) with _ | r72
    ·simp only [o73, hs] at h
     exact absurd h kN
    simp only [o73, hs] at h
    simp only [vz, tyf, d14, d15, d45, d60, d61, e64, e65, e66, e67, e68, e69, e70, d71, nm, seval]
    refine ktree (args0 := [.agg (cGTintSheet x0_s), .sl (cellsL eI x1_a1) (List.length x1_a1) false]) (by first | (simp only [nrm, tynrm] <;> rfl) | rfl) (by simp only [tre, tytre, Bool.and_self]) (zlh _ _ _ o73) ?_
    refine zac (fun tm => tm 1 = .sl (cellsL eI x1_a1) (List.length x1_a1) false ∧ tm 2 = .ptr 0 0 ∧ tm 8 = .ptr 27 0 ∧ tm 9 = .lit (.int .i64 r27.2) ∧ tm 72 = .lit (.bool r72) ∧ True) (by refine ⟨e64, e65, e66, e67, ?_, trivial⟩ <;> first | (simp only [ua, d14, d15, d45, d60, d61, e64, e65, e66, e67, e68, e69, e70, d71, nm, seval] <;> rfl) | rfl) ?_
    rintro tm ⟨e74, e75, e76, e77, e78, _⟩
    cases d79 : (r72)
    ·simp only [d79, hs] at h
     have b80 := And.intro d14 (And.intro d15 (And.intro d45 (And.intro d60 (And.intro d61 (And.intro d71 d79)))))
     cases d81 : (r27.2 == 2)
     ·simp only [d81, hs] at h
      try simp only [vz, tyf, b80, e74, e75, e76, e77, e78, d81, nm, seval]
      obtain rfl := kF _ h
      exact zab Tryz.results3 rfl
     simp only [d81, hs] at h
     cases d82 : (r27.1.a0.Low == 0 && (r27.1.a0.High == 0 && (r27.1.a1.Low == 0 && (r27.1.a1.High == 0 && (r27.1.a2.Low == 0 && (r27.1.a2.High == 0))))))
     ·simp only [d82, hs] at h
      try simp only [vz, tyf, b80, e74, e75, e76, e77, e78, d81, d82, nm, seval]
      obtain rfl := kF _ h
      exact zab Tryz.results3 rfl
     simp only [d82, hs] at h
     simp only [vz, tyf, b80, e74, e75, e76, e77, e78, d81, d82, nm, seval]
     refine ktree0 zbk ?_
     try simp only [vz, tyf, b80, e74, e75, e76, e77, e78, d81, d82, nm, seval]
     obtain rfl := kF _ h
     exact zab Tryz.results3 rfl
    simp only [d79, hs] at h
    have b83 := And.intro d14 (And.intro d15 (And.intro d45 (And.intro d60 (And.intro d61 (And.intro d71 d79)))))
    simp only [vz, tyf, b83, e74, e75, e76, e77, e78, nm, seval]
    refine zcq (fun tm => tm 1 = .sl (cellsL eI x1_a1) (List.length x1_a1) false ∧ tm 2 = .ptr 0 0 ∧ tm 8 = .ptr 27 0 ∧ tm 9 = .lit (.int .i64 r27.2) ∧ True) (by refine ⟨e74, e75, e76, e77, trivial⟩ <;> first | (simp only [ua, b83, e74, e75, e76, e77, e78, nm, seval] <;> rfl) | rfl) ?_
    rintro tm ⟨e84, e85, e86, e87, _⟩
    cases d88 : (r27.2 == 0)
    ·simp only [d88, hs] at h
     try simp only [vz, tyf, b83, e84, e85, e86, e87, d88, nm, seval]
     obtain rfl := kF _ h
     exact zab Tryz.results3 rfl
    simp only [d88, hs] at h
    rcases o90 : (zgh x0_s x1_a1) with _ | r89
    ·simp only [o90, hs] at h
     exact absurd h kN
    simp only [o90, hs] at h
    simp only [vz, tyf, b83, e84, e85, e86, e87, d88, nm, seval]
    refine dktree (args0 := [.agg (cGTintSheet x0_s), .sl (cellsL eI x1_a1) (List.length x1_a1) false]) (by first | (simp only [nrm, tynrm] <;> rfl) | rfl) (by simp only [tre, tytre, Bool.and_self]) (zpz _ _ _ o90) ?_
    refine zac (fun tm => tm 86 = .lit (.bool true) ∧ tm 87 = .agg (cGA3GSpan r27.1) ∧ tm 90 = .agg (cGA3GSpan r89) ∧ True) (by refine ⟨?_, ?_, ?_, trivial⟩ <;> first | (simp only [ua, b83, e84, e85, e86, e87, d88, nm, seval] <;> rfl) | rfl) ?_
    rintro tm ⟨e91, e92, e93, _⟩
    cases d94 : (r27.1.a0.Low == r89.a0.Low && (r27.1.a0.High == r89.a0.High && (r27.1.a1.Low == r89.a1.Low && (r27.1.a1.High == r89.a1.High && (r27.1.a2.Low == r89.a2.Low && (r27.1.a2.High == r89.a2.High))))))
    ·simp only [d94, hs] at h
     try simp only [vz, tyf, b83, d88, e91, e92, e93, d94, nm, seval]
     obtain rfl := kF _ h
     exact zab Tryz.results3 rfl
    simp only [d94, hs] at h
    simp only [vz, tyf, b83, d88, e91, e92, e93, d94, nm, seval]
    refine dktree0 zbk ?_
    try simp only [vz, tyf, b83, d88, e91, e92, e93, d94, nm, seval]
    obtain rfl := kF _ h
    exact zab Tryz.results3 rfl
   simp only [d61, hs] at h
   try simp only [vz, tyf, d14, d15, d45, e53, e54, e55, e56, e57, e58, e59, d60, d61, nm, seval]
   obtain rfl := kF _ h
   exact zab Tryz.results3 rfl
  simp only [d60, hs] at h
  try simp only [vz, tyf, d14, d15, d45, e53, e54, e55, e56, e57, e58, e59, d60, nm, seval]
  obtain rfl := kF _ h
  exact zab Tryz.results3 rfl
 simp only [d15, hs] at h
 simp only [vz, tyf, e11, e12, e13, d14, d15, nm, seval]
 refine ktree0 zbk ?_
 try simp only [vz, tyf, e11, e12, e13, d14, d15, nm, seval]
 obtain rfl := kF _ h
 exact zab Tryz.results3 rfl
end Go.V
end
section
namespace Go.V
open Go
def z3 : GA3GSpan := ⟨⟨0, 0⟩, ⟨0, 0⟩, ⟨0, 0⟩⟩
theorem zajr {s : GTintSheet} (h : lenOk s.Tins = true) : zge s = some (cond (sheetB s) 0 2) := by
 unfold zge
 rw [zls h]
 cases sheetB s <;> rfl
theorem zatq {s : GTintSheet} (h : lenOk s.Tins = true) : zio s = some (cond (sheetB s) (aimS s, 0) (z3, 2)) := by
 unfold zio
 rw [zls h]
 cases hb : sheetB s with
 | false => rfl
 | true =>
  simp only [Option.bind_some, cond_true, zapf (ShOk.of hb)]
theorem zapj {s : GTintSheet} (h : lenOk s.Tins = true) (mix : List Int) : zhd s mix = some (cond (sheetB s && mixB s mix) (sumsS s mix, 0) (z3, 2)) := by
 unfold zhd
 rw [zls h]
 cases hb : sheetB s with
 | false => rfl
 | true =>
  have hs := ShOk.of hb
  simp only [Option.bind_some, cond_true, zadk hs, Bool.true_and]
  cases hm : mixB s mix with
  | false => rfl
  | true => simp only [cond_true, zail hs (MixOk.of hm), Option.bind_some]
theorem zsp (s : GTintSheet) (mix : List Int) (h : lenOk s.Tins = true) (hm : lenOk mix = true) : zfs s mix = some true := by
 unfold zfs
 rw [show zeg s = some (decide ((List.length s.Tins : Int) ≤ 6)) from rfl, zajr h, zatq h, zapj h, zxw h]
 cases decide ((List.length s.Tins : Int) ≤ 6) with
 | false => rfl
 | true =>
 cases decide ((List.length mix : Int) > 6) with
 | true => rfl
 | false =>
 simp only [Option.bind_some, cond_true, cond_false]
 cases hb : sheetB s with
 | false => rfl
 | true =>
  have hs := ShOk.of hb
  simp only [cond_true, cond_false, bne_self_eq_false, zaoa hs, zaiu hs hm, Option.bind_some, beq_self_eq_true, Bool.and_self, Bool.true_and]
  cases hx : mixB s mix with
  | false => rfl
  | true =>
   simp only [cond_true, beq_self_eq_true, zajn hs (MixOk.of hx), Option.bind_some, Bool.and_self]
end Go.V
end
