/- Part of a proof. -/
import Derived.Test.YtekhjalgmlflpaaGreatDoorTbk
set_option linter.all false
set_option maxRecDepth 4000
set_option maxHeartbeats 40000000
section
namespace Go.V
open Go Go.Proofs
def zM : Gm := ⟨⟨⟨0, 0, 0⟩, ⟨⟨0, 0⟩, ⟨0, 0⟩, ⟨0, 0⟩⟩, ⟨0, 0⟩, 0, []⟩, []⟩
def zc : List VV := [.lit (.int .i64 0), .lit (.int .i64 0), .lit (.int .i64 0), .lit (.int .i64 0), .lit (.int .i64 0), .lit (.int .i64 0), .lit (.int .i64 0), .lit (.int .i64 0), .lit (.int .i64 0), .lit (.int .i64 0), .lit (.int .i64 0), .lit (.int .i64 0), .lit (.slice none 0 0), .lit (.slice none 0 0)]
theorem zc_eq : zc = [.lit (.int .i64 0), .lit (.int .i64 0), .lit (.int .i64 0), .lit (.int .i64 0), .lit (.int .i64 0), .lit (.int .i64 0), .lit (.int .i64 0), .lit (.int .i64 0), .lit (.int .i64 0), .lit (.int .i64 0), .lit (.int .i64 0), .lit (.int .i64 0), .lit (.slice none 0 0), .lit (.slice none 0 0)] := rfl
def bestO (better : Gm → Gm → Option Bool) : List Gm → Gm × Bool → Option (Gm × Bool)
 | [], acc => some acc
 | x :: L, acc => cond acc.2 (Option.bind (better x acc.1) fun t => bestO better L (cond t (x, true) acc)) (bestO better L (x, true))
theorem zyl {itv : VV} {bf : Nat} {mc : List VV} {L : List Gm} (hit : Iter Tryz.prog G0 itv (L.map sM)) (hmt : treeL mc = true) {better : Gm → Gm → Option Bool}
  (hb : ∀ a b t, better a b = some t → VPure Tryz.prog G0 bf (sM a :: sM b :: mc) (.tree (.lit (.bool t)))) (R : Gm × Bool) (h : bestO better L (zM, false) = some R) :
  VPure Tryz.prog G0 78 [itv, .fn (.func bf) [] mc] (.tree (.tup [sM R.1, .lit (.bool R.2)])) := by
 refine VPure.runR mixed Tryz.call78 Tryz.func78 rfl (by simp [Tryz.ntmps78]; kernel_rfl) ?_
 simp only [vz, tyf, seval, ua, rg]
 refine zmn (fun tm => tm 9 = itv ∧ tm 3 = .ptr 0 0 ∧ tm 4 = .ptr 1 0 ∧ tm 6 = .ptr 3 0 ∧ tm 7 = .ptr 4 0) (by refine ⟨?_, ?_, ?_, ?_, ?_⟩ <;> simp only [ua, seval]) ?_
 rintro tm ⟨e9, e3, e4, e6, e7⟩
 refine zhs hit (by first | (simp only [zpg, zjx, e9, zfs, seval] <;> rfl) | rfl) ?_
 intro LO hLO
 obtain ⟨J, hJ⟩ : ∃ J : Option (List VV) → List (Nat × VObj) → Prop, J = (fun o hp => match o with
  | some l => ∃ (p : List Gm) (r : Gm) (fd : Bool) (y : List VV), l = p.map sM ∧ hp = [(7, .deferred (some [])), (8, LO), (0, .cells (some 111) [.fn (.func bf) [] mc]), (3, .cells (some 89) y), (1, .cells (some 89) zc), (4, .cells (some 4) [.lit (.bool fd)])] ∧ ((fd = true ∧ y = cGm r) ∨ (fd = false ∧ y = zc ∧ r = zM)) ∧ bestO better p (r, fd) = some R
  | none => False) := ⟨_, rfl⟩
 refine ⟨ownI J, zkp, ?_, ?_, ?_⟩
 ·rintro v rest Fr H nx hFr ⟨hp, hown, hj⟩
  rw [hJ] at hj
  obtain ⟨p, r, fd, y, hl, rfl, hy, hR⟩ := hj
  cases p with
  | nil => cases hl
  | cons e p =>
  simp only [List.map_cons, List.cons.injEq] at hl
  obtain ⟨rfl, rfl⟩ := hl
  obtain ⟨l7, n7, H7⟩ := hown.head
  obtain ⟨l8, n8, H8⟩ := hown.tail.head
  obtain ⟨l0, n0, H0⟩ := hown.tail.tail.head
  obtain ⟨l3, n3, H3⟩ := hown.tail.tail.tail.head
  obtain ⟨l1, n1, H1⟩ := hown.tail.tail.tail.tail.head
  obtain ⟨l4, n4, H4⟩ := hown.tail.tail.tail.tail.tail.head
  refine zgn mixed (psl := [10]) hLO H8 zhk rfl (by kernel_rfl) (by kernel_rfl) ?_
  intro LB LD hLB hLD
  refine zjc (fun tm => tm 10 = sM e ∧ tm 3 = .ptr 0 0 ∧ tm 4 = .ptr 1 0 ∧ tm 6 = .ptr 3 0 ∧ tm 7 = .ptr 4 0) (by refine ⟨?_, ?_, ?_, ?_, ?_⟩ <;> simp only [zlh, zjk, Tryz.ntmps78, e3, e4, e6, e7, seval]) ?_
  clear e9 e3 e4 e6 e7
  rintro tm ⟨e10, e3, e4, e6, e7⟩
  have m0 : (8 = nx) = False := by simp; omega
  have m1 : (nx = 8) = False := by simp; omega
  have m2 : (3 = nx) = False := by simp; omega
  have m3 : (nx = 3) = False := by simp; omega
  have m4 : (4 = nx) = False := by simp; omega
  have m5 : (nx = 4) = False := by simp; omega
  have m6 : (0 = nx) = False := by simp; omega
  have m7 : (nx = 0) = False := by simp; omega
  have m8 : (7 = nx) = False := by simp; omega
  have m9 : (1 = nx) = False := by simp; omega
  unfold bestO at hR
  rcases hy with ⟨rfl, rfl⟩ | ⟨rfl, rfl, rfl⟩
  ·simp only [cond_true] at hR
   rcases hbt : better e r with _ | t
   ·rw [hbt] at hR; cases hR
   rw [hbt, Option.bind_some] at hR
   simp only [vz, tyf, seval, ua, nm, rg, RStart, e10, e3, e6, e7, H8, H0, H3, H4, Nat.add_zero, m0, m1, m2, m3, m4, m5, m6, m7, m8, m9, Bool.not_true]
   refine ktreeR ?_ (hb e r t hbt) ?_
   ·have h1 : treeL (cGm e) = true := zeo.tree e
    have h2 : treeL (cGm r) = true := zeo.tree r
    show (treeL (cGm e) && (treeL (cGm r) && treeL mc)) = true
    rw [h1, h2, hmt]
    rfl
   cases t with
   | true =>
    simp only [vz, tyf, seval, ua, nm, rg, RStart, e10, e3, e6, e7, H8, H0, H3, H4, Nat.add_zero, m0, m1, m2, m3, m4, m5, m6, m7, m8, m9]
    refine ⟨by simp only [zab, seval], (show nx ≤ nx + 13 by omega), fun γ hγ => ?_, ?_⟩
    ·have gx := hFr γ hγ
     have g8 : γ ≠ 8 := fun e => n8 (e ▸ hγ)
     have g3 : γ ≠ 3 := fun e => n3 (e ▸ hγ)
     have g4 : γ ≠ 4 := fun e => n4 (e ▸ hγ)
     simp only [updH]
     repeat rw [if_neg (by first | assumption | omega)]
    ·simp only [if_true]
     refine ⟨[(7, .deferred (some [])), (8, LO), (0, .cells (some 111) [.fn (.func bf) [] mc]), (3, .cells (some 89) (cGm e)), (1, .cells (some 89) zc), (4, .cells (some 4) [.lit (.bool true)])], Own.cons (show 7 < nx + 13 by omega) n7 ?_ (Own.cons (show 8 < nx + 13 by omega) n8 ?_ (Own.cons (show 0 < nx + 13 by omega) n0 ?_ (Own.cons (show 3 < nx + 13 by omega) n3 ?_ (Own.cons (show 1 < nx + 13 by omega) n1 ?_ (Own.cons (show 4 < nx + 13 by omega) n4 ?_ (Own.nil)))))), ?_⟩
     rotate_left 6
     ·rw [hJ]
      exact ⟨p, e, true, cGm e, rfl, rfl, .inl ⟨rfl, rfl⟩, hR⟩
     all_goals (simp only [zab, seval, H7, H0, H3, H4, H1, Nat.add_zero, m0, m1, m2, m3, m4, m5, m6, m7, m8, m9] <;> rfl)
   | false =>
    simp only [vz, tyf, seval, ua, nm, rg, RStart, e10, e3, e6, e7, H8, H0, H3, H4, Nat.add_zero, m0, m1, m2, m3, m4, m5, m6, m7, m8, m9]
    refine ⟨by simp only [zab, seval], (show nx ≤ nx + 10 by omega), fun γ hγ => ?_, ?_⟩
    ·have gx := hFr γ hγ
     have g8 : γ ≠ 8 := fun e => n8 (e ▸ hγ)
     have g3 : γ ≠ 3 := fun e => n3 (e ▸ hγ)
     have g4 : γ ≠ 4 := fun e => n4 (e ▸ hγ)
     simp only [updH]
     repeat rw [if_neg (by first | assumption | omega)]
    ·simp only [if_true]
     refine ⟨[(7, .deferred (some [])), (8, LO), (0, .cells (some 111) [.fn (.func bf) [] mc]), (3, .cells (some 89) (cGm r)), (1, .cells (some 89) zc), (4, .cells (some 4) [.lit (.bool true)])], Own.cons (show 7 < nx + 10 by omega) n7 ?_ (Own.cons (show 8 < nx + 10 by omega) n8 ?_ (Own.cons (show 0 < nx + 10 by omega) n0 ?_ (Own.cons (show 3 < nx + 10 by omega) n3 ?_ (Own.cons (show 1 < nx + 10 by omega) n1 ?_ (Own.cons (show 4 < nx + 10 by omega) n4 ?_ (Own.nil)))))), ?_⟩
     rotate_left 6
     ·rw [hJ]
      exact ⟨p, r, true, cGm r, rfl, rfl, .inl ⟨rfl, rfl⟩, hR⟩
     all_goals (simp only [zab, seval, H7, H0, H3, H4, H1, Nat.add_zero, m0, m1, m2, m3, m4, m5, m6, m7, m8, m9] <;> rfl)
  ·simp only [cond_false] at hR
   simp only [vz, tyf, seval, ua, nm, rg, RStart, e10, e3, e6, e7, H8, H0, H3, H4, Nat.add_zero, m0, m1, m2, m3, m4, m5, m6, m7, m8, m9, zc_eq, Bool.not_false]
   refine ⟨by simp only [zab, seval], (show nx ≤ nx + 13 by omega), fun γ hγ => ?_, ?_⟩
   ·have gx := hFr γ hγ
    have g8 : γ ≠ 8 := fun e => n8 (e ▸ hγ)
    have g3 : γ ≠ 3 := fun e => n3 (e ▸ hγ)
    have g4 : γ ≠ 4 := fun e => n4 (e ▸ hγ)
    simp only [updH]
    repeat rw [if_neg (by first | assumption | omega)]
   ·simp only [if_true]
    refine ⟨[(7, .deferred (some [])), (8, LO), (0, .cells (some 111) [.fn (.func bf) [] mc]), (3, .cells (some 89) (cGm e)), (1, .cells (some 89) zc), (4, .cells (some 4) [.lit (.bool true)])], Own.cons (show 7 < nx + 13 by omega) n7 ?_ (Own.cons (show 8 < nx + 13 by omega) n8 ?_ (Own.cons (show 0 < nx + 13 by omega) n0 ?_ (Own.cons (show 3 < nx + 13 by omega) n3 ?_ (Own.cons (show 1 < nx + 13 by omega) n1 ?_ (Own.cons (show 4 < nx + 13 by omega) n4 ?_ (Own.nil)))))), ?_⟩
    rotate_left 6
    ·rw [hJ]
     exact ⟨p, e, true, cGm e, rfl, rfl, .inl ⟨rfl, rfl⟩, hR⟩
    all_goals (simp only [zab, seval, H7, H0, H3, H4, H1, Nat.add_zero, m0, m1, m2, m3, m4, m5, m6, m7, m8, m9] <;> rfl)
 ·refine ⟨[(7, .deferred (some [])), (8, LO), (0, .cells (some 111) [.fn (.func bf) [] mc]), (3, .cells (some 89) zc), (1, .cells (some 89) zc), (4, .cells (some 4) [.lit (.bool false)])], Own.cons (show 7 < 9 by omega) (fun h => h) ?_ (Own.cons (show 8 < 9 by omega) (fun h => h) ?_ (Own.cons (show 0 < 9 by omega) (fun h => h) ?_ (Own.cons (show 3 < 9 by omega) (fun h => h) ?_ (Own.cons (show 1 < 9 by omega) (fun h => h) ?_ (Own.cons (show 4 < 9 by omega) (fun h => h) ?_ (Own.nil)))))), ?_⟩
  rotate_left 6
  ·rw [hJ]
   exact ⟨L, zM, false, zc, rfl, rfl, .inr ⟨rfl, rfl, rfl⟩, h⟩
  all_goals (simp only [zab, seval] <;> rfl)
 ·rintro H' nx' (⟨hp, hown, hj⟩ | ⟨hp, hown, hj⟩)
  ·rw [hJ] at hj
   obtain ⟨p, r, fd, y, hl, rfl, hy, hR⟩ := hj
   cases p with
   | cons e p => cases hl
   | nil =>
   simp only [bestO, Option.some.injEq] at hR
   subst hR
   obtain ⟨l7, n7, H7⟩ := hown.head
   obtain ⟨l8, n8, H8⟩ := hown.tail.head
   obtain ⟨l0, n0, H0⟩ := hown.tail.tail.head
   obtain ⟨l3, n3, H3⟩ := hown.tail.tail.tail.head
   obtain ⟨l1, n1, H1⟩ := hown.tail.tail.tail.tail.head
   obtain ⟨l4, n4, H4⟩ := hown.tail.tail.tail.tail.tail.head
   rcases hy with ⟨rfl, rfl⟩ | ⟨rfl, rfl, rfl⟩
   ·refine zgf hLO H8 ?_
    intro LX
    simp only [vz, tyf, seval, ua, nm, rg, e4, e6, e7, H3, H4, H1]
    refine zdz (fun tm => tm 4 = .ptr 1 0 ∧ tm 6 = .ptr 3 0 ∧ tm 7 = .ptr 4 0) ⟨e4, e6, e7⟩ ?_
    clear e9 e3 e4 e6 e7
    rintro tm ⟨e4, e6, e7⟩
    simp only [vz, tyf, seval, ua, nm, rg, e4, e6, e7, H3, H4, H1, zc_eq]
    refine zdt ⟨?_, ?_⟩
    ·simp only [zbx, zcu, zav, zex, and_true, true_and]
     repeat' (first | exact trivial | refine And.intro ?_ ?_ | rw [zav] | rw [zdu] | exact Or.inl (by decide +kernel) | exact Or.inl (by dsimp only; decide +kernel) | (refine Or.inr ⟨?_, ?_⟩ <;> simp; done) | (refine Or.inr ⟨?_, ?_⟩ <;> simp <;> omega) | (refine Or.inr ⟨?_, ?_⟩ <;> simp [VEff.wr] <;> omega))
    simp only [vz, tyf, seval, ua, nm, rg, e4, e6, e7, H3, H4, H1, zc_eq]
    refine zid (by simp only [zab, seval, H7]) ?_
    refine zam (x := .tup [sM r, .lit (.bool true)]) (by simp only [Tryz.results78, resV, resL, resV1, zao, zbi, uw, cr, tyf, nm, seval, e4] <;> rfl) ?_
    have hs := zeo.tree r
    refine zas (by simp only [tre, tytre, hs, Bool.and_self]) ?_
    simp only [outV, nrm, tynrm, seval, List.map_cons, List.map_nil]
   ·refine zgf hLO H8 ?_
    intro LX
    simp only [vz, tyf, seval, ua, nm, rg, e4, e6, e7, H3, H4, H1]
    refine zdz (fun tm => tm 4 = .ptr 1 0 ∧ tm 6 = .ptr 3 0 ∧ tm 7 = .ptr 4 0) ⟨e4, e6, e7⟩ ?_
    clear e9 e3 e4 e6 e7
    rintro tm ⟨e4, e6, e7⟩
    simp only [vz, tyf, seval, ua, nm, rg, e4, e6, e7, H3, H4, H1, zc_eq]
    refine zdt ⟨?_, ?_⟩
    ·simp only [zbx, zcu, zav, zex, and_true, true_and]
     repeat' (first | exact trivial | refine And.intro ?_ ?_ | rw [zav] | rw [zdu] | exact Or.inl (by decide +kernel) | exact Or.inl (by dsimp only; decide +kernel) | (refine Or.inr ⟨?_, ?_⟩ <;> simp; done) | (refine Or.inr ⟨?_, ?_⟩ <;> simp <;> omega) | (refine Or.inr ⟨?_, ?_⟩ <;> simp [VEff.wr] <;> omega))
    simp only [vz, tyf, seval, ua, nm, rg, e4, e6, e7, H3, H4, H1, zc_eq]
    refine zid (by simp only [zab, seval, H7]) ?_
    refine zam (x := .tup [.agg zc, .lit (.bool false)]) (by simp only [Tryz.results78, resV, resL, resV1, zao, zbi, uw, cr, tyf, nm, seval, e4] <;> rfl) ?_
    refine zas (by simp only [zc_eq, tre, tytre, Bool.and_self]) ?_
    simp only [outV, nrm, seval, zc_eq, List.map_cons, List.map_nil, zcz, List.length_nil]
    rfl
  ·rw [hJ] at hj
   exact hj.elim
def zda (x0_x : Gm) : Option (Int) := Option.bind (zbl x0_x 0) (fun r1 => Option.bind (zbl x0_x 1) (fun r2 => Option.bind (zbl x0_x 2) (fun r3 => some (if (if (if 0 < r1 then r1 else 0) < r2 then r2 else (if 0 < r1 then r1 else 0)) < r3 then r3 else (if (if 0 < r1 then r1 else 0) < r2 then r2 else (if 0 < r1 then r1 else 0))))))
theorem zfd (x0_x : Gm) (R : Int) (h : zda x0_x = some R) : VPure Tryz.prog G0 81 [.agg (cGm x0_x)] (.tree (.lit (.int .i64 R))) := by
 refine VPure.runR mixed Tryz.call81 Tryz.func81 rfl (by simp [Tryz.ntmps81]; kernel_rfl) ?_
 obtain ⟨KF, h, kF, kN⟩ := zaj h
 simp only [zda] at h
 simp only [vz, tyf, nm, seval]
 refine zfb mixed (by kernel_rfl) 4 ?_
 obtain ⟨r4, o5, h⟩ := optI h kN
 try simp only [hs] at h
 simp only [vz, tyf, nm, seval]
 refine ktA (zdm _ _ _ o5) ?_
 refine zac (fun tm => tm 1 = .ptr 0 0 ∧ tm 5 = .lit (.int .i64 0) ∧ tm 8 = .lit (.int .i64 0) ∧ tm 11 = .lit (.int .i64 r4) ∧ True) (by refine ⟨?_, ?_, ?_, ?_, trivial⟩ <;> first | (simp only [ua, nm, seval] <;> rfl) | rfl) ?_
 rintro tm ⟨e6, e7, e8, e9, _⟩
 obtain ⟨r10, o11, h⟩ := optI h kN
 try simp only [hs] at h
 simp only [vz, tyf, e6, e7, e8, e9, nm, seval]
 refine ktA (zdm _ _ _ o11) ?_
 refine zac (fun tm => tm 1 = .ptr 0 0 ∧ tm 5 = .lit (.int .i64 1) ∧ tm 8 = .lit (.int .i64 (if 0 < r4 then r4 else 0)) ∧ tm 11 = .lit (.int .i64 r10) ∧ True) (by refine ⟨e6, ?_, ?_, ?_, trivial⟩ <;> first | (simp only [ua, e6, e7, e8, e9, nm, seval] <;> rfl) | rfl) ?_
 rintro tm ⟨e12, e13, e14, e15, _⟩
 obtain ⟨r16, o17, h⟩ := optI h kN
 try simp only [hs] at h
 simp only [vz, tyf, e12, e13, e14, e15, nm, seval]
 refine ktA (zdm _ _ _ o17) ?_
 refine zac (fun tm => tm 1 = .ptr 0 0 ∧ tm 5 = .lit (.int .i64 2) ∧ tm 8 = .lit (.int .i64 (if (if 0 < r4 then r4 else 0) < r10 then r10 else (if 0 < r4 then r4 else 0))) ∧ tm 11 = .lit (.int .i64 r16) ∧ True) (by refine ⟨e12, ?_, ?_, ?_, trivial⟩ <;> first | (simp only [ua, e12, e13, e14, e15, nm, seval] <;> rfl) | rfl) ?_
 rintro tm ⟨e18, e19, e20, e21, _⟩
 try simp only [vz, tyf, e18, e19, e20, e21, nm, seval]
 refine zam (x := (.lit (.int .i64 (if (if (if 0 < r4 then r4 else 0) < r10 then r10 else (if 0 < r4 then r4 else 0)) < r16 then r16 else (if (if 0 < r4 then r4 else 0) < r10 then r10 else (if 0 < r4 then r4 else 0)))))) (by first | (simp only [Tryz.results81, resV, resL, resV1, zao, zbi, uw, cr, tyf, nm, seval] <;> rfl) | rfl) ?_
 obtain rfl := kF _ h
 refine zas ?_ ?_
 ·simp only [tre, tytre, Bool.and_self]
 ·first | (simp only [outV, uw, zad, cr, tyf, nrm, tynrm, e18, e19, e20, e21, nm, seval] <;> rfl) | rfl
def zgz (x0_a : Gm) (x1_b : Gm) : Option (Bool) := Option.bind (zda x0_a) (fun r1 => Option.bind (zda x1_b) (fun r2 => some (decide (r1 < r2))))
theorem zor (x0_a : Gm) (x1_b : Gm) (R : Bool) (h : zgz x0_a x1_b = some R) : VPure Tryz.prog G0 80 [.agg (cGm x0_a), .agg (cGm x1_b)] (.tree (.lit (.bool R))) := by
 refine VPure.runR mixed Tryz.call80 Tryz.func80 rfl (by simp [Tryz.ntmps80]; kernel_rfl) ?_
 obtain ⟨KF, h, kF, kN⟩ := zaj h
 simp only [zgz] at h
 simp only [vz, tyf, nm, seval]
 refine zcq (fun tm => tm 2 = .ptr 0 0 ∧ tm 3 = .ptr 1 0 ∧ True) (by refine ⟨?_, ?_, trivial⟩ <;> first | (simp only [ua, nm, seval] <;> rfl) | rfl) ?_
 rintro tm ⟨e3, e4, _⟩
 obtain ⟨r5, o6, h⟩ := optI h kN
 try simp only [hs] at h
 simp only [vz, tyf, e3, e4, nm, seval]
 refine dktA (zfd _ _ o6) ?_
 refine zac (fun tm => tm 3 = .ptr 1 0 ∧ tm 6 = .lit (.int .i64 r5) ∧ True) (by refine ⟨e4, ?_, trivial⟩ <;> first | (simp only [ua, e3, e4, nm, seval] <;> rfl) | rfl) ?_
 rintro tm ⟨e7, e8, _⟩
 obtain ⟨r9, o10, h⟩ := optI h kN
 try simp only [hs] at h
 simp only [vz, tyf, e7, e8, nm, seval]
 refine dktA (zfd _ _ o10) ?_
 refine zac (fun tm => tm 6 = .lit (.int .i64 r5) ∧ tm 8 = .lit (.int .i64 r9) ∧ True) (by refine ⟨e8, ?_, trivial⟩ <;> first | (simp only [ua, e7, e8, nm, seval] <;> rfl) | rfl) ?_
 rintro tm ⟨e11, e12, _⟩
 try simp only [vz, tyf, e11, e12, nm, seval]
 obtain rfl := kF _ h
 exact zaa Tryz.results80 rfl
def zch  : List Int → Int → (List Int) → Option (LOut (List Int) ((List Int)))
 | [], c0_9, c0_3 => some (.go c0_3)
 | e0 :: p0, c0_9, c0_3 => cond (decide (e0 > 0)) (cond (roomOk 8 (List.length (c0_3 ++ [c0_9]))) (zch p0 (c0_9 + 1) (c0_3 ++ [c0_9])) none) (zch p0 (c0_9 + 1) c0_3)
def zdw (x0_x : Gm) : Option (List Int) := cond (lenOk x0_x.mix) (lbind (zch x0_x.mix 0 ([] : List Int)) (fun r2 => some r2) (fun c1 => some c1) (fun _ _ => none)) none
theorem zdp (x0_x : Gm) (R : List Int) (h : zdw x0_x = some R) : VPure Tryz.prog G0 84 [.agg (cGm x0_x)] (.tree (.sl (cellsL eI R) (List.length R) false)) := by
 refine VPure.runR mixed Tryz.call84 Tryz.func84 rfl (by simp [Tryz.ntmps84]; kernel_rfl) ?_
 obtain ⟨KF, h, kF, kN⟩ := zaj h
 simp only [zdw] at h
 cases g4 : (lenOk x0_x.mix)
 ·simp only [g4, hs] at h
  exact absurd h kN
 simp only [g4, hs] at h
 simp only [vz, tyf, g4, nm, seval]
 obtain ⟨K3, h, kR3, kG3, kB3, kN3⟩ := zau h kN
 obtain ⟨f3, hf3, h⟩ := call3 h
 obtain ⟨I3, hI3⟩ : ∃ I : Nat → St → Prop, I = (fun m st => ∃ (p3 : List Int) (c3_9 : Int) (c3_3 : List Int) (y3_0 : VV), m = List.length p3 ∧ 0 ≤ c3_9 ∧ List.drop (Int.toNat c3_9) x0_x.mix = p3 ∧ st.df = [] ∧ 7 ≤ st.nx ∧ st.tm 7 = .sl (cellsL eI x0_x.mix) (List.length x0_x.mix) false ∧ st.tm 8 = .lit (.int .i64 (List.length x0_x.mix : Int)) ∧ st.tm 3 = y3_0 ∧ st.tm 9 = .lit (.int .i64 c3_9) ∧ ((∃ (β : Nat) (el : Option TypeId), y3_0 = .ref β 0 (List.length c3_3) 1 (List.length c3_3) ∧ β < st.nx ∧ st.H β = some (.cells el (cellsL eI c3_3))) ∨ (y3_0 = .lit (.slice none 0 0) ∧ c3_3 = [])) ∧ K3 (f3 p3 c3_9 c3_3)) := ⟨_, rfl⟩
 refine loopK mixed (by kernel_rfl) I3 (List.length x0_x.mix) (by rw [hI3]; refine ⟨x0_x.mix, 0, ([] : List Int), .lit (.slice none 0 0), rfl, Int.le_refl _, rfl, rfl, (show 7 ≤ 7 by omega), ?_, ?_, ?_, ?_, Or.inr ⟨rfl, rfl⟩, h⟩ <;> first | (simp only [ua, nm, seval] <;> rfl) | rfl) ?_
 rintro m ⟨tm, H, nx3, df⟩ hinv
 rw [hI3] at hinv
 obtain ⟨p3, c3_9, c3_3, y3_0, rfl, hi3, hp3, hdf, hn3, e5, e6, e7, e8, ow3_0, h⟩ := hinv
 simp only at hdf hn3 e5 e6 e7 e8 ow3_0
 have n9 := zcf (m := 7) (b := nx3) (by omega)
 subst hdf hf3
 rcases ow3_0 with ⟨b3_0, el3_0, rfl, lq11, H10⟩ | ⟨rfl, rfl⟩
 ·have q11 := zala lq11
  cases p3 with
  | nil =>
   have d12 : (decide (c3_9 < (List.length x0_x.mix : Int))) = false := zaq hi3 hp3
   simp only [zch, hs, reduceCtorEq] at h
   replace h := kG3 _ h
   try dsimp only at h
   try simp only [hs] at h
   try simp only [vz, tyf, g4, n9, e5, e6, e7, e8, q11, H10, d12, nm, seval]
   refine zam (x := (.ref b3_0 0 (List.length c3_3) 1 (List.length c3_3))) (by first | (simp only [Tryz.results84, resV, resL, resV1, zao, zbi, uw, cr, tyf, g4, n9, q11, H10, d12, nm, seval] <;> rfl) | rfl) ?_
   obtain rfl := kF _ h
   refine zas ?_ ?_
   ·simp only [tre, tytre, Bool.and_self]
   ·first | (simp only [outV, uw, zad, cr, tyf, nrm, tynrm, g4, n9, e5, e6, e7, e8, q11, H10, d12, nm, seval] <;> rfl) | rfl
  | cons e3 p3 =>
   have d13 : (decide (c3_9 < (List.length x0_x.mix : Int))) = true := zbr hi3 hp3
   have o15 := zal hi3 hp3
   have w14 := zcp hi3 hp3 g4
   simp only [zch, hs, reduceCtorEq] at h
   cases d16 : (decide (e3 > 0))
   ·simp only [d16, hs] at h
    have b17 := And.intro g4 (And.intro n9 (And.intro q11 (And.intro H10 (And.intro d13 (And.intro w14 d16)))))
    simp only [vz, tyf, b17, e5, e6, e7, e8, (ix29 o15), nm, seval]
    exact ⟨List.length p3, Nat.lt_succ_self _, by rw [hI3]; refine ⟨p3, c3_9 + 1, c3_3, .ref b3_0 0 (List.length c3_3) 1 (List.length c3_3), rfl, Int.le_trans hi3 (Int.le_add_one (Int.le_refl _)), zaz hi3 hp3, rfl, (show 7 ≤ nx3 + 10 by omega), e5, e6, ?_, ?_, Or.inl ⟨b3_0, el3_0, rfl, (by first | omega | (simp only [nm, seval]; omega)), ?_⟩, h⟩ <;> first | (simp only [ua, b17, e5, e6, e7, e8, nm, seval] <;> rfl) | rfl⟩
   simp only [d16, hs] at h
   have b18 := And.intro g4 (And.intro n9 (And.intro q11 (And.intro H10 (And.intro d13 (And.intro w14 d16)))))
   cases g19 : (roomOk 8 (List.length (c3_3 ++ [c3_9])))
   ·simp only [g19, hs] at h
    exact absurd h kN3
   simp only [g19, hs] at h
   simp only [vz, tyf, b18, e5, e6, e7, e8, (ix29 o15), g19, nm, seval]
   refine k_app (w := 1) (enc := eI) (xs := c3_3) (ys := ([c3_9])) (el := el3_0) (el2 := (some 3)) (fun _ => rfl) lf29 ao29 Tryz.underlying29 (by first | rfl | assumption | (simp only [zab, zak, et29, b18, nm, seval] <;> rfl) | (simp only [zab, zak, zew, zcz, zpe, zkc, tyf, b18, e5, e6, e7, e8, (ix29 o15), g19, nm, seval]; done)) (by first | rfl | assumption | (simp only [zab, zak, et29, b18, nm, seval] <;> rfl) | (simp only [zab, zak, zew, zcz, zpe, zkc, tyf, b18, e5, e6, e7, e8, (ix29 o15), g19, nm, seval]; done)) (Nat.zero_lt_succ _) g19 ?_
   simp only [vz, tyf, b18, e5, e6, e7, e8, (ix29 o15), g19, nm, seval]
   exact ⟨List.length p3, Nat.lt_succ_self _, by rw [hI3]; refine ⟨p3, c3_9 + 1, (c3_3 ++ [c3_9]), .ref (nx3 + 11) 0 (List.length (c3_3 ++ [c3_9])) 1 (List.length (c3_3 ++ [c3_9])), rfl, Int.le_trans hi3 (Int.le_add_one (Int.le_refl _)), zaz hi3 hp3, rfl, (show 7 ≤ nx3 + 15 by omega), e5, e6, ?_, ?_, Or.inl ⟨nx3 + 11, (sameEl el3_0 3), rfl, (by first | omega | (simp only [nm, seval]; omega)), ?_⟩, h⟩ <;> first | (simp only [ua, b18, e5, e6, e7, e8, nm, seval] <;> rfl) | rfl⟩
 ·cases p3 with
  | nil =>
   have d20 : (decide (c3_9 < (List.length x0_x.mix : Int))) = false := zaq hi3 hp3
   simp only [zch, hs, reduceCtorEq] at h
   replace h := kG3 _ h
   try dsimp only at h
   try simp only [hs] at h
   try simp only [vz, tyf, g4, n9, e5, e6, e7, e8, d20, nm, seval]
   refine zam (x := (.lit (.slice none 0 0))) (by first | (simp only [Tryz.results84, resV, resL, resV1, zao, zbi, uw, cr, tyf, g4, n9, d20, nm, seval] <;> rfl) | rfl) ?_
   obtain rfl := kF _ h
   refine zas ?_ ?_
   ·simp only [tre, tytre, Bool.and_self]
   ·first | (simp only [outV, uw, zad, cr, tyf, nrm, tynrm, g4, n9, e5, e6, e7, e8, d20, nm, seval] <;> rfl) | rfl
  | cons e3 p3 =>
   have d21 : (decide (c3_9 < (List.length x0_x.mix : Int))) = true := zbr hi3 hp3
   have o23 := zal hi3 hp3
   have w22 := zcp hi3 hp3 g4
   simp only [zch, hs, reduceCtorEq] at h
   cases d24 : (decide (e3 > 0))
   ·simp only [d24, hs] at h
    simp only [vz, tyf, g4, n9, e5, e6, e7, e8, d21, (ix29 o23), w22, d24, nm, seval]
    exact ⟨List.length p3, Nat.lt_succ_self _, by rw [hI3]; refine ⟨p3, c3_9 + 1, ([] : List Int), .lit (.slice none 0 0), rfl, Int.le_trans hi3 (Int.le_add_one (Int.le_refl _)), zaz hi3 hp3, rfl, (show 7 ≤ nx3 + 10 by omega), e5, e6, ?_, ?_, Or.inr ⟨rfl, rfl⟩, h⟩ <;> first | (simp only [ua, n9, e5, e6, e7, e8, d21, w22, d24, nm, seval] <;> rfl) | rfl⟩
   simp only [d24, hs] at h
   cases g25 : (roomOk 8 (List.length (([] : List Int) ++ [c3_9])))
   ·simp only [g25, hs] at h
    exact absurd h kN3
   simp only [g25, hs] at h
   simp only [vz, tyf, g4, n9, e5, e6, e7, e8, d21, (ix29 o23), w22, d24, g25, nm, seval]
   refine zahi (w := 1) (enc := eI) (ys := ([c3_9])) (el2 := (some 3)) (fun _ => rfl) lf29 ao29 Tryz.underlying29 (by first | rfl | assumption | (simp only [zab, zak, et29, n9, nm, seval] <;> rfl) | (simp only [zab, zak, zew, zcz, zpe, zkc, tyf, g4, n9, e5, e6, e7, e8, d21, (ix29 o23), w22, d24, g25, nm, seval]; done)) (Nat.zero_lt_succ _) g25 ?_
   simp only [vz, tyf, g4, n9, e5, e6, e7, e8, d21, (ix29 o23), w22, d24, g25, nm, seval]
   exact ⟨List.length p3, Nat.lt_succ_self _, by rw [hI3]; refine ⟨p3, c3_9 + 1, (([] : List Int) ++ [c3_9]), .ref (nx3 + 11) 0 (List.length (([] : List Int) ++ [c3_9])) 1 (List.length (([] : List Int) ++ [c3_9])), rfl, Int.le_trans hi3 (Int.le_add_one (Int.le_refl _)), zaz hi3 hp3, rfl, (show 7 ≤ nx3 + 15 by omega), e5, e6, ?_, ?_, Or.inl ⟨nx3 + 11, (some 3), rfl, (by first | omega | (simp only [nm, seval]; omega)), ?_⟩, h⟩ <;> first | (simp only [ua, n9, e5, e6, e7, e8, d21, w22, d24, nm, seval] <;> rfl) | rfl⟩
def zgv (x0_x : Int) : Option (Bool) := some (x0_x != x0_x)
theorem zis (x0_x : Int) (R : Bool) (h : zgv x0_x = some R) : VPure Tryz.prog G0 129 [.lit (.int .i64 x0_x)] (.tree (.lit (.bool R))) := by
 refine VPure.runR mixed Tryz.call129 Tryz.func129 rfl (by simp [Tryz.ntmps129]; kernel_rfl) ?_
 obtain ⟨KF, h, kF, kN⟩ := zaj h
 simp only [zgv] at h
 try simp only [vz, tyf, nm, seval]
 obtain rfl := kF _ h
 exact zaa Tryz.results129 rfl
def zft (x0_x : Int) (x1_y : Int) : Option (Int) := Option.bind (zgv x0_x) (fun r1 => Option.bind (zgv x1_y) (fun r2 => cond (r1) (cond (r2) (some 0) (some (-1))) (cond (r2) (some 1) (cond (decide (x0_x < x1_y)) (some (-1)) (cond (decide (x0_x > x1_y)) (some 1) (some 0))))))
theorem zho (x0_x : Int) (x1_y : Int) (R : Int) (h : zft x0_x x1_y = some R) : VPure Tryz.prog G0 113 [.lit (.int .i64 x0_x), .lit (.int .i64 x1_y)] (.tree (.lit (.int .i64 R))) := by
 refine VPure.runR mixed Tryz.call113 Tryz.func113 rfl (by simp [Tryz.ntmps113]; kernel_rfl) ?_
 obtain ⟨KF, h, kF, kN⟩ := zaj h
 simp only [zft] at h
 obtain ⟨r3, o4, h⟩ := optI h kN
 try simp only [hs] at h
 simp only [vz, tyf, nm, seval]
 refine ktA (zis _ _ o4) ?_
 refine zac (fun tm => tm 0 = .lit (.int .i64 x0_x) ∧ tm 1 = .lit (.int .i64 x1_y) ∧ tm 8 = .lit (.bool r3) ∧ True) (by refine ⟨?_, ?_, ?_, trivial⟩ <;> first | (simp only [ua, nm, seval] <;> rfl) | rfl) ?_
 rintro tm ⟨e5, e6, e7, _⟩
 obtain ⟨r8, o9, h⟩ := optI h kN
 try simp only [hs] at h
 simp only [vz, tyf, e5, e6, e7, nm, seval]
 refine ktA (zis _ _ o9) ?_
 refine zac (fun tm => tm 0 = .lit (.int .i64 x0_x) ∧ tm 1 = .lit (.int .i64 x1_y) ∧ tm 5 = .lit (.bool r3) ∧ tm 10 = .lit (.bool r8) ∧ True) (by refine ⟨e5, e6, ?_, ?_, trivial⟩ <;> first | (simp only [ua, e5, e6, e7, nm, seval] <;> rfl) | rfl) ?_
 rintro tm ⟨e10, e11, e12, e13, _⟩
 cases d14 : (r3)
 ·simp only [d14, hs] at h
  cases d15 : (r8)
  ·simp only [d15, hs] at h
   cases d16 : (decide (x0_x < x1_y))
   ·simp only [d16, hs] at h
    cases d17 : (decide (x0_x > x1_y))
    ·simp only [d17, hs] at h
     try simp only [vz, tyf, e10, e11, e12, e13, d14, d15, d16, d17, nm, seval]
     refine zam (x := (.lit (.int .i64 0))) (by first | (simp only [Tryz.results113, resV, resL, resV1, zao, zbi, uw, cr, tyf, d14, d15, d16, d17, nm, seval] <;> rfl) | rfl) ?_
     obtain rfl := kF _ h
     refine zas ?_ ?_
     ·simp only [tre, tytre, Bool.and_self]
     ·first | (simp only [outV, uw, zad, cr, tyf, nrm, tynrm, e10, e11, e12, e13, d14, d15, d16, d17, nm, seval] <;> rfl) | rfl
    simp only [d17, hs] at h
    try simp only [vz, tyf, e10, e11, e12, e13, d14, d15, d16, d17, nm, seval]
    refine zam (x := (.lit (.int .i64 1))) (by first | (simp only [Tryz.results113, resV, resL, resV1, zao, zbi, uw, cr, tyf, d14, d15, d16, d17, nm, seval] <;> rfl) | rfl) ?_
    obtain rfl := kF _ h
    refine zas ?_ ?_
    ·simp only [tre, tytre, Bool.and_self]
    ·first | (simp only [outV, uw, zad, cr, tyf, nrm, tynrm, e10, e11, e12, e13, d14, d15, d16, d17, nm, seval] <;> rfl) | rfl
   simp only [d16, hs] at h
   try simp only [vz, tyf, e10, e11, e12, e13, d14, d15, d16, nm, seval]
   refine zam (x := (.lit (.int .i64 (-1)))) (by first | (simp only [Tryz.results113, resV, resL, resV1, zao, zbi, uw, cr, tyf, d14, d15, d16, nm, seval] <;> rfl) | rfl) ?_
   obtain rfl := kF _ h
   refine zas ?_ ?_
   ·simp only [tre, tytre, Bool.and_self]
   ·first | (simp only [outV, uw, zad, cr, tyf, nrm, tynrm, e10, e11, e12, e13, d14, d15, d16, nm, seval] <;> rfl) | rfl
  simp only [d15, hs] at h
  try simp only [vz, tyf, e10, e11, e12, e13, d14, d15, nm, seval]
  refine zam (x := (.lit (.int .i64 1))) (by first | (simp only [Tryz.results113, resV, resL, resV1, zao, zbi, uw, cr, tyf, d14, d15, nm, seval] <;> rfl) | rfl) ?_
  obtain rfl := kF _ h
  refine zas ?_ ?_
  ·simp only [tre, tytre, Bool.and_self]
  ·first | (simp only [outV, uw, zad, cr, tyf, nrm, tynrm, e10, e11, e12, e13, d14, d15, nm, seval] <;> rfl) | rfl
 simp only [d14, hs] at h
 cases d18 : (r8)
 ·simp only [d18, hs] at h
  try simp only [vz, tyf, e10, e11, e12, e13, d14, d18, nm, seval]
  refine zam (x := (.lit (.int .i64 (-1)))) (by first | (simp only [Tryz.results113, resV, resL, resV1, zao, zbi, uw, cr, tyf, d14, d18, nm, seval] <;> rfl) | rfl) ?_
  obtain rfl := kF _ h
  refine zas ?_ ?_
  ·simp only [tre, tytre, Bool.and_self]
  ·first | (simp only [outV, uw, zad, cr, tyf, nrm, tynrm, e10, e11, e12, e13, d14, d18, nm, seval] <;> rfl) | rfl
 simp only [d18, hs] at h
 try simp only [vz, tyf, e10, e11, e12, e13, d14, d18, nm, seval]
 refine zam (x := (.lit (.int .i64 0))) (by first | (simp only [Tryz.results113, resV, resL, resV1, zao, zbi, uw, cr, tyf, d14, d18, nm, seval] <;> rfl) | rfl) ?_
 obtain rfl := kF _ h
 refine zas ?_ ?_
 ·simp only [tre, tytre, Bool.and_self]
 ·first | (simp only [outV, uw, zad, cr, tyf, nrm, tynrm, e10, e11, e12, e13, d14, d18, nm, seval] <;> rfl) | rfl
def zgw  : List Int → Int → Option (LOut (Int) (Unit))
 | [], c0_8 => some (.go ())
 | e0 :: p0, c0_8 => cond (e0 != 0) (some (.ret e0)) (zgw p0 (c0_8 + 1))
def zlg (x0_vals : List Int) : Option (Int) := cond (lenOk x0_vals) (lbind (zgw x0_vals 0) (fun r2 => some r2) (fun c1 => some 0) (fun _ _ => none)) none
theorem zps (x0_vals : List Int) (R : Int) (h : zlg x0_vals = some R) : VPure Tryz.prog G0 112 [.sl (cellsL eI x0_vals) (List.length x0_vals) false] (.tree (.lit (.int .i64 R))) := by
 refine VPure.runR mixed Tryz.call112 Tryz.func112 rfl (by simp [Tryz.ntmps112]; kernel_rfl) ?_
 obtain ⟨KF, h, kF, kN⟩ := zaj h
 simp only [zlg] at h
 cases g4 : (lenOk x0_vals)
 ·simp only [g4, hs] at h
  exact absurd h kN
 simp only [g4, hs] at h
 simp only [vz, tyf, g4, nm, seval]
 obtain ⟨K3, h, kR3, kG3, kB3, kN3⟩ := zau h kN
 obtain ⟨f3, hf3, h⟩ := call2 h
 obtain ⟨I3, hI3⟩ : ∃ I : Nat → St → Prop, I = (fun m st => ∃ (p3 : List Int) (c3_8 : Int), m = List.length p3 ∧ 0 ≤ c3_8 ∧ List.drop (Int.toNat c3_8) x0_vals = p3 ∧ st.df = [] ∧ 5 ≤ st.nx ∧ st.tm 3 = .lit (.int .i64 0) ∧ st.tm 6 = .sl (cellsL eI x0_vals) (List.length x0_vals) false ∧ st.tm 7 = .lit (.int .i64 (List.length x0_vals : Int)) ∧ st.tm 8 = .lit (.int .i64 c3_8) ∧ K3 (f3 p3 c3_8)) := ⟨_, rfl⟩
 refine loopK mixed (by kernel_rfl) I3 (List.length x0_vals) (by rw [hI3]; refine ⟨x0_vals, 0, rfl, Int.le_refl _, rfl, rfl, (show 5 ≤ 5 by omega), ?_, ?_, ?_, ?_, h⟩ <;> first | (simp only [ua, nm, seval] <;> rfl) | rfl) ?_
 rintro m ⟨tm, H, nx3, df⟩ hinv
 rw [hI3] at hinv
 obtain ⟨p3, c3_8, rfl, hi3, hp3, hdf, hn3, e5, e6, e7, e8, h⟩ := hinv
 simp only at hdf hn3 e5 e6 e7 e8
 have n9 := zcf (m := 5) (b := nx3) (by omega)
 subst hdf hf3
 cases p3 with
 | nil =>
  have d10 : (decide (c3_8 < (List.length x0_vals : Int))) = false := zaq hi3 hp3
  simp only [zgw, hs, reduceCtorEq] at h
  replace h := kG3 _ h
  try dsimp only at h
  try simp only [hs] at h
  try simp only [vz, tyf, g4, n9, e5, e6, e7, e8, d10, nm, seval]
  refine zam (x := (.lit (.int .i64 0))) (by first | (simp only [Tryz.results112, resV, resL, resV1, zao, zbi, uw, cr, tyf, g4, n9, d10, nm, seval] <;> rfl) | rfl) ?_
  obtain rfl := kF _ h
  refine zas ?_ ?_
  ·simp only [tre, tytre, Bool.and_self]
  ·first | (simp only [outV, uw, zad, cr, tyf, nrm, tynrm, g4, n9, e5, e6, e7, e8, d10, nm, seval] <;> rfl) | rfl
 | cons e3 p3 =>
  have d11 : (decide (c3_8 < (List.length x0_vals : Int))) = true := zbr hi3 hp3
  have o13 := zal hi3 hp3
  have w12 := zcp hi3 hp3 g4
  simp only [zgw, hs, reduceCtorEq] at h
  cases d14 : (e3 != 0)
  ·simp only [d14, hs] at h
   simp only [vz, tyf, g4, n9, e5, e6, e7, e8, d11, (ix29 o13), w12, d14, nm, seval]
   exact ⟨List.length p3, Nat.lt_succ_self _, by rw [hI3]; refine ⟨p3, c3_8 + 1, rfl, Int.le_trans hi3 (Int.le_add_one (Int.le_refl _)), zaz hi3 hp3, rfl, (show 5 ≤ nx3 + 9 by omega), e5, e6, e7, ?_, h⟩ <;> first | (simp only [ua, n9, e5, e6, e7, e8, d11, w12, d14, nm, seval] <;> rfl) | rfl⟩
  simp only [d14, hs] at h
  try simp only [vz, tyf, g4, n9, e5, e6, e7, e8, d11, (ix29 o13), w12, d14, nm, seval]
  refine zam (x := (.lit (.int .i64 e3))) (by first | (simp only [Tryz.results112, resV, resL, resV1, zao, zbi, uw, cr, tyf, g4, n9, d11, (ix29 o13), w12, d14, nm, seval] <;> rfl) | rfl) ?_
  replace h := kR3 _ h
  try dsimp only at h
  obtain rfl := kF _ h
  refine zas ?_ ?_
  ·simp only [tre, tytre, Bool.and_self]
  ·first | (simp only [outV, uw, zad, cr, tyf, nrm, tynrm, g4, n9, e5, e6, e7, e8, d11, (ix29 o13), w12, d14, nm, seval] <;> rfl) | rfl
def zct (x1_s2 : List Int) : List Int → Int → Option (LOut (Int) (Unit))
 | [], c0_11 => some (.go ())
 | e0 :: p0, c0_11 => cond (decide (c0_11 ≥ (List.length x1_s2 : Int))) (some (.ret 1)) (Option.bind (getI x1_s2 c0_11) (fun x1 => Option.bind (zft e0 x1) (fun r2 => cond (r2 != 0) (some (.ret r2)) (zct x1_s2 p0 (c0_11 + 1)))))
def zer (x0_s1 : List Int) (x1_s2 : List Int) : Option (Int) := cond (lenOk x0_s1) (lbind (zct x1_s2 x0_s1 0) (fun r4 => some r4) (fun c3 => cond (decide ((List.length x0_s1 : Int) < (List.length x1_s2 : Int))) (some (-1)) (some 0)) (fun _ _ => none)) none
theorem zhv (x0_s1 : List Int) (x1_s2 : List Int) (R : Int) (h : zer x0_s1 x1_s2 = some R) : VPure Tryz.prog G0 114 [.sl (cellsL eI x0_s1) (List.length x0_s1) false, .sl (cellsL eI x1_s2) (List.length x1_s2) false] (.tree (.lit (.int .i64 R))) := by
 refine VPure.runR mixed Tryz.call114 Tryz.func114 rfl (by simp [Tryz.ntmps114]; kernel_rfl) ?_
 obtain ⟨KF, h, kF, kN⟩ := zaj h
 simp only [zer] at h
 cases g6 : (lenOk x0_s1)
 ·simp only [g6, hs] at h
  exact absurd h kN
 simp only [g6, hs] at h
 simp only [vz, tyf, g6, nm, seval]
 obtain ⟨K5, h, kR5, kG5, kB5, kN5⟩ := zau h kN
 obtain ⟨f5, hf5, h⟩ := call2 h
 obtain ⟨I5, hI5⟩ : ∃ I : Nat → St → Prop, I = (fun m st => ∃ (p5 : List Int) (c5_11 : Int), m = List.length p5 ∧ 0 ≤ c5_11 ∧ List.drop (Int.toNat c5_11) x0_s1 = p5 ∧ st.df = [] ∧ 4 ≤ st.nx ∧ st.tm 0 = .sl (cellsL eI x0_s1) (List.length x0_s1) false ∧ st.tm 1 = .sl (cellsL eI x1_s2) (List.length x1_s2) false ∧ st.tm 9 = .sl (cellsL eI x0_s1) (List.length x0_s1) false ∧ st.tm 10 = .lit (.int .i64 (List.length x0_s1 : Int)) ∧ st.tm 11 = .lit (.int .i64 c5_11) ∧ K5 (f5 p5 c5_11)) := ⟨_, rfl⟩
 refine loopK mixed (by kernel_rfl) I5 (List.length x0_s1) (by rw [hI5]; refine ⟨x0_s1, 0, rfl, Int.le_refl _, rfl, rfl, (show 4 ≤ 4 by omega), ?_, ?_, ?_, ?_, ?_, h⟩ <;> first | (simp only [ua, nm, seval] <;> rfl) | rfl) ?_
 rintro m ⟨tm, H, nx5, df⟩ hinv
 rw [hI5] at hinv
 obtain ⟨p5, c5_11, rfl, hi5, hp5, hdf, hn5, e7, e8, e9, e10, e11, h⟩ := hinv
 simp only at hdf hn5 e7 e8 e9 e10 e11
 have n12 := zcf (m := 4) (b := nx5) (by omega)
 subst hdf hf5
 cases p5 with
 | nil =>
  have d13 : (decide (c5_11 < (List.length x0_s1 : Int))) = false := zaq hi5 hp5
  simp only [zct, hs, reduceCtorEq] at h
  replace h := kG5 _ h
  try dsimp only at h
  try simp only [hs] at h
  cases d14 : (decide ((List.length x0_s1 : Int) < (List.length x1_s2 : Int)))
  ·simp only [d14, hs] at h
   try simp only [vz, tyf, g6, n12, e7, e8, e9, e10, e11, d13, d14, nm, seval]
   refine zam (x := (.lit (.int .i64 0))) (by first | (simp only [Tryz.results114, resV, resL, resV1, zao, zbi, uw, cr, tyf, g6, n12, d13, d14, nm, seval] <;> rfl) | rfl) ?_
   obtain rfl := kF _ h
   refine zas ?_ ?_
   ·simp only [tre, tytre, Bool.and_self]
   ·first | (simp only [outV, uw, zad, cr, tyf, nrm, tynrm, g6, n12, e7, e8, e9, e10, e11, d13, d14, nm, seval] <;> rfl) | rfl
  simp only [d14, hs] at h
  try simp only [vz, tyf, g6, n12, e7, e8, e9, e10, e11, d13, d14, nm, seval]
  refine zam (x := (.lit (.int .i64 (-1)))) (by first | (simp only [Tryz.results114, resV, resL, resV1, zao, zbi, uw, cr, tyf, g6, n12, d13, d14, nm, seval] <;> rfl) | rfl) ?_
  obtain rfl := kF _ h
  refine zas ?_ ?_
  ·simp only [tre, tytre, Bool.and_self]
  ·first | (simp only [outV, uw, zad, cr, tyf, nrm, tynrm, g6, n12, e7, e8, e9, e10, e11, d13, d14, nm, seval] <;> rfl) | rfl
 | cons e5 p5 =>
  have d15 : (decide (c5_11 < (List.length x0_s1 : Int))) = true := zbr hi5 hp5
  have o17 := zal hi5 hp5
  have w16 := zcp hi5 hp5 g6
  simp only [zct, hs, reduceCtorEq] at h
  cases d18 : (decide (c5_11 ≥ (List.length x1_s2 : Int)))
  ·simp only [d18, hs] at h
   obtain ⟨x19, o20, h⟩ := optI h kN5
   try simp only [hs] at h
   obtain ⟨r21, o22, h⟩ := optI h kN5
   try simp only [hs] at h
   simp only [vz, tyf, g6, n12, e7, e8, e9, e10, e11, d15, (ix29 o17), w16, d18, (ix29 o20), nm, seval]
   refine ktA (zho _ _ _ o22) ?_
   refine zac (fun tm => tm 0 = .sl (cellsL eI x0_s1) (List.length x0_s1) false ∧ tm 1 = .sl (cellsL eI x1_s2) (List.length x1_s2) false ∧ tm 9 = .sl (cellsL eI x0_s1) (List.length x0_s1) false ∧ tm 10 = .lit (.int .i64 (List.length x0_s1 : Int)) ∧ tm 11 = .lit (.int .i64 c5_11) ∧ tm 26 = .lit (.int .i64 r21) ∧ True) (by refine ⟨e7, e8, e9, e10, e11, ?_, trivial⟩ <;> first | (simp only [ua, n12, e7, e8, e9, e10, e11, d15, w16, d18, nm, seval] <;> rfl) | rfl) ?_
   rintro tm ⟨e23, e24, e25, e26, e27, e28, _⟩
   cases d29 : (r21 != 0)
   ·simp only [d29, hs] at h
    simp only [vz, tyf, g6, n12, d15, (ix29 o17), w16, d18, (ix29 o20), e23, e24, e25, e26, e27, e28, d29, nm, seval]
    exact ⟨List.length p5, Nat.lt_succ_self _, by rw [hI5]; refine ⟨p5, c5_11 + 1, rfl, Int.le_trans hi5 (Int.le_add_one (Int.le_refl _)), zaz hi5 hp5, rfl, (show 4 ≤ nx5 + 23 by omega), e23, e24, e25, e26, ?_, h⟩ <;> first | (simp only [ua, n12, d15, w16, d18, e23, e24, e25, e26, e27, e28, d29, nm, seval] <;> rfl) | rfl⟩
   simp only [d29, hs] at h
   try simp only [vz, tyf, g6, n12, d15, (ix29 o17), w16, d18, (ix29 o20), e23, e24, e25, e26, e27, e28, d29, nm, seval]
   refine zam (x := (.lit (.int .i64 r21))) (by first | (simp only [Tryz.results114, resV, resL, resV1, zao, zbi, uw, cr, tyf, g6, n12, d15, (ix29 o17), w16, d18, (ix29 o20), d29, nm, seval] <;> rfl) | rfl) ?_
   replace h := kR5 _ h
   try dsimp only at h
   obtain rfl := kF _ h
   refine zas ?_ ?_
   ·simp only [tre, tytre, Bool.and_self]
   ·first | (simp only [outV, uw, zad, cr, tyf, nrm, tynrm, g6, n12, d15, (ix29 o17), w16, d18, (ix29 o20), e23, e24, e25, e26, e27, e28, d29, nm, seval] <;> rfl) | rfl
  simp only [d18, hs] at h
  try simp only [vz, tyf, g6, n12, e7, e8, e9, e10, e11, d15, (ix29 o17), w16, d18, nm, seval]
  refine zam (x := (.lit (.int .i64 1))) (by first | (simp only [Tryz.results114, resV, resL, resV1, zao, zbi, uw, cr, tyf, g6, n12, d15, (ix29 o17), w16, d18, nm, seval] <;> rfl) | rfl) ?_
  replace h := kR5 _ h
  try dsimp only at h
  obtain rfl := kF _ h
  refine zas ?_ ?_
  ·simp only [tre, tytre, Bool.and_self]
  ·first | (simp only [outV, uw, zad, cr, tyf, nrm, tynrm, g6, n12, e7, e8, e9, e10, e11, d15, (ix29 o17), w16, d18, nm, seval] <;> rfl) | rfl
def zdx (x0_a : Gm) (x1_b : Gm) : Option (Bool) := Option.bind (zdw x0_a) (fun r1 => Option.bind (zdw x1_b) (fun r2 => Option.bind (zft (List.length r1 : Int) (List.length r2 : Int)) (fun r3 => Option.bind (zer r1 r2) (fun r4 => Option.bind (zlg ([r3, r4])) (fun r5 => some (decide (r5 < 0)))))))
theorem zjq (x0_a : Gm) (x1_b : Gm) (R : Bool) (h : zdx x0_a x1_b = some R) : VPure Tryz.prog G0 83 [.agg (cGm x0_a), .agg (cGm x1_b)] (.tree (.lit (.bool R))) := by
 refine VPure.runR mixed Tryz.call83 Tryz.func83 rfl (by simp [Tryz.ntmps83]; kernel_rfl) ?_
 obtain ⟨KF, h, kF, kN⟩ := zaj h
 simp only [zdx] at h
 simp only [vz, tyf, nm, seval]
 refine zdz (fun tm => tm 2 = .ptr 0 0 ∧ tm 3 = .ptr 1 0 ∧ True) (by refine ⟨?_, ?_, trivial⟩ <;> first | (simp only [ua, nm, seval] <;> rfl) | rfl) ?_
 rintro tm ⟨e6, e7, _⟩
 obtain ⟨r8, o9, h⟩ := optI h kN
 try simp only [hs] at h
 simp only [vz, tyf, e6, e7, nm, seval]
 refine dktA (zdp _ _ o9) ?_
 refine zac (fun tm => tm 2 = .ptr 0 0 ∧ tm 3 = .ptr 1 0 ∧ tm 6 = .sl (cellsL eI r8) (List.length r8) false ∧ True) (by refine ⟨e6, e7, ?_, trivial⟩ <;> first | (simp only [ua, e6, e7, nm, seval] <;> rfl) | rfl) ?_
 rintro tm ⟨e10, e11, e12, _⟩
 obtain ⟨r13, o14, h⟩ := optI h kN
 try simp only [hs] at h
 simp only [vz, tyf, e10, e11, e12, nm, seval]
 refine dktA (zdp _ _ o14) ?_
 refine zac (fun tm => tm 2 = .ptr 0 0 ∧ tm 3 = .ptr 1 0 ∧ tm 7 = .lit (.int .i64 (List.length r8 : Int)) ∧ tm 9 = .sl (cellsL eI r13) (List.length r13) false ∧ True) (by refine ⟨e10, e11, ?_, ?_, trivial⟩ <;> first | (simp only [ua, e10, e11, e12, nm, seval] <;> rfl) | rfl) ?_
 rintro tm ⟨e15, e16, e17, e18, _⟩
 obtain ⟨r19, o20, h⟩ := optI h kN
 try simp only [hs] at h
 simp only [vz, tyf, e15, e16, e17, e18, nm, seval]
 refine dktA (zho _ _ _ o20) ?_
 refine zac (fun tm => tm 2 = .ptr 0 0 ∧ tm 3 = .ptr 1 0 ∧ tm 11 = .lit (.int .i64 r19) ∧ True) (by refine ⟨e15, e16, ?_, trivial⟩ <;> first | (simp only [ua, e15, e16, e17, e18, nm, seval] <;> rfl) | rfl) ?_
 rintro tm ⟨e21, e22, e23, _⟩
 simp only [vz, tyf, e21, e22, e23, nm, seval]
 refine dktA (zdp _ _ o9) ?_
 refine zac (fun tm => tm 3 = .ptr 1 0 ∧ tm 11 = .lit (.int .i64 r19) ∧ tm 13 = .sl (cellsL eI r8) (List.length r8) false ∧ True) (by refine ⟨e22, e23, ?_, trivial⟩ <;> first | (simp only [ua, e21, e22, e23, nm, seval] <;> rfl) | rfl) ?_
 rintro tm ⟨e24, e25, e26, _⟩
 simp only [vz, tyf, e24, e25, e26, nm, seval]
 refine dktA (zdp _ _ o14) ?_
 refine zac (fun tm => tm 11 = .lit (.int .i64 r19) ∧ tm 13 = .sl (cellsL eI r8) (List.length r8) false ∧ tm 15 = .sl (cellsL eI r13) (List.length r13) false ∧ True) (by refine ⟨e25, e26, ?_, trivial⟩ <;> first | (simp only [ua, e24, e25, e26, nm, seval] <;> rfl) | rfl) ?_
 rintro tm ⟨e27, e28, e29, _⟩
 obtain ⟨r30, o31, h⟩ := optI h kN
 try simp only [hs] at h
 simp only [vz, tyf, e27, e28, e29, nm, seval]
 refine dktA (zhv _ _ _ o31) ?_
 refine zac (fun tm => tm 11 = .lit (.int .i64 r19) ∧ tm 16 = .lit (.int .i64 r30) ∧ True) (by refine ⟨e27, ?_, trivial⟩ <;> first | (simp only [ua, e27, e28, e29, nm, seval] <;> rfl) | rfl) ?_
 rintro tm ⟨e32, e33, _⟩
 obtain ⟨r34, o35, h⟩ := optI h kN
 try simp only [hs] at h
 simp only [vz, tyf, e32, e33, nm, seval]
 refine dkseen1 (w := 1) (enc := eI) (xs := ([r19, r30])) (el := (some 3)) ⟨eI_ok.tree, eI_ok.norm⟩ (fun _ => rfl) (by simp only [List.length_cons, List.length_nil]; decide) (by simp only [zab, zak, et29, nm, seval] <;> rfl) (zps _ _ o35) (by first | rfl | simp only [VV.flat, flatL, Bool.and_self]) ?_
 refine zac (fun tm => tm 18 = .lit (.int .i64 r34) ∧ True) (by refine ⟨?_, trivial⟩ <;> first | (simp only [ua, e32, e33, nm, seval] <;> rfl) | rfl) ?_
 rintro tm ⟨e36, _⟩
 simp only [vz, tyf, e36, nm, seval]
 refine zdt ⟨?_, ?_⟩
 ·simp only [zbx, zcu, zav, zex, and_true, true_and]
  repeat' (first | exact trivial | refine And.intro ?_ ?_ | rw [zav] | rw [zdu] | exact Or.inl (by decide +kernel) | exact Or.inl (by dsimp only; decide +kernel) | (refine Or.inr ⟨?_, ?_⟩ <;> simp; done) | (refine Or.inr ⟨?_, ?_⟩ <;> simp <;> omega) | (refine Or.inr ⟨?_, ?_⟩ <;> simp [VEff.wr] <;> omega))
 try simp only [vz, tyf, e36, nm, seval]
 obtain rfl := kF _ h
 exact zaa Tryz.results83 rfl
theorem ktreeP {P : Program} {G : Glob} {f : FuncId} {args : List VV} {x : VV} {d : Option Tmp} {γ : Nat} {tm : Nat → VV} {H : Nat → Option VObj} {nx : Nat} {df : List VDef} {K : St → Prop} {Qp : VV → St → Prop} (ht : treeL args = true) (hp : VPure P G f args (.tree x)) (h : fin d γ tm H nx df K x .none) : callK P G f args ⟨tm, H, nx, df⟩ d γ K Qp := by
 refine .inl ⟨ht, .tree x, hp, ?_⟩
 rw [← zio (K := K), zbn] at h
 exact h
def zmh (s : Gs) : Option (List Int × Int × Int) := Option.bind (zba s) fun b1 => cond b1
 (Option.bind (zij s) fun L => Option.bind (bestO zgz L (zM, false)) fun r => Option.bind (zda r.1) fun n => some (r.1.mix, n, 0))
 (some ([], 0, 2))
theorem zrp (s : Gs) (R : List Int × Int × Int) (h : zmh s = some R) : VPure Tryz.prog G0 50 [.agg (cGs s)] (.tree (.tup [.sl (cellsL eI R.1) (List.length R.1) false, .lit (.int .i64 R.2.1), .lit (.int .i64 R.2.2)])) := by
 refine VPure.runR mixed Tryz.call50 Tryz.func50 rfl (by simp [Tryz.ntmps50]; kernel_rfl) ?_
 unfold zmh at h
 rcases o0 : zba s with _ | b
 ·rw [o0] at h; cases h
 rw [o0, Option.bind_some] at h
 simp only [vz, tyf, seval, ua, rg]
 refine ktA (zbs _ _ o0) ?_
 cases b with
 | false =>
  simp only [cond_false, Option.some.injEq] at h
  subst h
  simp only [vz, tyf, seval, ua, rg, Bool.not_false]
  refine zam (x := .tup [.lit (.slice none 0 0), .lit (.int .i64 0), .lit (.int .i64 2)]) (by simp only [Tryz.results50, resV, resL, resV1, zao, zbi, uw, cr, tyf, nm, seval] <;> rfl) ?_
  refine zas (by simp only [tre, tytre]; rfl) ?_
  simp only [outV, nrm, seval, List.map_cons, List.map_nil, zcz, List.length_nil]
 | true =>
 rw [cond_true] at h
 rcases o2 : zij s with _ | L
 ·rw [o2] at h; cases h
 rw [o2, Option.bind_some] at h
 rcases o6 : bestO zgz L (zM, false) with _ | r
 ·rw [o6] at h; cases h
 rw [o6, Option.bind_some] at h
 rcases o7 : zda r.1 with _ | n
 ·rw [o7] at h; cases h
 rw [o7, Option.bind_some, Option.some.injEq] at h
 have hbo := zyl (bf := 80) (mc := []) (znb s L o2) rfl (better := zgz) (fun a b t ht => zor a b t ht) r o6
 simp only [vz, tyf, seval, ua, rg, Bool.not_true]
 refine ktA (zqk s) ?_
 simp only [vz, tyf, seval, ua, rg]
 refine ktreeP (by simp only [zie, zmb, zpa]; rfl) hbo ?_
 simp only [vz, tyf, seval, ua, rg]
 refine zcq (fun tm => tm 5 = .ptr 13 0) (by simp only [ua, seval]) ?_
 intro tm e5
 simp only [vz, tyf, seval, ua, rg, e5]
 refine dktA (zfd _ _ o7) ?_
 simp only [vz, tyf, seval, ua, rg, e5]
 subst h
 refine zam (x := .tup [.sl (cellsL eI r.1.mix) r.1.mix.length false, .lit (.int .i64 n), .lit (.int .i64 0)]) (by simp only [Tryz.results50, resV, resL, resV1, zao, zbi, uw, cr, tyf, nm, seval] <;> rfl) ?_
 refine zas (by simp only [tre, tytre, Bool.and_self]) ?_
 simp only [outV, nrm, seval, List.map_cons, List.map_nil]
def zli (s : Gs) : Option (List Int × Int) := Option.bind (zba s) fun b1 => cond b1
 (Option.bind (zmu s) fun L => Option.bind (bestO zdx L (zM, false)) fun r => cond r.2 (Option.bind (zdw r.1) fun n => some (n, 0)) (some ([], 5)))
 (some ([], 2))
theorem zpp (s : Gs) (R : List Int × Int) (h : zli s = some R) : VPure Tryz.prog G0 55 [.agg (cGs s)] (.tree (.tup [.sl (cellsL eI R.1) (List.length R.1) false, .lit (.int .i64 R.2)])) := by
 refine VPure.runR mixed Tryz.call55 Tryz.func55 rfl (by simp [Tryz.ntmps55]; kernel_rfl) ?_
 unfold zli at h
 rcases o0 : zba s with _ | b
 ·rw [o0] at h; cases h
 rw [o0, Option.bind_some] at h
 simp only [vz, tyf, seval, ua, rg]
 refine ktA (zbs _ _ o0) ?_
 cases b with
 | false =>
  simp only [cond_false, Option.some.injEq] at h
  subst h
  simp only [vz, tyf, seval, ua, rg, Bool.not_false]
  refine zam (x := .tup [.lit (.slice none 0 0), .lit (.int .i64 2)]) (by simp only [Tryz.results55, resV, resL, resV1, zao, zbi, uw, cr, tyf, nm, seval] <;> rfl) ?_
  refine zas (by simp only [tre, tytre]; rfl) ?_
  simp only [outV, nrm, seval, List.map_cons, List.map_nil, zcz, List.length_nil]
 | true =>
 rw [cond_true] at h
 rcases o2 : zmu s with _ | L
 ·rw [o2] at h; cases h
 rw [o2, Option.bind_some] at h
 rcases o6 : bestO zdx L (zM, false) with _ | r
 ·rw [o6] at h; cases h
 rw [o6, Option.bind_some] at h
 obtain ⟨hp, hi⟩ := zads s L o2
 have hbo := zyl (bf := 83) (mc := []) hi rfl (better := zdx) (fun a b t ht => zjq a b t ht) r o6
 simp only [vz, tyf, seval, ua, rg, Bool.not_true]
 refine ktA hp ?_
 simp only [vz, tyf, seval, ua, rg]
 refine ktreeP (by simp only [zie, zmb, zuw]; rfl) hbo ?_
 simp only [vz, tyf, seval, ua, rg]
 obtain ⟨r1, r2⟩ := r
 cases r2 with
 | false =>
  simp only [cond_false, Option.some.injEq] at h
  subst h
  simp only [vz, tyf, seval, nm, ua, rg, Bool.not_false]
  refine zam (x := .tup [.lit (.slice none 0 0), .lit (.int .i64 5)]) (by simp only [Tryz.results55, resV, resL, resV1, zao, zbi, uw, cr, tyf, nm, seval] <;> rfl) ?_
  refine zas (by simp only [tre, tytre]; rfl) ?_
  simp only [outV, nrm, seval, List.map_cons, List.map_nil, zcz, List.length_nil]
 | true =>
  simp only [cond_true] at h
  rcases o7 : zdw r1 with _ | n
  ·rw [o7] at h; cases h
  rw [o7, Option.bind_some, Option.some.injEq] at h
  subst h
  simp only [vz, tyf, seval, nm, ua, rg, Bool.not_true]
  refine ktA (zdp _ _ o7) ?_
  simp only [vz, tyf, seval, nm, ua, rg]
  refine zam (x := .tup [.sl (cellsL eI n) n.length false, .lit (.int .i64 0)]) (by simp only [Tryz.results55, resV, resL, resV1, zao, zbi, uw, cr, tyf, nm, seval] <;> rfl) ?_
  refine zas (by simp only [tre, tytre, Bool.and_self]) ?_
  simp only [outV, nrm, seval, List.map_cons, List.map_nil]
def zeh (x0_a0 : List Int) (x1_a1 : Int) : Option (Bool) := some true
theorem zjb (x0_a0 : List Int) (x1_a1 : Int) (R : Bool) (h : zeh x0_a0 x1_a1 = some R) : VPure Tryz.prog G0 124 [.sl (cellsL eI x0_a0) (List.length x0_a0) false, .lit (.int .i64 x1_a1)] (.tree (.lit (.bool R))) := by
 refine VPure.runR mixed Tryz.call124 Tryz.func124 rfl (by simp [Tryz.ntmps124]; kernel_rfl) ?_
 obtain ⟨KF, h, kF, kN⟩ := zaj h
 simp only [zeh] at h
 try simp only [vz, tyf, nm, seval]
 obtain rfl := kF _ h
 exact zaa Tryz.results124 rfl
abbrev sD (x : Gi) : VV := .agg (cGi x)
def dirL : List (List Int) → Option (List Gi)
 | [] => some []
 | [a, b, c] :: L => Option.bind (dirL L) fun r => some (⟨IntKind.i64.wrap (a - 2), IntKind.i64.wrap (b - 2), IntKind.i64.wrap (c - 2)⟩ :: r)
 | _ => none
def zyi : Option (List Gi) := Option.bind (listsO (fun l j => zeh l j) 5 3 []) dirL
def itD : VV := .fn (.func 123) [] []
def itDL : VV := .fn (.func 138) [] [.tp [.lit (.int .i64 3)], .tp [.lit (.int .i64 5)], .tp [.fn (.func 124) [] []]]
theorem zaou : VPure Tryz.prog G0 104 [] (.tree itD) := by
 refine VPure.run mixed Tryz.call104 Tryz.func104 rfl (by simp [Tryz.ntmps104]; kernel_rfl) ?_
 simp only [vz, tyf, seval, ua, rg]
 exact ⟨rfl, itD, by simp [Tryz.results104, resV, resL, resV1, upd]; rfl, 20, rfl⟩
theorem zahu {e : List Int} {p : List (List Int)} {r : List Gi} (h : dirL (e :: p) = some r) : ∃ a b c r', e = [a, b, c] ∧ dirL p = some r' ∧ r = ⟨IntKind.i64.wrap (a - 2), IntKind.i64.wrap (b - 2), IntKind.i64.wrap (c - 2)⟩ :: r' := by
 match e, h with
 | [a, b, c], h =>
  simp only [dirL] at h
  rcases hr : dirL p with _ | r'
  ·rw [hr] at h; cases h
  rw [hr, Option.bind_some, Option.some.injEq] at h
  exact ⟨a, b, c, r', rfl, rfl, h.symm⟩
 | [], h => cases h
 | [_], h => cases h
 | [_, _], h => cases h
 | _ :: _ :: _ :: _ :: _, h => cases h
theorem zagg (R : List Gi) (h : zyi = some R) : Iter Tryz.prog G0 itD (R.map sD) := by
 unfold zyi at h
 rcases hL : listsO (fun l j => zeh l j) 5 3 [] with _ | L
 ·rw [hL] at h; cases h
 rw [hL, Option.bind_some] at h
 have hit : Iter Tryz.prog G0 itDL (L.map sI) := ztg (ln := 3) (lim := 5) (mc := []) rfl (by omega) (by omega) (by omega) hL (fun p j b hb => zjb p j b hb)
 refine ⟨123, [], [], rfl, fun β I hst hr H nx hβ hI => ?_⟩
 refine VOpen.run mixed Tryz.call123 Tryz.func123 rfl (by simp [Tryz.ntmps123]; kernel_rfl) ?_
 simp only [List.nil_append, List.cons_append, argsTm1, vz, tyf, seval, ua, rg]
 refine ktree (args0 := [.lit (.int .i64 3), .lit (.int .i64 5), .fn (.func 124) [] []]) (by simp only [nrm, tynrm, zadg] <;> rfl) rfl (zaef (mc := []) (mf := 124) rfl) ?_
 simp only [vz, tyf, seval, ua, rg]
 refine zmn (fun tm => tm 5 = itDL ∧ tm 1 = .ptr nx 0) (by refine ⟨?_, ?_⟩ <;> simp only [ua, seval, Nat.add_zero] <;> rfl) ?_
 rintro tm ⟨e5, e1⟩
 refine zhs hit (by first | (simp only [zpg, zjx, e5, zfs, seval] <;> rfl) | rfl) ?_
 intro LO hLO
 obtain ⟨J, hJ⟩ : ∃ J : Option (List VV) → Option (List VV) → List (Nat × VObj) → Prop, J = (fun o o' hp => match o with
  | some l => ∃ (p : List (List Int)) (L2 : List Gi), l = p.map sI ∧ dirL p = some L2 ∧ o' = some (L2.map sD) ∧ hp = [(nx, .cells (some 162) [.yl β]), (nx + 4, .deferred (some [])), (nx + 5, LO)]
  | none => ∃ LD : Code → VObj, (∃ tml ps az bo d, LD = fun c => VObj.loop .done (some c) tml ps az bo d) ∧ o' = none ∧ hp = [(nx, .cells (some 162) [.yl β]), (nx + 4, .deferred (some [])), (nx + 5, LD .ret)]) := ⟨_, rfl⟩
 have hfr : ∀ (O : VObj) γ, (∃ q ∈ [(nx, .cells (some 162) [.yl β]), (nx + 4, .deferred (some [])), (nx + 5, O)], (q : Nat × VObj).1 = γ) ↔ γ = nx ∨ γ = nx + 4 ∨ γ = nx + 5 := by
  intro O γ
  simp [eq_comm]
 refine ⟨ownI2 I J, zln hst, ?_, ?_, ?_⟩
 ·rintro v rest Fr H1 nx1 hFr ⟨hp, o', hown, hj, hi⟩
  rw [hJ] at hj
  obtain ⟨p, L2, hl, hf, rfl, rfl⟩ := hj
  cases p with
  | nil => cases hl
  | cons e p =>
  simp only [List.map_cons, List.cons.injEq] at hl
  obtain ⟨rfl, rfl⟩ := hl
  obtain ⟨a, b, c, L3, rfl, hf2, rfl⟩ := zahu hf
  obtain ⟨la, na, Ha⟩ := hown.head
  obtain ⟨lb, nb, Hb⟩ := hown.tail.head
  obtain ⟨lc, nc, Hc⟩ := hown.tail.tail.head
  simp only [hfr] at hi
  refine zgn mixed (psl := [6]) hLO Hc zhk rfl (by kernel_rfl) (by kernel_rfl) ?_
  intro LB LD hLB hLD
  refine zjc (fun tm => tm 6 = sI [a, b, c] ∧ tm 1 = .ptr nx 0) (by refine ⟨?_, ?_⟩ <;> simp only [zlh, zjk, Tryz.ntmps123, e1, seval]) ?_
  clear e5 e1
  rintro tm ⟨e6, e1⟩
  have i0 : getI [a, b, c] 0 = some a := rfl
  have i1 : getI [a, b, c] 1 = some b := rfl
  have i2 : getI [a, b, c] 2 = some c := rfl
  have hne : (nx = nx + 5) = False := by simp
  simp only [vz, tyf, seval, ua, nm, rg, RStart, e6, e1, Ha, Hc, hne]
  refine zmn (fun tm => tm 3 = sI [a, b, c] ∧ tm 1 = .ptr nx 0) (by refine ⟨?_, ?_⟩ <;> simp only [ua, seval, e6, e1]) ?_
  clear e6 e1
  rintro tm ⟨e3, e1⟩
  refine zyp mixed 14 rfl rfl rfl (by kernel_rfl) ?_
  simp only [vz, tyf, seval, ua, nm, rg, e3, e1, Ha, hne, (ix29 i0), (ix29 i1), (ix29 i2)]
  obtain ⟨D, hD⟩ : ∃ D : Gi, D = ⟨IntKind.i64.wrap (a - 2), IntKind.i64.wrap (b - 2), IntKind.i64.wrap (c - 2)⟩ := ⟨_, rfl⟩
  rw [← hD] at hi
  have hDc : sD D = VV.agg [.lit (.int .i64 (IntKind.i64.wrap (a - 2))), .lit (.int .i64 (IntKind.i64.wrap (b - 2))), .lit (.int .i64 (IntKind.i64.wrap (c - 2)))] := by rw [hD]; rfl
  rw [← hDc]
  have hi2 : I (some (sD D :: L3.map sD)) (fun γ => Fr γ ∨ γ = nx ∨ γ = nx + 4 ∨ γ = nx + 5) (updH H1 (nx + 5) LB) (nx1 + 17) := by
   refine hst _ _ _ _ _ _ _ hi ?_ (by omega) (fun γ h => .inl h)
   intro γ _ hn
   have g3 : γ ≠ nx + 5 := fun e => hn (.inr (.inr (.inr e)))
   simp only [updH]
   rw [if_neg g3]
  refine (hr (sD D) (L3.map sD) _ _ _ ?_ hi2) (some (some (nx + 5))) _ _ _ rfl rfl ?_
  ·rintro γ (hγ | rfl | rfl | rfl)
   ·have := hFr γ hγ; omega
   ·omega
   ·omega
   ·omega
  rintro t H2 nx2 ⟨q1, q2, q3⟩
  have Ka : H2 nx = some (.cells (some 162) [.yl β]) := by
   rw [q2 nx (.inr (.inl rfl))]
   simp only [updH]
   rw [if_neg (by omega)]
   exact Ha
  have Kb : H2 (nx + 4) = some (.deferred (some [])) := by
   rw [q2 _ (.inr (.inr (.inl rfl)))]
   simp only [updH]
   rw [if_neg (by omega)]
   exact Hb
  have Kc : H2 (nx + 5) = some LB := by
   rw [q2 _ (.inr (.inr (.inr rfl)))]
   simp only [zab, seval]
  have KF : ∀ γ, Fr γ → H2 γ = H1 γ := by
   intro γ hγ
   have g3 : γ ≠ nx + 5 := fun e => nc (e ▸ hγ)
   rw [q2 γ (.inl hγ)]
   simp only [updH]
   rw [if_neg g3]
  have KO : ∀ (O : VObj), Own [(nx, .cells (some 162) [.yl β]), (nx + 4, .deferred (some [])), (nx + 5, O)] Fr (updH H2 (nx + 5) O) nx2 := by
   intro O
   refine Own.cons (show nx < nx2 by omega) na ?_ (Own.cons (show nx + 4 < nx2 by omega) nb ?_ (Own.cons (show nx + 5 < nx2 by omega) nc ?_ Own.nil))
   ·simp only [updH]
    rw [if_neg (by omega)]
    exact Ka
   ·simp only [updH]
    rw [if_neg (by omega)]
    exact Kb
   ·simp only [zab, seval]
  cases t with
  | true =>
   simp only [vz, tyf, seval, ua, nm, rg, Bool.not_true]
   refine ⟨Kc, (show nx1 ≤ nx2 by omega), fun γ hγ => ?_, ?_⟩
   ·have g3 : γ ≠ nx + 5 := fun e => nc (e ▸ hγ)
    simp only [updH]
    rw [if_neg g3]
    exact KF γ hγ
   ·simp only [if_true] at q3 ⊢
    refine ⟨_, _, KO LO, by rw [hJ]; exact ⟨p, L3, rfl, hf2, rfl, rfl⟩, ?_⟩
    simp only [hfr]
    refine hst _ _ _ _ _ _ _ q3 ?_ (by omega) (fun γ h => .inl h)
    intro γ _ hn
    have g3 : γ ≠ nx + 5 := fun e => hn (.inr (.inr (.inr e)))
    simp only [updH]
    rw [if_neg g3]
  | false =>
   simp only [vz, tyf, seval, ua, nm, rg, Bool.not_false]
   refine ⟨Kc, (show nx1 ≤ nx2 by omega), fun γ hγ => ?_, ?_⟩
   ·have g3 : γ ≠ nx + 5 := fun e => nc (e ▸ hγ)
    simp only [updH]
    rw [if_neg g3]
    exact KF γ hγ
   ·simp only [Bool.false_eq_true, if_false] at q3 ⊢
    refine ⟨_, _, KO (LD .ret), by rw [hJ]; exact ⟨LD, ⟨_, _, _, _, _, hLD⟩, rfl, rfl⟩, ?_⟩
    simp only [hfr]
    refine hst _ _ _ _ _ _ _ q3 ?_ (by omega) (fun γ h => .inl h)
    intro γ _ hn
    have g3 : γ ≠ nx + 5 := fun e => hn (.inr (.inr (.inr e)))
    simp only [updH]
    rw [if_neg g3]
 ·refine ⟨_, _, ?_, by rw [hJ]; exact ⟨L, R, rfl, h, rfl, rfl⟩, ?_⟩
  ·refine Own.cons (show nx < nx + 4 + 2 by omega) (fun h => h) ?_ (Own.cons (show nx + 4 < nx + 4 + 2 by omega) (fun h => h) ?_ (Own.cons (show nx + 5 < nx + 4 + 2 by omega) (fun h => h) ?_ Own.nil))
   ·simp only [updH]
    rw [if_neg (by omega), if_neg (by omega)]
    simp
   ·simp only [updH]
    simp
   ·simp only [updH]
    simp
  ·simp only [hfr]
   refine hst _ _ _ _ _ _ _ hI ?_ (by omega) ?_
   ·intro γ hγ _
    simp only [updH]
    repeat rw [if_neg (by omega)]
   ·rintro γ (h | rfl | rfl | rfl)
    ·exact h.elim
    ·right; omega
    ·right; omega
    ·right; omega
 ·rintro H' nx' (⟨hp, o', hown, hj, hi⟩ | ⟨hp, o', hown, hj, hi⟩)
  ·rw [hJ] at hj
   obtain ⟨p, L2, hl, hf, rfl, rfl⟩ := hj
   cases p with
   | cons e p => cases hl
   | nil =>
   simp only [dirL, Option.some.injEq] at hf
   subst hf
   obtain ⟨la, na, Ha⟩ := hown.head
   obtain ⟨lb, nb, Hb⟩ := hown.tail.head
   obtain ⟨lc, nc, Hc⟩ := hown.tail.tail.head
   simp only [hfr] at hi
   refine zgf hLO Hc ?_
   intro LX
   simp only [vz, tyf, seval, ua, nm, rg]
   refine zsd (by simp only [zab, nm, seval, Hb]) ?_
   refine zjr (x := .tup []) (by simp [Tryz.results123, resV, resL]) (.inl ?_)
   refine hst _ _ _ _ _ _ _ hi ?_ (Nat.le_refl _) (fun γ h => h.elim)
   intro γ _ hn
   have g2 : γ ≠ nx + 4 := fun e => hn (.inr (.inr (.inl e)))
   have g3 : γ ≠ nx + 5 := fun e => hn (.inr (.inr (.inr e)))
   simp only [updH]
   repeat rw [if_neg (by first | assumption | omega)]
  ·rw [hJ] at hj
   obtain ⟨LD, ⟨tml, ps, az, bo, d, hLD⟩, rfl, rfl⟩ := hj
   obtain ⟨la, na, Ha⟩ := hown.head
   obtain ⟨lb, nb, Hb⟩ := hown.tail.head
   obtain ⟨lc, nc, Hc⟩ := hown.tail.tail.head
   simp only [hfr] at hi
   refine zhq hLD Hc ?_
   intro LX
   simp only [vz, tyf, seval, ua, nm, rg]
   refine zid (by simp only [zab, nm, seval, Hb]) ?_
   refine zam (x := .tup []) (by simp [Tryz.results123, resV, resL]) (.inr ?_)
   refine hst _ _ _ _ _ _ _ hi ?_ (Nat.le_refl _) (fun γ h => h.elim)
   intro γ _ hn
   have g2 : γ ≠ nx + 4 := fun e => hn (.inr (.inr (.inl e)))
   have g3 : γ ≠ nx + 5 := fun e => hn (.inr (.inr (.inr e)))
   simp only [updH]
   repeat rw [if_neg (by first | assumption | omega)]
def zby (x0_d : Gi) (x1_amounts : Ga) : Option (GSpan) := some (GSpan.mk (IntKind.i64.wrap ((IntKind.i64.wrap ((IntKind.i64.wrap (0 + (if (IntKind.i64.wrap (x0_d.a0 * x1_amounts.a0.High)) < (IntKind.i64.wrap (x0_d.a0 * x1_amounts.a0.Low)) then (IntKind.i64.wrap (x0_d.a0 * x1_amounts.a0.High)) else (IntKind.i64.wrap (x0_d.a0 * x1_amounts.a0.Low))))) + (if (IntKind.i64.wrap (x0_d.a1 * x1_amounts.a1.High)) < (IntKind.i64.wrap (x0_d.a1 * x1_amounts.a1.Low)) then (IntKind.i64.wrap (x0_d.a1 * x1_amounts.a1.High)) else (IntKind.i64.wrap (x0_d.a1 * x1_amounts.a1.Low))))) + (if (IntKind.i64.wrap (x0_d.a2 * x1_amounts.a2.High)) < (IntKind.i64.wrap (x0_d.a2 * x1_amounts.a2.Low)) then (IntKind.i64.wrap (x0_d.a2 * x1_amounts.a2.High)) else (IntKind.i64.wrap (x0_d.a2 * x1_amounts.a2.Low))))) (IntKind.i64.wrap ((IntKind.i64.wrap ((IntKind.i64.wrap (0 + (if (IntKind.i64.wrap (x0_d.a0 * x1_amounts.a0.Low)) < (IntKind.i64.wrap (x0_d.a0 * x1_amounts.a0.High)) then (IntKind.i64.wrap (x0_d.a0 * x1_amounts.a0.High)) else (IntKind.i64.wrap (x0_d.a0 * x1_amounts.a0.Low))))) + (if (IntKind.i64.wrap (x0_d.a1 * x1_amounts.a1.Low)) < (IntKind.i64.wrap (x0_d.a1 * x1_amounts.a1.High)) then (IntKind.i64.wrap (x0_d.a1 * x1_amounts.a1.High)) else (IntKind.i64.wrap (x0_d.a1 * x1_amounts.a1.Low))))) + (if (IntKind.i64.wrap (x0_d.a2 * x1_amounts.a2.Low)) < (IntKind.i64.wrap (x0_d.a2 * x1_amounts.a2.High)) then (IntKind.i64.wrap (x0_d.a2 * x1_amounts.a2.High)) else (IntKind.i64.wrap (x0_d.a2 * x1_amounts.a2.Low))))))
theorem zfn (x0_d : Gi) (x1_amounts : Ga) (R : GSpan) (h : zby x0_d x1_amounts = some R) : VPure Tryz.prog G0 105 [.agg (cGi x0_d), .agg (cGa x1_amounts)] (.tree (.agg (cGSpan R))) := by
 refine VPure.runR mixed Tryz.call105 Tryz.func105 rfl (by simp [Tryz.ntmps105]; kernel_rfl) ?_
 obtain ⟨KF, h, kF, kN⟩ := zaj h
 simp only [zby] at h
 simp only [vz, tyf, nm, seval]
 refine zfb mixed (by kernel_rfl) 4 ?_
 simp only [vz, tyf, nm, seval]
 refine zcq (fun tm => tm 3 = .ptr 1 0 ∧ tm 4 = .ptr 2 0 ∧ tm 5 = .ptr 3 0 ∧ tm 6 = .lit (.int .i64 0) ∧ tm 7 = .lit (.int .i64 x0_d.a0) ∧ tm 10 = .agg (cGi x0_d) ∧ tm 11 = .lit (.int .i64 0) ∧ True) (by refine ⟨?_, ?_, ?_, ?_, ?_, ?_, ?_, trivial⟩ <;> first | (simp only [ua, nm, seval] <;> rfl) | rfl) ?_
 rintro tm ⟨e1, e2, e3, e4, e5, e6, e7, _⟩
 simp only [vz, tyf, e1, e2, e3, e4, e5, e6, e7, nm, seval]
 refine zcq (fun tm => tm 3 = .ptr 1 0 ∧ tm 4 = .ptr 2 0 ∧ tm 5 = .ptr 3 0 ∧ tm 6 = .lit (.int .i64 1) ∧ tm 7 = .lit (.int .i64 x0_d.a1) ∧ tm 10 = .agg (cGi x0_d) ∧ tm 11 = .lit (.int .i64 1) ∧ True) (by refine ⟨e1, e2, e3, ?_, ?_, e6, ?_, trivial⟩ <;> first | (simp only [ua, e1, e2, e3, e4, e5, e6, e7, nm, seval] <;> rfl) | rfl) ?_
 rintro tm ⟨e8, e9, e10, e11, e12, e13, e14, _⟩
 simp only [vz, tyf, e8, e9, e10, e11, e12, e13, e14, nm, seval]
 refine zcq (fun tm => tm 3 = .ptr 1 0 ∧ tm 4 = .ptr 2 0 ∧ tm 5 = .ptr 3 0 ∧ tm 6 = .lit (.int .i64 2) ∧ tm 7 = .lit (.int .i64 x0_d.a2) ∧ tm 10 = .agg (cGi x0_d) ∧ tm 11 = .lit (.int .i64 2) ∧ True) (by refine ⟨e8, e9, e10, ?_, ?_, e13, ?_, trivial⟩ <;> first | (simp only [ua, e8, e9, e10, e11, e12, e13, e14, nm, seval] <;> rfl) | rfl) ?_
 rintro tm ⟨e15, e16, e17, e18, e19, e20, e21, _⟩
 try simp only [vz, tyf, e15, e16, e17, e18, e19, e20, e21, nm, seval]
 refine zam (x := (.agg ([.lit (.int .i64 (IntKind.i64.wrap ((IntKind.i64.wrap ((IntKind.i64.wrap (0 + (if (IntKind.i64.wrap (x0_d.a0 * x1_amounts.a0.High)) < (IntKind.i64.wrap (x0_d.a0 * x1_amounts.a0.Low)) then (IntKind.i64.wrap (x0_d.a0 * x1_amounts.a0.High)) else (IntKind.i64.wrap (x0_d.a0 * x1_amounts.a0.Low))))) + (if (IntKind.i64.wrap (x0_d.a1 * x1_amounts.a1.High)) < (IntKind.i64.wrap (x0_d.a1 * x1_amounts.a1.Low)) then (IntKind.i64.wrap (x0_d.a1 * x1_amounts.a1.High)) else (IntKind.i64.wrap (x0_d.a1 * x1_amounts.a1.Low))))) + (if (IntKind.i64.wrap (x0_d.a2 * x1_amounts.a2.High)) < (IntKind.i64.wrap (x0_d.a2 * x1_amounts.a2.Low)) then (IntKind.i64.wrap (x0_d.a2 * x1_amounts.a2.High)) else (IntKind.i64.wrap (x0_d.a2 * x1_amounts.a2.Low))))))] ++ [.lit (.int .i64 (IntKind.i64.wrap ((IntKind.i64.wrap ((IntKind.i64.wrap (0 + (if (IntKind.i64.wrap (x0_d.a0 * x1_amounts.a0.Low)) < (IntKind.i64.wrap (x0_d.a0 * x1_amounts.a0.High)) then (IntKind.i64.wrap (x0_d.a0 * x1_amounts.a0.High)) else (IntKind.i64.wrap (x0_d.a0 * x1_amounts.a0.Low))))) + (if (IntKind.i64.wrap (x0_d.a1 * x1_amounts.a1.Low)) < (IntKind.i64.wrap (x0_d.a1 * x1_amounts.a1.High)) then (IntKind.i64.wrap (x0_d.a1 * x1_amounts.a1.High)) else (IntKind.i64.wrap (x0_d.a1 * x1_amounts.a1.Low))))) + (if (IntKind.i64.wrap (x0_d.a2 * x1_amounts.a2.Low)) < (IntKind.i64.wrap (x0_d.a2 * x1_amounts.a2.High)) then (IntKind.i64.wrap (x0_d.a2 * x1_amounts.a2.High)) else (IntKind.i64.wrap (x0_d.a2 * x1_amounts.a2.Low))))))]))) (by first | (simp only [Tryz.results105, resV, resL, resV1, zao, zbi, uw, cr, tyf, e15, e16, e17, e18, e19, e20, e21, nm, seval] <;> rfl) | rfl) ?_
 obtain rfl := kF _ h
 refine zas ?_ ?_
 ·simp only [tre, tytre, Bool.and_self]
 ·first | (simp only [outV, uw, zad, cr, tyf, nrm, tynrm, e15, e16, e17, e18, e19, e20, e21, nm, seval] <;> rfl) | rfl
def zei (x0_d : Gi) : Option (Int) := some (IntKind.i64.wrap ((IntKind.i64.wrap ((IntKind.i64.wrap (0 + (if x0_d.a0 < (IntKind.i64.wrap (-x0_d.a0)) then (IntKind.i64.wrap (-x0_d.a0)) else x0_d.a0))) + (if x0_d.a1 < (IntKind.i64.wrap (-x0_d.a1)) then (IntKind.i64.wrap (-x0_d.a1)) else x0_d.a1))) + (if x0_d.a2 < (IntKind.i64.wrap (-x0_d.a2)) then (IntKind.i64.wrap (-x0_d.a2)) else x0_d.a2)))
theorem ziv (x0_d : Gi) (R : Int) (h : zei x0_d = some R) : VPure Tryz.prog G0 106 [.agg (cGi x0_d)] (.tree (.lit (.int .i64 R))) := by
 refine VPure.runR mixed Tryz.call106 Tryz.func106 rfl (by simp [Tryz.ntmps106]; kernel_rfl) ?_
 obtain ⟨KF, h, kF, kN⟩ := zaj h
 simp only [zei] at h
 simp only [vz, qr, tyf, nm, seval]
 refine zfb mixed (by kernel_rfl) 4 ?_
 try simp only [vz, qr, tyf, nm, seval]
 refine zam (x := (.lit (.int .i64 (IntKind.i64.wrap ((IntKind.i64.wrap ((IntKind.i64.wrap (0 + (if x0_d.a0 < (IntKind.i64.wrap (-x0_d.a0)) then (IntKind.i64.wrap (-x0_d.a0)) else x0_d.a0))) + (if x0_d.a1 < (IntKind.i64.wrap (-x0_d.a1)) then (IntKind.i64.wrap (-x0_d.a1)) else x0_d.a1))) + (if x0_d.a2 < (IntKind.i64.wrap (-x0_d.a2)) then (IntKind.i64.wrap (-x0_d.a2)) else x0_d.a2)))))) (by first | (simp only [Tryz.results106, resV, resL, resV1, zao, zbi, uw, cr, tyf, nm, seval] <;> rfl) | rfl) ?_
 obtain rfl := kF _ h
 refine zas ?_ ?_
 ·simp only [tre, tytre, Bool.and_self]
 ·first | (simp only [outV, uw, zad, cr, tyf, nrm, tynrm, nm, seval] <;> rfl) | rfl
end Go.V
end
