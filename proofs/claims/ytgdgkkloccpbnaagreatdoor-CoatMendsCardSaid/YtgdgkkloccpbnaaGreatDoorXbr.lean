/- Part of a proof: a logic of values by content, lifted functions, what follows. -/
import Derived.Test.YtgdgkkloccpbnaaGreatDoorXbq
import Derived.Test.YtgdgkkloccpbnaaGreatDoorXbf
import Derived.Test.YtgdgkkloccpbnaaGreatDoorXbh
import Derived.Test.YtgdgkkloccpbnaaGreatDoorXbk
import Derived.Test.YtgdgkkloccpbnaaGreatDoorXbp
import Derived.Test.YtgdgkkloccpbnaaGreatDoorXbo
import Derived.Test.YtgdgkkloccpbnaaGreatDoorXay
import Derived.Test.YtgdgkkloccpbnaaGreatDoorProg
set_option linter.all false
set_option maxRecDepth 4000
set_option maxHeartbeats 40000000
section
namespace Go.V
open Go Go.Proofs
set_option linter.unusedVariables false
def zgk (s : GCoatSheet) (now : List Int) : Option (List (List Int)) := zek 16 s now
theorem zly (s : GCoatSheet) (now : List Int) (R : List (List Int)) (h : zgk s now = some R) : VPure Tryz.prog G0 63 [.agg (cGCoatSheet s), .sl (cellsL eI now) (List.length now) false] (.tree (.sl (cellsL (eSl eI) R) (List.length R) false)) := zin 16 s now R h
end Go.V
end
section
namespace Go.V
open Go Go.Proofs
def zcj (x0_s : GCoatSheet) : List (List Int) → Int → (List (List Int)) → Option (LOut (List (List Int)) ((List (List Int))))
 | [], c0_5, c0_4 => some (.go c0_4)
 | e0 :: p0, c0_5, c0_4 => Option.bind (zdr x0_s e0) (fun r2 => cond (r2) (cond (roomOk 24 (List.length (c0_4 ++ [e0]))) (zcj x0_s p0 (c0_5 + 1) (c0_4 ++ [e0])) none) (zcj x0_s p0 (c0_5 + 1) c0_4))
def zgm (x0_s : GCoatSheet) : Option (List (List Int)) := Option.bind (zgk x0_s ([] : List Int)) (fun r1 => cond (lenOk r1) (lbind (zcj x0_s r1 0 ([] : List (List Int))) (fun r4 => some r4) (fun c3 => some c3) (fun _ _ => none)) none)
theorem zqm (x0_s : GCoatSheet) (R : List (List Int)) (h : zgm x0_s = some R) : VPure Tryz.prog G0 20 [.agg (cGCoatSheet x0_s)] (.tree (.sl (cellsL (eSl eI) R) (List.length R) false)) := by
 refine VPure.runR mixed Tryz.call20 Tryz.func20 rfl (by simp [Tryz.ntmps20]; kernel_rfl) ?_
 obtain ⟨KF, h, kF, kN⟩ := zan h
 simp only [zgm] at h
 rcases o6 : (zgk x0_s ([] : List Int)) with _ | r5
 ·simp only [o6, hs] at h
  exact absurd h kN
 simp only [o6, hs] at h
 simp only [vz, tyf, nm, seval]
 refine ktree (args0 := [.agg (cGCoatSheet x0_s), .sl (cellsL eI ([] : List Int)) (List.length ([] : List Int)) false]) (by first | (simp only [nrm, tynrm] <;> rfl) | rfl) (by simp only [tre, tytre, Bool.and_self]) (zly _ _ _ o6) ?_
 refine zam (fun tm => tm 1 = .ptr 0 0 ∧ tm 7 = .sl (cellsL (eSl eI) r5) (List.length r5) false ∧ True) (by refine ⟨?_, ?_, trivial⟩ <;> first | (simp only [ua, nm, seval] <;> rfl) | rfl) ?_
 rintro tm ⟨e7, e8, _⟩
 cases g10 : (lenOk r5)
 ·simp only [g10, hs] at h
  exact absurd h kN
 simp only [g10, hs] at h
 simp only [vz, tyf, e7, e8, g10, nm, seval]
 obtain ⟨K9, h, kR9, kG9, kB9, kN9⟩ := zap h kN
 obtain ⟨f9, hf9, h⟩ := call3 h
 obtain ⟨I9, hI9⟩ : ∃ I : Nat → St → Prop, I = (fun m st => ∃ (p9 : List (List Int)) (c9_5 : Int) (c9_4 : List (List Int)) (y9_0 : VV), m = List.length p9 ∧ 0 ≤ c9_5 ∧ List.drop (Int.toNat c9_5) r5 = p9 ∧ st.df = [] ∧ 7 ≤ st.nx ∧ st.H 0 = some (.cells (some 26) (cGCoatSheet x0_s)) ∧ st.tm 1 = .ptr 0 0 ∧ st.tm 3 = .sl (cellsL (eSl eI) r5) (List.length r5) false ∧ st.tm 4 = y9_0 ∧ st.tm 5 = .lit (.int .i64 c9_5) ∧ ((∃ (β : Nat) (el : Option TypeId), y9_0 = .ref β 0 (List.length c9_4) 1 (List.length c9_4) ∧ β < st.nx ∧ β ≠ 0 ∧ st.H β = some (.cells el (cellsL (eSl eI) c9_4))) ∨ (y9_0 = .lit (.slice none 0 0) ∧ c9_4 = [])) ∧ K9 (f9 p9 c9_5 c9_4)) := ⟨_, rfl⟩
 refine loopK mixed (by kernel_rfl) I9 (List.length r5) (by rw [hI9]; refine ⟨r5, 0, ([] : List (List Int)), .lit (.slice none 0 0), rfl, Int.le_refl _, rfl, rfl, (show 7 ≤ 7 by omega), ?_, e7, ?_, ?_, ?_, Or.inr ⟨rfl, rfl⟩, h⟩ <;> first | (simp only [ua, e7, e8, nm, seval] <;> rfl) | rfl) ?_
 rintro m ⟨tm, H, nx9, df⟩ hinv
 rw [hI9] at hinv
 obtain ⟨p9, c9_5, c9_4, y9_0, rfl, hi9, hp9, hdf, hn9, H11, e12, e13, e14, e15, ow9_0, h⟩ := hinv
 simp only at hdf hn9 H11 e12 e13 e14 e15 ow9_0
 have n16 := zbr (m := 7) (b := nx9) (by omega)
 subst hdf hf9
 rcases ow9_0 with ⟨b9_0, el9_0, rfl, lq18, lq19, H17⟩ | ⟨rfl, rfl⟩
 ·have q18 := zlw lq18
  have q19 := ne_f lq19
  cases p9 with
  | nil =>
   have d20 : (decide (c9_5 < (List.length r5 : Int))) = false := zaf hi9 hp9
   simp only [zcj, hs, reduceCtorEq] at h
   replace h := kG9 _ h
   try dsimp only at h
   try simp only [hs] at h
   try simp only [vz, tyf, g10, n16, e12, e13, e14, e15, H11, q18, H17, q19, d20, nm, seval]
   refine zbt (x := (.ref b9_0 0 (List.length c9_4) 1 (List.length c9_4))) (by first | (simp only [Tryz.results20, resV, resL, resV1, zcq, zev, uw, cr, tyf, g10, n16, H11, q18, H17, q19, d20, nm, seval] <;> rfl) | rfl) ?_
   obtain rfl := kF _ h
   refine zcv ?_ ?_
   ·simp only [tre, tytre, Bool.and_self]
   ·first | (simp only [outV, uw, zba, cr, tyf, nrm, tynrm, g10, n16, e12, e13, e14, e15, H11, q18, H17, q19, d20, nm, seval] <;> rfl) | rfl
  | cons e9 p9 =>
   have d21 : (decide (c9_5 < (List.length r5 : Int))) = true := zao hi9 hp9
   have o23 := zad hi9 hp9
   have w22 := zat hi9 hp9 g10
   simp only [zcj, hs, reduceCtorEq] at h
   simp only [vz, tyf, g10, n16, e12, e13, e14, e15, H11, q18, H17, q19, d21, (ix34 o23), w22, nm, seval]
   refine zbl (fun tm => tm 1 = .ptr 0 0 ∧ tm 3 = .sl (cellsL (eSl eI) r5) (List.length r5) false ∧ tm 4 = .ref b9_0 0 (List.length c9_4) 1 (List.length c9_4) ∧ tm 5 = .lit (.int .i64 c9_5) ∧ True) (by refine ⟨e12, e13, e14, e15, trivial⟩ <;> first | (simp only [ua, n16, e12, e13, e14, e15, H11, q18, H17, q19, d21, w22, nm, seval] <;> rfl) | rfl) ?_
   rintro tm ⟨e24, e25, e26, e27, _⟩
   have b28 := And.intro g10 (And.intro n16 (And.intro H11 (And.intro q18 (And.intro H17 (And.intro q19 (And.intro d21 w22))))))
   rcases o30 : (zdr x0_s e9) with _ | r29
   ·simp only [o30, hs] at h
    exact absurd h kN9
   simp only [o30, hs] at h
   simp only [vz, tyf, b28, (ix34 o23), e24, e25, e26, e27, nm, seval]
   refine dktree (args0 := [.agg (cGCoatSheet x0_s), .sl (cellsL eI e9) (List.length e9) false]) (by first | (simp only [nrm, tynrm] <;> rfl) | rfl) (by simp only [tre, tytre, Bool.and_self]) (zhy _ _ _ o30) ?_
   refine zam (fun tm => tm 1 = .ptr 0 0 ∧ tm 3 = .sl (cellsL (eSl eI) r5) (List.length r5) false ∧ tm 4 = .ref b9_0 0 (List.length c9_4) 1 (List.length c9_4) ∧ tm 5 = .lit (.int .i64 c9_5) ∧ tm 19 = .lit (.bool r29) ∧ True) (by refine ⟨e24, e25, e26, e27, ?_, trivial⟩ <;> first | (simp only [ua, b28, e24, e25, e26, e27, nm, seval] <;> rfl) | rfl) ?_
   rintro tm ⟨e31, e32, e33, e34, e35, _⟩
   cases d36 : (r29)
   ·simp only [d36, hs] at h
    simp only [vz, tyf, b28, (ix34 o23), e31, e32, e33, e34, e35, d36, nm, seval]
    exact ⟨List.length p9, Nat.lt_succ_self _, by rw [hI9]; refine ⟨p9, c9_5 + 1, c9_4, .ref b9_0 0 (List.length c9_4) 1 (List.length c9_4), rfl, Int.le_trans hi9 (Int.le_add_one (Int.le_refl _)), zac hi9 hp9, rfl, (show 7 ≤ nx9 + 13 by omega), ?_, e31, e32, ?_, ?_, Or.inl ⟨b9_0, el9_0, rfl, (by first | omega | (simp only [nm, seval]; omega)), (by first | omega | (intro hh; simp only [b28, reduceCtorEq] at hh)), ?_⟩, h⟩ <;> first | (simp only [ua, b28, e31, e32, e33, e34, e35, d36, nm, seval] <;> rfl) | rfl⟩
   simp only [d36, hs] at h
   cases g37 : (roomOk 24 (List.length (c9_4 ++ [e9])))
   ·simp only [g37, hs] at h
    exact absurd h kN9
   simp only [g37, hs] at h
   simp only [vz, tyf, b28, (ix34 o23), e31, e32, e33, e34, e35, d36, g37, nm, seval]
   refine k_app (w := 1) (enc := (eSl eI)) (xs := c9_4) (ys := ([e9])) (el := el9_0) (el2 := (some 23)) (fun _ => rfl) lf34 ao34 Tryz.underlying34 (by first | rfl | assumption | (simp only [zab, zaa, et34, b28, nm, seval] <;> rfl) | (simp only [zab, zaa, zah, zaj, zdd, zbk, tyf, b28, (ix34 o23), e31, e32, e33, e34, e35, d36, g37, nm, seval]; done)) (by first | rfl | assumption | (simp only [zab, zaa, et34, b28, nm, seval] <;> rfl) | (simp only [zab, zaa, zah, zaj, zdd, zbk, tyf, b28, (ix34 o23), e31, e32, e33, e34, e35, d36, g37, nm, seval]; done)) (Nat.zero_lt_succ _) g37 ?_
   simp only [vz, tyf, b28, (ix34 o23), e31, e32, e33, e34, e35, d36, g37, nm, seval]
   exact ⟨List.length p9, Nat.lt_succ_self _, by rw [hI9]; refine ⟨p9, c9_5 + 1, (c9_4 ++ [e9]), .ref (nx9 + 16) 0 (List.length (c9_4 ++ [e9])) 1 (List.length (c9_4 ++ [e9])), rfl, Int.le_trans hi9 (Int.le_add_one (Int.le_refl _)), zac hi9 hp9, rfl, (show 7 ≤ nx9 + 21 by omega), ?_, e31, e32, ?_, ?_, Or.inl ⟨nx9 + 16, (sameEl el9_0 23), rfl, (by first | omega | (simp only [nm, seval]; omega)), (by first | omega | (intro hh; simp only [b28, reduceCtorEq] at hh)), ?_⟩, h⟩ <;> first | (simp only [ua, b28, e31, e32, e33, e34, e35, d36, nm, seval] <;> rfl) | rfl⟩
 ·cases p9 with
  | nil =>
   have d38 : (decide (c9_5 < (List.length r5 : Int))) = false := zaf hi9 hp9
   simp only [zcj, hs, reduceCtorEq] at h
   replace h := kG9 _ h
   try dsimp only at h
   try simp only [hs] at h
   try simp only [vz, tyf, g10, n16, e12, e13, e14, e15, H11, d38, nm, seval]
   refine zbt (x := (.lit (.slice none 0 0))) (by first | (simp only [Tryz.results20, resV, resL, resV1, zcq, zev, uw, cr, tyf, g10, n16, H11, d38, nm, seval] <;> rfl) | rfl) ?_
   obtain rfl := kF _ h
   refine zcv ?_ ?_
   ·simp only [tre, tytre, Bool.and_self]
   ·first | (simp only [outV, uw, zba, cr, tyf, nrm, tynrm, g10, n16, e12, e13, e14, e15, H11, d38, nm, seval] <;> rfl) | rfl
  | cons e9 p9 =>
   have d39 : (decide (c9_5 < (List.length r5 : Int))) = true := zao hi9 hp9
   have o41 := zad hi9 hp9
   have w40 := zat hi9 hp9 g10
   simp only [zcj, hs, reduceCtorEq] at h
   simp only [vz, tyf, g10, n16, e12, e13, e14, e15, H11, d39, (ix34 o41), w40, nm, seval]
   refine zbl (fun tm => tm 1 = .ptr 0 0 ∧ tm 3 = .sl (cellsL (eSl eI) r5) (List.length r5) false ∧ tm 4 = .lit (.slice none 0 0) ∧ tm 5 = .lit (.int .i64 c9_5) ∧ True) (by refine ⟨e12, e13, e14, e15, trivial⟩ <;> first | (simp only [ua, n16, e12, e13, e14, e15, H11, d39, w40, nm, seval] <;> rfl) | rfl) ?_
   rintro tm ⟨e42, e43, e44, e45, _⟩
   rcases o47 : (zdr x0_s e9) with _ | r46
   ·simp only [o47, hs] at h
    exact absurd h kN9
   simp only [o47, hs] at h
   simp only [vz, tyf, g10, n16, H11, d39, (ix34 o41), w40, e42, e43, e44, e45, nm, seval]
   refine dktree (args0 := [.agg (cGCoatSheet x0_s), .sl (cellsL eI e9) (List.length e9) false]) (by first | (simp only [nrm, tynrm] <;> rfl) | rfl) (by simp only [tre, tytre, Bool.and_self]) (zhy _ _ _ o47) ?_
   refine zam (fun tm => tm 1 = .ptr 0 0 ∧ tm 3 = .sl (cellsL (eSl eI) r5) (List.length r5) false ∧ tm 4 = .lit (.slice none 0 0) ∧ tm 5 = .lit (.int .i64 c9_5) ∧ tm 19 = .lit (.bool r46) ∧ True) (by refine ⟨e42, e43, e44, e45, ?_, trivial⟩ <;> first | (simp only [ua, n16, H11, d39, w40, e42, e43, e44, e45, nm, seval] <;> rfl) | rfl) ?_
   rintro tm ⟨e48, e49, e50, e51, e52, _⟩
   cases d53 : (r46)
   ·simp only [d53, hs] at h
    simp only [vz, tyf, g10, n16, H11, d39, (ix34 o41), w40, e48, e49, e50, e51, e52, d53, nm, seval]
    exact ⟨List.length p9, Nat.lt_succ_self _, by rw [hI9]; refine ⟨p9, c9_5 + 1, ([] : List (List Int)), .lit (.slice none 0 0), rfl, Int.le_trans hi9 (Int.le_add_one (Int.le_refl _)), zac hi9 hp9, rfl, (show 7 ≤ nx9 + 13 by omega), ?_, e48, e49, ?_, ?_, Or.inr ⟨rfl, rfl⟩, h⟩ <;> first | (simp only [ua, n16, H11, d39, w40, e48, e49, e50, e51, e52, d53, nm, seval] <;> rfl) | rfl⟩
   simp only [d53, hs] at h
   cases g54 : (roomOk 24 (List.length (([] : List (List Int)) ++ [e9])))
   ·simp only [g54, hs] at h
    exact absurd h kN9
   simp only [g54, hs] at h
   simp only [vz, tyf, g10, n16, H11, d39, (ix34 o41), w40, e48, e49, e50, e51, e52, d53, g54, nm, seval]
   refine zjk (w := 1) (enc := (eSl eI)) (ys := ([e9])) (el2 := (some 23)) (fun _ => rfl) lf34 ao34 Tryz.underlying34 (by first | rfl | assumption | (simp only [zab, zaa, et34, n16, H11, nm, seval] <;> rfl) | (simp only [zab, zaa, zah, zaj, zdd, zbk, tyf, g10, n16, H11, d39, (ix34 o41), w40, e48, e49, e50, e51, e52, d53, g54, nm, seval]; done)) (Nat.zero_lt_succ _) g54 ?_
   simp only [vz, tyf, g10, n16, H11, d39, (ix34 o41), w40, e48, e49, e50, e51, e52, d53, g54, nm, seval]
   exact ⟨List.length p9, Nat.lt_succ_self _, by rw [hI9]; refine ⟨p9, c9_5 + 1, (([] : List (List Int)) ++ [e9]), .ref (nx9 + 16) 0 (List.length (([] : List (List Int)) ++ [e9])) 1 (List.length (([] : List (List Int)) ++ [e9])), rfl, Int.le_trans hi9 (Int.le_add_one (Int.le_refl _)), zac hi9 hp9, rfl, (show 7 ≤ nx9 + 21 by omega), ?_, e48, e49, ?_, ?_, Or.inl ⟨nx9 + 16, (some 23), rfl, (by first | omega | (simp only [nm, seval]; omega)), (by first | omega | (intro hh; simp only [n16, reduceCtorEq] at hh)), ?_⟩, h⟩ <;> first | (simp only [ua, n16, H11, d39, w40, e48, e49, e50, e51, e52, d53, nm, seval] <;> rfl) | rfl⟩
end Go.V
end
section
namespace Go.V
open Go
set_option linter.unusedVariables false
set_option linter.unusedSimpArgs false
def okP (p : List Int) (w : Int) : Bool := match p.getLast? with
 | some a => decide (w > a)
 | none => true
def plansP (W : List Int) : Nat → List Int → List (List Int)
 | 0, p => [p]
 | d + 1, p => W.flatMap fun w => if okP p w then plansP W d (p ++ [w]) else []
theorem zpu {α β : Type} {f : α → List β} {m : Nat} (h : ∀ x, (f x).length ≤ m) : ∀ l : List α, (l.flatMap f).length ≤ l.length * m
 | [] => by simp
 | a :: l => by
  rw [List.flatMap_cons, List.length_append, List.length_cons, Nat.add_mul, Nat.one_mul]
  have := zpu h l
  have := h a
  omega
theorem znd {W : List Int} (hW : W.length ≤ 12) : ∀ (d : Nat) (p : List Int), (plansP W d p).length ≤ 12 ^ d
 | 0, p => by simp [plansP]
 | d + 1, p => by
  rw [plansP, Nat.pow_succ, Nat.mul_comm]
  refine Nat.le_trans (zpu (m := 12 ^ d) (fun w => ?_) W) (Nat.mul_le_mul_right _ hW)
  split
  ·exact znd hW d _
  ·simp
theorem ztx {rc : GCoatSheet → List Int → Option (List (List Int))} {s : GCoatSheet} {now : List Int} {d : Nat} (hW : s.Work.length ≤ 12) (hn : now.length ≤ 1000) (hrc : ∀ w, rc s (now ++ [w]) = some (plansP s.Work d (now ++ [w]))) :
  ∀ (p : List Int) (c : Int) (out : List (List Int)), out.length + p.length * 12 ^ d ≤ 1000000000 → zai rc s now p c out = some (.go (out ++ p.flatMap fun w => if okP now w then plansP s.Work d (now ++ [w]) else []))
 | [], c, out, _ => by simp [zai]
 | e :: p, c, out, hl => by
  rw [List.length_cons, Nat.add_mul, Nat.one_mul] at hl
  have hR := znd hW d (now ++ [e])
  have tail : Option.bind (rc s (now ++ [e])) (fun r => cond (neB r) (cond (roomOk 24 (out ++ r).length) (zai rc s now p (c + 1) (out ++ r)) none) (zai rc s now p (c + 1) out)) = some (.go ((out ++ plansP s.Work d (now ++ [e])) ++ p.flatMap fun w => if okP now w then plansP s.Work d (now ++ [w]) else [])) := by
   rw [hrc e, Option.bind_some, show roomOk 24 (out ++ plansP s.Work d (now ++ [e])).length = true by simp [roomOk]; omega, cond_true]
   have i1 := ztx hW hn hrc p (c + 1) (out ++ plansP s.Work d (now ++ [e])) (by rw [List.length_append]; omega)
   cases hne : neB (plansP s.Work d (now ++ [e])) with
   | true => rw [cond_true, i1]
   | false =>
    have hnil := zqz hne
    rw [hnil, List.append_nil] at i1 ⊢
    rw [cond_false, i1]
  rw [List.flatMap_cons]
  cases hnow : now with
  | nil =>
   subst hnow
   rw [zai]
   rw [show ((List.length ([] : List Int) : Int) == 0) = true from rfl, cond_true, show neB ([] : List Int) = false from rfl, cond_false, show roomOk 8 (List.length (([] : List Int) ++ [e])) = true from rfl, cond_true, tail]
   simp [okP]
  | cons a l =>
   have hlen : 1 ≤ now.length := by rw [hnow]; simp
   obtain ⟨x, hx⟩ : ∃ x, now.getLast? = some x := by rw [hnow]; exact ⟨_, List.getLast?_cons⟩
   rw [← hnow]
   rw [zai, zahb hlen (by omega), hx, show ((List.length now : Int) == 0) = false by rw [beq_eq_false_iff_ne]; omega, cond_false, Option.bind_some,
    show neB now = true by rw [hnow]; rfl, cond_true, List.nil_append, show roomOk 8 now.length = true by simp [roomOk]; omega, cond_true, show roomOk 8 (now ++ [e]).length = true by simp [roomOk]; omega, cond_true, tail]
   have hok : okP now e = decide (e > x) := by unfold okP; rw [hx]
   rw [hok]
   by_cases hd : e > x
   ·simp [hd]
   ·have i2 := ztx hW hn hrc p (c + 1) out (by omega)
    simp [hd, i2]
theorem zwp {s : GCoatSheet} (hW : s.Work.length ≤ 12) (hc : s.Coats.length ≤ 5) : ∀ (d n : Nat) (now : List Int), now.length + d = s.Coats.length → d < n → zek n s now = some (plansP s.Work d now)
 | _, 0, _, _, h => absurd h (Nat.not_lt_zero _)
 | 0, n + 1, now, hl, _ => by
  show zdg (zek n) s now = _
  unfold zdg
  rw [show ((List.length now : Int) == (List.length s.Coats : Int)) = true by simp; omega]
  rfl
 | d + 1, n + 1, now, hl, hn => by
  show zdg (zek n) s now = _
  unfold zdg
  have hp : 12 ^ d ≤ 12 ^ 5 := Nat.pow_le_pow_right (by omega) (by omega)
  have hm : s.Work.length * 12 ^ d ≤ 12 * 12 ^ 5 := Nat.mul_le_mul hW hp
  rw [show ((List.length now : Int) == (List.length s.Coats : Int)) = false by simp; omega, cond_false, zet (by omega), cond_true,
   ztx hW (by omega) (fun w => zwp hW hc d n (now ++ [w]) (by simp; omega) (by omega)) s.Work 0 [] (by simp; omega)]
  rfl
def stepsP (W : List Int) : List Int → List Int → Bool
 | _, [] => true
 | p, w :: t => W.contains w && (okP p w && stepsP W (p ++ [w]) t)
theorem ziv {W : List Int} : ∀ (d : Nat) (p q : List Int), q ∈ plansP W d p ↔ ∃ t, q = p ++ t ∧ t.length = d ∧ stepsP W p t = true
 | 0, p, q => by
  rw [plansP, List.mem_singleton]
  constructor
  ·rintro rfl; exact ⟨[], by simp, rfl, rfl⟩
  ·rintro ⟨t, rfl, ht, _⟩
   rw [List.length_eq_zero_iff.1 ht, List.append_nil]
 | d + 1, p, q => by
  rw [plansP, List.mem_flatMap]
  constructor
  ·rintro ⟨w, hw, h⟩
   split at h
   ·rename_i hm
    obtain ⟨t, rfl, ht, hs⟩ := (ziv d _ q).1 h
    exact ⟨w :: t, by simp, by simp [ht], by simp only [stepsP, hm, hs, Bool.and_true, List.contains_iff_mem]; exact hw⟩
   ·cases h
  ·rintro ⟨t, rfl, ht, hs⟩
   cases t with
   | nil => simp at ht
   | cons w t =>
    simp only [stepsP, Bool.and_eq_true, List.contains_iff_mem] at hs
    refine ⟨w, hs.1, ?_⟩
    rw [if_pos hs.2.1]
    exact (ziv d _ _).2 ⟨t, by simp, by simpa using ht, hs.2.2⟩
theorem zwq {W : List Int} : ∀ (t p : List Int) (a : Int), stepsP W (p ++ [a]) t = true ↔ (∀ x ∈ t, x ∈ W) ∧ upB (a :: t) = true
 | [], p, a => by simp [stepsP, upB]
 | w :: t, p, a => by
  rw [stepsP, zil, show okP (p ++ [a]) w = decide (w > a) by simp [okP]]
  simp only [Bool.and_eq_true, List.contains_iff_mem, zwq t (p ++ [a]) w, decide_eq_true_eq, List.mem_cons, forall_eq_or_imp]
  constructor
  ·rintro ⟨h1, h2, h3, h4⟩; exact ⟨⟨h1, h3⟩, h2, h4⟩
  ·rintro ⟨⟨h1, h3⟩, h2, h4⟩; exact ⟨h1, h2, h3, h4⟩
theorem zry {W : List Int} (t : List Int) : stepsP W [] t = true ↔ (∀ x ∈ t, x ∈ W) ∧ upB t = true := by
 cases t with
 | nil => simp [stepsP, upB]
 | cons w t =>
  rw [stepsP]
  simp only [Bool.and_eq_true, List.contains_iff_mem, zwq t [] w, List.mem_cons, forall_eq_or_imp]
  exact ⟨fun h => ⟨⟨h.1, h.2.2.1⟩, h.2.2.2⟩, fun h => ⟨h.1.1, rfl, h.1.2, h.2⟩⟩
theorem up_pw : ∀ {l : List Int}, upB l = true → l.Pairwise (· < ·)
 | [], _ => List.Pairwise.nil
 | [a], _ => List.pairwise_singleton _ _
 | a :: b :: l, h => by
  rw [zil] at h
  simp only [Bool.and_eq_true, decide_eq_true_eq] at h
  have ih := up_pw h.2
  refine List.pairwise_cons.2 ⟨fun x hx => ?_, ih⟩
  rcases List.mem_cons.1 hx with rfl | hx
  ·exact h.1
  ·have := (List.pairwise_cons.1 ih).1 x hx
   omega
theorem zjl {W : List Int} (hW : upB W = true) : ∀ (d : Nat) (p : List Int), (plansP W d p).Pairwise lexL
 | 0, p => by rw [plansP]; exact List.pairwise_singleton _ _
 | d + 1, p => by
  rw [plansP, List.pairwise_flatMap]
  refine ⟨fun i _ => ?_, ?_⟩
  ·split
   ·exact zjl hW d _
   ·exact List.Pairwise.nil
  ·refine List.Pairwise.imp ?_ (up_pw hW)
   intro i j hij x hx y hy
   split at hx
   ·split at hy
    ·obtain ⟨t, rfl, _, _⟩ := (ziv d _ _).1 hx
     obtain ⟨u, rfl, _, _⟩ := (ziv d _ _).1 hy
     rw [List.append_assoc, List.append_assoc, zaas]
     exact .inl hij
    ·cases hy
   ·cases hx
theorem zaec {s : GCoatSheet} (h : ShOk s) : s.Work.length ≤ 12 := by
 have hd := h.dk.l
 cases hW : s.Work with
 | nil => simp
 | cons a l =>
  have h1 := zaek l a ((s.Dry.length : Int) - 1) (by rw [← hW]; exact h.u) (fun d hd => (h.w d (by rw [hW]; exact hd)).2)
  have h2 := h.w a (by rw [hW]; simp)
  simp only [List.length_cons]
  omega
def allP (s : GCoatSheet) : List (List Int) := plansP s.Work s.Coats.length []
theorem zadf {s : GCoatSheet} (h : ShOk s) : zgk s [] = some (allP s) := by
 have hc := h.c
 exact zwp (zaec h) (by omega) _ 16 [] (by simp) (by omega)
theorem zadp {s : GCoatSheet} (h : ShOk s) (q : List Int) : q ∈ allP s ↔ planB s q = true := by
 unfold allP
 rw [ziv]
 unfold planB incB dayB
 simp only [Bool.and_eq_true, decide_eq_true_eq, List.all_eq_true, zkg, List.contains_iff_mem, List.nil_append]
 constructor
 ·rintro ⟨t, rfl, hl, hs⟩
  have := (zry _).1 hs
  exact ⟨⟨hl, this.2, fun d hd => h.w d (this.1 d hd)⟩, this.1⟩
 ·rintro ⟨⟨hl, hu, _⟩, hm⟩
  exact ⟨q, rfl, hl, (zry q).2 ⟨hm, hu⟩⟩
theorem zabr {s : GCoatSheet} (h : ShOk s) : (allP s).length ≤ 1000000 := by
 have hc := h.c
 have h1 := znd (zaec h) s.Coats.length []
 have hp : 12 ^ s.Coats.length ≤ 12 ^ 5 := Nat.pow_le_pow_right (by omega) (by omega)
 unfold allP
 omega
theorem VP.ofS {s : GCoatSheet} (h : ShOk s) {q : List Int} (h2 : planB s q = true) : VP s.Dry s.Coats q := by
 unfold planB incB at h2
 simp only [Bool.and_eq_true, zkg, List.all_eq_true, decide_eq_true_eq] at h2
 refine ⟨h.dk, h.c, h2.1.1, h2.1.2.1, fun x hx => ?_⟩
 have := h2.1.2.2 x hx
 unfold dayB at this
 exact zkg.1 this
theorem zajs {s : GCoatSheet} (h : ShOk s) : ∀ (p : List (List Int)) (c : Int) (out : List (List Int)), (∀ q ∈ p, planB s q = true) → out.length + p.length ≤ 1000000000 → zcj s p c out = some (.go (out ++ p.filter (sureB s.Dry s.Coats)))
 | [], c, out, _, _ => by simp [zcj]
 | e :: p, c, out, hp, hl => by
  rw [List.length_cons] at hl
  rw [zcj, zaac (VP.ofS h (hp e (by simp))), Option.bind_some]
  cases hsu : sureB s.Dry s.Coats e with
  | true =>
   rw [cond_true, show roomOk 24 (out ++ [e]).length = true by simp [roomOk]; omega, cond_true, zajs h p (c + 1) _ (fun q hq => hp q (List.mem_cons_of_mem _ hq)) (by simp; omega), List.filter_cons_of_pos hsu]
   simp
  | false =>
   rw [cond_false, zajs h p (c + 1) _ (fun q hq => hp q (List.mem_cons_of_mem _ hq)) (by omega), List.filter_cons_of_neg (by rw [hsu]; simp)]
theorem zaqb {s : GCoatSheet} (h : ShOk s) : zgm s = some ((allP s).filter (sureB s.Dry s.Coats)) := by
 have hl := zabr h
 unfold zgm
 rw [zadf h, Option.bind_some, zet (by omega), cond_true, zajs h _ 0 [] (fun q hq => (zadp h q).1 hq) (by simp; omega), List.nil_append]
 rfl
end Go.V
end
section
namespace Go.V
open Go Go.Proofs
def zbm (x1_plan : List Int) (x2_day : Int) : List (List Int) → Int → (List Int) → Option (LOut ((List Int) × Int × Bool) ((List Int)))
 | [], c0_11, c0_10 => some (.go c0_10)
 | e0 :: p0, c0_11, c0_10 => Option.bind (zen e0 x1_plan x2_day) (fun r2 => cond (r2) (cond (neB c0_10) (Option.bind (zbb e0 x1_plan) (fun r3 => Option.bind (zbb c0_10 x1_plan) (fun r4 => cond (decide (r3 < r4)) (cond (neB e0) (zbm x1_plan x2_day p0 (c0_11 + 1) e0) none) (zbm x1_plan x2_day p0 (c0_11 + 1) c0_10)))) (cond (neB e0) (zbm x1_plan x2_day p0 (c0_11 + 1) e0) none)) (zbm x1_plan x2_day p0 (c0_11 + 1) c0_10))
def zej (x0_s : GCoatSheet) (x1_plan : List Int) (x2_day : Int) : Option ((List Int) × Int × Bool) := Option.bind (zgm x0_s) (fun r1 => cond (lenOk r1) (lbind (zbm x1_plan x2_day r1 0 ([] : List Int)) (fun r7 => some r7) (fun c5 => cond (neB c5) (Option.bind (zbb c5 x1_plan) (fun r6 => some (c5, r6, true))) (some (([] : List Int), 0, false))) (fun _ _ => none)) none)
theorem zor (x0_s : GCoatSheet) (x1_plan : List Int) (x2_day : Int) (R : (List Int) × Int × Bool) (h : zej x0_s x1_plan x2_day = some R) : VPure Tryz.prog G0 43 [.agg (cGCoatSheet x0_s), .sl (cellsL eI x1_plan) (List.length x1_plan) false, .lit (.int .i64 x2_day)] (.tree (.tup [.sl (cellsL eI R.1) (List.length R.1) false, .lit (.int .i64 R.2.1), .lit (.bool R.2.2)])) := by
 refine VPure.runR mixed Tryz.call43 Tryz.func43 rfl (by simp [Tryz.ntmps43]; kernel_rfl) ?_
 obtain ⟨KF, h, kF, kN⟩ := zan h
 simp only [zej] at h
 rcases o9 : (zgm x0_s) with _ | r8
 ·simp only [o9, hs] at h
  exact absurd h kN
 simp only [o9, hs] at h
 simp only [vz, tyf, nm, seval]
 refine ktree (args0 := [.agg (cGCoatSheet x0_s)]) (by first | (simp only [nrm, tynrm] <;> rfl) | rfl) (by simp only [tre, tytre, Bool.and_self]) (zqm _ _ o9) ?_
 refine zam (fun tm => tm 1 = .sl (cellsL eI x1_plan) (List.length x1_plan) false ∧ tm 2 = .lit (.int .i64 x2_day) ∧ tm 13 = .sl (cellsL (eSl eI) r8) (List.length r8) false ∧ True) (by refine ⟨?_, ?_, ?_, trivial⟩ <;> first | (simp only [ua, nm, seval] <;> rfl) | rfl) ?_
 rintro tm ⟨e10, e11, e12, _⟩
 cases g14 : (lenOk r8)
 ·simp only [g14, hs] at h
  exact absurd h kN
 simp only [g14, hs] at h
 simp only [vz, tyf, e10, e11, e12, g14, nm, seval]
 obtain ⟨K13, h, kR13, kG13, kB13, kN13⟩ := zap h kN
 obtain ⟨f13, hf13, h⟩ := call3 h
 obtain ⟨I13, hI13⟩ : ∃ I : Nat → St → Prop, I = (fun m st => ∃ (p13 : List (List Int)) (c13_11 : Int) (c13_10 : List Int) (y13_0 : VV), m = List.length p13 ∧ 0 ≤ c13_11 ∧ List.drop (Int.toNat c13_11) r8 = p13 ∧ st.df = [] ∧ 9 ≤ st.nx ∧ st.tm 1 = .sl (cellsL eI x1_plan) (List.length x1_plan) false ∧ st.tm 2 = .lit (.int .i64 x2_day) ∧ st.tm 9 = .sl (cellsL (eSl eI) r8) (List.length r8) false ∧ st.tm 10 = y13_0 ∧ st.tm 11 = .lit (.int .i64 c13_11) ∧ ((neB c13_10 = true ∧ y13_0 = .sl (cellsL eI c13_10) (List.length c13_10) false) ∨ (y13_0 = .lit (.slice none 0 0) ∧ c13_10 = [])) ∧ K13 (f13 p13 c13_11 c13_10)) := ⟨_, rfl⟩
 refine loopK mixed (by kernel_rfl) I13 (List.length r8) (by rw [hI13]; refine ⟨r8, 0, ([] : List Int), .lit (.slice none 0 0), rfl, Int.le_refl _, rfl, rfl, (show 9 ≤ 9 by omega), e10, e11, ?_, ?_, ?_, Or.inr ⟨rfl, rfl⟩, h⟩ <;> first | (simp only [ua, e10, e11, e12, nm, seval] <;> rfl) | rfl) ?_
 rintro m ⟨tm, H, nx13, df⟩ hinv
 rw [hI13] at hinv
 obtain ⟨p13, c13_11, c13_10, y13_0, rfl, hi13, hp13, hdf, hn13, e15, e16, e17, e18, e19, ow13_0, h⟩ := hinv
 simp only at hdf hn13 e15 e16 e17 e18 e19 ow13_0
 have n20 := zbr (m := 9) (b := nx13) (by omega)
 subst hdf hf13
 rcases ow13_0 with ⟨g21, rfl⟩ | ⟨rfl, rfl⟩
 ·cases p13 with
  | nil =>
   have d22 : (decide (c13_11 < (List.length r8 : Int))) = false := zaf hi13 hp13
   simp only [zbm, hs, reduceCtorEq] at h
   replace h := kG13 _ h
   try dsimp only at h
   try simp only [hs] at h
   simp only [g21, hs] at h
   have w23 := fun (H : Nat → Option VObj) (x y : Operand) => zna (P := Tryz.prog) (H := H) (x := x) (y := y) (cs := cellsL eI c13_10) (n := List.length c13_10) (f := false) Tryz.underlying23 (zacz (w := 1) (enc := eI) (fun _ => rfl) (by decide) g21)
   rcases o25 : (zbb c13_10 x1_plan) with _ | r24
   ·simp only [o25, hs] at h
    exact absurd h kN
   simp only [o25, hs] at h
   simp only [vz, tyf, g14, n20, e15, e16, e17, e18, e19, d22, w23, nm, seval]
   refine ktree (args0 := [.sl (cellsL eI c13_10) (List.length c13_10) false, .sl (cellsL eI x1_plan) (List.length x1_plan) false]) (by first | (simp only [nrm, tynrm] <;> rfl) | rfl) (by simp only [tre, tytre, Bool.and_self]) (zfw _ _ _ o25) ?_
   refine zam (fun tm => tm 49 = .sl (cellsL eI c13_10) (List.length c13_10) false ∧ tm 52 = .lit (.int .i64 r24) ∧ True) (by refine ⟨?_, ?_, trivial⟩ <;> first | (simp only [ua, n20, e15, e16, e17, e18, e19, d22, w23, nm, seval] <;> rfl) | rfl) ?_
   rintro tm ⟨e26, e27, _⟩
   try simp only [vz, tyf, g14, n20, d22, w23, e26, e27, nm, seval]
   refine zbt (x := (.tup [.sl (cellsL eI c13_10) (List.length c13_10) false, .lit (.int .i64 r24), .lit (.bool true)])) (by first | (simp only [Tryz.results43, resV, resL, resV1, zcq, zev, uw, cr, tyf, g14, n20, d22, w23, nm, seval] <;> rfl) | rfl) ?_
   obtain rfl := kF _ h
   refine zcv ?_ ?_
   ·simp only [tre, tytre, Bool.and_self]
   ·first | (simp only [outV, uw, zba, cr, tyf, nrm, tynrm, g14, n20, d22, w23, e26, e27, nm, seval] <;> rfl) | rfl
  | cons e13 p13 =>
   have d28 : (decide (c13_11 < (List.length r8 : Int))) = true := zao hi13 hp13
   have o30 := zad hi13 hp13
   have w29 := zat hi13 hp13 g14
   simp only [zbm, hs, reduceCtorEq] at h
   rcases o32 : (zen e13 x1_plan x2_day) with _ | r31
   ·simp only [o32, hs] at h
    exact absurd h kN13
   simp only [o32, hs] at h
   simp only [vz, tyf, g14, n20, e15, e16, e17, e18, e19, d28, (ix34 o30), w29, nm, seval]
   refine ktree (args0 := [.sl (cellsL eI e13) (List.length e13) false, .sl (cellsL eI x1_plan) (List.length x1_plan) false, .lit (.int .i64 x2_day)]) (by first | (simp only [nrm, tynrm] <;> rfl) | rfl) (by simp only [tre, tytre, Bool.and_self]) (ziy _ _ _ _ o32) ?_
   refine zam (fun tm => tm 1 = .sl (cellsL eI x1_plan) (List.length x1_plan) false ∧ tm 2 = .lit (.int .i64 x2_day) ∧ tm 9 = .sl (cellsL (eSl eI) r8) (List.length r8) false ∧ tm 10 = .sl (cellsL eI c13_10) (List.length c13_10) false ∧ tm 11 = .lit (.int .i64 c13_11) ∧ tm 26 = .lit (.bool r31) ∧ True) (by refine ⟨e15, e16, e17, e18, e19, ?_, trivial⟩ <;> first | (simp only [ua, n20, e15, e16, e17, e18, e19, d28, w29, nm, seval] <;> rfl) | rfl) ?_
   rintro tm ⟨e33, e34, e35, e36, e37, e38, _⟩
   cases d39 : (r31)
   ·simp only [d39, hs] at h
    simp only [vz, tyf, g14, n20, d28, (ix34 o30), w29, e33, e34, e35, e36, e37, e38, d39, nm, seval]
    exact ⟨List.length p13, Nat.lt_succ_self _, by rw [hI13]; refine ⟨p13, c13_11 + 1, c13_10, .sl (cellsL eI c13_10) (List.length c13_10) false, rfl, Int.le_trans hi13 (Int.le_add_one (Int.le_refl _)), zac hi13 hp13, rfl, (show 9 ≤ nx13 + 30 by omega), e33, e34, e35, ?_, ?_, Or.inl ⟨g21, rfl⟩, h⟩ <;> first | (simp only [ua, n20, d28, w29, e33, e34, e35, e36, e37, e38, d39, nm, seval] <;> rfl) | rfl⟩
   simp only [d39, hs] at h
   simp only [g21, hs] at h
   have w40 := fun (H : Nat → Option VObj) (x y : Operand) => zna (P := Tryz.prog) (H := H) (x := x) (y := y) (cs := cellsL eI c13_10) (n := List.length c13_10) (f := false) Tryz.underlying23 (zacz (w := 1) (enc := eI) (fun _ => rfl) (by decide) g21)
   rcases o42 : (zbb e13 x1_plan) with _ | r41
   ·simp only [o42, hs] at h
    exact absurd h kN13
   simp only [o42, hs] at h
   simp only [vz, tyf, g14, n20, d28, (ix34 o30), w29, e33, e34, e35, e36, e37, e38, d39, w40, nm, seval]
   refine ktree (args0 := [.sl (cellsL eI e13) (List.length e13) false, .sl (cellsL eI x1_plan) (List.length x1_plan) false]) (by first | (simp only [nrm, tynrm] <;> rfl) | rfl) (by simp only [tre, tytre, Bool.and_self]) (zfw _ _ _ o42) ?_
   refine zam (fun tm => tm 1 = .sl (cellsL eI x1_plan) (List.length x1_plan) false ∧ tm 2 = .lit (.int .i64 x2_day) ∧ tm 9 = .sl (cellsL (eSl eI) r8) (List.length r8) false ∧ tm 10 = .sl (cellsL eI c13_10) (List.length c13_10) false ∧ tm 11 = .lit (.int .i64 c13_11) ∧ tm 27 = .lit (.bool true) ∧ tm 30 = .lit (.bool false) ∧ tm 36 = .lit (.int .i64 r41) ∧ True) (by refine ⟨e33, e34, e35, e36, e37, ?_, ?_, ?_, trivial⟩ <;> first | (simp only [ua, n20, d28, w29, e33, e34, e35, e36, e37, e38, d39, w40, nm, seval] <;> rfl) | rfl) ?_
   rintro tm ⟨e43, e44, e45, e46, e47, e48, e49, e50, _⟩
   rcases o52 : (zbb c13_10 x1_plan) with _ | r51
   ·simp only [o52, hs] at h
    exact absurd h kN13
   simp only [o52, hs] at h
   simp only [vz, tyf, g14, n20, d28, (ix34 o30), w29, d39, w40, e43, e44, e45, e46, e47, e48, e49, e50, nm, seval]
   refine ktree (args0 := [.sl (cellsL eI c13_10) (List.length c13_10) false, .sl (cellsL eI x1_plan) (List.length x1_plan) false]) (by first | (simp only [nrm, tynrm] <;> rfl) | rfl) (by simp only [tre, tytre, Bool.and_self]) (zfw _ _ _ o52) ?_
   refine zam (fun tm => tm 1 = .sl (cellsL eI x1_plan) (List.length x1_plan) false ∧ tm 2 = .lit (.int .i64 x2_day) ∧ tm 9 = .sl (cellsL (eSl eI) r8) (List.length r8) false ∧ tm 10 = .sl (cellsL eI c13_10) (List.length c13_10) false ∧ tm 11 = .lit (.int .i64 c13_11) ∧ tm 27 = .lit (.bool true) ∧ tm 30 = .lit (.bool false) ∧ tm 36 = .lit (.int .i64 r41) ∧ tm 39 = .lit (.int .i64 r51) ∧ True) (by refine ⟨e43, e44, e45, e46, e47, e48, e49, e50, ?_, trivial⟩ <;> first | (simp only [ua, n20, d28, w29, d39, w40, e43, e44, e45, e46, e47, e48, e49, e50, nm, seval] <;> rfl) | rfl) ?_
   rintro tm ⟨e53, e54, e55, e56, e57, e58, e59, e60, e61, _⟩
   cases d62 : (decide (r41 < r51))
   ·simp only [d62, hs] at h
    have b63 := And.intro g14 (And.intro n20 (And.intro d28 (And.intro w29 (And.intro d39 (And.intro w40 d62)))))
    simp only [vz, tyf, b63, (ix34 o30), e53, e54, e55, e56, e57, e58, e59, e60, e61, nm, seval]
    exact ⟨List.length p13, Nat.lt_succ_self _, by rw [hI13]; refine ⟨p13, c13_11 + 1, c13_10, .sl (cellsL eI c13_10) (List.length c13_10) false, rfl, Int.le_trans hi13 (Int.le_add_one (Int.le_refl _)), zac hi13 hp13, rfl, (show 9 ≤ nx13 + 30 by omega), e53, e54, e55, ?_, ?_, Or.inl ⟨g21, rfl⟩, h⟩ <;> first | (simp only [ua, b63, e53, e54, e55, e56, e57, e58, e59, e60, e61, nm, seval] <;> rfl) | rfl⟩
   simp only [d62, hs] at h
   have b64 := And.intro g14 (And.intro n20 (And.intro d28 (And.intro w29 (And.intro d39 (And.intro w40 d62)))))
   cases g65 : (neB e13)
   ·simp only [g65, hs] at h
    exact absurd h kN13
   simp only [g65, hs] at h
   simp only [vz, tyf, b64, (ix34 o30), e53, e54, e55, e56, e57, e58, e59, e60, e61, g65, nm, seval]
   exact ⟨List.length p13, Nat.lt_succ_self _, by rw [hI13]; refine ⟨p13, c13_11 + 1, e13, .sl (cellsL eI e13) (List.length e13) false, rfl, Int.le_trans hi13 (Int.le_add_one (Int.le_refl _)), zac hi13 hp13, rfl, (show 9 ≤ nx13 + 35 by omega), e53, e54, e55, ?_, ?_, Or.inl ⟨g65, rfl⟩, h⟩ <;> first | (simp only [ua, b64, e53, e54, e55, e56, e57, e58, e59, e60, e61, nm, seval] <;> rfl) | rfl⟩
 ·cases p13 with
  | nil =>
   have d66 : (decide (c13_11 < (List.length r8 : Int))) = false := zaf hi13 hp13
   simp only [zbm, hs, reduceCtorEq] at h
   replace h := kG13 _ h
   try dsimp only at h
   try simp only [hs] at h
   simp only [zlo, hs] at h
   have w67 := fun (H : Nat → Option VObj) (x y : Operand) => zps (P := Tryz.prog) (H := H) (x := x) (y := y) Tryz.underlying23
   try simp only [vz, tyf, g14, n20, e15, e16, e17, e18, e19, d66, w67, nm, seval]
   refine zbt (x := (.tup [.lit (.slice none 0 0), .lit (.int .i64 0), .lit (.bool false)])) (by first | (simp only [Tryz.results43, resV, resL, resV1, zcq, zev, uw, cr, tyf, g14, n20, d66, w67, nm, seval] <;> rfl) | rfl) ?_
   obtain rfl := kF _ h
   refine zcv ?_ ?_
   ·simp only [tre, tytre, Bool.and_self]
   ·first | (simp only [outV, uw, zba, cr, tyf, nrm, tynrm, g14, n20, e15, e16, e17, e18, e19, d66, w67, nm, seval] <;> rfl) | rfl
  | cons e13 p13 =>
   have d68 : (decide (c13_11 < (List.length r8 : Int))) = true := zao hi13 hp13
   have o70 := zad hi13 hp13
   have w69 := zat hi13 hp13 g14
   simp only [zbm, hs, reduceCtorEq] at h
   rcases o72 : (zen e13 x1_plan x2_day) with _ | r71
   ·simp only [o72, hs] at h
    exact absurd h kN13
   simp only [o72, hs] at h
   simp only [vz, tyf, g14, n20, e15, e16, e17, e18, e19, d68, (ix34 o70), w69, nm, seval]
   refine ktree (args0 := [.sl (cellsL eI e13) (List.length e13) false, .sl (cellsL eI x1_plan) (List.length x1_plan) false, .lit (.int .i64 x2_day)]) (by first | (simp only [nrm, tynrm] <;> rfl) | rfl) (by simp only [tre, tytre, Bool.and_self]) (ziy _ _ _ _ o72) ?_
   refine zam (fun tm => tm 1 = .sl (cellsL eI x1_plan) (List.length x1_plan) false ∧ tm 2 = .lit (.int .i64 x2_day) ∧ tm 9 = .sl (cellsL (eSl eI) r8) (List.length r8) false ∧ tm 10 = .lit (.slice none 0 0) ∧ tm 11 = .lit (.int .i64 c13_11) ∧ tm 26 = .lit (.bool r71) ∧ True) (by refine ⟨e15, e16, e17, e18, e19, ?_, trivial⟩ <;> first | (simp only [ua, n20, e15, e16, e17, e18, e19, d68, w69, nm, seval] <;> rfl) | rfl) ?_
   rintro tm ⟨e73, e74, e75, e76, e77, e78, _⟩
   cases d79 : (r71)
   ·simp only [d79, hs] at h
    simp only [vz, tyf, g14, n20, d68, (ix34 o70), w69, e73, e74, e75, e76, e77, e78, d79, nm, seval]
    exact ⟨List.length p13, Nat.lt_succ_self _, by rw [hI13]; refine ⟨p13, c13_11 + 1, ([] : List Int), .lit (.slice none 0 0), rfl, Int.le_trans hi13 (Int.le_add_one (Int.le_refl _)), zac hi13 hp13, rfl, (show 9 ≤ nx13 + 30 by omega), e73, e74, e75, ?_, ?_, Or.inr ⟨rfl, rfl⟩, h⟩ <;> first | (simp only [ua, n20, d68, w69, e73, e74, e75, e76, e77, e78, d79, nm, seval] <;> rfl) | rfl⟩
   simp only [d79, hs] at h
   simp only [zlo, hs] at h
   have w80 := fun (H : Nat → Option VObj) (x y : Operand) => zps (P := Tryz.prog) (H := H) (x := x) (y := y) Tryz.underlying23
   cases g81 : (neB e13)
   ·simp only [g81, hs] at h
    exact absurd h kN13
   simp only [g81, hs] at h
   simp only [vz, tyf, g14, n20, d68, (ix34 o70), w69, e73, e74, e75, e76, e77, e78, d79, w80, g81, nm, seval]
   exact ⟨List.length p13, Nat.lt_succ_self _, by rw [hI13]; refine ⟨p13, c13_11 + 1, e13, .sl (cellsL eI e13) (List.length e13) false, rfl, Int.le_trans hi13 (Int.le_add_one (Int.le_refl _)), zac hi13 hp13, rfl, (show 9 ≤ nx13 + 35 by omega), e73, e74, e75, ?_, ?_, Or.inl ⟨g81, rfl⟩, h⟩ <;> first | (simp only [ua, n20, d68, w69, e73, e74, e75, e76, e77, e78, d79, w80, nm, seval] <;> rfl) | rfl⟩
end Go.V
end
section
namespace Go.V
open Go
set_option linter.unusedVariables false
set_option linter.unusedSimpArgs false
def fewer (p : List Int) (a b : List Int) : Option Bool := some (decide ((chN p a : Int) < (chN p b : Int)))
theorem zqo {p : List Int} {d : Int} (hp : p.length < 100) : ∀ (M : List (List Int)) (i : Int) (c : List Int), (∀ q ∈ M, q.length = p.length ∧ neB q = true) → (neB c = true → c.length = p.length) →
  ∃ c', zbm p d M i c = some (.go c') ∧ bestO (fewer p) (M.filter (keepB d p)) (c, neB c) = some (c', neB c')
 | [], i, c, _, _ => ⟨c, rfl, rfl⟩
 | e :: M, i, c, hM, hc => by
  have he := hM e (by simp)
  have hM' : ∀ q ∈ M, q.length = p.length ∧ neB q = true := fun q hq => hM q (List.mem_cons_of_mem _ hq)
  have hce : zbb e p = some (chN p e : Int) := by rw [zkp (by omega) he.1, zrg]
  rw [zbm, zahd (zet (by omega)) he.1, Option.bind_some, List.filter_cons]
  cases hk : keepB d p e with
  | false =>
   rw [cond_false, if_neg (by simp)]
   exact zqo hp M (i + 1) c hM' hc
  | true =>
   rw [cond_true, if_pos rfl, he.2]
   have ie := zqo (d := d) hp M (i + 1) e hM' (fun _ => he.1)
   rw [he.2] at ie
   cases hn : neB c with
   | false =>
    rw [cond_false, cond_true]
    exact ie
   | true =>
    have hcc : zbb c p = some (chN p c : Int) := by rw [zkp (by rw [hc hn]; omega) (hc hn), zrg]
    have ic := zqo (d := d) hp M (i + 1) c hM' hc
    rw [hn] at ic
    rw [cond_true, hce, Option.bind_some, hcc, Option.bind_some]
    show ∃ c', _ ∧ Option.bind (fewer p e c) (fun t => bestO (fewer p) (M.filter (keepB d p)) (cond t (e, true) (c, true))) = _
    unfold fewer
    rw [Option.bind_some]
    cases decide ((chN p e : Int) < (chN p c : Int)) with
    | true => exact ie
    | false => exact ic
theorem zadt {s : GCoatSheet} (h : ShOk s) {p : List Int} (h2 : planB s p = true) (d : Int) :
  (zej s p d = some ([], 0, false) ∧ ∀ q, planB s q = true → sureB s.Dry s.Coats q = true → keepB d p q = false) ∨
  (∃ q, zej s p d = some (q, (chN p q : Int), true) ∧ planB s q = true ∧ sureB s.Dry s.Coats q = true ∧ keepB d p q = true ∧
   ∀ x, planB s x = true → sureB s.Dry s.Coats x = true → keepB d p x = true → chN p q ≤ chN p x ∧ (chN p x = chN p q → x = q ∨ lexL q x)) := by
 have hc := h.c
 have hvp := VP.ofS h h2
 have hlen := zabr h
 generalize hA : (allP s).filter (sureB s.Dry s.Coats) = A
 have hmem : ∀ q, q ∈ A ↔ planB s q = true ∧ sureB s.Dry s.Coats q = true := fun q => by rw [← hA, List.mem_filter, zadp h]
 have hpw : A.Pairwise lexL := by rw [← hA]; exact (zjl h.u _ _).filter _
 have hAl : A.length ≤ 1000000 := by rw [← hA]; exact Nat.le_trans (List.length_filter_le _ _) hlen
 have hel : ∀ q ∈ A, q.length = p.length ∧ neB q = true := fun q hq => by
  have hv := VP.ofS h ((hmem q).1 hq).1
  refine ⟨by rw [hv.l, hvp.l], ?_⟩
  have := hv.l
  cases q with
  | nil => simp at this; omega
  | cons a q => rfl
 obtain ⟨c', e1, e2⟩ := zqo (d := d) (by rw [hvp.l]; omega) A 0 [] hel (fun hh => by cases hh)
 have e3 : zej s p d = cond (neB c') (Option.bind (zbb c' p) fun n => some (c', n, true)) (some ([], 0, false)) := by
  unfold zej
  rw [zaqb h, hA, Option.bind_some, zet (by omega), cond_true, e1]
  rfl
 cases hF : A.filter (keepB d p) with
 | nil =>
  left
  rw [hF] at e2
  have e4 : some (([] : List Int), false) = some (c', neB c') := e2
  have e5 : neB c' = false := by injection e4 with e4; exact (congrArg Prod.snd e4).symm
  refine ⟨by rw [e3, e5]; rfl, fun q hq1 hq2 => ?_⟩
  cases hh : keepB d p q with
  | false => rfl
  | true =>
   have : q ∈ A.filter (keepB d p) := List.mem_filter.2 ⟨(hmem q).2 ⟨hq1, hq2⟩, hh⟩
   rw [hF] at this
   cases this
 | cons y M =>
  right
  obtain ⟨q, hq, hqm, hqx⟩ := zsc (better := fewer p) (f := fun x => (chN p x : Int)) (y := y) (M := M) (fun _ _ _ _ => rfl) (by rw [← hF]; exact hpw.filter _)
  rw [hF] at e2
  have e4 : some (q, true) = some (c', neB c') := hq.symm.trans e2
  have e5 : q = c' := by injection e4 with e4; exact congrArg Prod.fst e4
  have e6 : neB c' = true := by injection e4 with e4; exact (congrArg Prod.snd e4).symm
  subst e5
  rw [← hF, List.mem_filter, hmem] at hqm
  refine ⟨q, ?_, hqm.1.1, hqm.1.2, hqm.2, fun x hx1 hx2 hx3 => ?_⟩
  ·have hv := VP.ofS h hqm.1.1
   rw [e3, e6, cond_true, zkp (by rw [hv.l]; omega) (by rw [hv.l, hvp.l]), zrg]
   rfl
  ·have := hqx x (by rw [← hF]; exact List.mem_filter.2 ⟨(hmem x).2 ⟨hx1, hx2⟩, hx3⟩)
   exact ⟨by omega, fun hh => this.2 (by omega)⟩
end Go.V
end
section
namespace Go.V
open Go Go.Proofs
theorem hmix : Tryz.prog.follows .mixedOrders = true := by kernel_rfl
def kA : VV := (Go.V.VV.agg [(Go.V.VV.sl [(Go.V.VV.lit (Go.Value.int Go.IntKind.i64 (Int.ofNat 6))), (Go.V.VV.lit (Go.Value.int Go.IntKind.i64 (Int.ofNat 8))), (Go.V.VV.lit (Go.Value.int Go.IntKind.i64 (Int.ofNat 4))), (Go.V.VV.lit (Go.Value.int Go.IntKind.i64 (Int.ofNat 6))), (Go.V.VV.lit (Go.Value.int Go.IntKind.i64 (Int.ofNat 8))), (Go.V.VV.lit (Go.Value.int Go.IntKind.i64 (Int.ofNat 10))), (Go.V.VV.lit (Go.Value.int Go.IntKind.i64 (Int.ofNat 2))), (Go.V.VV.lit (Go.Value.int Go.IntKind.i64 (Int.ofNat 4))), (Go.V.VV.lit (Go.Value.int Go.IntKind.i64 (Int.ofNat 6))), (Go.V.VV.lit (Go.Value.int Go.IntKind.i64 (Int.ofNat 6))), (Go.V.VV.lit (Go.Value.int Go.IntKind.i64 (Int.ofNat 5))), (Go.V.VV.lit (Go.Value.int Go.IntKind.i64 (Int.ofNat 9))), (Go.V.VV.lit (Go.Value.int Go.IntKind.i64 (Int.ofNat 8))), (Go.V.VV.lit (Go.Value.int Go.IntKind.i64 (Int.ofNat 12))), (Go.V.VV.lit (Go.Value.int Go.IntKind.i64 (Int.ofNat 4))), (Go.V.VV.lit (Go.Value.int Go.IntKind.i64 (Int.ofNat 4)))] 8 Bool.false), (Go.V.VV.sl [(Go.V.VV.lit (Go.Value.int Go.IntKind.i64 (Int.ofNat 0))), (Go.V.VV.lit (Go.Value.int Go.IntKind.i64 (Int.ofNat 2))), (Go.V.VV.lit (Go.Value.int Go.IntKind.i64 (Int.ofNat 3))), (Go.V.VV.lit (Go.Value.int Go.IntKind.i64 (Int.ofNat 5))), (Go.V.VV.lit (Go.Value.int Go.IntKind.i64 (Int.ofNat 6)))] 5 Bool.false), (Go.V.VV.sl [(Go.V.VV.lit (Go.Value.int Go.IntKind.i64 (Int.ofNat 9))), (Go.V.VV.lit (Go.Value.int Go.IntKind.i64 (Int.ofNat 20))), (Go.V.VV.lit (Go.Value.int Go.IntKind.i64 (Int.ofNat 10))), (Go.V.VV.lit (Go.Value.int Go.IntKind.i64 (Int.ofNat 20))), (Go.V.VV.lit (Go.Value.int Go.IntKind.i64 (Int.ofNat 8))), (Go.V.VV.lit (Go.Value.int Go.IntKind.i64 (Int.ofNat 30)))] 3 Bool.false)])
def kB : VV := (Go.V.VV.agg [(Go.V.VV.sl [(Go.V.VV.lit (Go.Value.int Go.IntKind.i64 (Int.ofNat 6))), (Go.V.VV.lit (Go.Value.int Go.IntKind.i64 (Int.ofNat 8))), (Go.V.VV.lit (Go.Value.int Go.IntKind.i64 (Int.ofNat 4))), (Go.V.VV.lit (Go.Value.int Go.IntKind.i64 (Int.ofNat 6))), (Go.V.VV.lit (Go.Value.int Go.IntKind.i64 (Int.ofNat 8))), (Go.V.VV.lit (Go.Value.int Go.IntKind.i64 (Int.ofNat 10))), (Go.V.VV.lit (Go.Value.int Go.IntKind.i64 (Int.ofNat 2))), (Go.V.VV.lit (Go.Value.int Go.IntKind.i64 (Int.ofNat 4))), (Go.V.VV.lit (Go.Value.int Go.IntKind.i64 (Int.ofNat 6))), (Go.V.VV.lit (Go.Value.int Go.IntKind.i64 (Int.ofNat 6))), (Go.V.VV.lit (Go.Value.int Go.IntKind.i64 (Int.ofNat 5))), (Go.V.VV.lit (Go.Value.int Go.IntKind.i64 (Int.ofNat 9))), (Go.V.VV.lit (Go.Value.int Go.IntKind.i64 (Int.ofNat 8))), (Go.V.VV.lit (Go.Value.int Go.IntKind.i64 (Int.ofNat 12))), (Go.V.VV.lit (Go.Value.int Go.IntKind.i64 (Int.ofNat 4))), (Go.V.VV.lit (Go.Value.int Go.IntKind.i64 (Int.ofNat 4)))] 8 Bool.false), (Go.V.VV.sl [(Go.V.VV.lit (Go.Value.int Go.IntKind.i64 (Int.ofNat 0))), (Go.V.VV.lit (Go.Value.int Go.IntKind.i64 (Int.ofNat 2))), (Go.V.VV.lit (Go.Value.int Go.IntKind.i64 (Int.ofNat 3))), (Go.V.VV.lit (Go.Value.int Go.IntKind.i64 (Int.ofNat 5))), (Go.V.VV.lit (Go.Value.int Go.IntKind.i64 (Int.ofNat 6)))] 5 Bool.false), (Go.V.VV.sl [(Go.V.VV.lit (Go.Value.int Go.IntKind.i64 (Int.ofNat 9))), (Go.V.VV.lit (Go.Value.int Go.IntKind.i64 (Int.ofNat 20))), (Go.V.VV.lit (Go.Value.int Go.IntKind.i64 (Int.ofNat 10))), (Go.V.VV.lit (Go.Value.int Go.IntKind.i64 (Int.ofNat 18))), (Go.V.VV.lit (Go.Value.int Go.IntKind.i64 (Int.ofNat 8))), (Go.V.VV.lit (Go.Value.int Go.IntKind.i64 (Int.ofNat 30)))] 3 Bool.false)])
def kE : VV := (Go.V.VV.agg [(Go.V.VV.sl [(Go.V.VV.lit (Go.Value.int Go.IntKind.i64 (Int.ofNat 6))), (Go.V.VV.lit (Go.Value.int Go.IntKind.i64 (Int.ofNat 8))), (Go.V.VV.lit (Go.Value.int Go.IntKind.i64 (Int.ofNat 4))), (Go.V.VV.lit (Go.Value.int Go.IntKind.i64 (Int.ofNat 6))), (Go.V.VV.lit (Go.Value.int Go.IntKind.i64 (Int.ofNat 8))), (Go.V.VV.lit (Go.Value.int Go.IntKind.i64 (Int.ofNat 10))), (Go.V.VV.lit (Go.Value.int Go.IntKind.i64 (Int.ofNat 2))), (Go.V.VV.lit (Go.Value.int Go.IntKind.i64 (Int.ofNat 4))), (Go.V.VV.lit (Go.Value.int Go.IntKind.i64 (Int.ofNat 6))), (Go.V.VV.lit (Go.Value.int Go.IntKind.i64 (Int.ofNat 6))), (Go.V.VV.lit (Go.Value.int Go.IntKind.i64 (Int.ofNat 5))), (Go.V.VV.lit (Go.Value.int Go.IntKind.i64 (Int.ofNat 9))), (Go.V.VV.lit (Go.Value.int Go.IntKind.i64 (Int.ofNat 8))), (Go.V.VV.lit (Go.Value.int Go.IntKind.i64 (Int.ofNat 12))), (Go.V.VV.lit (Go.Value.int Go.IntKind.i64 (Int.ofNat 4))), (Go.V.VV.lit (Go.Value.int Go.IntKind.i64 (Int.ofNat 4)))] 8 Bool.false), (Go.V.VV.sl [(Go.V.VV.lit (Go.Value.int Go.IntKind.i64 (Int.ofNat 0))), (Go.V.VV.lit (Go.Value.int Go.IntKind.i64 (Int.ofNat 1))), (Go.V.VV.lit (Go.Value.int Go.IntKind.i64 (Int.ofNat 2))), (Go.V.VV.lit (Go.Value.int Go.IntKind.i64 (Int.ofNat 3))), (Go.V.VV.lit (Go.Value.int Go.IntKind.i64 (Int.ofNat 4))), (Go.V.VV.lit (Go.Value.int Go.IntKind.i64 (Int.ofNat 5))), (Go.V.VV.lit (Go.Value.int Go.IntKind.i64 (Int.ofNat 6))), (Go.V.VV.lit (Go.Value.int Go.IntKind.i64 (Int.ofNat 7)))] 8 Bool.false), (Go.V.VV.sl [(Go.V.VV.lit (Go.Value.int Go.IntKind.i64 (Int.ofNat 9))), (Go.V.VV.lit (Go.Value.int Go.IntKind.i64 (Int.ofNat 20))), (Go.V.VV.lit (Go.Value.int Go.IntKind.i64 (Int.ofNat 10))), (Go.V.VV.lit (Go.Value.int Go.IntKind.i64 (Int.ofNat 20))), (Go.V.VV.lit (Go.Value.int Go.IntKind.i64 (Int.ofNat 8))), (Go.V.VV.lit (Go.Value.int Go.IntKind.i64 (Int.ofNat 30)))] 3 Bool.false)])
def kHolds : VV := (Go.V.VV.tup [(Go.V.VV.lit (Go.Value.bool Bool.false)), (Go.V.VV.lit (Go.Value.int Go.IntKind.i64 (Int.ofNat 0)))])
def kWord : VV := (Go.V.VV.tup [(Go.V.VV.lit (Go.Value.int Go.IntKind.i64 (Int.ofNat 1))), (Go.V.VV.lit (Go.Value.int Go.IntKind.i64 (Int.ofNat 0)))])
def kFails : VV := (Go.V.VV.tup [(Go.V.VV.lit (Go.Value.int Go.IntKind.i64 (Int.ofNat 0))), (Go.V.VV.lit (Go.Value.int Go.IntKind.i64 (Int.ofNat 2))), (Go.V.VV.lit (Go.Value.int Go.IntKind.i64 (Int.ofNat 0)))])
def kProof : VV := (Go.V.VV.tup [(Go.V.VV.sl [(Go.V.VV.lit (Go.Value.int Go.IntKind.i64 (Int.ofNat 6))), (Go.V.VV.lit (Go.Value.int Go.IntKind.i64 (Int.ofNat 5))), (Go.V.VV.lit (Go.Value.int Go.IntKind.i64 (Int.ofNat 10))), (Go.V.VV.lit (Go.Value.int Go.IntKind.i64 (Int.ofNat 2))), (Go.V.VV.lit (Go.Value.int Go.IntKind.i64 (Int.ofNat 6))), (Go.V.VV.lit (Go.Value.int Go.IntKind.i64 (Int.ofNat 5))), (Go.V.VV.lit (Go.Value.int Go.IntKind.i64 (Int.ofNat 8))), (Go.V.VV.lit (Go.Value.int Go.IntKind.i64 (Int.ofNat 4)))] 8 Bool.false), (Go.V.VV.lit (Go.Value.int Go.IntKind.i64 (Int.ofNat 0)))])
def kFirst : VV := (Go.V.VV.tup [(Go.V.VV.sl [(Go.V.VV.lit (Go.Value.int Go.IntKind.i64 (Int.ofNat 0))), (Go.V.VV.lit (Go.Value.int Go.IntKind.i64 (Int.ofNat 2))), (Go.V.VV.lit (Go.Value.int Go.IntKind.i64 (Int.ofNat 5)))] 3 Bool.false), (Go.V.VV.lit (Go.Value.int Go.IntKind.i64 (Int.ofNat 0)))])
def kCount : VV := (Go.V.VV.tup [(Go.V.VV.lit (Go.Value.int Go.IntKind.i64 (Int.ofNat 5))), (Go.V.VV.lit (Go.Value.int Go.IntKind.i64 (Int.ofNat 0)))])
def kDays : VV := (Go.V.VV.tup [(Go.V.VV.sl [(Go.V.VV.lit (Go.Value.int Go.IntKind.i64 (Int.ofNat 2))), (Go.V.VV.lit (Go.Value.int Go.IntKind.i64 (Int.ofNat 3))), (Go.V.VV.lit (Go.Value.int Go.IntKind.i64 (Int.ofNat 4)))] 3 Bool.false), (Go.V.VV.lit (Go.Value.int Go.IntKind.i64 (Int.ofNat 0)))])
def kLate : VV := (Go.V.VV.tup [(Go.V.VV.lit (Go.Value.int Go.IntKind.i64 (Int.ofNat 2))), (Go.V.VV.lit (Go.Value.int Go.IntKind.i64 (Int.ofNat 0)))])
def kQuick : VV := (Go.V.VV.tup [(Go.V.VV.lit (Go.Value.int Go.IntKind.i64 (Int.ofNat 4))), (Go.V.VV.lit (Go.Value.int Go.IntKind.i64 (Int.ofNat 0)))])
def kStuck : VV := (Go.V.VV.tup [(Go.V.VV.lit (Go.Value.int Go.IntKind.i64 (Int.ofNat 2))), (Go.V.VV.lit (Go.Value.int Go.IntKind.i64 (Int.ofNat 0)))])
def kSlack : VV := (Go.V.VV.tup [(Go.V.VV.lit (Go.Value.int Go.IntKind.i64 (Int.ofNat 2))), (Go.V.VV.lit (Go.Value.int Go.IntKind.i64 (Int.ofNat 0)))])
def kMend : VV := (Go.V.VV.tup [(Go.V.VV.sl [(Go.V.VV.lit (Go.Value.int Go.IntKind.i64 (Int.ofNat 0))), (Go.V.VV.lit (Go.Value.int Go.IntKind.i64 (Int.ofNat 2))), (Go.V.VV.lit (Go.Value.int Go.IntKind.i64 (Int.ofNat 4)))] 3 Bool.false), (Go.V.VV.lit (Go.Value.int Go.IntKind.i64 (Int.ofNat 2))), (Go.V.VV.lit (Go.Value.int Go.IntKind.i64 (Int.ofNat 0)))])
def kRead : VV := (Go.V.VV.tup [(Go.V.VV.agg [(Go.V.VV.sl [(Go.V.VV.lit (Go.Value.int Go.IntKind.i64 (Int.ofNat 1))), (Go.V.VV.lit (Go.Value.int Go.IntKind.i64 (Int.ofNat 2)))] 1 Bool.false), (Go.V.VV.sl [(Go.V.VV.lit (Go.Value.int Go.IntKind.i64 (Int.ofNat 0)))] 1 Bool.false), (Go.V.VV.sl [(Go.V.VV.lit (Go.Value.int Go.IntKind.i64 (Int.ofNat 1))), (Go.V.VV.lit (Go.Value.int Go.IntKind.i64 (Int.ofNat 3)))] 1 Bool.false)]), (Go.V.VV.lit (Go.Value.int Go.IntKind.i64 (Int.ofNat 0)))])
end Go.V
end
section
namespace Go.V
open Go Go.Proofs
theorem pA : VPure Tryz.prog G0 52 [] (.tree kA) := VPure.closedB hmix 1000 (by kernel_rfl)
theorem pB : VPure Tryz.prog G0 55 [] (.tree kB) := VPure.closedB hmix 1000 (by kernel_rfl)
theorem pE : VPure Tryz.prog G0 54 [] (.tree kE) := VPure.closedB hmix 1000 (by kernel_rfl)
theorem pHolds : VPure Tryz.prog G0 51 [kA, .sl [.lit (.int .i64 (0)), .lit (.int .i64 (3)), .lit (.int .i64 (6))] 3 false, .sl [.lit (.int .i64 (6)), .lit (.int .i64 (5)), .lit (.int .i64 (10)), .lit (.int .i64 (2)), .lit (.int .i64 (6)), .lit (.int .i64 (5)), .lit (.int .i64 (8)), .lit (.int .i64 (4))] 8 false] (.tree kHolds) := VPure.closedB hmix 1000 (by kernel_rfl)
theorem pWord : VPure Tryz.prog G0 53 [kA, .sl [.lit (.int .i64 (3)), .lit (.int .i64 (5)), .lit (.int .i64 (6))] 3 false] (.tree kWord) := VPure.closedB hmix 1000 (by kernel_rfl)
theorem pFails : VPure Tryz.prog G0 47 [kA, .sl [.lit (.int .i64 (0)), .lit (.int .i64 (3)), .lit (.int .i64 (6))] 3 false] (.tree kFails) := VPure.closedB hmix 1000 (by kernel_rfl)
end Go.V
end
section
namespace Go.V
open Go Go.Proofs
theorem pProof : VPure Tryz.prog G0 48 [kA, .sl [.lit (.int .i64 (0)), .lit (.int .i64 (3)), .lit (.int .i64 (6))] 3 false] (.tree kProof) := VPure.closedB hmix 1000 (by kernel_rfl)
end Go.V
end
section
namespace Go.V
open Go Go.Proofs
theorem pFirst : VPure Tryz.prog G0 17 [kA] (.tree kFirst) := VPure.closedB hmix 1000 (by kernel_rfl)
end Go.V
end
section
namespace Go.V
open Go Go.Proofs
theorem pCount : VPure Tryz.prog G0 18 [kE] (.tree kCount) := VPure.closedB hmix 1000 (by kernel_rfl)
end Go.V
end
section
namespace Go.V
open Go Go.Proofs
theorem pDays : VPure Tryz.prog G0 26 [kE, .lit (.int .i64 (1))] (.tree kDays) := VPure.closedB hmix 1000 (by kernel_rfl)
end Go.V
end
section
namespace Go.V
open Go Go.Proofs
theorem pLate : VPure Tryz.prog G0 27 [kE] (.tree kLate) := VPure.closedB hmix 1000 (by kernel_rfl)
end Go.V
end
section
namespace Go.V
open Go Go.Proofs
theorem pQuick : VPure Tryz.prog G0 28 [kE] (.tree kQuick) := VPure.closedB hmix 1000 (by kernel_rfl)
end Go.V
end
section
namespace Go.V
open Go Go.Proofs
theorem pStuck : VPure Tryz.prog G0 34 [kB] (.tree kStuck) := VPure.closedB hmix 1000 (by kernel_rfl)
end Go.V
end
section
namespace Go.V
open Go Go.Proofs
theorem pSlack : VPure Tryz.prog G0 38 [kB] (.tree kSlack) := VPure.closedB hmix 1000 (by kernel_rfl)
end Go.V
end
section
namespace Go.V
open Go Go.Proofs
theorem pMend : VPure Tryz.prog G0 41 [kE, .sl [.lit (.int .i64 (0)), .lit (.int .i64 (3)), .lit (.int .i64 (6))] 3 false, .lit (.int .i64 (1))] (.tree kMend) := VPure.closedB hmix 1000 (by kernel_rfl)
end Go.V
end
section
namespace Go.V
open Go Go.Proofs
theorem pRead : VPure Tryz.prog G0 56 [.lit (.string ⟨⟨[100, 97, 121, 32, 49, 32, 50, 32, 121, 101, 115, 10, 99, 111, 97, 116, 32, 49, 32, 51, 10, 101, 110, 100, 32, 49, 48, 52, 10]⟩⟩)] (.tree kRead) := VPure.closedB hmix 1000 (by kernel_rfl)
end Go.V
end
section
namespace Go.V
open Go Go.Proofs
def kTab : KTab := [
  (52, [], kA),
  (55, [], kB),
  (54, [], kE),
  (51, [kA, .sl [.lit (.int .i64 (0)), .lit (.int .i64 (3)), .lit (.int .i64 (6))] 3 false, .sl [.lit (.int .i64 (6)), .lit (.int .i64 (5)), .lit (.int .i64 (10)), .lit (.int .i64 (2)), .lit (.int .i64 (6)), .lit (.int .i64 (5)), .lit (.int .i64 (8)), .lit (.int .i64 (4))] 8 false], kHolds),
  (53, [kA, .sl [.lit (.int .i64 (3)), .lit (.int .i64 (5)), .lit (.int .i64 (6))] 3 false], kWord),
  (47, [kA, .sl [.lit (.int .i64 (0)), .lit (.int .i64 (3)), .lit (.int .i64 (6))] 3 false], kFails),
  (48, [kA, .sl [.lit (.int .i64 (0)), .lit (.int .i64 (3)), .lit (.int .i64 (6))] 3 false], kProof),
  (17, [kA], kFirst),
  (18, [kE], kCount),
  (26, [kE, .lit (.int .i64 (1))], kDays),
  (27, [kE], kLate),
  (28, [kE], kQuick),
  (34, [kB], kStuck),
  (38, [kB], kSlack),
  (41, [kE, .sl [.lit (.int .i64 (0)), .lit (.int .i64 (3)), .lit (.int .i64 (6))] 3 false, .lit (.int .i64 (1))], kMend),
  (56, [.lit (.string ⟨⟨[100, 97, 121, 32, 49, 32, 50, 32, 121, 101, 115, 10, 99, 111, 97, 116, 32, 49, 32, 51, 10, 101, 110, 100, 32, 49, 48, 52, 10]⟩⟩)], kRead)]
theorem kTabOk : KTabOk Tryz.prog G0 kTab := ⟨⟨by kernel_rfl, pA⟩, ⟨⟨by kernel_rfl, pB⟩, ⟨⟨by kernel_rfl, pE⟩, ⟨⟨by kernel_rfl, pHolds⟩, ⟨⟨by kernel_rfl, pWord⟩, ⟨⟨by kernel_rfl, pFails⟩, ⟨⟨by kernel_rfl, pProof⟩, ⟨⟨by kernel_rfl, pFirst⟩, ⟨⟨by kernel_rfl, pCount⟩, ⟨⟨by kernel_rfl, pDays⟩, ⟨⟨by kernel_rfl, pLate⟩, ⟨⟨by kernel_rfl, pQuick⟩, ⟨⟨by kernel_rfl, pStuck⟩, ⟨⟨by kernel_rfl, pSlack⟩, ⟨⟨by kernel_rfl, pMend⟩, ⟨⟨by kernel_rfl, pRead⟩, trivial⟩⟩⟩⟩⟩⟩⟩⟩⟩⟩⟩⟩⟩⟩⟩⟩
theorem pKnown : VPure Tryz.prog G0 16 [] (.tree (.lit (.bool true))) := VPure.closedT hmix kTabOk 1000 (by kernel_rfl)
#print axioms pKnown
end Go.V
end
section
namespace Go.V
open Go Go.Proofs
theorem zcx : VPure Tryz.prog G0 16 [] (.tree (.lit (.bool true))) := pKnown
end Go.V
end
