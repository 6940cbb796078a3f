/- Part of a proof: a logic of values by content, lifted functions, what follows. -/
import Derived.Test.YtgdgkkloccpbnaaGreatDoorXbf
import Derived.Test.YtgdgkkloccpbnaaGreatDoorXbp
set_option linter.all false
set_option maxRecDepth 4000
set_option maxHeartbeats 40000000
section
namespace Go.V
open Go Go.Proofs
def zai (rc : GCoatSheet → (List Int) → Option (List (List Int))) (x0_s : GCoatSheet) (x1_now : List Int) : List Int → Int → (List (List Int)) → Option (LOut (List (List Int)) ((List (List Int))))
 | [], c0_6, c0_5 => some (.go c0_5)
 | e0 :: p0, c0_6, c0_5 => cond ((List.length x1_now : Int) == 0) (cond (neB x1_now) (cond (roomOk 8 (List.length ([] ++ x1_now))) (cond (roomOk 8 (List.length (([] ++ x1_now) ++ [e0]))) (Option.bind (rc x0_s (([] ++ x1_now) ++ [e0])) (fun r1 => cond (neB r1) (cond (roomOk 24 (List.length (c0_5 ++ r1))) (zai rc x0_s x1_now p0 (c0_6 + 1) (c0_5 ++ r1)) none) (zai rc x0_s x1_now p0 (c0_6 + 1) c0_5))) none) none) (cond (roomOk 8 (List.length (([] : List Int) ++ [e0]))) (Option.bind (rc x0_s (([] : List Int) ++ [e0])) (fun r2 => cond (neB r2) (cond (roomOk 24 (List.length (c0_5 ++ r2))) (zai rc x0_s x1_now p0 (c0_6 + 1) (c0_5 ++ r2)) none) (zai rc x0_s x1_now p0 (c0_6 + 1) c0_5))) none)) (Option.bind (getI x1_now (IntKind.i64.wrap ((List.length x1_now : Int) - 1))) (fun x3 => cond (decide (e0 > x3)) (cond (neB x1_now) (cond (roomOk 8 (List.length ([] ++ x1_now))) (cond (roomOk 8 (List.length (([] ++ x1_now) ++ [e0]))) (Option.bind (rc x0_s (([] ++ x1_now) ++ [e0])) (fun r4 => cond (neB r4) (cond (roomOk 24 (List.length (c0_5 ++ r4))) (zai rc x0_s x1_now p0 (c0_6 + 1) (c0_5 ++ r4)) none) (zai rc x0_s x1_now p0 (c0_6 + 1) c0_5))) none) none) (cond (roomOk 8 (List.length (([] : List Int) ++ [e0]))) (Option.bind (rc x0_s (([] : List Int) ++ [e0])) (fun r5 => cond (neB r5) (cond (roomOk 24 (List.length (c0_5 ++ r5))) (zai rc x0_s x1_now p0 (c0_6 + 1) (c0_5 ++ r5)) none) (zai rc x0_s x1_now p0 (c0_6 + 1) c0_5))) none)) (zai rc x0_s x1_now p0 (c0_6 + 1) c0_5)))
def zdg (rc : GCoatSheet → (List Int) → Option (List (List Int))) (x0_s : GCoatSheet) (x1_now : List Int) : Option (List (List Int)) := cond ((List.length x1_now : Int) == (List.length x0_s.Coats : Int)) (some ([x1_now])) (cond (lenOk x0_s.Work) (lbind (zai rc x0_s x1_now x0_s.Work 0 ([] : List (List Int))) (fun r7 => some r7) (fun c6 => some c6) (fun _ _ => none)) none)
theorem zle (rc : GCoatSheet → (List Int) → Option (List (List Int))) (rc_ok : ∀ (x0_s : GCoatSheet) (x1_now : List Int) (R : List (List Int)), rc x0_s x1_now = some R → VPure Tryz.prog G0 63 [.agg (cGCoatSheet x0_s), .sl (cellsL eI x1_now) (List.length x1_now) false] (.tree (.sl (cellsL (eSl eI) R) (List.length R) false))) (x0_s : GCoatSheet) (x1_now : List Int) (R : List (List Int)) (h : zdg rc x0_s x1_now = some R) : VPure Tryz.prog G0 63 [.agg (cGCoatSheet x0_s), .sl (cellsL eI x1_now) (List.length x1_now) false] (.tree (.sl (cellsL (eSl eI) R) (List.length R) false)) := by
 refine VPure.runR mixed Tryz.call63 Tryz.func63 rfl (by simp [Tryz.ntmps63]; kernel_rfl) ?_
 obtain ⟨KF, h, kF, kN⟩ := zan h
 simp only [zdg] at h
 cases d8 : ((List.length x1_now : Int) == (List.length x0_s.Coats : Int))
 ·simp only [d8, hs] at h
  cases g10 : (lenOk x0_s.Work)
  ·simp only [g10, hs] at h
   exact absurd h kN
  simp only [g10, hs] at h
  simp only [vzf, tyf, d8, g10, nm, seval]
  obtain ⟨K9, h, kR9, kG9, kB9, kN9⟩ := zap h kN
  obtain ⟨f9, hf9, h⟩ := call3 h
  obtain ⟨I9, hI9⟩ : ∃ I : Nat → St → Prop, I = (fun m st => ∃ (p9 : List Int) (c9_6 : Int) (c9_5 : List (List Int)) (y9_0 : VV), m = List.length p9 ∧ 0 ≤ c9_6 ∧ List.drop (Int.toNat c9_6) x0_s.Work = p9 ∧ st.df = [] ∧ 10 ≤ st.nx ∧ st.H 0 = some (.cells (some 26) (cGCoatSheet x0_s)) ∧ st.tm 1 = .sl (cellsL eI x1_now) (List.length x1_now) false ∧ st.tm 2 = .ptr 0 0 ∧ st.tm 5 = y9_0 ∧ st.tm 6 = .lit (.int .i64 c9_6) ∧ ((∃ (β : Nat) (el : Option TypeId), y9_0 = .ref β 0 (List.length c9_5) 1 (List.length c9_5) ∧ β < st.nx ∧ β ≠ 0 ∧ st.H β = some (.cells el (cellsL (eSl eI) c9_5))) ∨ (nilS y9_0 = .sl [] 0 true ∧ c9_5 = [])) ∧ K9 (f9 p9 c9_6 c9_5)) := ⟨_, rfl⟩
  refine loopK mixed (by kernel_rfl) I9 (List.length x0_s.Work) (by rw [hI9]; refine ⟨x0_s.Work, 0, ([] : List (List Int)), .lit (.slice none 0 0), rfl, Int.le_refl _, rfl, rfl, (show 10 ≤ 10 by omega), ?_, ?_, ?_, ?_, ?_, Or.inr ⟨rfl, rfl⟩, h⟩ <;> first | (simp only [ua, d8, nm, seval] <;> rfl) | rfl) ?_
  rintro m ⟨tm, H, nx9, df⟩ hinv
  rw [hI9] at hinv
  obtain ⟨p9, c9_6, c9_5, y9_0, rfl, hi9, hp9, hdf, hn9, H11, e12, e13, e14, e15, ow9_0, h⟩ := hinv
  simp only at hdf hn9 H11 e12 e13 e14 e15 ow9_0
  have n16 := zbr (m := 10) (b := nx9) (by omega)
  subst hdf hf9
  rcases ow9_0 with ⟨b9_0, el9_0, rfl, lq18, lq19, H17⟩ | ⟨hy_q18, rfl⟩
  ·have q18 := zlw lq18
   have q19 := ne_f lq19
   cases p9 with
   | nil =>
    have d20 : (decide (c9_6 < (List.length x0_s.Work : Int))) = false := zaf hi9 hp9
    simp only [zai, hs, reduceCtorEq] at h
    replace h := kG9 _ h
    try dsimp only at h
    try simp only [hs] at h
    try simp only [vzf, tyf, d8, g10, n16, e12, e13, e14, e15, H11, q18, H17, q19, d20, nm, seval]
    refine zbt (x := (.ref b9_0 0 (List.length c9_5) 1 (List.length c9_5))) (by first | (simp only [Tryz.results63, resV, resL, resV1, zcq, zev, uw, cr, tyf, d8, g10, n16, H11, q18, H17, q19, d20, nm, seval] <;> rfl) | rfl) ?_
    obtain rfl := kF _ h
    refine zcv ?_ ?_
    ·simp only [tre, tytre, Bool.and_self]
    ·first | exact zafl (by assumption) _ | (simp only [outV, uw, zba, cr, tyf, nrm, tynrm, d8, g10, n16, e12, e13, e14, e15, H11, q18, H17, q19, d20, nm, seval] <;> rfl) | rfl | (simp [outV, zba, updH, eSl, cellsL, normV, tynrm, nrm]; done)
   | cons e9 p9 =>
    have d21 : (decide (c9_6 < (List.length x0_s.Work : Int))) = true := zao hi9 hp9
    have o23 := zad hi9 hp9
    have w22 := zat hi9 hp9 g10
    simp only [zai, hs, reduceCtorEq] at h
    simp only [vzf, tyf, d8, g10, n16, e12, e13, e14, e15, H11, q18, H17, q19, d21, (ix23 o23), w22, nm, seval]
    refine zbl (fun tm => tm 1 = .sl (cellsL eI x1_now) (List.length x1_now) false ∧ tm 2 = .ptr 0 0 ∧ tm 5 = .ref b9_0 0 (List.length c9_5) 1 (List.length c9_5) ∧ tm 6 = .lit (.int .i64 c9_6) ∧ True) (by refine ⟨e12, e13, e14, e15, trivial⟩ <;> first | (simp only [ua, d8, n16, e12, e13, e14, e15, H11, q18, H17, q19, d21, w22, nm, seval] <;> rfl) | rfl) ?_
    rintro tm ⟨e24, e25, e26, e27, _⟩
    have b28 := And.intro d8 (And.intro g10 (And.intro n16 (And.intro H11 (And.intro q18 (And.intro H17 (And.intro q19 (And.intro d21 w22)))))))
    cases d29 : ((List.length x1_now : Int) == 0)
    ·simp only [d29, hs] at h
     rcases o31 : (getI x1_now (IntKind.i64.wrap ((List.length x1_now : Int) - 1))) with _ | x30
     ·simp only [o31, hs] at h
      exact absurd h kN9
     simp only [o31, hs] at h
     cases d32 : (decide (e9 > x30))
     ·simp only [d32, hs] at h
      simp only [vzf, tyf, b28, (ix23 o23), e24, e25, e26, e27, d29, (ix23 o31), d32, nm, seval]
      exact ⟨List.length p9, Nat.lt_succ_self _, by rw [hI9]; refine ⟨p9, c9_6 + 1, c9_5, .ref b9_0 0 (List.length c9_5) 1 (List.length c9_5), rfl, Int.le_trans hi9 (Int.le_add_one (Int.le_refl _)), zac hi9 hp9, rfl, (show 10 ≤ nx9 + 25 by omega), ?_, e24, e25, ?_, ?_, Or.inl ⟨b9_0, el9_0, rfl, (by first | omega | (simp only [nm, seval]; omega)), (by omega), ?_⟩, h⟩ <;> first | (simp only [ua, b28, e24, e25, e26, e27, d29, d32, nm, seval] <;> rfl) | rfl⟩
     simp only [d32, hs] at h
     simp only [vzf, tyf, b28, (ix23 o23), e24, e25, e26, e27, d29, (ix23 o31), d32, nm, seval]
     refine ziw (fun tm => tm 1 = .sl (cellsL eI x1_now) (List.length x1_now) false ∧ tm 2 = .ptr 0 0 ∧ tm 5 = .ref b9_0 0 (List.length c9_5) 1 (List.length c9_5) ∧ tm 6 = .lit (.int .i64 c9_6) ∧ True) (by refine ⟨e24, e25, e26, e27, trivial⟩ <;> first | (simp only [ua, b28, e24, e25, e26, e27, d29, d32, nm, seval] <;> rfl) | rfl) ?_
     rintro tm ⟨e33, e34, e35, e36, _⟩
     refine zmc mixed 0 [([false, true, true, true, true, true, true, true, true, true, true, false, false, false], 11)] [false, false, false, false, false, false, false, false, false, false, false, false, true, true] [true, false, false, false, false, false, false, false, false, false, false, false, true, true] (by kernel_rfl) ?_
     refine zmd ?_
     cases d37 : (neB x1_now)
     ·simp only [d37, hs] at h
      simp only [vzf, tyf, b28, (ix23 o23), d29, (ix23 o31), d32, e33, e34, e35, e36, d37, nm, seval]
      refine zhw (enc := eI) (ys := x1_now) ao23 Tryz.underlying23 d37 ?_
      cases g38 : (roomOk 8 (List.length (([] : List Int) ++ [e9])))
      ·simp only [g38, hs] at h
       exact absurd h kN9
      simp only [g38, hs] at h
      simp only [vzf, tyf, b28, (ix23 o23), d29, (ix23 o31), d32, e33, e34, e35, e36, d37, g38, zqa, nm, seval]
      refine zjk (w := 1) (enc := eI) (ys := ([e9])) (el2 := (some 3)) (fun _ => rfl) lf23 ao23 Tryz.underlying23 (by first | rfl | assumption | (simp only [zab, zaa, et23, b28, nm, seval] <;> rfl)) (Nat.zero_lt_succ _) g38 ?_
      simp only [vzf, tyf, b28, (ix23 o23), d29, (ix23 o31), d32, e33, e34, e35, e36, d37, g38, nm, seval]
      refine zbs (trT ?_)
      refine ⟨?_, ?_⟩
      ·refine zjj rfl ?_
       rcases o40 : (rc x0_s (([] : List Int) ++ [e9])) with _ | r39
       ·simp only [o40, hs] at h
        exact absurd h kN9
       simp only [o40, hs] at h
       simp only [vzf, tyf, b28, (ix23 o23), d29, (ix23 o31), d32, e33, e34, e35, e36, d37, g38, nm, seval]
       refine kfreezeI (el := (some 3)) (xs := (([] : List Int) ++ [e9])) (by first | rfl | assumption | (simp only [zab, zaa, et23, b28, nm, seval] <;> rfl)) (by first | (simp only [nrm, tynrm] <;> rfl) | rfl) (by simp only [tre, tytre, Bool.and_self]) (rc_ok _ _ _ o40) ?_
       refine zam (fun tm => tm 1 = .sl (cellsL eI x1_now) (List.length x1_now) false ∧ tm 2 = .ptr 0 0 ∧ tm 5 = .ref b9_0 0 (List.length c9_5) 1 (List.length c9_5) ∧ tm 6 = .lit (.int .i64 c9_6) ∧ tm 50 = .sl (cellsL (eSl eI) r39) (List.length r39) false ∧ True) (by refine ⟨e33, e34, e35, e36, ?_, trivial⟩ <;> first | (simp only [ua, b28, d29, d32, e33, e34, e35, e36, d37, nm, seval] <;> rfl) | rfl) ?_
       rintro tm ⟨e41, e42, e43, e44, e45, _⟩
       try simp only [vzf, tyf, b28, (ix23 o23), d29, (ix23 o31), d32, d37, g38, e41, e42, e43, e44, e45, nm, seval]
       refine zge ?_
       cases d46 : (neB r39)
       ·simp only [d46, hs] at h
        simp only [vzf, tyf, b28, (ix23 o23), d29, (ix23 o31), d32, d37, g38, e41, e42, e43, e44, e45, d46, nm, seval]
        refine zlj (w := 1) (enc := (eSl eI)) (xs := c9_5) (ys := r39) (el := el9_0) (fun _ => rfl) lf34 ao34 Tryz.underlying34 (by first | rfl | assumption | (simp only [zab, zaa, et34, b28, nm, seval] <;> rfl)) d46 ?_
        simp only [vzf, tyf, b28, (ix23 o23), d29, (ix23 o31), d32, d37, g38, e41, e42, e43, e44, e45, d46, nm, seval]
        refine zbs (trT ?_)
        try simp only [vzf, tyf, b28, (ix23 o23), d29, (ix23 o31), d32, d37, g38, e41, e42, e43, e44, e45, d46, nm, seval]
        exact ⟨List.length p9, Nat.lt_succ_self _, by rw [hI9]; refine ⟨p9, c9_6 + 1, c9_5, .ref b9_0 0 (List.length c9_5) 1 (List.length c9_5), rfl, Int.le_trans hi9 (Int.le_add_one (Int.le_refl _)), zac hi9 hp9, rfl, (show 10 ≤ nx9 + 39 by omega), ?_, e41, e42, ?_, ?_, Or.inl ⟨b9_0, el9_0, rfl, (by first | omega | (simp only [nm, seval]; omega)), (by omega), ?_⟩, h⟩ <;> first | (simp only [ua, b28, d29, d32, d37, e41, e42, e43, e44, e45, d46, nm, seval] <;> rfl) | rfl⟩
       simp only [d46, hs] at h
       cases g47 : (roomOk 24 (List.length (c9_5 ++ r39)))
       ·simp only [g47, hs] at h
        exact absurd h kN9
       simp only [g47, hs] at h
       simp only [vzf, tyf, b28, (ix23 o23), d29, (ix23 o31), d32, d37, g38, e41, e42, e43, e44, e45, d46, g47, nm, seval]
       refine zqn (w := 1) (enc := (eSl eI)) (xs := c9_5) (ys := r39) (el := el9_0) (fun _ => rfl) lf34 ao34 Tryz.underlying34 (by first | rfl | assumption | (simp only [zab, zaa, et34, b28, nm, seval] <;> rfl)) d46 g47 ?_
       simp only [vzf, tyf, b28, (ix23 o23), d29, (ix23 o31), d32, d37, g38, e41, e42, e43, e44, e45, d46, g47, nm, seval]
       refine zbs (trT ?_)
       try simp only [vzf, tyf, b28, (ix23 o23), d29, (ix23 o31), d32, d37, g38, e41, e42, e43, e44, e45, d46, g47, nm, seval]
       exact ⟨List.length p9, Nat.lt_succ_self _, by rw [hI9]; refine ⟨p9, c9_6 + 1, (c9_5 ++ r39), .ref (nx9 + 34) 0 (List.length (c9_5 ++ r39)) 1 (List.length (c9_5 ++ r39)), rfl, Int.le_trans hi9 (Int.le_add_one (Int.le_refl _)), zac hi9 hp9, rfl, (show 10 ≤ nx9 + 39 by omega), ?_, e41, e42, ?_, ?_, Or.inl ⟨nx9 + 34, (sameEl el9_0 23), rfl, (by first | omega | (simp only [nm, seval]; omega)), (by omega), ?_⟩, h⟩ <;> first | (simp only [ua, b28, d29, d32, d37, e41, e42, e43, e44, e45, d46, nm, seval] <;> rfl) | rfl⟩
      refine zsi rfl ?_
      try simp only [vzf, tyf, b28, (ix23 o23), d29, (ix23 o31), d32, e33, e34, e35, e36, d37, g38, nm, seval]
      refine trT ?_
      refine zjj rfl ?_
      rcases o49 : (rc x0_s (([] : List Int) ++ [e9])) with _ | r48
      ·simp only [o49, hs] at h
       exact absurd h kN9
      simp only [o49, hs] at h
      simp only [vzf, tyf, b28, (ix23 o23), d29, (ix23 o31), d32, e33, e34, e35, e36, d37, g38, nm, seval]
      refine kfreezeI (el := (some 3)) (xs := (([] : List Int) ++ [e9])) (by first | rfl | assumption | (simp only [zab, zaa, et23, b28, nm, seval] <;> rfl)) (by first | (simp only [nrm, tynrm] <;> rfl) | rfl) (by simp only [tre, tytre, Bool.and_self]) (rc_ok _ _ _ o49) ?_
      refine zam (fun tm => tm 1 = .sl (cellsL eI x1_now) (List.length x1_now) false ∧ tm 2 = .ptr 0 0 ∧ tm 6 = .lit (.int .i64 c9_6) ∧ tm 39 = .ref b9_0 0 (List.length c9_5) 1 (List.length c9_5) ∧ tm 50 = .sl (cellsL (eSl eI) r48) (List.length r48) false ∧ True) (by refine ⟨e33, e34, e36, ?_, ?_, trivial⟩ <;> first | (simp only [ua, b28, d29, d32, e33, e34, e35, e36, d37, nm, seval] <;> rfl) | rfl) ?_
      rintro tm ⟨e50, e51, e52, e53, e54, _⟩
      try simp only [vzf, tyf, b28, (ix23 o23), d29, (ix23 o31), d32, d37, g38, e50, e51, e52, e53, e54, nm, seval]
      refine zgd ?_
      cases d55 : (neB r48)
      ·simp only [d55, hs] at h
       simp only [vzf, tyf, b28, (ix23 o23), d29, (ix23 o31), d32, d37, g38, e50, e51, e52, e53, e54, d55, nm, seval]
       refine zlj (w := 1) (enc := (eSl eI)) (xs := c9_5) (ys := r48) (el := el9_0) (fun _ => rfl) lf34 ao34 Tryz.underlying34 (by first | rfl | assumption | (simp only [zab, zaa, et34, b28, nm, seval] <;> rfl)) d55 ?_
       simp only [vzf, tyf, b28, (ix23 o23), d29, (ix23 o31), d32, d37, g38, e50, e51, e52, e53, e54, d55, nm, seval]
       refine zbs (trT ?_)
       try simp only [vzf, tyf, b28, (ix23 o23), d29, (ix23 o31), d32, d37, g38, e50, e51, e52, e53, e54, d55, nm, seval]
       exact ⟨List.length p9, Nat.lt_succ_self _, by rw [hI9]; refine ⟨p9, c9_6 + 1, c9_5, .ref b9_0 0 (List.length c9_5) 1 (List.length c9_5), rfl, Int.le_trans hi9 (Int.le_add_one (Int.le_refl _)), zac hi9 hp9, rfl, (show 10 ≤ nx9 + 39 by omega), ?_, e50, e51, ?_, ?_, Or.inl ⟨b9_0, el9_0, rfl, (by first | omega | (simp only [nm, seval]; omega)), (by omega), ?_⟩, h⟩ <;> first | (simp only [ua, b28, d29, d32, d37, e50, e51, e52, e53, e54, d55, nm, seval] <;> rfl) | rfl⟩
      simp only [d55, hs] at h
      cases g56 : (roomOk 24 (List.length (c9_5 ++ r48)))
      ·simp only [g56, hs] at h
       exact absurd h kN9
      simp only [g56, hs] at h
      simp only [vzf, tyf, b28, (ix23 o23), d29, (ix23 o31), d32, d37, g38, e50, e51, e52, e53, e54, d55, g56, nm, seval]
      refine zqn (w := 1) (enc := (eSl eI)) (xs := c9_5) (ys := r48) (el := el9_0) (fun _ => rfl) lf34 ao34 Tryz.underlying34 (by first | rfl | assumption | (simp only [zab, zaa, et34, b28, nm, seval] <;> rfl)) d55 g56 ?_
      simp only [vzf, tyf, b28, (ix23 o23), d29, (ix23 o31), d32, d37, g38, e50, e51, e52, e53, e54, d55, g56, nm, seval]
      refine zbs (trT ?_)
      try simp only [vzf, tyf, b28, (ix23 o23), d29, (ix23 o31), d32, d37, g38, e50, e51, e52, e53, e54, d55, g56, nm, seval]
      exact ⟨List.length p9, Nat.lt_succ_self _, by rw [hI9]; refine ⟨p9, c9_6 + 1, (c9_5 ++ r48), .ref (nx9 + 34) 0 (List.length (c9_5 ++ r48)) 1 (List.length (c9_5 ++ r48)), rfl, Int.le_trans hi9 (Int.le_add_one (Int.le_refl _)), zac hi9 hp9, rfl, (show 10 ≤ nx9 + 39 by omega), ?_, e50, e51, ?_, ?_, Or.inl ⟨nx9 + 34, (sameEl el9_0 23), rfl, (by first | omega | (simp only [nm, seval]; omega)), (by omega), ?_⟩, h⟩ <;> first | (simp only [ua, b28, d29, d32, d37, e50, e51, e52, e53, e54, d55, nm, seval] <;> rfl) | rfl⟩
     simp only [d37, hs] at h
     cases g57 : (roomOk 8 (List.length ([] ++ x1_now)))
     ·simp only [g57, hs] at h
      exact absurd h kN9
     simp only [g57, hs] at h
     simp only [vzf, tyf, b28, (ix23 o23), d29, (ix23 o31), d32, e33, e34, e35, e36, d37, g57, nm, seval]
     refine zhu (w := 1) (enc := eI) (ys := x1_now) (fun _ => rfl) lf23 ao23 Tryz.underlying23 d37 g57 ?_
     cases g58 : (roomOk 8 (List.length (([] ++ x1_now) ++ [e9])))
     ·simp only [g58, hs] at h
      exact absurd h kN9
     simp only [g58, hs] at h
     simp only [vzf, tyf, b28, (ix23 o23), d29, (ix23 o31), d32, e33, e34, e35, e36, d37, g57, g58, nm, seval]
     refine k_app (w := 1) (enc := eI) (xs := ([] ++ x1_now)) (ys := ([e9])) (el := (some 3)) (el2 := (some 3)) (fun _ => rfl) lf23 ao23 Tryz.underlying23 (by first | rfl | assumption | (simp only [zab, zaa, et23, b28, nm, seval] <;> rfl)) (by first | rfl | assumption | (simp only [zab, zaa, et23, b28, nm, seval] <;> rfl)) (Nat.zero_lt_succ _) g58 ?_
     simp only [vzf, tyf, b28, (ix23 o23), d29, (ix23 o31), d32, e33, e34, e35, e36, d37, g57, g58, nm, seval]
     refine zbs (trT ?_)
     refine ⟨?_, ?_⟩
     ·refine zjj rfl ?_
      rcases o60 : (rc x0_s (([] ++ x1_now) ++ [e9])) with _ | r59
      ·simp only [o60, hs] at h
       exact absurd h kN9
      simp only [o60, hs] at h
      simp only [vzf, tyf, b28, (ix23 o23), d29, (ix23 o31), d32, e33, e34, e35, e36, d37, g57, g58, nm, seval]
      refine kfreezeI (el := (sameEl (some 3) 3)) (xs := (([] ++ x1_now) ++ [e9])) (by first | rfl | assumption | (simp only [zab, zaa, et23, b28, nm, seval] <;> rfl)) (by first | (simp only [nrm, tynrm] <;> rfl) | rfl) (by simp only [tre, tytre, Bool.and_self]) (rc_ok _ _ _ o60) ?_
      refine zam (fun tm => tm 1 = .sl (cellsL eI x1_now) (List.length x1_now) false ∧ tm 2 = .ptr 0 0 ∧ tm 5 = .ref b9_0 0 (List.length c9_5) 1 (List.length c9_5) ∧ tm 6 = .lit (.int .i64 c9_6) ∧ tm 50 = .sl (cellsL (eSl eI) r59) (List.length r59) false ∧ True) (by refine ⟨e33, e34, e35, e36, ?_, trivial⟩ <;> first | (simp only [ua, b28, d29, d32, e33, e34, e35, e36, d37, nm, seval] <;> rfl) | rfl) ?_
      rintro tm ⟨e61, e62, e63, e64, e65, _⟩
      try simp only [vzf, tyf, b28, (ix23 o23), d29, (ix23 o31), d32, d37, g57, g58, e61, e62, e63, e64, e65, nm, seval]
      refine zge ?_
      cases d66 : (neB r59)
      ·simp only [d66, hs] at h
       have b67 := And.intro b28 (And.intro d29 (And.intro d32 (And.intro d37 (And.intro g57 (And.intro g58 d66)))))
       simp only [vzf, tyf, b67, (ix23 o23), (ix23 o31), e61, e62, e63, e64, e65, nm, seval]
       refine zlj (w := 1) (enc := (eSl eI)) (xs := c9_5) (ys := r59) (el := el9_0) (fun _ => rfl) lf34 ao34 Tryz.underlying34 (by first | rfl | assumption | (simp only [zab, zaa, et34, b67, nm, seval] <;> rfl)) d66 ?_
       simp only [vzf, tyf, b67, (ix23 o23), (ix23 o31), e61, e62, e63, e64, e65, nm, seval]
       refine zbs (trT ?_)
       try simp only [vzf, tyf, b67, (ix23 o23), (ix23 o31), e61, e62, e63, e64, e65, nm, seval]
       exact ⟨List.length p9, Nat.lt_succ_self _, by rw [hI9]; refine ⟨p9, c9_6 + 1, c9_5, .ref b9_0 0 (List.length c9_5) 1 (List.length c9_5), rfl, Int.le_trans hi9 (Int.le_add_one (Int.le_refl _)), zac hi9 hp9, rfl, (show 10 ≤ nx9 + 39 by omega), ?_, e61, e62, ?_, ?_, Or.inl ⟨b9_0, el9_0, rfl, (by first | omega | (simp only [nm, seval]; omega)), (by omega), ?_⟩, h⟩ <;> first | (simp only [ua, b67, e61, e62, e63, e64, e65, nm, seval] <;> rfl) | rfl⟩
      simp only [d66, hs] at h
      have b68 := And.intro b28 (And.intro d29 (And.intro d32 (And.intro d37 (And.intro g57 (And.intro g58 d66)))))
      cases g69 : (roomOk 24 (List.length (c9_5 ++ r59)))
      ·simp only [g69, hs] at h
       exact absurd h kN9
      simp only [g69, hs] at h
      simp only [vzf, tyf, b68, (ix23 o23), (ix23 o31), e61, e62, e63, e64, e65, g69, nm, seval]
      refine zqn (w := 1) (enc := (eSl eI)) (xs := c9_5) (ys := r59) (el := el9_0) (fun _ => rfl) lf34 ao34 Tryz.underlying34 (by first | rfl | assumption | (simp only [zab, zaa, et34, b68, nm, seval] <;> rfl)) d66 g69 ?_
      simp only [vzf, tyf, b68, (ix23 o23), (ix23 o31), e61, e62, e63, e64, e65, g69, nm, seval]
      refine zbs (trT ?_)
      try simp only [vzf, tyf, b68, (ix23 o23), (ix23 o31), e61, e62, e63, e64, e65, g69, nm, seval]
      exact ⟨List.length p9, Nat.lt_succ_self _, by rw [hI9]; refine ⟨p9, c9_6 + 1, (c9_5 ++ r59), .ref (nx9 + 34) 0 (List.length (c9_5 ++ r59)) 1 (List.length (c9_5 ++ r59)), rfl, Int.le_trans hi9 (Int.le_add_one (Int.le_refl _)), zac hi9 hp9, rfl, (show 10 ≤ nx9 + 39 by omega), ?_, e61, e62, ?_, ?_, Or.inl ⟨nx9 + 34, (sameEl el9_0 23), rfl, (by first | omega | (simp only [nm, seval]; omega)), (by omega), ?_⟩, h⟩ <;> first | (simp only [ua, b68, e61, e62, e63, e64, e65, nm, seval] <;> rfl) | rfl⟩
     refine zsi rfl ?_
     try simp only [vzf, tyf, b28, (ix23 o23), d29, (ix23 o31), d32, e33, e34, e35, e36, d37, g57, g58, nm, seval]
     refine trT ?_
     refine zjj rfl ?_
     rcases o71 : (rc x0_s (([] ++ x1_now) ++ [e9])) with _ | r70
     ·simp only [o71, hs] at h
      exact absurd h kN9
     simp only [o71, hs] at h
     simp only [vzf, tyf, b28, (ix23 o23), d29, (ix23 o31), d32, e33, e34, e35, e36, d37, g57, g58, nm, seval]
     refine kfreezeI (el := (sameEl (some 3) 3)) (xs := (([] ++ x1_now) ++ [e9])) (by first | rfl | assumption | (simp only [zab, zaa, et23, b28, nm, seval] <;> rfl)) (by first | (simp only [nrm, tynrm] <;> rfl) | rfl) (by simp only [tre, tytre, Bool.and_self]) (rc_ok _ _ _ o71) ?_
     refine zam (fun tm => tm 1 = .sl (cellsL eI x1_now) (List.length x1_now) false ∧ tm 2 = .ptr 0 0 ∧ tm 6 = .lit (.int .i64 c9_6) ∧ tm 39 = .ref b9_0 0 (List.length c9_5) 1 (List.length c9_5) ∧ tm 50 = .sl (cellsL (eSl eI) r70) (List.length r70) false ∧ True) (by refine ⟨e33, e34, e36, ?_, ?_, trivial⟩ <;> first | (simp only [ua, b28, d29, d32, e33, e34, e35, e36, d37, nm, seval] <;> rfl) | rfl) ?_
     rintro tm ⟨e72, e73, e74, e75, e76, _⟩
     try simp only [vzf, tyf, b28, (ix23 o23), d29, (ix23 o31), d32, d37, g57, g58, e72, e73, e74, e75, e76, nm, seval]
     refine zgd ?_
     cases d77 : (neB r70)
     ·simp only [d77, hs] at h
      have b78 := And.intro b28 (And.intro d29 (And.intro d32 (And.intro d37 (And.intro g57 (And.intro g58 d77)))))
      simp only [vzf, tyf, b78, (ix23 o23), (ix23 o31), e72, e73, e74, e75, e76, nm, seval]
      refine zlj (w := 1) (enc := (eSl eI)) (xs := c9_5) (ys := r70) (el := el9_0) (fun _ => rfl) lf34 ao34 Tryz.underlying34 (by first | rfl | assumption | (simp only [zab, zaa, et34, b78, nm, seval] <;> rfl)) d77 ?_
      simp only [vzf, tyf, b78, (ix23 o23), (ix23 o31), e72, e73, e74, e75, e76, nm, seval]
      refine zbs (trT ?_)
      try simp only [vzf, tyf, b78, (ix23 o23), (ix23 o31), e72, e73, e74, e75, e76, nm, seval]
      exact ⟨List.length p9, Nat.lt_succ_self _, by rw [hI9]; refine ⟨p9, c9_6 + 1, c9_5, .ref b9_0 0 (List.length c9_5) 1 (List.length c9_5), rfl, Int.le_trans hi9 (Int.le_add_one (Int.le_refl _)), zac hi9 hp9, rfl, (show 10 ≤ nx9 + 39 by omega), ?_, e72, e73, ?_, ?_, Or.inl ⟨b9_0, el9_0, rfl, (by first | omega | (simp only [nm, seval]; omega)), (by omega), ?_⟩, h⟩ <;> first | (simp only [ua, b78, e72, e73, e74, e75, e76, nm, seval] <;> rfl) | rfl⟩
     simp only [d77, hs] at h
     have b79 := And.intro b28 (And.intro d29 (And.intro d32 (And.intro d37 (And.intro g57 (And.intro g58 d77)))))
     cases g80 : (roomOk 24 (List.length (c9_5 ++ r70)))
     ·simp only [g80, hs] at h
      exact absurd h kN9
     simp only [g80, hs] at h
     simp only [vzf, tyf, b79, (ix23 o23), (ix23 o31), e72, e73, e74, e75, e76, g80, nm, seval]
     refine zqn (w := 1) (enc := (eSl eI)) (xs := c9_5) (ys := r70) (el := el9_0) (fun _ => rfl) lf34 ao34 Tryz.underlying34 (by first | rfl | assumption | (simp only [zab, zaa, et34, b79, nm, seval] <;> rfl)) d77 g80 ?_
     simp only [vzf, tyf, b79, (ix23 o23), (ix23 o31), e72, e73, e74, e75, e76, g80, nm, seval]
     refine zbs (trT ?_)
     try simp only [vzf, tyf, b79, (ix23 o23), (ix23 o31), e72, e73, e74, e75, e76, g80, nm, seval]
     exact ⟨List.length p9, Nat.lt_succ_self _, by rw [hI9]; refine ⟨p9, c9_6 + 1, (c9_5 ++ r70), .ref (nx9 + 34) 0 (List.length (c9_5 ++ r70)) 1 (List.length (c9_5 ++ r70)), rfl, Int.le_trans hi9 (Int.le_add_one (Int.le_refl _)), zac hi9 hp9, rfl, (show 10 ≤ nx9 + 39 by omega), ?_, e72, e73, ?_, ?_, Or.inl ⟨nx9 + 34, (sameEl el9_0 23), rfl, (by first | omega | (simp only [nm, seval]; omega)), (by omega), ?_⟩, h⟩ <;> first | (simp only [ua, b79, e72, e73, e74, e75, e76, nm, seval] <;> rfl) | rfl⟩
    simp only [d29, hs] at h
    simp only [vzf, tyf, b28, (ix23 o23), e24, e25, e26, e27, d29, nm, seval]
    refine ziw (fun tm => tm 1 = .sl (cellsL eI x1_now) (List.length x1_now) false ∧ tm 2 = .ptr 0 0 ∧ tm 5 = .ref b9_0 0 (List.length c9_5) 1 (List.length c9_5) ∧ tm 6 = .lit (.int .i64 c9_6) ∧ True) (by refine ⟨e24, e25, e26, e27, trivial⟩ <;> first | (simp only [ua, b28, e24, e25, e26, e27, d29, nm, seval] <;> rfl) | rfl) ?_
    rintro tm ⟨e81, e82, e83, e84, _⟩
    refine zmc mixed 0 [([false, true, true, true, true, true, true, true, true, true, true, false, false, false], 11)] [false, false, false, false, false, false, false, false, false, false, false, false, true, true] [true, false, false, false, false, false, false, false, false, false, false, false, true, true] (by kernel_rfl) ?_
    refine zmd ?_
    cases d85 : (neB x1_now)
    ·simp only [d85, hs] at h
     simp only [vzf, tyf, b28, (ix23 o23), d29, e81, e82, e83, e84, d85, nm, seval]
     refine zhw (enc := eI) (ys := x1_now) ao23 Tryz.underlying23 d85 ?_
     cases g86 : (roomOk 8 (List.length (([] : List Int) ++ [e9])))
     ·simp only [g86, hs] at h
      exact absurd h kN9
     simp only [g86, hs] at h
     simp only [vzf, tyf, b28, (ix23 o23), d29, e81, e82, e83, e84, d85, g86, zqa, nm, seval]
     refine zjk (w := 1) (enc := eI) (ys := ([e9])) (el2 := (some 3)) (fun _ => rfl) lf23 ao23 Tryz.underlying23 (by first | rfl | assumption | (simp only [zab, zaa, et23, b28, nm, seval] <;> rfl)) (Nat.zero_lt_succ _) g86 ?_
     simp only [vzf, tyf, b28, (ix23 o23), d29, e81, e82, e83, e84, d85, g86, nm, seval]
     refine zbs (trT ?_)
     refine ⟨?_, ?_⟩
     ·refine zjj rfl ?_
      rcases o88 : (rc x0_s (([] : List Int) ++ [e9])) with _ | r87
      ·simp only [o88, hs] at h
       exact absurd h kN9
      simp only [o88, hs] at h
      simp only [vzf, tyf, b28, (ix23 o23), d29, e81, e82, e83, e84, d85, g86, nm, seval]
      refine kfreezeI (el := (some 3)) (xs := (([] : List Int) ++ [e9])) (by first | rfl | assumption | (simp only [zab, zaa, et23, b28, nm, seval] <;> rfl)) (by first | (simp only [nrm, tynrm] <;> rfl) | rfl) (by simp only [tre, tytre, Bool.and_self]) (rc_ok _ _ _ o88) ?_
      refine zam (fun tm => tm 1 = .sl (cellsL eI x1_now) (List.length x1_now) false ∧ tm 2 = .ptr 0 0 ∧ tm 5 = .ref b9_0 0 (List.length c9_5) 1 (List.length c9_5) ∧ tm 6 = .lit (.int .i64 c9_6) ∧ tm 50 = .sl (cellsL (eSl eI) r87) (List.length r87) false ∧ True) (by refine ⟨e81, e82, e83, e84, ?_, trivial⟩ <;> first | (simp only [ua, b28, d29, e81, e82, e83, e84, d85, nm, seval] <;> rfl) | rfl) ?_
      rintro tm ⟨e89, e90, e91, e92, e93, _⟩
      try simp only [vzf, tyf, b28, (ix23 o23), d29, d85, g86, e89, e90, e91, e92, e93, nm, seval]
      refine zge ?_
      cases d94 : (neB r87)
      ·simp only [d94, hs] at h
       simp only [vzf, tyf, b28, (ix23 o23), d29, d85, g86, e89, e90, e91, e92, e93, d94, nm, seval]
       refine zlj (w := 1) (enc := (eSl eI)) (xs := c9_5) (ys := r87) (el := el9_0) (fun _ => rfl) lf34 ao34 Tryz.underlying34 (by first | rfl | assumption | (simp only [zab, zaa, et34, b28, nm, seval] <;> rfl)) d94 ?_
       simp only [vzf, tyf, b28, (ix23 o23), d29, d85, g86, e89, e90, e91, e92, e93, d94, nm, seval]
       refine zbs (trT ?_)
       try simp only [vzf, tyf, b28, (ix23 o23), d29, d85, g86, e89, e90, e91, e92, e93, d94, nm, seval]
       exact ⟨List.length p9, Nat.lt_succ_self _, by rw [hI9]; refine ⟨p9, c9_6 + 1, c9_5, .ref b9_0 0 (List.length c9_5) 1 (List.length c9_5), rfl, Int.le_trans hi9 (Int.le_add_one (Int.le_refl _)), zac hi9 hp9, rfl, (show 10 ≤ nx9 + 39 by omega), ?_, e89, e90, ?_, ?_, Or.inl ⟨b9_0, el9_0, rfl, (by first | omega | (simp only [nm, seval]; omega)), (by omega), ?_⟩, h⟩ <;> first | (simp only [ua, b28, d29, d85, e89, e90, e91, e92, e93, d94, nm, seval] <;> rfl) | rfl⟩
      simp only [d94, hs] at h
      cases g95 : (roomOk 24 (List.length (c9_5 ++ r87)))
      ·simp only [g95, hs] at h
       exact absurd h kN9
      simp only [g95, hs] at h
      simp only [vzf, tyf, b28, (ix23 o23), d29, d85, g86, e89, e90, e91, e92, e93, d94, g95, nm, seval]
      refine zqn (w := 1) (enc := (eSl eI)) (xs := c9_5) (ys := r87) (el := el9_0) (fun _ => rfl) lf34 ao34 Tryz.underlying34 (by first | rfl | assumption | (simp only [zab, zaa, et34, b28, nm, seval] <;> rfl)) d94 g95 ?_
      simp only [vzf, tyf, b28, (ix23 o23), d29, d85, g86, e89, e90, e91, e92, e93, d94, g95, nm, seval]
      refine zbs (trT ?_)
      try simp only [vzf, tyf, b28, (ix23 o23), d29, d85, g86, e89, e90, e91, e92, e93, d94, g95, nm, seval]
      exact ⟨List.length p9, Nat.lt_succ_self _, by rw [hI9]; refine ⟨p9, c9_6 + 1, (c9_5 ++ r87), .ref (nx9 + 34) 0 (List.length (c9_5 ++ r87)) 1 (List.length (c9_5 ++ r87)), rfl, Int.le_trans hi9 (Int.le_add_one (Int.le_refl _)), zac hi9 hp9, rfl, (show 10 ≤ nx9 + 39 by omega), ?_, e89, e90, ?_, ?_, Or.inl ⟨nx9 + 34, (sameEl el9_0 23), rfl, (by first | omega | (simp only [nm, seval]; omega)), (by omega), ?_⟩, h⟩ <;> first | (simp only [ua, b28, d29, d85, e89, e90, e91, e92, e93, d94, nm, seval] <;> rfl) | rfl⟩
     refine zsi rfl ?_
     try simp only [vzf, tyf, b28, (ix23 o23), d29, e81, e82, e83, e84, d85, g86, nm, seval]
     refine trT ?_
     refine zjj rfl ?_
     rcases o97 : (rc x0_s (([] : List Int) ++ [e9])) with _ | r96
     ·simp only [o97, hs] at h
      exact absurd h kN9
     simp only [o97, hs] at h
     simp only [vzf, tyf, b28, (ix23 o23), d29, e81, e82, e83, e84, d85, g86, nm, seval]
     refine kfreezeI (el := (some 3)) (xs := (([] : List Int) ++ [e9])) (by first | rfl | assumption | (simp only [zab, zaa, et23, b28, nm, seval] <;> rfl)) (by first | (simp only [nrm, tynrm] <;> rfl) | rfl) (by simp only [tre, tytre, Bool.and_self]) (rc_ok _ _ _ o97) ?_
     refine zam (fun tm => tm 1 = .sl (cellsL eI x1_now) (List.length x1_now) false ∧ tm 2 = .ptr 0 0 ∧ tm 6 = .lit (.int .i64 c9_6) ∧ tm 39 = .ref b9_0 0 (List.length c9_5) 1 (List.length c9_5) ∧ tm 50 = .sl (cellsL (eSl eI) r96) (List.length r96) false ∧ True) (by refine ⟨e81, e82, e84, ?_, ?_, trivial⟩ <;> first | (simp only [ua, b28, d29, e81, e82, e83, e84, d85, nm, seval] <;> rfl) | rfl) ?_
     rintro tm ⟨e98, e99, e100, e101, e102, _⟩
     try simp only [vzf, tyf, b28, (ix23 o23), d29, d85, g86, e98, e99, e100, e101, e102, nm, seval]
     refine zgd ?_
     cases d103 : (neB r96)
     ·simp only [d103, hs] at h
      simp only [vzf, tyf, b28, (ix23 o23), d29, d85, g86, e98, e99, e100, e101, e102, d103, nm, seval]
      refine zlj (w := 1) (enc := (eSl eI)) (xs := c9_5) (ys := r96) (el := el9_0) (fun _ => rfl) lf34 ao34 Tryz.underlying34 (by first | rfl | assumption | (simp only [zab, zaa, et34, b28, nm, seval] <;> rfl)) d103 ?_
      simp only [vzf, tyf, b28, (ix23 o23), d29, d85, g86, e98, e99, e100, e101, e102, d103, nm, seval]
      refine zbs (trT ?_)
      try simp only [vzf, tyf, b28, (ix23 o23), d29, d85, g86, e98, e99, e100, e101, e102, d103, nm, seval]
      exact ⟨List.length p9, Nat.lt_succ_self _, by rw [hI9]; refine ⟨p9, c9_6 + 1, c9_5, .ref b9_0 0 (List.length c9_5) 1 (List.length c9_5), rfl, Int.le_trans hi9 (Int.le_add_one (Int.le_refl _)), zac hi9 hp9, rfl, (show 10 ≤ nx9 + 39 by omega), ?_, e98, e99, ?_, ?_, Or.inl ⟨b9_0, el9_0, rfl, (by first | omega | (simp only [nm, seval]; omega)), (by omega), ?_⟩, h⟩ <;> first | (simp only [ua, b28, d29, d85, e98, e99, e100, e101, e102, d103, nm, seval] <;> rfl) | rfl⟩
     simp only [d103, hs] at h
     cases g104 : (roomOk 24 (List.length (c9_5 ++ r96)))
     ·simp only [g104, hs] at h
      exact absurd h kN9
     simp only [g104, hs] at h
     simp only [vzf, tyf, b28, (ix23 o23), d29, d85, g86, e98, e99, e100, e101, e102, d103, g104, nm, seval]
     refine zqn (w := 1) (enc := (eSl eI)) (xs := c9_5) (ys := r96) (el := el9_0) (fun _ => rfl) lf34 ao34 Tryz.underlying34 (by first | rfl | assumption | (simp only [zab, zaa, et34, b28, nm, seval] <;> rfl)) d103 g104 ?_
     simp only [vzf, tyf, b28, (ix23 o23), d29, d85, g86, e98, e99, e100, e101, e102, d103, g104, nm, seval]
     refine zbs (trT ?_)
     try simp only [vzf, tyf, b28, (ix23 o23), d29, d85, g86, e98, e99, e100, e101, e102, d103, g104, nm, seval]
     exact ⟨List.length p9, Nat.lt_succ_self _, by rw [hI9]; refine ⟨p9, c9_6 + 1, (c9_5 ++ r96), .ref (nx9 + 34) 0 (List.length (c9_5 ++ r96)) 1 (List.length (c9_5 ++ r96)), rfl, Int.le_trans hi9 (Int.le_add_one (Int.le_refl _)), zac hi9 hp9, rfl, (show 10 ≤ nx9 + 39 by omega), ?_, e98, e99, ?_, ?_, Or.inl ⟨nx9 + 34, (sameEl el9_0 23), rfl, (by first | omega | (simp only [nm, seval]; omega)), (by omega), ?_⟩, h⟩ <;> first | (simp only [ua, b28, d29, d85, e98, e99, e100, e101, e102, d103, nm, seval] <;> rfl) | rfl⟩
    simp only [d85, hs] at h
    cases g105 : (roomOk 8 (List.length ([] ++ x1_now)))
    ·simp only [g105, hs] at h
     exact absurd h kN9
    simp only [g105, hs] at h
    simp only [vzf, tyf, b28, (ix23 o23), d29, e81, e82, e83, e84, d85, g105, nm, seval]
    refine zhu (w := 1) (enc := eI) (ys := x1_now) (fun _ => rfl) lf23 ao23 Tryz.underlying23 d85 g105 ?_
    cases g106 : (roomOk 8 (List.length (([] ++ x1_now) ++ [e9])))
    ·simp only [g106, hs] at h
     exact absurd h kN9
    simp only [g106, hs] at h
    simp only [vzf, tyf, b28, (ix23 o23), d29, e81, e82, e83, e84, d85, g105, g106, nm, seval]
    refine k_app (w := 1) (enc := eI) (xs := ([] ++ x1_now)) (ys := ([e9])) (el := (some 3)) (el2 := (some 3)) (fun _ => rfl) lf23 ao23 Tryz.underlying23 (by first | rfl | assumption | (simp only [zab, zaa, et23, b28, nm, seval] <;> rfl)) (by first | rfl | assumption | (simp only [zab, zaa, et23, b28, nm, seval] <;> rfl)) (Nat.zero_lt_succ _) g106 ?_
    simp only [vzf, tyf, b28, (ix23 o23), d29, e81, e82, e83, e84, d85, g105, g106, nm, seval]
    refine zbs (trT ?_)
    refine ⟨?_, ?_⟩
    ·refine zjj rfl ?_
     rcases o108 : (rc x0_s (([] ++ x1_now) ++ [e9])) with _ | r107
     ·simp only [o108, hs] at h
      exact absurd h kN9
     simp only [o108, hs] at h
     simp only [vzf, tyf, b28, (ix23 o23), d29, e81, e82, e83, e84, d85, g105, g106, nm, seval]
     refine kfreezeI (el := (sameEl (some 3) 3)) (xs := (([] ++ x1_now) ++ [e9])) (by first | rfl | assumption | (simp only [zab, zaa, et23, b28, nm, seval] <;> rfl)) (by first | (simp only [nrm, tynrm] <;> rfl) | rfl) (by simp only [tre, tytre, Bool.and_self]) (rc_ok _ _ _ o108) ?_
     refine zam (fun tm => tm 1 = .sl (cellsL eI x1_now) (List.length x1_now) false ∧ tm 2 = .ptr 0 0 ∧ tm 5 = .ref b9_0 0 (List.length c9_5) 1 (List.length c9_5) ∧ tm 6 = .lit (.int .i64 c9_6) ∧ tm 50 = .sl (cellsL (eSl eI) r107) (List.length r107) false ∧ True) (by refine ⟨e81, e82, e83, e84, ?_, trivial⟩ <;> first | (simp only [ua, b28, d29, e81, e82, e83, e84, d85, nm, seval] <;> rfl) | rfl) ?_
     rintro tm ⟨e109, e110, e111, e112, e113, _⟩
     try simp only [vzf, tyf, b28, (ix23 o23), d29, d85, g105, g106, e109, e110, e111, e112, e113, nm, seval]
     refine zge ?_
     cases d114 : (neB r107)
     ·simp only [d114, hs] at h
      simp only [vzf, tyf, b28, (ix23 o23), d29, d85, g105, g106, e109, e110, e111, e112, e113, d114, nm, seval]
      refine zlj (w := 1) (enc := (eSl eI)) (xs := c9_5) (ys := r107) (el := el9_0) (fun _ => rfl) lf34 ao34 Tryz.underlying34 (by first | rfl | assumption | (simp only [zab, zaa, et34, b28, nm, seval] <;> rfl)) d114 ?_
      simp only [vzf, tyf, b28, (ix23 o23), d29, d85, g105, g106, e109, e110, e111, e112, e113, d114, nm, seval]
      refine zbs (trT ?_)
      try simp only [vzf, tyf, b28, (ix23 o23), d29, d85, g105, g106, e109, e110, e111, e112, e113, d114, nm, seval]
      exact ⟨List.length p9, Nat.lt_succ_self _, by rw [hI9]; refine ⟨p9, c9_6 + 1, c9_5, .ref b9_0 0 (List.length c9_5) 1 (List.length c9_5), rfl, Int.le_trans hi9 (Int.le_add_one (Int.le_refl _)), zac hi9 hp9, rfl, (show 10 ≤ nx9 + 39 by omega), ?_, e109, e110, ?_, ?_, Or.inl ⟨b9_0, el9_0, rfl, (by first | omega | (simp only [nm, seval]; omega)), (by omega), ?_⟩, h⟩ <;> first | (simp only [ua, b28, d29, d85, e109, e110, e111, e112, e113, d114, nm, seval] <;> rfl) | rfl⟩
     simp only [d114, hs] at h
     cases g115 : (roomOk 24 (List.length (c9_5 ++ r107)))
     ·simp only [g115, hs] at h
      exact absurd h kN9
     simp only [g115, hs] at h
     simp only [vzf, tyf, b28, (ix23 o23), d29, d85, g105, g106, e109, e110, e111, e112, e113, d114, g115, nm, seval]
     refine zqn (w := 1) (enc := (eSl eI)) (xs := c9_5) (ys := r107) (el := el9_0) (fun _ => rfl) lf34 ao34 Tryz.underlying34 (by first | rfl | assumption | (simp only [zab, zaa, et34, b28, nm, seval] <;> rfl)) d114 g115 ?_
     simp only [vzf, tyf, b28, (ix23 o23), d29, d85, g105, g106, e109, e110, e111, e112, e113, d114, g115, nm, seval]
     refine zbs (trT ?_)
     try simp only [vzf, tyf, b28, (ix23 o23), d29, d85, g105, g106, e109, e110, e111, e112, e113, d114, g115, nm, seval]
     exact ⟨List.length p9, Nat.lt_succ_self _, by rw [hI9]; refine ⟨p9, c9_6 + 1, (c9_5 ++ r107), .ref (nx9 + 34) 0 (List.length (c9_5 ++ r107)) 1 (List.length (c9_5 ++ r107)), rfl, Int.le_trans hi9 (Int.le_add_one (Int.le_refl _)), zac hi9 hp9, rfl, (show 10 ≤ nx9 + 39 by omega), ?_, e109, e110, ?_, ?_, Or.inl ⟨nx9 + 34, (sameEl el9_0 23), rfl, (by first | omega | (simp only [nm, seval]; omega)), (by omega), ?_⟩, h⟩ <;> first | (simp only [ua, b28, d29, d85, e109, e110, e111, e112, e113, d114, nm, seval] <;> rfl) | rfl⟩
    refine zsi rfl ?_
    try simp only [vzf, tyf, b28, (ix23 o23), d29, e81, e82, e83, e84, d85, g105, g106, nm, seval]
    refine trT ?_
    refine zjj rfl ?_
    rcases o117 : (rc x0_s (([] ++ x1_now) ++ [e9])) with _ | r116
    ·simp only [o117, hs] at h
     exact absurd h kN9
    simp only [o117, hs] at h
    simp only [vzf, tyf, b28, (ix23 o23), d29, e81, e82, e83, e84, d85, g105, g106, nm, seval]
    refine kfreezeI (el := (sameEl (some 3) 3)) (xs := (([] ++ x1_now) ++ [e9])) (by first | rfl | assumption | (simp only [zab, zaa, et23, b28, nm, seval] <;> rfl)) (by first | (simp only [nrm, tynrm] <;> rfl) | rfl) (by simp only [tre, tytre, Bool.and_self]) (rc_ok _ _ _ o117) ?_
    refine zam (fun tm => tm 1 = .sl (cellsL eI x1_now) (List.length x1_now) false ∧ tm 2 = .ptr 0 0 ∧ tm 6 = .lit (.int .i64 c9_6) ∧ tm 39 = .ref b9_0 0 (List.length c9_5) 1 (List.length c9_5) ∧ tm 50 = .sl (cellsL (eSl eI) r116) (List.length r116) false ∧ True) (by refine ⟨e81, e82, e84, ?_, ?_, trivial⟩ <;> first | (simp only [ua, b28, d29, e81, e82, e83, e84, d85, nm, seval] <;> rfl) | rfl) ?_
    rintro tm ⟨e118, e119, e120, e121, e122, _⟩
    try simp only [vzf, tyf, b28, (ix23 o23), d29, d85, g105, g106, e118, e119, e120, e121, e122, nm, seval]
    refine zgd ?_
    cases d123 : (neB r116)
    ·simp only [d123, hs] at h
     simp only [vzf, tyf, b28, (ix23 o23), d29, d85, g105, g106, e118, e119, e120, e121, e122, d123, nm, seval]
     refine zlj (w := 1) (enc := (eSl eI)) (xs := c9_5) (ys := r116) (el := el9_0) (fun _ => rfl) lf34 ao34 Tryz.underlying34 (by first | rfl | assumption | (simp only [zab, zaa, et34, b28, nm, seval] <;> rfl)) d123 ?_
     simp only [vzf, tyf, b28, (ix23 o23), d29, d85, g105, g106, e118, e119, e120, e121, e122, d123, nm, seval]
     refine zbs (trT ?_)
     try simp only [vzf, tyf, b28, (ix23 o23), d29, d85, g105, g106, e118, e119, e120, e121, e122, d123, nm, seval]
     exact ⟨List.length p9, Nat.lt_succ_self _, by rw [hI9]; refine ⟨p9, c9_6 + 1, c9_5, .ref b9_0 0 (List.length c9_5) 1 (List.length c9_5), rfl, Int.le_trans hi9 (Int.le_add_one (Int.le_refl _)), zac hi9 hp9, rfl, (show 10 ≤ nx9 + 39 by omega), ?_, e118, e119, ?_, ?_, Or.inl ⟨b9_0, el9_0, rfl, (by first | omega | (simp only [nm, seval]; omega)), (by omega), ?_⟩, h⟩ <;> first | (simp only [ua, b28, d29, d85, e118, e119, e120, e121, e122, d123, nm, seval] <;> rfl) | rfl⟩
    simp only [d123, hs] at h
    cases g124 : (roomOk 24 (List.length (c9_5 ++ r116)))
    ·simp only [g124, hs] at h
     exact absurd h kN9
    simp only [g124, hs] at h
    simp only [vzf, tyf, b28, (ix23 o23), d29, d85, g105, g106, e118, e119, e120, e121, e122, d123, g124, nm, seval]
    refine zqn (w := 1) (enc := (eSl eI)) (xs := c9_5) (ys := r116) (el := el9_0) (fun _ => rfl) lf34 ao34 Tryz.underlying34 (by first | rfl | assumption | (simp only [zab, zaa, et34, b28, nm, seval] <;> rfl)) d123 g124 ?_
    simp only [vzf, tyf, b28, (ix23 o23), d29, d85, g105, g106, e118, e119, e120, e121, e122, d123, g124, nm, seval]
    refine zbs (trT ?_)
    try simp only [vzf, tyf, b28, (ix23 o23), d29, d85, g105, g106, e118, e119, e120, e121, e122, d123, g124, nm, seval]
    exact ⟨List.length p9, Nat.lt_succ_self _, by rw [hI9]; refine ⟨p9, c9_6 + 1, (c9_5 ++ r116), .ref (nx9 + 34) 0 (List.length (c9_5 ++ r116)) 1 (List.length (c9_5 ++ r116)), rfl, Int.le_trans hi9 (Int.le_add_one (Int.le_refl _)), zac hi9 hp9, rfl, (show 10 ≤ nx9 + 39 by omega), ?_, e118, e119, ?_, ?_, Or.inl ⟨nx9 + 34, (sameEl el9_0 23), rfl, (by first | omega | (simp only [nm, seval]; omega)), (by omega), ?_⟩, h⟩ <;> first | (simp only [ua, b28, d29, d85, e118, e119, e120, e121, e122, d123, nm, seval] <;> rfl) | rfl⟩
  ·have w125 := vap_y hy_q18
   have w126 := zafl hy_q18
   cases p9 with
   | nil =>
    have d127 : (decide (c9_6 < (List.length x0_s.Work : Int))) = false := zaf hi9 hp9
    simp only [zai, hs, reduceCtorEq] at h
    replace h := kG9 _ h
    try dsimp only at h
    try simp only [hs] at h
    try simp only [vzf, tyf, d8, g10, n16, e12, e13, e14, e15, H11, w125, w126, d127, nm, seval]
    refine zbt (x := (y9_0)) (by first | (simp only [Tryz.results63, resV, resL, resV1, zcq, zev, uw, cr, tyf, d8, g10, n16, H11, w125, w126, d127, nm, seval] <;> rfl) | rfl) ?_
    obtain rfl := kF _ h
    refine zcv ?_ ?_
    ·simp only [tre, tytre, Bool.and_self]
    ·first | exact zafl (by assumption) _ | (simp only [outV, uw, zba, cr, tyf, nrm, tynrm, d8, g10, n16, e12, e13, e14, e15, H11, w125, w126, d127, nm, seval] <;> rfl) | rfl | (simp [outV, zba, updH, eSl, cellsL, normV, tynrm, nrm]; done)
   | cons e9 p9 =>
    have d128 : (decide (c9_6 < (List.length x0_s.Work : Int))) = true := zao hi9 hp9
    have o130 := zad hi9 hp9
    have w129 := zat hi9 hp9 g10
    simp only [zai, hs, reduceCtorEq] at h
    simp only [vzf, tyf, d8, g10, n16, e12, e13, e14, e15, H11, w125, w126, d128, (ix23 o130), w129, nm, seval]
    refine zbl (fun tm => tm 1 = .sl (cellsL eI x1_now) (List.length x1_now) false ∧ tm 2 = .ptr 0 0 ∧ tm 5 = y9_0 ∧ tm 6 = .lit (.int .i64 c9_6) ∧ True) (by refine ⟨e12, e13, e14, e15, trivial⟩ <;> first | (simp only [ua, d8, n16, e12, e13, e14, e15, H11, w125, w126, d128, w129, nm, seval] <;> rfl) | rfl) ?_
    rintro tm ⟨e131, e132, e133, e134, _⟩
    have b135 := And.intro d8 (And.intro g10 (And.intro n16 (And.intro H11 (And.intro w125 (And.intro w126 (And.intro d128 w129))))))
    cases d136 : ((List.length x1_now : Int) == 0)
    ·simp only [d136, hs] at h
     rcases o138 : (getI x1_now (IntKind.i64.wrap ((List.length x1_now : Int) - 1))) with _ | x137
     ·simp only [o138, hs] at h
      exact absurd h kN9
     simp only [o138, hs] at h
     cases d139 : (decide (e9 > x137))
     ·simp only [d139, hs] at h
      simp only [vzf, tyf, b135, (ix23 o130), e131, e132, e133, e134, d136, (ix23 o138), d139, nm, seval]
      exact ⟨List.length p9, Nat.lt_succ_self _, by rw [hI9]; refine ⟨p9, c9_6 + 1, ([] : List (List Int)), y9_0, rfl, Int.le_trans hi9 (Int.le_add_one (Int.le_refl _)), zac hi9 hp9, rfl, (show 10 ≤ nx9 + 25 by omega), ?_, e131, e132, ?_, ?_, Or.inr ⟨hy_q18, rfl⟩, h⟩ <;> first | (simp only [ua, b135, e131, e132, e133, e134, d136, d139, nm, seval] <;> rfl) | rfl⟩
     simp only [d139, hs] at h
     simp only [vzf, tyf, b135, (ix23 o130), e131, e132, e133, e134, d136, (ix23 o138), d139, nm, seval]
     refine ziw (fun tm => tm 1 = .sl (cellsL eI x1_now) (List.length x1_now) false ∧ tm 2 = .ptr 0 0 ∧ tm 5 = y9_0 ∧ tm 6 = .lit (.int .i64 c9_6) ∧ True) (by refine ⟨e131, e132, e133, e134, trivial⟩ <;> first | (simp only [ua, b135, e131, e132, e133, e134, d136, d139, nm, seval] <;> rfl) | rfl) ?_
     rintro tm ⟨e140, e141, e142, e143, _⟩
     refine zmc mixed 0 [([false, true, true, true, true, true, true, true, true, true, true, false, false, false], 11)] [false, false, false, false, false, false, false, false, false, false, false, false, true, true] [true, false, false, false, false, false, false, false, false, false, false, false, true, true] (by kernel_rfl) ?_
     refine zmd ?_
     cases d144 : (neB x1_now)
     ·simp only [d144, hs] at h
      simp only [vzf, tyf, b135, (ix23 o130), d136, (ix23 o138), d139, e140, e141, e142, e143, d144, nm, seval]
      refine zhw (enc := eI) (ys := x1_now) ao23 Tryz.underlying23 d144 ?_
      cases g145 : (roomOk 8 (List.length (([] : List Int) ++ [e9])))
      ·simp only [g145, hs] at h
       exact absurd h kN9
      simp only [g145, hs] at h
      simp only [vzf, tyf, b135, (ix23 o130), d136, (ix23 o138), d139, e140, e141, e142, e143, d144, g145, zqa, nm, seval]
      refine zjk (w := 1) (enc := eI) (ys := ([e9])) (el2 := (some 3)) (fun _ => rfl) lf23 ao23 Tryz.underlying23 (by first | rfl | assumption | (simp only [zab, zaa, et23, b135, nm, seval] <;> rfl)) (Nat.zero_lt_succ _) g145 ?_
      simp only [vzf, tyf, b135, (ix23 o130), d136, (ix23 o138), d139, e140, e141, e142, e143, d144, g145, nm, seval]
      refine zbs (trT ?_)
      refine ⟨?_, ?_⟩
      ·refine zjj rfl ?_
       rcases o147 : (rc x0_s (([] : List Int) ++ [e9])) with _ | r146
       ·simp only [o147, hs] at h
        exact absurd h kN9
       simp only [o147, hs] at h
       simp only [vzf, tyf, b135, (ix23 o130), d136, (ix23 o138), d139, e140, e141, e142, e143, d144, g145, nm, seval]
       refine kfreezeI (el := (some 3)) (xs := (([] : List Int) ++ [e9])) (by first | rfl | assumption | (simp only [zab, zaa, et23, b135, nm, seval] <;> rfl)) (by first | (simp only [nrm, tynrm] <;> rfl) | rfl) (by simp only [tre, tytre, Bool.and_self]) (rc_ok _ _ _ o147) ?_
       refine zam (fun tm => tm 1 = .sl (cellsL eI x1_now) (List.length x1_now) false ∧ tm 2 = .ptr 0 0 ∧ tm 5 = y9_0 ∧ tm 6 = .lit (.int .i64 c9_6) ∧ tm 50 = .sl (cellsL (eSl eI) r146) (List.length r146) false ∧ True) (by refine ⟨e140, e141, e142, e143, ?_, trivial⟩ <;> first | (simp only [ua, b135, d136, d139, e140, e141, e142, e143, d144, nm, seval] <;> rfl) | rfl) ?_
       rintro tm ⟨e148, e149, e150, e151, e152, _⟩
       try simp only [vzf, tyf, b135, (ix23 o130), d136, (ix23 o138), d139, d144, g145, e148, e149, e150, e151, e152, nm, seval]
       refine zge ?_
       cases d153 : (neB r146)
       ·simp only [d153, hs] at h
        simp only [vzf, tyf, b135, (ix23 o130), d136, (ix23 o138), d139, d144, g145, e148, e149, e150, e151, e152, d153, nm, seval]
        refine zhw (enc := (eSl eI)) (ys := r146) ao34 Tryz.underlying34 d153 ?_
        simp only [vzf, tyf, b135, (ix23 o130), d136, (ix23 o138), d139, d144, g145, e148, e149, e150, e151, e152, d153, nm, seval]
        refine zbs (trT ?_)
        try simp only [vzf, tyf, b135, (ix23 o130), d136, (ix23 o138), d139, d144, g145, e148, e149, e150, e151, e152, d153, nm, seval]
        exact ⟨List.length p9, Nat.lt_succ_self _, by rw [hI9]; refine ⟨p9, c9_6 + 1, ([] : List (List Int)), .sl [] 0 true, rfl, Int.le_trans hi9 (Int.le_add_one (Int.le_refl _)), zac hi9 hp9, rfl, (show 10 ≤ nx9 + 39 by omega), ?_, e148, e149, ?_, ?_, Or.inr ⟨rfl, rfl⟩, h⟩ <;> first | (simp only [ua, b135, d136, d139, d144, e148, e149, e150, e151, e152, d153, nm, seval] <;> rfl) | rfl⟩
       simp only [d153, hs] at h
       cases g154 : (roomOk 24 (List.length (([] : List (List Int)) ++ r146)))
       ·simp only [g154, hs] at h
        exact absurd h kN9
       simp only [g154, hs] at h
       simp only [vzf, tyf, b135, (ix23 o130), d136, (ix23 o138), d139, d144, g145, e148, e149, e150, e151, e152, d153, g154, nm, seval]
       refine zhu (w := 1) (enc := (eSl eI)) (ys := r146) (fun _ => rfl) lf34 ao34 Tryz.underlying34 d153 g154 ?_
       simp only [vzf, tyf, b135, (ix23 o130), d136, (ix23 o138), d139, d144, g145, e148, e149, e150, e151, e152, d153, g154, nm, seval]
       refine zbs (trT ?_)
       try simp only [vzf, tyf, b135, (ix23 o130), d136, (ix23 o138), d139, d144, g145, e148, e149, e150, e151, e152, d153, g154, nm, seval]
       exact ⟨List.length p9, Nat.lt_succ_self _, by rw [hI9]; refine ⟨p9, c9_6 + 1, (([] : List (List Int)) ++ r146), .ref (nx9 + 34) 0 (List.length (([] : List (List Int)) ++ r146)) 1 (List.length (([] : List (List Int)) ++ r146)), rfl, Int.le_trans hi9 (Int.le_add_one (Int.le_refl _)), zac hi9 hp9, rfl, (show 10 ≤ nx9 + 39 by omega), ?_, e148, e149, ?_, ?_, Or.inl ⟨nx9 + 34, (some 23), rfl, (by first | omega | (simp only [nm, seval]; omega)), (by omega), ?_⟩, h⟩ <;> first | (simp only [ua, b135, d136, d139, d144, e148, e149, e150, e151, e152, d153, nm, seval] <;> rfl) | rfl⟩
      refine zsi rfl ?_
      try simp only [vzf, tyf, b135, (ix23 o130), d136, (ix23 o138), d139, e140, e141, e142, e143, d144, g145, nm, seval]
      refine trT ?_
      refine zjj rfl ?_
      rcases o156 : (rc x0_s (([] : List Int) ++ [e9])) with _ | r155
      ·simp only [o156, hs] at h
       exact absurd h kN9
      simp only [o156, hs] at h
      simp only [vzf, tyf, b135, (ix23 o130), d136, (ix23 o138), d139, e140, e141, e142, e143, d144, g145, nm, seval]
      refine kfreezeI (el := (some 3)) (xs := (([] : List Int) ++ [e9])) (by first | rfl | assumption | (simp only [zab, zaa, et23, b135, nm, seval] <;> rfl)) (by first | (simp only [nrm, tynrm] <;> rfl) | rfl) (by simp only [tre, tytre, Bool.and_self]) (rc_ok _ _ _ o156) ?_
      refine zam (fun tm => tm 1 = .sl (cellsL eI x1_now) (List.length x1_now) false ∧ tm 2 = .ptr 0 0 ∧ tm 6 = .lit (.int .i64 c9_6) ∧ tm 39 = y9_0 ∧ tm 50 = .sl (cellsL (eSl eI) r155) (List.length r155) false ∧ True) (by refine ⟨e140, e141, e143, ?_, ?_, trivial⟩ <;> first | (simp only [ua, b135, d136, d139, e140, e141, e142, e143, d144, nm, seval] <;> rfl) | rfl) ?_
      rintro tm ⟨e157, e158, e159, e160, e161, _⟩
      try simp only [vzf, tyf, b135, (ix23 o130), d136, (ix23 o138), d139, d144, g145, e157, e158, e159, e160, e161, nm, seval]
      refine zgd ?_
      cases d162 : (neB r155)
      ·simp only [d162, hs] at h
       simp only [vzf, tyf, b135, (ix23 o130), d136, (ix23 o138), d139, d144, g145, e157, e158, e159, e160, e161, d162, nm, seval]
       refine zhw (enc := (eSl eI)) (ys := r155) ao34 Tryz.underlying34 d162 ?_
       simp only [vzf, tyf, b135, (ix23 o130), d136, (ix23 o138), d139, d144, g145, e157, e158, e159, e160, e161, d162, nm, seval]
       refine zbs (trT ?_)
       try simp only [vzf, tyf, b135, (ix23 o130), d136, (ix23 o138), d139, d144, g145, e157, e158, e159, e160, e161, d162, nm, seval]
       exact ⟨List.length p9, Nat.lt_succ_self _, by rw [hI9]; refine ⟨p9, c9_6 + 1, ([] : List (List Int)), .sl [] 0 true, rfl, Int.le_trans hi9 (Int.le_add_one (Int.le_refl _)), zac hi9 hp9, rfl, (show 10 ≤ nx9 + 39 by omega), ?_, e157, e158, ?_, ?_, Or.inr ⟨rfl, rfl⟩, h⟩ <;> first | (simp only [ua, b135, d136, d139, d144, e157, e158, e159, e160, e161, d162, nm, seval] <;> rfl) | rfl⟩
      simp only [d162, hs] at h
      cases g163 : (roomOk 24 (List.length (([] : List (List Int)) ++ r155)))
      ·simp only [g163, hs] at h
       exact absurd h kN9
      simp only [g163, hs] at h
      simp only [vzf, tyf, b135, (ix23 o130), d136, (ix23 o138), d139, d144, g145, e157, e158, e159, e160, e161, d162, g163, nm, seval]
      refine zhu (w := 1) (enc := (eSl eI)) (ys := r155) (fun _ => rfl) lf34 ao34 Tryz.underlying34 d162 g163 ?_
      simp only [vzf, tyf, b135, (ix23 o130), d136, (ix23 o138), d139, d144, g145, e157, e158, e159, e160, e161, d162, g163, nm, seval]
      refine zbs (trT ?_)
      try simp only [vzf, tyf, b135, (ix23 o130), d136, (ix23 o138), d139, d144, g145, e157, e158, e159, e160, e161, d162, g163, nm, seval]
      exact ⟨List.length p9, Nat.lt_succ_self _, by rw [hI9]; refine ⟨p9, c9_6 + 1, (([] : List (List Int)) ++ r155), .ref (nx9 + 34) 0 (List.length (([] : List (List Int)) ++ r155)) 1 (List.length (([] : List (List Int)) ++ r155)), rfl, Int.le_trans hi9 (Int.le_add_one (Int.le_refl _)), zac hi9 hp9, rfl, (show 10 ≤ nx9 + 39 by omega), ?_, e157, e158, ?_, ?_, Or.inl ⟨nx9 + 34, (some 23), rfl, (by first | omega | (simp only [nm, seval]; omega)), (by omega), ?_⟩, h⟩ <;> first | (simp only [ua, b135, d136, d139, d144, e157, e158, e159, e160, e161, d162, nm, seval] <;> rfl) | rfl⟩
     simp only [d144, hs] at h
     cases g164 : (roomOk 8 (List.length ([] ++ x1_now)))
     ·simp only [g164, hs] at h
      exact absurd h kN9
     simp only [g164, hs] at h
     simp only [vzf, tyf, b135, (ix23 o130), d136, (ix23 o138), d139, e140, e141, e142, e143, d144, g164, nm, seval]
     refine zhu (w := 1) (enc := eI) (ys := x1_now) (fun _ => rfl) lf23 ao23 Tryz.underlying23 d144 g164 ?_
     cases g165 : (roomOk 8 (List.length (([] ++ x1_now) ++ [e9])))
     ·simp only [g165, hs] at h
      exact absurd h kN9
     simp only [g165, hs] at h
     simp only [vzf, tyf, b135, (ix23 o130), d136, (ix23 o138), d139, e140, e141, e142, e143, d144, g164, g165, nm, seval]
     refine k_app (w := 1) (enc := eI) (xs := ([] ++ x1_now)) (ys := ([e9])) (el := (some 3)) (el2 := (some 3)) (fun _ => rfl) lf23 ao23 Tryz.underlying23 (by first | rfl | assumption | (simp only [zab, zaa, et23, b135, nm, seval] <;> rfl)) (by first | rfl | assumption | (simp only [zab, zaa, et23, b135, nm, seval] <;> rfl)) (Nat.zero_lt_succ _) g165 ?_
     simp only [vzf, tyf, b135, (ix23 o130), d136, (ix23 o138), d139, e140, e141, e142, e143, d144, g164, g165, nm, seval]
     refine zbs (trT ?_)
     refine ⟨?_, ?_⟩
     ·refine zjj rfl ?_
      rcases o167 : (rc x0_s (([] ++ x1_now) ++ [e9])) with _ | r166
      ·simp only [o167, hs] at h
       exact absurd h kN9
      simp only [o167, hs] at h
      simp only [vzf, tyf, b135, (ix23 o130), d136, (ix23 o138), d139, e140, e141, e142, e143, d144, g164, g165, nm, seval]
      refine kfreezeI (el := (sameEl (some 3) 3)) (xs := (([] ++ x1_now) ++ [e9])) (by first | rfl | assumption | (simp only [zab, zaa, et23, b135, nm, seval] <;> rfl)) (by first | (simp only [nrm, tynrm] <;> rfl) | rfl) (by simp only [tre, tytre, Bool.and_self]) (rc_ok _ _ _ o167) ?_
      refine zam (fun tm => tm 1 = .sl (cellsL eI x1_now) (List.length x1_now) false ∧ tm 2 = .ptr 0 0 ∧ tm 5 = y9_0 ∧ tm 6 = .lit (.int .i64 c9_6) ∧ tm 50 = .sl (cellsL (eSl eI) r166) (List.length r166) false ∧ True) (by refine ⟨e140, e141, e142, e143, ?_, trivial⟩ <;> first | (simp only [ua, b135, d136, d139, e140, e141, e142, e143, d144, nm, seval] <;> rfl) | rfl) ?_
      rintro tm ⟨e168, e169, e170, e171, e172, _⟩
      try simp only [vzf, tyf, b135, (ix23 o130), d136, (ix23 o138), d139, d144, g164, g165, e168, e169, e170, e171, e172, nm, seval]
      refine zge ?_
      cases d173 : (neB r166)
      ·simp only [d173, hs] at h
       have b174 := And.intro b135 (And.intro d136 (And.intro d139 (And.intro d144 (And.intro g164 (And.intro g165 d173)))))
       simp only [vzf, tyf, b174, (ix23 o130), (ix23 o138), e168, e169, e170, e171, e172, nm, seval]
       refine zhw (enc := (eSl eI)) (ys := r166) ao34 Tryz.underlying34 d173 ?_
       simp only [vzf, tyf, b174, (ix23 o130), (ix23 o138), e168, e169, e170, e171, e172, nm, seval]
       refine zbs (trT ?_)
       try simp only [vzf, tyf, b174, (ix23 o130), (ix23 o138), e168, e169, e170, e171, e172, nm, seval]
       exact ⟨List.length p9, Nat.lt_succ_self _, by rw [hI9]; refine ⟨p9, c9_6 + 1, ([] : List (List Int)), .sl [] 0 true, rfl, Int.le_trans hi9 (Int.le_add_one (Int.le_refl _)), zac hi9 hp9, rfl, (show 10 ≤ nx9 + 39 by omega), ?_, e168, e169, ?_, ?_, Or.inr ⟨rfl, rfl⟩, h⟩ <;> first | (simp only [ua, b174, e168, e169, e170, e171, e172, nm, seval] <;> rfl) | rfl⟩
      simp only [d173, hs] at h
      have b175 := And.intro b135 (And.intro d136 (And.intro d139 (And.intro d144 (And.intro g164 (And.intro g165 d173)))))
      cases g176 : (roomOk 24 (List.length (([] : List (List Int)) ++ r166)))
      ·simp only [g176, hs] at h
       exact absurd h kN9
      simp only [g176, hs] at h
      simp only [vzf, tyf, b175, (ix23 o130), (ix23 o138), e168, e169, e170, e171, e172, g176, nm, seval]
      refine zhu (w := 1) (enc := (eSl eI)) (ys := r166) (fun _ => rfl) lf34 ao34 Tryz.underlying34 d173 g176 ?_
      simp only [vzf, tyf, b175, (ix23 o130), (ix23 o138), e168, e169, e170, e171, e172, g176, nm, seval]
      refine zbs (trT ?_)
      try simp only [vzf, tyf, b175, (ix23 o130), (ix23 o138), e168, e169, e170, e171, e172, g176, nm, seval]
      exact ⟨List.length p9, Nat.lt_succ_self _, by rw [hI9]; refine ⟨p9, c9_6 + 1, (([] : List (List Int)) ++ r166), .ref (nx9 + 34) 0 (List.length (([] : List (List Int)) ++ r166)) 1 (List.length (([] : List (List Int)) ++ r166)), rfl, Int.le_trans hi9 (Int.le_add_one (Int.le_refl _)), zac hi9 hp9, rfl, (show 10 ≤ nx9 + 39 by omega), ?_, e168, e169, ?_, ?_, Or.inl ⟨nx9 + 34, (some 23), rfl, (by first | omega | (simp only [nm, seval]; omega)), (by omega), ?_⟩, h⟩ <;> first | (simp only [ua, b175, e168, e169, e170, e171, e172, nm, seval] <;> rfl) | rfl⟩
     refine zsi rfl ?_
     try simp only [vzf, tyf, b135, (ix23 o130), d136, (ix23 o138), d139, e140, e141, e142, e143, d144, g164, g165, nm, seval]
     refine trT ?_
     refine zjj rfl ?_
     rcases o178 : (rc x0_s (([] ++ x1_now) ++ [e9])) with _ | r177
     ·simp only [o178, hs] at h
      exact absurd h kN9
     simp only [o178, hs] at h
     simp only [vzf, tyf, b135, (ix23 o130), d136, (ix23 o138), d139, e140, e141, e142, e143, d144, g164, g165, nm, seval]
     refine kfreezeI (el := (sameEl (some 3) 3)) (xs := (([] ++ x1_now) ++ [e9])) (by first | rfl | assumption | (simp only [zab, zaa, et23, b135, nm, seval] <;> rfl)) (by first | (simp only [nrm, tynrm] <;> rfl) | rfl) (by simp only [tre, tytre, Bool.and_self]) (rc_ok _ _ _ o178) ?_
     refine zam (fun tm => tm 1 = .sl (cellsL eI x1_now) (List.length x1_now) false ∧ tm 2 = .ptr 0 0 ∧ tm 6 = .lit (.int .i64 c9_6) ∧ tm 39 = y9_0 ∧ tm 50 = .sl (cellsL (eSl eI) r177) (List.length r177) false ∧ True) (by refine ⟨e140, e141, e143, ?_, ?_, trivial⟩ <;> first | (simp only [ua, b135, d136, d139, e140, e141, e142, e143, d144, nm, seval] <;> rfl) | rfl) ?_
     rintro tm ⟨e179, e180, e181, e182, e183, _⟩
     try simp only [vzf, tyf, b135, (ix23 o130), d136, (ix23 o138), d139, d144, g164, g165, e179, e180, e181, e182, e183, nm, seval]
     refine zgd ?_
     cases d184 : (neB r177)
     ·simp only [d184, hs] at h
      have b185 := And.intro b135 (And.intro d136 (And.intro d139 (And.intro d144 (And.intro g164 (And.intro g165 d184)))))
      simp only [vzf, tyf, b185, (ix23 o130), (ix23 o138), e179, e180, e181, e182, e183, nm, seval]
      refine zhw (enc := (eSl eI)) (ys := r177) ao34 Tryz.underlying34 d184 ?_
      simp only [vzf, tyf, b185, (ix23 o130), (ix23 o138), e179, e180, e181, e182, e183, nm, seval]
      refine zbs (trT ?_)
      try simp only [vzf, tyf, b185, (ix23 o130), (ix23 o138), e179, e180, e181, e182, e183, nm, seval]
      exact ⟨List.length p9, Nat.lt_succ_self _, by rw [hI9]; refine ⟨p9, c9_6 + 1, ([] : List (List Int)), .sl [] 0 true, rfl, Int.le_trans hi9 (Int.le_add_one (Int.le_refl _)), zac hi9 hp9, rfl, (show 10 ≤ nx9 + 39 by omega), ?_, e179, e180, ?_, ?_, Or.inr ⟨rfl, rfl⟩, h⟩ <;> first | (simp only [ua, b185, e179, e180, e181, e182, e183, nm, seval] <;> rfl) | rfl⟩
     simp only [d184, hs] at h
     have b186 := And.intro b135 (And.intro d136 (And.intro d139 (And.intro d144 (And.intro g164 (And.intro g165 d184)))))
     cases g187 : (roomOk 24 (List.length (([] : List (List Int)) ++ r177)))
     ·simp only [g187, hs] at h
      exact absurd h kN9
     simp only [g187, hs] at h
     simp only [vzf, tyf, b186, (ix23 o130), (ix23 o138), e179, e180, e181, e182, e183, g187, nm, seval]
     refine zhu (w := 1) (enc := (eSl eI)) (ys := r177) (fun _ => rfl) lf34 ao34 Tryz.underlying34 d184 g187 ?_
     simp only [vzf, tyf, b186, (ix23 o130), (ix23 o138), e179, e180, e181, e182, e183, g187, nm, seval]
     refine zbs (trT ?_)
     try simp only [vzf, tyf, b186, (ix23 o130), (ix23 o138), e179, e180, e181, e182, e183, g187, nm, seval]
     exact ⟨List.length p9, Nat.lt_succ_self _, by rw [hI9]; refine ⟨p9, c9_6 + 1, (([] : List (List Int)) ++ r177), .ref (nx9 + 34) 0 (List.length (([] : List (List Int)) ++ r177)) 1 (List.length (([] : List (List Int)) ++ r177)), rfl, Int.le_trans hi9 (Int.le_add_one (Int.le_refl _)), zac hi9 hp9, rfl, (show 10 ≤ nx9 + 39 by omega), ?_, e179, e180, ?_, ?_, Or.inl ⟨nx9 + 34, (some 23), rfl, (by first | omega | (simp only [nm, seval]; omega)), (by omega), ?_⟩, h⟩ <;> first | (simp only [ua, b186, e179, e180, e181, e182, e183, nm, seval] <;> rfl) | rfl⟩
    simp only [d136, hs] at h
    simp only [vzf, tyf, b135, (ix23 o130), e131, e132, e133, e134, d136, nm, seval]
    refine ziw (fun tm => tm 1 = .sl (cellsL eI x1_now) (List.length x1_now) false ∧ tm 2 = .ptr 0 0 ∧ tm 5 = y9_0 ∧ tm 6 = .lit (.int .i64 c9_6) ∧ True) (by refine ⟨e131, e132, e133, e134, trivial⟩ <;> first | (simp only [ua, b135, e131, e132, e133, e134, d136, nm, seval] <;> rfl) | rfl) ?_
    rintro tm ⟨e188, e189, e190, e191, _⟩
    refine zmc mixed 0 [([false, true, true, true, true, true, true, true, true, true, true, false, false, false], 11)] [false, false, false, false, false, false, false, false, false, false, false, false, true, true] [true, false, false, false, false, false, false, false, false, false, false, false, true, true] (by kernel_rfl) ?_
    refine zmd ?_
    cases d192 : (neB x1_now)
    ·simp only [d192, hs] at h
     simp only [vzf, tyf, b135, (ix23 o130), d136, e188, e189, e190, e191, d192, nm, seval]
     refine zhw (enc := eI) (ys := x1_now) ao23 Tryz.underlying23 d192 ?_
     cases g193 : (roomOk 8 (List.length (([] : List Int) ++ [e9])))
     ·simp only [g193, hs] at h
      exact absurd h kN9
     simp only [g193, hs] at h
     simp only [vzf, tyf, b135, (ix23 o130), d136, e188, e189, e190, e191, d192, g193, zqa, nm, seval]
     refine zjk (w := 1) (enc := eI) (ys := ([e9])) (el2 := (some 3)) (fun _ => rfl) lf23 ao23 Tryz.underlying23 (by first | rfl | assumption | (simp only [zab, zaa, et23, b135, nm, seval] <;> rfl)) (Nat.zero_lt_succ _) g193 ?_
     simp only [vzf, tyf, b135, (ix23 o130), d136, e188, e189, e190, e191, d192, g193, nm, seval]
     refine zbs (trT ?_)
     refine ⟨?_, ?_⟩
     ·refine zjj rfl ?_
      rcases o195 : (rc x0_s (([] : List Int) ++ [e9])) with _ | r194
      ·simp only [o195, hs] at h
       exact absurd h kN9
      simp only [o195, hs] at h
      simp only [vzf, tyf, b135, (ix23 o130), d136, e188, e189, e190, e191, d192, g193, nm, seval]
      refine kfreezeI (el := (some 3)) (xs := (([] : List Int) ++ [e9])) (by first | rfl | assumption | (simp only [zab, zaa, et23, b135, nm, seval] <;> rfl)) (by first | (simp only [nrm, tynrm] <;> rfl) | rfl) (by simp only [tre, tytre, Bool.and_self]) (rc_ok _ _ _ o195) ?_
      refine zam (fun tm => tm 1 = .sl (cellsL eI x1_now) (List.length x1_now) false ∧ tm 2 = .ptr 0 0 ∧ tm 5 = y9_0 ∧ tm 6 = .lit (.int .i64 c9_6) ∧ tm 50 = .sl (cellsL (eSl eI) r194) (List.length r194) false ∧ True) (by refine ⟨e188, e189, e190, e191, ?_, trivial⟩ <;> first | (simp only [ua, b135, d136, e188, e189, e190, e191, d192, nm, seval] <;> rfl) | rfl) ?_
      rintro tm ⟨e196, e197, e198, e199, e200, _⟩
      try simp only [vzf, tyf, b135, (ix23 o130), d136, d192, g193, e196, e197, e198, e199, e200, nm, seval]
      refine zge ?_
      cases d201 : (neB r194)
      ·simp only [d201, hs] at h
       simp only [vzf, tyf, b135, (ix23 o130), d136, d192, g193, e196, e197, e198, e199, e200, d201, nm, seval]
       refine zhw (enc := (eSl eI)) (ys := r194) ao34 Tryz.underlying34 d201 ?_
       simp only [vzf, tyf, b135, (ix23 o130), d136, d192, g193, e196, e197, e198, e199, e200, d201, nm, seval]
       refine zbs (trT ?_)
       try simp only [vzf, tyf, b135, (ix23 o130), d136, d192, g193, e196, e197, e198, e199, e200, d201, nm, seval]
       exact ⟨List.length p9, Nat.lt_succ_self _, by rw [hI9]; refine ⟨p9, c9_6 + 1, ([] : List (List Int)), .sl [] 0 true, rfl, Int.le_trans hi9 (Int.le_add_one (Int.le_refl _)), zac hi9 hp9, rfl, (show 10 ≤ nx9 + 39 by omega), ?_, e196, e197, ?_, ?_, Or.inr ⟨rfl, rfl⟩, h⟩ <;> first | (simp only [ua, b135, d136, d192, e196, e197, e198, e199, e200, d201, nm, seval] <;> rfl) | rfl⟩
      simp only [d201, hs] at h
      cases g202 : (roomOk 24 (List.length (([] : List (List Int)) ++ r194)))
      ·simp only [g202, hs] at h
       exact absurd h kN9
      simp only [g202, hs] at h
      simp only [vzf, tyf, b135, (ix23 o130), d136, d192, g193, e196, e197, e198, e199, e200, d201, g202, nm, seval]
      refine zhu (w := 1) (enc := (eSl eI)) (ys := r194) (fun _ => rfl) lf34 ao34 Tryz.underlying34 d201 g202 ?_
      simp only [vzf, tyf, b135, (ix23 o130), d136, d192, g193, e196, e197, e198, e199, e200, d201, g202, nm, seval]
      refine zbs (trT ?_)
      try simp only [vzf, tyf, b135, (ix23 o130), d136, d192, g193, e196, e197, e198, e199, e200, d201, g202, nm, seval]
      exact ⟨List.length p9, Nat.lt_succ_self _, by rw [hI9]; refine ⟨p9, c9_6 + 1, (([] : List (List Int)) ++ r194), .ref (nx9 + 34) 0 (List.length (([] : List (List Int)) ++ r194)) 1 (List.length (([] : List (List Int)) ++ r194)), rfl, Int.le_trans hi9 (Int.le_add_one (Int.le_refl _)), zac hi9 hp9, rfl, (show 10 ≤ nx9 + 39 by omega), ?_, e196, e197, ?_, ?_, Or.inl ⟨nx9 + 34, (some 23), rfl, (by first | omega | (simp only [nm, seval]; omega)), (by omega), ?_⟩, h⟩ <;> first | (simp only [ua, b135, d136, d192, e196, e197, e198, e199, e200, d201, nm, seval] <;> rfl) | rfl⟩
     refine zsi rfl ?_
     try simp only [vzf, tyf, b135, (ix23 o130), d136, e188, e189, e190, e191, d192, g193, nm, seval]
     refine trT ?_
     refine zjj rfl ?_
     rcases o204 : (rc x0_s (([] : List Int) ++ [e9])) with _ | r203
     ·simp only [o204, hs] at h
      exact absurd h kN9
     simp only [o204, hs] at h
     simp only [vzf, tyf, b135, (ix23 o130), d136, e188, e189, e190, e191, d192, g193, nm, seval]
     refine kfreezeI (el := (some 3)) (xs := (([] : List Int) ++ [e9])) (by first | rfl | assumption | (simp only [zab, zaa, et23, b135, nm, seval] <;> rfl)) (by first | (simp only [nrm, tynrm] <;> rfl) | rfl) (by simp only [tre, tytre, Bool.and_self]) (rc_ok _ _ _ o204) ?_
     refine zam (fun tm => tm 1 = .sl (cellsL eI x1_now) (List.length x1_now) false ∧ tm 2 = .ptr 0 0 ∧ tm 6 = .lit (.int .i64 c9_6) ∧ tm 39 = y9_0 ∧ tm 50 = .sl (cellsL (eSl eI) r203) (List.length r203) false ∧ True) (by refine ⟨e188, e189, e191, ?_, ?_, trivial⟩ <;> first | (simp only [ua, b135, d136, e188, e189, e190, e191, d192, nm, seval] <;> rfl) | rfl) ?_
     rintro tm ⟨e205, e206, e207, e208, e209, _⟩
     try simp only [vzf, tyf, b135, (ix23 o130), d136, d192, g193, e205, e206, e207, e208, e209, nm, seval]
     refine zgd ?_
     cases d210 : (neB r203)
     ·simp only [d210, hs] at h
      simp only [vzf, tyf, b135, (ix23 o130), d136, d192, g193, e205, e206, e207, e208, e209, d210, nm, seval]
      refine zhw (enc := (eSl eI)) (ys := r203) ao34 Tryz.underlying34 d210 ?_
      simp only [vzf, tyf, b135, (ix23 o130), d136, d192, g193, e205, e206, e207, e208, e209, d210, nm, seval]
      refine zbs (trT ?_)
      try simp only [vzf, tyf, b135, (ix23 o130), d136, d192, g193, e205, e206, e207, e208, e209, d210, nm, seval]
      exact ⟨List.length p9, Nat.lt_succ_self _, by rw [hI9]; refine ⟨p9, c9_6 + 1, ([] : List (List Int)), .sl [] 0 true, rfl, Int.le_trans hi9 (Int.le_add_one (Int.le_refl _)), zac hi9 hp9, rfl, (show 10 ≤ nx9 + 39 by omega), ?_, e205, e206, ?_, ?_, Or.inr ⟨rfl, rfl⟩, h⟩ <;> first | (simp only [ua, b135, d136, d192, e205, e206, e207, e208, e209, d210, nm, seval] <;> rfl) | rfl⟩
     simp only [d210, hs] at h
     cases g211 : (roomOk 24 (List.length (([] : List (List Int)) ++ r203)))
     ·simp only [g211, hs] at h
      exact absurd h kN9
     simp only [g211, hs] at h
     simp only [vzf, tyf, b135, (ix23 o130), d136, d192, g193, e205, e206, e207, e208, e209, d210, g211, nm, seval]
     refine zhu (w := 1) (enc := (eSl eI)) (ys := r203) (fun _ => rfl) lf34 ao34 Tryz.underlying34 d210 g211 ?_
     simp only [vzf, tyf, b135, (ix23 o130), d136, d192, g193, e205, e206, e207, e208, e209, d210, g211, nm, seval]
     refine zbs (trT ?_)
     try simp only [vzf, tyf, b135, (ix23 o130), d136, d192, g193, e205, e206, e207, e208, e209, d210, g211, nm, seval]
     exact ⟨List.length p9, Nat.lt_succ_self _, by rw [hI9]; refine ⟨p9, c9_6 + 1, (([] : List (List Int)) ++ r203), .ref (nx9 + 34) 0 (List.length (([] : List (List Int)) ++ r203)) 1 (List.length (([] : List (List Int)) ++ r203)), rfl, Int.le_trans hi9 (Int.le_add_one (Int.le_refl _)), zac hi9 hp9, rfl, (show 10 ≤ nx9 + 39 by omega), ?_, e205, e206, ?_, ?_, Or.inl ⟨nx9 + 34, (some 23), rfl, (by first | omega | (simp only [nm, seval]; omega)), (by omega), ?_⟩, h⟩ <;> first | (simp only [ua, b135, d136, d192, e205, e206, e207, e208, e209, d210, nm, seval] <;> rfl) | rfl⟩
    simp only [d192, hs] at h
    cases g212 : (roomOk 8 (List.length ([] ++ x1_now)))
    ·simp only [g212, hs] at h
     exact absurd h kN9
    simp only [g212, hs] at h
    simp only [vzf, tyf, b135, (ix23 o130), d136, e188, e189, e190, e191, d192, g212, nm, seval]
    refine zhu (w := 1) (enc := eI) (ys := x1_now) (fun _ => rfl) lf23 ao23 Tryz.underlying23 d192 g212 ?_
    cases g213 : (roomOk 8 (List.length (([] ++ x1_now) ++ [e9])))
    ·simp only [g213, hs] at h
     exact absurd h kN9
    simp only [g213, hs] at h
    simp only [vzf, tyf, b135, (ix23 o130), d136, e188, e189, e190, e191, d192, g212, g213, nm, seval]
    refine k_app (w := 1) (enc := eI) (xs := ([] ++ x1_now)) (ys := ([e9])) (el := (some 3)) (el2 := (some 3)) (fun _ => rfl) lf23 ao23 Tryz.underlying23 (by first | rfl | assumption | (simp only [zab, zaa, et23, b135, nm, seval] <;> rfl)) (by first | rfl | assumption | (simp only [zab, zaa, et23, b135, nm, seval] <;> rfl)) (Nat.zero_lt_succ _) g213 ?_
    simp only [vzf, tyf, b135, (ix23 o130), d136, e188, e189, e190, e191, d192, g212, g213, nm, seval]
    refine zbs (trT ?_)
    refine ⟨?_, ?_⟩
    ·refine zjj rfl ?_
     rcases o215 : (rc x0_s (([] ++ x1_now) ++ [e9])) with _ | r214
     ·simp only [o215, hs] at h
      exact absurd h kN9
     simp only [o215, hs] at h
     simp only [vzf, tyf, b135, (ix23 o130), d136, e188, e189, e190, e191, d192, g212, g213, nm, seval]
     refine kfreezeI (el := (sameEl (some 3) 3)) (xs := (([] ++ x1_now) ++ [e9])) (by first | rfl | assumption | (simp only [zab, zaa, et23, b135, nm, seval] <;> rfl)) (by first | (simp only [nrm, tynrm] <;> rfl) | rfl) (by simp only [tre, tytre, Bool.and_self]) (rc_ok _ _ _ o215) ?_
     refine zam (fun tm => tm 1 = .sl (cellsL eI x1_now) (List.length x1_now) false ∧ tm 2 = .ptr 0 0 ∧ tm 5 = y9_0 ∧ tm 6 = .lit (.int .i64 c9_6) ∧ tm 50 = .sl (cellsL (eSl eI) r214) (List.length r214) false ∧ True) (by refine ⟨e188, e189, e190, e191, ?_, trivial⟩ <;> first | (simp only [ua, b135, d136, e188, e189, e190, e191, d192, nm, seval] <;> rfl) | rfl) ?_
     rintro tm ⟨e216, e217, e218, e219, e220, _⟩
     try simp only [vzf, tyf, b135, (ix23 o130), d136, d192, g212, g213, e216, e217, e218, e219, e220, nm, seval]
     refine zge ?_
     cases d221 : (neB r214)
     ·simp only [d221, hs] at h
      simp only [vzf, tyf, b135, (ix23 o130), d136, d192, g212, g213, e216, e217, e218, e219, e220, d221, nm, seval]
      refine zhw (enc := (eSl eI)) (ys := r214) ao34 Tryz.underlying34 d221 ?_
      simp only [vzf, tyf, b135, (ix23 o130), d136, d192, g212, g213, e216, e217, e218, e219, e220, d221, nm, seval]
      refine zbs (trT ?_)
      try simp only [vzf, tyf, b135, (ix23 o130), d136, d192, g212, g213, e216, e217, e218, e219, e220, d221, nm, seval]
      exact ⟨List.length p9, Nat.lt_succ_self _, by rw [hI9]; refine ⟨p9, c9_6 + 1, ([] : List (List Int)), .sl [] 0 true, rfl, Int.le_trans hi9 (Int.le_add_one (Int.le_refl _)), zac hi9 hp9, rfl, (show 10 ≤ nx9 + 39 by omega), ?_, e216, e217, ?_, ?_, Or.inr ⟨rfl, rfl⟩, h⟩ <;> first | (simp only [ua, b135, d136, d192, e216, e217, e218, e219, e220, d221, nm, seval] <;> rfl) | rfl⟩
     simp only [d221, hs] at h
     cases g222 : (roomOk 24 (List.length (([] : List (List Int)) ++ r214)))
     ·simp only [g222, hs] at h
      exact absurd h kN9
     simp only [g222, hs] at h
     simp only [vzf, tyf, b135, (ix23 o130), d136, d192, g212, g213, e216, e217, e218, e219, e220, d221, g222, nm, seval]
     refine zhu (w := 1) (enc := (eSl eI)) (ys := r214) (fun _ => rfl) lf34 ao34 Tryz.underlying34 d221 g222 ?_
     simp only [vzf, tyf, b135, (ix23 o130), d136, d192, g212, g213, e216, e217, e218, e219, e220, d221, g222, nm, seval]
     refine zbs (trT ?_)
     try simp only [vzf, tyf, b135, (ix23 o130), d136, d192, g212, g213, e216, e217, e218, e219, e220, d221, g222, nm, seval]
     exact ⟨List.length p9, Nat.lt_succ_self _, by rw [hI9]; refine ⟨p9, c9_6 + 1, (([] : List (List Int)) ++ r214), .ref (nx9 + 34) 0 (List.length (([] : List (List Int)) ++ r214)) 1 (List.length (([] : List (List Int)) ++ r214)), rfl, Int.le_trans hi9 (Int.le_add_one (Int.le_refl _)), zac hi9 hp9, rfl, (show 10 ≤ nx9 + 39 by omega), ?_, e216, e217, ?_, ?_, Or.inl ⟨nx9 + 34, (some 23), rfl, (by first | omega | (simp only [nm, seval]; omega)), (by omega), ?_⟩, h⟩ <;> first | (simp only [ua, b135, d136, d192, e216, e217, e218, e219, e220, d221, nm, seval] <;> rfl) | rfl⟩
    refine zsi rfl ?_
    try simp only [vzf, tyf, b135, (ix23 o130), d136, e188, e189, e190, e191, d192, g212, g213, nm, seval]
    refine trT ?_
    refine zjj rfl ?_
    rcases o224 : (rc x0_s (([] ++ x1_now) ++ [e9])) with _ | r223
    ·simp only [o224, hs] at h
     exact absurd h kN9
    simp only [o224, hs] at h
    simp only [vzf, tyf, b135, (ix23 o130), d136, e188, e189, e190, e191, d192, g212, g213, nm, seval]
    refine kfreezeI (el := (sameEl (some 3) 3)) (xs := (([] ++ x1_now) ++ [e9])) (by first | rfl | assumption | (simp only [zab, zaa, et23, b135, nm, seval] <;> rfl)) (by first | (simp only [nrm, tynrm] <;> rfl) | rfl) (by simp only [tre, tytre, Bool.and_self]) (rc_ok _ _ _ o224) ?_
    refine zam (fun tm => tm 1 = .sl (cellsL eI x1_now) (List.length x1_now) false ∧ tm 2 = .ptr 0 0 ∧ tm 6 = .lit (.int .i64 c9_6) ∧ tm 39 = y9_0 ∧ tm 50 = .sl (cellsL (eSl eI) r223) (List.length r223) false ∧ True) (by refine ⟨e188, e189, e191, ?_, ?_, trivial⟩ <;> first | (simp only [ua, b135, d136, e188, e189, e190, e191, d192, nm, seval] <;> rfl) | rfl) ?_
    rintro tm ⟨e225, e226, e227, e228, e229, _⟩
    try simp only [vzf, tyf, b135, (ix23 o130), d136, d192, g212, g213, e225, e226, e227, e228, e229, nm, seval]
    refine zgd ?_
    cases d230 : (neB r223)
    ·simp only [d230, hs] at h
     simp only [vzf, tyf, b135, (ix23 o130), d136, d192, g212, g213, e225, e226, e227, e228, e229, d230, nm, seval]
     refine zhw (enc := (eSl eI)) (ys := r223) ao34 Tryz.underlying34 d230 ?_
     simp only [vzf, tyf, b135, (ix23 o130), d136, d192, g212, g213, e225, e226, e227, e228, e229, d230, nm, seval]
     refine zbs (trT ?_)
     try simp only [vzf, tyf, b135, (ix23 o130), d136, d192, g212, g213, e225, e226, e227, e228, e229, d230, nm, seval]
     exact ⟨List.length p9, Nat.lt_succ_self _, by rw [hI9]; refine ⟨p9, c9_6 + 1, ([] : List (List Int)), .sl [] 0 true, rfl, Int.le_trans hi9 (Int.le_add_one (Int.le_refl _)), zac hi9 hp9, rfl, (show 10 ≤ nx9 + 39 by omega), ?_, e225, e226, ?_, ?_, Or.inr ⟨rfl, rfl⟩, h⟩ <;> first | (simp only [ua, b135, d136, d192, e225, e226, e227, e228, e229, d230, nm, seval] <;> rfl) | rfl⟩
    simp only [d230, hs] at h
    cases g231 : (roomOk 24 (List.length (([] : List (List Int)) ++ r223)))
    ·simp only [g231, hs] at h
     exact absurd h kN9
    simp only [g231, hs] at h
    simp only [vzf, tyf, b135, (ix23 o130), d136, d192, g212, g213, e225, e226, e227, e228, e229, d230, g231, nm, seval]
    refine zhu (w := 1) (enc := (eSl eI)) (ys := r223) (fun _ => rfl) lf34 ao34 Tryz.underlying34 d230 g231 ?_
    simp only [vzf, tyf, b135, (ix23 o130), d136, d192, g212, g213, e225, e226, e227, e228, e229, d230, g231, nm, seval]
    refine zbs (trT ?_)
    try simp only [vzf, tyf, b135, (ix23 o130), d136, d192, g212, g213, e225, e226, e227, e228, e229, d230, g231, nm, seval]
    exact ⟨List.length p9, Nat.lt_succ_self _, by rw [hI9]; refine ⟨p9, c9_6 + 1, (([] : List (List Int)) ++ r223), .ref (nx9 + 34) 0 (List.length (([] : List (List Int)) ++ r223)) 1 (List.length (([] : List (List Int)) ++ r223)), rfl, Int.le_trans hi9 (Int.le_add_one (Int.le_refl _)), zac hi9 hp9, rfl, (show 10 ≤ nx9 + 39 by omega), ?_, e225, e226, ?_, ?_, Or.inl ⟨nx9 + 34, (some 23), rfl, (by first | omega | (simp only [nm, seval]; omega)), (by omega), ?_⟩, h⟩ <;> first | (simp only [ua, b135, d136, d192, e225, e226, e227, e228, e229, d230, nm, seval] <;> rfl) | rfl⟩
 simp only [d8, hs] at h
 try simp only [vzf, tyf, d8, nm, seval]
 refine zbt (x := (.ref 9 0 (List.length ([x1_now])) 1 (List.length ([x1_now])))) (by first | (simp only [Tryz.results63, resV, resL, resV1, zcq, zev, uw, cr, tyf, d8, nm, seval] <;> rfl) | rfl) ?_
 obtain rfl := kF _ h
 refine zcv ?_ ?_
 ·simp only [tre, tytre, Bool.and_self]
 ·first | exact zafl (by assumption) _ | (simp only [outV, uw, zba, cr, tyf, nrm, tynrm, d8, nm, seval] <;> rfl) | rfl | (simp [outV, zba, updH, eSl, cellsL, normV, tynrm, nrm]; done)
def zek : Nat → GCoatSheet → (List Int) → Option (List (List Int))
  | 0 => fun _ _ => none
  | n + 1 => zdg (zek n)
theorem zin : ∀ (n : Nat) (x0_s : GCoatSheet) (x1_now : List Int) (R : List (List Int)), zek n x0_s x1_now = some R → VPure Tryz.prog G0 63 [.agg (cGCoatSheet x0_s), .sl (cellsL eI x1_now) (List.length x1_now) false] (.tree (.sl (cellsL (eSl eI) R) (List.length R) false))
  | 0, _, _, R, h => by cases h
  | n + 1, x0_s, x1_now, R, h => zle (zek n) (zin n) x0_s x1_now R h
end Go.V
end
