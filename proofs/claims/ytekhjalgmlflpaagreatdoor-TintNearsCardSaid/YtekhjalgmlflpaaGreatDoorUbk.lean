/- Part of a proof. -/
import Derived.Test.YtekhjalgmlflpaaGreatDoorUbj
set_option linter.all false
set_option maxRecDepth 4000
set_option maxHeartbeats 40000000
section
namespace Go.V
open Go Go.Proofs
def zaw (rc : Gs → (List Int) → Int → Option (List (List Int))) (x0_s : Gs) (x1_now : List Int) (x2_parts : Int) (r1 : Int) : Nat → (List (List Int)) → Int → Option (LOut (List (List Int)) ((List (List Int)) × Int))
 | 0, _, _ => none
 | k0 + 1, c0_8, c0_9 => cond (decide (c0_9 ≤ (IntKind.i64.wrap (x2_parts - r1)))) (cond (neB x1_now) (cond (roomOk 8 (List.length ([] ++ x1_now))) (cond (roomOk 8 (List.length (([] ++ x1_now) ++ [c0_9]))) (Option.bind (rc x0_s (([] ++ x1_now) ++ [c0_9]) x2_parts) (fun r2 => cond (neB r2) (cond (roomOk 24 (List.length (c0_8 ++ r2))) (zaw rc x0_s x1_now x2_parts r1 k0 (c0_8 ++ r2) (IntKind.i64.wrap (c0_9 + 1))) none) (zaw rc x0_s x1_now x2_parts r1 k0 c0_8 (IntKind.i64.wrap (c0_9 + 1))))) none) none) (cond (roomOk 8 (List.length (([] : List Int) ++ [c0_9]))) (Option.bind (rc x0_s (([] : List Int) ++ [c0_9]) x2_parts) (fun r3 => cond (neB r3) (cond (roomOk 24 (List.length (c0_8 ++ r3))) (zaw rc x0_s x1_now x2_parts r1 k0 (c0_8 ++ r3) (IntKind.i64.wrap (c0_9 + 1))) none) (zaw rc x0_s x1_now x2_parts r1 k0 c0_8 (IntKind.i64.wrap (c0_9 + 1))))) none)) (some (.go (c0_8, c0_9)))
def zfo (rc : Gs → (List Int) → Int → Option (List (List Int))) (x0_s : Gs) (x1_now : List Int) (x2_parts : Int) : Option (List (List Int)) := Option.bind (zey x1_now) (fun r1 => cond ((List.length x1_now : Int) == (IntKind.i64.wrap ((List.length x0_s.Tins : Int) - 1))) (cond (neB x1_now) (cond (roomOk 8 (List.length ([] ++ x1_now))) (cond (roomOk 8 (List.length (([] ++ x1_now) ++ [IntKind.i64.wrap (x2_parts - r1)]))) (some ([(([] ++ x1_now) ++ [IntKind.i64.wrap (x2_parts - r1)])])) none) none) (cond (roomOk 8 (List.length (([] : List Int) ++ [IntKind.i64.wrap (x2_parts - r1)]))) (some ([(([] : List Int) ++ [IntKind.i64.wrap (x2_parts - r1)])])) none)) (lbind (zaw rc x0_s x1_now x2_parts r1 1000000 ([] : List (List Int)) 0) (fun r5 => some r5) (fun c4 => some c4.1) (fun _ _ => none)))
theorem zlj (rc : Gs → (List Int) → Int → Option (List (List Int))) (rc_ok : ∀ (x0_s : Gs) (x1_now : List Int) (x2_parts : Int) (R : List (List Int)), rc x0_s x1_now x2_parts = some R → VPure Tryz.prog G0 108 [.agg (cGs x0_s), .sl (cellsL eI x1_now) (List.length x1_now) false, .lit (.int .i64 x2_parts)] (.tree (.sl (cellsL (eSl eI) R) (List.length R) false))) (x0_s : Gs) (x1_now : List Int) (x2_parts : Int) (R : List (List Int)) (h : zfo rc x0_s x1_now x2_parts = some R) : VPure Tryz.prog G0 108 [.agg (cGs x0_s), .sl (cellsL eI x1_now) (List.length x1_now) false, .lit (.int .i64 x2_parts)] (.tree (.sl (cellsL (eSl eI) R) (List.length R) false)) := by
 refine VPure.runR mixed Tryz.call108 Tryz.func108 rfl (by simp [Tryz.ntmps108]; kernel_rfl) ?_
 obtain ⟨KF, h, kF, kN⟩ := zam h
 simp only [zfo] at h
 obtain ⟨r6, o7, h⟩ := optI h kN
 try simp only [hs] at h
 simp only [vzf, tyf, nm, seval]
 refine ktA (zjb _ _ o7) ?_
 refine zae (fun tm => tm 1 = .sl (cellsL eI x1_now) (List.length x1_now) false ∧ tm 2 = .lit (.int .i64 x2_parts) ∧ tm 3 = .ptr 0 0 ∧ tm 10 = .lit (.int .i64 x2_parts) ∧ tm 12 = .lit (.int .i64 r6) ∧ True) (by refine ⟨?_, ?_, ?_, ?_, ?_, trivial⟩ <;> first | (simp only [ua, nm, seval] <;> rfl) | rfl) ?_
 rintro tm ⟨e8, e9, e10, e11, e12, _⟩
 cases d13 : ((List.length x1_now : Int) == (IntKind.i64.wrap ((List.length x0_s.Tins : Int) - 1)))
 ·simp only [d13, hs] at h
  simp only [vzf, tyf, e8, e9, e10, e11, e12, d13, nm, seval]
  obtain ⟨K14, h, kR14, kG14, kB14, kN14⟩ := zbc h kN
  obtain ⟨f14, hf14, h⟩ := call3 h
  obtain ⟨I14, hI14⟩ : ∃ I : Nat → St → Prop, I = (fun m st => ∃ (p14 : Nat) (c14_8 : List (List Int)) (c14_9 : Int) (y14_0 : VV), p14 = m ∧ st.df = [] ∧ 16 ≤ st.nx ∧ st.H 0 = some (.cells (some 28) (cGs x0_s)) ∧ st.tm 1 = .sl (cellsL eI x1_now) (List.length x1_now) false ∧ st.tm 2 = .lit (.int .i64 x2_parts) ∧ st.tm 3 = .ptr 0 0 ∧ st.tm 7 = .lit (.int .i64 (IntKind.i64.wrap (x2_parts - r6))) ∧ st.tm 8 = y14_0 ∧ st.tm 9 = .lit (.int .i64 c14_9) ∧ ((∃ (β : Nat) (el : Option TypeId), y14_0 = .ref β 0 (List.length c14_8) 1 (List.length c14_8) ∧ β < st.nx ∧ β ≠ 0 ∧ st.H β = some (.cells el (cellsL (eSl eI) c14_8))) ∨ (nilS y14_0 = .sl [] 0 true ∧ c14_8 = [])) ∧ K14 (f14 p14 c14_8 c14_9)) := ⟨_, rfl⟩
  refine loopK mixed (by kernel_rfl) I14 1000000 (by rw [hI14]; refine ⟨1000000, ([] : List (List Int)), 0, .lit (.slice none 0 0), rfl, rfl, (show 16 ≤ 16 by omega), ?_, e8, e9, e10, ?_, ?_, ?_, Or.inr ⟨rfl, rfl⟩, h⟩ <;> first | (simp only [ua, e8, e9, e10, e11, e12, d13, nm, seval] <;> rfl) | rfl) ?_
  rintro m ⟨tm, H, nx14, df⟩ hinv
  rw [hI14] at hinv
  obtain ⟨p14, c14_8, c14_9, y14_0, rfl, hdf, hn14, H15, e16, e17, e18, e19, e20, e21, ow14_0, h⟩ := hinv
  simp only at hdf hn14 H15 e16 e17 e18 e19 e20 e21 ow14_0
  have n22 := zct (m := 16) (b := nx14) (by omega)
  subst hdf hf14
  rcases ow14_0 with ⟨b14_0, el14_0, rfl, lq24, lq25, H23⟩ | ⟨hy_q24, rfl⟩
  ·have q24 := zakw lq24
   have q25 := ne_f lq25
   cases p14 with
   | zero =>
    simp only [zaw, hs, reduceCtorEq] at h
    exact absurd h kN14
   | succ p14 =>
    simp only [zaw, hs, reduceCtorEq] at h
    cases d26 : (decide (c14_9 ≤ (IntKind.i64.wrap (x2_parts - r6))))
    ·simp only [d26, hs] at h
     have b27 := And.intro d13 (And.intro n22 (And.intro H15 (And.intro q24 (And.intro H23 (And.intro q25 d26)))))
     replace h := kG14 _ h
     try dsimp only at h
     try simp only [hs] at h
     try simp only [vzf, tyf, b27, e16, e17, e18, e19, e20, e21, nm, seval]
     refine zap (x := (.ref b14_0 0 (List.length c14_8) 1 (List.length c14_8))) (by first | (simp only [Tryz.results108, resV, resL, resV1, zat, zbs, uw, cr, tyf, b27, nm, seval] <;> rfl) | rfl) ?_
     obtain rfl := kF _ h
     refine zas ?_ ?_
     ·simp only [tre, tytre, Bool.and_self]
     ·first | exact zadr (by assumption) _ | (simp only [outV, uw, zad, cr, tyf, nrm, tynrm, b27, e16, e17, e18, e19, e20, e21, nm, seval] <;> rfl) | rfl | (simp [outV, zad, updH, eSl, cellsL, normV, tynrm, nrm]; done) | (simp [outV, zad, updH, eSl, cellsL, normV, tynrm, nrm]; rw [List.take_of_length_le (by rw [zal (w := 1) (enc := eI) (fun _ => rfl)]; simp)]; exact eI_ok.normL _)
    simp only [d26, hs] at h
    have b28 := And.intro d13 (And.intro n22 (And.intro H15 (And.intro q24 (And.intro H23 (And.intro q25 d26)))))
    simp only [vzf, tyf, b28, e16, e17, e18, e19, e20, e21, nm, seval]
    refine ziy (fun tm => tm 1 = .sl (cellsL eI x1_now) (List.length x1_now) false ∧ tm 2 = .lit (.int .i64 x2_parts) ∧ tm 3 = .ptr 0 0 ∧ tm 7 = .lit (.int .i64 (IntKind.i64.wrap (x2_parts - r6))) ∧ tm 8 = .ref b14_0 0 (List.length c14_8) 1 (List.length c14_8) ∧ tm 9 = .lit (.int .i64 c14_9) ∧ True) (by refine ⟨e16, e17, e18, e19, e20, e21, trivial⟩ <;> first | (simp only [ua, b28, e16, e17, e18, e19, e20, e21, nm, seval] <;> rfl) | rfl) ?_
    rintro tm ⟨e29, e30, e31, e32, e33, e34, _⟩
    refine zxa mixed 0 [([false, true, true, true, true, true, true, true, false, false, false], 8)] [false, false, false, false, false, false, false, false, false, true, true] [true, false, false, false, false, false, false, false, false, true, true] (by kernel_rfl) ?_
    refine zxv ?_
    cases d35 : (neB x1_now)
    ·simp only [d35, hs] at h
     simp only [vzf, tyf, b28, e29, e30, e31, e32, e33, e34, d35, nm, seval]
     refine zoj (enc := eI) (ys := x1_now) ao29 Tryz.underlying29 d35 ?_
     cases g36 : (roomOk 8 (List.length (([] : List Int) ++ [c14_9])))
     ·simp only [g36, hs] at h
      exact absurd h kN14
     simp only [g36, hs] at h
     simp only [vzf, tyf, b28, e29, e30, e31, e32, e33, e34, d35, g36, zvn, nm, seval]
     refine zabz (w := 1) (enc := eI) (ys := ([c14_9])) (el2 := (some 3)) (fun _ => rfl) lf29 ao29 Tryz.underlying29 (by first | rfl | assumption | (simp only [zaa, zab, et29, b28, nm, seval] <;> rfl)) (Nat.zero_lt_succ _) g36 ?_
     simp only [vzf, tyf, b28, e29, e30, e31, e32, e33, e34, d35, g36, nm, seval]
     refine zex (trT ?_)
     refine ⟨?_, ?_⟩
     ·refine zto rfl ?_
      obtain ⟨r37, o38, h⟩ := optI h kN14
      try simp only [hs] at h
      simp only [vzf, tyf, b28, e29, e30, e31, e32, e33, e34, d35, g36, nm, seval]
      refine kfreeze (g := (nx14 + 9)) (el := (some 3)) (cs := cellsL eI (([] : List Int) ++ [c14_9])) (args' := [.agg (cGs x0_s), .sl (cellsL eI (([] : List Int) ++ [c14_9])) (List.length (([] : List Int) ++ [c14_9])) false, .lit (.int .i64 x2_parts)]) (args0 := [.agg (cGs x0_s), .sl (cellsL eI (([] : List Int) ++ [c14_9])) (List.length (([] : List Int) ++ [c14_9])) false, .lit (.int .i64 x2_parts)]) (by first | rfl | assumption | (simp only [zaa, zab, et29, b28, nm, seval] <;> rfl)) ⟨.same, Frozen.own (by first | rfl | assumption | (simp only [zaa, zab, et29, b28, nm, seval] <;> rfl)) (eI_ok.treeL _) (zal (w := 1) (enc := eI) (fun _ => rfl) _), .same, trivial⟩ (by first | (simp only [nrm, tynrm] <;> rfl) | rfl) (by simp only [tre, tytre, Bool.and_self]) (rc_ok _ _ _ _ o38) ?_
      refine zae (fun tm => tm 1 = .sl (cellsL eI x1_now) (List.length x1_now) false ∧ tm 2 = .lit (.int .i64 x2_parts) ∧ tm 3 = .ptr 0 0 ∧ tm 7 = .lit (.int .i64 (IntKind.i64.wrap (x2_parts - r6))) ∧ tm 8 = .ref b14_0 0 (List.length c14_8) 1 (List.length c14_8) ∧ tm 9 = .lit (.int .i64 c14_9) ∧ tm 40 = .sl (cellsL (eSl eI) r37) (List.length r37) false ∧ True) (by refine ⟨e29, e30, e31, e32, e33, e34, ?_, trivial⟩ <;> first | (simp only [ua, b28, e29, e30, e31, e32, e33, e34, d35, nm, seval] <;> rfl) | rfl) ?_
      rintro tm ⟨e39, e40, e41, e42, e43, e44, e45, _⟩
      try simp only [vzf, tyf, b28, d35, g36, e39, e40, e41, e42, e43, e44, e45, nm, seval]
      refine zkw ?_
      cases d46 : (neB r37)
      ·simp only [d46, hs] at h
       simp only [vzf, tyf, b28, d35, g36, e39, e40, e41, e42, e43, e44, e45, d46, nm, seval]
       refine zyi (w := 1) (enc := (eSl eI)) (xs := c14_8) (ys := r37) (el := el14_0) (fun _ => rfl) lf106 ao106 Tryz.underlying106 (by first | rfl | assumption | (simp only [zaa, zab, et106, b28, nm, seval] <;> rfl)) d46 ?_
       simp only [vzf, tyf, b28, d35, g36, e39, e40, e41, e42, e43, e44, e45, d46, nm, seval]
       refine zex (trT ?_)
       try simp only [vzf, tyf, b28, d35, g36, e39, e40, e41, e42, e43, e44, e45, d46, nm, seval]
       exact ⟨p14, Nat.lt_succ_self _, by rw [hI14]; refine ⟨p14, c14_8, IntKind.i64.wrap (c14_9 + 1), .ref b14_0 0 (List.length c14_8) 1 (List.length c14_8), rfl, rfl, (show 16 ≤ nx14 + 17 by omega), ?_, e39, e40, e41, e42, ?_, ?_, Or.inl ⟨b14_0, el14_0, rfl, (by first | omega | (simp only [nm, seval]; omega)), (by omega), ?_⟩, h⟩ <;> first | (simp only [ua, b28, d35, e39, e40, e41, e42, e43, e44, e45, d46, nm, seval] <;> rfl) | rfl⟩
      simp only [d46, hs] at h
      cases g47 : (roomOk 24 (List.length (c14_8 ++ r37)))
      ·simp only [g47, hs] at h
       exact absurd h kN14
      simp only [g47, hs] at h
      simp only [vzf, tyf, b28, d35, g36, e39, e40, e41, e42, e43, e44, e45, d46, g47, nm, seval]
      refine zys (w := 1) (enc := (eSl eI)) (xs := c14_8) (ys := r37) (el := el14_0) (fun _ => rfl) lf106 ao106 Tryz.underlying106 (by first | rfl | assumption | (simp only [zaa, zab, et106, b28, nm, seval] <;> rfl)) d46 g47 ?_
      simp only [vzf, tyf, b28, d35, g36, e39, e40, e41, e42, e43, e44, e45, d46, g47, nm, seval]
      refine zex (trT ?_)
      try simp only [vzf, tyf, b28, d35, g36, e39, e40, e41, e42, e43, e44, e45, d46, g47, nm, seval]
      exact ⟨p14, Nat.lt_succ_self _, by rw [hI14]; refine ⟨p14, (c14_8 ++ r37), IntKind.i64.wrap (c14_9 + 1), .ref (nx14 + 12) 0 (List.length (c14_8 ++ r37)) 1 (List.length (c14_8 ++ r37)), rfl, rfl, (show 16 ≤ nx14 + 17 by omega), ?_, e39, e40, e41, e42, ?_, ?_, Or.inl ⟨nx14 + 12, (sameEl el14_0 29), rfl, (by first | omega | (simp only [nm, seval]; omega)), (by omega), ?_⟩, h⟩ <;> first | (simp only [ua, b28, d35, e39, e40, e41, e42, e43, e44, e45, d46, nm, seval] <;> rfl) | rfl⟩
     refine zagf rfl ?_
     try simp only [vzf, tyf, b28, e29, e30, e31, e32, e33, e34, d35, g36, nm, seval]
     refine trT ?_
     refine zto rfl ?_
     obtain ⟨r48, o49, h⟩ := optI h kN14
     try simp only [hs] at h
     simp only [vzf, tyf, b28, e29, e30, e31, e32, e33, e34, d35, g36, nm, seval]
     refine kfreeze (g := (nx14 + 9)) (el := (some 3)) (cs := cellsL eI (([] : List Int) ++ [c14_9])) (args' := [.agg (cGs x0_s), .sl (cellsL eI (([] : List Int) ++ [c14_9])) (List.length (([] : List Int) ++ [c14_9])) false, .lit (.int .i64 x2_parts)]) (args0 := [.agg (cGs x0_s), .sl (cellsL eI (([] : List Int) ++ [c14_9])) (List.length (([] : List Int) ++ [c14_9])) false, .lit (.int .i64 x2_parts)]) (by first | rfl | assumption | (simp only [zaa, zab, et29, b28, nm, seval] <;> rfl)) ⟨.same, Frozen.own (by first | rfl | assumption | (simp only [zaa, zab, et29, b28, nm, seval] <;> rfl)) (eI_ok.treeL _) (zal (w := 1) (enc := eI) (fun _ => rfl) _), .same, trivial⟩ (by first | (simp only [nrm, tynrm] <;> rfl) | rfl) (by simp only [tre, tytre, Bool.and_self]) (rc_ok _ _ _ _ o49) ?_
     refine zae (fun tm => tm 1 = .sl (cellsL eI x1_now) (List.length x1_now) false ∧ tm 2 = .lit (.int .i64 x2_parts) ∧ tm 3 = .ptr 0 0 ∧ tm 7 = .lit (.int .i64 (IntKind.i64.wrap (x2_parts - r6))) ∧ tm 9 = .lit (.int .i64 c14_9) ∧ tm 32 = .ref b14_0 0 (List.length c14_8) 1 (List.length c14_8) ∧ tm 40 = .sl (cellsL (eSl eI) r48) (List.length r48) false ∧ True) (by refine ⟨e29, e30, e31, e32, e34, ?_, ?_, trivial⟩ <;> first | (simp only [ua, b28, e29, e30, e31, e32, e33, e34, d35, nm, seval] <;> rfl) | rfl) ?_
     rintro tm ⟨e50, e51, e52, e53, e54, e55, e56, _⟩
     try simp only [vzf, tyf, b28, d35, g36, e50, e51, e52, e53, e54, e55, e56, nm, seval]
     refine zku ?_
     cases d57 : (neB r48)
     ·simp only [d57, hs] at h
      simp only [vzf, tyf, b28, d35, g36, e50, e51, e52, e53, e54, e55, e56, d57, nm, seval]
      refine zyi (w := 1) (enc := (eSl eI)) (xs := c14_8) (ys := r48) (el := el14_0) (fun _ => rfl) lf106 ao106 Tryz.underlying106 (by first | rfl | assumption | (simp only [zaa, zab, et106, b28, nm, seval] <;> rfl)) d57 ?_
      simp only [vzf, tyf, b28, d35, g36, e50, e51, e52, e53, e54, e55, e56, d57, nm, seval]
      refine zex (trT ?_)
      try simp only [vzf, tyf, b28, d35, g36, e50, e51, e52, e53, e54, e55, e56, d57, nm, seval]
      exact ⟨p14, Nat.lt_succ_self _, by rw [hI14]; refine ⟨p14, c14_8, IntKind.i64.wrap (c14_9 + 1), .ref b14_0 0 (List.length c14_8) 1 (List.length c14_8), rfl, rfl, (show 16 ≤ nx14 + 17 by omega), ?_, e50, e51, e52, e53, ?_, ?_, Or.inl ⟨b14_0, el14_0, rfl, (by first | omega | (simp only [nm, seval]; omega)), (by omega), ?_⟩, h⟩ <;> first | (simp only [ua, b28, d35, e50, e51, e52, e53, e54, e55, e56, d57, nm, seval] <;> rfl) | rfl⟩
     simp only [d57, hs] at h
     cases g58 : (roomOk 24 (List.length (c14_8 ++ r48)))
     ·simp only [g58, hs] at h
      exact absurd h kN14
     simp only [g58, hs] at h
     simp only [vzf, tyf, b28, d35, g36, e50, e51, e52, e53, e54, e55, e56, d57, g58, nm, seval]
     refine zys (w := 1) (enc := (eSl eI)) (xs := c14_8) (ys := r48) (el := el14_0) (fun _ => rfl) lf106 ao106 Tryz.underlying106 (by first | rfl | assumption | (simp only [zaa, zab, et106, b28, nm, seval] <;> rfl)) d57 g58 ?_
     simp only [vzf, tyf, b28, d35, g36, e50, e51, e52, e53, e54, e55, e56, d57, g58, nm, seval]
     refine zex (trT ?_)
     try simp only [vzf, tyf, b28, d35, g36, e50, e51, e52, e53, e54, e55, e56, d57, g58, nm, seval]
     exact ⟨p14, Nat.lt_succ_self _, by rw [hI14]; refine ⟨p14, (c14_8 ++ r48), IntKind.i64.wrap (c14_9 + 1), .ref (nx14 + 12) 0 (List.length (c14_8 ++ r48)) 1 (List.length (c14_8 ++ r48)), rfl, rfl, (show 16 ≤ nx14 + 17 by omega), ?_, e50, e51, e52, e53, ?_, ?_, Or.inl ⟨nx14 + 12, (sameEl el14_0 29), rfl, (by first | omega | (simp only [nm, seval]; omega)), (by omega), ?_⟩, h⟩ <;> first | (simp only [ua, b28, d35, e50, e51, e52, e53, e54, e55, e56, d57, nm, seval] <;> rfl) | rfl⟩
    simp only [d35, hs] at h
    cases g59 : (roomOk 8 (List.length ([] ++ x1_now)))
    ·simp only [g59, hs] at h
     exact absurd h kN14
    simp only [g59, hs] at h
    simp only [vzf, tyf, b28, e29, e30, e31, e32, e33, e34, d35, g59, nm, seval]
    refine zmb (w := 1) (enc := eI) (ys := x1_now) (fun _ => rfl) lf29 ao29 Tryz.underlying29 d35 g59 ?_
    cases g60 : (roomOk 8 (List.length (([] ++ x1_now) ++ [c14_9])))
    ·simp only [g60, hs] at h
     exact absurd h kN14
    simp only [g60, hs] at h
    simp only [vzf, tyf, b28, e29, e30, e31, e32, e33, e34, d35, g59, g60, nm, seval]
    refine k_app (w := 1) (enc := eI) (xs := ([] ++ x1_now)) (ys := ([c14_9])) (el := (some 3)) (el2 := (some 3)) (fun _ => rfl) lf29 ao29 Tryz.underlying29 (by first | rfl | assumption | (simp only [zaa, zab, et29, b28, nm, seval] <;> rfl)) (by first | rfl | assumption | (simp only [zaa, zab, et29, b28, nm, seval] <;> rfl)) (Nat.zero_lt_succ _) g60 ?_
    simp only [vzf, tyf, b28, e29, e30, e31, e32, e33, e34, d35, g59, g60, nm, seval]
    refine zex (trT ?_)
    refine ⟨?_, ?_⟩
    ·refine zto rfl ?_
     obtain ⟨r61, o62, h⟩ := optI h kN14
     try simp only [hs] at h
     simp only [vzf, tyf, b28, e29, e30, e31, e32, e33, e34, d35, g59, g60, nm, seval]
     refine kfreeze (g := (nx14 + 9)) (el := (sameEl (some 3) 3)) (cs := cellsL eI (([] ++ x1_now) ++ [c14_9])) (args' := [.agg (cGs x0_s), .sl (cellsL eI (([] ++ x1_now) ++ [c14_9])) (List.length (([] ++ x1_now) ++ [c14_9])) false, .lit (.int .i64 x2_parts)]) (args0 := [.agg (cGs x0_s), .sl (cellsL eI (([] ++ x1_now) ++ [c14_9])) (List.length (([] ++ x1_now) ++ [c14_9])) false, .lit (.int .i64 x2_parts)]) (by first | rfl | assumption | (simp only [zaa, zab, et29, b28, nm, seval] <;> rfl)) ⟨.same, Frozen.own (by first | rfl | assumption | (simp only [zaa, zab, et29, b28, nm, seval] <;> rfl)) (eI_ok.treeL _) (zal (w := 1) (enc := eI) (fun _ => rfl) _), .same, trivial⟩ (by first | (simp only [nrm, tynrm] <;> rfl) | rfl) (by simp only [tre, tytre, Bool.and_self]) (rc_ok _ _ _ _ o62) ?_
     refine zae (fun tm => tm 1 = .sl (cellsL eI x1_now) (List.length x1_now) false ∧ tm 2 = .lit (.int .i64 x2_parts) ∧ tm 3 = .ptr 0 0 ∧ tm 7 = .lit (.int .i64 (IntKind.i64.wrap (x2_parts - r6))) ∧ tm 8 = .ref b14_0 0 (List.length c14_8) 1 (List.length c14_8) ∧ tm 9 = .lit (.int .i64 c14_9) ∧ tm 40 = .sl (cellsL (eSl eI) r61) (List.length r61) false ∧ True) (by refine ⟨e29, e30, e31, e32, e33, e34, ?_, trivial⟩ <;> first | (simp only [ua, b28, e29, e30, e31, e32, e33, e34, d35, nm, seval] <;> rfl) | rfl) ?_
     rintro tm ⟨e63, e64, e65, e66, e67, e68, e69, _⟩
     try simp only [vzf, tyf, b28, d35, g59, g60, e63, e64, e65, e66, e67, e68, e69, nm, seval]
     refine zkw ?_
     cases d70 : (neB r61)
     ·simp only [d70, hs] at h
      simp only [vzf, tyf, b28, d35, g59, g60, e63, e64, e65, e66, e67, e68, e69, d70, nm, seval]
      refine zyi (w := 1) (enc := (eSl eI)) (xs := c14_8) (ys := r61) (el := el14_0) (fun _ => rfl) lf106 ao106 Tryz.underlying106 (by first | rfl | assumption | (simp only [zaa, zab, et106, b28, nm, seval] <;> rfl)) d70 ?_
      simp only [vzf, tyf, b28, d35, g59, g60, e63, e64, e65, e66, e67, e68, e69, d70, nm, seval]
      refine zex (trT ?_)
      try simp only [vzf, tyf, b28, d35, g59, g60, e63, e64, e65, e66, e67, e68, e69, d70, nm, seval]
      exact ⟨p14, Nat.lt_succ_self _, by rw [hI14]; refine ⟨p14, c14_8, IntKind.i64.wrap (c14_9 + 1), .ref b14_0 0 (List.length c14_8) 1 (List.length c14_8), rfl, rfl, (show 16 ≤ nx14 + 17 by omega), ?_, e63, e64, e65, e66, ?_, ?_, Or.inl ⟨b14_0, el14_0, rfl, (by first | omega | (simp only [nm, seval]; omega)), (by omega), ?_⟩, h⟩ <;> first | (simp only [ua, b28, d35, e63, e64, e65, e66, e67, e68, e69, d70, nm, seval] <;> rfl) | rfl⟩
     simp only [d70, hs] at h
     cases g71 : (roomOk 24 (List.length (c14_8 ++ r61)))
     ·simp only [g71, hs] at h
      exact absurd h kN14
     simp only [g71, hs] at h
     simp only [vzf, tyf, b28, d35, g59, g60, e63, e64, e65, e66, e67, e68, e69, d70, g71, nm, seval]
     refine zys (w := 1) (enc := (eSl eI)) (xs := c14_8) (ys := r61) (el := el14_0) (fun _ => rfl) lf106 ao106 Tryz.underlying106 (by first | rfl | assumption | (simp only [zaa, zab, et106, b28, nm, seval] <;> rfl)) d70 g71 ?_
     simp only [vzf, tyf, b28, d35, g59, g60, e63, e64, e65, e66, e67, e68, e69, d70, g71, nm, seval]
     refine zex (trT ?_)
     try simp only [vzf, tyf, b28, d35, g59, g60, e63, e64, e65, e66, e67, e68, e69, d70, g71, nm, seval]
     exact ⟨p14, Nat.lt_succ_self _, by rw [hI14]; refine ⟨p14, (c14_8 ++ r61), IntKind.i64.wrap (c14_9 + 1), .ref (nx14 + 12) 0 (List.length (c14_8 ++ r61)) 1 (List.length (c14_8 ++ r61)), rfl, rfl, (show 16 ≤ nx14 + 17 by omega), ?_, e63, e64, e65, e66, ?_, ?_, Or.inl ⟨nx14 + 12, (sameEl el14_0 29), rfl, (by first | omega | (simp only [nm, seval]; omega)), (by omega), ?_⟩, h⟩ <;> first | (simp only [ua, b28, d35, e63, e64, e65, e66, e67, e68, e69, d70, nm, seval] <;> rfl) | rfl⟩
    refine zagf rfl ?_
    try simp only [vzf, tyf, b28, e29, e30, e31, e32, e33, e34, d35, g59, g60, nm, seval]
    refine trT ?_
    refine zto rfl ?_
    obtain ⟨r72, o73, h⟩ := optI h kN14
    try simp only [hs] at h
    simp only [vzf, tyf, b28, e29, e30, e31, e32, e33, e34, d35, g59, g60, nm, seval]
    refine kfreeze (g := (nx14 + 9)) (el := (sameEl (some 3) 3)) (cs := cellsL eI (([] ++ x1_now) ++ [c14_9])) (args' := [.agg (cGs x0_s), .sl (cellsL eI (([] ++ x1_now) ++ [c14_9])) (List.length (([] ++ x1_now) ++ [c14_9])) false, .lit (.int .i64 x2_parts)]) (args0 := [.agg (cGs x0_s), .sl (cellsL eI (([] ++ x1_now) ++ [c14_9])) (List.length (([] ++ x1_now) ++ [c14_9])) false, .lit (.int .i64 x2_parts)]) (by first | rfl | assumption | (simp only [zaa, zab, et29, b28, nm, seval] <;> rfl)) ⟨.same, Frozen.own (by first | rfl | assumption | (simp only [zaa, zab, et29, b28, nm, seval] <;> rfl)) (eI_ok.treeL _) (zal (w := 1) (enc := eI) (fun _ => rfl) _), .same, trivial⟩ (by first | (simp only [nrm, tynrm] <;> rfl) | rfl) (by simp only [tre, tytre, Bool.and_self]) (rc_ok _ _ _ _ o73) ?_
    refine zae (fun tm => tm 1 = .sl (cellsL eI x1_now) (List.length x1_now) false ∧ tm 2 = .lit (.int .i64 x2_parts) ∧ tm 3 = .ptr 0 0 ∧ tm 7 = .lit (.int .i64 (IntKind.i64.wrap (x2_parts - r6))) ∧ tm 9 = .lit (.int .i64 c14_9) ∧ tm 32 = .ref b14_0 0 (List.length c14_8) 1 (List.length c14_8) ∧ tm 40 = .sl (cellsL (eSl eI) r72) (List.length r72) false ∧ True) (by refine ⟨e29, e30, e31, e32, e34, ?_, ?_, trivial⟩ <;> first | (simp only [ua, b28, e29, e30, e31, e32, e33, e34, d35, nm, seval] <;> rfl) | rfl) ?_
    rintro tm ⟨e74, e75, e76, e77, e78, e79, e80, _⟩
    try simp only [vzf, tyf, b28, d35, g59, g60, e74, e75, e76, e77, e78, e79, e80, nm, seval]
    refine zku ?_
    cases d81 : (neB r72)
    ·simp only [d81, hs] at h
     simp only [vzf, tyf, b28, d35, g59, g60, e74, e75, e76, e77, e78, e79, e80, d81, nm, seval]
     refine zyi (w := 1) (enc := (eSl eI)) (xs := c14_8) (ys := r72) (el := el14_0) (fun _ => rfl) lf106 ao106 Tryz.underlying106 (by first | rfl | assumption | (simp only [zaa, zab, et106, b28, nm, seval] <;> rfl)) d81 ?_
     simp only [vzf, tyf, b28, d35, g59, g60, e74, e75, e76, e77, e78, e79, e80, d81, nm, seval]
     refine zex (trT ?_)
     try simp only [vzf, tyf, b28, d35, g59, g60, e74, e75, e76, e77, e78, e79, e80, d81, nm, seval]
     exact ⟨p14, Nat.lt_succ_self _, by rw [hI14]; refine ⟨p14, c14_8, IntKind.i64.wrap (c14_9 + 1), .ref b14_0 0 (List.length c14_8) 1 (List.length c14_8), rfl, rfl, (show 16 ≤ nx14 + 17 by omega), ?_, e74, e75, e76, e77, ?_, ?_, Or.inl ⟨b14_0, el14_0, rfl, (by first | omega | (simp only [nm, seval]; omega)), (by omega), ?_⟩, h⟩ <;> first | (simp only [ua, b28, d35, e74, e75, e76, e77, e78, e79, e80, d81, nm, seval] <;> rfl) | rfl⟩
    simp only [d81, hs] at h
    cases g82 : (roomOk 24 (List.length (c14_8 ++ r72)))
    ·simp only [g82, hs] at h
     exact absurd h kN14
    simp only [g82, hs] at h
    simp only [vzf, tyf, b28, d35, g59, g60, e74, e75, e76, e77, e78, e79, e80, d81, g82, nm, seval]
    refine zys (w := 1) (enc := (eSl eI)) (xs := c14_8) (ys := r72) (el := el14_0) (fun _ => rfl) lf106 ao106 Tryz.underlying106 (by first | rfl | assumption | (simp only [zaa, zab, et106, b28, nm, seval] <;> rfl)) d81 g82 ?_
    simp only [vzf, tyf, b28, d35, g59, g60, e74, e75, e76, e77, e78, e79, e80, d81, g82, nm, seval]
    refine zex (trT ?_)
    try simp only [vzf, tyf, b28, d35, g59, g60, e74, e75, e76, e77, e78, e79, e80, d81, g82, nm, seval]
    exact ⟨p14, Nat.lt_succ_self _, by rw [hI14]; refine ⟨p14, (c14_8 ++ r72), IntKind.i64.wrap (c14_9 + 1), .ref (nx14 + 12) 0 (List.length (c14_8 ++ r72)) 1 (List.length (c14_8 ++ r72)), rfl, rfl, (show 16 ≤ nx14 + 17 by omega), ?_, e74, e75, e76, e77, ?_, ?_, Or.inl ⟨nx14 + 12, (sameEl el14_0 29), rfl, (by first | omega | (simp only [nm, seval]; omega)), (by omega), ?_⟩, h⟩ <;> first | (simp only [ua, b28, d35, e74, e75, e76, e77, e78, e79, e80, d81, nm, seval] <;> rfl) | rfl⟩
  ·have w83 := vap_y hy_q24
   have w84 := zadr hy_q24
   have w85 := zaum hy_q24
   cases p14 with
   | zero =>
    simp only [zaw, hs, reduceCtorEq] at h
    exact absurd h kN14
   | succ p14 =>
    simp only [zaw, hs, reduceCtorEq] at h
    cases d86 : (decide (c14_9 ≤ (IntKind.i64.wrap (x2_parts - r6))))
    ·simp only [d86, hs] at h
     have b87 := And.intro d13 (And.intro n22 (And.intro H15 (And.intro w83 (And.intro w84 (And.intro w85 d86)))))
     replace h := kG14 _ h
     try dsimp only at h
     try simp only [hs] at h
     try simp only [vzf, tyf, b87, e16, e17, e18, e19, e20, e21, nm, seval]
     refine zap (x := (y14_0)) (by first | (simp only [Tryz.results108, resV, resL, resV1, zat, zbs, uw, cr, tyf, b87, nm, seval] <;> rfl) | rfl) ?_
     obtain rfl := kF _ h
     refine zas ?_ ?_
     ·simp only [tre, tytre, Bool.and_self]
     ·first | exact zadr (by assumption) _ | (simp only [outV, uw, zad, cr, tyf, nrm, tynrm, b87, e16, e17, e18, e19, e20, e21, nm, seval] <;> rfl) | rfl | (simp [outV, zad, updH, eSl, cellsL, normV, tynrm, nrm]; done) | (simp [outV, zad, updH, eSl, cellsL, normV, tynrm, nrm]; rw [List.take_of_length_le (by rw [zal (w := 1) (enc := eI) (fun _ => rfl)]; simp)]; exact eI_ok.normL _)
    simp only [d86, hs] at h
    have b88 := And.intro d13 (And.intro n22 (And.intro H15 (And.intro w83 (And.intro w84 (And.intro w85 d86)))))
    simp only [vzf, tyf, b88, e16, e17, e18, e19, e20, e21, nm, seval]
    refine ziy (fun tm => tm 1 = .sl (cellsL eI x1_now) (List.length x1_now) false ∧ tm 2 = .lit (.int .i64 x2_parts) ∧ tm 3 = .ptr 0 0 ∧ tm 7 = .lit (.int .i64 (IntKind.i64.wrap (x2_parts - r6))) ∧ tm 8 = y14_0 ∧ tm 9 = .lit (.int .i64 c14_9) ∧ True) (by refine ⟨e16, e17, e18, e19, e20, e21, trivial⟩ <;> first | (simp only [ua, b88, e16, e17, e18, e19, e20, e21, nm, seval] <;> rfl) | rfl) ?_
    rintro tm ⟨e89, e90, e91, e92, e93, e94, _⟩
    refine zxa mixed 0 [([false, true, true, true, true, true, true, true, false, false, false], 8)] [false, false, false, false, false, false, false, false, false, true, true] [true, false, false, false, false, false, false, false, false, true, true] (by kernel_rfl) ?_
    refine zxv ?_
    cases d95 : (neB x1_now)
    ·simp only [d95, hs] at h
     simp only [vzf, tyf, b88, e89, e90, e91, e92, e93, e94, d95, nm, seval]
     refine zoj (enc := eI) (ys := x1_now) ao29 Tryz.underlying29 d95 ?_
     cases g96 : (roomOk 8 (List.length (([] : List Int) ++ [c14_9])))
     ·simp only [g96, hs] at h
      exact absurd h kN14
     simp only [g96, hs] at h
     simp only [vzf, tyf, b88, e89, e90, e91, e92, e93, e94, d95, g96, zvn, nm, seval]
     refine zabz (w := 1) (enc := eI) (ys := ([c14_9])) (el2 := (some 3)) (fun _ => rfl) lf29 ao29 Tryz.underlying29 (by first | rfl | assumption | (simp only [zaa, zab, et29, b88, nm, seval] <;> rfl)) (Nat.zero_lt_succ _) g96 ?_
     simp only [vzf, tyf, b88, e89, e90, e91, e92, e93, e94, d95, g96, nm, seval]
     refine zex (trT ?_)
     refine ⟨?_, ?_⟩
     ·refine zto rfl ?_
      obtain ⟨r97, o98, h⟩ := optI h kN14
      try simp only [hs] at h
      simp only [vzf, tyf, b88, e89, e90, e91, e92, e93, e94, d95, g96, nm, seval]
      refine kfreeze (g := (nx14 + 9)) (el := (some 3)) (cs := cellsL eI (([] : List Int) ++ [c14_9])) (args' := [.agg (cGs x0_s), .sl (cellsL eI (([] : List Int) ++ [c14_9])) (List.length (([] : List Int) ++ [c14_9])) false, .lit (.int .i64 x2_parts)]) (args0 := [.agg (cGs x0_s), .sl (cellsL eI (([] : List Int) ++ [c14_9])) (List.length (([] : List Int) ++ [c14_9])) false, .lit (.int .i64 x2_parts)]) (by first | rfl | assumption | (simp only [zaa, zab, et29, b88, nm, seval] <;> rfl)) ⟨.same, Frozen.own (by first | rfl | assumption | (simp only [zaa, zab, et29, b88, nm, seval] <;> rfl)) (eI_ok.treeL _) (zal (w := 1) (enc := eI) (fun _ => rfl) _), .same, trivial⟩ (by first | (simp only [nrm, tynrm] <;> rfl) | rfl) (by simp only [tre, tytre, Bool.and_self]) (rc_ok _ _ _ _ o98) ?_
      refine zae (fun tm => tm 1 = .sl (cellsL eI x1_now) (List.length x1_now) false ∧ tm 2 = .lit (.int .i64 x2_parts) ∧ tm 3 = .ptr 0 0 ∧ tm 7 = .lit (.int .i64 (IntKind.i64.wrap (x2_parts - r6))) ∧ tm 8 = y14_0 ∧ tm 9 = .lit (.int .i64 c14_9) ∧ tm 40 = .sl (cellsL (eSl eI) r97) (List.length r97) false ∧ True) (by refine ⟨e89, e90, e91, e92, e93, e94, ?_, trivial⟩ <;> first | (simp only [ua, b88, e89, e90, e91, e92, e93, e94, d95, nm, seval] <;> rfl) | rfl) ?_
      rintro tm ⟨e99, e100, e101, e102, e103, e104, e105, _⟩
      try simp only [vzf, tyf, b88, d95, g96, e99, e100, e101, e102, e103, e104, e105, nm, seval]
      refine zkw ?_
      cases d106 : (neB r97)
      ·simp only [d106, hs] at h
       simp only [vzf, tyf, b88, d95, g96, e99, e100, e101, e102, e103, e104, e105, d106, nm, seval]
       refine zoj (enc := (eSl eI)) (ys := r97) ao106 Tryz.underlying106 d106 ?_
       simp only [vzf, tyf, b88, d95, g96, e99, e100, e101, e102, e103, e104, e105, d106, nm, seval]
       refine zex (trT ?_)
       try simp only [vzf, tyf, b88, d95, g96, e99, e100, e101, e102, e103, e104, e105, d106, nm, seval]
       exact ⟨p14, Nat.lt_succ_self _, by rw [hI14]; refine ⟨p14, ([] : List (List Int)), IntKind.i64.wrap (c14_9 + 1), .sl [] 0 true, rfl, rfl, (show 16 ≤ nx14 + 17 by omega), ?_, e99, e100, e101, e102, ?_, ?_, Or.inr ⟨rfl, rfl⟩, h⟩ <;> first | (simp only [ua, b88, d95, e99, e100, e101, e102, e103, e104, e105, d106, nm, seval] <;> rfl) | rfl⟩
      simp only [d106, hs] at h
      cases g107 : (roomOk 24 (List.length (([] : List (List Int)) ++ r97)))
      ·simp only [g107, hs] at h
       exact absurd h kN14
      simp only [g107, hs] at h
      simp only [vzf, tyf, b88, d95, g96, e99, e100, e101, e102, e103, e104, e105, d106, g107, nm, seval]
      refine zmb (w := 1) (enc := (eSl eI)) (ys := r97) (fun _ => rfl) lf106 ao106 Tryz.underlying106 d106 g107 ?_
      simp only [vzf, tyf, b88, d95, g96, e99, e100, e101, e102, e103, e104, e105, d106, g107, nm, seval]
      refine zex (trT ?_)
      try simp only [vzf, tyf, b88, d95, g96, e99, e100, e101, e102, e103, e104, e105, d106, g107, nm, seval]
      exact ⟨p14, Nat.lt_succ_self _, by rw [hI14]; refine ⟨p14, (([] : List (List Int)) ++ r97), IntKind.i64.wrap (c14_9 + 1), .ref (nx14 + 12) 0 (List.length (([] : List (List Int)) ++ r97)) 1 (List.length (([] : List (List Int)) ++ r97)), rfl, rfl, (show 16 ≤ nx14 + 17 by omega), ?_, e99, e100, e101, e102, ?_, ?_, Or.inl ⟨nx14 + 12, (some 29), rfl, (by first | omega | (simp only [nm, seval]; omega)), (by omega), ?_⟩, h⟩ <;> first | (simp only [ua, b88, d95, e99, e100, e101, e102, e103, e104, e105, d106, nm, seval] <;> rfl) | rfl⟩
     refine zagf rfl ?_
     try simp only [vzf, tyf, b88, e89, e90, e91, e92, e93, e94, d95, g96, nm, seval]
     refine trT ?_
     refine zto rfl ?_
     obtain ⟨r108, o109, h⟩ := optI h kN14
     try simp only [hs] at h
     simp only [vzf, tyf, b88, e89, e90, e91, e92, e93, e94, d95, g96, nm, seval]
     refine kfreeze (g := (nx14 + 9)) (el := (some 3)) (cs := cellsL eI (([] : List Int) ++ [c14_9])) (args' := [.agg (cGs x0_s), .sl (cellsL eI (([] : List Int) ++ [c14_9])) (List.length (([] : List Int) ++ [c14_9])) false, .lit (.int .i64 x2_parts)]) (args0 := [.agg (cGs x0_s), .sl (cellsL eI (([] : List Int) ++ [c14_9])) (List.length (([] : List Int) ++ [c14_9])) false, .lit (.int .i64 x2_parts)]) (by first | rfl | assumption | (simp only [zaa, zab, et29, b88, nm, seval] <;> rfl)) ⟨.same, Frozen.own (by first | rfl | assumption | (simp only [zaa, zab, et29, b88, nm, seval] <;> rfl)) (eI_ok.treeL _) (zal (w := 1) (enc := eI) (fun _ => rfl) _), .same, trivial⟩ (by first | (simp only [nrm, tynrm] <;> rfl) | rfl) (by simp only [tre, tytre, Bool.and_self]) (rc_ok _ _ _ _ o109) ?_
     refine zae (fun tm => tm 1 = .sl (cellsL eI x1_now) (List.length x1_now) false ∧ tm 2 = .lit (.int .i64 x2_parts) ∧ tm 3 = .ptr 0 0 ∧ tm 7 = .lit (.int .i64 (IntKind.i64.wrap (x2_parts - r6))) ∧ tm 9 = .lit (.int .i64 c14_9) ∧ tm 32 = y14_0 ∧ tm 40 = .sl (cellsL (eSl eI) r108) (List.length r108) false ∧ True) (by refine ⟨e89, e90, e91, e92, e94, ?_, ?_, trivial⟩ <;> first | (simp only [ua, b88, e89, e90, e91, e92, e93, e94, d95, nm, seval] <;> rfl) | rfl) ?_
     rintro tm ⟨e110, e111, e112, e113, e114, e115, e116, _⟩
     try simp only [vzf, tyf, b88, d95, g96, e110, e111, e112, e113, e114, e115, e116, nm, seval]
     refine zku ?_
     cases d117 : (neB r108)
     ·simp only [d117, hs] at h
      simp only [vzf, tyf, b88, d95, g96, e110, e111, e112, e113, e114, e115, e116, d117, nm, seval]
      refine zoj (enc := (eSl eI)) (ys := r108) ao106 Tryz.underlying106 d117 ?_
      simp only [vzf, tyf, b88, d95, g96, e110, e111, e112, e113, e114, e115, e116, d117, nm, seval]
      refine zex (trT ?_)
      try simp only [vzf, tyf, b88, d95, g96, e110, e111, e112, e113, e114, e115, e116, d117, nm, seval]
      exact ⟨p14, Nat.lt_succ_self _, by rw [hI14]; refine ⟨p14, ([] : List (List Int)), IntKind.i64.wrap (c14_9 + 1), .sl [] 0 true, rfl, rfl, (show 16 ≤ nx14 + 17 by omega), ?_, e110, e111, e112, e113, ?_, ?_, Or.inr ⟨rfl, rfl⟩, h⟩ <;> first | (simp only [ua, b88, d95, e110, e111, e112, e113, e114, e115, e116, d117, nm, seval] <;> rfl) | rfl⟩
     simp only [d117, hs] at h
     cases g118 : (roomOk 24 (List.length (([] : List (List Int)) ++ r108)))
     ·simp only [g118, hs] at h
      exact absurd h kN14
     simp only [g118, hs] at h
     simp only [vzf, tyf, b88, d95, g96, e110, e111, e112, e113, e114, e115, e116, d117, g118, nm, seval]
     refine zmb (w := 1) (enc := (eSl eI)) (ys := r108) (fun _ => rfl) lf106 ao106 Tryz.underlying106 d117 g118 ?_
     simp only [vzf, tyf, b88, d95, g96, e110, e111, e112, e113, e114, e115, e116, d117, g118, nm, seval]
     refine zex (trT ?_)
     try simp only [vzf, tyf, b88, d95, g96, e110, e111, e112, e113, e114, e115, e116, d117, g118, nm, seval]
     exact ⟨p14, Nat.lt_succ_self _, by rw [hI14]; refine ⟨p14, (([] : List (List Int)) ++ r108), IntKind.i64.wrap (c14_9 + 1), .ref (nx14 + 12) 0 (List.length (([] : List (List Int)) ++ r108)) 1 (List.length (([] : List (List Int)) ++ r108)), rfl, rfl, (show 16 ≤ nx14 + 17 by omega), ?_, e110, e111, e112, e113, ?_, ?_, Or.inl ⟨nx14 + 12, (some 29), rfl, (by first | omega | (simp only [nm, seval]; omega)), (by omega), ?_⟩, h⟩ <;> first | (simp only [ua, b88, d95, e110, e111, e112, e113, e114, e115, e116, d117, nm, seval] <;> rfl) | rfl⟩
    simp only [d95, hs] at h
    cases g119 : (roomOk 8 (List.length ([] ++ x1_now)))
    ·simp only [g119, hs] at h
     exact absurd h kN14
    simp only [g119, hs] at h
    simp only [vzf, tyf, b88, e89, e90, e91, e92, e93, e94, d95, g119, nm, seval]
    refine zmb (w := 1) (enc := eI) (ys := x1_now) (fun _ => rfl) lf29 ao29 Tryz.underlying29 d95 g119 ?_
    cases g120 : (roomOk 8 (List.length (([] ++ x1_now) ++ [c14_9])))
    ·simp only [g120, hs] at h
     exact absurd h kN14
    simp only [g120, hs] at h
    simp only [vzf, tyf, b88, e89, e90, e91, e92, e93, e94, d95, g119, g120, nm, seval]
    refine k_app (w := 1) (enc := eI) (xs := ([] ++ x1_now)) (ys := ([c14_9])) (el := (some 3)) (el2 := (some 3)) (fun _ => rfl) lf29 ao29 Tryz.underlying29 (by first | rfl | assumption | (simp only [zaa, zab, et29, b88, nm, seval] <;> rfl)) (by first | rfl | assumption | (simp only [zaa, zab, et29, b88, nm, seval] <;> rfl)) (Nat.zero_lt_succ _) g120 ?_
    simp only [vzf, tyf, b88, e89, e90, e91, e92, e93, e94, d95, g119, g120, nm, seval]
    refine zex (trT ?_)
    refine ⟨?_, ?_⟩
    ·refine zto rfl ?_
     obtain ⟨r121, o122, h⟩ := optI h kN14
     try simp only [hs] at h
     simp only [vzf, tyf, b88, e89, e90, e91, e92, e93, e94, d95, g119, g120, nm, seval]
     refine kfreeze (g := (nx14 + 9)) (el := (sameEl (some 3) 3)) (cs := cellsL eI (([] ++ x1_now) ++ [c14_9])) (args' := [.agg (cGs x0_s), .sl (cellsL eI (([] ++ x1_now) ++ [c14_9])) (List.length (([] ++ x1_now) ++ [c14_9])) false, .lit (.int .i64 x2_parts)]) (args0 := [.agg (cGs x0_s), .sl (cellsL eI (([] ++ x1_now) ++ [c14_9])) (List.length (([] ++ x1_now) ++ [c14_9])) false, .lit (.int .i64 x2_parts)]) (by first | rfl | assumption | (simp only [zaa, zab, et29, b88, nm, seval] <;> rfl)) ⟨.same, Frozen.own (by first | rfl | assumption | (simp only [zaa, zab, et29, b88, nm, seval] <;> rfl)) (eI_ok.treeL _) (zal (w := 1) (enc := eI) (fun _ => rfl) _), .same, trivial⟩ (by first | (simp only [nrm, tynrm] <;> rfl) | rfl) (by simp only [tre, tytre, Bool.and_self]) (rc_ok _ _ _ _ o122) ?_
     refine zae (fun tm => tm 1 = .sl (cellsL eI x1_now) (List.length x1_now) false ∧ tm 2 = .lit (.int .i64 x2_parts) ∧ tm 3 = .ptr 0 0 ∧ tm 7 = .lit (.int .i64 (IntKind.i64.wrap (x2_parts - r6))) ∧ tm 8 = y14_0 ∧ tm 9 = .lit (.int .i64 c14_9) ∧ tm 40 = .sl (cellsL (eSl eI) r121) (List.length r121) false ∧ True) (by refine ⟨e89, e90, e91, e92, e93, e94, ?_, trivial⟩ <;> first | (simp only [ua, b88, e89, e90, e91, e92, e93, e94, d95, nm, seval] <;> rfl) | rfl) ?_
     rintro tm ⟨e123, e124, e125, e126, e127, e128, e129, _⟩
     try simp only [vzf, tyf, b88, d95, g119, g120, e123, e124, e125, e126, e127, e128, e129, nm, seval]
     refine zkw ?_
     cases d130 : (neB r121)
     ·simp only [d130, hs] at h
      simp only [vzf, tyf, b88, d95, g119, g120, e123, e124, e125, e126, e127, e128, e129, d130, nm, seval]
      refine zoj (enc := (eSl eI)) (ys := r121) ao106 Tryz.underlying106 d130 ?_
      simp only [vzf, tyf, b88, d95, g119, g120, e123, e124, e125, e126, e127, e128, e129, d130, nm, seval]
      refine zex (trT ?_)
      try simp only [vzf, tyf, b88, d95, g119, g120, e123, e124, e125, e126, e127, e128, e129, d130, nm, seval]
      exact ⟨p14, Nat.lt_succ_self _, by rw [hI14]; refine ⟨p14, ([] : List (List Int)), IntKind.i64.wrap (c14_9 + 1), .sl [] 0 true, rfl, rfl, (show 16 ≤ nx14 + 17 by omega), ?_, e123, e124, e125, e126, ?_, ?_, Or.inr ⟨rfl, rfl⟩, h⟩ <;> first | (simp only [ua, b88, d95, e123, e124, e125, e126, e127, e128, e129, d130, nm, seval] <;> rfl) | rfl⟩
     simp only [d130, hs] at h
     cases g131 : (roomOk 24 (List.length (([] : List (List Int)) ++ r121)))
     ·simp only [g131, hs] at h
      exact absurd h kN14
     simp only [g131, hs] at h
     simp only [vzf, tyf, b88, d95, g119, g120, e123, e124, e125, e126, e127, e128, e129, d130, g131, nm, seval]
     refine zmb (w := 1) (enc := (eSl eI)) (ys := r121) (fun _ => rfl) lf106 ao106 Tryz.underlying106 d130 g131 ?_
     simp only [vzf, tyf, b88, d95, g119, g120, e123, e124, e125, e126, e127, e128, e129, d130, g131, nm, seval]
     refine zex (trT ?_)
     try simp only [vzf, tyf, b88, d95, g119, g120, e123, e124, e125, e126, e127, e128, e129, d130, g131, nm, seval]
     exact ⟨p14, Nat.lt_succ_self _, by rw [hI14]; refine ⟨p14, (([] : List (List Int)) ++ r121), IntKind.i64.wrap (c14_9 + 1), .ref (nx14 + 12) 0 (List.length (([] : List (List Int)) ++ r121)) 1 (List.length (([] : List (List Int)) ++ r121)), rfl, rfl, (show 16 ≤ nx14 + 17 by omega), ?_, e123, e124, e125, e126, ?_, ?_, Or.inl ⟨nx14 + 12, (some 29), rfl, (by first | omega | (simp only [nm, seval]; omega)), (by omega), ?_⟩, h⟩ <;> first | (simp only [ua, b88, d95, e123, e124, e125, e126, e127, e128, e129, d130, nm, seval] <;> rfl) | rfl⟩
    refine zagf rfl ?_
    try simp only [vzf, tyf, b88, e89, e90, e91, e92, e93, e94, d95, g119, g120, nm, seval]
    refine trT ?_
    refine zto rfl ?_
    obtain ⟨r132, o133, h⟩ := optI h kN14
    try simp only [hs] at h
    simp only [vzf, tyf, b88, e89, e90, e91, e92, e93, e94, d95, g119, g120, nm, seval]
    refine kfreeze (g := (nx14 + 9)) (el := (sameEl (some 3) 3)) (cs := cellsL eI (([] ++ x1_now) ++ [c14_9])) (args' := [.agg (cGs x0_s), .sl (cellsL eI (([] ++ x1_now) ++ [c14_9])) (List.length (([] ++ x1_now) ++ [c14_9])) false, .lit (.int .i64 x2_parts)]) (args0 := [.agg (cGs x0_s), .sl (cellsL eI (([] ++ x1_now) ++ [c14_9])) (List.length (([] ++ x1_now) ++ [c14_9])) false, .lit (.int .i64 x2_parts)]) (by first | rfl | assumption | (simp only [zaa, zab, et29, b88, nm, seval] <;> rfl)) ⟨.same, Frozen.own (by first | rfl | assumption | (simp only [zaa, zab, et29, b88, nm, seval] <;> rfl)) (eI_ok.treeL _) (zal (w := 1) (enc := eI) (fun _ => rfl) _), .same, trivial⟩ (by first | (simp only [nrm, tynrm] <;> rfl) | rfl) (by simp only [tre, tytre, Bool.and_self]) (rc_ok _ _ _ _ o133) ?_
    refine zae (fun tm => tm 1 = .sl (cellsL eI x1_now) (List.length x1_now) false ∧ tm 2 = .lit (.int .i64 x2_parts) ∧ tm 3 = .ptr 0 0 ∧ tm 7 = .lit (.int .i64 (IntKind.i64.wrap (x2_parts - r6))) ∧ tm 9 = .lit (.int .i64 c14_9) ∧ tm 32 = y14_0 ∧ tm 40 = .sl (cellsL (eSl eI) r132) (List.length r132) false ∧ True) (by refine ⟨e89, e90, e91, e92, e94, ?_, ?_, trivial⟩ <;> first | (simp only [ua, b88, e89, e90, e91, e92, e93, e94, d95, nm, seval] <;> rfl) | rfl) ?_
    rintro tm ⟨e134, e135, e136, e137, e138, e139, e140, _⟩
    try simp only [vzf, tyf, b88, d95, g119, g120, e134, e135, e136, e137, e138, e139, e140, nm, seval]
    refine zku ?_
    cases d141 : (neB r132)
    ·simp only [d141, hs] at h
     simp only [vzf, tyf, b88, d95, g119, g120, e134, e135, e136, e137, e138, e139, e140, d141, nm, seval]
     refine zoj (enc := (eSl eI)) (ys := r132) ao106 Tryz.underlying106 d141 ?_
     simp only [vzf, tyf, b88, d95, g119, g120, e134, e135, e136, e137, e138, e139, e140, d141, nm, seval]
     refine zex (trT ?_)
     try simp only [vzf, tyf, b88, d95, g119, g120, e134, e135, e136, e137, e138, e139, e140, d141, nm, seval]
     exact ⟨p14, Nat.lt_succ_self _, by rw [hI14]; refine ⟨p14, ([] : List (List Int)), IntKind.i64.wrap (c14_9 + 1), .sl [] 0 true, rfl, rfl, (show 16 ≤ nx14 + 17 by omega), ?_, e134, e135, e136, e137, ?_, ?_, Or.inr ⟨rfl, rfl⟩, h⟩ <;> first | (simp only [ua, b88, d95, e134, e135, e136, e137, e138, e139, e140, d141, nm, seval] <;> rfl) | rfl⟩
    simp only [d141, hs] at h
    cases g142 : (roomOk 24 (List.length (([] : List (List Int)) ++ r132)))
    ·simp only [g142, hs] at h
     exact absurd h kN14
    simp only [g142, hs] at h
    simp only [vzf, tyf, b88, d95, g119, g120, e134, e135, e136, e137, e138, e139, e140, d141, g142, nm, seval]
    refine zmb (w := 1) (enc := (eSl eI)) (ys := r132) (fun _ => rfl) lf106 ao106 Tryz.underlying106 d141 g142 ?_
    simp only [vzf, tyf, b88, d95, g119, g120, e134, e135, e136, e137, e138, e139, e140, d141, g142, nm, seval]
    refine zex (trT ?_)
    try simp only [vzf, tyf, b88, d95, g119, g120, e134, e135, e136, e137, e138, e139, e140, d141, g142, nm, seval]
    exact ⟨p14, Nat.lt_succ_self _, by rw [hI14]; refine ⟨p14, (([] : List (List Int)) ++ r132), IntKind.i64.wrap (c14_9 + 1), .ref (nx14 + 12) 0 (List.length (([] : List (List Int)) ++ r132)) 1 (List.length (([] : List (List Int)) ++ r132)), rfl, rfl, (show 16 ≤ nx14 + 17 by omega), ?_, e134, e135, e136, e137, ?_, ?_, Or.inl ⟨nx14 + 12, (some 29), rfl, (by first | omega | (simp only [nm, seval]; omega)), (by omega), ?_⟩, h⟩ <;> first | (simp only [ua, b88, d95, e134, e135, e136, e137, e138, e139, e140, d141, nm, seval] <;> rfl) | rfl⟩
 simp only [d13, hs] at h
 cases d143 : (neB x1_now)
 ·simp only [d143, hs] at h
  simp only [vzf, tyf, e8, e9, e10, e11, e12, d13, d143, nm, seval]
  refine zoj (enc := eI) (ys := x1_now) ao29 Tryz.underlying29 d143 ?_
  cases g144 : (roomOk 8 (List.length (([] : List Int) ++ [IntKind.i64.wrap (x2_parts - r6)])))
  ·simp only [g144, hs] at h
   exact absurd h kN
  simp only [g144, hs] at h
  simp only [vzf, tyf, e8, e9, e10, e11, e12, d13, d143, g144, zvn, nm, seval]
  refine zabz (w := 1) (enc := eI) (ys := ([IntKind.i64.wrap (x2_parts - r6)])) (el2 := (some 3)) (fun _ => rfl) lf29 ao29 Tryz.underlying29 (by first | rfl | assumption | (simp only [zaa, zab, et29, nm, seval] <;> rfl)) (Nat.zero_lt_succ _) g144 ?_
  try simp only [vzf, tyf, e8, e9, e10, e11, e12, d13, d143, g144, nm, seval]
  refine zap (x := (.ref 19 0 (List.length ([(([] : List Int) ++ [IntKind.i64.wrap (x2_parts - r6)])])) 1 (List.length ([(([] : List Int) ++ [IntKind.i64.wrap (x2_parts - r6)])])))) (by first | (simp only [Tryz.results108, resV, resL, resV1, zat, zbs, uw, cr, tyf, d13, d143, g144, nm, seval] <;> rfl) | rfl) ?_
  obtain rfl := kF _ h
  refine zas ?_ ?_
  ·simp only [tre, tytre, Bool.and_self]
  ·first | exact zadr (by assumption) _ | (simp only [outV, uw, zad, cr, tyf, nrm, tynrm, e8, e9, e10, e11, e12, d13, d143, g144, nm, seval] <;> rfl) | rfl | (simp [outV, zad, updH, eSl, cellsL, normV, tynrm, nrm]; done) | (simp [outV, zad, updH, eSl, cellsL, normV, tynrm, nrm]; rw [List.take_of_length_le (by rw [zal (w := 1) (enc := eI) (fun _ => rfl)]; simp)]; exact eI_ok.normL _)
 simp only [d143, hs] at h
 cases g145 : (roomOk 8 (List.length ([] ++ x1_now)))
 ·simp only [g145, hs] at h
  exact absurd h kN
 simp only [g145, hs] at h
 simp only [vzf, tyf, e8, e9, e10, e11, e12, d13, d143, g145, nm, seval]
 refine zmb (w := 1) (enc := eI) (ys := x1_now) (fun _ => rfl) lf29 ao29 Tryz.underlying29 d143 g145 ?_
 cases g146 : (roomOk 8 (List.length (([] ++ x1_now) ++ [IntKind.i64.wrap (x2_parts - r6)])))
 ·simp only [g146, hs] at h
  exact absurd h kN
 simp only [g146, hs] at h
 simp only [vzf, tyf, e8, e9, e10, e11, e12, d13, d143, g145, g146, nm, seval]
 refine k_app (w := 1) (enc := eI) (xs := ([] ++ x1_now)) (ys := ([IntKind.i64.wrap (x2_parts - r6)])) (el := (some 3)) (el2 := (some 3)) (fun _ => rfl) lf29 ao29 Tryz.underlying29 (by first | rfl | assumption | (simp only [zaa, zab, et29, nm, seval] <;> rfl)) (by first | rfl | assumption | (simp only [zaa, zab, et29, nm, seval] <;> rfl)) (Nat.zero_lt_succ _) g146 ?_
 try simp only [vzf, tyf, e8, e9, e10, e11, e12, d13, d143, g145, g146, nm, seval]
 refine zap (x := (.ref 19 0 (List.length ([(([] ++ x1_now) ++ [IntKind.i64.wrap (x2_parts - r6)])])) 1 (List.length ([(([] ++ x1_now) ++ [IntKind.i64.wrap (x2_parts - r6)])])))) (by first | (simp only [Tryz.results108, resV, resL, resV1, zat, zbs, uw, cr, tyf, d13, d143, g145, g146, nm, seval] <;> rfl) | rfl) ?_
 obtain rfl := kF _ h
 refine zas ?_ ?_
 ·simp only [tre, tytre, Bool.and_self]
 ·first | exact zadr (by assumption) _ | (simp only [outV, uw, zad, cr, tyf, nrm, tynrm, e8, e9, e10, e11, e12, d13, d143, g145, g146, nm, seval] <;> rfl) | rfl | (simp [outV, zad, updH, eSl, cellsL, normV, tynrm, nrm]; done) | (simp [outV, zad, updH, eSl, cellsL, normV, tynrm, nrm]; rw [List.take_of_length_le (by rw [zal (w := 1) (enc := eI) (fun _ => rfl)]; simp)]; exact eI_ok.normL _)
def zeb : Nat → Gs → (List Int) → Int → Option (List (List Int))
  | 0 => fun _ _ _ => none
  | n + 1 => zfo (zeb n)
theorem zjc : ∀ (n : Nat) (x0_s : Gs) (x1_now : List Int) (x2_parts : Int) (R : List (List Int)), zeb n x0_s x1_now x2_parts = some R → VPure Tryz.prog G0 108 [.agg (cGs x0_s), .sl (cellsL eI x1_now) (List.length x1_now) false, .lit (.int .i64 x2_parts)] (.tree (.sl (cellsL (eSl eI) R) (List.length R) false))
  | 0, _, _, _, R, h => by cases h
  | n + 1, x0_s, x1_now, x2_parts, R, h => zlj (zeb n) (zjc n) x0_s x1_now x2_parts R h
def zig (s : Gs) (now : List Int) (parts : Int) : Option (List (List Int)) := zeb 16 s now parts
theorem zij (s : Gs) (now : List Int) (parts : Int) (R : List (List Int)) (h : zig s now parts = some R) : VPure Tryz.prog G0 108 [.agg (cGs s), .sl (cellsL eI now) (List.length now) false, .lit (.int .i64 parts)] (.tree (.sl (cellsL (eSl eI) R) (List.length R) false)) := zjc 16 s now parts R h
def zck (x0_s : Gs) : Nat → (List (List Int)) → Int → Option (LOut (List (List Int)) ((List (List Int)) × Int))
 | 0, _, _ => none
 | k0 + 1, c0_3, c0_4 => cond (decide (c0_4 ≤ 8)) (Option.bind (zig x0_s ([] : List Int) c0_4) (fun r1 => cond (neB r1) (cond (roomOk 24 (List.length (c0_3 ++ r1))) (zck x0_s k0 (c0_3 ++ r1) (IntKind.i64.wrap (c0_4 + 1))) none) none)) (some (.go (c0_3, c0_4)))
def zhn (x0_s : Gs) : Option (List (List Int)) := lbind (zck x0_s 1000000 ([] : List (List Int)) 1) (fun r3 => some r3) (fun c2 => some c2.1) (fun _ _ => none)
theorem zrj (x0_s : Gs) (R : List (List Int)) (h : zhn x0_s = some R) : VPure Tryz.prog G0 77 [.agg (cGs x0_s)] (.tree (.sl (cellsL (eSl eI) R) (List.length R) false)) := by
 refine VPure.runR mixed Tryz.call77 Tryz.func77 rfl (by simp [Tryz.ntmps77]; kernel_rfl) ?_
 obtain ⟨KF, h, kF, kN⟩ := zam h
 simp only [zhn] at h
 simp only [vz, tyf, nm, seval]
 obtain ⟨K4, h, kR4, kG4, kB4, kN4⟩ := zbc h kN
 obtain ⟨f4, hf4, h⟩ := call3 h
 obtain ⟨I4, hI4⟩ : ∃ I : Nat → St → Prop, I = (fun m st => ∃ (p4 : Nat) (c4_3 : List (List Int)) (c4_4 : Int) (y4_0 : VV), p4 = m ∧ st.df = [] ∧ 4 ≤ st.nx ∧ st.H 0 = some (.cells (some 28) (cGs x0_s)) ∧ st.tm 1 = .ptr 0 0 ∧ st.tm 3 = y4_0 ∧ st.tm 4 = .lit (.int .i64 c4_4) ∧ ((∃ (β : Nat) (el : Option TypeId), y4_0 = .ref β 0 (List.length c4_3) 1 (List.length c4_3) ∧ β < st.nx ∧ β ≠ 0 ∧ st.H β = some (.cells el (cellsL (eSl eI) c4_3))) ∨ (y4_0 = .lit (.slice none 0 0) ∧ c4_3 = [])) ∧ K4 (f4 p4 c4_3 c4_4)) := ⟨_, rfl⟩
 refine loopK mixed (by kernel_rfl) I4 1000000 (by rw [hI4]; refine ⟨1000000, ([] : List (List Int)), 1, .lit (.slice none 0 0), rfl, rfl, (show 4 ≤ 4 by omega), ?_, ?_, ?_, ?_, Or.inr ⟨rfl, rfl⟩, h⟩ <;> first | (simp only [ua, nm, seval] <;> rfl) | rfl) ?_
 rintro m ⟨tm, H, nx4, df⟩ hinv
 rw [hI4] at hinv
 obtain ⟨p4, c4_3, c4_4, y4_0, rfl, hdf, hn4, H5, e6, e7, e8, ow4_0, h⟩ := hinv
 simp only at hdf hn4 H5 e6 e7 e8 ow4_0
 have n9 := zct (m := 4) (b := nx4) (by omega)
 subst hdf hf4
 rcases ow4_0 with ⟨b4_0, el4_0, rfl, lq11, lq12, H10⟩ | ⟨rfl, rfl⟩
 ·have q11 := zakw lq11
  have q12 := ne_f lq12
  cases p4 with
  | zero =>
   simp only [zck, hs, reduceCtorEq] at h
   exact absurd h kN4
  | succ p4 =>
   simp only [zck, hs, reduceCtorEq] at h
   cases d13 : (decide (c4_4 ≤ 8))
   ·simp only [d13, hs] at h
    replace h := kG4 _ h
    try dsimp only at h
    try simp only [hs] at h
    try simp only [vz, tyf, n9, e6, e7, e8, H5, q11, H10, q12, d13, nm, seval]
    refine zap (x := (.ref b4_0 0 (List.length c4_3) 1 (List.length c4_3))) (by first | (simp only [Tryz.results77, resV, resL, resV1, zat, zbs, uw, cr, tyf, n9, H5, q11, H10, q12, d13, nm, seval] <;> rfl) | rfl) ?_
    obtain rfl := kF _ h
    refine zas ?_ ?_
    ·simp only [tre, tytre, Bool.and_self]
    ·first | (simp only [outV, uw, zad, cr, tyf, nrm, tynrm, n9, e6, e7, e8, H5, q11, H10, q12, d13, nm, seval] <;> rfl) | rfl
   simp only [d13, hs] at h
   obtain ⟨r14, o15, h⟩ := optI h kN4
   try simp only [hs] at h
   simp only [vz, tyf, n9, e6, e7, e8, H5, q11, H10, q12, d13, nm, seval]
   refine ktA (zij _ _ _ _ o15) ?_
   refine zae (fun tm => tm 1 = .ptr 0 0 ∧ tm 4 = .lit (.int .i64 c4_4) ∧ tm 9 = .ref b4_0 0 (List.length c4_3) 1 (List.length c4_3) ∧ tm 12 = .sl (cellsL (eSl eI) r14) (List.length r14) false ∧ True) (by refine ⟨e6, e8, ?_, ?_, trivial⟩ <;> first | (simp only [ua, n9, e6, e7, e8, H5, q11, H10, q12, d13, nm, seval] <;> rfl) | rfl) ?_
   rintro tm ⟨e16, e17, e18, e19, _⟩
   cases g20 : (neB r14)
   ·simp only [g20, hs] at h
    exact absurd h kN4
   simp only [g20, hs] at h
   cases g21 : (roomOk 24 (List.length (c4_3 ++ r14)))
   ·simp only [g21, hs] at h
    exact absurd h kN4
   simp only [g21, hs] at h
   simp only [vz, tyf, n9, H5, q11, H10, q12, d13, e16, e17, e18, e19, g20, g21, nm, seval]
   refine zys (w := 1) (enc := (eSl eI)) (xs := c4_3) (ys := r14) (el := el4_0) (fun _ => rfl) lf106 ao106 Tryz.underlying106 (by first | rfl | assumption | (simp only [zaa, zab, et106, n9, H5, q11, H10, q12, nm, seval] <;> rfl) | (simp only [zaa, zab, zhe, zcy, zaag, zph, tyf, n9, H5, q11, H10, q12, d13, e16, e17, e18, e19, g20, g21, nm, seval]; done)) g20 g21 ?_
   simp only [vz, tyf, n9, H5, q11, H10, q12, d13, e16, e17, e18, e19, g20, g21, nm, seval]
   exact ⟨p4, Nat.lt_succ_self _, by rw [hI4]; refine ⟨p4, (c4_3 ++ r14), IntKind.i64.wrap (c4_4 + 1), .ref (nx4 + 6) 0 (List.length (c4_3 ++ r14)) 1 (List.length (c4_3 ++ r14)), rfl, rfl, (show 4 ≤ nx4 + 11 by omega), ?_, e16, ?_, ?_, Or.inl ⟨nx4 + 6, (sameEl el4_0 29), rfl, (by first | omega | (simp only [nm, seval]; omega)), (by first | omega | (intro hh; simp only [n9, q11, q12, reduceCtorEq] at hh)), ?_⟩, h⟩ <;> first | (simp only [ua, n9, H5, q11, H10, q12, d13, e16, e17, e18, e19, nm, seval] <;> rfl) | rfl⟩
 ·cases p4 with
  | zero =>
   simp only [zck, hs, reduceCtorEq] at h
   exact absurd h kN4
  | succ p4 =>
   simp only [zck, hs, reduceCtorEq] at h
   cases d22 : (decide (c4_4 ≤ 8))
   ·simp only [d22, hs] at h
    replace h := kG4 _ h
    try dsimp only at h
    try simp only [hs] at h
    try simp only [vz, tyf, n9, e6, e7, e8, H5, d22, nm, seval]
    refine zap (x := (.lit (.slice none 0 0))) (by first | (simp only [Tryz.results77, resV, resL, resV1, zat, zbs, uw, cr, tyf, n9, H5, d22, nm, seval] <;> rfl) | rfl) ?_
    obtain rfl := kF _ h
    refine zas ?_ ?_
    ·simp only [tre, tytre, Bool.and_self]
    ·first | (simp only [outV, uw, zad, cr, tyf, nrm, tynrm, n9, e6, e7, e8, H5, d22, nm, seval] <;> rfl) | rfl
   simp only [d22, hs] at h
   obtain ⟨r23, o24, h⟩ := optI h kN4
   try simp only [hs] at h
   simp only [vz, tyf, n9, e6, e7, e8, H5, d22, nm, seval]
   refine ktA (zij _ _ _ _ o24) ?_
   refine zae (fun tm => tm 1 = .ptr 0 0 ∧ tm 4 = .lit (.int .i64 c4_4) ∧ tm 9 = .lit (.slice none 0 0) ∧ tm 12 = .sl (cellsL (eSl eI) r23) (List.length r23) false ∧ True) (by refine ⟨e6, e8, ?_, ?_, trivial⟩ <;> first | (simp only [ua, n9, e6, e7, e8, H5, d22, nm, seval] <;> rfl) | rfl) ?_
   rintro tm ⟨e25, e26, e27, e28, _⟩
   cases g29 : (neB r23)
   ·simp only [g29, hs] at h
    exact absurd h kN4
   simp only [g29, hs] at h
   cases g30 : (roomOk 24 (List.length (([] : List (List Int)) ++ r23)))
   ·simp only [g30, hs] at h
    exact absurd h kN4
   simp only [g30, hs] at h
   simp only [vz, tyf, n9, H5, d22, e25, e26, e27, e28, g29, g30, nm, seval]
   refine zmb (w := 1) (enc := (eSl eI)) (ys := r23) (fun _ => rfl) lf106 ao106 Tryz.underlying106 g29 g30 ?_
   simp only [vz, tyf, n9, H5, d22, e25, e26, e27, e28, g29, g30, nm, seval]
   exact ⟨p4, Nat.lt_succ_self _, by rw [hI4]; refine ⟨p4, (([] : List (List Int)) ++ r23), IntKind.i64.wrap (c4_4 + 1), .ref (nx4 + 6) 0 (List.length (([] : List (List Int)) ++ r23)) 1 (List.length (([] : List (List Int)) ++ r23)), rfl, rfl, (show 4 ≤ nx4 + 11 by omega), ?_, e25, ?_, ?_, Or.inl ⟨nx4 + 6, (some 29), rfl, (by first | omega | (simp only [nm, seval]; omega)), (by first | omega | (intro hh; simp only [n9, reduceCtorEq] at hh)), ?_⟩, h⟩ <;> first | (simp only [ua, n9, H5, d22, e25, e26, e27, e28, nm, seval] <;> rfl) | rfl⟩
end Go.V
end
section
namespace Go.V
open Go
def flatR {β : Type} (f : Int → List β) : Nat → Int → List β
 | 0, _ => []
 | k + 1, c => f c ++ flatR f k (c + 1)
theorem zxq {β : Type} {f : Int → List β} {x : β} : ∀ (k : Nat) (c : Int), x ∈ flatR f k c ↔ ∃ j : Int, c ≤ j ∧ j < c + k ∧ x ∈ f j
 | 0, c => by
  simp only [flatR, List.not_mem_nil, false_iff]
  rintro ⟨j, h1, h2, _⟩
  omega
 | k + 1, c => by
  simp only [flatR, List.mem_append, zxq k (c + 1)]
  constructor
  ·rintro (h | ⟨j, h1, h2, h3⟩)
   ·exact ⟨c, by omega, by omega, h⟩
   ·exact ⟨j, by omega, by omega, h3⟩
  ·rintro ⟨j, h1, h2, h3⟩
   by_cases e : j = c
   ·subst e; exact .inl h3
   ·exact .inr ⟨j, by omega, by omega, h3⟩
theorem zvr : ∀ {l : List Int}, (∀ e ∈ l, 0 ≤ e) → 0 ≤ sumL l
 | [], _ => Int.le_refl _
 | a :: l, h => by
  have h1 := h a (List.mem_cons_self ..)
  have ih := zvr fun x hx => h x (List.mem_cons_of_mem _ hx)
  simp only [sumL]
  omega
def mixL (parts : Int) : Nat → List Int → List (List Int)
 | 0, l => [l]
 | 1, l => [l ++ [parts - sumL l]]
 | d + 2, l => flatR (fun j => mixL parts (d + 1) (l ++ [j])) (parts - sumL l + 1).toNat 0
theorem zfl : ∀ (l m : List Int), sumL (l ++ m) = sumL l + sumL m
 | [], m => by simp [sumL]
 | e :: l, m => by
  simp only [List.cons_append, sumL, zfl l m]
  omega
theorem zff (a : Int) : sumL [a] = a := by simp [sumL]
theorem zrs {parts : Int} : ∀ (d : Nat) (l q : List Int), sumL l ≤ parts → (q ∈ mixL parts (d + 1) l ↔ ∃ t, q = l ++ t ∧ t.length = d + 1 ∧ (∀ e ∈ t, 0 ≤ e) ∧ sumL l + sumL t = parts)
 | 0, l, q, h => by
  simp only [mixL, List.mem_singleton]
  constructor
  ·rintro rfl
   refine ⟨_, rfl, rfl, fun e he => ?_, by rw [zff]; omega⟩
   rw [List.mem_singleton] at he
   omega
  ·rintro ⟨t, rfl, ht, h1, h2⟩
   match t, ht with
   | [a], _ =>
    rw [zff] at h2
    rw [show parts - sumL l = a by omega]
 | d + 1, l, q, h => by
  simp only [mixL, zxq]
  constructor
  ·rintro ⟨j, h1, h2, h3⟩
   have hs : sumL (l ++ [j]) ≤ parts := by rw [zfl, zff]; omega
   obtain ⟨t, rfl, g1, g2, g3⟩ := (zrs d (l ++ [j]) q hs).1 h3
   rw [zfl, zff] at g3
   refine ⟨j :: t, by simp, by simp [g1], fun e he => ?_, by simp only [sumL]; omega⟩
   rcases List.mem_cons.1 he with rfl | he
   ·exact h1
   ·exact g2 e he
  ·rintro ⟨t, rfl, g1, g2, g3⟩
   match t, g1 with
   | j :: t, g1 =>
    have hj := g2 j (List.mem_cons_self ..)
    have ht := (zvr (l := t) fun e he => g2 e (List.mem_cons_of_mem _ he))
    simp only [sumL] at g3
    have hs : sumL (l ++ [j]) ≤ parts := by rw [zfl, zff]; omega
    refine ⟨j, hj, by omega, (zrs d (l ++ [j]) _ hs).2 ⟨t, by simp, by simpa using g1, fun e he => g2 e (List.mem_cons_of_mem _ he), by rw [zfl, zff]; omega⟩⟩
theorem zaom {l : List Int} {j p : Int} {n : Nat} (hl : ∀ e ∈ l, 0 ≤ e ∧ e ≤ 8) (hn : l.length ≤ 1000) (hj : 0 ≤ j ∧ j ≤ 8) (hp : 0 ≤ p ∧ p ≤ 8) (hn1 : 1 ≤ n ∧ n ≤ 900) : zcc l j p n = some ((p - sumL l - j == 0) || (decide (p - sumL l - j > 0) && decide ((l.length : Int) < (n : Int) - 1))) := by
 have hb := zyr hl
 unfold zcc
 rw [zaer hl hn]
 simp only [Option.bind_some]
 rw [zdc (n := p - sumL l) (by omega) (by omega), zdc (n := p - sumL l - j) (by omega) (by omega), zdc (n := (n : Int) - 1) (by omega) (by omega)]
 cases (p - sumL l - j == 0) <;> cases decide (p - sumL l - j > 0) <;> rfl
theorem zaaj {rc : List Int → Option (List (List Int))} {may : List Int → Int → Option Bool} {p : List Int} {left : Int} {X : List (List Int)} (hr : rc (p ++ [left]) = some X) : ∀ (k c : Nat), (∀ j : Nat, c ≤ j → j < c + k → may p (j : Int) = some ((j : Int) == left)) → goL rc may p (List.range' c k) = some (if (c : Int) ≤ left ∧ left < c + k then X else [])
 | 0, c, _ => by
  rw [if_neg (by omega)]
  rfl
 | k + 1, c, h => by
  have ih := zaaj hr k (c + 1) fun j h1 h2 => h j (by omega) (by omega)
  rw [List.range'_succ]
  unfold goL
  rw [h c (Nat.le_refl _) (by omega), Option.bind_some]
  by_cases e : (c : Int) = left
  ·subst e
   rw [if_neg (by omega)] at ih
   rw [show ((c : Int) == (c : Int)) = true from beq_self_eq_true _, cond_true, hr, ih, if_pos (by omega)]
   simp
  ·rw [show ((c : Int) == left) = false from beq_false_of_ne e, cond_false, ih]
   by_cases g : ((c + 1 : Nat) : Int) ≤ left ∧ left < ((c + 1 : Nat) : Int) + k
   ·rw [if_pos g, if_pos (by omega)]
   ·rw [if_neg g, if_neg (by omega)]
theorem zaco {rc : List Int → Option (List (List Int))} {F : Int → List (List Int)} {may : List Int → Int → Option Bool} {p : List Int} {left : Int} : ∀ (k c : Nat), (∀ j : Nat, c ≤ j → j < c + k → may p (j : Int) = some (decide ((j : Int) ≤ left))) → (∀ j : Nat, c ≤ j → (j : Int) ≤ left → rc (p ++ [(j : Int)]) = some (F j)) → left < c + k → goL rc may p (List.range' c k) = some (flatR F (left + 1 - c).toNat c)
 | 0, c, _, _, hl => by
  rw [show (left + 1 - (c : Int)).toNat = 0 by omega]
  rfl
 | k + 1, c, h, hr, hl => by
  have ih := zaco (F := F) k (c + 1) (fun j h1 h2 => h j (by omega) (by omega)) (fun j h1 h2 => hr j (by omega) h2) (by omega)
  rw [List.range'_succ]
  unfold goL
  rw [h c (Nat.le_refl _) (by omega), Option.bind_some]
  by_cases e : (c : Int) ≤ left
  ·rw [decide_eq_true e, cond_true, hr c (Nat.le_refl _) e, ih]
   simp only [Option.bind_some]
   obtain ⟨m, hm⟩ : ∃ m, (left + 1 - (c : Int)).toNat = m + 1 := ⟨(left + 1 - (c : Int)).toNat - 1, by omega⟩
   rw [hm, flatR, show (left + 1 - ((c + 1 : Nat) : Int)).toNat = m by omega]
   rfl
  ·rw [decide_eq_false e, cond_false, ih, show (left + 1 - (c : Int)).toNat = 0 by omega, show (left + 1 - ((c + 1 : Nat) : Int)).toNat = 0 by omega]
   rfl
theorem zwm {n : Nat} {parts : Int} (hp : 1 ≤ parts ∧ parts ≤ 8) (hn : 1 ≤ n ∧ n ≤ 900) : ∀ (d : Nat) (l : List Int), l.length + (d + 1) = n → (∀ e ∈ l, 0 ≤ e ∧ e ≤ 8) → sumL l ≤ parts → listsO (fun l j => zcc l j parts n) (parts + 1).toNat (d + 1) l = some (mixL parts (d + 1) l)
 | 0, l, hl, hb, hs => by
  have h0 := zyr hb
  rw [listsO]
  have := zaaj (rc := listsO (fun l j => zcc l j parts n) (parts + 1).toNat 0) (may := fun l j => zcc l j parts n) (p := l) (left := parts - sumL l) (X := [l ++ [parts - sumL l]]) rfl (parts + 1).toNat 0 (fun j h1 h2 => by
   rw [zaom hb (by omega) (by omega) (by omega) hn, decide_eq_false (show ¬ (l.length : Int) < (n : Int) - 1 by omega), Bool.and_false, Bool.or_false]
   congr 1
   rw [Bool.eq_iff_iff, beq_iff_eq, beq_iff_eq]
   omega)
  rw [this, if_pos (by omega)]
  rfl
 | d + 1, l, hl, hb, hs => by
  have h0 := zyr hb
  rw [listsO]
  have := zaco (rc := listsO (fun l j => zcc l j parts n) (parts + 1).toNat (d + 1)) (F := fun j => mixL parts (d + 1) (l ++ [j])) (may := fun l j => zcc l j parts n) (p := l) (left := parts - sumL l) (parts + 1).toNat 0 (fun j h1 h2 => by
   rw [zaom hb (by omega) (by omega) (by omega) hn, decide_eq_true (show (l.length : Int) < (n : Int) - 1 by omega), Bool.and_true]
   congr 1
   rw [Bool.eq_iff_iff, Bool.or_eq_true, beq_iff_eq, decide_eq_true_eq, decide_eq_true_eq]
   omega) (fun j h1 h2 => zwm hp hn d (l ++ [(j : Int)]) (by simp only [List.length_append, List.length_cons, List.length_nil]; omega) (fun e he => by
    rcases List.mem_append.1 he with he | he
    ·exact hb e he
    ·rw [List.mem_singleton] at he
     omega) (by rw [zfl, zff]; omega)) (by omega)
  rw [this, mixL]
  congr 2
  omega
theorem zacz {n : Nat} {parts : Int} (hp : 1 ≤ parts ∧ parts ≤ 8) (hn : 1 ≤ n ∧ n ≤ 900) : zlt n parts = some (mixL parts n []) := by
 obtain ⟨d, rfl⟩ : ∃ d, n = d + 1 := ⟨n - 1, by omega⟩
 unfold zlt
 have hs : smallOk ((d + 1 : Nat) : Int) parts = true := by
  simp only [smallOk, Bool.and_eq_true, decide_eq_true_eq]
  omega
 rw [hs, cond_true, show (((d + 1 : Nat) : Int)).toNat = d + 1 by omega]
 exact zwm hp hn d [] (by simp) (fun e he => by cases he) (by simp only [sumL]; omega)
def allR (n : Nat) : Nat → Int → List (List Int)
 | 0, _ => []
 | k + 1, c => mixL c n [] ++ allR n k (c + 1)
def allL (s : Gs) : List (List Int) := allR s.Tins.length 8 1
theorem zacc {s : Gs} (hn : 1 ≤ s.Tins.length ∧ s.Tins.length ≤ 900) : ∀ (k c : Nat), c + k = 8 → mixtO s k c = some ((allR s.Tins.length k ((c : Int) + 1)).map (Gm.mk s))
 | 0, c, _ => rfl
 | k + 1, c, h => by
  have ih := zacc hn k (c + 1) (by omega)
  rw [mixtO, zacz (by omega) hn, ih]
  simp only [Option.bind_some, allR, List.map_append]
  rw [show ((c + 1 : Nat) : Int) = (c : Int) + 1 by omega]
theorem zzj {s : Gs} (hs : ShOk s) : zgc s = some ((allL s).map (Gm.mk s)) := by
 have := hs.n
 exact zacc (by omega) 8 0 rfl
end Go.V
end
