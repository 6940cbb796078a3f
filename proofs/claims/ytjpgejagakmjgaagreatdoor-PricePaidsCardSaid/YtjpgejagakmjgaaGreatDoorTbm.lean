/- Part of a proof. -/
import Derived.Test.YtjpgejagakmjgaaGreatDoorTbl
set_option linter.all false
set_option maxRecDepth 4000
set_option maxHeartbeats 40000000
section
namespace Go.V
open Go Go.Proofs
def zbg (e0 : GPriceBoard) (e1 : List Int) : Nat → (List (List Int)) → Int → Option (LOut (List (List Int)) ((List (List Int)) × Int))
 | 0, _, _ => none
 | k2 + 1, c2_5, c2_7 => cond (decide (c2_7 ≤ e0.Hours.High)) (cond (neB e1) (cond (roomOk 8 (List.length ([] ++ e1))) (cond (roomOk 8 (List.length (([] ++ e1) ++ [c2_7]))) (cond (roomOk 24 (List.length (c2_5 ++ [(([] ++ e1) ++ [c2_7])]))) (zbg e0 e1 k2 (c2_5 ++ [(([] ++ e1) ++ [c2_7])]) (IntKind.i64.wrap (c2_7 + 1))) none) none) none) (cond (roomOk 8 (List.length (([] : List Int) ++ [c2_7]))) (cond (roomOk 24 (List.length (c2_5 ++ [(([] : List Int) ++ [c2_7])]))) (zbg e0 e1 k2 (c2_5 ++ [(([] : List Int) ++ [c2_7])]) (IntKind.i64.wrap (c2_7 + 1))) none) none)) (some (.go (c2_5, c2_7)))
def zbx (e0 : GPriceBoard) : List (List Int) → Int → (List (List Int)) → Option (LOut (List (List Int)) ((List (List Int))))
 | [], c1_6, c1_5 => some (.go c1_5)
 | e1 :: p1, c1_6, c1_5 => lbind (zbg e0 e1 1000000 c1_5 e0.Hours.Low) (fun r2 => some (.ret r2)) (fun c1 => cond (neB c1.1) (zbx e0 p1 (c1_6 + 1) c1.1) none) (fun _ _ => none)
def zcp  : List GPriceBoard → Int → (List (List Int)) → Option (LOut (List (List Int)) ((List (List Int))))
 | [], c0_4, c0_3 => some (.go c0_3)
 | e0 :: p0, c0_4, c0_3 => cond (lenOk c0_3) (lbind (zbx e0 c0_3 0 ([] : List (List Int))) (fun r4 => some (.ret r4)) (fun c3 => cond (neB c3) (zcp p0 (c0_4 + 1) c3) none) (fun _ _ => none)) none
def zgv (x0_s : GPriceSheet) : Option (List (List Int)) := cond (lenOk x0_s.Boards) (lbind (zcp x0_s.Boards 0 ([[]])) (fun r6 => some r6) (fun c5 => cond (neB c5) (some c5) none) (fun _ _ => none)) none
theorem zpo (x0_s : GPriceSheet) (R : List (List Int)) (h : zgv x0_s = some R) : VPure Tryz.prog G0 42 [.agg (cGPriceSheet x0_s)] (.tree (.sl (cellsL (eSl eI) R) (List.length R) false)) := by
 refine VPure.runR mixed Tryz.call42 Tryz.func42 rfl (by simp [Tryz.ntmps42]; kernel_rfl) ?_
 obtain ⟨KF, h, kF, kN⟩ := zaq h
 simp only [zgv] at h
 cases g8 : (lenOk x0_s.Boards)
 ·simp only [g8, hs] at h
  exact absurd h kN
 simp only [g8, hs] at h
 simp only [vz, tyf, g8, nm, seval]
 obtain ⟨K7, h, kR7, kG7, kB7, kN7⟩ := zbf h kN
 obtain ⟨f7, hf7, h⟩ := call3 h
 obtain ⟨I7, hI7⟩ : ∃ I : Nat → St → Prop, I = (fun m st => ∃ (p7 : List GPriceBoard) (c7_4 : Int) (c7_3 : List (List Int)) (y7_0 : VV), m = List.length p7 ∧ 0 ≤ c7_4 ∧ List.drop (Int.toNat c7_4) x0_s.Boards = p7 ∧ st.df = [] ∧ 5 ≤ st.nx ∧ st.H 0 = some (.cells (some 26) (cGPriceSheet x0_s)) ∧ st.tm 1 = .ptr 0 0 ∧ st.tm 3 = y7_0 ∧ st.tm 4 = .lit (.int .i64 c7_4) ∧ ((∃ (β : Nat) (el : Option TypeId), y7_0 = .ref β 0 (List.length c7_3) 1 (List.length c7_3) ∧ β < st.nx ∧ β ≠ 0 ∧ st.H β = some (.cells el (cellsL (eSl eI) c7_3))) ∨ (nilS y7_0 = .sl [] 0 true ∧ c7_3 = [])) ∧ K7 (f7 p7 c7_4 c7_3)) := ⟨_, rfl⟩
 refine VWp.normO (β := 2) (el := some 22) (cs := [.lit (.slice none 0 0)]) (cs' := cellsL (eSl eI) [[]]) (by first | rfl | (simp only [zab, nm, seval]; done)) (by first | rfl | (simp only [nrm, tynrm]; rfl)) ?_
 refine loopK mixed (by kernel_rfl) I7 (List.length x0_s.Boards) (by rw [hI7]; refine ⟨x0_s.Boards, 0, [[]], .ref 2 0 (List.length ([[]])) 1 (List.length ([[]])), rfl, Int.le_refl _, rfl, rfl, (show 5 ≤ 5 by omega), ?_, ?_, ?_, ?_, Or.inl ⟨2, (some 22), rfl, (by first | omega | (simp only [nm, seval]; done) | (simp only [nm, seval]; omega)), (by first | omega | (intro hh; simp only [reduceCtorEq] at hh)), ?_⟩, h⟩ <;> first | (simp only [ua, nm, seval] <;> rfl) | rfl) ?_
 rintro m ⟨tm, H, nx7, df⟩ hinv
 rw [hI7] at hinv
 obtain ⟨p7, c7_4, c7_3, y7_0, rfl, hi7, hp7, hdf, hn7, H9, e10, e11, e12, ow7_0, h⟩ := hinv
 simp only at hdf hn7 H9 e10 e11 e12 ow7_0
 have n13 := zda (m := 5) (b := nx7) (by omega)
 subst hdf hf7
 rcases ow7_0 with ⟨b7_0, el7_0, rfl, lq15, lq16, H14⟩ | ⟨hy_q15, rfl⟩
 ·have q15 := zhn lq15
  have q16 := ne_f lq16
  cases p7 with
  | nil =>
   have d17 : (decide (c7_4 < (List.length x0_s.Boards : Int))) = false := zaj hi7 hp7
   simp only [zcp, hs, reduceCtorEq] at h
   replace h := kG7 _ h
   try dsimp only at h
   try simp only [hs] at h
   cases g18 : (neB c7_3)
   ·simp only [g18, hs] at h
    exact absurd h kN
   simp only [g18, hs] at h
   try simp only [vz, tyf, g8, n13, e10, e11, e12, H9, q15, H14, q16, d17, g18, nm, seval]
   refine zau (x := (.ref b7_0 0 (List.length c7_3) 1 (List.length c7_3))) (by first | (simp only [Tryz.results42, resV, resL, resV1, zat, zbu, uw, cr, tyf, g8, n13, H9, q15, H14, q16, d17, g18, nm, seval] <;> rfl) | rfl) ?_
   obtain rfl := kF _ h
   refine zbc ?_ ?_
   ·simp only [tre, tytre, Bool.and_self]
   ·first | (simp only [outV, uw, zan, cr, tyf, nrm, tynrm, g8, n13, e10, e11, e12, H9, q15, H14, q16, d17, g18, nm, seval] <;> rfl) | rfl
  | cons e7 p7 =>
   have d19 : (decide (c7_4 < (List.length x0_s.Boards : Int))) = true := zaw hi7 hp7
   have o21 := zak hi7 hp7
   have w20 := zbj hi7 hp7 g8
   simp only [zcp, hs, reduceCtorEq] at h
   cases g23 : (lenOk c7_3)
   ·simp only [g23, hs] at h
    exact absurd h kN7
   simp only [g23, hs] at h
   simp only [vz, tyf, g8, n13, e10, e11, e12, H9, q15, H14, q16, d19, (ix23 o21), (ixo23 o21), w20, g23, nm, seval]
   obtain ⟨K22, h, kR22, kG22, kB22, kN22⟩ := zbf h kN7
   obtain ⟨f22, hf22, h⟩ := call3 h
   obtain ⟨I22, hI22⟩ : ∃ I : Nat → St → Prop, I = (fun m st => ∃ (p22 : List (List Int)) (c22_6 : Int) (c22_5 : List (List Int)) (y22_0 : VV), m = List.length p22 ∧ 0 ≤ c22_6 ∧ List.drop (Int.toNat c22_6) c7_3 = p22 ∧ st.df = [] ∧ nx7 + 7 ≤ st.nx ∧ st.H 0 = some (.cells (some 26) (cGPriceSheet x0_s)) ∧ st.H b7_0 = some (.cells (el7_0) (cellsL (eSl eI) c7_3)) ∧ st.tm 1 = .ptr 0 0 ∧ st.tm 3 = .ref b7_0 0 (List.length c7_3) 1 (List.length c7_3) ∧ st.tm 4 = .lit (.int .i64 c7_4) ∧ st.tm 5 = y22_0 ∧ st.tm 6 = .lit (.int .i64 c22_6) ∧ ((∃ (β : Nat) (el : Option TypeId), y22_0 = .ref β 0 (List.length c22_5) 1 (List.length c22_5) ∧ β < st.nx ∧ β ≠ 0 ∧ β ≠ b7_0 ∧ st.H β = some (.cells el (cellsL (eSl eI) c22_5))) ∨ (nilS y22_0 = .sl [] 0 true ∧ c22_5 = [])) ∧ K22 (f22 p22 c22_6 c22_5)) := ⟨_, rfl⟩
   refine loopK mixed (by kernel_rfl) I22 (List.length c7_3) (by rw [hI22]; refine ⟨c7_3, 0, ([] : List (List Int)), .lit (.slice none 0 0), rfl, Int.le_refl _, rfl, rfl, (show nx7 + 7 ≤ nx7 + 7 by omega), ?_, ?_, e10, e11, e12, ?_, ?_, Or.inr ⟨rfl, rfl⟩, h⟩ <;> first | (simp only [ua, n13, e10, e11, e12, H9, q15, H14, q16, d19, w20, nm, seval] <;> rfl) | rfl) ?_
   rintro m ⟨tm, H, nx22, df⟩ hinv
   rw [hI22] at hinv
   obtain ⟨p22, c22_6, c22_5, y22_0, rfl, hi22, hp22, hdf, hn22, H24, H25, e26, e27, e28, e29, e30, ow22_0, h⟩ := hinv
   simp only at hdf hn22 H24 H25 e26 e27 e28 e29 e30 ow22_0
   have n31 := zda (m := 5) (b := nx22) (by omega)
   have n32 := zit (a := nx7) (m := 7) (b := nx22) (by omega)
   have n33 := zhn (β := b7_0) (nx := nx22) (by omega)
   subst hdf hf22
   rcases ow22_0 with ⟨b22_0, el22_0, rfl, lq35, lq36, lq37, H34⟩ | ⟨hy_q35, rfl⟩
   ·have q35 := zhn lq35
    have q36 := ne_f lq36
    have q37 := ne_f lq37
    cases p22 with
    | nil =>
     have d38 : (decide (c22_6 < (List.length c7_3 : Int))) = false := zaj hi22 hp22
     simp only [zbx, hs, reduceCtorEq] at h
     replace h := kG22 _ h
     try dsimp only at h
     try simp only [hs] at h
     cases g39 : (neB c22_5)
     ·simp only [g39, hs] at h
      exact absurd h kN7
     simp only [g39, hs] at h
     simp only [vz, tyf, g8, n13, q15, q16, d19, (ix23 o21), (ixo23 o21), w20, g23, n31, n32, n33, e26, e27, e28, e29, e30, H24, H25, q35, H34, q36, q37, d38, g39, nm, seval]
     exact ⟨List.length p7, Nat.lt_succ_self _, by rw [hI7]; refine ⟨p7, c7_4 + 1, c22_5, .ref b22_0 0 (List.length c22_5) 1 (List.length c22_5), rfl, Int.le_trans hi7 (Int.le_add_one (Int.le_refl _)), zax hi7 hp7, rfl, (show 5 ≤ nx22 + 9 by omega), ?_, e26, ?_, ?_, Or.inl ⟨b22_0, el22_0, rfl, (by first | omega | (simp only [nm, seval]; done) | (simp only [nm, seval]; omega)), (by first | omega | (intro hh; simp only [n13, q15, q16, n31, n32, n33, q35, q36, q37, reduceCtorEq] at hh)), ?_⟩, (by first | exact h | (simp only [d19, d38]; exact h))⟩ <;> first | (simp only [ua, n13, q15, q16, d19, w20, n31, n32, n33, e26, e27, e28, e29, e30, H24, H25, q35, H34, q36, q37, d38, nm, seval] <;> rfl) | rfl⟩
    | cons e22 p22 =>
     have d40 : (decide (c22_6 < (List.length c7_3 : Int))) = true := zaw hi22 hp22
     have o42 := zak hi22 hp22
     have w41 := zbj hi22 hp22 g23
     simp only [zbx, hs, reduceCtorEq] at h
     simp only [vz, tyf, g8, n13, q15, q16, d19, (ix23 o21), (ixo23 o21), w20, g23, n31, n32, n33, e26, e27, e28, e29, e30, H24, H25, q35, H34, q36, q37, d40, (ix57 o42), (ixo57 o42), w41, nm, seval]
     obtain ⟨K43, h, kR43, kG43, kB43, kN43⟩ := zbf h kN22
     obtain ⟨f43, hf43, h⟩ := call3 h
     obtain ⟨I43, hI43⟩ : ∃ I : Nat → St → Prop, I = (fun m st => ∃ (p43 : Nat) (c43_5 : List (List Int)) (c43_7 : Int) (y43_0 : VV), p43 = m ∧ st.df = [] ∧ nx22 + 12 ≤ st.nx ∧ st.H 0 = some (.cells (some 26) (cGPriceSheet x0_s)) ∧ st.H b7_0 = some (.cells (el7_0) (cellsL (eSl eI) c7_3)) ∧ st.tm 1 = .ptr 0 0 ∧ st.tm 3 = .ref b7_0 0 (List.length c7_3) 1 (List.length c7_3) ∧ st.tm 4 = .lit (.int .i64 c7_4) ∧ st.tm 6 = .lit (.int .i64 c22_6) ∧ st.tm 5 = y43_0 ∧ st.tm 7 = .lit (.int .i64 c43_7) ∧ ((∃ (β : Nat) (el : Option TypeId), y43_0 = .ref β 0 (List.length c43_5) 1 (List.length c43_5) ∧ β < st.nx ∧ β ≠ 0 ∧ β ≠ b7_0 ∧ st.H β = some (.cells el (cellsL (eSl eI) c43_5))) ∨ (nilS y43_0 = .sl [] 0 true ∧ c43_5 = [])) ∧ K43 (f43 p43 c43_5 c43_7)) := ⟨_, rfl⟩
     refine loopKG mixed (by kernel_rfl) I43 1000000 (by rw [hI43]; refine ⟨1000000, c22_5, e7.Hours.Low, .ref b22_0 0 (List.length c22_5) 1 (List.length c22_5), rfl, rfl, (show nx22 + 12 ≤ nx22 + 12 by omega), ?_, ?_, e26, e27, e28, e30, ?_, ?_, Or.inl ⟨b22_0, el22_0, rfl, (by first | omega | (simp only [nm, seval]; done) | (simp only [nm, seval]; omega)), (by first | omega | (intro hh; simp only [n13, q15, q16, n31, n32, n33, q35, q36, q37, reduceCtorEq] at hh)), (by first | omega | (intro hh; simp only [n13, q15, q16, n31, n32, n33, q35, q36, q37, reduceCtorEq] at hh)), ?_⟩, h⟩ <;> first | (simp only [ua, n13, q15, q16, d19, w20, n31, n32, n33, e26, e27, e28, e29, e30, H24, H25, q35, H34, q36, q37, d40, w41, nm, seval] <;> rfl) | rfl) ?_
     rintro m ⟨tm, H, nx43, df⟩ hinv
     rw [hI43] at hinv
     obtain ⟨p43, c43_5, c43_7, y43_0, rfl, hdf, hn43, H44, H45, e46, e47, e48, e49, e50, e51, ow43_0, h⟩ := hinv
     simp only at hdf hn43 H44 H45 e46 e47 e48 e49 e50 e51 ow43_0
     have n52 := zda (m := 5) (b := nx43) (by omega)
     have n53 := zit (a := nx7) (m := 7) (b := nx43) (by omega)
     have n54 := zit (a := nx22) (m := 12) (b := nx43) (by omega)
     have n55 := zhn (β := b7_0) (nx := nx43) (by omega)
     subst hdf hf43
     rcases ow43_0 with ⟨b43_0, el43_0, rfl, lq57, lq58, lq59, H56⟩ | ⟨hy_q57, rfl⟩
     ·have q57 := zhn lq57
      have q58 := ne_f lq58
      have q59 := ne_f lq59
      cases p43 with
      | zero =>
       simp only [zbg, hs, reduceCtorEq] at h
       exact absurd h kN43
      | succ p43 =>
       simp only [zbg, hs, reduceCtorEq] at h
       cases d60 : (decide (c43_7 ≤ e7.Hours.High))
       ·simp only [d60, hs] at h
        have b61 := And.intro g8 (And.intro n13 (And.intro q15 (And.intro q16 (And.intro d19 (And.intro w20 (And.intro g23 (And.intro n31 (And.intro n32 (And.intro n33 (And.intro q35 (And.intro q36 (And.intro q37 (And.intro d40 (And.intro w41 (And.intro n52 (And.intro n53 (And.intro n54 (And.intro n55 (And.intro H44 (And.intro H45 (And.intro q57 (And.intro H56 (And.intro q58 (And.intro q59 d60))))))))))))))))))))))))
        replace h := kG43 _ h
        try dsimp only at h
        try simp only [hs] at h
        cases g62 : (neB c43_5)
        ·simp only [g62, hs] at h
         exact absurd h kN22
        simp only [g62, hs] at h
        simp only [vz, tyf, b61, (ix23 o21), (ixo23 o21), (ix57 o42), (ixo57 o42), e46, e47, e48, e49, e50, e51, g62, nm, seval]
        exact ⟨List.length p22, Nat.lt_succ_self _, by rw [hI22]; refine ⟨p22, c22_6 + 1, c43_5, .ref b43_0 0 (List.length c43_5) 1 (List.length c43_5), rfl, Int.le_trans hi22 (Int.le_add_one (Int.le_refl _)), zax hi22 hp22, rfl, (show nx7 + 7 ≤ nx43 + 12 by omega), ?_, ?_, e46, e47, e48, ?_, ?_, Or.inl ⟨b43_0, el43_0, rfl, (by first | omega | (simp only [nm, seval]; done) | (simp only [nm, seval]; omega)), (by first | omega | (intro hh; simp only [b61, reduceCtorEq] at hh)), (by first | omega | (intro hh; simp only [b61, reduceCtorEq] at hh)), ?_⟩, (by first | exact h | (simp only [b61]; exact h))⟩ <;> first | (simp only [ua, b61, e46, e47, e48, e49, e50, e51, nm, seval] <;> rfl) | rfl⟩
       simp only [d60, hs] at h
       have b63 := And.intro g8 (And.intro n13 (And.intro q15 (And.intro q16 (And.intro d19 (And.intro w20 (And.intro g23 (And.intro n31 (And.intro n32 (And.intro n33 (And.intro q35 (And.intro q36 (And.intro q37 (And.intro d40 (And.intro w41 (And.intro n52 (And.intro n53 (And.intro n54 (And.intro n55 (And.intro H44 (And.intro H45 (And.intro q57 (And.intro H56 (And.intro q58 (And.intro q59 d60))))))))))))))))))))))))
       cases d64 : (neB e22)
       ·simp only [d64, hs] at h
        simp only [vz, tyf, b63, (ix23 o21), (ixo23 o21), (ix57 o42), (ixo57 o42), e46, e47, e48, e49, e50, e51, d64, nm, seval]
        refine zwk (enc := eI) (ys := e22) ao22 Tryz.underlying22 d64 ?_
        cases g65 : (roomOk 8 (List.length (([] : List Int) ++ [c43_7])))
        ·simp only [g65, hs] at h
         exact absurd h kN43
        simp only [g65, hs] at h
        simp only [vz, tyf, b63, (ix23 o21), (ixo23 o21), (ix57 o42), (ixo57 o42), e46, e47, e48, e49, e50, e51, d64, g65, zpw, nm, seval]
        refine zmp (w := 1) (enc := eI) (ys := ([c43_7])) (el2 := (some 3)) (fun _ => rfl) lf22 ao22 Tryz.underlying22 (by first | rfl | assumption | (simp only [zab, zaa, et22, b63, nm, seval] <;> rfl) | (simp only [zab, zaa, zac, zad, zcn, zbl, tyf, b63, (ix23 o21), (ixo23 o21), (ix57 o42), (ixo57 o42), e46, e47, e48, e49, e50, e51, d64, g65, nm, seval]; done)) (Nat.zero_lt_succ _) g65 ?_
        cases g66 : (roomOk 24 (List.length (c43_5 ++ [(([] : List Int) ++ [c43_7])])))
        ·simp only [g66, hs] at h
         exact absurd h kN43
        simp only [g66, hs] at h
        simp only [vz, tyf, b63, (ix23 o21), (ixo23 o21), (ix57 o42), (ixo57 o42), e46, e47, e48, e49, e50, e51, d64, g65, g66, nm, seval]
        refine zxg (enc := (eSl eI)) (xs := c43_5) (a := (([] : List Int) ++ [c43_7])) (y := .ref (nx43 + 17) 0 (List.length (([] : List Int) ++ [c43_7])) 1 (List.length (([] : List Int) ++ [c43_7]))) (el := el43_0) (el2 := (some 22)) (fun _ => rfl) ao57 Tryz.underlying57 (by first | rfl | assumption | (simp only [zab, zaa, et57, b63, nm, seval] <;> rfl) | (simp only [zab, zaa, zac, zad, zcn, zbl, tyf, b63, (ix23 o21), (ixo23 o21), (ix57 o42), (ixo57 o42), e46, e47, e48, e49, e50, e51, d64, g65, g66, nm, seval]; done)) (by first | rfl | assumption | (simp only [zab, zaa, et57, b63, nm, seval] <;> rfl) | (simp only [zab, zaa, zac, zad, zcn, zbl, tyf, b63, (ix23 o21), (ixo23 o21), (ix57 o42), (ixo57 o42), e46, e47, e48, e49, e50, e51, d64, g65, g66, nm, seval]; done)) rfl g66 ?_
        simp only [vz, tyf, b63, (ix23 o21), (ixo23 o21), (ix57 o42), (ixo57 o42), e46, e47, e48, e49, e50, e51, d64, g65, g66, nm, seval]
        refine ⟨p43, Nat.lt_succ_self _, _, Ghost.snocL (γ := nx43 + 17) (ε := nx43 + 19) (xs := c43_5) (ys := (([] : List Int) ++ [c43_7])) (cp := List.length (([] : List Int) ++ [c43_7])) (by first | rfl | (simp only [zab, zaa, zac, zad, b63, e46, e47, e48, e49, e50, e51, d64, nm, seval]; done) | (simp only [zab, zaa, zac, zad, b63, e46, e47, e48, e49, e50, e51, d64, nm, seval]; rfl)) (by first | rfl | (simp only [zab, zaa, zac, zad, b63, e46, e47, e48, e49, e50, e51, d64, nm, seval]; done) | (simp only [zab, zaa, zac, zad, b63, e46, e47, e48, e49, e50, e51, d64, nm, seval]; rfl)) (by omega), ?_⟩
        rw [hI43]; refine ⟨p43, (c43_5 ++ [(([] : List Int) ++ [c43_7])]), IntKind.i64.wrap (c43_7 + 1), .ref (nx43 + 19) 0 (List.length (c43_5 ++ [(([] : List Int) ++ [c43_7])])) 1 (List.length (c43_5 ++ [(([] : List Int) ++ [c43_7])])), rfl, rfl, (show nx22 + 12 ≤ nx43 + 24 by omega), ?_, ?_, e46, e47, e48, e49, ?_, ?_, Or.inl ⟨nx43 + 19, (sameEl el43_0 22), rfl, (by first | omega | (simp only [nm, seval]; done) | (simp only [nm, seval]; omega)), (by first | omega | (intro hh; simp only [b63, reduceCtorEq] at hh)), (by first | omega | (intro hh; simp only [b63, reduceCtorEq] at hh)), ?_⟩, (by first | exact h | (simp only [b63, d64]; exact h))⟩ <;> first | (simp only [ua, b63, e46, e47, e48, e49, e50, e51, d64, nm, seval] <;> rfl) | rfl
       simp only [d64, hs] at h
       cases g67 : (roomOk 8 (List.length ([] ++ e22)))
       ·simp only [g67, hs] at h
        exact absurd h kN43
       simp only [g67, hs] at h
       simp only [vz, tyf, b63, (ix23 o21), (ixo23 o21), (ix57 o42), (ixo57 o42), e46, e47, e48, e49, e50, e51, d64, g67, nm, seval]
       refine zxb (w := 1) (enc := eI) (ys := e22) (fun _ => rfl) lf22 ao22 Tryz.underlying22 d64 g67 ?_
       cases g68 : (roomOk 8 (List.length (([] ++ e22) ++ [c43_7])))
       ·simp only [g68, hs] at h
        exact absurd h kN43
       simp only [g68, hs] at h
       simp only [vz, tyf, b63, (ix23 o21), (ixo23 o21), (ix57 o42), (ixo57 o42), e46, e47, e48, e49, e50, e51, d64, g67, g68, nm, seval]
       refine k_app (w := 1) (enc := eI) (xs := ([] ++ e22)) (ys := ([c43_7])) (el := (some 3)) (el2 := (some 3)) (fun _ => rfl) lf22 ao22 Tryz.underlying22 (by first | rfl | assumption | (simp only [zab, zaa, et22, b63, nm, seval] <;> rfl) | (simp only [zab, zaa, zac, zad, zcn, zbl, tyf, b63, (ix23 o21), (ixo23 o21), (ix57 o42), (ixo57 o42), e46, e47, e48, e49, e50, e51, d64, g67, g68, nm, seval]; done)) (by first | rfl | assumption | (simp only [zab, zaa, et22, b63, nm, seval] <;> rfl) | (simp only [zab, zaa, zac, zad, zcn, zbl, tyf, b63, (ix23 o21), (ixo23 o21), (ix57 o42), (ixo57 o42), e46, e47, e48, e49, e50, e51, d64, g67, g68, nm, seval]; done)) (Nat.zero_lt_succ _) g68 ?_
       cases g69 : (roomOk 24 (List.length (c43_5 ++ [(([] ++ e22) ++ [c43_7])])))
       ·simp only [g69, hs] at h
        exact absurd h kN43
       simp only [g69, hs] at h
       simp only [vz, tyf, b63, (ix23 o21), (ixo23 o21), (ix57 o42), (ixo57 o42), e46, e47, e48, e49, e50, e51, d64, g67, g68, g69, nm, seval]
       refine zxg (enc := (eSl eI)) (xs := c43_5) (a := (([] ++ e22) ++ [c43_7])) (y := .ref (nx43 + 17) 0 (List.length (([] ++ e22) ++ [c43_7])) 1 (List.length (([] ++ e22) ++ [c43_7]))) (el := el43_0) (el2 := (some 22)) (fun _ => rfl) ao57 Tryz.underlying57 (by first | rfl | assumption | (simp only [zab, zaa, et57, b63, nm, seval] <;> rfl) | (simp only [zab, zaa, zac, zad, zcn, zbl, tyf, b63, (ix23 o21), (ixo23 o21), (ix57 o42), (ixo57 o42), e46, e47, e48, e49, e50, e51, d64, g67, g68, g69, nm, seval]; done)) (by first | rfl | assumption | (simp only [zab, zaa, et57, b63, nm, seval] <;> rfl) | (simp only [zab, zaa, zac, zad, zcn, zbl, tyf, b63, (ix23 o21), (ixo23 o21), (ix57 o42), (ixo57 o42), e46, e47, e48, e49, e50, e51, d64, g67, g68, g69, nm, seval]; done)) rfl g69 ?_
       simp only [vz, tyf, b63, (ix23 o21), (ixo23 o21), (ix57 o42), (ixo57 o42), e46, e47, e48, e49, e50, e51, d64, g67, g68, g69, nm, seval]
       refine ⟨p43, Nat.lt_succ_self _, _, Ghost.snocL (γ := nx43 + 17) (ε := nx43 + 19) (xs := c43_5) (ys := (([] ++ e22) ++ [c43_7])) (cp := List.length (([] ++ e22) ++ [c43_7])) (by first | rfl | (simp only [zab, zaa, zac, zad, b63, e46, e47, e48, e49, e50, e51, d64, nm, seval]; done) | (simp only [zab, zaa, zac, zad, b63, e46, e47, e48, e49, e50, e51, d64, nm, seval]; rfl)) (by first | rfl | (simp only [zab, zaa, zac, zad, b63, e46, e47, e48, e49, e50, e51, d64, nm, seval]; done) | (simp only [zab, zaa, zac, zad, b63, e46, e47, e48, e49, e50, e51, d64, nm, seval]; rfl)) (by omega), ?_⟩
       rw [hI43]; refine ⟨p43, (c43_5 ++ [(([] ++ e22) ++ [c43_7])]), IntKind.i64.wrap (c43_7 + 1), .ref (nx43 + 19) 0 (List.length (c43_5 ++ [(([] ++ e22) ++ [c43_7])])) 1 (List.length (c43_5 ++ [(([] ++ e22) ++ [c43_7])])), rfl, rfl, (show nx22 + 12 ≤ nx43 + 24 by omega), ?_, ?_, e46, e47, e48, e49, ?_, ?_, Or.inl ⟨nx43 + 19, (sameEl el43_0 22), rfl, (by first | omega | (simp only [nm, seval]; done) | (simp only [nm, seval]; omega)), (by first | omega | (intro hh; simp only [b63, reduceCtorEq] at hh)), (by first | omega | (intro hh; simp only [b63, reduceCtorEq] at hh)), ?_⟩, (by first | exact h | (simp only [b63, d64]; exact h))⟩ <;> first | (simp only [ua, b63, e46, e47, e48, e49, e50, e51, d64, nm, seval] <;> rfl) | rfl
     ·have w70 := vap_y hy_q57
      have w71 := zabd hy_q57
      have w72 := zzd hy_q57
      cases p43 with
      | zero =>
       simp only [zbg, hs, reduceCtorEq] at h
       exact absurd h kN43
      | succ p43 =>
       simp only [zbg, hs, reduceCtorEq] at h
       cases d73 : (decide (c43_7 ≤ e7.Hours.High))
       ·simp only [d73, hs] at h
        have b74 := And.intro g8 (And.intro n13 (And.intro q15 (And.intro q16 (And.intro d19 (And.intro w20 (And.intro g23 (And.intro n31 (And.intro n32 (And.intro n33 (And.intro q35 (And.intro q36 (And.intro q37 (And.intro d40 (And.intro w41 (And.intro n52 (And.intro n53 (And.intro n54 (And.intro n55 (And.intro H44 (And.intro H45 (And.intro w70 (And.intro w71 (And.intro w72 d73)))))))))))))))))))))))
        replace h := kG43 _ h
        try dsimp only at h
        try simp only [hs] at h
        simp only [zsu, hs] at h
        exact absurd h kN22
       simp only [d73, hs] at h
       have b75 := And.intro g8 (And.intro n13 (And.intro q15 (And.intro q16 (And.intro d19 (And.intro w20 (And.intro g23 (And.intro n31 (And.intro n32 (And.intro n33 (And.intro q35 (And.intro q36 (And.intro q37 (And.intro d40 (And.intro w41 (And.intro n52 (And.intro n53 (And.intro n54 (And.intro n55 (And.intro H44 (And.intro H45 (And.intro w70 (And.intro w71 (And.intro w72 d73)))))))))))))))))))))))
       cases d76 : (neB e22)
       ·simp only [d76, hs] at h
        simp only [vz, tyf, b75, (ix23 o21), (ixo23 o21), (ix57 o42), (ixo57 o42), e46, e47, e48, e49, e50, e51, d76, nm, seval]
        refine zwk (enc := eI) (ys := e22) ao22 Tryz.underlying22 d76 ?_
        cases g77 : (roomOk 8 (List.length (([] : List Int) ++ [c43_7])))
        ·simp only [g77, hs] at h
         exact absurd h kN43
        simp only [g77, hs] at h
        simp only [vz, tyf, b75, (ix23 o21), (ixo23 o21), (ix57 o42), (ixo57 o42), e46, e47, e48, e49, e50, e51, d76, g77, zpw, nm, seval]
        refine zmp (w := 1) (enc := eI) (ys := ([c43_7])) (el2 := (some 3)) (fun _ => rfl) lf22 ao22 Tryz.underlying22 (by first | rfl | assumption | (simp only [zab, zaa, et22, b75, nm, seval] <;> rfl) | (simp only [zab, zaa, zac, zad, zcn, zbl, tyf, b75, (ix23 o21), (ixo23 o21), (ix57 o42), (ixo57 o42), e46, e47, e48, e49, e50, e51, d76, g77, nm, seval]; done)) (Nat.zero_lt_succ _) g77 ?_
        cases g78 : (roomOk 24 (List.length (([] : List (List Int)) ++ [(([] : List Int) ++ [c43_7])])))
        ·simp only [g78, hs] at h
         exact absurd h kN43
        simp only [g78, hs] at h
        simp only [vz, tyf, b75, (ix23 o21), (ixo23 o21), (ix57 o42), (ixo57 o42), e46, e47, e48, e49, e50, e51, d76, g77, g78, nm, seval]
        refine zwq (y := .ref (nx43 + 17) 0 (List.length (([] : List Int) ++ [c43_7])) 1 (List.length (([] : List Int) ++ [c43_7]))) (el2 := (some 22)) ao57 Tryz.underlying57 (by first | rfl | assumption | (simp only [zab, zaa, et57, b75, nm, seval] <;> rfl) | (simp only [zab, zaa, zac, zad, zcn, zbl, tyf, b75, (ix23 o21), (ixo23 o21), (ix57 o42), (ixo57 o42), e46, e47, e48, e49, e50, e51, d76, g77, g78, nm, seval]; done)) rfl (by rfl) ?_
        simp only [vz, tyf, b75, (ix23 o21), (ixo23 o21), (ix57 o42), (ixo57 o42), e46, e47, e48, e49, e50, e51, d76, g77, g78, nm, seval]
        refine ⟨p43, Nat.lt_succ_self _, _, Ghost.snocL (γ := nx43 + 17) (ε := nx43 + 19) (xs := ([] : List (List Int))) (ys := (([] : List Int) ++ [c43_7])) (cp := List.length (([] : List Int) ++ [c43_7])) (by first | rfl | (simp only [zab, zaa, zac, zad, b75, e46, e47, e48, e49, e50, e51, d76, nm, seval]; done) | (simp only [zab, zaa, zac, zad, b75, e46, e47, e48, e49, e50, e51, d76, nm, seval]; rfl)) (by first | rfl | (simp only [zab, zaa, zac, zad, b75, e46, e47, e48, e49, e50, e51, d76, nm, seval]; done) | (simp only [zab, zaa, zac, zad, b75, e46, e47, e48, e49, e50, e51, d76, nm, seval]; rfl)) (by omega), ?_⟩
        rw [hI43]; refine ⟨p43, (([] : List (List Int)) ++ [(([] : List Int) ++ [c43_7])]), IntKind.i64.wrap (c43_7 + 1), .ref (nx43 + 19) 0 (List.length (([] : List (List Int)) ++ [(([] : List Int) ++ [c43_7])])) 1 (List.length (([] : List (List Int)) ++ [(([] : List Int) ++ [c43_7])])), rfl, rfl, (show nx22 + 12 ≤ nx43 + 24 by omega), ?_, ?_, e46, e47, e48, e49, ?_, ?_, Or.inl ⟨nx43 + 19, (some 22), rfl, (by first | omega | (simp only [nm, seval]; done) | (simp only [nm, seval]; omega)), (by first | omega | (intro hh; simp only [b75, reduceCtorEq] at hh)), (by first | omega | (intro hh; simp only [b75, reduceCtorEq] at hh)), ?_⟩, (by first | exact h | (simp only [b75, d76]; exact h))⟩ <;> first | (simp only [ua, b75, e46, e47, e48, e49, e50, e51, d76, nm, seval] <;> rfl) | rfl
       simp only [d76, hs] at h
       cases g79 : (roomOk 8 (List.length ([] ++ e22)))
       ·simp only [g79, hs] at h
        exact absurd h kN43
       simp only [g79, hs] at h
       simp only [vz, tyf, b75, (ix23 o21), (ixo23 o21), (ix57 o42), (ixo57 o42), e46, e47, e48, e49, e50, e51, d76, g79, nm, seval]
       refine zxb (w := 1) (enc := eI) (ys := e22) (fun _ => rfl) lf22 ao22 Tryz.underlying22 d76 g79 ?_
       cases g80 : (roomOk 8 (List.length (([] ++ e22) ++ [c43_7])))
       ·simp only [g80, hs] at h
        exact absurd h kN43
       simp only [g80, hs] at h
       simp only [vz, tyf, b75, (ix23 o21), (ixo23 o21), (ix57 o42), (ixo57 o42), e46, e47, e48, e49, e50, e51, d76, g79, g80, nm, seval]
       refine k_app (w := 1) (enc := eI) (xs := ([] ++ e22)) (ys := ([c43_7])) (el := (some 3)) (el2 := (some 3)) (fun _ => rfl) lf22 ao22 Tryz.underlying22 (by first | rfl | assumption | (simp only [zab, zaa, et22, b75, nm, seval] <;> rfl) | (simp only [zab, zaa, zac, zad, zcn, zbl, tyf, b75, (ix23 o21), (ixo23 o21), (ix57 o42), (ixo57 o42), e46, e47, e48, e49, e50, e51, d76, g79, g80, nm, seval]; done)) (by first | rfl | assumption | (simp only [zab, zaa, et22, b75, nm, seval] <;> rfl) | (simp only [zab, zaa, zac, zad, zcn, zbl, tyf, b75, (ix23 o21), (ixo23 o21), (ix57 o42), (ixo57 o42), e46, e47, e48, e49, e50, e51, d76, g79, g80, nm, seval]; done)) (Nat.zero_lt_succ _) g80 ?_
       cases g81 : (roomOk 24 (List.length (([] : List (List Int)) ++ [(([] ++ e22) ++ [c43_7])])))
       ·simp only [g81, hs] at h
        exact absurd h kN43
       simp only [g81, hs] at h
       simp only [vz, tyf, b75, (ix23 o21), (ixo23 o21), (ix57 o42), (ixo57 o42), e46, e47, e48, e49, e50, e51, d76, g79, g80, g81, nm, seval]
       refine zwq (y := .ref (nx43 + 17) 0 (List.length (([] ++ e22) ++ [c43_7])) 1 (List.length (([] ++ e22) ++ [c43_7]))) (el2 := (some 22)) ao57 Tryz.underlying57 (by first | rfl | assumption | (simp only [zab, zaa, et57, b75, nm, seval] <;> rfl) | (simp only [zab, zaa, zac, zad, zcn, zbl, tyf, b75, (ix23 o21), (ixo23 o21), (ix57 o42), (ixo57 o42), e46, e47, e48, e49, e50, e51, d76, g79, g80, g81, nm, seval]; done)) rfl (by rfl) ?_
       simp only [vz, tyf, b75, (ix23 o21), (ixo23 o21), (ix57 o42), (ixo57 o42), e46, e47, e48, e49, e50, e51, d76, g79, g80, g81, nm, seval]
       refine ⟨p43, Nat.lt_succ_self _, _, Ghost.snocL (γ := nx43 + 17) (ε := nx43 + 19) (xs := ([] : List (List Int))) (ys := (([] ++ e22) ++ [c43_7])) (cp := List.length (([] ++ e22) ++ [c43_7])) (by first | rfl | (simp only [zab, zaa, zac, zad, b75, e46, e47, e48, e49, e50, e51, d76, nm, seval]; done) | (simp only [zab, zaa, zac, zad, b75, e46, e47, e48, e49, e50, e51, d76, nm, seval]; rfl)) (by first | rfl | (simp only [zab, zaa, zac, zad, b75, e46, e47, e48, e49, e50, e51, d76, nm, seval]; done) | (simp only [zab, zaa, zac, zad, b75, e46, e47, e48, e49, e50, e51, d76, nm, seval]; rfl)) (by omega), ?_⟩
       rw [hI43]; refine ⟨p43, (([] : List (List Int)) ++ [(([] ++ e22) ++ [c43_7])]), IntKind.i64.wrap (c43_7 + 1), .ref (nx43 + 19) 0 (List.length (([] : List (List Int)) ++ [(([] ++ e22) ++ [c43_7])])) 1 (List.length (([] : List (List Int)) ++ [(([] ++ e22) ++ [c43_7])])), rfl, rfl, (show nx22 + 12 ≤ nx43 + 24 by omega), ?_, ?_, e46, e47, e48, e49, ?_, ?_, Or.inl ⟨nx43 + 19, (some 22), rfl, (by first | omega | (simp only [nm, seval]; done) | (simp only [nm, seval]; omega)), (by first | omega | (intro hh; simp only [b75, reduceCtorEq] at hh)), (by first | omega | (intro hh; simp only [b75, reduceCtorEq] at hh)), ?_⟩, (by first | exact h | (simp only [b75, d76]; exact h))⟩ <;> first | (simp only [ua, b75, e46, e47, e48, e49, e50, e51, d76, nm, seval] <;> rfl) | rfl
   ·have w82 := vap_y hy_q35
    have w83 := zabd hy_q35
    have w84 := zzd hy_q35
    cases p22 with
    | nil =>
     have d85 : (decide (c22_6 < (List.length c7_3 : Int))) = false := zaj hi22 hp22
     simp only [zbx, hs, reduceCtorEq] at h
     replace h := kG22 _ h
     try dsimp only at h
     try simp only [hs] at h
     simp only [zsu, hs] at h
     exact absurd h kN7
    | cons e22 p22 =>
     have d86 : (decide (c22_6 < (List.length c7_3 : Int))) = true := zaw hi22 hp22
     have o88 := zak hi22 hp22
     have w87 := zbj hi22 hp22 g23
     simp only [zbx, hs, reduceCtorEq] at h
     simp only [vz, tyf, g8, n13, q15, q16, d19, (ix23 o21), (ixo23 o21), w20, g23, n31, n32, n33, e26, e27, e28, e29, e30, H24, H25, w82, w83, w84, d86, (ix57 o88), (ixo57 o88), w87, nm, seval]
     obtain ⟨K89, h, kR89, kG89, kB89, kN89⟩ := zbf h kN22
     obtain ⟨f89, hf89, h⟩ := call3 h
     obtain ⟨I89, hI89⟩ : ∃ I : Nat → St → Prop, I = (fun m st => ∃ (p89 : Nat) (c89_5 : List (List Int)) (c89_7 : Int) (y89_0 : VV), p89 = m ∧ st.df = [] ∧ nx22 + 12 ≤ st.nx ∧ st.H 0 = some (.cells (some 26) (cGPriceSheet x0_s)) ∧ st.H b7_0 = some (.cells (el7_0) (cellsL (eSl eI) c7_3)) ∧ st.tm 1 = .ptr 0 0 ∧ st.tm 3 = .ref b7_0 0 (List.length c7_3) 1 (List.length c7_3) ∧ st.tm 4 = .lit (.int .i64 c7_4) ∧ st.tm 6 = .lit (.int .i64 c22_6) ∧ st.tm 5 = y89_0 ∧ st.tm 7 = .lit (.int .i64 c89_7) ∧ ((∃ (β : Nat) (el : Option TypeId), y89_0 = .ref β 0 (List.length c89_5) 1 (List.length c89_5) ∧ β < st.nx ∧ β ≠ 0 ∧ β ≠ b7_0 ∧ st.H β = some (.cells el (cellsL (eSl eI) c89_5))) ∨ (nilS y89_0 = .sl [] 0 true ∧ c89_5 = [])) ∧ K89 (f89 p89 c89_5 c89_7)) := ⟨_, rfl⟩
     refine loopKG mixed (by kernel_rfl) I89 1000000 (by rw [hI89]; refine ⟨1000000, ([] : List (List Int)), e7.Hours.Low, y22_0, rfl, rfl, (show nx22 + 12 ≤ nx22 + 12 by omega), ?_, ?_, e26, e27, e28, e30, ?_, ?_, Or.inr ⟨hy_q35, rfl⟩, h⟩ <;> first | (simp only [ua, n13, q15, q16, d19, w20, n31, n32, n33, e26, e27, e28, e29, e30, H24, H25, w82, w83, w84, d86, w87, nm, seval] <;> rfl) | rfl) ?_
     rintro m ⟨tm, H, nx89, df⟩ hinv
     rw [hI89] at hinv
     obtain ⟨p89, c89_5, c89_7, y89_0, rfl, hdf, hn89, H90, H91, e92, e93, e94, e95, e96, e97, ow89_0, h⟩ := hinv
     simp only at hdf hn89 H90 H91 e92 e93 e94 e95 e96 e97 ow89_0
     have n98 := zda (m := 5) (b := nx89) (by omega)
     have n99 := zit (a := nx7) (m := 7) (b := nx89) (by omega)
     have n100 := zit (a := nx22) (m := 12) (b := nx89) (by omega)
     have n101 := zhn (β := b7_0) (nx := nx89) (by omega)
     subst hdf hf89
     rcases ow89_0 with ⟨b89_0, el89_0, rfl, lq103, lq104, lq105, H102⟩ | ⟨hy_q103, rfl⟩
     ·have q103 := zhn lq103
      have q104 := ne_f lq104
      have q105 := ne_f lq105
      cases p89 with
      | zero =>
       simp only [zbg, hs, reduceCtorEq] at h
       exact absurd h kN89
      | succ p89 =>
       simp only [zbg, hs, reduceCtorEq] at h
       cases d106 : (decide (c89_7 ≤ e7.Hours.High))
       ·simp only [d106, hs] at h
        have b107 := And.intro g8 (And.intro n13 (And.intro q15 (And.intro q16 (And.intro d19 (And.intro w20 (And.intro g23 (And.intro n31 (And.intro n32 (And.intro n33 (And.intro w82 (And.intro w83 (And.intro w84 (And.intro d86 (And.intro w87 (And.intro n98 (And.intro n99 (And.intro n100 (And.intro n101 (And.intro H90 (And.intro H91 (And.intro q103 (And.intro H102 (And.intro q104 (And.intro q105 d106))))))))))))))))))))))))
        replace h := kG89 _ h
        try dsimp only at h
        try simp only [hs] at h
        cases g108 : (neB c89_5)
        ·simp only [g108, hs] at h
         exact absurd h kN22
        simp only [g108, hs] at h
        simp only [vz, tyf, b107, (ix23 o21), (ixo23 o21), (ix57 o88), (ixo57 o88), e92, e93, e94, e95, e96, e97, g108, nm, seval]
        exact ⟨List.length p22, Nat.lt_succ_self _, by rw [hI22]; refine ⟨p22, c22_6 + 1, c89_5, .ref b89_0 0 (List.length c89_5) 1 (List.length c89_5), rfl, Int.le_trans hi22 (Int.le_add_one (Int.le_refl _)), zax hi22 hp22, rfl, (show nx7 + 7 ≤ nx89 + 12 by omega), ?_, ?_, e92, e93, e94, ?_, ?_, Or.inl ⟨b89_0, el89_0, rfl, (by first | omega | (simp only [nm, seval]; done) | (simp only [nm, seval]; omega)), (by first | omega | (intro hh; simp only [b107, reduceCtorEq] at hh)), (by first | omega | (intro hh; simp only [b107, reduceCtorEq] at hh)), ?_⟩, (by first | exact h | (simp only [b107]; exact h))⟩ <;> first | (simp only [ua, b107, e92, e93, e94, e95, e96, e97, nm, seval] <;> rfl) | rfl⟩
       simp only [d106, hs] at h
       have b109 := And.intro g8 (And.intro n13 (And.intro q15 (And.intro q16 (And.intro d19 (And.intro w20 (And.intro g23 (And.intro n31 (And.intro n32 (And.intro n33 (And.intro w82 (And.intro w83 (And.intro w84 (And.intro d86 (And.intro w87 (And.intro n98 (And.intro n99 (And.intro n100 (And.intro n101 (And.intro H90 (And.intro H91 (And.intro q103 (And.intro H102 (And.intro q104 (And.intro q105 d106))))))))))))))))))))))))
       cases d110 : (neB e22)
       ·simp only [d110, hs] at h
        simp only [vz, tyf, b109, (ix23 o21), (ixo23 o21), (ix57 o88), (ixo57 o88), e92, e93, e94, e95, e96, e97, d110, nm, seval]
        refine zwk (enc := eI) (ys := e22) ao22 Tryz.underlying22 d110 ?_
        cases g111 : (roomOk 8 (List.length (([] : List Int) ++ [c89_7])))
        ·simp only [g111, hs] at h
         exact absurd h kN89
        simp only [g111, hs] at h
        simp only [vz, tyf, b109, (ix23 o21), (ixo23 o21), (ix57 o88), (ixo57 o88), e92, e93, e94, e95, e96, e97, d110, g111, zpw, nm, seval]
        refine zmp (w := 1) (enc := eI) (ys := ([c89_7])) (el2 := (some 3)) (fun _ => rfl) lf22 ao22 Tryz.underlying22 (by first | rfl | assumption | (simp only [zab, zaa, et22, b109, nm, seval] <;> rfl) | (simp only [zab, zaa, zac, zad, zcn, zbl, tyf, b109, (ix23 o21), (ixo23 o21), (ix57 o88), (ixo57 o88), e92, e93, e94, e95, e96, e97, d110, g111, nm, seval]; done)) (Nat.zero_lt_succ _) g111 ?_
        cases g112 : (roomOk 24 (List.length (c89_5 ++ [(([] : List Int) ++ [c89_7])])))
        ·simp only [g112, hs] at h
         exact absurd h kN89
        simp only [g112, hs] at h
        simp only [vz, tyf, b109, (ix23 o21), (ixo23 o21), (ix57 o88), (ixo57 o88), e92, e93, e94, e95, e96, e97, d110, g111, g112, nm, seval]
        refine zxg (enc := (eSl eI)) (xs := c89_5) (a := (([] : List Int) ++ [c89_7])) (y := .ref (nx89 + 17) 0 (List.length (([] : List Int) ++ [c89_7])) 1 (List.length (([] : List Int) ++ [c89_7]))) (el := el89_0) (el2 := (some 22)) (fun _ => rfl) ao57 Tryz.underlying57 (by first | rfl | assumption | (simp only [zab, zaa, et57, b109, nm, seval] <;> rfl) | (simp only [zab, zaa, zac, zad, zcn, zbl, tyf, b109, (ix23 o21), (ixo23 o21), (ix57 o88), (ixo57 o88), e92, e93, e94, e95, e96, e97, d110, g111, g112, nm, seval]; done)) (by first | rfl | assumption | (simp only [zab, zaa, et57, b109, nm, seval] <;> rfl) | (simp only [zab, zaa, zac, zad, zcn, zbl, tyf, b109, (ix23 o21), (ixo23 o21), (ix57 o88), (ixo57 o88), e92, e93, e94, e95, e96, e97, d110, g111, g112, nm, seval]; done)) rfl g112 ?_
        simp only [vz, tyf, b109, (ix23 o21), (ixo23 o21), (ix57 o88), (ixo57 o88), e92, e93, e94, e95, e96, e97, d110, g111, g112, nm, seval]
        refine ⟨p89, Nat.lt_succ_self _, _, Ghost.snocL (γ := nx89 + 17) (ε := nx89 + 19) (xs := c89_5) (ys := (([] : List Int) ++ [c89_7])) (cp := List.length (([] : List Int) ++ [c89_7])) (by first | rfl | (simp only [zab, zaa, zac, zad, b109, e92, e93, e94, e95, e96, e97, d110, nm, seval]; done) | (simp only [zab, zaa, zac, zad, b109, e92, e93, e94, e95, e96, e97, d110, nm, seval]; rfl)) (by first | rfl | (simp only [zab, zaa, zac, zad, b109, e92, e93, e94, e95, e96, e97, d110, nm, seval]; done) | (simp only [zab, zaa, zac, zad, b109, e92, e93, e94, e95, e96, e97, d110, nm, seval]; rfl)) (by omega), ?_⟩
        rw [hI89]; refine ⟨p89, (c89_5 ++ [(([] : List Int) ++ [c89_7])]), IntKind.i64.wrap (c89_7 + 1), .ref (nx89 + 19) 0 (List.length (c89_5 ++ [(([] : List Int) ++ [c89_7])])) 1 (List.length (c89_5 ++ [(([] : List Int) ++ [c89_7])])), rfl, rfl, (show nx22 + 12 ≤ nx89 + 24 by omega), ?_, ?_, e92, e93, e94, e95, ?_, ?_, Or.inl ⟨nx89 + 19, (sameEl el89_0 22), rfl, (by first | omega | (simp only [nm, seval]; done) | (simp only [nm, seval]; omega)), (by first | omega | (intro hh; simp only [b109, reduceCtorEq] at hh)), (by first | omega | (intro hh; simp only [b109, reduceCtorEq] at hh)), ?_⟩, (by first | exact h | (simp only [b109, d110]; exact h))⟩ <;> first | (simp only [ua, b109, e92, e93, e94, e95, e96, e97, d110, nm, seval] <;> rfl) | rfl
       simp only [d110, hs] at h
       cases g113 : (roomOk 8 (List.length ([] ++ e22)))
       ·simp only [g113, hs] at h
        exact absurd h kN89
       simp only [g113, hs] at h
       simp only [vz, tyf, b109, (ix23 o21), (ixo23 o21), (ix57 o88), (ixo57 o88), e92, e93, e94, e95, e96, e97, d110, g113, nm, seval]
       refine zxb (w := 1) (enc := eI) (ys := e22) (fun _ => rfl) lf22 ao22 Tryz.underlying22 d110 g113 ?_
       cases g114 : (roomOk 8 (List.length (([] ++ e22) ++ [c89_7])))
       ·simp only [g114, hs] at h
        exact absurd h kN89
       simp only [g114, hs] at h
       simp only [vz, tyf, b109, (ix23 o21), (ixo23 o21), (ix57 o88), (ixo57 o88), e92, e93, e94, e95, e96, e97, d110, g113, g114, nm, seval]
       refine k_app (w := 1) (enc := eI) (xs := ([] ++ e22)) (ys := ([c89_7])) (el := (some 3)) (el2 := (some 3)) (fun _ => rfl) lf22 ao22 Tryz.underlying22 (by first | rfl | assumption | (simp only [zab, zaa, et22, b109, nm, seval] <;> rfl) | (simp only [zab, zaa, zac, zad, zcn, zbl, tyf, b109, (ix23 o21), (ixo23 o21), (ix57 o88), (ixo57 o88), e92, e93, e94, e95, e96, e97, d110, g113, g114, nm, seval]; done)) (by first | rfl | assumption | (simp only [zab, zaa, et22, b109, nm, seval] <;> rfl) | (simp only [zab, zaa, zac, zad, zcn, zbl, tyf, b109, (ix23 o21), (ixo23 o21), (ix57 o88), (ixo57 o88), e92, e93, e94, e95, e96, e97, d110, g113, g114, nm, seval]; done)) (Nat.zero_lt_succ _) g114 ?_
       cases g115 : (roomOk 24 (List.length (c89_5 ++ [(([] ++ e22) ++ [c89_7])])))
       ·simp only [g115, hs] at h
        exact absurd h kN89
       simp only [g115, hs] at h
       simp only [vz, tyf, b109, (ix23 o21), (ixo23 o21), (ix57 o88), (ixo57 o88), e92, e93, e94, e95, e96, e97, d110, g113, g114, g115, nm, seval]
       refine zxg (enc := (eSl eI)) (xs := c89_5) (a := (([] ++ e22) ++ [c89_7])) (y := .ref (nx89 + 17) 0 (List.length (([] ++ e22) ++ [c89_7])) 1 (List.length (([] ++ e22) ++ [c89_7]))) (el := el89_0) (el2 := (some 22)) (fun _ => rfl) ao57 Tryz.underlying57 (by first | rfl | assumption | (simp only [zab, zaa, et57, b109, nm, seval] <;> rfl) | (simp only [zab, zaa, zac, zad, zcn, zbl, tyf, b109, (ix23 o21), (ixo23 o21), (ix57 o88), (ixo57 o88), e92, e93, e94, e95, e96, e97, d110, g113, g114, g115, nm, seval]; done)) (by first | rfl | assumption | (simp only [zab, zaa, et57, b109, nm, seval] <;> rfl) | (simp only [zab, zaa, zac, zad, zcn, zbl, tyf, b109, (ix23 o21), (ixo23 o21), (ix57 o88), (ixo57 o88), e92, e93, e94, e95, e96, e97, d110, g113, g114, g115, nm, seval]; done)) rfl g115 ?_
       simp only [vz, tyf, b109, (ix23 o21), (ixo23 o21), (ix57 o88), (ixo57 o88), e92, e93, e94, e95, e96, e97, d110, g113, g114, g115, nm, seval]
       refine ⟨p89, Nat.lt_succ_self _, _, Ghost.snocL (γ := nx89 + 17) (ε := nx89 + 19) (xs := c89_5) (ys := (([] ++ e22) ++ [c89_7])) (cp := List.length (([] ++ e22) ++ [c89_7])) (by first | rfl | (simp only [zab, zaa, zac, zad, b109, e92, e93, e94, e95, e96, e97, d110, nm, seval]; done) | (simp only [zab, zaa, zac, zad, b109, e92, e93, e94, e95, e96, e97, d110, nm, seval]; rfl)) (by first | rfl | (simp only [zab, zaa, zac, zad, b109, e92, e93, e94, e95, e96, e97, d110, nm, seval]; done) | (simp only [zab, zaa, zac, zad, b109, e92, e93, e94, e95, e96, e97, d110, nm, seval]; rfl)) (by omega), ?_⟩
       rw [hI89]; refine ⟨p89, (c89_5 ++ [(([] ++ e22) ++ [c89_7])]), IntKind.i64.wrap (c89_7 + 1), .ref (nx89 + 19) 0 (List.length (c89_5 ++ [(([] ++ e22) ++ [c89_7])])) 1 (List.length (c89_5 ++ [(([] ++ e22) ++ [c89_7])])), rfl, rfl, (show nx22 + 12 ≤ nx89 + 24 by omega), ?_, ?_, e92, e93, e94, e95, ?_, ?_, Or.inl ⟨nx89 + 19, (sameEl el89_0 22), rfl, (by first | omega | (simp only [nm, seval]; done) | (simp only [nm, seval]; omega)), (by first | omega | (intro hh; simp only [b109, reduceCtorEq] at hh)), (by first | omega | (intro hh; simp only [b109, reduceCtorEq] at hh)), ?_⟩, (by first | exact h | (simp only [b109, d110]; exact h))⟩ <;> first | (simp only [ua, b109, e92, e93, e94, e95, e96, e97, d110, nm, seval] <;> rfl) | rfl
     ·have w116 := vap_y hy_q103
      have w117 := zabd hy_q103
      have w118 := zzd hy_q103
      cases p89 with
      | zero =>
       simp only [zbg, hs, reduceCtorEq] at h
       exact absurd h kN89
      | succ p89 =>
       simp only [zbg, hs, reduceCtorEq] at h
       cases d119 : (decide (c89_7 ≤ e7.Hours.High))
       ·simp only [d119, hs] at h
        have b120 := And.intro g8 (And.intro n13 (And.intro q15 (And.intro q16 (And.intro d19 (And.intro w20 (And.intro g23 (And.intro n31 (And.intro n32 (And.intro n33 (And.intro w82 (And.intro w83 (And.intro w84 (And.intro d86 (And.intro w87 (And.intro n98 (And.intro n99 (And.intro n100 (And.intro n101 (And.intro H90 (And.intro H91 (And.intro w116 (And.intro w117 (And.intro w118 d119)))))))))))))))))))))))
        replace h := kG89 _ h
        try dsimp only at h
        try simp only [hs] at h
        simp only [zsu, hs] at h
        exact absurd h kN22
       simp only [d119, hs] at h
       have b121 := And.intro g8 (And.intro n13 (And.intro q15 (And.intro q16 (And.intro d19 (And.intro w20 (And.intro g23 (And.intro n31 (And.intro n32 (And.intro n33 (And.intro w82 (And.intro w83 (And.intro w84 (And.intro d86 (And.intro w87 (And.intro n98 (And.intro n99 (And.intro n100 (And.intro n101 (And.intro H90 (And.intro H91 (And.intro w116 (And.intro w117 (And.intro w118 d119)))))))))))))))))))))))
       cases d122 : (neB e22)
       ·simp only [d122, hs] at h
        simp only [vz, tyf, b121, (ix23 o21), (ixo23 o21), (ix57 o88), (ixo57 o88), e92, e93, e94, e95, e96, e97, d122, nm, seval]
        refine zwk (enc := eI) (ys := e22) ao22 Tryz.underlying22 d122 ?_
        cases g123 : (roomOk 8 (List.length (([] : List Int) ++ [c89_7])))
        ·simp only [g123, hs] at h
         exact absurd h kN89
        simp only [g123, hs] at h
        simp only [vz, tyf, b121, (ix23 o21), (ixo23 o21), (ix57 o88), (ixo57 o88), e92, e93, e94, e95, e96, e97, d122, g123, zpw, nm, seval]
        refine zmp (w := 1) (enc := eI) (ys := ([c89_7])) (el2 := (some 3)) (fun _ => rfl) lf22 ao22 Tryz.underlying22 (by first | rfl | assumption | (simp only [zab, zaa, et22, b121, nm, seval] <;> rfl) | (simp only [zab, zaa, zac, zad, zcn, zbl, tyf, b121, (ix23 o21), (ixo23 o21), (ix57 o88), (ixo57 o88), e92, e93, e94, e95, e96, e97, d122, g123, nm, seval]; done)) (Nat.zero_lt_succ _) g123 ?_
        cases g124 : (roomOk 24 (List.length (([] : List (List Int)) ++ [(([] : List Int) ++ [c89_7])])))
        ·simp only [g124, hs] at h
         exact absurd h kN89
        simp only [g124, hs] at h
        simp only [vz, tyf, b121, (ix23 o21), (ixo23 o21), (ix57 o88), (ixo57 o88), e92, e93, e94, e95, e96, e97, d122, g123, g124, nm, seval]
        refine zwq (y := .ref (nx89 + 17) 0 (List.length (([] : List Int) ++ [c89_7])) 1 (List.length (([] : List Int) ++ [c89_7]))) (el2 := (some 22)) ao57 Tryz.underlying57 (by first | rfl | assumption | (simp only [zab, zaa, et57, b121, nm, seval] <;> rfl) | (simp only [zab, zaa, zac, zad, zcn, zbl, tyf, b121, (ix23 o21), (ixo23 o21), (ix57 o88), (ixo57 o88), e92, e93, e94, e95, e96, e97, d122, g123, g124, nm, seval]; done)) rfl (by rfl) ?_
        simp only [vz, tyf, b121, (ix23 o21), (ixo23 o21), (ix57 o88), (ixo57 o88), e92, e93, e94, e95, e96, e97, d122, g123, g124, nm, seval]
        refine ⟨p89, Nat.lt_succ_self _, _, Ghost.snocL (γ := nx89 + 17) (ε := nx89 + 19) (xs := ([] : List (List Int))) (ys := (([] : List Int) ++ [c89_7])) (cp := List.length (([] : List Int) ++ [c89_7])) (by first | rfl | (simp only [zab, zaa, zac, zad, b121, e92, e93, e94, e95, e96, e97, d122, nm, seval]; done) | (simp only [zab, zaa, zac, zad, b121, e92, e93, e94, e95, e96, e97, d122, nm, seval]; rfl)) (by first | rfl | (simp only [zab, zaa, zac, zad, b121, e92, e93, e94, e95, e96, e97, d122, nm, seval]; done) | (simp only [zab, zaa, zac, zad, b121, e92, e93, e94, e95, e96, e97, d122, nm, seval]; rfl)) (by omega), ?_⟩
        rw [hI89]; refine ⟨p89, (([] : List (List Int)) ++ [(([] : List Int) ++ [c89_7])]), IntKind.i64.wrap (c89_7 + 1), .ref (nx89 + 19) 0 (List.length (([] : List (List Int)) ++ [(([] : List Int) ++ [c89_7])])) 1 (List.length (([] : List (List Int)) ++ [(([] : List Int) ++ [c89_7])])), rfl, rfl, (show nx22 + 12 ≤ nx89 + 24 by omega), ?_, ?_, e92, e93, e94, e95, ?_, ?_, Or.inl ⟨nx89 + 19, (some 22), rfl, (by first | omega | (simp only [nm, seval]; done) | (simp only [nm, seval]; omega)), (by first | omega | (intro hh; simp only [b121, reduceCtorEq] at hh)), (by first | omega | (intro hh; simp only [b121, reduceCtorEq] at hh)), ?_⟩, (by first | exact h | (simp only [b121, d122]; exact h))⟩ <;> first | (simp only [ua, b121, e92, e93, e94, e95, e96, e97, d122, nm, seval] <;> rfl) | rfl
       simp only [d122, hs] at h
       cases g125 : (roomOk 8 (List.length ([] ++ e22)))
       ·simp only [g125, hs] at h
        exact absurd h kN89
       simp only [g125, hs] at h
       simp only [vz, tyf, b121, (ix23 o21), (ixo23 o21), (ix57 o88), (ixo57 o88), e92, e93, e94, e95, e96, e97, d122, g125, nm, seval]
       refine zxb (w := 1) (enc := eI) (ys := e22) (fun _ => rfl) lf22 ao22 Tryz.underlying22 d122 g125 ?_
       cases g126 : (roomOk 8 (List.length (([] ++ e22) ++ [c89_7])))
       ·simp only [g126, hs] at h
        exact absurd h kN89
       simp only [g126, hs] at h
       simp only [vz, tyf, b121, (ix23 o21), (ixo23 o21), (ix57 o88), (ixo57 o88), e92, e93, e94, e95, e96, e97, d122, g125, g126, nm, seval]
       refine k_app (w := 1) (enc := eI) (xs := ([] ++ e22)) (ys := ([c89_7])) (el := (some 3)) (el2 := (some 3)) (fun _ => rfl) lf22 ao22 Tryz.underlying22 (by first | rfl | assumption | (simp only [zab, zaa, et22, b121, nm, seval] <;> rfl) | (simp only [zab, zaa, zac, zad, zcn, zbl, tyf, b121, (ix23 o21), (ixo23 o21), (ix57 o88), (ixo57 o88), e92, e93, e94, e95, e96, e97, d122, g125, g126, nm, seval]; done)) (by first | rfl | assumption | (simp only [zab, zaa, et22, b121, nm, seval] <;> rfl) | (simp only [zab, zaa, zac, zad, zcn, zbl, tyf, b121, (ix23 o21), (ixo23 o21), (ix57 o88), (ixo57 o88), e92, e93, e94, e95, e96, e97, d122, g125, g126, nm, seval]; done)) (Nat.zero_lt_succ _) g126 ?_
       cases g127 : (roomOk 24 (List.length (([] : List (List Int)) ++ [(([] ++ e22) ++ [c89_7])])))
       ·simp only [g127, hs] at h
        exact absurd h kN89
       simp only [g127, hs] at h
       simp only [vz, tyf, b121, (ix23 o21), (ixo23 o21), (ix57 o88), (ixo57 o88), e92, e93, e94, e95, e96, e97, d122, g125, g126, g127, nm, seval]
       refine zwq (y := .ref (nx89 + 17) 0 (List.length (([] ++ e22) ++ [c89_7])) 1 (List.length (([] ++ e22) ++ [c89_7]))) (el2 := (some 22)) ao57 Tryz.underlying57 (by first | rfl | assumption | (simp only [zab, zaa, et57, b121, nm, seval] <;> rfl) | (simp only [zab, zaa, zac, zad, zcn, zbl, tyf, b121, (ix23 o21), (ixo23 o21), (ix57 o88), (ixo57 o88), e92, e93, e94, e95, e96, e97, d122, g125, g126, g127, nm, seval]; done)) rfl (by rfl) ?_
       simp only [vz, tyf, b121, (ix23 o21), (ixo23 o21), (ix57 o88), (ixo57 o88), e92, e93, e94, e95, e96, e97, d122, g125, g126, g127, nm, seval]
       refine ⟨p89, Nat.lt_succ_self _, _, Ghost.snocL (γ := nx89 + 17) (ε := nx89 + 19) (xs := ([] : List (List Int))) (ys := (([] ++ e22) ++ [c89_7])) (cp := List.length (([] ++ e22) ++ [c89_7])) (by first | rfl | (simp only [zab, zaa, zac, zad, b121, e92, e93, e94, e95, e96, e97, d122, nm, seval]; done) | (simp only [zab, zaa, zac, zad, b121, e92, e93, e94, e95, e96, e97, d122, nm, seval]; rfl)) (by first | rfl | (simp only [zab, zaa, zac, zad, b121, e92, e93, e94, e95, e96, e97, d122, nm, seval]; done) | (simp only [zab, zaa, zac, zad, b121, e92, e93, e94, e95, e96, e97, d122, nm, seval]; rfl)) (by omega), ?_⟩
       rw [hI89]; refine ⟨p89, (([] : List (List Int)) ++ [(([] ++ e22) ++ [c89_7])]), IntKind.i64.wrap (c89_7 + 1), .ref (nx89 + 19) 0 (List.length (([] : List (List Int)) ++ [(([] ++ e22) ++ [c89_7])])) 1 (List.length (([] : List (List Int)) ++ [(([] ++ e22) ++ [c89_7])])), rfl, rfl, (show nx22 + 12 ≤ nx89 + 24 by omega), ?_, ?_, e92, e93, e94, e95, ?_, ?_, Or.inl ⟨nx89 + 19, (some 22), rfl, (by first | omega | (simp only [nm, seval]; done) | (simp only [nm, seval]; omega)), (by first | omega | (intro hh; simp only [b121, reduceCtorEq] at hh)), (by first | omega | (intro hh; simp only [b121, reduceCtorEq] at hh)), ?_⟩, (by first | exact h | (simp only [b121, d122]; exact h))⟩ <;> first | (simp only [ua, b121, e92, e93, e94, e95, e96, e97, d122, nm, seval] <;> rfl) | rfl
 ·have w128 := vap_y hy_q15
  have w129 := zabd hy_q15
  have w130 := zzd hy_q15
  cases p7 with
  | nil =>
   have d131 : (decide (c7_4 < (List.length x0_s.Boards : Int))) = false := zaj hi7 hp7
   simp only [zcp, hs, reduceCtorEq] at h
   replace h := kG7 _ h
   try dsimp only at h
   try simp only [hs] at h
   simp only [zsu, hs] at h
   exact absurd h kN
  | cons e7 p7 =>
   have d132 : (decide (c7_4 < (List.length x0_s.Boards : Int))) = true := zaw hi7 hp7
   have o134 := zak hi7 hp7
   have w133 := zbj hi7 hp7 g8
   simp only [zcp, hs, reduceCtorEq] at h
   cases g136 : (lenOk ([] : List (List Int)))
   ·simp only [g136, hs] at h
    exact absurd h kN7
   simp only [g136, hs] at h
   simp only [vz, tyf, g8, n13, e10, e11, e12, H9, w128, w129, w130, d132, (ix23 o134), (ixo23 o134), w133, g136, nm, seval]
   obtain ⟨K135, h, kR135, kG135, kB135, kN135⟩ := zbf h kN7
   obtain ⟨f135, hf135, h⟩ := call3 h
   obtain ⟨I135, hI135⟩ : ∃ I : Nat → St → Prop, I = (fun m st => ∃ (p135 : List (List Int)) (c135_6 : Int) (c135_5 : List (List Int)) (y135_0 : VV), m = List.length p135 ∧ 0 ≤ c135_6 ∧ List.drop (Int.toNat c135_6) ([] : List (List Int)) = p135 ∧ st.df = [] ∧ nx7 + 7 ≤ st.nx ∧ st.H 0 = some (.cells (some 26) (cGPriceSheet x0_s)) ∧ st.tm 1 = .ptr 0 0 ∧ st.tm 3 = y7_0 ∧ st.tm 4 = .lit (.int .i64 c7_4) ∧ st.tm 5 = y135_0 ∧ st.tm 6 = .lit (.int .i64 c135_6) ∧ ((∃ (β : Nat) (el : Option TypeId), y135_0 = .ref β 0 (List.length c135_5) 1 (List.length c135_5) ∧ β < st.nx ∧ β ≠ 0 ∧ st.H β = some (.cells el (cellsL (eSl eI) c135_5))) ∨ (nilS y135_0 = .sl [] 0 true ∧ c135_5 = [])) ∧ K135 (f135 p135 c135_6 c135_5)) := ⟨_, rfl⟩
   refine loopK mixed (by kernel_rfl) I135 (List.length ([] : List (List Int))) (by rw [hI135]; refine ⟨([] : List (List Int)), 0, ([] : List (List Int)), .lit (.slice none 0 0), rfl, Int.le_refl _, rfl, rfl, (show nx7 + 7 ≤ nx7 + 7 by omega), ?_, e10, e11, e12, ?_, ?_, Or.inr ⟨rfl, rfl⟩, h⟩ <;> first | (simp only [ua, n13, e10, e11, e12, H9, w128, w129, w130, d132, w133, nm, seval] <;> rfl) | rfl) ?_
   rintro m ⟨tm, H, nx135, df⟩ hinv
   rw [hI135] at hinv
   obtain ⟨p135, c135_6, c135_5, y135_0, rfl, hi135, hp135, hdf, hn135, H137, e138, e139, e140, e141, e142, ow135_0, h⟩ := hinv
   simp only at hdf hn135 H137 e138 e139 e140 e141 e142 ow135_0
   have n143 := zda (m := 5) (b := nx135) (by omega)
   have n144 := zit (a := nx7) (m := 7) (b := nx135) (by omega)
   subst hdf hf135
   rcases ow135_0 with ⟨b135_0, el135_0, rfl, lq146, lq147, H145⟩ | ⟨hy_q146, rfl⟩
   ·have q146 := zhn lq146
    have q147 := ne_f lq147
    cases p135 with
    | nil =>
     have d148 : (decide (c135_6 < 0)) = false := zaj hi135 hp135
     simp only [zbx, hs, reduceCtorEq] at h
     replace h := kG135 _ h
     try dsimp only at h
     try simp only [hs] at h
     cases g149 : (neB c135_5)
     ·simp only [g149, hs] at h
      exact absurd h kN7
     simp only [g149, hs] at h
     simp only [vz, tyf, g8, n13, w128, w129, w130, d132, (ix23 o134), (ixo23 o134), w133, g136, n143, n144, e138, e139, e140, e141, e142, H137, q146, H145, q147, d148, g149, nm, seval]
     exact ⟨List.length p7, Nat.lt_succ_self _, by rw [hI7]; refine ⟨p7, c7_4 + 1, c135_5, .ref b135_0 0 (List.length c135_5) 1 (List.length c135_5), rfl, Int.le_trans hi7 (Int.le_add_one (Int.le_refl _)), zax hi7 hp7, rfl, (show 5 ≤ nx135 + 9 by omega), ?_, e138, ?_, ?_, Or.inl ⟨b135_0, el135_0, rfl, (by first | omega | (simp only [nm, seval]; done) | (simp only [nm, seval]; omega)), (by first | omega | (intro hh; simp only [n13, n143, n144, q146, q147, reduceCtorEq] at hh)), ?_⟩, (by first | exact h | (simp only [d132, d148]; exact h))⟩ <;> first | (simp only [ua, n13, w128, w129, w130, d132, w133, n143, n144, e138, e139, e140, e141, e142, H137, q146, H145, q147, d148, nm, seval] <;> rfl) | rfl⟩
    | cons e135 p135 =>
     have d150 : (decide (c135_6 < 0)) = true := zaw hi135 hp135
     have o152 := zak hi135 hp135
     have w151 := zbj hi135 hp135 g136
     simp at hp135
   ·have w153 := vap_y hy_q146
    have w154 := zabd hy_q146
    have w155 := zzd hy_q146
    cases p135 with
    | nil =>
     have d156 : (decide (c135_6 < 0)) = false := zaj hi135 hp135
     simp only [zbx, hs, reduceCtorEq] at h
     replace h := kG135 _ h
     try dsimp only at h
     try simp only [hs] at h
     simp only [zsu, hs] at h
     exact absurd h kN7
    | cons e135 p135 =>
     have d157 : (decide (c135_6 < 0)) = true := zaw hi135 hp135
     have o159 := zak hi135 hp135
     have w158 := zbj hi135 hp135 g136
     simp at hp135
def zdm (x0_s : GPriceSheet) (x1_t : GPriceTariff) : List (List Int) → Int → Int → Int → Option (LOut (GSpan) (Int × Int))
 | [], c0_7, c0_o0, c0_o1 => some (.go (c0_o0, c0_o1))
 | e0 :: p0, c0_7, c0_o0, c0_o1 => Option.bind (zdu x0_s x1_t e0) (fun r5 => zdm x0_s x1_t p0 (c0_7 + 1) (if r5 < c0_o0 then r5 else c0_o0) (if c0_o1 < r5 then r5 else c0_o1))
def zgh (x0_s : GPriceSheet) (x1_t : GPriceTariff) : Option (GSpan) := Option.bind (zgv x0_s) (fun r1 => Option.bind (getI r1 0) (fun x2 => Option.bind (zdu x0_s x1_t x2) (fun r3 => cond (lenOk r1) (lbind (zdm x0_s x1_t r1 0 r3 r3) (fun r7 => some r7) (fun c6 => some (GSpan.mk c6.1 c6.2)) (fun _ _ => none)) none)))
theorem zno (x0_s : GPriceSheet) (x1_t : GPriceTariff) (R : GSpan) (h : zgh x0_s x1_t = some R) : VPure Tryz.prog G0 27 [.agg (cGPriceSheet x0_s), .agg (cGPriceTariff x1_t)] (.tree (.agg (cGSpan R))) := by
 refine VPure.runR mixed Tryz.call27 Tryz.func27 rfl (by simp [Tryz.ntmps27]; kernel_rfl) ?_
 obtain ⟨KF, h, kF, kN⟩ := zaq h
 simp only [zgh] at h
 obtain ⟨r8, o9, h⟩ := optI h kN
 try simp only [hs] at h
 simp only [vz, tyf, nm, seval]
 refine ktA (zpo _ _ o9) ?_
 refine zar (fun tm => tm 2 = .ptr 0 0 ∧ tm 3 = .ptr 1 0 ∧ tm 4 = .ptr 2 0 ∧ tm 10 = .sl (cellsL (eSl eI) r8) (List.length r8) false ∧ True) (by refine ⟨?_, ?_, ?_, ?_, trivial⟩ <;> first | (simp only [ua, nm, seval] <;> rfl) | rfl) ?_
 rintro tm ⟨e10, e11, e12, e13, _⟩
 simp only [vz, tyf, e10, e11, e12, e13, nm, seval]
 refine zdb (fun tm => tm 2 = .ptr 0 0 ∧ tm 3 = .ptr 1 0 ∧ tm 4 = .ptr 2 0 ∧ tm 5 = .sl (cellsL (eSl eI) r8) (List.length r8) false ∧ True) (by refine ⟨e10, e11, e12, ?_, trivial⟩ <;> first | (simp only [ua, e10, e11, e12, e13, nm, seval] <;> rfl) | rfl) ?_
 rintro tm ⟨e14, e15, e16, e17, _⟩
 obtain ⟨x18, o19, h⟩ := optI h kN
 try simp only [hs] at h
 obtain ⟨r20, o21, h⟩ := optI h kN
 try simp only [hs] at h
 simp only [vz, tyf, e14, e15, e16, e17, (ix57 o19), nm, seval]
 refine dktA (zey _ _ _ _ o21) ?_
 refine zar (fun tm => tm 2 = .ptr 0 0 ∧ tm 3 = .ptr 1 0 ∧ tm 4 = .ptr 2 0 ∧ tm 5 = .sl (cellsL (eSl eI) r8) (List.length r8) false ∧ tm 16 = .lit (.int .i64 r20) ∧ True) (by refine ⟨e14, e15, e16, e17, ?_, trivial⟩ <;> first | (simp only [ua, e14, e15, e16, e17, nm, seval] <;> rfl) | rfl) ?_
 rintro tm ⟨e22, e23, e24, e25, e26, _⟩
 simp only [vz, tyf, (ix57 o19), e22, e23, e24, e25, e26, nm, seval]
 refine dktA (zey _ _ _ _ o21) ?_
 refine zar (fun tm => tm 2 = .ptr 0 0 ∧ tm 3 = .ptr 1 0 ∧ tm 4 = .ptr 2 0 ∧ tm 5 = .sl (cellsL (eSl eI) r8) (List.length r8) false ∧ tm 16 = .lit (.int .i64 r20) ∧ tm 22 = .lit (.int .i64 r20) ∧ True) (by refine ⟨e22, e23, e24, e25, e26, ?_, trivial⟩ <;> first | (simp only [ua, e22, e23, e24, e25, e26, nm, seval] <;> rfl) | rfl) ?_
 rintro tm ⟨e27, e28, e29, e30, e31, e32, _⟩
 simp only [vz, tyf, (ix57 o19), e27, e28, e29, e30, e31, e32, nm, seval]
 refine zee ⟨?_, ?_⟩
 ·simp only [zcl, zde, zbb, zfc, and_true, true_and]
  repeat' (first | exact trivial | refine And.intro ?_ ?_ | rw [zbb] | rw [zeb] | exact Or.inl (by decide +kernel) | exact Or.inl (by dsimp only; decide +kernel) | (refine Or.inr ⟨?_, ?_⟩ <;> simp; done) | (refine Or.inr ⟨?_, ?_⟩ <;> simp <;> omega) | (refine Or.inr ⟨?_, ?_⟩ <;> simp [VEff.wr] <;> omega))
 cases g34 : (lenOk r8)
 ·simp only [g34, hs] at h
  exact absurd h kN
 simp only [g34, hs] at h
 simp only [vz, tyf, (ix57 o19), e27, e28, e29, e30, e31, e32, g34, nm, seval]
 obtain ⟨K33, h, kR33, kG33, kB33, kN33⟩ := zbf h kN
 obtain ⟨f33, hf33, h⟩ := call4 h
 obtain ⟨I33, hI33⟩ : ∃ I : Nat → St → Prop, I = (fun m st => ∃ (p33 : List (List Int)) (c33_7 : Int) (c33_o0 : Int) (c33_o1 : Int), m = List.length p33 ∧ 0 ≤ c33_7 ∧ List.drop (Int.toNat c33_7) r8 = p33 ∧ st.df = [] ∧ 22 ≤ st.nx ∧ st.H 0 = some (.cells (some 26) (cGPriceSheet x0_s)) ∧ st.H 1 = some (.cells (some 42) (cGPriceTariff x1_t)) ∧ st.H 2 = some (.cells (some 33) ([.lit (.int .i64 0)] ++ [.lit (.int .i64 0)])) ∧ st.H 19 = some (.cells (some 33) ([.lit (.int .i64 c33_o0)] ++ [.lit (.int .i64 c33_o1)])) ∧ st.tm 2 = .ptr 0 0 ∧ st.tm 3 = .ptr 1 0 ∧ st.tm 4 = .ptr 2 0 ∧ st.tm 5 = .sl (cellsL (eSl eI) r8) (List.length r8) false ∧ st.tm 6 = .ptr 19 0 ∧ st.tm 7 = .lit (.int .i64 c33_7) ∧ K33 (f33 p33 c33_7 c33_o0 c33_o1)) := ⟨_, rfl⟩
 refine loopK mixed (by kernel_rfl) I33 (List.length r8) (by rw [hI33]; refine ⟨r8, 0, r20, r20, rfl, Int.le_refl _, rfl, rfl, (show 22 ≤ 22 by omega), ?_, ?_, ?_, ?_, e27, e28, e29, e30, ?_, ?_, h⟩ <;> first | (simp only [ua, e27, e28, e29, e30, e31, e32, nm, seval] <;> rfl) | rfl) ?_
 rintro m ⟨tm, H, nx33, df⟩ hinv
 rw [hI33] at hinv
 obtain ⟨p33, c33_7, c33_o0, c33_o1, rfl, hi33, hp33, hdf, hn33, H35, H36, H37, H38, e39, e40, e41, e42, e43, e44, h⟩ := hinv
 simp only at hdf hn33 H35 H36 H37 H38 e39 e40 e41 e42 e43 e44
 have n45 := zda (m := 22) (b := nx33) (by omega)
 subst hdf hf33
 cases p33 with
 | nil =>
  have d46 : (decide (c33_7 < (List.length r8 : Int))) = false := zaj hi33 hp33
  simp only [zdm, hs, reduceCtorEq] at h
  replace h := kG33 _ h
  try dsimp only at h
  try simp only [hs] at h
  try simp only [vz, tyf, (ix57 o19), g34, n45, e39, e40, e41, e42, e43, e44, H35, H36, H37, H38, d46, nm, seval]
  refine zau (x := (.agg ([.lit (.int .i64 c33_o0)] ++ [.lit (.int .i64 c33_o1)]))) (by first | (simp only [Tryz.results27, resV, resL, resV1, zat, zbu, uw, cr, tyf, (ix57 o19), g34, n45, e39, e40, e41, e42, e43, e44, H35, H36, H37, H38, d46, nm, seval] <;> rfl) | rfl) ?_
  obtain rfl := kF _ h
  refine zbc ?_ ?_
  ·simp only [tre, tytre, Bool.and_self]
  ·first | (simp only [outV, uw, zan, cr, tyf, nrm, tynrm, (ix57 o19), g34, n45, e39, e40, e41, e42, e43, e44, H35, H36, H37, H38, d46, nm, seval] <;> rfl) | rfl
 | cons e33 p33 =>
  have d47 : (decide (c33_7 < (List.length r8 : Int))) = true := zaw hi33 hp33
  have o49 := zak hi33 hp33
  have w48 := zbj hi33 hp33 g34
  simp only [zdm, hs, reduceCtorEq] at h
  simp only [vz, tyf, (ix57 o19), g34, n45, e39, e40, e41, e42, e43, e44, H35, H36, H37, H38, d47, (ix57 o49), w48, nm, seval]
  refine zig (fun tm => tm 2 = .ptr 0 0 ∧ tm 3 = .ptr 1 0 ∧ tm 4 = .ptr 2 0 ∧ tm 5 = .sl (cellsL (eSl eI) r8) (List.length r8) false ∧ tm 6 = .ptr 19 0 ∧ tm 7 = .lit (.int .i64 c33_7) ∧ True) (by refine ⟨e39, e40, e41, e42, e43, e44, trivial⟩ <;> first | (simp only [ua, n45, e39, e40, e41, e42, e43, e44, H35, H36, H37, H38, d47, w48, nm, seval] <;> rfl) | rfl) ?_
  rintro tm ⟨e50, e51, e52, e53, e54, e55, _⟩
  have b56 := And.intro g34 (And.intro n45 (And.intro H35 (And.intro H36 (And.intro H37 (And.intro H38 (And.intro d47 w48))))))
  obtain ⟨r57, o58, h⟩ := optI h kN33
  try simp only [hs] at h
  simp only [vz, tyf, b56, (ix57 o19), (ix57 o49), e50, e51, e52, e53, e54, e55, nm, seval]
  refine dktA (zey _ _ _ _ o58) ?_
  refine zar (fun tm => tm 2 = .ptr 0 0 ∧ tm 3 = .ptr 1 0 ∧ tm 4 = .ptr 2 0 ∧ tm 5 = .sl (cellsL (eSl eI) r8) (List.length r8) false ∧ tm 6 = .ptr 19 0 ∧ tm 7 = .lit (.int .i64 c33_7) ∧ tm 36 = .lit (.int .i64 r57) ∧ True) (by refine ⟨e50, e51, e52, e53, e54, e55, ?_, trivial⟩ <;> first | (simp only [ua, b56, e50, e51, e52, e53, e54, e55, nm, seval] <;> rfl) | rfl) ?_
  rintro tm ⟨e59, e60, e61, e62, e63, e64, e65, _⟩
  simp only [vz, tyf, b56, (ix57 o19), (ix57 o49), e59, e60, e61, e62, e63, e64, e65, nm, seval]
  exact ⟨List.length p33, Nat.lt_succ_self _, by rw [hI33]; refine ⟨p33, c33_7 + 1, (if r57 < c33_o0 then r57 else c33_o0), (if c33_o1 < r57 then r57 else c33_o1), rfl, Int.le_trans hi33 (Int.le_add_one (Int.le_refl _)), zax hi33 hp33, rfl, (show 22 ≤ nx33 + 25 by omega), ?_, ?_, ?_, ?_, e59, e60, e61, e62, e63, ?_, (by first | exact h | (simp only [b56]; exact h))⟩ <;> first | (simp only [ua, b56, e59, e60, e61, e62, e63, e64, e65, nm, seval] <;> rfl) | rfl⟩
end Go.V
end
section
namespace Go.V
open Go
def exts (e : List Int) : Nat → Int → List (List Int)
 | 0, _ => []
 | m + 1, n => (e ++ [n]) :: exts e m (n + 1)
theorem zts (e : List Int) : ∀ (m : Nat) (n : Int), (exts e m n).length = m
 | 0, _ => rfl
 | m + 1, n => by simp [exts, zts e m]
theorem zpn {e x : List Int} : ∀ {m : Nat} {n : Int}, x ∈ exts e m n ↔ ∃ i : Int, n ≤ i ∧ i < n + m ∧ x = e ++ [i]
 | 0, n => by
  simp only [exts, List.not_mem_nil, false_iff]
  rintro ⟨i, h1, h2, _⟩; omega
 | m + 1, n => by
  rw [exts, List.mem_cons, zpn (m := m)]
  constructor
  ·rintro (rfl | ⟨i, h1, h2, h3⟩)
   ·exact ⟨n, by omega, by omega, rfl⟩
   ·exact ⟨i, by omega, by omega, h3⟩
  ·rintro ⟨i, h1, h2, h3⟩
   by_cases hi : i = n
   ·subst hi; exact .inl h3
   ·exact .inr ⟨i, by omega, by omega, h3⟩
def wide (b : GPriceBoard) : Nat := (b.Hours.High - b.Hours.Low + 1).toNat
def allL : List GPriceBoard → List (List Int) → List (List Int)
 | [], c => c
 | b :: bs, c => allL bs (c.flatMap fun e => exts e (wide b) b.Hours.Low)
theorem room24 {n : Nat} (h : n ≤ 100000) : roomOk 24 n = true := by simp [roomOk]; omega
theorem zaqx (b : GPriceBoard) {e : List Int} (he : e.length ≤ 4) (hb : b.Hours.High ≤ 100) : ∀ (m k : Nat) (c : List (List Int)) (n : Int), m < k → b.Hours.High + 1 = n + m → 0 ≤ n → c.length + m ≤ 100000 → zbg b e k c n = some (.go (c ++ exts e m n, n + m))
 | 0, 0, _, _, hk, _, _, _ => by omega
 | 0, k + 1, c, n, hk, hn, h0, hc => by
  simp only [zbg]
  rw [decide_eq_false (by omega)]
  simp [exts]
 | m + 1, 0, _, _, hk, _, _, _ => by omega
 | m + 1, k + 1, c, n, hk, hn, h0, hc => by
  have ih := zaqx b he hb m k (c ++ [e ++ [n]]) (n + 1) (by omega) (by omega) (by omega) (by simp; omega)
  have hx : c ++ [e ++ [n]] ++ exts e m (n + 1) = c ++ exts e (m + 1) n := by simp [exts]
  have hy : n + 1 + (m : Int) = n + ((m + 1 : Nat) : Int) := by omega
  simp only [zbg]
  rw [decide_eq_true (by omega), cond_true, zco (by omega) (by omega)]
  cases hz : neB e with
  | true =>
   simp only [cond_true, List.nil_append]
   rw [zgn (by omega), zgn (by simp; omega), room24 (by simp; omega)]
   simp only [cond_true]
   rw [ih, hx, hy]
  | false =>
   have : e = [] := by cases e with | nil => rfl | cons => cases hz
   subst this
   simp only [cond_false, List.nil_append] at ih ⊢
   rw [zgn (by simp), room24 (by simp; omega)]
   simp only [cond_true]
   rw [ih]
   simp only [List.nil_append] at hx
   rw [hx, hy]
theorem zaqw {b : GPriceBoard} (ob : BOk b) (hw : wide b ≤ 7) : ∀ (p : List (List Int)) (i : Int) (c : List (List Int)), (∀ e ∈ p, e.length ≤ 4) → c.length + p.length * 7 ≤ 100000 → zbx b p i c = some (.go (c ++ p.flatMap fun e => exts e (wide b) b.Hours.Low))
 | [], i, c, _, _ => by simp [zbx]
 | e :: p, i, c, h, hc => by
  have oh := ob.h
  have hw1 : 1 ≤ wide b := by unfold wide; omega
  simp only [List.length_cons, Nat.add_mul] at hc
  have hl := zts e (wide b) b.Hours.Low
  simp only [zbx]
  rw [zaqx b (h e (List.mem_cons_self ..)) (by omega) (wide b) 1000000 c b.Hours.Low (by omega) (by unfold wide; omega) (by omega) (by omega)]
  simp only [zkj]
  have hne : neB (c ++ exts e (wide b) b.Hours.Low) = true := by
   cases hx : c ++ exts e (wide b) b.Hours.Low with
   | nil =>
    have : (c ++ exts e (wide b) b.Hours.Low).length = 0 := by rw [hx]; rfl
    rw [List.length_append, hl] at this
    omega
   | cons => rfl
  rw [hne, cond_true, zaqw ob hw p (i + 1) _ (fun e he => h e (List.mem_cons_of_mem _ he)) (by rw [List.length_append, hl]; omega)]
  simp
theorem zue {b : GPriceBoard} : ∀ (c : List (List Int)), (c.flatMap fun e => exts e (wide b) b.Hours.Low).length = c.length * wide b
 | [] => by simp
 | e :: c => by
  have := zue (b := b) c
  simp only [List.flatMap_cons, List.length_append, zts, this, List.length_cons, Nat.add_mul]
  omega
theorem zanq : ∀ (bs : List GPriceBoard) (i : Int) (c : List (List Int)) (d : Nat), (∀ b ∈ bs, BOk b ∧ wide b ≤ 7) → 1 ≤ c.length → c.length * 7 ^ bs.length ≤ 2401 → d + bs.length ≤ 4 → (∀ e ∈ c, e.length = d) → zcp bs i c = some (.go (allL bs c))
 | [], i, c, d, _, _, _, _, _ => rfl
 | b :: bs, i, c, d, hb, hc1, hc, hd, he => by
  obtain ⟨ob, hw⟩ := hb b (List.mem_cons_self ..)
  have oh := ob.h
  have hw1 : 1 ≤ wide b := by unfold wide; omega
  simp only [List.length_cons, Nat.pow_succ] at hc hd
  have hp : 1 ≤ 7 ^ bs.length := Nat.pos_of_ne_zero (by simp)
  have hcl : c.length * 7 ≤ 2401 := by
   have : c.length * 7 * 1 ≤ c.length * 7 * 7 ^ bs.length := Nat.mul_le_mul_left _ hp
   have e1 : c.length * 7 * 7 ^ bs.length = c.length * (7 ^ bs.length * 7) := by rw [Nat.mul_assoc, Nat.mul_comm 7]
   omega
  have hfl := zue (b := b) c
  have hn1 : 1 ≤ (c.flatMap fun e => exts e (wide b) b.Hours.Low).length := by
   rw [hfl]; exact Nat.le_trans hc1 (Nat.le_mul_of_pos_right _ hw1)
  simp only [zcp]
  rw [zgj (by omega), zaqw ob hw c 0 [] (fun e h => by have := he e h; omega) (by simp; omega)]
  simp only [cond_true, zkj, List.nil_append]
  have hne : neB (c.flatMap fun e => exts e (wide b) b.Hours.Low) = true := by
   cases hx : (c.flatMap fun e => exts e (wide b) b.Hours.Low) with
   | nil => rw [hx] at hn1; simp at hn1
   | cons => rfl
  rw [hne, cond_true, zanq bs (i + 1) _ (d + 1) (fun b h => hb b (List.mem_cons_of_mem _ h)) hn1 ?_ (by omega) ?_]
  ·rfl
  ·rw [hfl]
   have e1 : c.length * wide b * 7 ^ bs.length ≤ c.length * 7 * 7 ^ bs.length := Nat.mul_le_mul_right _ (Nat.mul_le_mul_left _ hw)
   have e2 : c.length * 7 * 7 ^ bs.length = c.length * (7 ^ bs.length * 7) := by rw [Nat.mul_assoc, Nat.mul_comm 7]
   omega
  ·intro e h
   obtain ⟨x, hx, hxe⟩ := List.mem_flatMap.1 h
   obtain ⟨j, _, _, rfl⟩ := zpn.1 hxe
   have := he x hx
   simp; omega
theorem zaal : ∀ (bs : List GPriceBoard) (c : List (List Int)) (x : List Int), (∀ b ∈ bs, BOk b) → (x ∈ allL bs c ↔ ∃ e ∈ c, ∃ t, x = e ++ t ∧ hrsB bs t = true)
 | [], c, x, _ => by
  constructor
  ·intro h; exact ⟨x, h, [], by simp, rfl⟩
  ·rintro ⟨e, he, t, rfl, ht⟩
   cases t with
   | nil => simpa [allL] using he
   | cons => cases ht
 | b :: bs, c, x, hb => by
  have oh := (hb b (List.mem_cons_self ..)).h
  rw [allL, zaal bs _ x fun b h => hb b (List.mem_cons_of_mem _ h)]
  constructor
  ·rintro ⟨e, he, t, rfl, ht⟩
   obtain ⟨f, hf, hfe⟩ := List.mem_flatMap.1 he
   obtain ⟨i, h1, h2, rfl⟩ := zpn.1 hfe
   refine ⟨f, hf, i :: t, by simp, ?_⟩
   simp only [hrsB, Bool.and_eq_true, zgy]
   exact ⟨⟨h1, by unfold wide at h2; omega⟩, ht⟩
  ·rintro ⟨e, he, t, rfl, ht⟩
   cases t with
   | nil => cases ht
   | cons i t =>
    simp only [hrsB, Bool.and_eq_true, zgy] at ht
    exact ⟨e ++ [i], List.mem_flatMap.2 ⟨e, he, zpn.2 ⟨i, ht.1.1, by unfold wide; omega, rfl⟩⟩, t, by simp, ht.2⟩
theorem zpi : ∀ (bs : List GPriceBoard) (c : List (List Int)) (e : List Int), (∀ b ∈ bs, BOk b) → c.head? = some e → (allL bs c).head? = some (e ++ lows bs)
 | [], c, e, _, h => by simpa [allL, lows] using h
 | b :: bs, c, e, hb, h => by
  have oh := (hb b (List.mem_cons_self ..)).h
  cases c with
  | nil => cases h
  | cons f c =>
   simp only [List.head?_cons, Option.some.injEq] at h
   subst h
   have hw : ∃ m, wide b = m + 1 := ⟨wide b - 1, by unfold wide; omega⟩
   obtain ⟨m, hm⟩ := hw
   rw [allL, zpi bs _ (f ++ [b.Hours.Low]) (fun b h => hb b (List.mem_cons_of_mem _ h)) (by rw [hm]; rfl)]
   simp [lows]
theorem zsv {s : GPriceSheet} (h : sheetB s = true) : ∀ b ∈ s.Boards, BOk b ∧ wide b ≤ 7 := by
 intro b hb
 have h1 := zzn h b hb
 refine ⟨zale h1, ?_⟩
 simp only [boardB, Bool.and_eq_true, zgy] at h1
 obtain ⟨_, _, h3, h4, h5⟩ := h1
 unfold wide
 split at h5 <;> omega
theorem zaus {s : GPriceSheet} (ok : OkS s) (h : sheetB s = true) : zgv s = some (allL s.Boards [[]]) := by
 have hn := (zwd h).1
 have hp : 7 ^ s.Boards.length ≤ 7 ^ 4 := Nat.pow_le_pow_right (by omega) hn.2
 have hh := zpi s.Boards [[]] [] (zia h) rfl
 unfold zgv
 rw [ok.b, zanq s.Boards 0 [[]] 0 (zsv h) (by simp) (by simp; omega) (by omega) (by simp)]
 simp only [cond_true, zkj]
 cases hx : allL s.Boards [[]] with
 | nil => rw [hx] at hh; cases hh
 | cons => rfl
def mxL (f : List Int → Int) : List (List Int) → Int → Int
 | [], h => h
 | l :: p, h => mxL f p (if h < f l then f l else h)
theorem zaoo {f : List Int → Int} {M : Int} : ∀ (p : List (List Int)) (h : Int), (∀ l ∈ p, f l ≤ M) → h ≤ M → mxL f p h ≤ M
 | [], h, _, hm => hm
 | l :: p, h, hp, hm => zaoo p _ (fun l hl => hp l (List.mem_cons_of_mem _ hl)) (by have := hp l (List.mem_cons_self ..); split <;> omega)
theorem zahi {f : List Int → Int} : ∀ (p : List (List Int)) (h : Int), h ≤ mxL f p h
 | [], h => Int.le_refl _
 | l :: p, h => by
  have := zahi (f := f) p (if h < f l then f l else h)
  simp only [mxL]
  split at this <;> split <;> omega
theorem zamj {f : List Int → Int} : ∀ (p : List (List Int)) (h : Int), ∀ l ∈ p, f l ≤ mxL f p h
 | [], _, _, hl => by cases hl
 | l :: p, h, x, hx => by
  simp only [mxL]
  rcases List.mem_cons.1 hx with rfl | hx
  ·have := zahi (f := f) p (if h < f x then f x else h)
   split at this <;> split <;> omega
  ·exact zamj p _ x hx
theorem zacy {s : GPriceSheet} (h : sheetB s = true) {t : GPriceTariff} (ot : TOk t) {m : Int} : ∀ (p : List (List Int)) (i M : Int), (∀ l ∈ p, hrsB s.Boards l = true ∧ m ≤ paidP t s.Boards l) → zdm s t p i m M = some (.go (m, mxL (paidP t s.Boards) p M))
 | [], i, M, _ => rfl
 | l :: p, i, M, hp => by
  have h1 := hp l (List.mem_cons_self ..)
  simp only [zdm, zpk ot (znu h h1.1), Option.bind_some]
  rw [if_neg (show ¬ paidP t s.Boards l < m by omega), zacy h ot p (i + 1) _ fun l hl => hp l (List.mem_cons_of_mem _ hl)]
  rfl
theorem zaeb {s : GPriceSheet} (h : sheetB s = true) : lenOk (allL s.Boards [[]]) = true := by
 have key : ∀ (bs : List GPriceBoard) (c : List (List Int)), (∀ b ∈ bs, wide b ≤ 7) → (allL bs c).length ≤ c.length * 7 ^ bs.length := by
  intro bs
  induction bs with
  | nil => intro c _; simp [allL]
  | cons b bs ih =>
   intro c hb
   have h1 := ih (c.flatMap fun e => exts e (wide b) b.Hours.Low) fun b h => hb b (List.mem_cons_of_mem _ h)
   rw [zue] at h1
   have e1 : c.length * wide b * 7 ^ bs.length ≤ c.length * 7 * 7 ^ bs.length := Nat.mul_le_mul_right _ (Nat.mul_le_mul_left _ (hb b (List.mem_cons_self ..)))
   have e2 : c.length * 7 * 7 ^ bs.length = c.length * (7 ^ bs.length * 7) := by rw [Nat.mul_assoc, Nat.mul_comm 7]
   simp only [allL, List.length_cons, Nat.pow_succ]
   omega
 have h1 := key s.Boards [[]] fun b hb => (zsv h b hb).2
 have hp : 7 ^ s.Boards.length ≤ 7 ^ 4 := Nat.pow_le_pow_right (by omega) (zwd h).1.2
 exact zgj (by simp at h1; omega)
theorem zabx {s : GPriceSheet} (ok : OkS s) (h : sheetB s = true) {t : GPriceTariff} (ot : TOk t) : zgh s t = some ⟨paidP t s.Boards (lows s.Boards), paidP t s.Boards (highs s.Boards)⟩ := by
 have hB := zia h
 have hl := zpc hB
 have hh := zli hB
 have hd := zpi s.Boards [[]] [] hB rfl
 have hm : ∀ l, l ∈ allL s.Boards [[]] ↔ hrsB s.Boards l = true := by
  intro l
  rw [zaal s.Boards _ l hB]
  constructor
  ·rintro ⟨e, he, u, rfl, hu⟩
   rw [List.mem_singleton.1 he]; simpa using hu
  ·intro hx; exact ⟨[], by simp, l, by simp, hx⟩
 have hg : getI (allL s.Boards [[]]) 0 = some (lows s.Boards) := by
  unfold getI
  rw [if_pos (Int.le_refl _)]
  simpa [List.head?_eq_getElem?] using hd
 have hge : ∀ l, hrsB s.Boards l = true → paidP t s.Boards (lows s.Boards) ≤ paidP t s.Boards l ∧ paidP t s.Boards l ≤ paidP t s.Boards (highs s.Boards) := fun l hx =>
  ⟨zwo ot (znu h hl) (znu h hx) (zahe hx), zwo ot (znu h hx) (znu h hh) (zzk hx)⟩
 unfold zgh
 rw [zaus ok h]
 simp only [Option.bind_some, hg, zpk ot (znu h hl)]
 rw [zaeb h, zacy h ot _ 0 _ fun l hx => ⟨(hm l).1 hx, (hge l ((hm l).1 hx)).1⟩]
 simp only [cond_true, zkj]
 have e1 := zaoo (f := paidP t s.Boards) (M := paidP t s.Boards (highs s.Boards)) (allL s.Boards [[]]) (paidP t s.Boards (lows s.Boards)) (fun l hx => (hge l ((hm l).1 hx)).2) (hge _ hl).2
 have e2 := zamj (f := paidP t s.Boards) (allL s.Boards [[]]) (paidP t s.Boards (lows s.Boards)) (highs s.Boards) ((hm _).2 hh)
 rw [Int.le_antisymm e1 e2]
end Go.V
end
