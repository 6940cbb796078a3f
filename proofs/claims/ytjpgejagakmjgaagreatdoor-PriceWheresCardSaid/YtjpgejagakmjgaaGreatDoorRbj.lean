/- Part of a proof. -/
import Derived.Test.YtjpgejagakmjgaaGreatDoorRbh
import Derived.Test.YtjpgejagakmjgaaGreatDoorRbi
set_option linter.all false
set_option maxRecDepth 4000
set_option maxHeartbeats 40000000
section
namespace Go.V
open Go Go.Proofs
def zbs (x0_s : GPriceSheet) (x1_hours : List Int) : List GPriceTariff → Int → Int → Int → Bool → Option (LOut (Unit) (Int × Int × Bool))
 | [], c0_8, c0_o0, c0_o1, c0_o2 => some (.go (c0_o0, c0_o1, c0_o2))
 | e0 :: p0, c0_8, c0_o0, c0_o1, c0_o2 => Option.bind (zbj x0_s e0 x1_hours ([] : List (Gpricebill × Int))) (fun r4 => cond (c0_o2) (cond (decide (r4.1 < c0_o1)) (zbs x0_s x1_hours p0 (c0_8 + 1) c0_8 r4.1 true) (zbs x0_s x1_hours p0 (c0_8 + 1) c0_o0 c0_o1 true)) (zbs x0_s x1_hours p0 (c0_8 + 1) c0_8 r4.1 true))
def zde (x0_s : GPriceSheet) (x1_hours : List Int) : Option (Int × Int × Int) := Option.bind (zcm x0_s) (fun r1 => cond (r1) (Option.bind (zbw x0_s x1_hours) (fun r2 => cond (r2) (cond (lenOk x0_s.Tariffs) (lbind (zbs x0_s x1_hours x0_s.Tariffs 0 0 0 false) (fun r6 => some (0, 0, 0)) (fun c5 => some (c5.1, c5.2.1, 0)) (fun _ _ => none)) none) (some (0, 0, 2)))) (some (0, 0, 2)))
theorem ziu (x0_s : GPriceSheet) (x1_hours : List Int) (R : Int × Int × Int) (h : zde x0_s x1_hours = some R) : VPure Tryz.prog G0 45 [.agg (cGPriceSheet x0_s), .sl (cellsL eI x1_hours) (List.length x1_hours) false] (.tree (.tup [.lit (.int .i64 R.1), .lit (.int .i64 R.2.1), .lit (.int .i64 R.2.2)])) := by
 refine VPure.runR mixed Tryz.call45 Tryz.func45 rfl (by simp [Tryz.ntmps45]; kernel_rfl) ?_
 obtain ⟨KF, h, kF, kN⟩ := zal h
 simp only [zde] at h
 obtain ⟨r7, o8, h⟩ := optI h kN
 try simp only [hs] at h
 simp only [vz, mq, mqm, vsi, tyf, mqt, nm, seval]
 refine ktree (args0 := [.agg (cGPriceSheet x0_s)]) (by first | (simp only [nrm, tynrm, @zav] <;> rfl) | rfl) (by simp only [tre, tytre, mqr, Bool.and_self]) (zdq _ _ o8) ?_
 refine zah (fun tm => tm 1 = .sl (cellsL eI x1_hours) (List.length x1_hours) false ∧ tm 2 = .ptr 0 0 ∧ tm 10 = .lit (.bool r7) ∧ True) (by refine ⟨?_, ?_, ?_, trivial⟩ <;> first | (simp only [ua, zaq, nm, seval] <;> rfl) | rfl) ?_
 rintro tm ⟨e9, e10, e11, _⟩
 cases d12 : (r7)
 ·simp only [d12, hs] at h
  try simp only [vz, mq, mqm, vsi, tyf, mqt, e9, e10, e11, d12, nm, seval]
  refine zao (x := (.tup [.lit (.int .i64 0), .lit (.int .i64 0), .lit (.int .i64 2)])) (by first | (simp only [Tryz.results45, resV, resL, resV1, zan, zbd, uw, cr, tyf, mqt, d12, nm, seval] <;> rfl) | rfl) ?_
  obtain rfl := kF _ h
  refine zaz ?_ ?_
  ·simp only [tre, tytre, mqr, Bool.and_self]
  ·first | (simp only [outV, uw, zai, cr, tyf, mqt, nrm, tynrm, e9, e10, e11, d12, nm, seval] <;> rfl) | rfl
 simp only [d12, hs] at h
 obtain ⟨r13, o14, h⟩ := optI h kN
 try simp only [hs] at h
 simp only [vz, mq, mqm, vsi, tyf, mqt, e9, e10, e11, d12, nm, seval]
 refine ktree (args0 := [.agg (cGPriceSheet x0_s), .sl (cellsL eI x1_hours) (List.length x1_hours) false]) (by first | (simp only [nrm, tynrm, @zav] <;> rfl) | rfl) (by simp only [tre, tytre, mqr, Bool.and_self]) (zdl _ _ _ o14) ?_
 refine zah (fun tm => tm 1 = .sl (cellsL eI x1_hours) (List.length x1_hours) false ∧ tm 2 = .ptr 0 0 ∧ tm 12 = .lit (.bool false) ∧ tm 15 = .lit (.bool r13) ∧ True) (by refine ⟨e9, e10, ?_, ?_, trivial⟩ <;> first | (simp only [ua, zaq, e9, e10, e11, d12, nm, seval] <;> rfl) | rfl) ?_
 rintro tm ⟨e15, e16, e17, e18, _⟩
 cases d19 : (r13)
 ·simp only [d19, hs] at h
  try simp only [vz, mq, mqm, vsi, tyf, mqt, d12, e15, e16, e17, e18, d19, nm, seval]
  refine zao (x := (.tup [.lit (.int .i64 0), .lit (.int .i64 0), .lit (.int .i64 2)])) (by first | (simp only [Tryz.results45, resV, resL, resV1, zan, zbd, uw, cr, tyf, mqt, d12, d19, nm, seval] <;> rfl) | rfl) ?_
  obtain rfl := kF _ h
  refine zaz ?_ ?_
  ·simp only [tre, tytre, mqr, Bool.and_self]
  ·first | (simp only [outV, uw, zai, cr, tyf, mqt, nrm, tynrm, d12, e15, e16, e17, e18, d19, nm, seval] <;> rfl) | rfl
 simp only [d19, hs] at h
 try simp only [vz, mq, mqm, vsi, tyf, mqt, d12, e15, e16, e17, e18, d19, nm, seval]
 refine kopen ?_
 rw [zhq]
 refine VOpen.run mixed Tryz.call83 Tryz.func83 rfl (by simp [Tryz.ntmps83]; kernel_rfl) ?_
 try simp only [vz, mq, mqm, vsi, tyf, mqt, d12, d19, nm, seval]
 refine zao (x := (VV.fn (Fn.func 112) [] [.ptr 23 0, .ptr 24 0])) (by first | (simp only [Tryz.results83, resV, resL, resV1, zan, zbd, uw, cr, tyf, mqt, d12, d19, nm, seval] <;> rfl) | rfl) ?_
 try simp only [vz, mq, mqm, vsi, tyf, mqt, d12, d19, e15, e16, e17, e18, nm, seval]
 refine kopen ?_
 rw [zhq]
 refine VOpen.run mixed Tryz.call82 Tryz.func82 rfl (by simp [Tryz.ntmps82]; kernel_rfl) ?_
 try simp only [vz, mq, mqm, vsi, tyf, mqt, d12, d19, nm, seval]
 refine zacj (f := 112) (first := []) (captured := [.ptr 23 0, .ptr 24 0]) (by first | (simp only [zaql, zakj, d12, d19, zsk, nm, seval] <;> rfl) | rfl) ?_
 intro LO20 hLO20
 refine VOpen.run mixed Tryz.call112 Tryz.func112 rfl (by simp [Tryz.ntmps112]; kernel_rfl) ?_
 cases g22 : (lenOk x0_s.Tariffs)
 ·simp only [g22, hs] at h
  exact absurd h kN
 simp only [g22, hs] at h
 simp only [vz, mq, mqm, vsi, tyf, mqt, d12, d19, g22, nm, seval]
 obtain ⟨K21, h, kR21, kG21, kB21, kN21⟩ := zbl h kN
 obtain ⟨f21, hf21, h⟩ := call5 h
 obtain ⟨I21, hI21⟩ : ∃ I : Nat → St → Prop, I = (fun m st => ∃ (p21 : List GPriceTariff) (c21_8 : Int) (c21_o0 : Int) (c21_o1 : Int) (c21_o2 : Bool), m = List.length p21 ∧ 0 ≤ c21_8 ∧ List.drop (Int.toNat c21_8) x0_s.Tariffs = p21 ∧ st.df = [] ∧ 41 ≤ st.nx ∧ st.H 23 = some (.cells (some 26) (cGPriceSheet x0_s)) ∧ st.H 24 = some (.cells (some 22) ([.sl (cellsL eI x1_hours) (List.length x1_hours) false])) ∧ st.H 28 = some (.cells (some 110) ([VV.fn (Fn.func 84) [] []])) ∧ st.H 29 = some (.cells (some 104) ([.lit (.int .i64 0)] ++ [.lit (.int .i64 0)])) ∧ st.H 31 = some (.cells (some 104) ([.lit (.int .i64 c21_o0)] ++ [.lit (.int .i64 c21_o1)])) ∧ st.H 32 = some (.cells (some 4) ([.lit (.bool c21_o2)])) ∧ st.H 35 = some (.deferred (some [])) ∧ st.H 36 = some LO20 ∧ st.tm 0 = .yl 36 ∧ st.tm 1 = .ptr 23 0 ∧ st.tm 2 = .ptr 24 0 ∧ st.tm 7 = .lit (.int .i64 (List.length x0_s.Tariffs : Int)) ∧ st.tm 8 = .lit (.int .i64 c21_8) ∧ K21 (f21 p21 c21_8 c21_o0 c21_o1 c21_o2)) := ⟨_, rfl⟩
 refine loopK mixed (by kernel_rfl) I21 (List.length x0_s.Tariffs) (by rw [hI21]; refine ⟨x0_s.Tariffs, 0, 0, 0, false, rfl, Int.le_refl _, rfl, rfl, (show 41 ≤ 41 by omega), ?_, ?_, ?_, ?_, ?_, ?_, ?_, ?_, ?_, ?_, ?_, ?_, ?_, h⟩ <;> first | (simp only [ua, zaq, d12, d19, nm, seval] <;> rfl) | rfl) ?_
 rintro m ⟨tm, H, nx21, df⟩ hinv
 rw [hI21] at hinv
 obtain ⟨p21, c21_8, c21_o0, c21_o1, c21_o2, rfl, hi21, hp21, hdf, hn21, H23, H24, H25, H26, H27, H28, H29, H30, e31, e32, e33, e34, e35, h⟩ := hinv
 simp only at hdf hn21 H23 H24 H25 H26 H27 H28 H29 H30 e31 e32 e33 e34 e35
 have n36 := zdv (m := 41) (b := nx21) (by omega)
 subst hdf hf21
 cases p21 with
 | nil =>
  have d37 : (decide (c21_8 < (List.length x0_s.Tariffs : Int))) = false := zap hi21 hp21
  simp only [zbs, hs, reduceCtorEq] at h
  replace h := kG21 _ h
  try dsimp only at h
  try simp only [hs] at h
  try simp only [vz, mq, mqm, vsi, tyf, mqt, d12, d19, g22, n36, e31, e32, e33, e34, e35, H23, H24, H25, H26, H27, H28, H29, H30, d37, nm, seval]
  refine zaet (x := .tup []) (by simp [Tryz.results112, resV, resL]) ?_
  refine zabl hLO20 (by simp only [zad, zab, n36, H23, H24, H25, H26, H27, H28, H29, H30, nm, seval] <;> rfl) ?_
  intro LX38
  simp only [vz, mq, mqm, vsi, tyf, mqt, d12, d19, g22, n36, H23, H24, H25, H26, H27, H28, H29, H30, d37, nm, seval]
  refine zcr (fun tm => tm 4 = .ptr 29 0 ∧ tm 6 = .ptr 31 0 ∧ tm 7 = .ptr 32 0 ∧ True) (by refine ⟨?_, ?_, ?_, trivial⟩ <;> first | (simp only [ua, zaq, d12, d19, n36, H23, H24, H25, H26, H27, H28, H29, H30, d37, nm, seval] <;> rfl) | rfl) ?_
  rintro tm ⟨e39, e40, e41, _⟩
  have b42 := And.intro d12 (And.intro d19 (And.intro g22 (And.intro n36 (And.intro H23 (And.intro H24 (And.intro H25 (And.intro H26 (And.intro H27 (And.intro H28 (And.intro H29 (And.intro H30 d37)))))))))))
  simp only [vz, mq, mqm, vsi, tyf, mqt, b42, e39, e40, e41, nm, seval]
  refine zdn ⟨?_, ?_⟩
  ·simp only [zca, zct, zay, zeo, and_true, true_and]
   repeat' (first | exact trivial | refine And.intro ?_ ?_ | rw [zay] | rw [zdm] | exact Or.inl (by decide +kernel) | exact Or.inl (by dsimp only; decide +kernel) | (refine Or.inr ⟨?_, ?_⟩ <;> simp; done) | (refine Or.inr ⟨?_, ?_⟩ <;> simp <;> omega) | (refine Or.inr ⟨?_, ?_⟩ <;> simp [VEff.wr] <;> omega))
  try simp only [vz, mq, mqm, vsi, tyf, mqt, b42, e39, e40, e41, nm, seval]
  refine zano (by simp only [zad, zab, b42, nm, seval] <;> rfl) ?_
  try simp only [vz, mq, mqm, vsi, tyf, mqt, b42, e39, e40, e41, nm, seval]
  refine zao (x := (.tup [.agg ([.lit (.int .i64 c21_o0)] ++ [.lit (.int .i64 c21_o1)]), .lit (.bool c21_o2)])) (by first | (simp only [Tryz.results82, resV, resL, resV1, zan, zbd, uw, cr, tyf, mqt, b42, e39, e40, e41, nm, seval] <;> rfl) | rfl) ?_
  simp only [vz, mq, mqm, vsi, tyf, mqt, b42, e15, e16, e17, e18, nm, seval]
  refine zdt (fun tm => tm 7 = .ptr 20 0 ∧ True) (by refine ⟨?_, trivial⟩ <;> first | (simp only [ua, zaq, b42, e15, e16, e17, e18, nm, seval] <;> rfl) | rfl) ?_
  rintro tm ⟨e43, _⟩
  try simp only [vz, mq, mqm, vsi, tyf, mqt, b42, e43, nm, seval]
  refine zao (x := (.tup [.lit (.int .i64 c21_o0), .lit (.int .i64 c21_o1), .lit (.int .i64 0)])) (by first | (simp only [Tryz.results45, resV, resL, resV1, zan, zbd, uw, cr, tyf, mqt, b42, nm, seval] <;> rfl) | rfl) ?_
  obtain rfl := kF _ h
  refine zaz ?_ ?_
  ·simp only [tre, tytre, mqr, Bool.and_self]
  ·first | (simp only [outV, uw, zai, cr, tyf, mqt, nrm, tynrm, b42, e43, nm, seval] <;> rfl) | rfl
 | cons e21 p21 =>
  have d44 : (decide (c21_8 < (List.length x0_s.Tariffs : Int))) = true := zbg hi21 hp21
  have o46 := zam hi21 hp21
  have w45 := zbu hi21 hp21 g22
  simp only [zbs, hs, reduceCtorEq] at h
  try simp only [vz, mq, mqm, vsi, tyf, mqt, d12, d19, g22, n36, e31, e32, e33, e34, e35, H23, H24, H25, H26, H27, H28, H29, H30, d44, (ix24 o46), w45, nm, seval]
  refine kopen ?_
  rw [zhq]
  refine VOpen.run mixed Tryz.call66 Tryz.func66 rfl (by simp [Tryz.ntmps66]; kernel_rfl) ?_
  simp only [vz, mq, mqm, vsi, tyf, mqt, d12, d19, g22, n36, H23, H24, H25, H26, H27, H28, H29, H30, d44, (ix24 o46), w45, nm, seval]
  refine zcr (fun tm => tm 1 = .lit (.int .i64 c21_8) ∧ tm 2 = .sl (cellsL eI x1_hours) (List.length x1_hours) false ∧ tm 3 = .ptr (nx21 + 13) 0 ∧ tm 6 = .ptr (nx21 + 14) 0 ∧ True) (by refine ⟨?_, ?_, ?_, ?_, trivial⟩ <;> first | (simp only [ua, zaq, d12, d19, n36, H23, H24, H25, H26, H27, H28, H29, H30, d44, w45, nm, seval] <;> rfl) | rfl) ?_
  rintro tm ⟨e47, e48, e49, e50, _⟩
  have b51 := And.intro d12 (And.intro d19 (And.intro g22 (And.intro n36 (And.intro H23 (And.intro H24 (And.intro H25 (And.intro H26 (And.intro H27 (And.intro H28 (And.intro H29 (And.intro H30 (And.intro d44 w45))))))))))))
  simp only [vz, mq, mqm, vsi, tyf, mqt, b51, (ix24 o46), e47, e48, e49, e50, nm, seval]
  refine zdn ⟨?_, ?_⟩
  ·simp only [zca, zct, zay, zeo, and_true, true_and]
   repeat' (first | exact trivial | refine And.intro ?_ ?_ | rw [zay] | rw [zdm] | exact Or.inl (by decide +kernel) | exact Or.inl (by dsimp only; decide +kernel) | (refine Or.inr ⟨?_, ?_⟩ <;> simp; done) | (refine Or.inr ⟨?_, ?_⟩ <;> simp <;> omega) | (refine Or.inr ⟨?_, ?_⟩ <;> simp [VEff.wr] <;> omega))
  try simp only [vz, mq, mqm, vsi, tyf, mqt, b51, (ix24 o46), e47, e48, e49, e50, nm, seval]
  refine zao (x := (.agg ((cGPriceSheet x0_s) ++ (cGPriceTariff e21) ++ [.sl (cellsL eI x1_hours) (List.length x1_hours) false] ++ [.mp (nx21 + 22)]))) (by first | (simp only [Tryz.results66, resV, resL, resV1, zan, zbd, uw, cr, tyf, mqt, b51, (ix24 o46), e47, e48, e49, e50, nm, seval] <;> rfl) | rfl) ?_
  obtain ⟨r52, o53, h⟩ := optI h kN21
  try simp only [hs] at h
  simp only [vz, mq, mqm, vsi, tyf, mqt, b51, (ix24 o46), e31, e32, e33, e34, e35, nm, seval]
  refine kupd (VUpd.at (β := nx21 + 22) (y := (fun _ => .lit (.int .i64 r52.1))) (zbz _ _ _ _ _ o53) (by omega) (by first | rfl | assumption | (simp only [zad, zab, b51, nm, seval] <;> rfl)) (by first | rfl | (simp only [nrm, tynrm, @zav, @zgc] <;> rfl)) (zfi (fun _ => rfl) _)) ?_
  refine zgb (fun tm => tm 0 = .yl 36 ∧ tm 1 = .ptr 23 0 ∧ tm 2 = .ptr 24 0 ∧ tm 7 = .lit (.int .i64 (List.length x0_s.Tariffs : Int)) ∧ tm 8 = .lit (.int .i64 c21_8) ∧ tm 11 = .yl 36 ∧ tm 12 = .lit (.int .i64 c21_8) ∧ tm 17 = .lit (.int .i64 r52.1) ∧ True) (by refine ⟨e31, e32, e33, e34, e35, ?_, ?_, ?_, trivial⟩ <;> first | (simp only [ua, zaq, b51, e31, e32, e33, e34, e35, nm, seval] <;> rfl) | rfl) ?_
  rintro tm ⟨e54, e55, e56, e57, e58, e59, e60, e61, _⟩
  try simp only [vz, mq, mqm, vsi, tyf, mqt, b51, (ix24 o46), e54, e55, e56, e57, e58, e59, e60, e61, rg, nm, seval]
  refine zadv mixed (psl := [10]) hLO20 (by simp only [zad, zab, b51, nm, seval] <;> rfl) zafu rfl (by kernel_rfl) (by kernel_rfl) ?_
  intro LB62 LD62 hLB62 hLD62
  refine zaka (fun tm => tm 3 = .ptr 28 0 ∧ tm 6 = .ptr 31 0 ∧ tm 7 = .ptr 32 0 ∧ tm 10 = .agg ([.lit (.int .i64 c21_8)] ++ [.lit (.int .i64 r52.1)]) ∧ True) (by refine ⟨?_, ?_, ?_, ?_, trivial⟩ <;> (simp only [zaof, zajm, Tryz.ntmps82, e54, e55, e56, e57, e58, e59, e60, e61, nm, seval] <;> first | rfl | trivial)) ?_
  rintro tm ⟨e63, e64, e65, e66, _⟩
  try simp only [vz, mq, mqm, vsi, tyf, mqt, b51, (ix24 o46), e63, e64, e65, e66, nm, seval]
  rw [zxx (by simp only [zad, zab, b51, nm, seval] <;> rfl)]
  cases d67 : (c21_o2)
  ·simp only [d67, hs] at h
   try simp only [vz, mq, mqm, vsi, tyf, mqt, b51, (ix24 o46), e63, e64, e65, e66, d67, nm, seval]
   rw [zpv (by simp only [zad, zab, b51, nm, seval] <;> rfl)]
   simp only [vz, mq, mqm, vsi, tyf, mqt, b51, (ix24 o46), d67, e54, e55, e56, e57, e58, e59, e60, e61, nm, seval]
   exact ⟨List.length p21, Nat.lt_succ_self _, by rw [hI21]; refine ⟨p21, c21_8 + 1, c21_8, r52.1, true, rfl, Int.le_trans hi21 (Int.le_add_one (Int.le_refl _)), zba hi21 hp21, rfl, (show 41 ≤ nx21 + 40 by omega), ?_, ?_, ?_, ?_, ?_, ?_, ?_, ?_, e54, e55, e56, e57, ?_, (by first | exact h | (simp only [b51, d67]; exact h))⟩ <;> first | (simp only [ua, zaq, b51, d67, e54, e55, e56, e57, e58, e59, e60, e61, nm, seval] <;> rfl) | rfl⟩
  simp only [d67, hs] at h
  try simp only [vz, mq, mqm, vsi, tyf, mqt, b51, (ix24 o46), e63, e64, e65, e66, d67, nm, seval]
  refine kopen ?_
  rw [zhq]
  refine VOpen.run mixed Tryz.call84 Tryz.func84 rfl (by simp [Tryz.ntmps84]; kernel_rfl) ?_
  try simp only [vz, mq, mqm, vsi, tyf, mqt, b51, (ix24 o46), d67, nm, seval]
  refine zao (x := (.lit (.bool (decide (r52.1 < c21_o1))))) (by first | (simp only [Tryz.results84, resV, resL, resV1, zan, zbd, uw, cr, tyf, mqt, b51, (ix24 o46), d67, nm, seval] <;> rfl) | rfl) ?_
  cases d68 : (decide (r52.1 < c21_o1))
  ·simp only [d68, hs] at h
   try simp only [vz, mq, mqm, vsi, tyf, mqt, b51, (ix24 o46), d67, e63, e64, e65, e66, d68, nm, seval]
   rw [zpv (by simp only [zad, zab, b51, nm, seval] <;> rfl)]
   simp only [vz, mq, mqm, vsi, tyf, mqt, b51, (ix24 o46), d67, d68, e54, e55, e56, e57, e58, e59, e60, e61, nm, seval]
   exact ⟨List.length p21, Nat.lt_succ_self _, by rw [hI21]; refine ⟨p21, c21_8 + 1, c21_o0, c21_o1, true, rfl, Int.le_trans hi21 (Int.le_add_one (Int.le_refl _)), zba hi21 hp21, rfl, (show 41 ≤ nx21 + 46 by omega), ?_, ?_, ?_, ?_, ?_, ?_, ?_, ?_, e54, e55, e56, e57, ?_, (by first | exact h | (simp only [b51, d67, d68]; exact h))⟩ <;> first | (simp only [ua, zaq, b51, d67, d68, e54, e55, e56, e57, e58, e59, e60, e61, nm, seval] <;> rfl) | rfl⟩
  simp only [d68, hs] at h
  try simp only [vz, mq, mqm, vsi, tyf, mqt, b51, (ix24 o46), d67, e63, e64, e65, e66, d68, nm, seval]
  rw [zpv (by simp only [zad, zab, b51, nm, seval] <;> rfl)]
  simp only [vz, mq, mqm, vsi, tyf, mqt, b51, (ix24 o46), d67, d68, e54, e55, e56, e57, e58, e59, e60, e61, nm, seval]
  exact ⟨List.length p21, Nat.lt_succ_self _, by rw [hI21]; refine ⟨p21, c21_8 + 1, c21_8, r52.1, true, rfl, Int.le_trans hi21 (Int.le_add_one (Int.le_refl _)), zba hi21 hp21, rfl, (show 41 ≤ nx21 + 49 by omega), ?_, ?_, ?_, ?_, ?_, ?_, ?_, ?_, e54, e55, e56, e57, ?_, (by first | exact h | (simp only [b51, d67, d68]; exact h))⟩ <;> first | (simp only [ua, zaq, b51, d67, d68, e54, e55, e56, e57, e58, e59, e60, e61, nm, seval] <;> rfl) | rfl⟩
def zdz (r4 : List Int) : List Int → Int → Option (LOut (Int × Bool) (Unit))
 | [], c0_12 => some (.go ())
 | e0 :: p0, c0_12 => Option.bind (getI r4 c0_12) (fun x5 => cond (e0 != x5) (some (.ret (c0_12, true))) (zdz r4 p0 (c0_12 + 1)))
def zhm (x0_s : GPriceSheet) (x1_one : Int) (x2_other : Int) (x3_hours : List Int) : Option (Int × Bool) := Option.bind (getI x0_s.Tariffs x1_one) (fun x1 => Option.bind (zem x0_s x1 x3_hours) (fun r2 => Option.bind (getI x0_s.Tariffs x2_other) (fun x3 => Option.bind (zem x0_s x3 x3_hours) (fun r4 => cond (lenOk r2) (lbind (zdz r4 r2 0) (fun r7 => some r7) (fun c6 => some (0, false)) (fun _ _ => none)) none))))
theorem zpd (x0_s : GPriceSheet) (x1_one : Int) (x2_other : Int) (x3_hours : List Int) (R : Int × Bool) (h : zhm x0_s x1_one x2_other x3_hours = some R) : VPure Tryz.prog G0 47 [.agg (cGPriceSheet x0_s), .lit (.int .i64 x1_one), .lit (.int .i64 x2_other), .sl (cellsL eI x3_hours) (List.length x3_hours) false] (.tree (.tup [.lit (.int .i64 R.1), .lit (.bool R.2)])) := by
 refine VPure.runR mixed Tryz.call47 Tryz.func47 rfl (by simp [Tryz.ntmps47]; kernel_rfl) ?_
 obtain ⟨KF, h, kF, kN⟩ := zal h
 simp only [zhm] at h
 simp only [vz, tyf, nm, seval]
 refine zdt (fun tm => tm 1 = .lit (.int .i64 x1_one) ∧ tm 2 = .lit (.int .i64 x2_other) ∧ tm 3 = .sl (cellsL eI x3_hours) (List.length x3_hours) false ∧ tm 4 = .ptr 0 0 ∧ True) (by refine ⟨?_, ?_, ?_, ?_, trivial⟩ <;> first | (simp only [ua, nm, seval] <;> rfl) | rfl) ?_
 rintro tm ⟨e8, e9, e10, e11, _⟩
 obtain ⟨x12, o13, h⟩ := optI h kN
 try simp only [hs] at h
 obtain ⟨r14, o15, h⟩ := optI h kN
 try simp only [hs] at h
 simp only [vz, tyf, e8, e9, e10, e11, (ix24 o13), nm, seval]
 refine dktA (zgs _ _ _ _ o15) ?_
 refine zah (fun tm => tm 2 = .lit (.int .i64 x2_other) ∧ tm 3 = .sl (cellsL eI x3_hours) (List.length x3_hours) false ∧ tm 4 = .ptr 0 0 ∧ tm 20 = .sl (cellsL eI r14) (List.length r14) false ∧ True) (by refine ⟨e9, e10, e11, ?_, trivial⟩ <;> first | (simp only [ua, e8, e9, e10, e11, nm, seval] <;> rfl) | rfl) ?_
 rintro tm ⟨e16, e17, e18, e19, _⟩
 obtain ⟨x20, o21, h⟩ := optI h kN
 try simp only [hs] at h
 obtain ⟨r22, o23, h⟩ := optI h kN
 try simp only [hs] at h
 simp only [vz, tyf, (ix24 o13), e16, e17, e18, e19, (ix24 o21), nm, seval]
 refine dktA (zgs _ _ _ _ o23) ?_
 refine zah (fun tm => tm 20 = .sl (cellsL eI r14) (List.length r14) false ∧ tm 28 = .sl (cellsL eI r22) (List.length r22) false ∧ True) (by refine ⟨e19, ?_, trivial⟩ <;> first | (simp only [ua, e16, e17, e18, e19, nm, seval] <;> rfl) | rfl) ?_
 rintro tm ⟨e24, e25, _⟩
 cases g27 : (lenOk r14)
 ·simp only [g27, hs] at h
  exact absurd h kN
 simp only [g27, hs] at h
 simp only [vz, tyf, (ix24 o13), (ix24 o21), e24, e25, g27, nm, seval]
 obtain ⟨K26, h, kR26, kG26, kB26, kN26⟩ := zbl h kN
 obtain ⟨f26, hf26, h⟩ := call2 h
 obtain ⟨I26, hI26⟩ : ∃ I : Nat → St → Prop, I = (fun m st => ∃ (p26 : List Int) (c26_12 : Int), m = List.length p26 ∧ 0 ≤ c26_12 ∧ List.drop (Int.toNat c26_12) r14 = p26 ∧ st.df = [] ∧ 22 ≤ st.nx ∧ st.tm 10 = .sl (cellsL eI r14) (List.length r14) false ∧ st.tm 11 = .sl (cellsL eI r22) (List.length r22) false ∧ st.tm 12 = .lit (.int .i64 c26_12) ∧ K26 (f26 p26 c26_12)) := ⟨_, rfl⟩
 refine loopK mixed (by kernel_rfl) I26 (List.length r14) (by rw [hI26]; refine ⟨r14, 0, rfl, Int.le_refl _, rfl, rfl, (show 22 ≤ 22 by omega), ?_, ?_, ?_, h⟩ <;> first | (simp only [ua, e24, e25, nm, seval] <;> rfl) | rfl) ?_
 rintro m ⟨tm, H, nx26, df⟩ hinv
 rw [hI26] at hinv
 obtain ⟨p26, c26_12, rfl, hi26, hp26, hdf, hn26, e28, e29, e30, h⟩ := hinv
 simp only at hdf hn26 e28 e29 e30
 have n31 := zdv (m := 22) (b := nx26) (by omega)
 subst hdf hf26
 cases p26 with
 | nil =>
  have d32 : (decide (c26_12 < (List.length r14 : Int))) = false := zap hi26 hp26
  simp only [zdz, hs, reduceCtorEq] at h
  replace h := kG26 _ h
  try dsimp only at h
  try simp only [hs] at h
  try simp only [vz, tyf, (ix24 o13), (ix24 o21), g27, n31, e28, e29, e30, d32, nm, seval]
  refine zao (x := (.tup [.lit (.int .i64 0), .lit (.bool false)])) (by first | (simp only [Tryz.results47, resV, resL, resV1, zan, zbd, uw, cr, tyf, (ix24 o13), (ix24 o21), g27, n31, d32, nm, seval] <;> rfl) | rfl) ?_
  obtain rfl := kF _ h
  refine zaz ?_ ?_
  ·simp only [tre, tytre, Bool.and_self]
  ·first | (simp only [outV, uw, zai, cr, tyf, nrm, tynrm, (ix24 o13), (ix24 o21), g27, n31, e28, e29, e30, d32, nm, seval] <;> rfl) | rfl
 | cons e26 p26 =>
  have d33 : (decide (c26_12 < (List.length r14 : Int))) = true := zbg hi26 hp26
  have o35 := zam hi26 hp26
  have w34 := zbu hi26 hp26 g27
  simp only [zdz, hs, reduceCtorEq] at h
  simp only [vz, tyf, (ix24 o13), (ix24 o21), g27, n31, e28, e29, e30, d33, (ix22 o35), w34, nm, seval]
  refine zdt (fun tm => tm 10 = .sl (cellsL eI r14) (List.length r14) false ∧ tm 11 = .sl (cellsL eI r22) (List.length r22) false ∧ tm 12 = .lit (.int .i64 c26_12) ∧ True) (by refine ⟨e28, e29, e30, trivial⟩ <;> first | (simp only [ua, n31, e28, e29, e30, d33, w34, nm, seval] <;> rfl) | rfl) ?_
  rintro tm ⟨e36, e37, e38, _⟩
  obtain ⟨x39, o40, h⟩ := optI h kN26
  try simp only [hs] at h
  cases d41 : (e26 != x39)
  ·simp only [d41, hs] at h
   simp only [vz, tyf, (ix24 o13), (ix24 o21), g27, n31, d33, (ix22 o35), w34, e36, e37, e38, (ix22 o40), d41, nm, seval]
   exact ⟨List.length p26, Nat.lt_succ_self _, by rw [hI26]; refine ⟨p26, c26_12 + 1, rfl, Int.le_trans hi26 (Int.le_add_one (Int.le_refl _)), zba hi26 hp26, rfl, (show 22 ≤ nx26 + 16 by omega), e36, e37, ?_, (by first | exact h | (simp only [d33, d41]; exact h))⟩ <;> first | (simp only [ua, n31, d33, w34, e36, e37, e38, d41, nm, seval] <;> rfl) | rfl⟩
  simp only [d41, hs] at h
  try simp only [vz, tyf, (ix24 o13), (ix24 o21), g27, n31, d33, (ix22 o35), w34, e36, e37, e38, (ix22 o40), d41, nm, seval]
  refine zao (x := (.tup [.lit (.int .i64 c26_12), .lit (.bool true)])) (by first | (simp only [Tryz.results47, resV, resL, resV1, zan, zbd, uw, cr, tyf, (ix24 o13), (ix24 o21), g27, n31, d33, (ix22 o35), w34, (ix22 o40), d41, nm, seval] <;> rfl) | rfl) ?_
  replace h := kR26 _ h
  try dsimp only at h
  obtain rfl := kF _ h
  refine zaz ?_ ?_
  ·simp only [tre, tytre, Bool.and_self]
  ·first | (simp only [outV, uw, zai, cr, tyf, nrm, tynrm, (ix24 o13), (ix24 o21), g27, n31, d33, (ix22 o35), w34, e36, e37, e38, (ix22 o40), d41, nm, seval] <;> rfl) | rfl
def zcp (x0_s : GPriceSheet) (x1_hours : List Int) : List GPriceTariff → Int → Int → Int → Option (LOut (Int × Int) (Int × Int))
 | [], c0_8, c0_6, c0_7 => some (.go (c0_6, c0_7))
 | e0 :: p0, c0_8, c0_6, c0_7 => Option.bind (zfh x0_s e0 x1_hours) (fun r3 => cond (decide (r3 < c0_7)) (zcp x0_s x1_hours p0 (c0_8 + 1) c0_8 r3) (zcp x0_s x1_hours p0 (c0_8 + 1) c0_6 c0_7))
def zfk (x0_s : GPriceSheet) (x1_hours : List Int) : Option (Int × Int) := Option.bind (getI x0_s.Tariffs 0) (fun x1 => Option.bind (zfh x0_s x1 x1_hours) (fun r2 => cond (lenOk x0_s.Tariffs) (cond (leB 0 1) (lbind (zcp x0_s x1_hours (List.drop (Int.toNat 1) x0_s.Tariffs) 1 0 r2) (fun r5 => some r5) (fun c4 => some (c4.1, c4.2)) (fun _ _ => none)) none) none))
theorem zli (x0_s : GPriceSheet) (x1_hours : List Int) (R : Int × Int) (h : zfk x0_s x1_hours = some R) : VPure Tryz.prog G0 46 [.agg (cGPriceSheet x0_s), .sl (cellsL eI x1_hours) (List.length x1_hours) false] (.tree (.tup [.lit (.int .i64 R.1), .lit (.int .i64 R.2)])) := by
 refine VPure.runR mixed Tryz.call46 Tryz.func46 rfl (by simp [Tryz.ntmps46]; kernel_rfl) ?_
 obtain ⟨KF, h, kF, kN⟩ := zal h
 simp only [zfk] at h
 simp only [vz, tyf, nm, seval]
 refine zdt (fun tm => tm 1 = .sl (cellsL eI x1_hours) (List.length x1_hours) false ∧ tm 2 = .ptr 0 0 ∧ True) (by refine ⟨?_, ?_, trivial⟩ <;> first | (simp only [ua, nm, seval] <;> rfl) | rfl) ?_
 rintro tm ⟨e6, e7, _⟩
 obtain ⟨x8, o9, h⟩ := optI h kN
 try simp only [hs] at h
 obtain ⟨r10, o11, h⟩ := optI h kN
 try simp only [hs] at h
 simp only [vz, tyf, e6, e7, (ix24 o9), nm, seval]
 refine dktA (zgv _ _ _ _ o11) ?_
 refine zah (fun tm => tm 1 = .sl (cellsL eI x1_hours) (List.length x1_hours) false ∧ tm 2 = .ptr 0 0 ∧ tm 16 = .lit (.int .i64 r10) ∧ True) (by refine ⟨e6, e7, ?_, trivial⟩ <;> first | (simp only [ua, e6, e7, nm, seval] <;> rfl) | rfl) ?_
 rintro tm ⟨e12, e13, e14, _⟩
 cases g16 : (lenOk x0_s.Tariffs)
 ·simp only [g16, hs] at h
  exact absurd h kN
 simp only [g16, hs] at h
 cases g17 : (leB 0 1)
 ·simp only [g17, hs] at h
  exact absurd h kN
 simp only [g17, hs] at h
 simp only [vz, tyf, (ix24 o9), e12, e13, e14, g16, g17, nm, seval]
 obtain ⟨K15, h, kR15, kG15, kB15, kN15⟩ := zbl h kN
 obtain ⟨f15, hf15, h⟩ := call4 h
 obtain ⟨I15, hI15⟩ : ∃ I : Nat → St → Prop, I = (fun m st => ∃ (p15 : List GPriceTariff) (c15_8 : Int) (c15_6 : Int) (c15_7 : Int), m = List.length p15 ∧ 0 ≤ c15_8 ∧ List.drop (Int.toNat c15_8) x0_s.Tariffs = p15 ∧ st.df = [] ∧ 13 ≤ st.nx ∧ st.H 0 = some (.cells (some 26) (cGPriceSheet x0_s)) ∧ st.tm 1 = .sl (cellsL eI x1_hours) (List.length x1_hours) false ∧ st.tm 2 = .ptr 0 0 ∧ st.tm 6 = .lit (.int .i64 c15_6) ∧ st.tm 7 = .lit (.int .i64 c15_7) ∧ st.tm 8 = .lit (.int .i64 c15_8) ∧ K15 (f15 p15 c15_8 c15_6 c15_7)) := ⟨_, rfl⟩
 refine loopK mixed (by kernel_rfl) I15 (List.length (List.drop (Int.toNat 1) x0_s.Tariffs)) (by rw [hI15]; refine ⟨List.drop (Int.toNat 1) x0_s.Tariffs, 1, 0, r10, rfl, of_decide_eq_true g17, rfl, rfl, (show 13 ≤ 13 by omega), ?_, e12, e13, ?_, ?_, ?_, h⟩ <;> first | (simp only [ua, e12, e13, e14, nm, seval] <;> rfl) | rfl) ?_
 rintro m ⟨tm, H, nx15, df⟩ hinv
 rw [hI15] at hinv
 obtain ⟨p15, c15_8, c15_6, c15_7, rfl, hi15, hp15, hdf, hn15, H18, e19, e20, e21, e22, e23, h⟩ := hinv
 simp only at hdf hn15 H18 e19 e20 e21 e22 e23
 have n24 := zdv (m := 13) (b := nx15) (by omega)
 subst hdf hf15
 cases p15 with
 | nil =>
  have d25 : (decide (c15_8 < (List.length x0_s.Tariffs : Int))) = false := zap hi15 hp15
  simp only [zcp, hs, reduceCtorEq] at h
  replace h := kG15 _ h
  try dsimp only at h
  try simp only [hs] at h
  try simp only [vz, tyf, (ix24 o9), g16, g17, n24, e19, e20, e21, e22, e23, H18, d25, nm, seval]
  refine zao (x := (.tup [.lit (.int .i64 c15_6), .lit (.int .i64 c15_7)])) (by first | (simp only [Tryz.results46, resV, resL, resV1, zan, zbd, uw, cr, tyf, (ix24 o9), g16, g17, n24, H18, d25, nm, seval] <;> rfl) | rfl) ?_
  obtain rfl := kF _ h
  refine zaz ?_ ?_
  ·simp only [tre, tytre, Bool.and_self]
  ·first | (simp only [outV, uw, zai, cr, tyf, nrm, tynrm, (ix24 o9), g16, g17, n24, e19, e20, e21, e22, e23, H18, d25, nm, seval] <;> rfl) | rfl
 | cons e15 p15 =>
  have d26 : (decide (c15_8 < (List.length x0_s.Tariffs : Int))) = true := zbg hi15 hp15
  have o28 := zam hi15 hp15
  have w27 := zbu hi15 hp15 g16
  simp only [zcp, hs, reduceCtorEq] at h
  simp only [vz, tyf, (ix24 o9), g16, g17, n24, e19, e20, e21, e22, e23, H18, d26, (ix24 o28), w27, nm, seval]
  refine zdt (fun tm => tm 1 = .sl (cellsL eI x1_hours) (List.length x1_hours) false ∧ tm 2 = .ptr 0 0 ∧ tm 6 = .lit (.int .i64 c15_6) ∧ tm 7 = .lit (.int .i64 c15_7) ∧ tm 8 = .lit (.int .i64 c15_8) ∧ True) (by refine ⟨e19, e20, e21, e22, e23, trivial⟩ <;> first | (simp only [ua, n24, e19, e20, e21, e22, e23, H18, d26, w27, nm, seval] <;> rfl) | rfl) ?_
  rintro tm ⟨e29, e30, e31, e32, e33, _⟩
  obtain ⟨r34, o35, h⟩ := optI h kN15
  try simp only [hs] at h
  simp only [vz, tyf, (ix24 o9), g16, g17, n24, H18, d26, (ix24 o28), w27, e29, e30, e31, e32, e33, nm, seval]
  refine dktA (zgv _ _ _ _ o35) ?_
  refine zah (fun tm => tm 1 = .sl (cellsL eI x1_hours) (List.length x1_hours) false ∧ tm 2 = .ptr 0 0 ∧ tm 6 = .lit (.int .i64 c15_6) ∧ tm 7 = .lit (.int .i64 c15_7) ∧ tm 8 = .lit (.int .i64 c15_8) ∧ tm 31 = .lit (.int .i64 r34) ∧ True) (by refine ⟨e29, e30, e31, e32, e33, ?_, trivial⟩ <;> first | (simp only [ua, n24, H18, d26, w27, e29, e30, e31, e32, e33, nm, seval] <;> rfl) | rfl) ?_
  rintro tm ⟨e36, e37, e38, e39, e40, e41, _⟩
  cases d42 : (decide (r34 < c15_7))
  ·simp only [d42, hs] at h
   have b43 := And.intro g16 (And.intro g17 (And.intro n24 (And.intro H18 (And.intro d26 (And.intro w27 d42)))))
   simp only [vz, tyf, b43, (ix24 o9), (ix24 o28), e36, e37, e38, e39, e40, e41, nm, seval]
   exact ⟨List.length p15, Nat.lt_succ_self _, by rw [hI15]; refine ⟨p15, c15_8 + 1, c15_6, c15_7, rfl, Int.le_trans hi15 (Int.le_add_one (Int.le_refl _)), zba hi15 hp15, rfl, (show 13 ≤ nx15 + 20 by omega), ?_, e36, e37, e38, e39, ?_, (by first | exact h | (simp only [b43]; exact h))⟩ <;> first | (simp only [ua, b43, e36, e37, e38, e39, e40, e41, nm, seval] <;> rfl) | rfl⟩
  simp only [d42, hs] at h
  have b44 := And.intro g16 (And.intro g17 (And.intro n24 (And.intro H18 (And.intro d26 (And.intro w27 d42)))))
  simp only [vz, tyf, b44, (ix24 o9), (ix24 o28), e36, e37, e38, e39, e40, e41, nm, seval]
  exact ⟨List.length p15, Nat.lt_succ_self _, by rw [hI15]; refine ⟨p15, c15_8 + 1, c15_8, r34, rfl, Int.le_trans hi15 (Int.le_add_one (Int.le_refl _)), zba hi15 hp15, rfl, (show 13 ≤ nx15 + 24 by omega), ?_, e36, e37, ?_, ?_, ?_, (by first | exact h | (simp only [b44]; exact h))⟩ <;> first | (simp only [ua, b44, e36, e37, e38, e39, e40, e41, nm, seval] <;> rfl) | rfl⟩
end Go.V
end
section
namespace Go.V
open Go
theorem zoc {s : GPriceSheet} (h : sheetB s = true) : ∀ t ∈ s.Tariffs, TOk t := by
 simp only [sheetB, Bool.and_eq_true, List.all_eq_true] at h
 exact fun t ht => zawq (h.2.2.2 t ht)
theorem znl {s : GPriceSheet} (h : sheetB s = true) : (1 ≤ s.Boards.length ∧ s.Boards.length ≤ 4) ∧ (1 ≤ s.Tariffs.length ∧ s.Tariffs.length ≤ 3) := by
 simp only [sheetB, Bool.and_eq_true, zic] at h
 omega
theorem zafo {s : GPriceSheet} (h : sheetB s = true) : ∀ b ∈ s.Boards, boardB b = true := by
 simp only [sheetB, Bool.and_eq_true, List.all_eq_true, ownB] at h
 exact fun b hb => (h.2.1.2 b hb).1
structure BOk (b : GPriceBoard) : Prop where
 l : 0 ≤ b.Letters ∧ b.Letters ≤ 60
 f : 0 ≤ b.Feet ∧ b.Feet ≤ 40
 h : 0 ≤ b.Hours.Low ∧ b.Hours.Low ≤ b.Hours.High ∧ b.Hours.High ≤ 40
theorem zatk {b : GPriceBoard} (h : boardB b = true) : BOk b := by
 simp only [boardB, Bool.and_eq_true, zic] at h
 obtain ⟨h1, h2, h3, h4, h5⟩ := h
 refine ⟨h1, h2, h3.1, h4, ?_⟩
 split at h5 <;> omega
theorem qty_b {b : GPriceBoard} (h : BOk b) (k : Int) {n : Int} (hn : 0 ≤ n ∧ n ≤ 40) : 0 ≤ qtyP k b n ∧ qtyP k b n ≤ 60 := by
 have := h.l; have := h.f
 unfold qtyP
 repeat' split
 all_goals omega
theorem qs_b : ∀ {bs : List GPriceBoard} {hs : List Int}, (∀ b ∈ bs, BOk b) → hrsB bs hs = true → ∀ k, ∀ q ∈ qsP k bs hs, 0 ≤ q ∧ q ≤ 60
 | [], [], _, _, k, q, hq => by cases hq
 | b :: bs, h :: hs, hb, hh, k, q, hq => by
  simp only [hrsB, Bool.and_eq_true, zic] at hh
  have b1 := hb b (List.mem_cons_self ..)
  rcases List.mem_cons.1 hq with rfl | hq
  ·have := b1.h
   exact qty_b b1 k (by omega)
  ·exact qs_b (fun b h => hb b (List.mem_cons_of_mem _ h)) hh.2 k q hq
theorem zja {s : GPriceSheet} (h : sheetB s = true) {hs : List Int} (hh : hrsB s.Boards hs = true) : Fit s.Boards hs :=
 ⟨zvy hh, (znl h).1.2, qs_b (fun b hb => zatk (zafo h b hb)) hh⟩
theorem zld {s : GPriceSheet} (h : sheetB s = true) {n : Int} (hn : tarB s n = true) : ∃ t, getI s.Tariffs n = some t ∧ t ∈ s.Tariffs ∧ TOk t := by
 simp only [tarB, zic] at hn
 obtain ⟨t, h1, h2⟩ := zlw (xs := s.Tariffs) hn.1 (by omega)
 exact ⟨t, h1, h2, zoc h t h2⟩
theorem zkz {s : GPriceSheet} {n : Int} {hs : List Int} (a : Asked s n hs) {t : GPriceTariff} (ht : getI s.Tariffs n = some t) (hk : TOk t) : zcx s n hs = some (paidP t s.Boards hs, 0) := by
 unfold zcx
 obtain ⟨l, e, _⟩ := zrj (s := s) hk (zja a.sheet a.hrs) InvM.nil
 rw [zgg a.ok, a.sheet, zek a.ok, a.tar, zds a.ok, a.hrs]
 simp only [Option.bind_some, cond_true, ht, e]
theorem zwf {s : GPriceSheet} {n : Int} {hs : List Int} (a : Asked s n hs) {t : GPriceTariff} (ht : getI s.Tariffs n = some t) (hk : TOk t) : zdu s n hs = some (partsP t s.Boards hs, 0) := by
 unfold zdu
 obtain ⟨l, e, _⟩ := zoa (s := s) hk (zja a.sheet a.hrs) InvM.nil
 rw [zgg a.ok, a.sheet, zek a.ok, a.tar, zds a.ok, a.hrs]
 simp only [Option.bind_some, cond_true, ht, e]
theorem zxr {s : GPriceSheet} (ok : OkS s) {n : Int} {hs : List Int} (h : (sheetB s && (tarB s n && hrsB s.Boards hs)) = false) : zdu s n hs = some ([], 2) := by
 unfold zdu
 rw [zgg ok, zek ok, zds ok]
 revert h
 cases sheetB s <;> cases tarB s n <;> cases hrsB s.Boards hs <;> intro h <;> first | rfl | cases h
def lows (bs : List GPriceBoard) : List Int := bs.map (·.Hours.Low)
def highs (bs : List GPriceBoard) : List Int := bs.map (·.Hours.High)
theorem zaki : ∀ (bs : List GPriceBoard) (i : Int) (a b : List Int), a.length + bs.length ≤ 1000 → b.length + bs.length ≤ 1000 → zbq bs i a b = some (.go (a ++ lows bs, b ++ highs bs))
 | [], i, a, b, _, _ => by simp [zbq, lows, highs]
 | e :: bs, i, a, b, h1, h2 => by
  simp only [List.length_cons] at h1 h2
  simp only [zbq]
  rw [zhg (by simp; omega), zhg (by simp; omega), cond_true, cond_true, zaki bs (i + 1) _ _ (by simp; omega) (by simp; omega)]
  simp [lows, highs]
theorem zats {bs : List GPriceBoard} (h : bs.length ≤ 4) : zii bs = some (lows bs, highs bs) := by
 unfold zii
 rw [zez (by omega), zaki bs 0 [] [] (by simp; omega) (by simp; omega)]
 rfl
theorem zwd : ∀ {bs : List GPriceBoard}, (∀ b ∈ bs, BOk b) → hrsB bs (lows bs) = true
 | [], _ => rfl
 | b :: bs, h => by
  have := (h b (List.mem_cons_self ..)).h
  have ih := zwd fun b hb => h b (List.mem_cons_of_mem _ hb)
  simp only [lows, List.map_cons, hrsB, Bool.and_eq_true, zic]
  exact ⟨by omega, ih⟩
theorem zsc : ∀ {bs : List GPriceBoard}, (∀ b ∈ bs, BOk b) → hrsB bs (highs bs) = true
 | [], _ => rfl
 | b :: bs, h => by
  have := (h b (List.mem_cons_self ..)).h
  have ih := zsc fun b hb => h b (List.mem_cons_of_mem _ hb)
  simp only [highs, List.map_cons, hrsB, Bool.and_eq_true, zic]
  exact ⟨by omega, ih⟩
theorem zml {s : GPriceSheet} (h : sheetB s = true) : ∀ b ∈ s.Boards, BOk b := fun b hb => zatk (zafo h b hb)
theorem Asked.lows {s : GPriceSheet} {n : Int} {hs : List Int} (a : Asked s n hs) : Asked s n (lows s.Boards) := ⟨a.ok, a.sheet, a.tar, zwd (zml a.sheet)⟩
theorem Asked.highs {s : GPriceSheet} {n : Int} {hs : List Int} (a : Asked s n hs) : Asked s n (highs s.Boards) := ⟨a.ok, a.sheet, a.tar, zsc (zml a.sheet)⟩
theorem zwq {s : GPriceSheet} (ok : OkS s) (h : sheetB s = true) {n : Int} (hn : tarB s n = true) {t : GPriceTariff} (ht : getI s.Tariffs n = some t) (hk : TOk t) : zgk s n = some (⟨paidP t s.Boards (lows s.Boards), paidP t s.Boards (highs s.Boards)⟩, 0) := by
 unfold zgk
 obtain ⟨l, e, hl⟩ := zrj (s := s) hk (zja h (zwd (zml h))) InvM.nil
 obtain ⟨l2, e2, _⟩ := zrj (s := s) hk (zja h (zsc (zml h))) hl
 rw [zgg ok, h, zek ok, hn]
 simp only [Option.bind_some, cond_true, zats (znl h).1.2, ht, e, zdx, e2]
def leL : List Int → List Int → Prop
 | [], [] => True
 | a :: l, b :: m => a ≤ b ∧ leL l m
 | _, _ => False
theorem zvl : ∀ {l m : List Int}, leL l m → sumL l ≤ sumL m
 | [], [], _ => Int.le_refl _
 | a :: l, b :: m, h => by
  have := zvl h.2
  have := h.1
  simp only [sumL]; omega
theorem zadr {f g : Int → Int} : ∀ {l m : List Int}, leL l m → (∀ a ∈ l, ∀ b, a ≤ b → b ∈ m → f a ≤ g b) → leL (l.map f) (m.map g)
 | [], [], _, _ => trivial
 | a :: l, b :: m, h, hf => ⟨hf a (List.mem_cons_self ..) b h.1 (List.mem_cons_self ..), zadr h.2 fun a ha b hab hb => hf a (List.mem_cons_of_mem _ ha) b hab (List.mem_cons_of_mem _ hb)⟩
theorem zalc : ∀ {bs : List GPriceBoard} {hs : List Int}, hrsB bs hs = true → leL (lows bs) hs
 | [], [], _ => trivial
 | b :: bs, h :: hs, e => by
  simp only [hrsB, Bool.and_eq_true, zic] at e
  exact ⟨e.1.1, zalc e.2⟩
theorem zafl : ∀ {bs : List GPriceBoard} {hs : List Int}, hrsB bs hs = true → leL hs (highs bs)
 | [], [], _ => trivial
 | b :: bs, h :: hs, e => by
  simp only [hrsB, Bool.and_eq_true, zic] at e
  exact ⟨e.1.2, zafl e.2⟩
theorem zakx (k : Int) : ∀ {bs : List GPriceBoard} {hs gs : List Int}, leL hs gs → leL (qsP k bs hs) (qsP k bs gs)
 | [], [], [], _ => trivial
 | [], _ :: _, _ :: _, _ => trivial
 | b :: bs, [], [], _ => trivial
 | b :: bs, h :: hs, g :: gs, e => by
  refine ⟨?_, zakx k e.2⟩
  have := e.1
  unfold qtyP
  repeat' split
  all_goals omega
theorem zzc {t : GPriceTariff} (ht : TOk t) {bs : List GPriceBoard} {hs gs : List Int} (h : Fit bs hs) (g : Fit bs gs) (e : leL hs gs) : paidP t bs hs ≤ paidP t bs gs := by
 have hq := zakx t.Kind (bs := bs) e
 unfold paidP partsP
 cases t.Each with
 | true =>
  simp only [if_true]
  exact zvl (zadr hq fun a ha b hab hb => zafe ht (h.q _ a ha).1 hab)
 | false =>
  simp only [Bool.false_eq_true, if_false]
  exact zafe ht (zaef h).1 (zvl hq)
theorem zakr {k : Int} (hk : k ≠ 3) : ∀ {bs : List GPriceBoard} {hs gs : List Int}, hs.length = bs.length → gs.length = bs.length → qsP k bs hs = qsP k bs gs
 | [], [], [], _, _ => rfl
 | b :: bs, h :: hs, g :: gs, e1, e2 => by
  simp only [qsP]
  rw [zakr hk (by simpa using e1) (by simpa using e2)]
  congr 1
  unfold qtyP
  simp only [hk, if_false]
theorem zagz {t : GPriceTariff} (hk : t.Kind ≠ 3) {bs : List GPriceBoard} {hs gs : List Int} (h : hs.length = bs.length) (g : gs.length = bs.length) : paidP t bs hs = paidP t bs gs := by
 unfold paidP partsP
 rw [zakr hk h g]
def firstD : List Int → List Int → Int → Option Int
 | a :: l, b :: m, i => cond (a != b) (some i) (firstD l m (i + 1))
 | _, _, _ => none
theorem zafn (r5 : (List Int) × List (Gpricebill × Int)) : ∀ (p : List Int) (i : Int) (m : List Int), 0 ≤ i → r5.1.drop i.toNat = m → m.length = p.length → zee r5 p i = some (match firstD p m i with | some j => .ret (j, 0) | none => .go ())
 | [], i, [], _, _, _ => rfl
 | a :: p, i, b :: m, h0, hd, hl => by
  simp only [zee, zam h0 hd, Option.bind_some, firstD]
  rw [zafn r5 p (i + 1) m (by omega) (zba h0 hd) (by simpa using hl)]
  cases (a != b) <;> rfl
theorem zzn (r4 : List Int) : ∀ (p : List Int) (i : Int) (m : List Int), 0 ≤ i → r4.drop i.toNat = m → m.length = p.length → zdz r4 p i = some (match firstD p m i with | some j => .ret (j, true) | none => .go ())
 | [], i, [], _, _, _ => rfl
 | a :: p, i, b :: m, h0, hd, hl => by
  simp only [zdz, zam h0 hd, Option.bind_some, firstD]
  rw [zzn r4 p (i + 1) m (by omega) (zba h0 hd) (by simpa using hl)]
  cases (a != b) <;> rfl
theorem zaej {s : GPriceSheet} {n m : Int} {hs : List Int} (a : Asked s n hs) (hm : tarB s m = true) (hne : (n != m) = true) {t u : GPriceTariff} (ht : getI s.Tariffs n = some t) (hu : getI s.Tariffs m = some u) (ot : TOk t) (ou : TOk u) :
  zej s n m hs = some (match firstD (partsP t s.Boards hs) (partsP u s.Boards hs) 0 with | some j => (j, 0) | none => (0, 5)) := by
 have hf := zja a.sheet a.hrs
 have hfew := hf.few
 obtain ⟨l, e, _⟩ := zoa (s := s) ot hf InvM.nil
 obtain ⟨l2, e2, _⟩ := zoa (s := s) ou hf InvM.nil
 unfold zej
 rw [zgg a.ok, a.sheet, zrr a.ok, a.tar, hm, hne, zds a.ok, a.hrs]
 simp only [Option.bind_some, cond_true, Bool.and_self, ht, hu, e, e2]
 rw [zez (by rw [zdw hf]; omega), zafn _ _ 0 (partsP u s.Boards hs) (Int.le_refl _) rfl (by rw [zdw hf, zdw hf])]
 cases firstD (partsP t s.Boards hs) (partsP u s.Boards hs) 0 <;> rfl
theorem zpg {s : GPriceSheet} (ok : OkS s) {n m : Int} {hs : List Int} (h : (sheetB s && ((tarB s n && (tarB s m && (n != m))) && hrsB s.Boards hs)) = false) : zej s n m hs = some (0, 2) := by
 unfold zej
 rw [zgg ok, zrr ok, zds ok]
 revert h
 cases sheetB s <;> cases (tarB s n && (tarB s m && (n != m))) <;> cases hrsB s.Boards hs <;> intro h <;> first | rfl | cases h
theorem zaia {s : GPriceSheet} {n m : Int} {hs : List Int} (hf : Fit s.Boards hs) {t u : GPriceTariff} (ht : getI s.Tariffs n = some t) (hu : getI s.Tariffs m = some u) (ot : TOk t) (ou : TOk u) :
  zhm s n m hs = some (match firstD (partsP t s.Boards hs) (partsP u s.Boards hs) 0 with | some j => (j, true) | none => (0, false)) := by
 have hfew := hf.few
 unfold zhm
 rw [ht, hu]
 simp only [Option.bind_some, znw ot hf, znw ou hf]
 rw [zez (by rw [zdw hf]; omega), zzn (partsP u s.Boards hs) (partsP t s.Boards hs) 0 (partsP u s.Boards hs) (Int.le_refl _) rfl (by rw [zdw hf, zdw hf])]
 cases firstD (partsP t s.Boards hs) (partsP u s.Boards hs) 0 <;> rfl
def chp (f : GPriceTariff → Int) : List GPriceTariff → Int → Int → Int → Int × Int
 | [], _, at_, n => (at_, n)
 | t :: p, i, at_, n => if f t < n then chp f p (i + 1) i (f t) else chp f p (i + 1) at_ n
theorem zxa {s : GPriceSheet} {hs : List Int} (hf : Fit s.Boards hs) : ∀ (p : List GPriceTariff) (i a n : Int), (∀ t ∈ p, TOk t) → zbs s hs p i a n true = some (.go ((chp (fun t => paidP t s.Boards hs) p i a n).1, (chp (fun t => paidP t s.Boards hs) p i a n).2, true))
 | [], i, a, n, _ => rfl
 | t :: p, i, a, n, h => by
  have ht := h t (List.mem_cons_self ..)
  have hp := fun t ht => h t (List.mem_cons_of_mem _ ht)
  obtain ⟨l, e, _⟩ := zrj (s := s) ht hf InvM.nil
  simp only [zbs, e, Option.bind_some, cond_true, chp]
  by_cases hc : paidP t s.Boards hs < n
  ·rw [decide_eq_true hc, cond_true, zxa hf p _ _ _ hp, if_pos hc]
  ·rw [decide_eq_false hc, cond_false, zxa hf p _ _ _ hp, if_neg hc]
theorem zss {s : GPriceSheet} {hs : List Int} (hf : Fit s.Boards hs) : ∀ (p : List GPriceTariff) (i a n : Int), (∀ t ∈ p, TOk t) → zcp s hs p i a n = some (.go (chp (fun t => paidP t s.Boards hs) p i a n))
 | [], i, a, n, _ => rfl
 | t :: p, i, a, n, h => by
  have ht := h t (List.mem_cons_self ..)
  have hp := fun t ht => h t (List.mem_cons_of_mem _ ht)
  simp only [zcp, zsv ht hf, Option.bind_some, chp]
  by_cases hc : paidP t s.Boards hs < n
  ·rw [decide_eq_true hc, cond_true, zss hf p _ _ _ hp, if_pos hc]
  ·rw [decide_eq_false hc, cond_false, zss hf p _ _ _ hp, if_neg hc]
def chpS (s : GPriceSheet) (hs : List Int) : Int × Int := match s.Tariffs with
 | [] => (0, 0)
 | t :: p => chp (fun t => paidP t s.Boards hs) p 1 0 (paidP t s.Boards hs)
theorem zaeb {s : GPriceSheet} (ok : OkS s) (h : sheetB s = true) {hs : List Int} (hh : hrsB s.Boards hs = true) : zde s hs = some ((chpS s hs).1, (chpS s hs).2, 0) := by
 have hf := zja h hh
 have hn := (znl h).2
 have hT := zoc h
 unfold zde chpS
 rw [zgg ok, h, zds ok, hh, ok.t]
 simp only [Option.bind_some, cond_true]
 cases ht : s.Tariffs with
 | nil => rw [ht] at hn; simp at hn
 | cons t p =>
  rw [ht] at hT
  obtain ⟨l, e, _⟩ := zrj (s := s) (hT t (List.mem_cons_self ..)) hf InvM.nil
  simp only [zbs, e, Option.bind_some, cond_false]
  rw [show (0 : Int) + 1 = 1 from rfl, zxa hf p 1 0 _ fun t ht => hT t (List.mem_cons_of_mem _ ht)]
  rfl
theorem zacg {s : GPriceSheet} (ok : OkS s) {hs : List Int} (h : (sheetB s && hrsB s.Boards hs) = false) : zde s hs = some (0, 0, 2) := by
 unfold zde
 rw [zgg ok, zds ok]
 revert h
 cases sheetB s <;> cases hrsB s.Boards hs <;> intro h <;> first | rfl | cases h
theorem zahp {s : GPriceSheet} (ok : OkS s) (h : sheetB s = true) {hs : List Int} (hh : hrsB s.Boards hs = true) : zfk s hs = some (chpS s hs) := by
 have hf := zja h hh
 have hn := (znl h).2
 have hT := zoc h
 unfold zfk chpS
 rw [ok.t]
 cases ht : s.Tariffs with
 | nil => rw [ht] at hn; simp at hn
 | cons t p =>
  rw [ht] at hT
  rw [show getI (t :: p) 0 = some t from rfl]
  simp only [Option.bind_some, cond_true, zsv (hT t (List.mem_cons_self ..)) hf, show leB 0 1 = true from rfl]
  rw [show List.drop (Int.toNat 1) (t :: p) = p from rfl, zss hf p 1 0 _ fun t ht => hT t (List.mem_cons_of_mem _ ht)]
  rfl
theorem VPure.runRQ {P : Program} {G : Glob} (hm : P.follows .mixedOrders = true) {f : FuncId} {fn : Func} {code : Code} {args : List VV} {r : PRes} (hc : Callable P f) (hf : P.funcs[f]? = some fn) (hb : fn.body = some code)
  (hst : (decide (args.length ≤ fn.ntmps) && codeQ fn.ntmps code) = true) (h : CWp P (G.at (some none)) fn.ntmps code (OpenPostD P G fn (RR r) (RPn r)) { tm := argsTm args, H := fun _ => none, nx := 0, df := [] }) : VPure P G f args r := by
 rw [Bool.and_eq_true] at hst
 exact VPure.runR hm hc hf hb (by rw [Bool.and_eq_true]; exact ⟨hst.1, ziz hst.2⟩) h
def rangeFR (f : FuncId) (cf : CallR) (jump : Code → RS → ER) (n : Nat) (s : RS) (f0 : FuncId) (first captured : List VV) (ps : Array Tmp) (asg bo : Code) : ER :=
 match cf f0 (first ++ [.yl (s.nx + 1)] ++ captured) ((s.H.put s.nx (some (.deferred (some [])))).put (s.nx + 1) (some (.loopF .ready none (tmL n s.st.tm) ps asg bo f))) (s.nx + 2) with
 | .ret _ H' nx' => match H'.get (s.nx + 1) with
  | some (.loopF .busy _ _ _ _ _ _) => .no (.text 1)
  | some (.loopF _ pe tm ps asg bo fn) => match pe with
   | none => .mk .normal { s with H := H'.put (s.nx + 1) (some (.loopF .exhausted pe tm ps asg bo fn)), nx := nx', df := .coll s.nx :: s.df }
   | some c => jump c { s with H := H'.put (s.nx + 1) (some (.loopF .exhausted pe tm ps asg bo fn)), nx := nx', df := .coll s.nx :: s.df }
  | _ => .no (.text 2)
 | .pan x H' nx' => .mk (.panic x) { s with H := H', nx := nx', df := .coll s.nx :: s.df }
 | .no w => .no w
def GoOk (P : Program) (G : Glob) (f n : Nat) (go : Code → RS → ER) : Prop := ∀ code s e s', go code s = .mk e s' → ∀ Q : VExit → St → Prop, Q e s'.st → VGo P G f n code Q s.st
theorem zvr {P : Program} {G : Glob} {cf : CallR} (hcf : CallOk P G cf) {f : FuncId} {jump : Code → RS → ER} {n : Nat} (hj : GoOk P G f n jump) {s s' : RS} {e : VExit} {g : Operand} {f0 : FuncId} {first captured : List VV} {ps : Array Tmp} {asg bo : Code}
  (hg : s.st.ρ G g = .fn (.func f0) first captured) (h : rangeFR f cf jump n s f0 first captured ps asg bo = .mk e s') {Q : VExit → St → Prop} (hq : Q e s'.st) : VGo P G f n (.rangeFunc g ps asg bo) Q s.st := by
 refine VGo.range hg ?_
 unfold rangeFR at h
 have eH : ((s.H.put s.nx (some (.deferred (some [])))).put (s.nx + 1) (some (.loopF .ready none (tmL n s.st.tm) ps asg bo f))).get = updH (updH s.st.H s.st.nx (.deferred (some []))) (s.st.nx + 1) (.loopF .ready none (tmL n s.st.tm) ps asg bo f) := by
  rw [zim, zim]; rfl
 split at h
 ·rename_i x H' nx' hc
  have hv := hcf.1 _ _ _ _ _ _ _ hc
  rw [eH] at hv
  refine VOpen.mono hv ?_ ?_
  ·rintro y H1 n1 ⟨_, rfl, rfl⟩
   split at h
   ·cases h
   ·rename_i st pe tm2 ps2 as2 bo2 df2 hnb hl
    have e2 : ({ s with H := H'.put (s.nx + 1) (some (.loopF .exhausted pe tm2 ps2 as2 bo2 df2)), nx := n1, df := .coll s.nx :: s.df } : RS).st = { s.st with H := updH H'.get (s.st.nx + 1) (.loopF .exhausted pe tm2 ps2 as2 bo2 df2), nx := n1, df := .coll s.st.nx :: s.st.df } := by
     simp only [RS.st, zim]
    refine ⟨st, pe, tm2, ps2, as2, bo2, df2, hl, hnb, ?_⟩
    split at h
    ·cases h
     show Q .normal _
     rw [← e2]; exact hq
    ·rename_i c
     show VGo P _ f n c Q _
     rw [← e2]
     exact hj c _ e s' h Q hq
   ·cases h
  ·intro y H1 n1 h; exact h.elim
 ·rename_i x H' nx' hc
  have hv := hcf.2 _ _ _ _ _ _ _ hc
  rw [eH] at hv
  cases h
  refine VOpen.mono hv ?_ ?_
  ·intro y H1 n1 h; exact h.elim
  ·rintro y H1 n1 ⟨rfl, rfl, rfl⟩
   exact hq
 ·cases h
noncomputable def rangeFF (f : FuncId) (cf : CallR) (jump : Code → RS → ER) (n : Nat) (s : RS) (ps : Array Tmp) (asg bo : Code) (code : Code) (x : VV) : ER := match x with
 | .fn (.func f0) first captured => rangeFR f cf jump n s f0 first captured ps asg bo
 | _ => .no (.code code)
noncomputable def goF (G : Glob) (f : FuncId) (run : RunR) (cf : CallR) (n : Nat) (k : Nat) : Code → RS → ER :=
 Nat.rec (motive := fun _ => Code → RS → ER) (fun code s => run none n code s) (fun _ ih code s => match code with
  | .seq a b => thenQ (ih a s) (fun s' => ih b s')
  | .block id a => blockQ (ih a s) id
  | .rangeFunc g ps asg bo => rangeFF f cf (fun c s => run none n c s) n s ps asg bo code (ρQ G s.tm g)
  | code => run none n code s) k
theorem zapo {P : Program} {G : Glob} {f n : Nat} {run : RunR} {cf : CallR} (hrun : RunOk P G run) (hcf : CallOk P G cf) : ∀ (k : Nat), GoOk P G f n (goF G f run cf n k)
 | 0, code, s, e, s', h, Q, hq => VGo.of (hrun none n code s e s' h Q hq)
 | k + 1, code, s, e, s', h, Q, hq => by
  have ih := zapo (f := f) (n := n) hrun hcf k
  have dflt : run none n code s = .mk e s' → VGo P G f n code Q s.st := fun h => VGo.of (hrun none n code s e s' h Q hq)
  cases code with
  | seq a b =>
   have h' : thenQ (goF G f run cf n k a s) (fun s' => goF G f run cf n k b s') = .mk e s' := h
   cases hs : goF G f run cf n k a s with
   | no w => rw [hs] at h'; cases h'
   | mk e1 s1 =>
    rw [hs] at h'
    cases e1 with
    | normal => exact VGo.seq (ih a s .normal s1 hs _ (ih b s1 e s' h' Q hq))
    | exit id => cases h'; exact VGo.seq (ih a s _ _ hs _ hq)
    | goto l => cases h'; exact VGo.seq (ih a s _ _ hs _ hq)
    | ret => cases h'; exact VGo.seq (ih a s _ _ hs _ hq)
    | panic x => cases h'; exact VGo.seq (ih a s _ _ hs _ hq)
  | block id a =>
   have h' : blockQ (goF G f run cf n k a s) id = .mk e s' := h
   cases hs : goF G f run cf n k a s with
   | no w => rw [hs] at h'; cases h'
   | mk e1 s1 =>
    rw [hs] at h'
    refine VGo.block (ih a s e1 s1 hs _ ?_)
    cases e1 with
    | normal => cases h'; exact hq
    | goto l => cases h'; exact hq
    | ret => cases h'; exact hq
    | panic x => cases h'; exact hq
    | exit id' =>
     have h'' : Bool.rec (motive := fun _ => ER) (.mk (.exit id') s1) (.mk .normal s1) (Nat.beq id' id) = .mk e s' := h'
     show (if id' = id then _ else _)
     by_cases hid : id' = id
     ·have hb : Nat.beq id' id = true := by simpa using hid
      rw [hb] at h''
      cases h''
      rw [if_pos hid]; exact hq
     ·have hb : Nat.beq id' id = false := by cases hq : Nat.beq id' id with | false => rfl | true => exact absurd (by simpa using hq) hid
      rw [hb] at h''
      cases h''
      rw [if_neg hid]; exact hq
  | rangeFunc g ps asg bo =>
   have h' : rangeFF f cf (fun c s => run none n c s) n s ps asg bo (.rangeFunc g ps asg bo) (ρQ G s.tm g) = .mk e s' := h
   rw [ρQ_eq] at h'
   unfold rangeFF at h'
   split at h'
   ·rename_i f0 first captured hg
    exact zvr hcf (fun c s e s' hs Q hq => VGo.of (hrun none n c s e s' hs Q hq)) hg h' hq
   ·cases h'
  | _ => exact dflt h
noncomputable def enterF (P : Program) (G : Glob) (run : RunR) (cf : CallR) (k : Nat) (f : FuncId) (fn : Func) (code : Code) (args : List VV) (H : Trie VObj) (nx : Nat) : CR :=
 match goF G f run cf fn.ntmps k code (RS.mk (listV args 0 .nil) H nx []) with
 | .mk .ret s => leaveR P G run fn f s s.df .ret s.H s.nx
 | .mk .normal s => leaveR P G run fn f s s.df .ret s.H s.nx
 | .mk (.panic x) s => leaveR P G run fn f s s.df (.pan x false) s.H s.nx
 | .mk _ _ => .no (.fn f)
 | .no w => .no w
noncomputable def cfF1 (P : Program) (G : Glob) (run : RunR) (cf : CallR) (k : Nat) : CallR := fun f args H nx => match textQ P f with
 | some (fn, code) => Bool.rec (motive := fun _ => CR) (.no (.fn f)) (enterF P G run cf k f fn code args H nx) (Nat.ble args.length fn.ntmps)
 | none => .no (.fn f)
theorem zaob {P : Program} {f : FuncId} {fn : Func} {code : Code} (h : textQ P f = some (fn, code)) : P.funcs[f]? = some fn ∧ fn.body = some code ∧ nameQ fn = true := by
 unfold textQ at h
 split at h
 ·cases h
 ·rename_i fn1 hf
  split at h
  ·cases h
  ·rename_i c1 hb
   split at h
   ·rename_i hn
    cases h
    exact ⟨hf, hb, hn⟩
   ·cases h
theorem zzt {P : Program} {G : Glob} {run : RunR} {cf : CallR} {k : Nat} (hrun : RunOk P G run) (hcf : CallOk P G cf) {f : FuncId} {args : List VV} {H : Trie VObj} {nx : Nat} {R Rp : VV → (Nat → Option VObj) → Nat → Prop}
  (h1 : ∀ x H' nx', cfF1 P (G.at (some none)) run cf k f args H nx = .ret x H' nx' → R x H'.get nx') (h2 : ∀ x H' nx', cfF1 P (G.at (some none)) run cf k f args H nx = .pan x H' nx' → Rp x H'.get nx') (h3 : ∀ w, cfF1 P (G.at (some none)) run cf k f args H nx ≠ .no w) : VOpen P G f args H.get nx R Rp := by
 unfold cfF1 at h1 h2 h3
 cases ht : textQ P f with
 | none => exact absurd (by simp only [ht]) (h3 (.fn f))
 | some p =>
  obtain ⟨fn, code⟩ := p
  obtain ⟨hf, hb, hn⟩ := zaob ht
  cases hc : Nat.ble args.length fn.ntmps with
  | false => exact absurd (by simp only [ht, hc]) (h3 (.fn f))
  | true =>
   simp only [ht, hc] at h1 h2 h3
   simp only [Nat.ble_eq] at hc
   unfold enterF at h1 h2 h3
   rw [zwj] at h1 h2 h3
   cases hr : goF (G.at (some none)) f run cf fn.ntmps k code (RS.mk (Trie.ofList 0 args .nil) H nx []) with
   | no w => exact absurd (by rw [hr]) (h3 w)
   | mk e s =>
    rw [hr] at h1 h2 h3
    have body : OpenPostD P G fn R Rp e s.st → VOpen P G f args H.get nx R Rp := by
     intro hq
     have := zapo (G := G.at (some none)) (f := f) (n := fn.ntmps) hrun hcf k code _ e s hr _ hq
     rw [argsR] at this
     exact VOpen.of_bodyGo (zmy hf hb hn) hf hb hc this
    cases e with
    | ret => exact body (zfr hrun s.df .ret s.H s.nx h1 h2 h3)
    | normal => exact body (zfr hrun s.df .ret s.H s.nx h1 h2 h3)
    | panic x => exact body (zfr hrun s.df (.pan x false) s.H s.nx h1 h2 h3)
    | exit id => exact absurd rfl (h3 (.fn f))
    | goto l => exact absurd rfl (h3 (.fn f))
noncomputable def cfF (P : Program) (G : Glob) (run : RunR) (fs : List Nat) (k : Nat) : CallR := fun f args H nx => match fs.elem f with
 | true => cfF1 P G run (cfQ P G run) k f args H nx
 | false => cfQ P G run f args H nx
theorem zatx {P : Program} {G : Glob} {run : RunR} {fs : List Nat} {k : Nat} (hrun : RunOk P G run) : CallOk P G (cfF P (G.at (some none)) run fs k) := by
 have hcf : CallOk P G (cfQ P (G.at (some none)) run) := by rw [zanv]; exact zmx hrun
 constructor
 ·intro f args H nx x H' nx' h
  unfold cfF at h
  split at h
  ·exact zzt hrun hcf (fun y H1 n1 e => by rw [h] at e; cases e; exact ⟨rfl, rfl, rfl⟩) (fun y H1 n1 e => by rw [h] at e; cases e) (fun w e => by rw [h] at e; cases e)
  ·exact hcf.1 _ _ _ _ _ _ _ h
 ·intro f args H nx x H' nx' h
  unfold cfF at h
  split at h
  ·exact zzt hrun hcf (fun y H1 n1 e => by rw [h] at e; cases e) (fun y H1 n1 e => by rw [h] at e; cases e; exact ⟨rfl, rfl, rfl⟩) (fun w e => by rw [h] at e; cases e)
  ·exact hcf.2 _ _ _ _ _ _ _ h
noncomputable def runF (P : Program) (G : Glob) (fs : List Nat) (tab : KTab) (k : Nat) : RunR :=
 Nat.rec (motive := fun _ => RunR) (fun _ _ _ _ => .no .fuel) (fun k ih ro n code s => bodyA k ih (cfT tab (cfF P (G.at (some none)) ih fs k)) ro n s (ccB P G code)) k
theorem zvv {P : Program} {G : Glob} {fs : List Nat} {tab : KTab} (hm : P.follows .mixedOrders = true) (ht : KTabOk P G tab) : ∀ (k : Nat), RunOk P G (runF P G fs tab k)
 | 0, _, _, _, _, _, _, h => by cases h
 | k + 1, ro, n, code, s, e, s', h => by
  intro Q hq
  have ih := zvv (G := G) (fs := fs) hm ht k
  exact zrv hm ih (zavs ht (zatx ih)) h hq
noncomputable def closedF (P : Program) (G : Glob) (fs : List Nat) (tab : KTab) (k : Nat) (f : FuncId) (args : List VV) : PRes ⊕ Why := pureQ (cfF P (G.at (some none)) (runF P G fs tab k) fs k) f args
theorem VPure.closedF {P : Program} {G : Glob} {fs : List Nat} {tab : KTab} (hm : P.follows .mixedOrders = true) (ht : KTabOk P G tab) (k : Nat) {f : FuncId} {args : List VV} {r : PRes} (h : closedF P G fs tab k f args = .inl r) : VPure P G f args r := by
 unfold Go.V.closedF at h
 rw [zso] at h
 exact zia (zatx (zvv hm ht k)) h
end Go.V
end
section
namespace Go.V
open Go Go.Proofs
theorem hmix : Tryz.prog.follows .mixedOrders = true := by kernel_rfl
def kP : VV := (VV.agg [(VV.sl [(VV.lit (Value.int IntKind.i64 (Int.ofNat 0))), (VV.lit (Value.int IntKind.i64 (Int.ofNat 25)))] 2 Bool.false), (VV.sl [(VV.lit (Value.int IntKind.i64 (Int.ofNat 7))), (VV.lit (Value.int IntKind.i64 (Int.ofNat 10))), (VV.lit (Value.int IntKind.i64 (Int.ofNat 3))), (VV.lit (Value.int IntKind.i64 (Int.ofNat 4))), (VV.lit (Value.int IntKind.i64 (Int.ofNat 0))), (VV.lit (Value.int IntKind.i64 (Int.ofNat 5))), (VV.lit (Value.int IntKind.i64 (Int.ofNat 6))), (VV.lit (Value.int IntKind.i64 (Int.ofNat 2))), (VV.lit (Value.int IntKind.i64 (Int.ofNat 2))), (VV.lit (Value.int IntKind.i64 (Int.ofNat 1)))] 2 Bool.false), (VV.sl [(VV.lit (Value.int IntKind.i64 (Int.ofNat 1))), (VV.lit (Value.int IntKind.i64 (Int.ofNat 5))), (VV.lit (Value.int IntKind.i64 (Int.ofNat 3))), (VV.lit (Value.int IntKind.i64 (Int.ofNat 3))), (VV.lit (Value.bool Bool.true)), (VV.lit (Value.int IntKind.i64 (Int.ofNat 2))), (VV.lit (Value.int IntKind.i64 (Int.ofNat 5))), (VV.lit (Value.int IntKind.i64 (Int.ofNat 4))), (VV.lit (Value.int IntKind.i64 (Int.ofNat 1))), (VV.lit (Value.bool Bool.false)), (VV.lit (Value.int IntKind.i64 (Int.ofNat 3))), (VV.lit (Value.int IntKind.i64 (Int.ofNat 4))), (VV.lit (Value.int IntKind.i64 (Int.ofNat 1))), (VV.lit (Value.int IntKind.i64 (Int.ofNat 2))), (VV.lit (Value.bool Bool.true))] 3 Bool.false)])
def kPaid : VV := (VV.tup [(VV.agg [(VV.lit (Value.int IntKind.i64 (Int.ofNat 20))), (VV.lit (Value.int IntKind.i64 (Int.ofNat 24)))]), (VV.lit (Value.int IntKind.i64 (Int.ofNat 0)))])
def kTotal : VV := (VV.tup [(VV.lit (Value.int IntKind.i64 (Int.ofNat 24))), (VV.lit (Value.int IntKind.i64 (Int.ofNat 0)))])
def kParts : VV := (VV.tup [(VV.sl [(VV.lit (Value.int IntKind.i64 (Int.ofNat 12))), (VV.lit (Value.int IntKind.i64 (Int.ofNat 7)))] 2 Bool.false), (VV.lit (Value.int IntKind.i64 (Int.ofNat 0)))])
def kRules : VV := (VV.tup [(VV.sl [(VV.lit (Value.int IntKind.i64 (Int.ofNat 19))), (VV.lit (Value.int IntKind.i64 (Int.ofNat 21))), (VV.lit (Value.int IntKind.i64 (Int.ofNat 20))), (VV.lit (Value.int IntKind.i64 (Int.ofNat 20)))] 4 Bool.false), (VV.lit (Value.int IntKind.i64 (Int.ofNat 0)))])
def kSame : VV := (VV.tup [(VV.lit (Value.int IntKind.i64 (Int.ofNat 2))), (VV.lit (Value.int IntKind.i64 (Int.ofNat 0)))])
def kWhen : VV := (VV.tup [(VV.sl [(VV.lit (Value.int IntKind.i64 (Int.ofNat 3))), (VV.lit (Value.int IntKind.i64 (Int.ofNat 2)))] 2 Bool.false), (VV.lit (Value.int IntKind.i64 (Int.ofNat 0)))])
def kWhere : VV := (VV.tup [(VV.lit (Value.int IntKind.i64 (Int.ofNat 1))), (VV.lit (Value.int IntKind.i64 (Int.ofNat 0)))])
def kChange : VV := (VV.tup [(VV.lit (Value.int IntKind.i64 (Int.ofNat 6))), (VV.lit (Value.int IntKind.i64 (Int.ofNat 0)))])
def kCheapest : VV := (VV.tup [(VV.lit (Value.int IntKind.i64 (Int.ofNat 0))), (VV.lit (Value.int IntKind.i64 (Int.ofNat 20))), (VV.lit (Value.int IntKind.i64 (Int.ofNat 0)))])
def kShare : VV := (VV.tup [(VV.sl [(VV.lit (Value.int IntKind.i64 (Int.ofNat 13))), (VV.lit (Value.int IntKind.i64 (Int.ofNat 7)))] 2 Bool.false), (VV.lit (Value.int IntKind.i64 (Int.ofNat 0)))])
def kLoses : VV := (VV.tup [(VV.sl [(VV.lit (Value.int IntKind.i64 (Int.ofNat 1))), (VV.lit (Value.int IntKind.i64 (Int.ofNat 0)))] 2 Bool.false), (VV.lit (Value.int IntKind.i64 (Int.ofNat 0)))])
def kOwes : VV := (VV.tup [(VV.sl [(VV.lit (Value.int IntKind.i64 (Int.ofNat 12))), (VV.lit (Value.int IntKind.i64 (Int.ofNat 6)))] 2 Bool.false), (VV.lit (Value.int IntKind.i64 (Int.ofNat 0)))])
def kRead : VV := (VV.tup [(VV.agg [(VV.sl [(VV.lit (Value.int IntKind.i64 (Int.ofNat 0)))] 1 Bool.false), (VV.sl [(VV.lit (Value.int IntKind.i64 (Int.ofNat 1))), (VV.lit (Value.int IntKind.i64 (Int.ofNat 1))), (VV.lit (Value.int IntKind.i64 (Int.ofNat 1))), (VV.lit (Value.int IntKind.i64 (Int.ofNat 1))), (VV.lit (Value.int IntKind.i64 (Int.ofNat 0)))] 1 Bool.false), (VV.sl [(VV.lit (Value.int IntKind.i64 (Int.ofNat 3))), (VV.lit (Value.int IntKind.i64 (Int.ofNat 1))), (VV.lit (Value.int IntKind.i64 (Int.ofNat 1))), (VV.lit (Value.int IntKind.i64 (Int.ofNat 1))), (VV.lit (Value.bool Bool.false))] 1 Bool.false)]), (VV.lit (Value.int IntKind.i64 (Int.ofNat 0)))])
theorem pP : VPure Tryz.prog G0 60 [] (.tree kP) := VPure.closedF (fs := [108]) (tab := []) hmix trivial 1000 (by kernel_rfl)
theorem pPaid : VPure Tryz.prog G0 23 [kP, .lit (.int .i64 (2))] (.tree kPaid) := VPure.closedF (fs := [108]) (tab := []) hmix trivial 1000 (by kernel_rfl)
theorem pTotal : VPure Tryz.prog G0 24 [kP, .lit (.int .i64 (2)), .sl [.lit (.int .i64 (4)), .lit (.int .i64 (2))] 2 false] (.tree kTotal) := VPure.closedF (fs := [108]) (tab := []) hmix trivial 1000 (by kernel_rfl)
theorem pParts : VPure Tryz.prog G0 33 [kP, .lit (.int .i64 (1)), .sl [.lit (.int .i64 (3)), .lit (.int .i64 (2))] 2 false] (.tree kParts) := VPure.closedF (fs := [108]) (tab := []) hmix trivial 1000 (by kernel_rfl)
theorem pRules : VPure Tryz.prog G0 34 [kP, .lit (.int .i64 (0)), .sl [.lit (.int .i64 (3)), .lit (.int .i64 (2))] 2 false] (.tree kRules) := VPure.closedF (fs := [108]) (tab := []) hmix trivial 1000 (by kernel_rfl)
theorem pSame : VPure Tryz.prog G0 38 [kP, .lit (.int .i64 (0)), .lit (.int .i64 (2))] (.tree kSame) := VPure.closedF (fs := [108]) (tab := []) hmix trivial 1000 (by kernel_rfl)
theorem pWhen : VPure Tryz.prog G0 39 [kP, .lit (.int .i64 (0)), .lit (.int .i64 (2))] (.tree kWhen) := VPure.closedF (fs := [108]) (tab := []) hmix trivial 1000 (by kernel_rfl)
theorem pWhere : VPure Tryz.prog G0 44 [kP, .lit (.int .i64 (0)), .lit (.int .i64 (1)), .sl [.lit (.int .i64 (3)), .lit (.int .i64 (2))] 2 false] (.tree kWhere) := VPure.closedF (fs := [108]) (tab := []) hmix trivial 1000 (by kernel_rfl)
theorem pChange : VPure Tryz.prog G0 48 [kP, .lit (.int .i64 (0)), .lit (.int .i64 (2)), .sl [.lit (.int .i64 (4)), .lit (.int .i64 (2))] 2 false] (.tree kChange) := VPure.closedF (fs := [108]) (tab := []) hmix trivial 1000 (by kernel_rfl)
theorem pCheapest : VPure Tryz.prog G0 45 [kP, .sl [.lit (.int .i64 (4)), .lit (.int .i64 (2))] 2 false] (.tree kCheapest) := VPure.closedF (fs := [108]) (tab := []) hmix trivial 1000 (by kernel_rfl)
theorem pShare : VPure Tryz.prog G0 52 [kP, .lit (.int .i64 (1)), .sl [.lit (.int .i64 (3)), .lit (.int .i64 (2))] 2 false] (.tree kShare) := VPure.closedF (fs := [108]) (tab := []) hmix trivial 1000 (by kernel_rfl)
theorem pLoses : VPure Tryz.prog G0 53 [kP, .lit (.int .i64 (1)), .sl [.lit (.int .i64 (3)), .lit (.int .i64 (2))] 2 false] (.tree kLoses) := VPure.closedF (fs := [108]) (tab := []) hmix trivial 1000 (by kernel_rfl)
theorem pOwes : VPure Tryz.prog G0 58 [kP, .lit (.int .i64 (0)), .sl [.lit (.int .i64 (3)), .lit (.int .i64 (2))] 2 false] (.tree kOwes) := VPure.closedF (fs := [108]) (tab := []) hmix trivial 1000 (by kernel_rfl)
theorem pRead : VPure Tryz.prog G0 61 [.lit (.string ⟨⟨[112, 114, 105, 99, 101, 10, 111, 119, 110, 101, 114, 32, 48, 10, 98, 111, 97, 114, 100, 32, 49, 32, 49, 32, 49, 32, 49, 32, 48, 10, 104, 111, 117, 114, 32, 49, 32, 49, 32, 100, 111, 119, 110, 32, 97, 108, 108, 10, 101, 110, 100, 32, 48, 54, 57, 10]⟩⟩)] (.tree kRead) := VPure.closedF (fs := [108]) (tab := []) hmix trivial 1000 (by kernel_rfl)
def kTab : KTab := [
  (60, [], kP),
  (23, [kP, .lit (.int .i64 (2))], kPaid),
  (24, [kP, .lit (.int .i64 (2)), .sl [.lit (.int .i64 (4)), .lit (.int .i64 (2))] 2 false], kTotal),
  (33, [kP, .lit (.int .i64 (1)), .sl [.lit (.int .i64 (3)), .lit (.int .i64 (2))] 2 false], kParts),
  (34, [kP, .lit (.int .i64 (0)), .sl [.lit (.int .i64 (3)), .lit (.int .i64 (2))] 2 false], kRules),
  (38, [kP, .lit (.int .i64 (0)), .lit (.int .i64 (2))], kSame),
  (39, [kP, .lit (.int .i64 (0)), .lit (.int .i64 (2))], kWhen),
  (44, [kP, .lit (.int .i64 (0)), .lit (.int .i64 (1)), .sl [.lit (.int .i64 (3)), .lit (.int .i64 (2))] 2 false], kWhere),
  (48, [kP, .lit (.int .i64 (0)), .lit (.int .i64 (2)), .sl [.lit (.int .i64 (4)), .lit (.int .i64 (2))] 2 false], kChange),
  (45, [kP, .sl [.lit (.int .i64 (4)), .lit (.int .i64 (2))] 2 false], kCheapest),
  (52, [kP, .lit (.int .i64 (1)), .sl [.lit (.int .i64 (3)), .lit (.int .i64 (2))] 2 false], kShare),
  (53, [kP, .lit (.int .i64 (1)), .sl [.lit (.int .i64 (3)), .lit (.int .i64 (2))] 2 false], kLoses),
  (58, [kP, .lit (.int .i64 (0)), .sl [.lit (.int .i64 (3)), .lit (.int .i64 (2))] 2 false], kOwes),
  (61, [.lit (.string ⟨⟨[112, 114, 105, 99, 101, 10, 111, 119, 110, 101, 114, 32, 48, 10, 98, 111, 97, 114, 100, 32, 49, 32, 49, 32, 49, 32, 49, 32, 48, 10, 104, 111, 117, 114, 32, 49, 32, 49, 32, 100, 111, 119, 110, 32, 97, 108, 108, 10, 101, 110, 100, 32, 48, 54, 57, 10]⟩⟩)], kRead)]
theorem kTabOk : KTabOk Tryz.prog G0 kTab := ⟨⟨by kernel_rfl, pP⟩, ⟨⟨by kernel_rfl, pPaid⟩, ⟨⟨by kernel_rfl, pTotal⟩, ⟨⟨by kernel_rfl, pParts⟩, ⟨⟨by kernel_rfl, pRules⟩, ⟨⟨by kernel_rfl, pSame⟩, ⟨⟨by kernel_rfl, pWhen⟩, ⟨⟨by kernel_rfl, pWhere⟩, ⟨⟨by kernel_rfl, pChange⟩, ⟨⟨by kernel_rfl, pCheapest⟩, ⟨⟨by kernel_rfl, pShare⟩, ⟨⟨by kernel_rfl, pLoses⟩, ⟨⟨by kernel_rfl, pOwes⟩, ⟨⟨by kernel_rfl, pRead⟩, trivial⟩⟩⟩⟩⟩⟩⟩⟩⟩⟩⟩⟩⟩⟩
theorem pKnown : VPure Tryz.prog G0 21 [] (.tree (.lit (.bool true))) := VPure.closedF (fs := [108]) hmix kTabOk 1000 (by kernel_rfl)
#print axioms pKnown
theorem zaf : VPure Tryz.prog G0 21 [] (.tree (.lit (.bool true))) := pKnown
def zgz (x0_low : Int) (x1_high : Int) : Option (GSpan) := some (GSpan.mk x0_low x1_high)
theorem zkt (x0_low : Int) (x1_high : Int) (R : GSpan) (h : zgz x0_low x1_high = some R) : VPure Tryz.prog G0 32 [.lit (.int .i64 x0_low), .lit (.int .i64 x1_high)] (.tree (.agg (cGSpan R))) := by
 refine VPure.runR mixed Tryz.call32 Tryz.func32 rfl (by simp [Tryz.ntmps32]; kernel_rfl) ?_
 obtain ⟨KF, h, kF, kN⟩ := zal h
 simp only [zgz] at h
 try simp only [vz, tyf, nm, seval]
 refine zao (x := (.agg ([.lit (.int .i64 x0_low)] ++ [.lit (.int .i64 x1_high)]))) (by first | (simp only [Tryz.results32, resV, resL, resV1, zan, zbd, uw, cr, tyf, nm, seval] <;> rfl) | rfl) ?_
 obtain rfl := kF _ h
 refine zaz ?_ ?_
 ·simp only [tre, tytre, Bool.and_self]
 ·first | (simp only [outV, uw, zai, cr, tyf, nrm, tynrm, nm, seval] <;> rfl) | rfl
end Go.V
end
