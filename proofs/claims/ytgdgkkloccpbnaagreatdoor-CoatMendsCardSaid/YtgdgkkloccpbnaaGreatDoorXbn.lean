/- Part of a proof: a logic of values by content, lifted functions, what follows. -/
import Derived.Test.YtgdgkkloccpbnaaGreatDoorXbf
import Derived.Test.YtgdgkkloccpbnaaGreatDoorXbm
import Derived.Test.YtgdgkkloccpbnaaGreatDoorXbh
import Derived.Test.YtgdgkkloccpbnaaGreatDoorXbk
import Derived.Test.YtgdgkkloccpbnaaGreatDoorXbj
import Derived.Test.YtgdgkkloccpbnaaGreatDoorXbl
import Derived.Test.YtgdgkkloccpbnaaGreatDoorXbi
set_option linter.all false
set_option maxRecDepth 4000
set_option maxHeartbeats 40000000
section
namespace Go.V
open Go Go.Proofs
def zbj (x0_x : Gcoatsums) (x1_known : List (Gcoatlaying × Bool)) (x2_coat : Int) (x3_day : Int) : List Int → Int → Option (LOut (Bool) (Unit))
 | [], c0_26 => some (.go ())
 | e0 :: p0, c0_26 => cond (mapGet q121 false x1_known (Gcoatlaying.mk (IntKind.i64.wrap (x2_coat + 1)) e0)) (Option.bind (zbh x0_x x2_coat x3_day e0) (fun r3 => cond (r3) (some (.ret true)) (zbj x0_x x1_known x2_coat x3_day p0 (c0_26 + 1)))) (zbj x0_x x1_known x2_coat x3_day p0 (c0_26 + 1))
def zce (x0_x : Gcoatsums) (x1_known : List (Gcoatlaying × Bool)) (x2_coat : Int) (x3_day : Int) : Option (Bool) := Option.bind (zbn x0_x x2_coat) (fun r1 => cond (r1) (Option.bind (zbh x0_x x2_coat x3_day (List.length x0_x.CoatSheet.Dry : Int)) (fun r2 => some r2)) (cond (lenOk x0_x.CoatSheet.Work) (lbind (zbj x0_x x1_known x2_coat x3_day x0_x.CoatSheet.Work 0) (fun r5 => some r5) (fun c4 => some false) (fun _ _ => none)) none))
theorem zji (x0_x : Gcoatsums) (x1_known : List (Gcoatlaying × Bool)) (x2_coat : Int) (x3_day : Int) (R : Bool) (h : zce x0_x x1_known x2_coat x3_day = some R) : VPure Tryz.prog G0 132 [.agg (cGcoatsums x0_x), .mt (mtK kv121 x1_known) (mtV ev4 x1_known), .lit (.int .i64 x2_coat), .lit (.int .i64 x3_day)] (.tree (.lit (.bool R))) := by
 refine VPure.runR mixed Tryz.call132 Tryz.func132 rfl (by simp [Tryz.ntmps132]; kernel_rfl) ?_
 obtain ⟨KF, h, kF, kN⟩ := zan h
 simp only [zce] at h
 rcases o7 : (zbn x0_x x2_coat) with _ | r6
 ·simp only [o7, hs] at h
  exact absurd h kN
 simp only [o7, hs] at h
 simp only [vz, mq, mqm, tyf, mqt, nm, seval]
 refine ktree (args0 := [.agg (cGcoatsums x0_x), .lit (.int .i64 x2_coat)]) (by first | (simp only [nrm, tynrm, mqr] <;> rfl) | rfl) (by simp only [tre, tytre, mqr, Bool.and_self]) (zgi _ _ _ o7) ?_
 refine zam (fun tm => tm 1 = .mt (mtK kv121 x1_known) (mtV ev4 x1_known) ∧ tm 2 = .lit (.int .i64 x2_coat) ∧ tm 3 = .lit (.int .i64 x3_day) ∧ tm 4 = .ptr 0 0 ∧ tm 13 = .lit (.bool r6) ∧ True) (by refine ⟨?_, ?_, ?_, ?_, ?_, trivial⟩ <;> first | (simp only [ua, zeu, nm, seval] <;> rfl) | rfl) ?_
 rintro tm ⟨e8, e9, e10, e11, e12, _⟩
 cases d13 : (r6)
 ·simp only [d13, hs] at h
  cases g15 : (lenOk x0_x.CoatSheet.Work)
  ·simp only [g15, hs] at h
   exact absurd h kN
  simp only [g15, hs] at h
  simp only [vz, mq, mqm, tyf, mqt, e8, e9, e10, e11, e12, d13, g15, nm, seval]
  obtain ⟨K14, h, kR14, kG14, kB14, kN14⟩ := zap h kN
  obtain ⟨f14, hf14, h⟩ := call2 h
  obtain ⟨I14, hI14⟩ : ∃ I : Nat → St → Prop, I = (fun m st => ∃ (p14 : List Int) (c14_26 : Int), m = List.length p14 ∧ 0 ≤ c14_26 ∧ List.drop (Int.toNat c14_26) x0_x.CoatSheet.Work = p14 ∧ st.df = [] ∧ 10 ≤ st.nx ∧ st.H 0 = some (.cells (some 81) (cGcoatsums x0_x)) ∧ st.tm 1 = .mt (mtK kv121 x1_known) (mtV ev4 x1_known) ∧ st.tm 2 = .lit (.int .i64 x2_coat) ∧ st.tm 3 = .lit (.int .i64 x3_day) ∧ st.tm 4 = .ptr 0 0 ∧ st.tm 24 = .sl (cellsL eI x0_x.CoatSheet.Work) (List.length x0_x.CoatSheet.Work) false ∧ st.tm 25 = .lit (.int .i64 (List.length x0_x.CoatSheet.Work : Int)) ∧ st.tm 26 = .lit (.int .i64 c14_26) ∧ K14 (f14 p14 c14_26)) := ⟨_, rfl⟩
  refine loopK mixed (by kernel_rfl) I14 (List.length x0_x.CoatSheet.Work) (by rw [hI14]; refine ⟨x0_x.CoatSheet.Work, 0, rfl, Int.le_refl _, rfl, rfl, (show 10 ≤ 10 by omega), ?_, e8, e9, e10, e11, ?_, ?_, ?_, h⟩ <;> first | (simp only [ua, zeu, e8, e9, e10, e11, e12, d13, nm, seval] <;> rfl) | rfl) ?_
  rintro m ⟨tm, H, nx14, df⟩ hinv
  rw [hI14] at hinv
  obtain ⟨p14, c14_26, rfl, hi14, hp14, hdf, hn14, H16, e17, e18, e19, e20, e21, e22, e23, h⟩ := hinv
  simp only at hdf hn14 H16 e17 e18 e19 e20 e21 e22 e23
  have n24 := zbr (m := 10) (b := nx14) (by omega)
  subst hdf hf14
  cases p14 with
  | nil =>
   have d25 : (decide (c14_26 < (List.length x0_x.CoatSheet.Work : Int))) = false := zaf hi14 hp14
   simp only [zbj, hs, reduceCtorEq] at h
   replace h := kG14 _ h
   try dsimp only at h
   try simp only [hs] at h
   try simp only [vz, mq, mqm, tyf, mqt, d13, g15, n24, e17, e18, e19, e20, e21, e22, e23, H16, d25, nm, seval]
   obtain rfl := kF _ h
   exact zae Tryz.results132 rfl
  | cons e14 p14 =>
   have d26 : (decide (c14_26 < (List.length x0_x.CoatSheet.Work : Int))) = true := zao hi14 hp14
   have o28 := zad hi14 hp14
   have w27 := zat hi14 hp14 g15
   simp only [zbj, hs, reduceCtorEq] at h
   cases d29 : (mapGet q121 false x1_known (Gcoatlaying.mk (IntKind.i64.wrap (x2_coat + 1)) e14))
   ·simp only [d29, hs] at h
    have b30 := And.intro d13 (And.intro g15 (And.intro n24 (And.intro H16 (And.intro d26 (And.intro w27 d29)))))
    simp only [vz, mq, mqm, tyf, mqt, b30, e17, e18, e19, e20, e21, e22, e23, (ix23 o28), nm, seval]
    exact ⟨List.length p14, Nat.lt_succ_self _, by rw [hI14]; refine ⟨p14, c14_26 + 1, rfl, Int.le_trans hi14 (Int.le_add_one (Int.le_refl _)), zac hi14 hp14, rfl, (show 10 ≤ nx14 + 19 by omega), ?_, e17, e18, e19, e20, e21, e22, ?_, h⟩ <;> first | (simp only [ua, zeu, b30, e17, e18, e19, e20, e21, e22, e23, nm, seval] <;> rfl) | rfl⟩
   simp only [d29, hs] at h
   have b31 := And.intro d13 (And.intro g15 (And.intro n24 (And.intro H16 (And.intro d26 (And.intro w27 d29)))))
   rcases o33 : (zbh x0_x x2_coat x3_day e14) with _ | r32
   ·simp only [o33, hs] at h
    exact absurd h kN14
   simp only [o33, hs] at h
   simp only [vz, mq, mqm, tyf, mqt, b31, e17, e18, e19, e20, e21, e22, e23, (ix23 o28), nm, seval]
   refine ktree (args0 := [.agg (cGcoatsums x0_x), .lit (.int .i64 x2_coat), .lit (.int .i64 x3_day), .lit (.int .i64 e14)]) (by first | (simp only [nrm, tynrm, mqr] <;> rfl) | rfl) (by simp only [tre, tytre, mqr, Bool.and_self]) (zfa _ _ _ _ _ o33) ?_
   refine zam (fun tm => tm 1 = .mt (mtK kv121 x1_known) (mtV ev4 x1_known) ∧ tm 2 = .lit (.int .i64 x2_coat) ∧ tm 3 = .lit (.int .i64 x3_day) ∧ tm 4 = .ptr 0 0 ∧ tm 24 = .sl (cellsL eI x0_x.CoatSheet.Work) (List.length x0_x.CoatSheet.Work) false ∧ tm 25 = .lit (.int .i64 (List.length x0_x.CoatSheet.Work : Int)) ∧ tm 26 = .lit (.int .i64 c14_26) ∧ tm 36 = .lit (.bool true) ∧ tm 41 = .lit (.bool r32) ∧ True) (by refine ⟨e17, e18, e19, e20, e21, e22, e23, ?_, ?_, trivial⟩ <;> first | (simp only [ua, zeu, b31, e17, e18, e19, e20, e21, e22, e23, nm, seval] <;> rfl) | rfl) ?_
   rintro tm ⟨e34, e35, e36, e37, e38, e39, e40, e41, e42, _⟩
   cases d43 : (r32)
   ·simp only [d43, hs] at h
    simp only [vz, mq, mqm, tyf, mqt, b31, (ix23 o28), e34, e35, e36, e37, e38, e39, e40, e41, e42, d43, nm, seval]
    exact ⟨List.length p14, Nat.lt_succ_self _, by rw [hI14]; refine ⟨p14, c14_26 + 1, rfl, Int.le_trans hi14 (Int.le_add_one (Int.le_refl _)), zac hi14 hp14, rfl, (show 10 ≤ nx14 + 19 by omega), ?_, e34, e35, e36, e37, e38, e39, ?_, h⟩ <;> first | (simp only [ua, zeu, b31, e34, e35, e36, e37, e38, e39, e40, e41, e42, d43, nm, seval] <;> rfl) | rfl⟩
   simp only [d43, hs] at h
   try simp only [vz, mq, mqm, tyf, mqt, b31, (ix23 o28), e34, e35, e36, e37, e38, e39, e40, e41, e42, d43, nm, seval]
   replace h := kR14 _ h
   try dsimp only at h
   obtain rfl := kF _ h
   exact zae Tryz.results132 rfl
 simp only [d13, hs] at h
 rcases o45 : (zbh x0_x x2_coat x3_day (List.length x0_x.CoatSheet.Dry : Int)) with _ | r44
 ·simp only [o45, hs] at h
  exact absurd h kN
 simp only [o45, hs] at h
 simp only [vz, mq, mqm, tyf, mqt, e8, e9, e10, e11, e12, d13, nm, seval]
 refine ktree (args0 := [.agg (cGcoatsums x0_x), .lit (.int .i64 x2_coat), .lit (.int .i64 x3_day), .lit (.int .i64 (List.length x0_x.CoatSheet.Dry : Int))]) (by first | (simp only [nrm, tynrm, mqr] <;> rfl) | rfl) (by simp only [tre, tytre, mqr, Bool.and_self]) (zfa _ _ _ _ _ o45) ?_
 refine zam (fun tm => tm 21 = .lit (.bool r44) ∧ True) (by refine ⟨?_, trivial⟩ <;> first | (simp only [ua, zeu, e8, e9, e10, e11, e12, d13, nm, seval] <;> rfl) | rfl) ?_
 rintro tm ⟨e46, _⟩
 try simp only [vz, mq, mqm, tyf, mqt, d13, e46, nm, seval]
 obtain rfl := kF _ h
 exact zae Tryz.results132 rfl
end Go.V
end
section
namespace Go.V
open Go Go.Proofs
def zbp (x0_x : Gcoatsums) (c0_13 : Int) : List Int → Int → (List (Gcoatlaying × Bool)) → Option (LOut (List (Gcoatlaying × Bool)) ((List (Gcoatlaying × Bool))))
 | [], c1_27, c1_o0 => some (.go c1_o0)
 | e1 :: p1, c1_27, c1_o0 => Option.bind (zce x0_x c1_o0 (IntKind.i64.wrap ((IntKind.i64.wrap ((List.length x0_x.CoatSheet.Coats : Int) - 1)) - c0_13)) e1) (fun r5 => zbp x0_x c0_13 p1 (c1_27 + 1) (mapSet q121 c1_o0 (Gcoatlaying.mk (IntKind.i64.wrap ((IntKind.i64.wrap ((List.length x0_x.CoatSheet.Coats : Int) - 1)) - c0_13)) e1) r5))
def zbo (x0_x : Gcoatsums) : List GCoatCoat → Int → (List (Gcoatlaying × Bool)) → Option (LOut (List (Gcoatlaying × Bool)) ((List (Gcoatlaying × Bool))))
 | [], c0_13, c0_o0 => some (.go c0_o0)
 | e0 :: p0, c0_13, c0_o0 => cond (lenOk x0_x.CoatSheet.Work) (lbind (zbp x0_x c0_13 x0_x.CoatSheet.Work 0 c0_o0) (fun r7 => some (.ret r7)) (fun c6 => zbo x0_x p0 (c0_13 + 1) c6) (fun _ _ => none)) none
def zbx (x0_x : Gcoatsums) : Option (List (Gcoatlaying × Bool)) := cond (lenOk x0_x.CoatSheet.Coats) (lbind (zbo x0_x x0_x.CoatSheet.Coats 0 ([] : List (Gcoatlaying × Bool))) (fun r9 => some r9) (fun c8 => some c8) (fun _ _ => none)) none
theorem ziu (x0_x : Gcoatsums) (R : List (Gcoatlaying × Bool)) (h : zbx x0_x = some R) : VPure Tryz.prog G0 104 [.agg (cGcoatsums x0_x)] (.tree (.mt (mtK kv121 R) (mtV ev4 R))) := by
 refine VPure.runM mixed Tryz.call104 Tryz.func104 rfl (by simp [Tryz.ntmps104]; kernel_rfl) ?_
 obtain ⟨KF, h, kF, kN⟩ := zan h
 simp only [zbx] at h
 cases g11 : (lenOk x0_x.CoatSheet.Coats)
 ·simp only [g11, hs] at h
  exact absurd h kN
 simp only [g11, hs] at h
 simp only [vz, mq, mqm, tyf, mqt, g11, nm, seval]
 obtain ⟨K10, h, kR10, kG10, kB10, kN10⟩ := zap h kN
 obtain ⟨f10, hf10, h⟩ := call3 h
 obtain ⟨I10, hI10⟩ : ∃ I : Nat → St → Prop, I = (fun m st => ∃ (p10 : List GCoatCoat) (c10_13 : Int) (c10_o0 : List (Gcoatlaying × Bool)), m = List.length p10 ∧ 0 ≤ c10_13 ∧ List.drop (Int.toNat c10_13) x0_x.CoatSheet.Coats = p10 ∧ st.df = [] ∧ 9 ≤ st.nx ∧ st.H 0 = some (.cells (some 81) (cGcoatsums x0_x)) ∧ st.H 2 = some (.map (encM kv121 ev4 c10_o0)) ∧ st.tm 1 = .ptr 0 0 ∧ st.tm 3 = .mp 2 ∧ st.tm 12 = .lit (.int .i64 (List.length x0_x.CoatSheet.Coats : Int)) ∧ st.tm 13 = .lit (.int .i64 c10_13) ∧ K10 (f10 p10 c10_13 c10_o0)) := ⟨_, rfl⟩
 refine loopK mixed (by kernel_rfl) I10 (List.length x0_x.CoatSheet.Coats) (by rw [hI10]; refine ⟨x0_x.CoatSheet.Coats, 0, ([] : List (Gcoatlaying × Bool)), rfl, Int.le_refl _, rfl, rfl, (show 9 ≤ 9 by omega), ?_, ?_, ?_, ?_, ?_, ?_, h⟩ <;> first | (simp only [ua, zeu, nm, seval] <;> rfl) | rfl) ?_
 rintro m ⟨tm, H, nx10, df⟩ hinv
 rw [hI10] at hinv
 obtain ⟨p10, c10_13, c10_o0, rfl, hi10, hp10, hdf, hn10, H12, H13, e14, e15, e16, e17, h⟩ := hinv
 simp only at hdf hn10 H12 H13 e14 e15 e16 e17
 have n18 := zbr (m := 9) (b := nx10) (by omega)
 subst hdf hf10
 cases p10 with
 | nil =>
  have d19 : (decide (c10_13 < (List.length x0_x.CoatSheet.Coats : Int))) = false := zaf hi10 hp10
  simp only [zbo, hs, reduceCtorEq] at h
  replace h := kG10 _ h
  try dsimp only at h
  try simp only [hs] at h
  try simp only [vz, mq, mqm, tyf, mqt, g11, n18, e14, e15, e16, e17, H12, H13, d19, nm, seval]
  refine zbt (x := (.mp 2)) (by first | (simp only [Tryz.results104, resV, resL, resV1, zcq, zev, uw, cr, tyf, mqt, g11, n18, H12, H13, d19, nm, seval] <;> rfl) | rfl) ?_
  obtain rfl := kF _ h
  refine zarn et4 ?_
  ·simp only [uw, zeu, cr, tyf, mqt, g11, n18, e14, e15, e16, e17, H12, H13, d19, nm, seval] <;> rfl
 | cons e10 p10 =>
  have d20 : (decide (c10_13 < (List.length x0_x.CoatSheet.Coats : Int))) = true := zao hi10 hp10
  have o22 := zad hi10 hp10
  have w21 := zat hi10 hp10 g11
  simp only [zbo, hs, reduceCtorEq] at h
  cases g24 : (lenOk x0_x.CoatSheet.Work)
  ·simp only [g24, hs] at h
   exact absurd h kN10
  simp only [g24, hs] at h
  simp only [vz, mq, mqm, tyf, mqt, g11, n18, e14, e15, e16, e17, H12, H13, d20, (ix24 o22), w21, g24, nm, seval]
  obtain ⟨K23, h, kR23, kG23, kB23, kN23⟩ := zap h kN10
  obtain ⟨f23, hf23, h⟩ := call3 h
  obtain ⟨I23, hI23⟩ : ∃ I : Nat → St → Prop, I = (fun m st => ∃ (p23 : List Int) (c23_27 : Int) (c23_o0 : List (Gcoatlaying × Bool)), m = List.length p23 ∧ 0 ≤ c23_27 ∧ List.drop (Int.toNat c23_27) x0_x.CoatSheet.Work = p23 ∧ st.df = [] ∧ nx10 + 16 ≤ st.nx ∧ st.H 0 = some (.cells (some 81) (cGcoatsums x0_x)) ∧ st.H 2 = some (.map (encM kv121 ev4 c23_o0)) ∧ st.tm 1 = .ptr 0 0 ∧ st.tm 3 = .mp 2 ∧ st.tm 5 = .lit (.int .i64 (IntKind.i64.wrap ((IntKind.i64.wrap ((List.length x0_x.CoatSheet.Coats : Int) - 1)) - c10_13))) ∧ st.tm 12 = .lit (.int .i64 (List.length x0_x.CoatSheet.Coats : Int)) ∧ st.tm 13 = .lit (.int .i64 c10_13) ∧ st.tm 25 = .sl (cellsL eI x0_x.CoatSheet.Work) (List.length x0_x.CoatSheet.Work) false ∧ st.tm 26 = .lit (.int .i64 (List.length x0_x.CoatSheet.Work : Int)) ∧ st.tm 27 = .lit (.int .i64 c23_27) ∧ K23 (f23 p23 c23_27 c23_o0)) := ⟨_, rfl⟩
  refine loopK mixed (by kernel_rfl) I23 (List.length x0_x.CoatSheet.Work) (by rw [hI23]; refine ⟨x0_x.CoatSheet.Work, 0, c10_o0, rfl, Int.le_refl _, rfl, rfl, (show nx10 + 16 ≤ nx10 + 16 by omega), ?_, ?_, e14, e15, ?_, e16, e17, ?_, ?_, ?_, h⟩ <;> first | (simp only [ua, zeu, n18, e14, e15, e16, e17, H12, H13, d20, w21, nm, seval] <;> rfl) | rfl) ?_
  rintro m ⟨tm, H, nx23, df⟩ hinv
  rw [hI23] at hinv
  obtain ⟨p23, c23_27, c23_o0, rfl, hi23, hp23, hdf, hn23, H25, H26, e27, e28, e29, e30, e31, e32, e33, e34, h⟩ := hinv
  simp only at hdf hn23 H25 H26 e27 e28 e29 e30 e31 e32 e33 e34
  have n35 := zbr (m := 9) (b := nx23) (by omega)
  have n36 := zaay (a := nx10) (m := 16) (b := nx23) (by omega)
  subst hdf hf23
  cases p23 with
  | nil =>
   have d37 : (decide (c23_27 < (List.length x0_x.CoatSheet.Work : Int))) = false := zaf hi23 hp23
   simp only [zbp, hs, reduceCtorEq] at h
   replace h := kG23 _ h
   try dsimp only at h
   try simp only [hs] at h
   simp only [vz, mq, mqm, tyf, mqt, g11, n18, d20, (ix24 o22), w21, g24, n35, n36, e27, e28, e29, e30, e31, e32, e33, e34, H25, H26, d37, nm, seval]
   exact ⟨List.length p10, Nat.lt_succ_self _, by rw [hI10]; refine ⟨p10, c10_13 + 1, c23_o0, rfl, Int.le_trans hi10 (Int.le_add_one (Int.le_refl _)), zac hi10 hp10, rfl, (show 9 ≤ nx23 + 3 by omega), ?_, ?_, e27, e28, e30, ?_, h⟩ <;> first | (simp only [ua, zeu, n18, d20, w21, n35, n36, e27, e28, e29, e30, e31, e32, e33, e34, H25, H26, d37, nm, seval] <;> rfl) | rfl⟩
  | cons e23 p23 =>
   have d38 : (decide (c23_27 < (List.length x0_x.CoatSheet.Work : Int))) = true := zao hi23 hp23
   have o40 := zad hi23 hp23
   have w39 := zat hi23 hp23 g24
   simp only [zbp, hs, reduceCtorEq] at h
   rcases o42 : (zce x0_x c23_o0 (IntKind.i64.wrap ((IntKind.i64.wrap ((List.length x0_x.CoatSheet.Coats : Int) - 1)) - c10_13)) e23) with _ | r41
   ·simp only [o42, hs] at h
    exact absurd h kN23
   simp only [o42, hs] at h
   simp only [vz, mq, mqm, tyf, mqt, g11, n18, d20, (ix24 o22), w21, g24, n35, n36, e27, e28, e29, e30, e31, e32, e33, e34, H25, H26, d38, (ix23 o40), w39, nm, seval]
   refine kseen (args0 := [.agg (cGcoatsums x0_x), .mt (mtK kv121 c23_o0) (mtV ev4 c23_o0), .lit (.int .i64 (IntKind.i64.wrap ((IntKind.i64.wrap ((List.length x0_x.CoatSheet.Coats : Int) - 1)) - c10_13))), .lit (.int .i64 e23)]) (by simp only [List.map_cons, List.map_nil, zabf, zba, zab, zaa, cr, tyf, mqt, nrm, tynrm, g11, n18, d20, (ix24 o22), w21, g24, n35, n36, e27, e28, e29, e30, e31, e32, e33, e34, H25, H26, d38, (ix23 o40), w39, nm, seval] <;> rfl) (by simp only [List.map_cons, List.map_nil, zabf, zba, zab, zaa, cr, tyf, mqt, nrm, tynrm, g11, n18, d20, (ix24 o22), w21, g24, n35, n36, e27, e28, e29, e30, e31, e32, e33, e34, H25, H26, d38, (ix23 o40), w39, nm, seval]; simp only [tre, tytre, mqr, Bool.and_self]) (zji _ _ _ _ _ o42) (by first | rfl | simp only [VV.flat, flatL, Bool.and_self]) ?_
   refine zam (fun tm => tm 1 = .ptr 0 0 ∧ tm 3 = .mp 2 ∧ tm 5 = .lit (.int .i64 (IntKind.i64.wrap ((IntKind.i64.wrap ((List.length x0_x.CoatSheet.Coats : Int) - 1)) - c10_13))) ∧ tm 12 = .lit (.int .i64 (List.length x0_x.CoatSheet.Coats : Int)) ∧ tm 13 = .lit (.int .i64 c10_13) ∧ tm 25 = .sl (cellsL eI x0_x.CoatSheet.Work) (List.length x0_x.CoatSheet.Work) false ∧ tm 26 = .lit (.int .i64 (List.length x0_x.CoatSheet.Work : Int)) ∧ tm 27 = .lit (.int .i64 c23_27) ∧ tm 31 = .mp 2 ∧ tm 34 = .agg ([.lit (.int .i64 (IntKind.i64.wrap ((IntKind.i64.wrap ((List.length x0_x.CoatSheet.Coats : Int) - 1)) - c10_13)))] ++ [.lit (.int .i64 e23)]) ∧ tm 39 = .lit (.bool r41) ∧ True) (by refine ⟨e27, e28, e29, e30, e31, e32, e33, e34, ?_, ?_, ?_, trivial⟩ <;> first | (simp only [ua, zeu, n18, d20, w21, n35, n36, e27, e28, e29, e30, e31, e32, e33, e34, H25, H26, d38, w39, nm, seval] <;> rfl) | rfl) ?_
   rintro tm ⟨e43, e44, e45, e46, e47, e48, e49, e50, e51, e52, e53, _⟩
   have b54 := And.intro g11 (And.intro n18 (And.intro d20 (And.intro w21 (And.intro g24 (And.intro n35 (And.intro n36 (And.intro H25 (And.intro H26 (And.intro d38 w39)))))))))
   have w55 := fun H => up117 (β := 2) c23_o0 (Gcoatlaying.mk (IntKind.i64.wrap ((IntKind.i64.wrap ((List.length x0_x.CoatSheet.Coats : Int) - 1)) - c10_13)) e23) r41 H
   try simp only [zeu] at w55
   simp only [vz, mq, mqm, tyf, mqt, b54, (ix24 o22), (ix23 o40), e43, e44, e45, e46, e47, e48, e49, e50, e51, e52, e53, w55, nm, seval]
   exact ⟨List.length p23, Nat.lt_succ_self _, by rw [hI23]; refine ⟨p23, c23_27 + 1, (mapSet q121 c23_o0 (Gcoatlaying.mk (IntKind.i64.wrap ((IntKind.i64.wrap ((List.length x0_x.CoatSheet.Coats : Int) - 1)) - c10_13)) e23) r41), rfl, Int.le_trans hi23 (Int.le_add_one (Int.le_refl _)), zac hi23 hp23, rfl, (show nx10 + 16 ≤ nx23 + 16 by omega), ?_, ?_, e43, e44, e45, e46, e47, e48, e49, ?_, h⟩ <;> first | (simp only [ua, zeu, b54, e43, e44, e45, e46, e47, e48, e49, e50, e51, e52, e53, w55, nm, seval] <;> rfl) | rfl⟩
end Go.V
end
section
namespace Go.V
open Go Go.Proofs
def zcm (x0_plan : List Int) (x1_day : Int) (x2_a2 : List (Gcoatlaying × Bool)) (x3_a3 : Gcoatsums) : Option (Bool) := cond (mapGet q121 false x2_a2 (Gcoatlaying.mk (List.length x0_plan : Int) x1_day)) (cond ((List.length x0_plan : Int) == 0) (some true) (Option.bind (getI x0_plan (IntKind.i64.wrap ((List.length x0_plan : Int) - 1))) (fun x1 => Option.bind (zbh x3_a3 (IntKind.i64.wrap ((List.length x0_plan : Int) - 1)) x1 x1_day) (fun r2 => some r2)))) (some false)
theorem zih (x0_plan : List Int) (x1_day : Int) (x2_a2 : List (Gcoatlaying × Bool)) (x3_a3 : Gcoatsums) (R : Bool) (h : zcm x0_plan x1_day x2_a2 x3_a3 = some R) : VPure Tryz.prog G0 106 [.sl (cellsL eI x0_plan) (List.length x0_plan) false, .lit (.int .i64 x1_day), .tp ([.mt (mtK kv121 x2_a2) (mtV ev4 x2_a2)]), .tp (cGcoatsums x3_a3)] (.tree (.lit (.bool R))) := by
 refine VPure.runR mixed Tryz.call106 Tryz.func106 rfl (by simp [Tryz.ntmps106]; kernel_rfl) ?_
 obtain ⟨KF, h, kF, kN⟩ := zan h
 simp only [zcm] at h
 simp only [vz, mq, mqm, tyf, mqt, nm, seval]
 refine zbl (fun tm => tm 0 = .sl (cellsL eI x0_plan) (List.length x0_plan) false ∧ tm 1 = .lit (.int .i64 x1_day) ∧ tm 2 = .tp ([.mt (mtK kv121 x2_a2) (mtV ev4 x2_a2)]) ∧ tm 3 = .tp (cGcoatsums x3_a3) ∧ tm 7 = .lit (.int .i64 (List.length x0_plan : Int)) ∧ True) (by refine ⟨?_, ?_, ?_, ?_, ?_, trivial⟩ <;> first | (simp only [ua, zeu, nm, seval] <;> rfl) | rfl) ?_
 rintro tm ⟨e3, e4, e5, e6, e7, _⟩
 cases d8 : (mapGet q121 false x2_a2 (Gcoatlaying.mk (List.length x0_plan : Int) x1_day))
 ·simp only [d8, hs] at h
  try simp only [vz, mq, mqm, tyf, mqt, e3, e4, e5, e6, e7, d8, nm, seval]
  obtain rfl := kF _ h
  exact zae Tryz.results106 rfl
 simp only [d8, hs] at h
 cases d9 : ((List.length x0_plan : Int) == 0)
 ·simp only [d9, hs] at h
  rcases o11 : (getI x0_plan (IntKind.i64.wrap ((List.length x0_plan : Int) - 1))) with _ | x10
  ·simp only [o11, hs] at h
   exact absurd h kN
  simp only [o11, hs] at h
  rcases o13 : (zbh x3_a3 (IntKind.i64.wrap ((List.length x0_plan : Int) - 1)) x10 x1_day) with _ | r12
  ·simp only [o13, hs] at h
   exact absurd h kN
  simp only [o13, hs] at h
  simp only [vz, mq, mqm, tyf, mqt, e3, e4, e5, e6, e7, d8, d9, (ix23 o11), nm, seval]
  refine dktree (args0 := [.agg (cGcoatsums x3_a3), .lit (.int .i64 (IntKind.i64.wrap ((List.length x0_plan : Int) - 1))), .lit (.int .i64 x10), .lit (.int .i64 x1_day)]) (by first | (simp only [nrm, tynrm, mqr] <;> rfl) | rfl) (by simp only [tre, tytre, mqr, Bool.and_self]) (zfa _ _ _ _ _ o13) ?_
  refine zam (fun tm => tm 15 = .lit (.bool true) ∧ tm 18 = .lit (.bool false) ∧ tm 28 = .lit (.bool r12) ∧ True) (by refine ⟨?_, ?_, ?_, trivial⟩ <;> first | (simp only [ua, zeu, e3, e4, e5, e6, e7, d8, d9, nm, seval] <;> rfl) | rfl) ?_
  rintro tm ⟨e14, e15, e16, _⟩
  try simp only [vz, mq, mqm, tyf, mqt, d8, d9, (ix23 o11), e14, e15, e16, nm, seval]
  obtain rfl := kF _ h
  exact zae Tryz.results106 rfl
 simp only [d9, hs] at h
 try simp only [vz, mq, mqm, tyf, mqt, e3, e4, e5, e6, e7, d8, d9, nm, seval]
 obtain rfl := kF _ h
 exact zae Tryz.results106 rfl
end Go.V
end
section
namespace Go.V
open Go Go.Proofs
theorem zamd {mc : List VV} {mf : Nat} {ln lim : Int} (htm : treeL mc = true) : VPure Tryz.prog G0 105 [.lit (.int .i64 ln), .lit (.int .i64 lim), .fn (.func mf) [] mc] (.tree (.fn (.func 133) [] [.tp [.lit (.int .i64 ln)], .tp [.lit (.int .i64 lim)], .tp [.fn (.func mf) [] mc]])) := by
 refine VPure.run mixed Tryz.call105 Tryz.func105 rfl (by simp [Tryz.ntmps105]; kernel_rfl) ?_
 simp only [vz, tyf, seval, ua, rg]
 refine ⟨rfl, .fn (.func 133) [] [.ptr 0 0, .ptr 1 0, .ptr 2 0], by simp [Tryz.results105, resV, resL, resV1, upd], 20, ?_⟩
 simp [sealV, sealL, VV.tree, treeL, updH, htm]
def mayC (x : Gcoatsums) (k : List (Gcoatlaying × Bool)) : List VV := [.tp [.mt (mtK kv121 k) (mtV ev4 k)], .tp (cGcoatsums x)]
def itP (x : Gcoatsums) (k : List (Gcoatlaying × Bool)) : VV := .fn (.func 133) [] [.tp [.lit (.int .i64 (List.length x.CoatSheet.Coats))], .tp [.lit (.int .i64 (List.length x.CoatSheet.Dry))], .tp [.fn (.func 106) [] (mayC x k)]]
theorem zkl {x : Gcoatsums} {k : List (Gcoatlaying × Bool)} : treeL (mayC x k) = true := by
 have h : treeL (mtV ev4 k) = true := zsb et4 k
 have h2 : treeL (cGcoatsums x) = true := zaq.tree x
 simp [mayC, treeL, VV.tree, h, h2]
theorem zakb (x : Gcoatsums) (k : List (Gcoatlaying × Bool)) (hk : zbx x = some k) : VPure Tryz.prog G0 60 [.agg (cGcoatsums x)] (.tree (itP x k)) := by
 refine VPure.run mixed Tryz.call60 Tryz.func60 rfl (by simp [Tryz.ntmps60]; kernel_rfl) ?_
 simp only [vz, mq, mqm, tyf, mqt, seval, ua]
 refine ktree (args0 := [.agg (cGcoatsums x)]) (by first | (simp only [nrm, tynrm] <;> rfl) | rfl) (by simp only [tre, tytre, Bool.and_self]) (ziu _ _ hk) ?_
 simp only [vz, mq, mqm, tyf, mqt, seval, ua, rg]
 refine kopen ?_
 rw [zku]
 have h0 : treeL (mtV ev4 k) = true := zsb et4 k
 have ht1 : treeL [VV.mt (mtK kv121 k) (mtV ev4 k)] = true := by simp [treeL, VV.tree, h0]
 have ht2 : treeL (cGcoatsums x) = true := zaq.tree x
 refine VOpen.mono (VOpen.freezeN [4, 0] ?_ (args' := [.lit (.int .i64 (List.length x.CoatSheet.Coats)), .lit (.int .i64 (List.length x.CoatSheet.Dry)), .fn (.func 106) [] (mayC x k)]) ⟨.same, .same, Frozen.closure [(4, [.mt (mtK kv121 k) (mtV ev4 k)]), (0, cGcoatsums x)] 20 (by simp) ?_, trivial⟩ (VOpen.of_pure (zamd zkl) (by have h9 : treeL (mayC x k) = true := zkl; simp [treeL, VV.tree, h9]))) ?_ (fun _ _ _ h => h.elim)
 ·intro γ hγ
  rcases List.mem_cons.1 hγ with rfl | hγ
  ·exact ⟨some 117, [.mt (mtK kv121 k) (mtV ev4 k)], by simp [updH]⟩
  rw [List.mem_singleton.1 hγ]
  exact ⟨some 81, cGcoatsums x, by simp [updH, cGcoatsums]⟩
 ·intro p hp
  rcases List.mem_cons.1 hp with rfl | hp
  ·exact ⟨⟨some 117, by simp [updH]⟩, by simp [lessN], ht1, by simp⟩
  rw [List.mem_singleton.1 hp]
  exact ⟨⟨some 81, by simp [updH, cGcoatsums]⟩, by simp [lessN], ht2, by simp [cGcoatsums]⟩
 rintro v H2 nx2 ⟨rfl, rfl, rfl⟩
 simp only [vz, tyf, seval, ua]
 refine ⟨rfl, itP x k, by simp [Tryz.results60, resV, resL, resV1, upd]; rfl, 2, ?_⟩
 have h9 : treeL (mayC x k) = true := zkl
 simp [sealV, itP, VV.tree, treeL, h9]
def smallOk (n m : Nat) : Bool := decide (0 < n) && (decide (n < 1000) && decide (m < 1000000))
def zdo (x : Gcoatsums) : Option (List (List Int)) := Option.bind (zbx x) fun k => cond (smallOk (List.length x.CoatSheet.Coats) (List.length x.CoatSheet.Dry)) (listsO (fun p j => zcm p j k x) (List.length x.CoatSheet.Dry) (List.length x.CoatSheet.Coats) []) none
theorem zmk (x : Gcoatsums) (R : List (List Int)) (h : zdo x = some R) : ∃ itv : VV, itv.tree = true ∧ VPure Tryz.prog G0 60 [.agg (cGcoatsums x)] (.tree itv) ∧ Iter Tryz.prog G0 itv (R.map sI) := by
 unfold zdo at h
 rcases hk : zbx x with _ | k
 ·rw [hk] at h; cases h
 rw [hk, Option.bind_some] at h
 cases hs : smallOk (List.length x.CoatSheet.Coats) (List.length x.CoatSheet.Dry) with
 | false => rw [hs] at h; cases h
 | true =>
 rw [hs, cond_true] at h
 simp only [smallOk, Bool.and_eq_true, decide_eq_true_eq] at hs
 have h9 : treeL (mayC x k) = true := zkl
 refine ⟨itP x k, by simp [itP, VV.tree, treeL, h9], zakb x k hk, ?_⟩
 exact zadj zkl hs.1 hs.2.1 hs.2.2 h (fun p j b hb => zih p j k x b hb)
end Go.V
end
section
namespace Go.V
open Go Go.Proofs
def headE (L : List (List Int)) : List Int × Int := match L with
 | [] => ([], 5)
 | l :: _ => (l, 0)
def zmw (s : GCoatSheet) : Option (List Int × Int) := Option.bind (zdu s) fun b => cond b (Option.bind (zdq s) fun x => Option.bind (zdo x) fun L => some (headE L)) (some ([], 2))
end Go.V
end
section
namespace Go.V
open Go Go.Proofs
set_option linter.unusedSimpArgs false
set_option linter.unusedVariables false
set_option maxRecDepth 4000
set_option maxHeartbeats 4000000
end Go.V
end
section
namespace Go.V
open Go Go.Proofs
set_option linter.unusedSimpArgs false
set_option linter.unusedVariables false
set_option maxRecDepth 4000
set_option maxHeartbeats 4000000
end Go.V
end
section
set_option linter.unusedVariables false
namespace Go.V
open Go
def stepsB (m : List Int → Int → Bool) (lim : Nat) : List Int → List Int → Bool
 | _, [] => true
 | p, j :: t => (decide (0 ≤ j) && decide (j < (lim : Int))) && (m p j && stepsB m lim (p ++ [j]) t)
theorem zim {m : List Int → Int → Bool} {lim : Nat} : ∀ (d : Nat) (p q : List Int), q ∈ listsB m lim d p ↔ ∃ t, q = p ++ t ∧ t.length = d ∧ stepsB m lim p t = true
 | 0, p, q => by
  rw [listsB, List.mem_singleton]
  constructor
  ·rintro rfl; exact ⟨[], by simp, rfl, rfl⟩
  ·rintro ⟨t, rfl, ht, _⟩
   rw [List.length_eq_zero_iff.1 ht, List.append_nil]
 | d + 1, p, q => by
  rw [listsB, List.mem_flatMap]
  constructor
  ·rintro ⟨i, hi, h⟩
   have hi' := (List.mem_range'_1.1 hi).2
   split at h
   ·rename_i hm
    obtain ⟨t, rfl, ht, hs⟩ := (zim d _ q).1 h
    exact ⟨(i : Int) :: t, by simp, by simp [ht], by simp only [stepsB, hm, hs, Bool.and_true, Bool.and_eq_true, decide_eq_true_eq]; omega⟩
   ·cases h
  ·rintro ⟨t, rfl, ht, hs⟩
   cases t with
   | nil => simp at ht
   | cons j t =>
    simp only [stepsB, Bool.and_eq_true, decide_eq_true_eq] at hs
    obtain ⟨⟨h0, h1⟩, h2, h3⟩ := hs
    refine ⟨j.toNat, List.mem_range'_1.2 ⟨Nat.zero_le _, by omega⟩, ?_⟩
    rw [show ((j.toNat : Nat) : Int) = j by omega, if_pos h2]
    exact (zim d _ _).2 ⟨t, by simp, by simpa using ht, h3⟩
def lexL : List Int → List Int → Prop
 | a :: x, b :: y => a < b ∨ a = b ∧ lexL x y
 | [], _ :: _ => True
 | _, [] => False
theorem zaas (p : List Int) {x y : List Int} : lexL (p ++ x) (p ++ y) ↔ lexL x y := by
 induction p with
 | nil => exact Iff.rfl
 | cons a p ih =>
  show (a < a ∨ a = a ∧ lexL (p ++ x) (p ++ y)) ↔ _
  rw [ih]
  constructor
  ·rintro (h | h)
   ·omega
   ·exact h.2
  ·exact fun h => .inr ⟨rfl, h⟩
theorem zpm : ∀ {x : List Int}, ¬ lexL x x
 | [], h => h
 | a :: x, h => by
  rcases h with h | ⟨_, h⟩
  ·omega
  ·exact zpm h
theorem zog : ∀ {x y z : List Int}, lexL x y → lexL y z → lexL x z
 | [], [], _, h, _ => h.elim
 | [], _ :: _, [], _, h => h.elim
 | [], _ :: _, _ :: _, _, _ => trivial
 | _ :: _, [], _, h, _ => h.elim
 | _ :: _, _ :: _, [], _, h => h.elim
 | a :: x, b :: y, c :: z, h, k => by
  rcases h with h | ⟨rfl, h⟩ <;> rcases k with k | ⟨rfl, k⟩
  ·exact .inl (by omega)
  ·exact .inl h
  ·exact .inl k
  ·exact .inr ⟨rfl, zog h k⟩
theorem zjn {m : List Int → Int → Bool} {lim : Nat} : ∀ (d : Nat) (p : List Int), (listsB m lim d p).Pairwise lexL
 | 0, p => by rw [listsB]; exact List.pairwise_singleton _ _
 | d + 1, p => by
  rw [listsB, List.pairwise_flatMap]
  refine ⟨fun i _ => ?_, ?_⟩
  ·split
   ·exact zjn d _
   ·exact List.Pairwise.nil
  ·refine List.Pairwise.imp ?_ (List.pairwise_lt_range' (s := 0) (n := lim))
   intro i j hij x hx y hy
   split at hx
   ·split at hy
    ·obtain ⟨t, rfl, _, _⟩ := (zim d _ _).1 hx
     obtain ⟨u, rfl, _, _⟩ := (zim d _ _).1 hy
     rw [List.append_assoc, List.append_assoc, zaas]
     exact .inl (by omega)
    ·cases hy
   ·cases hx
section
variable {K V : Type} {q : K → K → Bool} {z : V}
def getR (q : K → K → Bool) (z : V) (k : K) : List (K × V) → V
 | [] => z
 | e :: l => if q k e.1 then e.2 else getR q z k l
def setR (q : K → K → Bool) (k : K) (v : V) : List (K × V) → List (K × V)
 | [] => [(k, v)]
 | e :: l => if q k e.1 then (k, v) :: l else e :: setR q k v l
theorem zva (k : K) : ∀ (es : List K) (i : Nat), kIdx q k es (i + 1) = (kIdx q k es i).map (· + 1)
 | [], _ => rfl
 | e :: es, i => by
  unfold kIdx
  cases q k e with
  | true => rfl
  | false => exact zva k es (i + 1)
theorem zrc (k : K) : ∀ l : List (K × V), mapGet q z l k = getR q z k l
 | [] => rfl
 | e :: l => by
  have ih := zrc k l
  unfold mapGet at ih ⊢
  rw [List.map_cons]
  unfold kIdx getR
  cases hq : q k e.1 with
  | true => rfl
  | false =>
   simp only [cond_false, Bool.false_eq_true, if_false]
   rw [zva]
   cases h : kIdx q k (l.map (·.1)) 0 with
   | none => rw [h] at ih; exact ih
   | some i => rw [h] at ih; simpa using ih
theorem zvy (k : K) (v : V) : ∀ l : List (K × V), mapSet q l k v = setR q k v l
 | [] => rfl
 | e :: l => by
  have ih := zvy k v l
  unfold mapSet at ih ⊢
  rw [List.map_cons]
  unfold kIdx setR
  cases hq : q k e.1 with
  | true => rfl
  | false =>
   simp only [cond_false, Bool.false_eq_true, if_false]
   rw [zva]
   cases h : kIdx q k (l.map (·.1)) 0 with
   | none => rw [h] at ih; simpa using ih
   | some i => rw [h] at ih; simpa using ih
theorem zwm (hq : ∀ a b, q a b = true ↔ a = b) (k k' : K) (v : V) : ∀ l : List (K × V), getR q z k' (setR q k v l) = if q k' k then v else getR q z k' l
 | [] => rfl
 | e :: l => by
  have ih := zwm hq k k' v l
  unfold setR
  cases he : q k e.1 with
  | true =>
   have e1 := (hq _ _).1 he
   simp only [if_true, getR, ← e1]
   split <;> rfl
  | false =>
   simp only [Bool.false_eq_true, if_false, getR, ih]
   cases h1 : q k' e.1 with
   | true =>
    have e1 := (hq _ _).1 h1
    have : q k' k = false := by
     cases h2 : q k' k with
     | false => rfl
     | true =>
      have e2 := (hq _ _).1 h2
      rw [e2] at e1
      rw [e1, (hq _ _).2 rfl] at he
      cases he
    rw [this]
    simp
   | false => simp
theorem zabk (hq : ∀ a b, q a b = true ↔ a = b) (k k' : K) (v : V) (l : List (K × V)) : mapGet q z (mapSet q l k v) k' = if q k' k then v else mapGet q z l k' := by
 rw [zrc, zrc, zvy, zwm hq]
end
end Go.V
end
section
namespace Go.V
open Go
set_option linter.unusedVariables false
set_option linter.unusedSimpArgs false
theorem zvg (a b : Gcoatlaying) : q121 a b = true ↔ a = b := by
 obtain ⟨a1, a2⟩ := a
 obtain ⟨b1, b2⟩ := b
 simp [q121]
def kGet (l : List (Gcoatlaying × Bool)) (c d : Int) : Bool := mapGet q121 false l (Gcoatlaying.mk c d)
theorem zakg (l : List (Gcoatlaying × Bool)) (c d c' d' : Int) (v : Bool) : kGet (mapSet q121 l (Gcoatlaying.mk c d) v) c' d' = if c' = c ∧ d' = d then v else kGet l c' d' := by
 unfold kGet
 rw [zabk zvg]
 by_cases h : c' = c ∧ d' = d
 ·rw [if_pos h, if_pos]
  rw [zvg, h.1, h.2]
 ·rw [if_neg h, if_neg]
  rw [zvg]
  intro e
  cases e
  exact h ⟨rfl, rfl⟩
def dryOk (lo hi : Int → Int) (k : GCoatCoat) (last : Bool) (a b : Int) : Bool := decide (a < b) && (!decide (lo b - lo a < k.Need) && (last || !decide (hi b - hi a > k.Peel)))
def GS (lo hi : Int → Int) (n : Int) (W : List Int) : List GCoatCoat → Int → Bool
 | [], _ => false
 | [k], a => dryOk lo hi k true a n
 | k :: k2 :: cs, a => W.any fun b => GS lo hi n W (k2 :: cs) b && dryOk lo hi k false a b
structure ShOk (s : GCoatSheet) : Prop where
 dk : DOk s.Dry
 c : 1 ≤ s.Coats.length ∧ s.Coats.length ≤ 5
 w : ∀ d ∈ s.Work, 0 ≤ d ∧ d ≤ (s.Dry.length : Int) - 1
 wl : lenOk s.Work = true
 u : upB s.Work = true
theorem zaek : ∀ (l : List Int) (a n : Int), upB (a :: l) = true → (∀ d ∈ a :: l, d ≤ n) → a + l.length ≤ n
 | [], a, n, _, h => by have := h a (by simp); simp; omega
 | b :: l, a, n, hu, h => by
  rw [zil] at hu
  simp only [Bool.and_eq_true, decide_eq_true_eq] at hu
  have := zaek l b n hu.2 (fun d hd => h d (List.mem_cons_of_mem _ hd))
  simp only [List.length_cons]
  omega
theorem ShOk.of {s : GCoatSheet} (h : sheetB s = true) : ShOk s := by
 unfold sheetB incB dayB at h
 simp only [Bool.and_eq_true, zkg, List.all_eq_true, decide_eq_true_eq] at h
 have hw : ∀ d ∈ s.Work, 0 ≤ d ∧ d ≤ (s.Dry.length : Int) - 1 := fun d hd => h.2.1.2 d hd
 refine ⟨⟨h.1.2, by omega⟩, by omega, hw, ?_, h.2.1.1⟩
 cases hW : s.Work with
 | nil => rfl
 | cons a l =>
  have h1 := zaek l a ((s.Dry.length : Int) - 1) (by rw [← hW]; exact h.2.1.1) (fun d hd => (hw d (by rw [hW]; exact hd)).2)
  have h2 := hw a (by rw [hW]; simp)
  exact zet (by simp only [List.length_cons]; omega)
section
variable {s : GCoatSheet} (h : ShOk s)
abbrev loS (s : GCoatSheet) : Int → Int := SI (lowsL s.Dry)
abbrev hiS (s : GCoatSheet) : Int → Int := SI (highsL s.Dry)
abbrev GSs (s : GCoatSheet) : List GCoatCoat → Int → Bool := GS (loS s) (hiS s) s.Dry.length s.Work
include h
theorem zqb {c a b : Int} {k : GCoatCoat} {cs : List GCoatCoat} (h0 : 0 ≤ c) (hk : s.Coats.drop c.toNat = k :: cs) (ha : 0 ≤ a ∧ a ≤ s.Dry.length) (hb : 0 ≤ b ∧ b ≤ s.Dry.length) :
  zbh (sumsOf s) c a b = some (dryOk (loS s) (hiS s) k cs.isEmpty a b) := by
 have hcl : lenOk (sumsOf s).CoatSheet.Coats = true := zet (show s.Coats.length < _ by have := h.c; omega)
 have hk' : (sumsOf s).CoatSheet.Coats.drop c.toNat = k :: cs := hk
 have e1 := zalt (x := sumsOf s) (lo := loS s) (fun k h0 h1 => zaeu h0 h1) (SI_bd h.dk.low) ha hb
 have e2 := zyx (x := sumsOf s) (hi := hiS s) (fun k h0 h1 => zaeu h0 h1) (SI_bd h.dk.high) ha hb
 have e3 := zxo (x := sumsOf s) hcl (p := cs.map fun _ => (0 : Int)) h0 hk' (by simp)
 have e4 : (cs.map fun _ => (0 : Int)).isEmpty = cs.isEmpty := by cases cs <;> rfl
 rw [e4] at e3
 unfold zbh dryOk
 rw [e1, zad h0 hk', e3, e2]
 simp only [Option.bind_some]
 cases decide (a < b) <;> cases decide (loS s b - loS s a < k.Need) <;> cases cs.isEmpty <;> cases decide (hiS s b - hiS s a > k.Peel) <;> rfl
theorem zwn {M : List (Gcoatlaying × Bool)} {c a : Int} {k k2 : GCoatCoat} {cs : List GCoatCoat} (h0 : 0 ≤ c) (hk : s.Coats.drop c.toNat = k :: k2 :: cs) (ha : 0 ≤ a ∧ a ≤ s.Dry.length) : ∀ (p : List Int) (i : Int), (∀ b ∈ p, 0 ≤ b ∧ b ≤ (s.Dry.length : Int)) →
  zbj (sumsOf s) M c a p i = cond (p.any fun b => kGet M (c + 1) b && dryOk (loS s) (hiS s) k false a b) (some (.ret true)) (some (.go ()))
 | [], _, _ => rfl
 | b :: p, i, hp => by
  have hc := h.c
  have hlen := zng hk
  have hb := hp b (by simp)
  have ih := zwn (M := M) h0 hk ha p (i + 1) (fun d hd => hp d (List.mem_cons_of_mem _ hd))
  rw [zbj, wrap_eq (by omega) (by omega), zqb h h0 hk ha hb, ih, List.any_cons]
  simp only [Option.bind_some, List.isEmpty_cons, kGet]
  cases mapGet q121 false M (Gcoatlaying.mk (c + 1) b) <;> cases dryOk (loS s) (hiS s) k false a b <;> rfl
theorem zahq {M : List (Gcoatlaying × Bool)} {c a : Int} {k : GCoatCoat} {cs : List GCoatCoat} (h0 : 0 ≤ c) (hk : s.Coats.drop c.toNat = k :: cs) (ha : 0 ≤ a ∧ a ≤ s.Dry.length) :
  zce (sumsOf s) M c a = some (if cs.isEmpty then dryOk (loS s) (hiS s) k true a s.Dry.length else s.Work.any fun b => kGet M (c + 1) b && dryOk (loS s) (hiS s) k false a b) := by
 have hcl : lenOk (sumsOf s).CoatSheet.Coats = true := zet (show s.Coats.length < _ by have := h.c; omega)
 have hk' : (sumsOf s).CoatSheet.Coats.drop c.toNat = k :: cs := hk
 have e3 := zxo (x := sumsOf s) hcl (p := cs.map fun _ => (0 : Int)) h0 hk' (by simp)
 have e4 : (cs.map fun _ => (0 : Int)).isEmpty = cs.isEmpty := by cases cs <;> rfl
 rw [e4] at e3
 unfold zce
 rw [e3]
 simp only [Option.bind_some]
 cases cs with
 | nil =>
  rw [show ((sumsOf s).CoatSheet.Dry.length : Int) = (s.Dry.length : Int) from rfl, zqb h h0 hk ha ⟨by omega, Int.le_refl _⟩]
  rfl
 | cons k2 cs =>
  have hW : lenOk (sumsOf s).CoatSheet.Work = true := h.wl
  rw [hW, show (sumsOf s).CoatSheet.Work = s.Work from rfl, zwn h h0 hk ha s.Work 0 (fun b hb => by have := h.w b hb; omega)]
  simp only [List.isEmpty_cons, cond_false, cond_true, Bool.false_eq_true, if_false]
  cases s.Work.any fun b => kGet M (c + 1) b && dryOk (loS s) (hiS s) k false a b <;> rfl
def InvK (s : GCoatSheet) (M : List (Gcoatlaying × Bool)) (b : Int) (pre : List Int) : Prop := ∀ c d, kGet M c d = true ↔ ((b ≤ c ∧ c < s.Coats.length ∧ d ∈ s.Work) ∨ (c = b - 1 ∧ d ∈ pre)) ∧ GSs s (s.Coats.drop c.toNat) d = true
theorem zaib {M : List (Gcoatlaying × Bool)} {c a : Int} {pre : List Int} (h0 : 0 ≤ c) (h1 : c < s.Coats.length) (hM : InvK s M (c + 1) pre) (ha : 0 ≤ a ∧ a ≤ s.Dry.length) : zce (sumsOf s) M c a = some (GSs s (s.Coats.drop c.toNat) a) := by
 obtain ⟨k, hk⟩ : ∃ k, s.Coats[c.toNat]? = some k := ⟨_, List.getElem?_eq_getElem (by omega)⟩
 have hd : s.Coats.drop c.toNat = k :: s.Coats.drop (c.toNat + 1) := by
  obtain ⟨hlt, rfl⟩ := List.getElem?_eq_some_iff.1 hk
  exact List.drop_eq_getElem_cons hlt
 rw [zahq h h0 hd ha, hd]
 cases hc : s.Coats.drop (c.toNat + 1) with
 | nil => rfl
 | cons k2 cs =>
  simp only [List.isEmpty_cons, Bool.false_eq_true, if_false, GSs, GS, Option.some.injEq]
  have hlen : c.toNat + 1 < s.Coats.length := by
   have := congrArg List.length hc
   rw [List.length_drop, List.length_cons] at this
   omega
  rw [Bool.eq_iff_iff, List.any_eq_true, List.any_eq_true]
  have key : ∀ b ∈ s.Work, kGet M (c + 1) b = GS (loS s) (hiS s) s.Dry.length s.Work (k2 :: cs) b := by
   intro b hb
   rw [Bool.eq_iff_iff, hM (c + 1) b, show (c + 1).toNat = c.toNat + 1 by omega, hc]
   constructor
   ·exact fun h => h.2
   ·exact fun h => ⟨.inl ⟨Int.le_refl _, by omega, hb⟩, h⟩
  constructor
  ·rintro ⟨b, hb, hh⟩
   rw [key b hb] at hh
   exact ⟨b, hb, hh⟩
  ·rintro ⟨b, hb, hh⟩
   rw [← key b hb] at hh
   exact ⟨b, hb, hh⟩
theorem zsr {c0 b : Int} (h0 : 0 ≤ c0) (h1 : c0 < s.Coats.length) (hb : b = s.Coats.length - c0) : ∀ (p : List Int) (i : Int) (pre : List Int) (M : List (Gcoatlaying × Bool)), pre ++ p = s.Work → InvK s M b pre →
  ∃ M', zbp (sumsOf s) c0 p i M = some (.go M') ∧ InvK s M' b s.Work
 | [], i, pre, M, hp, hM => by
  rw [List.append_nil] at hp
  subst hp
  exact ⟨M, rfl, hM⟩
 | a :: p, i, pre, M, hp, hM => by
  have hc := h.c
  have ha := h.w a (by rw [← hp]; simp)
  have hw1 : IntKind.i64.wrap ((IntKind.i64.wrap (((sumsOf s).CoatSheet.Coats.length : Int) - 1)) - c0) = b - 1 := by
   have e : IntKind.i64.wrap ((s.Coats.length : Int) - 1) = (s.Coats.length : Int) - 1 := wrap_eq (by omega) (by omega)
   rw [show ((sumsOf s).CoatSheet.Coats.length : Int) = (s.Coats.length : Int) from rfl, e, wrap_eq (by omega) (by omega)]
   omega
  rw [zbp, hw1, zaib h (c := b - 1) (by omega) (by omega) (pre := pre) (by rw [show b - 1 + 1 = b by omega]; exact hM) (by omega), Option.bind_some]
  refine zsr h0 h1 hb p (i + 1) (pre ++ [a]) _ (by rw [← hp]; simp) ?_
  intro c d
  rw [zakg]
  by_cases he : c = b - 1 ∧ d = a
  ·obtain ⟨rfl, rfl⟩ := he
   rw [if_pos ⟨rfl, rfl⟩]
   constructor
   ·exact fun hh => ⟨.inr ⟨rfl, by simp⟩, hh⟩
   ·exact fun hh => hh.2
  ·rw [if_neg he, hM c d]
   constructor
   ·rintro ⟨hh | hh, h2⟩
    ·exact ⟨.inl hh, h2⟩
    ·exact ⟨.inr ⟨hh.1, List.mem_append.2 (.inl hh.2)⟩, h2⟩
   ·rintro ⟨hh | hh, h2⟩
    ·exact ⟨.inl hh, h2⟩
    ·rcases List.mem_append.1 hh.2 with hm | hm
     ·exact ⟨.inr ⟨hh.1, hm⟩, h2⟩
     ·exact absurd ⟨hh.1, List.mem_singleton.1 hm⟩ he
theorem zrv : ∀ (p : List GCoatCoat) (c0 : Int) (M : List (Gcoatlaying × Bool)), 0 ≤ c0 → c0 + p.length = s.Coats.length → InvK s M (s.Coats.length - c0) [] →
  ∃ M', zbo (sumsOf s) p c0 M = some (.go M') ∧ InvK s M' 0 []
 | [], c0, M, h0, hl, hM => by
  have hl : c0 = s.Coats.length := by simpa using hl
  refine ⟨M, rfl, ?_⟩
  have : (s.Coats.length : Int) - c0 = 0 := by omega
  rw [this] at hM
  exact hM
 | k :: p, c0, M, h0, hl, hM => by
  simp only [List.length_cons] at hl
  obtain ⟨M1, e1, hM1⟩ := zsr h h0 (by omega) rfl s.Work 0 [] M rfl hM
  have hM2 : InvK s M1 (s.Coats.length - (c0 + 1)) [] := by
   intro c d
   rw [hM1 c d]
   constructor
   ·rintro ⟨hh | hh, h2⟩
    ·exact ⟨.inl ⟨by omega, hh.2⟩, h2⟩
    ·exact ⟨.inl ⟨by omega, by omega, hh.2⟩, h2⟩
   ·rintro ⟨hh | hh, h2⟩
    ·by_cases hc : c = s.Coats.length - c0 - 1
     ·exact ⟨.inr ⟨hc, hh.2.2⟩, h2⟩
     ·exact ⟨.inl ⟨by omega, hh.2⟩, h2⟩
    ·exact absurd hh.2 (by simp)
  obtain ⟨M2, e2, hM3⟩ := zrv p (c0 + 1) M1 (by omega) (by omega) hM2
  refine ⟨M2, ?_, hM3⟩
  have hW : lenOk (sumsOf s).CoatSheet.Work = true := h.wl
  rw [zbo, hW, show (sumsOf s).CoatSheet.Work = s.Work from rfl, e1]
  exact e2
theorem zadq : ∃ M, zbx (sumsOf s) = some M ∧ ∀ c d, kGet M c d = true ↔ (0 ≤ c ∧ c < s.Coats.length ∧ d ∈ s.Work) ∧ GSs s (s.Coats.drop c.toNat) d = true := by
 have hc := h.c
 obtain ⟨M, e, hM⟩ := zrv h s.Coats 0 [] (Int.le_refl _) (by omega) (by
  intro c d
  constructor
  ·intro hh; cases hh
  ·rintro ⟨hh | hh, _⟩
   ·omega
   ·exact absurd hh.2 (by simp))
 refine ⟨M, ?_, fun c d => ?_⟩
 ·unfold zbx
  rw [show (sumsOf s).CoatSheet.Coats = s.Coats from rfl, zet (by omega), e]
  rfl
 ·rw [hM c d]
  constructor
  ·rintro ⟨hh | hh, h2⟩
   ·exact ⟨hh, h2⟩
   ·exact absurd hh.2 (by simp)
  ·exact fun hh => ⟨.inl hh.1, hh.2⟩
def mayP (s : GCoatSheet) (M : List (Gcoatlaying × Bool)) (p : List Int) (j : Int) : Bool := kGet M p.length j && match p.getLast?, s.Coats.drop (p.length - 1) with
 | some a, k :: _ => dryOk (loS s) (hiS s) k false a j
 | _, _ => true
theorem zagm {M : List (Gcoatlaying × Bool)} {p : List Int} {j : Int} (hp : p.length < s.Coats.length) (hd : ∀ a ∈ p, 0 ≤ a ∧ a < (s.Dry.length : Int)) (h0 : 0 ≤ j) (h1 : j < (s.Dry.length : Int)) : zcm p j M (sumsOf s) = some (mayP s M p j) := by
 have hc := h.c
 unfold zcm mayP
 rw [show mapGet q121 false M (Gcoatlaying.mk (p.length : Int) j) = kGet M p.length j from rfl]
 cases hk : kGet M p.length j with
 | false => rfl
 | true =>
 rcases List.eq_nil_or_concat p with rfl | ⟨q, a, rfl⟩
 ·rfl
 ·have hl : (q ++ [a]).length = q.length + 1 := by simp
  rw [List.concat_eq_append] at *
  have hne : (((q ++ [a]).length : Int) == 0) = false := by rw [hl]; exact beq_false_of_ne (by omega)
  have hw : IntKind.i64.wrap (((q ++ [a]).length : Int) - 1) = (q.length : Int) := by rw [wrap_eq (by omega) (by omega)]; omega
  have hg : getI (q ++ [a]) (q.length : Int) = some a := by
   refine zad (post := []) (by omega) ?_
   rw [show ((q.length : Int)).toNat = q.length by omega, List.drop_left]
  obtain ⟨k, hk2⟩ : ∃ k, s.Coats[q.length]? = some k := ⟨_, List.getElem?_eq_getElem (by omega)⟩
  have hdr : s.Coats.drop q.length = k :: s.Coats.drop (q.length + 1) := by
   obtain ⟨hlt, rfl⟩ := List.getElem?_eq_some_iff.1 hk2
   exact List.drop_eq_getElem_cons hlt
  have ha := hd a (by simp)
  have hem : (s.Coats.drop (q.length + 1)).isEmpty = false := by
   cases hcc : s.Coats.drop (q.length + 1) with
   | nil =>
    have := congrArg List.length hcc
    rw [List.length_drop, List.length_nil] at this
    omega
   | cons _ _ => rfl
  have e := zqb h (c := (q.length : Int)) (a := a) (b := j) (by omega) (by rw [show ((q.length : Int)).toNat = q.length by omega]; exact hdr) (by omega) (by omega)
  rw [hem] at e
  rw [hne, hw, hg]
  simp only [cond_true, cond_false, Option.bind_some, e, hl, Nat.add_sub_cancel, hdr, List.getLast?_append, List.getLast?_singleton, Option.some_or, Bool.true_and]
end
end Go.V
end
section
namespace Go.V
open Go
set_option linter.unusedVariables false
set_option linter.unusedSimpArgs false
def CHN (lo hi : Int → Int) (n : Int) (W : List Int) : List GCoatCoat → List Int → Prop
 | [], [] => True
 | [k], [a] => a ∈ W ∧ dryOk lo hi k true a n = true
 | k :: k2 :: cs, a :: b :: t => a ∈ W ∧ dryOk lo hi k false a b = true ∧ CHN lo hi n W (k2 :: cs) (b :: t)
 | _, _ => False
section
variable {lo hi : Int → Int} {n : Int} {W : List Int}
theorem zacf : ∀ {cs : List GCoatCoat} {a : Int} {t : List Int}, CHN lo hi n W cs (a :: t) → a ∈ W
 | [_], _, [], h => h.1
 | _ :: _ :: _, _, _ :: _, h => h.1
 | [], _, _, h => h.elim
 | [_], _, _ :: _, h => h.elim
 | _ :: _ :: _, _, [], h => h.elim
theorem zapi : ∀ {cs : List GCoatCoat} {a : Int} {t : List Int}, CHN lo hi n W cs (a :: t) → GS lo hi n W cs a = true
 | [_], _, [], h => h.2
 | k :: k2 :: cs, a, b :: t, h => by
  rw [GS, List.any_eq_true]
  exact ⟨b, zacf h.2.2, by rw [zapi h.2.2, h.2.1]; rfl⟩
 | [], _, _, h => h.elim
 | [_], _, _ :: _, h => h.elim
 | _ :: _ :: _, _, [], h => h.elim
theorem zmn {k : GCoatCoat} {l : Bool} {a b : Int} : dryOk lo hi k l a b = true ↔ a < b ∧ decide (lo b - lo a < k.Need) = false ∧ (l = true ∨ decide (hi b - hi a > k.Peel) = false) := by
 unfold dryOk
 simp only [Bool.and_eq_true, decide_eq_true_eq, Bool.not_eq_true', Bool.or_eq_true]
theorem zaaa (hW : ∀ d ∈ W, d < n) : ∀ (cs : List GCoatCoat) (q : List Int) (i : Int), q.length = cs.length → (CHN lo hi n W cs q ↔ (∀ d ∈ q, d ∈ W) ∧ upB q = true ∧ failW lo hi n q cs i = none)
 | [], [], i, _ => by simp [CHN, upB, failW]
 | [], _ :: _, i, h => by simp at h
 | _ :: _, [], i, h => by simp at h
 | [k], [a], i, _ => by
  rw [show failW lo hi n [a] [k] i = cond (decide (lo n - lo a < k.Need)) (some (i, 1)) none from rfl, CHN, zmn]
  simp only [List.mem_singleton, forall_eq]
  constructor
  ·rintro ⟨h1, h2, h3, _⟩
   exact ⟨h1, rfl, by rw [h3]; rfl⟩
  ·rintro ⟨h1, _, h3⟩
   refine ⟨h1, hW a h1, ?_, .inl trivial⟩
   cases hd : decide (lo n - lo a < k.Need) with
   | false => rfl
   | true => rw [hd] at h3; cases h3
 | [k], _ :: _ :: _, i, h => by simp at h
 | _ :: _ :: _, [_], i, h => by simp at h
 | k :: k2 :: cs, a :: b :: t, i, h => by
  have ih := zaaa hW (k2 :: cs) (b :: t) (i + 1) (by simpa using h)
  rw [CHN, ih, zmn, zil]
  simp only [List.mem_cons, forall_eq_or_imp, Bool.and_eq_true, decide_eq_true_eq, Bool.false_eq_true, false_or]
  rw [show failW lo hi n (a :: b :: t) (k :: k2 :: cs) i = cond (decide (lo b - lo a < k.Need)) (some (i, 1)) (cond (decide (hi b - hi a > k.Peel)) (some (i, 2)) (failW lo hi n (b :: t) (k2 :: cs) (i + 1))) from rfl]
  constructor
  ·rintro ⟨h1, ⟨h2, h3, h4⟩, h5, h6, h7⟩
   exact ⟨⟨h1, h5⟩, ⟨h2, h6⟩, by rw [h3, h4]; exact h7⟩
  ·rintro ⟨⟨h1, h5⟩, ⟨h2, h6⟩, h7⟩
   cases hd : decide (lo b - lo a < k.Need) with
   | true => rw [hd] at h7; cases h7
   | false =>
    cases hd2 : decide (hi b - hi a > k.Peel) with
    | true => rw [hd, hd2] at h7; cases h7
    | false =>
     rw [hd, hd2] at h7
     exact ⟨h1, ⟨h2, rfl, rfl⟩, h5, h6, h7⟩
end
section
variable {s : GCoatSheet} (h : ShOk s)
abbrev CHs (s : GCoatSheet) : List GCoatCoat → List Int → Prop := CHN (loS s) (hiS s) s.Dry.length s.Work
def prevB (s : GCoatSheet) (p : List Int) (j : Int) : Bool := match p.getLast?, s.Coats.drop (p.length - 1) with
 | some a, k :: _ => dryOk (loS s) (hiS s) k false a j
 | _, _ => true
include h
theorem steps_iff {M : List (Gcoatlaying × Bool)} (hM : ∀ c d, kGet M c d = true ↔ (0 ≤ c ∧ c < s.Coats.length ∧ d ∈ s.Work) ∧ GSs s (s.Coats.drop c.toNat) d = true) : ∀ (t p : List Int) (cs : List GCoatCoat), s.Coats.drop p.length = cs → t.length = cs.length →
  (stepsB (mayP s M) s.Dry.length p t = true ↔ (∀ j t', t = j :: t' → prevB s p j = true) ∧ CHs s cs t)
 | [], p, cs, hcs, hl => by
  have : cs = [] := List.length_eq_zero_iff.1 hl.symm
  subst this
  simp [stepsB, CHs, CHN]
 | j :: t, p, [], hcs, hl => by simp at hl
 | j :: t, p, k :: cs, hcs, hl => by
  have hlen := zng hcs
  have hd1 : s.Coats.drop (p ++ [j]).length = cs := by
   rw [show (p ++ [j]).length = p.length + 1 by simp, ← List.drop_drop, hcs]
   rfl
  have ih := steps_iff hM t (p ++ [j]) cs hd1 (by simpa using hl)
  have hpv : ∀ b, prevB s (p ++ [j]) b = dryOk (loS s) (hiS s) k false j b := by
   intro b
   unfold prevB
   rw [show (p ++ [j]).length - 1 = p.length by simp, hcs]
   simp
  have hmy : mayP s M p j = (kGet M p.length j && prevB s p j) := rfl
  have hk : kGet M p.length j = true ↔ j ∈ s.Work ∧ GSs s (k :: cs) j = true := by
   rw [hM, show ((p.length : Int)).toNat = p.length by omega, hcs]
   constructor
   ·exact fun hh => ⟨hh.1.2.2, hh.2⟩
   ·exact fun hh => ⟨⟨by omega, by omega, hh.1⟩, hh.2⟩
  simp only [stepsB, Bool.and_eq_true, decide_eq_true_eq, ih, hmy, hk]
  constructor
  ·rintro ⟨⟨h0, h1⟩, ⟨⟨hw, hg⟩, hp⟩, h2, h3⟩
   refine ⟨fun j' t' e => by cases e; exact hp, ?_⟩
   cases t with
   | nil =>
    cases cs with
    | nil => exact ⟨hw, hg⟩
    | cons _ _ => simp at hl
   | cons b t =>
    cases cs with
    | nil => simp at hl
    | cons k2 cs =>
     have := h2 b t rfl
     rw [hpv] at this
     exact ⟨hw, this, h3⟩
  ·rintro ⟨hp, hc⟩
   have hw : j ∈ s.Work := zacf hc
   have hb := h.w j hw
   refine ⟨⟨hb.1, by omega⟩, ⟨⟨hw, zapi hc⟩, hp j t rfl⟩, ?_⟩
   cases t with
   | nil =>
    cases cs with
    | nil => exact ⟨fun _ _ e => (by cases e), trivial⟩
    | cons _ _ => simp at hl
   | cons b t =>
    cases cs with
    | nil => simp at hl
    | cons k2 cs => exact ⟨fun j' t' e => by cases e; rw [hpv]; exact hc.2.1, hc.2.2⟩
theorem zamk : ∃ L, zdo (sumsOf s) = some L ∧ (∀ q, q ∈ L ↔ planB s q = true ∧ sureB s.Dry s.Coats q = true) ∧ L.Pairwise lexL ∧ ∃ m, L = listsB m s.Dry.length s.Coats.length [] ∧ ∀ p j, m p j = true → j ∈ s.Work ∧ (∀ a, p.getLast? = some a → p.length ≤ s.Coats.length → a < j) := by
 have hc := h.c
 have hd := h.dk.l
 obtain ⟨M, e1, hM⟩ := zadq h
 have e2 : listsO (fun p j => zcm p j M (sumsOf s)) s.Dry.length s.Coats.length [] = some (listsB (mayP s M) s.Dry.length s.Coats.length []) :=
  zxg (ln := s.Coats.length) (fun p j h1 h2 h3 h4 => zagm h h1 h2 h3 h4) s.Coats.length [] (by simp) (by simp)
 refine ⟨listsB (mayP s M) s.Dry.length s.Coats.length [], ?_, fun q => ?_, zjn _ _, mayP s M, rfl, ?_⟩
 ·unfold zdo
  rw [e1, Option.bind_some, show (sumsOf s).CoatSheet.Coats = s.Coats from rfl, show (sumsOf s).CoatSheet.Dry = s.Dry from rfl, e2]
  have : smallOk s.Coats.length s.Dry.length = true := by simp only [smallOk, Bool.and_eq_true, decide_eq_true_eq]; omega
  rw [this]; rfl
 ·rw [zim]
  constructor
  ·rintro ⟨t, ht0, ht, hs⟩
   rw [List.nil_append] at ht0
   subst ht0
   have h2 := ((steps_iff h hM q [] s.Coats rfl ht).1 hs).2
   obtain ⟨h3, h4, h5⟩ := (zaaa (fun d hd => by have := h.w d hd; omega) s.Coats q 0 ht).1 h2
   refine ⟨?_, by unfold sureB worstW; rw [h5]; rfl⟩
   unfold planB incB dayB
   simp only [Bool.and_eq_true, decide_eq_true_eq, List.all_eq_true, zkg, List.contains_iff_mem]
   exact ⟨⟨ht, h4, fun d hd => h.w d (h3 d hd)⟩, h3⟩
  ·rintro ⟨h1, h2⟩
   unfold planB incB dayB at h1
   simp only [Bool.and_eq_true, decide_eq_true_eq, List.all_eq_true, zkg, List.contains_iff_mem] at h1
   refine ⟨q, rfl, h1.1.1, ?_⟩
   rw [steps_iff h hM q [] s.Coats rfl h1.1.1]
   refine ⟨fun j t' e => rfl, ?_⟩
   refine (zaaa (fun d hd => by have := h.w d hd; omega) s.Coats q 0 h1.1.1).2 ?_
   refine ⟨h1.2, h1.1.2.1, ?_⟩
   unfold sureB worstW at h2
   cases hf : failW (SI (lowsL s.Dry)) (SI (highsL s.Dry)) (s.Dry.length : Int) q s.Coats 0 with
   | none => rfl
   | some r => rw [hf] at h2; cases h2
 ·intro p j hm
  unfold mayP at hm
  rw [Bool.and_eq_true, hM] at hm
  refine ⟨hm.1.1.2.2, fun a ha hl => ?_⟩
  have hm2 := hm.2
  rw [ha] at hm2
  have hpl : 1 ≤ p.length := by
   cases p with
   | nil => cases ha
   | cons _ _ => simp
  cases hcc : s.Coats.drop (p.length - 1) with
  | nil =>
   have := congrArg List.length hcc
   rw [List.length_drop, List.length_nil] at this
   omega
  | cons k cs =>
   rw [hcc] at hm2
   exact (zmn.1 hm2).1
end
end Go.V
end
section
namespace Go.V
open Go Go.Proofs
end Go.V
end
section
namespace Go.V
open Go Go.Proofs
end Go.V
end
section
namespace Go.V
open Go Go.Proofs
end Go.V
end
section
namespace Go.V
open Go
set_option linter.unusedVariables false
set_option linter.unusedSimpArgs false
structure PlansL (s : GCoatSheet) (L : List (List Int)) : Prop where
 it : zdo (sumsOf s) = some L
 mem : ∀ q, q ∈ L ↔ planB s q = true ∧ sureB s.Dry s.Coats q = true
 pw : L.Pairwise lexL
 ch : ∃ m, L = listsB m s.Dry.length s.Coats.length [] ∧ ∀ p j, m p j = true → j ∈ s.Work ∧ (∀ a, p.getLast? = some a → p.length ≤ s.Coats.length → a < j)
theorem zamm {s : GCoatSheet} (hs : OkS s) (h1 : sheetB s = true) : ∃ L, PlansL s L ∧ zmw s = some (headE L) := by
 have h := ShOk.of h1
 obtain ⟨L, e, hL, hp, hm⟩ := zamk h
 refine ⟨L, ⟨e, hL, hp, hm⟩, ?_⟩
 unfold zmw
 rw [znf hs, h1, Option.bind_some, cond_true, zwj h.dk, Option.bind_some, e]
 rfl
end Go.V
end
section
namespace Go.V
open Go Go.Proofs
end Go.V
end
section
namespace Go.V
open Go Go.Proofs
end Go.V
end
section
namespace Go.V
open Go Go.Proofs
end Go.V
end
section
namespace Go.V
open Go
def ltL : List Int → List Int → Bool
 | a :: x, b :: y => cond (a != b) (decide (a < b)) (ltL x y)
 | _, _ => false
structure FP (cs : List GCoatCoat) (p : List Int) (pre : List Int) (rest : List GSpan) (r : List Int) : Prop where
 i : inW rest r = true
 f : sureB ((pre ++ r).map ptS) cs p = false
 m : ∀ w, inW rest w = true → sureB ((pre ++ w).map ptS) cs p = false → ltL w r = false
section
variable {cs : List GCoatCoat} {p : List Int} {wk : List Int} {n : Nat} (hn : n ≤ 12) (hc : 1 ≤ cs.length ∧ cs.length ≤ 5) (hl : p.length = cs.length) (hu : upB p = true) (hr : ∀ x ∈ p, 0 ≤ x ∧ x ≤ (n : Int) - 1)
include hn hc hl hu hr
end
end Go.V
end
section
namespace Go.V
open Go Go.Proofs
end Go.V
end
