/- Part of a proof. -/
import Derived.Test.YtekhjalgmlflpaaGreatDoorTbi
set_option linter.all false
set_option maxRecDepth 4000
set_option maxHeartbeats 40000000
section
namespace Go.V
open Go Go.Proofs
def zaf (x0_x : Gm) (x1_years : Int) (x3_has : GSpan) (r1 : Int) : Nat → Int → Option (LOut (Bool) (Int))
 | 0, _ => none
 | k2 + 1, c2_10 => cond (decide (c2_10 ≤ x0_x.sh.Fade.a2.High)) (Option.bind (zcr x0_x.sh.Old.a2 x1_years c2_10) (fun r8 => cond (decide ((IntKind.i64.wrap ((IntKind.i64.wrap (r1 * r8)) - (IntKind.i64.wrap (r1 * x0_x.sh.Off)))) ≤ x3_has.High)) (cond (decide (x3_has.Low ≤ (IntKind.i64.wrap ((IntKind.i64.wrap (r1 * r8)) + (IntKind.i64.wrap (r1 * x0_x.sh.Off)))))) (some (.ret true)) (zaf x0_x x1_years x3_has r1 k2 (IntKind.i64.wrap (c2_10 + 1)))) (zaf x0_x x1_years x3_has r1 k2 (IntKind.i64.wrap (c2_10 + 1))))) (some (.go c2_10))
def zag (x0_x : Gm) (x1_years : Int) (x3_has : GSpan) (r1 : Int) : Nat → Int → Option (LOut (Bool) (Int))
 | 0, _ => none
 | k1 + 1, c1_10 => cond (decide (c1_10 ≤ x0_x.sh.Fade.a1.High)) (Option.bind (zcr x0_x.sh.Old.a1 x1_years c1_10) (fun r5 => cond (decide ((IntKind.i64.wrap ((IntKind.i64.wrap (r1 * r5)) - (IntKind.i64.wrap (r1 * x0_x.sh.Off)))) ≤ x3_has.High)) (cond (decide (x3_has.Low ≤ (IntKind.i64.wrap ((IntKind.i64.wrap (r1 * r5)) + (IntKind.i64.wrap (r1 * x0_x.sh.Off)))))) (some (.ret true)) (zag x0_x x1_years x3_has r1 k1 (IntKind.i64.wrap (c1_10 + 1)))) (zag x0_x x1_years x3_has r1 k1 (IntKind.i64.wrap (c1_10 + 1))))) (some (.go c1_10))
def zah (x0_x : Gm) (x1_years : Int) (x3_has : GSpan) (r1 : Int) : Nat → Int → Option (LOut (Bool) (Int))
 | 0, _ => none
 | k0 + 1, c0_10 => cond (decide (c0_10 ≤ x0_x.sh.Fade.a0.High)) (Option.bind (zcr x0_x.sh.Old.a0 x1_years c0_10) (fun r2 => cond (decide ((IntKind.i64.wrap ((IntKind.i64.wrap (r1 * r2)) - (IntKind.i64.wrap (r1 * x0_x.sh.Off)))) ≤ x3_has.High)) (cond (decide (x3_has.Low ≤ (IntKind.i64.wrap ((IntKind.i64.wrap (r1 * r2)) + (IntKind.i64.wrap (r1 * x0_x.sh.Off)))))) (some (.ret true)) (zah x0_x x1_years x3_has r1 k0 (IntKind.i64.wrap (c0_10 + 1)))) (zah x0_x x1_years x3_has r1 k0 (IntKind.i64.wrap (c0_10 + 1))))) (some (.go c0_10))
def zbd (x0_x : Gm) (x1_years : Int) (xpg2 : Int) (x3_has : GSpan) : Option (Bool) := Option.bind (zcj x0_x) (fun r1 => cond (xpg2 == 0) (lbind (zah x0_x x1_years x3_has r1 1000000 x0_x.sh.Fade.a0.Low) (fun r4 => some r4) (fun c3 => some false) (fun _ _ => none)) (cond (xpg2 == 1) (lbind (zag x0_x x1_years x3_has r1 1000000 x0_x.sh.Fade.a1.Low) (fun r7 => some r7) (fun c6 => some false) (fun _ _ => none)) (cond (xpg2 == 2) (lbind (zaf x0_x x1_years x3_has r1 1000000 x0_x.sh.Fade.a2.Low) (fun r10 => some r10) (fun c9 => some false) (fun _ _ => none)) (none))))
theorem zdk (x0_x : Gm) (x1_years : Int) (xpg2 : Int) (x3_has : GSpan) (R : Bool) (h : zbd x0_x x1_years xpg2 x3_has = some R) : VPure Tryz.prog G0 122 [.agg (cGm x0_x), .lit (.int .i64 x1_years), .lit (.int .i64 xpg2), .agg (cGSpan x3_has)] (.tree (.lit (.bool R))) := by
 refine VPure.runR mixed Tryz.call122 Tryz.func122 rfl (by simp [Tryz.ntmps122]; kernel_rfl) ?_
 obtain ⟨KF, h, kF, kN⟩ := zaj h
 simp only [zbd] at h
 obtain ⟨r11, o12, h⟩ := optI h kN
 try simp only [hs] at h
 simp only [vz, tyf, nm, seval]
 refine ktA (zef _ _ o12) ?_
 refine zac (fun tm => tm 1 = .lit (.int .i64 x1_years) ∧ tm 2 = .lit (.int .i64 xpg2) ∧ tm 4 = .ptr 0 0 ∧ tm 7 = .ptr 1 0 ∧ tm 13 = .lit (.int .i64 r11) ∧ True) (by refine ⟨?_, ?_, ?_, ?_, ?_, trivial⟩ <;> first | (simp only [ua, nm, seval] <;> rfl) | rfl) ?_
 rintro tm ⟨e13, e14, e15, e16, e17, _⟩
 cases d18 : (xpg2 == 0)
 ·simp only [d18, hs] at h
  cases d19 : (xpg2 == 1)
  ·simp only [d19, hs] at h
   cases d20 : (xpg2 == 2)
   ·simp only [d20, hs] at h
    exact absurd h kN
   simp only [d20, hs] at h
   simp only [vz, tyf, e13, e14, e15, e16, e17, d18, d19, d20, (zfz d20), nm, seval]
   obtain ⟨K21, h, kR21, kG21, kB21, kN21⟩ := zau h kN
   obtain ⟨f21, hf21, h⟩ := call2 h
   obtain ⟨I21, hI21⟩ : ∃ I : Nat → St → Prop, I = (fun m st => ∃ (p21 : Nat) (c21_10 : Int), p21 = m ∧ st.df = [] ∧ 13 ≤ st.nx ∧ st.H 0 = some (.cells (some 89) (cGm x0_x)) ∧ st.H 1 = some (.cells (some 24) (cGSpan x3_has)) ∧ st.tm 1 = .lit (.int .i64 x1_years) ∧ st.tm 2 = .lit (.int .i64 xpg2) ∧ st.tm 4 = .ptr 0 0 ∧ st.tm 7 = .ptr 1 0 ∧ st.tm 9 = .lit (.int .i64 r11) ∧ st.tm 10 = .lit (.int .i64 c21_10) ∧ K21 (f21 p21 c21_10)) := ⟨_, rfl⟩
   refine loopK mixed (by kernel_rfl) I21 1000000 (by rw [hI21]; refine ⟨1000000, x0_x.sh.Fade.a2.Low, rfl, rfl, (show 13 ≤ 13 by omega), ?_, ?_, e13, e14, e15, e16, ?_, ?_, h⟩ <;> first | (simp only [ua, e13, e14, e15, e16, e17, d18, d19, d20, nm, seval] <;> rfl) | rfl) ?_
   rintro m ⟨tm, H, nx21, df⟩ hinv
   rw [hI21] at hinv
   obtain ⟨p21, c21_10, rfl, hdf, hn21, H22, H23, e24, e25, e26, e27, e28, e29, h⟩ := hinv
   simp only at hdf hn21 H22 H23 e24 e25 e26 e27 e28 e29
   have n30 := zcf (m := 13) (b := nx21) (by omega)
   subst hdf hf21
   cases p21 with
   | zero =>
    simp only [zah, zag, zaf, hs, reduceCtorEq] at h
    exact absurd h kN21
   | succ p21 =>
    simp only [zah, zag, zaf, hs, reduceCtorEq] at h
    cases d31 : (decide (c21_10 ≤ x0_x.sh.Fade.a2.High))
    ·simp only [d31, hs] at h
     have b32 := And.intro d18 (And.intro d19 (And.intro d20 (And.intro n30 (And.intro H22 (And.intro H23 d31)))))
     replace h := kG21 _ h
     try dsimp only at h
     try simp only [hs] at h
     try simp only [vz, tyf, b32, (zfz d20), e24, e25, e26, e27, e28, e29, nm, seval]
     obtain rfl := kF _ h
     exact zaa Tryz.results122 rfl
    simp only [d31, hs] at h
    have b33 := And.intro d18 (And.intro d19 (And.intro d20 (And.intro n30 (And.intro H22 (And.intro H23 d31)))))
    obtain ⟨r34, o35, h⟩ := optI h kN21
    try simp only [hs] at h
    simp only [vz, tyf, b33, (zfz d20), e24, e25, e26, e27, e28, e29, (zed d20), nm, seval]
    refine ktA (zdl _ _ _ _ o35) ?_
    refine zac (fun tm => tm 1 = .lit (.int .i64 x1_years) ∧ tm 2 = .lit (.int .i64 xpg2) ∧ tm 4 = .ptr 0 0 ∧ tm 7 = .ptr 1 0 ∧ tm 9 = .lit (.int .i64 r11) ∧ tm 10 = .lit (.int .i64 c21_10) ∧ tm 30 = .lit (.int .i64 r11) ∧ tm 38 = .lit (.int .i64 r34) ∧ True) (by refine ⟨e24, e25, e26, e27, e28, e29, ?_, ?_, trivial⟩ <;> first | (simp only [ua, b33, e24, e25, e26, e27, e28, e29, nm, seval] <;> rfl) | rfl) ?_
    rintro tm ⟨e36, e37, e38, e39, e40, e41, e42, e43, _⟩
    cases d44 : (decide ((IntKind.i64.wrap ((IntKind.i64.wrap (r11 * r34)) - (IntKind.i64.wrap (r11 * x0_x.sh.Off)))) ≤ x3_has.High))
    ·simp only [d44, hs] at h
     simp only [vz, tyf, b33, (zfz d20), (zed d20), e36, e37, e38, e39, e40, e41, e42, e43, d44, nm, seval]
     exact ⟨p21, Nat.lt_succ_self _, by rw [hI21]; refine ⟨p21, IntKind.i64.wrap (c21_10 + 1), rfl, rfl, (show 13 ≤ nx21 + 44 by omega), ?_, ?_, e36, e37, e38, e39, e40, ?_, h⟩ <;> first | (simp only [ua, b33, e36, e37, e38, e39, e40, e41, e42, e43, d44, nm, seval] <;> rfl) | rfl⟩
    simp only [d44, hs] at h
    cases d45 : (decide (x3_has.Low ≤ (IntKind.i64.wrap ((IntKind.i64.wrap (r11 * r34)) + (IntKind.i64.wrap (r11 * x0_x.sh.Off))))))
    ·simp only [d45, hs] at h
     simp only [vz, tyf, b33, (zfz d20), (zed d20), e36, e37, e38, e39, e40, e41, e42, e43, d44, d45, nm, seval]
     exact ⟨p21, Nat.lt_succ_self _, by rw [hI21]; refine ⟨p21, IntKind.i64.wrap (c21_10 + 1), rfl, rfl, (show 13 ≤ nx21 + 44 by omega), ?_, ?_, e36, e37, e38, e39, e40, ?_, h⟩ <;> first | (simp only [ua, b33, e36, e37, e38, e39, e40, e41, e42, e43, d44, d45, nm, seval] <;> rfl) | rfl⟩
    simp only [d45, hs] at h
    try simp only [vz, tyf, b33, (zfz d20), (zed d20), e36, e37, e38, e39, e40, e41, e42, e43, d44, d45, nm, seval]
    replace h := kR21 _ h
    try dsimp only at h
    obtain rfl := kF _ h
    exact zaa Tryz.results122 rfl
  simp only [d19, hs] at h
  simp only [vz, tyf, e13, e14, e15, e16, e17, d18, d19, (zga d19), nm, seval]
  obtain ⟨K46, h, kR46, kG46, kB46, kN46⟩ := zau h kN
  obtain ⟨f46, hf46, h⟩ := call2 h
  obtain ⟨I46, hI46⟩ : ∃ I : Nat → St → Prop, I = (fun m st => ∃ (p46 : Nat) (c46_10 : Int), p46 = m ∧ st.df = [] ∧ 13 ≤ st.nx ∧ st.H 0 = some (.cells (some 89) (cGm x0_x)) ∧ st.H 1 = some (.cells (some 24) (cGSpan x3_has)) ∧ st.tm 1 = .lit (.int .i64 x1_years) ∧ st.tm 2 = .lit (.int .i64 xpg2) ∧ st.tm 4 = .ptr 0 0 ∧ st.tm 7 = .ptr 1 0 ∧ st.tm 9 = .lit (.int .i64 r11) ∧ st.tm 10 = .lit (.int .i64 c46_10) ∧ K46 (f46 p46 c46_10)) := ⟨_, rfl⟩
  refine loopK mixed (by kernel_rfl) I46 1000000 (by rw [hI46]; refine ⟨1000000, x0_x.sh.Fade.a1.Low, rfl, rfl, (show 13 ≤ 13 by omega), ?_, ?_, e13, e14, e15, e16, ?_, ?_, h⟩ <;> first | (simp only [ua, e13, e14, e15, e16, e17, d18, d19, nm, seval] <;> rfl) | rfl) ?_
  rintro m ⟨tm, H, nx46, df⟩ hinv
  rw [hI46] at hinv
  obtain ⟨p46, c46_10, rfl, hdf, hn46, H47, H48, e49, e50, e51, e52, e53, e54, h⟩ := hinv
  simp only at hdf hn46 H47 H48 e49 e50 e51 e52 e53 e54
  have n55 := zcf (m := 13) (b := nx46) (by omega)
  subst hdf hf46
  cases p46 with
  | zero =>
   simp only [zah, zag, zaf, hs, reduceCtorEq] at h
   exact absurd h kN46
  | succ p46 =>
   simp only [zah, zag, zaf, hs, reduceCtorEq] at h
   cases d56 : (decide (c46_10 ≤ x0_x.sh.Fade.a1.High))
   ·simp only [d56, hs] at h
    replace h := kG46 _ h
    try dsimp only at h
    try simp only [hs] at h
    try simp only [vz, tyf, d18, d19, (zga d19), n55, e49, e50, e51, e52, e53, e54, H47, H48, d56, nm, seval]
    obtain rfl := kF _ h
    exact zaa Tryz.results122 rfl
   simp only [d56, hs] at h
   obtain ⟨r57, o58, h⟩ := optI h kN46
   try simp only [hs] at h
   simp only [vz, tyf, d18, d19, (zga d19), n55, e49, e50, e51, e52, e53, e54, H47, H48, d56, (zee d19), nm, seval]
   refine ktA (zdl _ _ _ _ o58) ?_
   refine zac (fun tm => tm 1 = .lit (.int .i64 x1_years) ∧ tm 2 = .lit (.int .i64 xpg2) ∧ tm 4 = .ptr 0 0 ∧ tm 7 = .ptr 1 0 ∧ tm 9 = .lit (.int .i64 r11) ∧ tm 10 = .lit (.int .i64 c46_10) ∧ tm 30 = .lit (.int .i64 r11) ∧ tm 38 = .lit (.int .i64 r57) ∧ True) (by refine ⟨e49, e50, e51, e52, e53, e54, ?_, ?_, trivial⟩ <;> first | (simp only [ua, d18, d19, n55, e49, e50, e51, e52, e53, e54, H47, H48, d56, nm, seval] <;> rfl) | rfl) ?_
   rintro tm ⟨e59, e60, e61, e62, e63, e64, e65, e66, _⟩
   cases d67 : (decide ((IntKind.i64.wrap ((IntKind.i64.wrap (r11 * r57)) - (IntKind.i64.wrap (r11 * x0_x.sh.Off)))) ≤ x3_has.High))
   ·simp only [d67, hs] at h
    have b68 := And.intro d18 (And.intro d19 (And.intro n55 (And.intro H47 (And.intro H48 (And.intro d56 d67)))))
    simp only [vz, tyf, b68, (zga d19), (zee d19), e59, e60, e61, e62, e63, e64, e65, e66, nm, seval]
    exact ⟨p46, Nat.lt_succ_self _, by rw [hI46]; refine ⟨p46, IntKind.i64.wrap (c46_10 + 1), rfl, rfl, (show 13 ≤ nx46 + 44 by omega), ?_, ?_, e59, e60, e61, e62, e63, ?_, h⟩ <;> first | (simp only [ua, b68, e59, e60, e61, e62, e63, e64, e65, e66, nm, seval] <;> rfl) | rfl⟩
   simp only [d67, hs] at h
   have b69 := And.intro d18 (And.intro d19 (And.intro n55 (And.intro H47 (And.intro H48 (And.intro d56 d67)))))
   cases d70 : (decide (x3_has.Low ≤ (IntKind.i64.wrap ((IntKind.i64.wrap (r11 * r57)) + (IntKind.i64.wrap (r11 * x0_x.sh.Off))))))
   ·simp only [d70, hs] at h
    simp only [vz, tyf, b69, (zga d19), (zee d19), e59, e60, e61, e62, e63, e64, e65, e66, d70, nm, seval]
    exact ⟨p46, Nat.lt_succ_self _, by rw [hI46]; refine ⟨p46, IntKind.i64.wrap (c46_10 + 1), rfl, rfl, (show 13 ≤ nx46 + 44 by omega), ?_, ?_, e59, e60, e61, e62, e63, ?_, h⟩ <;> first | (simp only [ua, b69, e59, e60, e61, e62, e63, e64, e65, e66, d70, nm, seval] <;> rfl) | rfl⟩
   simp only [d70, hs] at h
   try simp only [vz, tyf, b69, (zga d19), (zee d19), e59, e60, e61, e62, e63, e64, e65, e66, d70, nm, seval]
   replace h := kR46 _ h
   try dsimp only at h
   obtain rfl := kF _ h
   exact zaa Tryz.results122 rfl
 simp only [d18, hs] at h
 simp only [vz, tyf, e13, e14, e15, e16, e17, d18, (zfy d18), nm, seval]
 obtain ⟨K71, h, kR71, kG71, kB71, kN71⟩ := zau h kN
 obtain ⟨f71, hf71, h⟩ := call2 h
 obtain ⟨I71, hI71⟩ : ∃ I : Nat → St → Prop, I = (fun m st => ∃ (p71 : Nat) (c71_10 : Int), p71 = m ∧ st.df = [] ∧ 13 ≤ st.nx ∧ st.H 0 = some (.cells (some 89) (cGm x0_x)) ∧ st.H 1 = some (.cells (some 24) (cGSpan x3_has)) ∧ st.tm 1 = .lit (.int .i64 x1_years) ∧ st.tm 2 = .lit (.int .i64 xpg2) ∧ st.tm 4 = .ptr 0 0 ∧ st.tm 7 = .ptr 1 0 ∧ st.tm 9 = .lit (.int .i64 r11) ∧ st.tm 10 = .lit (.int .i64 c71_10) ∧ K71 (f71 p71 c71_10)) := ⟨_, rfl⟩
 refine loopK mixed (by kernel_rfl) I71 1000000 (by rw [hI71]; refine ⟨1000000, x0_x.sh.Fade.a0.Low, rfl, rfl, (show 13 ≤ 13 by omega), ?_, ?_, e13, e14, e15, e16, ?_, ?_, h⟩ <;> first | (simp only [ua, e13, e14, e15, e16, e17, d18, nm, seval] <;> rfl) | rfl) ?_
 rintro m ⟨tm, H, nx71, df⟩ hinv
 rw [hI71] at hinv
 obtain ⟨p71, c71_10, rfl, hdf, hn71, H72, H73, e74, e75, e76, e77, e78, e79, h⟩ := hinv
 simp only at hdf hn71 H72 H73 e74 e75 e76 e77 e78 e79
 have n80 := zcf (m := 13) (b := nx71) (by omega)
 subst hdf hf71
 cases p71 with
 | zero =>
  simp only [zah, zag, zaf, hs, reduceCtorEq] at h
  exact absurd h kN71
 | succ p71 =>
  simp only [zah, zag, zaf, hs, reduceCtorEq] at h
  cases d81 : (decide (c71_10 ≤ x0_x.sh.Fade.a0.High))
  ·simp only [d81, hs] at h
   replace h := kG71 _ h
   try dsimp only at h
   try simp only [hs] at h
   try simp only [vz, tyf, d18, (zfy d18), n80, e74, e75, e76, e77, e78, e79, H72, H73, d81, nm, seval]
   obtain rfl := kF _ h
   exact zaa Tryz.results122 rfl
  simp only [d81, hs] at h
  obtain ⟨r82, o83, h⟩ := optI h kN71
  try simp only [hs] at h
  simp only [vz, tyf, d18, (zfy d18), n80, e74, e75, e76, e77, e78, e79, H72, H73, d81, (zea d18), nm, seval]
  refine ktA (zdl _ _ _ _ o83) ?_
  refine zac (fun tm => tm 1 = .lit (.int .i64 x1_years) ∧ tm 2 = .lit (.int .i64 xpg2) ∧ tm 4 = .ptr 0 0 ∧ tm 7 = .ptr 1 0 ∧ tm 9 = .lit (.int .i64 r11) ∧ tm 10 = .lit (.int .i64 c71_10) ∧ tm 30 = .lit (.int .i64 r11) ∧ tm 38 = .lit (.int .i64 r82) ∧ True) (by refine ⟨e74, e75, e76, e77, e78, e79, ?_, ?_, trivial⟩ <;> first | (simp only [ua, d18, n80, e74, e75, e76, e77, e78, e79, H72, H73, d81, nm, seval] <;> rfl) | rfl) ?_
  rintro tm ⟨e84, e85, e86, e87, e88, e89, e90, e91, _⟩
  cases d92 : (decide ((IntKind.i64.wrap ((IntKind.i64.wrap (r11 * r82)) - (IntKind.i64.wrap (r11 * x0_x.sh.Off)))) ≤ x3_has.High))
  ·simp only [d92, hs] at h
   simp only [vz, tyf, d18, (zfy d18), n80, H72, H73, d81, (zea d18), e84, e85, e86, e87, e88, e89, e90, e91, d92, nm, seval]
   exact ⟨p71, Nat.lt_succ_self _, by rw [hI71]; refine ⟨p71, IntKind.i64.wrap (c71_10 + 1), rfl, rfl, (show 13 ≤ nx71 + 44 by omega), ?_, ?_, e84, e85, e86, e87, e88, ?_, h⟩ <;> first | (simp only [ua, d18, n80, H72, H73, d81, e84, e85, e86, e87, e88, e89, e90, e91, d92, nm, seval] <;> rfl) | rfl⟩
  simp only [d92, hs] at h
  cases d93 : (decide (x3_has.Low ≤ (IntKind.i64.wrap ((IntKind.i64.wrap (r11 * r82)) + (IntKind.i64.wrap (r11 * x0_x.sh.Off))))))
  ·simp only [d93, hs] at h
   have b94 := And.intro d18 (And.intro n80 (And.intro H72 (And.intro H73 (And.intro d81 (And.intro d92 d93)))))
   simp only [vz, tyf, b94, (zfy d18), (zea d18), e84, e85, e86, e87, e88, e89, e90, e91, nm, seval]
   exact ⟨p71, Nat.lt_succ_self _, by rw [hI71]; refine ⟨p71, IntKind.i64.wrap (c71_10 + 1), rfl, rfl, (show 13 ≤ nx71 + 44 by omega), ?_, ?_, e84, e85, e86, e87, e88, ?_, h⟩ <;> first | (simp only [ua, b94, e84, e85, e86, e87, e88, e89, e90, e91, nm, seval] <;> rfl) | rfl⟩
  simp only [d93, hs] at h
  have b95 := And.intro d18 (And.intro n80 (And.intro H72 (And.intro H73 (And.intro d81 (And.intro d92 d93)))))
  try simp only [vz, tyf, b95, (zfy d18), (zea d18), e84, e85, e86, e87, e88, e89, e90, e91, nm, seval]
  replace h := kR71 _ h
  try dsimp only at h
  obtain rfl := kF _ h
  exact zaa Tryz.results122 rfl
def zar (x0_x : Gm) (r1 : Ga) : Nat → Int → (List (Gf × Bool)) → Option (LOut (List (Gf × Bool)) (Int × (List (Gf × Bool))))
 | 0, _, _ => none
 | k2 + 1, c2_6, c2_o0 => cond (decide (c2_6 ≤ x0_x.sh.Years.High)) (Option.bind (zbd x0_x c2_6 2 r1.a2) (fun r7 => zar x0_x r1 k2 (IntKind.i64.wrap (c2_6 + 1)) (mapSet q138 c2_o0 (Gf.mk 2 c2_6) r7))) (some (.go (c2_6, c2_o0)))
def zat (x0_x : Gm) (r1 : Ga) : Nat → Int → (List (Gf × Bool)) → Option (LOut (List (Gf × Bool)) (Int × (List (Gf × Bool))))
 | 0, _, _ => none
 | k1 + 1, c1_6, c1_o0 => cond (decide (c1_6 ≤ x0_x.sh.Years.High)) (Option.bind (zbd x0_x c1_6 1 r1.a1) (fun r5 => zat x0_x r1 k1 (IntKind.i64.wrap (c1_6 + 1)) (mapSet q138 c1_o0 (Gf.mk 1 c1_6) r5))) (some (.go (c1_6, c1_o0)))
def zap (x0_x : Gm) (r1 : Ga) : Nat → Int → (List (Gf × Bool)) → Option (LOut (List (Gf × Bool)) (Int × (List (Gf × Bool))))
 | 0, _, _ => none
 | k0 + 1, c0_6, c0_o0 => cond (decide (c0_6 ≤ x0_x.sh.Years.High)) (Option.bind (zbd x0_x c0_6 0 r1.a0) (fun r3 => zap x0_x r1 k0 (IntKind.i64.wrap (c0_6 + 1)) (mapSet q138 c0_o0 (Gf.mk 0 c0_6) r3))) (some (.go (c0_6, c0_o0)))
def zdg (x0_x : Gm) : Option (List (Gf × Bool)) := Option.bind (zde x0_x) (fun r1 => lbind (zap x0_x r1 1000000 x0_x.sh.Years.Low ([] : List (Gf × Bool))) (fun r11 => some r11) (fun c4 => lbind (zat x0_x r1 1000000 x0_x.sh.Years.Low c4.2) (fun r10 => some r10) (fun c6 => lbind (zar x0_x r1 1000000 x0_x.sh.Years.Low c6.2) (fun r9 => some r9) (fun c8 => some c8.2) (fun _ _ => none)) (fun _ _ => none)) (fun _ _ => none))
theorem ziw (x0_x : Gm) (R : List (Gf × Bool)) (h : zdg x0_x = some R) : VPure Tryz.prog G0 103 [.agg (cGm x0_x)] (.tree (.mt (mtK kv138 R) (mtV ev4 R))) := by
 refine VPure.runM mixed Tryz.call103 Tryz.func103 rfl (by simp [Tryz.ntmps103]; kernel_rfl) ?_
 obtain ⟨KF, h, kF, kN⟩ := zaj h
 simp only [zdg] at h
 obtain ⟨r12, o13, h⟩ := optI h kN
 try simp only [hs] at h
 simp only [vz, mq, mqm, tyf, mqt, nm, seval]
 refine ktree (args0 := [.agg (cGm x0_x)]) (by first | (simp only [nrm, tynrm, mqr] <;> rfl) | rfl) (by simp only [tre, tytre, mqr, Bool.and_self]) (zfw _ _ o13) ?_
 refine zac (fun tm => tm 1 = .ptr 0 0 ∧ tm 3 = .mp 2 ∧ tm 9 = .agg (cGa r12) ∧ True) (by refine ⟨?_, ?_, ?_, trivial⟩ <;> first | (simp only [ua, zdi, nm, seval] <;> rfl) | rfl) ?_
 rintro tm ⟨e14, e15, e16, _⟩
 simp only [vz, mq, mqm, tyf, mqt, e14, e15, e16, nm, seval]
 refine zfb mixed (by kernel_rfl) 4 ?_
 simp only [vz, mq, mqm, tyf, mqt, e14, e15, e16, nm, seval]
 obtain ⟨K17, h, kR17, kG17, kB17, kN17⟩ := zau h kN
 obtain ⟨f17, hf17, h⟩ := call3 h
 obtain ⟨I17, hI17⟩ : ∃ I : Nat → St → Prop, I = (fun m st => ∃ (p17 : Nat) (c17_6 : Int) (c17_o0 : List (Gf × Bool)), p17 = m ∧ st.df = [] ∧ 18 ≤ st.nx ∧ st.H 0 = some (.cells (some 89) (cGm x0_x)) ∧ st.H 2 = some (.map (encM kv138 ev4 c17_o0)) ∧ st.H 10 = some (.cells (some 24) (cGSpan r12.a0)) ∧ st.tm 1 = .ptr 0 0 ∧ st.tm 3 = .mp 2 ∧ st.tm 4 = .lit (.int .i64 0) ∧ st.tm 5 = .ptr 10 0 ∧ st.tm 9 = .agg (cGa r12) ∧ st.tm 10 = .lit (.int .i64 0) ∧ st.tm 6 = .lit (.int .i64 c17_6) ∧ K17 (f17 p17 c17_6 c17_o0)) := ⟨_, rfl⟩
 refine loopK mixed (by kernel_rfl) I17 1000000 (by rw [hI17]; refine ⟨1000000, x0_x.sh.Years.Low, ([] : List (Gf × Bool)), rfl, rfl, (show 18 ≤ 18 by omega), ?_, ?_, ?_, e14, e15, ?_, ?_, e16, ?_, ?_, h⟩ <;> first | (simp only [ua, zdi, e14, e15, e16, nm, seval] <;> rfl) | rfl) ?_
 rintro m ⟨tm, H, nx17, df⟩ hinv
 rw [hI17] at hinv
 obtain ⟨p17, c17_6, c17_o0, rfl, hdf, hn17, H18, H19, H20, e21, e22, e23, e24, e25, e26, e27, h⟩ := hinv
 simp only at hdf hn17 H18 H19 H20 e21 e22 e23 e24 e25 e26 e27
 have n28 := zcf (m := 18) (b := nx17) (by omega)
 subst hdf hf17
 cases p17 with
 | zero =>
  simp only [zap, zat, zar, hs, reduceCtorEq] at h
  exact absurd h kN17
 | succ p17 =>
  simp only [zap, zat, zar, hs, reduceCtorEq] at h
  cases d29 : (decide (c17_6 ≤ x0_x.sh.Years.High))
  ·simp only [d29, hs] at h
   replace h := kG17 _ h
   try dsimp only at h
   try simp only [hs] at h
   simp only [vz, mq, mqm, tyf, mqt, n28, e21, e22, e23, e24, e25, e26, e27, H18, H19, H20, d29, nm, seval]
   obtain ⟨K30, h, kR30, kG30, kB30, kN30⟩ := zau h kN
   obtain ⟨f30, hf30, h⟩ := call3 h
   obtain ⟨I30, hI30⟩ : ∃ I : Nat → St → Prop, I = (fun m st => ∃ (p30 : Nat) (c30_6 : Int) (c30_o0 : List (Gf × Bool)), p30 = m ∧ st.df = [] ∧ nx17 + 19 ≤ st.nx ∧ st.H 0 = some (.cells (some 89) (cGm x0_x)) ∧ st.H 2 = some (.map (encM kv138 ev4 c30_o0)) ∧ st.H (nx17 + 11) = some (.cells (some 24) (cGSpan r12.a1)) ∧ st.tm 1 = .ptr 0 0 ∧ st.tm 3 = .mp 2 ∧ st.tm 4 = .lit (.int .i64 1) ∧ st.tm 5 = .ptr (nx17 + 11) 0 ∧ st.tm 9 = .agg (cGa r12) ∧ st.tm 10 = .lit (.int .i64 1) ∧ st.tm 6 = .lit (.int .i64 c30_6) ∧ K30 (f30 p30 c30_6 c30_o0)) := ⟨_, rfl⟩
   refine loopK mixed (by kernel_rfl) I30 1000000 (by rw [hI30]; refine ⟨1000000, x0_x.sh.Years.Low, c17_o0, rfl, rfl, (show nx17 + 19 ≤ nx17 + 19 by omega), ?_, ?_, ?_, e21, e22, ?_, ?_, e25, ?_, ?_, h⟩ <;> first | (simp only [ua, zdi, n28, e21, e22, e23, e24, e25, e26, e27, H18, H19, H20, d29, nm, seval] <;> rfl) | rfl) ?_
   rintro m ⟨tm, H, nx30, df⟩ hinv
   rw [hI30] at hinv
   obtain ⟨p30, c30_6, c30_o0, rfl, hdf, hn30, H31, H32, H33, e34, e35, e36, e37, e38, e39, e40, h⟩ := hinv
   simp only at hdf hn30 H31 H32 H33 e34 e35 e36 e37 e38 e39 e40
   have n41 := zcf (m := 18) (b := nx30) (by omega)
   have n42 := zlz (a := nx17) (m := 19) (b := nx30) (by omega)
   subst hdf hf30
   cases p30 with
   | zero =>
    simp only [zap, zat, zar, hs, reduceCtorEq] at h
    exact absurd h kN30
   | succ p30 =>
    simp only [zap, zat, zar, hs, reduceCtorEq] at h
    cases d43 : (decide (c30_6 ≤ x0_x.sh.Years.High))
    ·simp only [d43, hs] at h
     have b44 := And.intro n28 (And.intro d29 (And.intro n41 (And.intro n42 (And.intro H31 (And.intro H32 (And.intro H33 d43))))))
     replace h := kG30 _ h
     try dsimp only at h
     try simp only [hs] at h
     simp only [vz, mq, mqm, tyf, mqt, b44, e34, e35, e36, e37, e38, e39, e40, nm, seval]
     obtain ⟨K45, h, kR45, kG45, kB45, kN45⟩ := zau h kN
     obtain ⟨f45, hf45, h⟩ := call3 h
     obtain ⟨I45, hI45⟩ : ∃ I : Nat → St → Prop, I = (fun m st => ∃ (p45 : Nat) (c45_6 : Int) (c45_o0 : List (Gf × Bool)), p45 = m ∧ st.df = [] ∧ nx30 + 19 ≤ st.nx ∧ st.H 0 = some (.cells (some 89) (cGm x0_x)) ∧ st.H 2 = some (.map (encM kv138 ev4 c45_o0)) ∧ st.H (nx30 + 11) = some (.cells (some 24) (cGSpan r12.a2)) ∧ st.tm 1 = .ptr 0 0 ∧ st.tm 3 = .mp 2 ∧ st.tm 4 = .lit (.int .i64 2) ∧ st.tm 5 = .ptr (nx30 + 11) 0 ∧ st.tm 9 = .agg (cGa r12) ∧ st.tm 10 = .lit (.int .i64 2) ∧ st.tm 6 = .lit (.int .i64 c45_6) ∧ K45 (f45 p45 c45_6 c45_o0)) := ⟨_, rfl⟩
     refine loopK mixed (by kernel_rfl) I45 1000000 (by rw [hI45]; refine ⟨1000000, x0_x.sh.Years.Low, c30_o0, rfl, rfl, (show nx30 + 19 ≤ nx30 + 19 by omega), ?_, ?_, ?_, e34, e35, ?_, ?_, e38, ?_, ?_, h⟩ <;> first | (simp only [ua, zdi, b44, e34, e35, e36, e37, e38, e39, e40, nm, seval] <;> rfl) | rfl) ?_
     rintro m ⟨tm, H, nx45, df⟩ hinv
     rw [hI45] at hinv
     obtain ⟨p45, c45_6, c45_o0, rfl, hdf, hn45, H46, H47, H48, e49, e50, e51, e52, e53, e54, e55, h⟩ := hinv
     simp only at hdf hn45 H46 H47 H48 e49 e50 e51 e52 e53 e54 e55
     have n56 := zcf (m := 18) (b := nx45) (by omega)
     have n57 := zlz (a := nx17) (m := 19) (b := nx45) (by omega)
     have n58 := zlz (a := nx30) (m := 19) (b := nx45) (by omega)
     subst hdf hf45
     cases p45 with
     | zero =>
      simp only [zap, zat, zar, hs, reduceCtorEq] at h
      exact absurd h kN45
     | succ p45 =>
      simp only [zap, zat, zar, hs, reduceCtorEq] at h
      cases d59 : (decide (c45_6 ≤ x0_x.sh.Years.High))
      ·simp only [d59, hs] at h
       have b60 := And.intro b44 (And.intro n56 (And.intro n57 (And.intro n58 (And.intro H46 (And.intro H47 (And.intro H48 d59))))))
       replace h := kG45 _ h
       try dsimp only at h
       try simp only [hs] at h
       try simp only [vz, mq, mqm, tyf, mqt, b60, e49, e50, e51, e52, e53, e54, e55, nm, seval]
       refine zam (x := (.mp 2)) (by first | (simp only [Tryz.results103, resV, resL, resV1, zao, zbi, uw, cr, tyf, mqt, b60, nm, seval] <;> rfl) | rfl) ?_
       obtain rfl := kF _ h
       refine zaud et4 ?_
       ·simp only [uw, zdi, cr, tyf, mqt, b60, e49, e50, e51, e52, e53, e54, e55, nm, seval] <;> rfl
      simp only [d59, hs] at h
      have b61 := And.intro b44 (And.intro n56 (And.intro n57 (And.intro n58 (And.intro H46 (And.intro H47 (And.intro H48 d59))))))
      obtain ⟨r62, o63, h⟩ := optI h kN45
      try simp only [hs] at h
      simp only [vz, mq, mqm, tyf, mqt, b61, e49, e50, e51, e52, e53, e54, e55, nm, seval]
      refine ktree (args0 := [.agg (cGm x0_x), .lit (.int .i64 c45_6), .lit (.int .i64 2), .agg (cGSpan r12.a2)]) (by first | (simp only [nrm, tynrm, mqr] <;> rfl) | rfl) (by simp only [tre, tytre, mqr, Bool.and_self]) (zdk _ _ _ _ _ o63) ?_
      refine zac (fun tm => tm 1 = .ptr 0 0 ∧ tm 3 = .mp 2 ∧ tm 4 = .lit (.int .i64 2) ∧ tm 5 = .ptr (nx30 + 11) 0 ∧ tm 6 = .lit (.int .i64 c45_6) ∧ tm 9 = .agg (cGa r12) ∧ tm 10 = .lit (.int .i64 2) ∧ tm 26 = .mp 2 ∧ tm 29 = .agg ([.lit (.int .i64 2)] ++ [.lit (.int .i64 c45_6)]) ∧ tm 34 = .lit (.bool r62) ∧ True) (by refine ⟨e49, e50, e51, e52, e55, e53, e54, ?_, ?_, ?_, trivial⟩ <;> first | (simp only [ua, zdi, b61, e49, e50, e51, e52, e53, e54, e55, nm, seval] <;> rfl) | rfl) ?_
      rintro tm ⟨e64, e65, e66, e67, e68, e69, e70, e71, e72, e73, _⟩
      have w74 := fun H => up135 (β := 2) c45_o0 (Gf.mk 2 c45_6) r62 H
      try simp only [zdi] at w74
      simp only [vz, mq, mqm, tyf, mqt, b61, e64, e65, e66, e67, e68, e69, e70, e71, e72, e73, w74, nm, seval]
      exact ⟨p45, Nat.lt_succ_self _, by rw [hI45]; refine ⟨p45, IntKind.i64.wrap (c45_6 + 1), (mapSet q138 c45_o0 (Gf.mk 2 c45_6) r62), rfl, rfl, (show nx30 + 19 ≤ nx45 + 19 by omega), ?_, ?_, ?_, e64, e65, e66, e67, e69, e70, ?_, h⟩ <;> first | (simp only [ua, zdi, b61, e64, e65, e66, e67, e68, e69, e70, e71, e72, e73, w74, nm, seval] <;> rfl) | rfl⟩
    simp only [d43, hs] at h
    have b75 := And.intro n28 (And.intro d29 (And.intro n41 (And.intro n42 (And.intro H31 (And.intro H32 (And.intro H33 d43))))))
    obtain ⟨r76, o77, h⟩ := optI h kN30
    try simp only [hs] at h
    simp only [vz, mq, mqm, tyf, mqt, b75, e34, e35, e36, e37, e38, e39, e40, nm, seval]
    refine ktree (args0 := [.agg (cGm x0_x), .lit (.int .i64 c30_6), .lit (.int .i64 1), .agg (cGSpan r12.a1)]) (by first | (simp only [nrm, tynrm, mqr] <;> rfl) | rfl) (by simp only [tre, tytre, mqr, Bool.and_self]) (zdk _ _ _ _ _ o77) ?_
    refine zac (fun tm => tm 1 = .ptr 0 0 ∧ tm 3 = .mp 2 ∧ tm 4 = .lit (.int .i64 1) ∧ tm 5 = .ptr (nx17 + 11) 0 ∧ tm 6 = .lit (.int .i64 c30_6) ∧ tm 9 = .agg (cGa r12) ∧ tm 10 = .lit (.int .i64 1) ∧ tm 26 = .mp 2 ∧ tm 29 = .agg ([.lit (.int .i64 1)] ++ [.lit (.int .i64 c30_6)]) ∧ tm 34 = .lit (.bool r76) ∧ True) (by refine ⟨e34, e35, e36, e37, e40, e38, e39, ?_, ?_, ?_, trivial⟩ <;> first | (simp only [ua, zdi, b75, e34, e35, e36, e37, e38, e39, e40, nm, seval] <;> rfl) | rfl) ?_
    rintro tm ⟨e78, e79, e80, e81, e82, e83, e84, e85, e86, e87, _⟩
    have w88 := fun H => up135 (β := 2) c30_o0 (Gf.mk 1 c30_6) r76 H
    try simp only [zdi] at w88
    simp only [vz, mq, mqm, tyf, mqt, b75, e78, e79, e80, e81, e82, e83, e84, e85, e86, e87, w88, nm, seval]
    exact ⟨p30, Nat.lt_succ_self _, by rw [hI30]; refine ⟨p30, IntKind.i64.wrap (c30_6 + 1), (mapSet q138 c30_o0 (Gf.mk 1 c30_6) r76), rfl, rfl, (show nx17 + 19 ≤ nx30 + 19 by omega), ?_, ?_, ?_, e78, e79, e80, e81, e83, e84, ?_, h⟩ <;> first | (simp only [ua, zdi, b75, e78, e79, e80, e81, e82, e83, e84, e85, e86, e87, w88, nm, seval] <;> rfl) | rfl⟩
  simp only [d29, hs] at h
  obtain ⟨r89, o90, h⟩ := optI h kN17
  try simp only [hs] at h
  simp only [vz, mq, mqm, tyf, mqt, n28, e21, e22, e23, e24, e25, e26, e27, H18, H19, H20, d29, nm, seval]
  refine ktree (args0 := [.agg (cGm x0_x), .lit (.int .i64 c17_6), .lit (.int .i64 0), .agg (cGSpan r12.a0)]) (by first | (simp only [nrm, tynrm, mqr] <;> rfl) | rfl) (by simp only [tre, tytre, mqr, Bool.and_self]) (zdk _ _ _ _ _ o90) ?_
  refine zac (fun tm => tm 1 = .ptr 0 0 ∧ tm 3 = .mp 2 ∧ tm 4 = .lit (.int .i64 0) ∧ tm 5 = .ptr 10 0 ∧ tm 6 = .lit (.int .i64 c17_6) ∧ tm 9 = .agg (cGa r12) ∧ tm 10 = .lit (.int .i64 0) ∧ tm 26 = .mp 2 ∧ tm 29 = .agg ([.lit (.int .i64 0)] ++ [.lit (.int .i64 c17_6)]) ∧ tm 34 = .lit (.bool r89) ∧ True) (by refine ⟨e21, e22, e23, e24, e27, e25, e26, ?_, ?_, ?_, trivial⟩ <;> first | (simp only [ua, zdi, n28, e21, e22, e23, e24, e25, e26, e27, H18, H19, H20, d29, nm, seval] <;> rfl) | rfl) ?_
  rintro tm ⟨e91, e92, e93, e94, e95, e96, e97, e98, e99, e100, _⟩
  have w101 := fun H => up135 (β := 2) c17_o0 (Gf.mk 0 c17_6) r89 H
  try simp only [zdi] at w101
  simp only [vz, mq, mqm, tyf, mqt, n28, H18, H19, H20, d29, e91, e92, e93, e94, e95, e96, e97, e98, e99, e100, w101, nm, seval]
  exact ⟨p17, Nat.lt_succ_self _, by rw [hI17]; refine ⟨p17, IntKind.i64.wrap (c17_6 + 1), (mapSet q138 c17_o0 (Gf.mk 0 c17_6) r89), rfl, rfl, (show 18 ≤ nx17 + 19 by omega), ?_, ?_, ?_, e91, e92, e93, e94, e96, e97, ?_, h⟩ <;> first | (simp only [ua, zdi, n28, H18, H19, H20, d29, e91, e92, e93, e94, e95, e96, e97, e98, e99, e100, w101, nm, seval] <;> rfl) | rfl⟩
def zaw (x0_x : Gm) (r1 : List (Gf × Bool)) : Nat → (List Int) → Int → Option (LOut (List Int) ((List Int) × Int))
 | 0, _, _ => none
 | k0 + 1, c0_3, c0_5 => cond (decide (c0_5 ≤ x0_x.sh.Years.High)) (cond (mapGet q138 false r1 (Gf.mk 0 c0_5)) (cond (mapGet q138 false r1 (Gf.mk 1 c0_5)) (cond (mapGet q138 false r1 (Gf.mk 2 c0_5)) (cond (roomOk 8 (List.length (c0_3 ++ [c0_5]))) (zaw x0_x r1 k0 (c0_3 ++ [c0_5]) (IntKind.i64.wrap (c0_5 + 1))) none) (zaw x0_x r1 k0 c0_3 (IntKind.i64.wrap (c0_5 + 1)))) (zaw x0_x r1 k0 c0_3 (IntKind.i64.wrap (c0_5 + 1)))) (zaw x0_x r1 k0 c0_3 (IntKind.i64.wrap (c0_5 + 1)))) (some (.go (c0_3, c0_5)))
def zdn (x0_x : Gm) : Option (List Int) := Option.bind (zdg x0_x) (fun r1 => lbind (zaw x0_x r1 1000000 ([] : List Int) x0_x.sh.Years.Low) (fun r3 => some r3) (fun c2 => some c2.1) (fun _ _ => none))
theorem zhc (x0_x : Gm) (R : List Int) (h : zdn x0_x = some R) : VPure Tryz.prog G0 70 [.agg (cGm x0_x)] (.tree (.sl (cellsL eI R) (List.length R) false)) := by
 refine VPure.runR mixed Tryz.call70 Tryz.func70 rfl (by simp [Tryz.ntmps70]; kernel_rfl) ?_
 obtain ⟨KF, h, kF, kN⟩ := zaj h
 simp only [zdn] at h
 simp only [vz, mq, mqm, tyf, mqt, nm, seval]
 refine zyk mixed (by kernel_rfl) ?_
 obtain ⟨r4, o5, h⟩ := optI h kN
 try simp only [hs] at h
 simp only [vz, mq, mqm, tyf, mqt, nm, seval]
 refine ktree (args0 := [.agg (cGm x0_x)]) (by first | (simp only [nrm, tynrm, mqr] <;> rfl) | rfl) (by simp only [tre, tytre, mqr, Bool.and_self]) (ziw _ _ o5) ?_
 refine zac (fun tm => tm 1 = .ptr 0 0 ∧ tm 3 = .lit (.slice none 0 0) ∧ tm 8 = .mt (mtK kv138 r4) (mtV ev4 r4) ∧ True) (by refine ⟨?_, ?_, ?_, trivial⟩ <;> first | (simp only [ua, zdi, nm, seval] <;> rfl) | rfl) ?_
 rintro tm ⟨e6, e7, e8, _⟩
 simp only [vz, mq, mqm, tyf, mqt, e6, e7, e8, nm, seval]
 obtain ⟨K9, h, kR9, kG9, kB9, kN9⟩ := zau h kN
 obtain ⟨f9, hf9, h⟩ := call3 h
 obtain ⟨I9, hI9⟩ : ∃ I : Nat → St → Prop, I = (fun m st => ∃ (p9 : Nat) (c9_3 : List Int) (c9_5 : Int) (y9_0 : VV), p9 = m ∧ st.df = [] ∧ 11 ≤ st.nx ∧ st.H 0 = some (.cells (some 89) (cGm x0_x)) ∧ st.tm 1 = .ptr 0 0 ∧ st.tm 4 = .mt (mtK kv138 r4) (mtV ev4 r4) ∧ st.tm 3 = y9_0 ∧ st.tm 5 = .lit (.int .i64 c9_5) ∧ ((∃ (β : Nat) (el : Option TypeId), y9_0 = .ref β 0 (List.length c9_3) 1 (List.length c9_3) ∧ β < st.nx ∧ β ≠ 0 ∧ st.H β = some (.cells el (cellsL eI c9_3))) ∨ (y9_0 = .lit (.slice none 0 0) ∧ c9_3 = [])) ∧ K9 (f9 p9 c9_3 c9_5)) := ⟨_, rfl⟩
 refine loopK mixed (by kernel_rfl) I9 1000000 (by rw [hI9]; refine ⟨1000000, ([] : List Int), x0_x.sh.Years.Low, .lit (.slice none 0 0), rfl, rfl, (show 11 ≤ 11 by omega), ?_, e6, ?_, ?_, ?_, Or.inr ⟨rfl, rfl⟩, h⟩ <;> first | (simp only [ua, zdi, e6, e7, e8, nm, seval] <;> rfl) | rfl) ?_
 rintro m ⟨tm, H, nx9, df⟩ hinv
 rw [hI9] at hinv
 obtain ⟨p9, c9_3, c9_5, y9_0, rfl, hdf, hn9, H10, e11, e12, e13, e14, ow9_0, h⟩ := hinv
 simp only at hdf hn9 H10 e11 e12 e13 e14 ow9_0
 have n15 := zcf (m := 11) (b := nx9) (by omega)
 subst hdf hf9
 rcases ow9_0 with ⟨b9_0, el9_0, rfl, lq17, lq18, H16⟩ | ⟨rfl, rfl⟩
 ·have q17 := zala lq17
  have q18 := ne_f lq18
  cases p9 with
  | zero =>
   simp only [zaw, hs, reduceCtorEq] at h
   exact absurd h kN9
  | succ p9 =>
   simp only [zaw, hs, reduceCtorEq] at h
   cases d19 : (decide (c9_5 ≤ x0_x.sh.Years.High))
   ·simp only [d19, hs] at h
    replace h := kG9 _ h
    try dsimp only at h
    try simp only [hs] at h
    try simp only [vz, mq, mqm, tyf, mqt, n15, e11, e12, e13, e14, H10, q17, H16, q18, d19, nm, seval]
    refine zam (x := (.ref b9_0 0 (List.length c9_3) 1 (List.length c9_3))) (by first | (simp only [Tryz.results70, resV, resL, resV1, zao, zbi, uw, cr, tyf, mqt, n15, H10, q17, H16, q18, d19, nm, seval] <;> rfl) | rfl) ?_
    obtain rfl := kF _ h
    refine zas ?_ ?_
    ·simp only [tre, tytre, mqr, Bool.and_self]
    ·first | (simp only [outV, uw, zad, cr, tyf, mqt, nrm, tynrm, n15, e11, e12, e13, e14, H10, q17, H16, q18, d19, nm, seval] <;> rfl) | rfl
   simp only [d19, hs] at h
   simp only [vz, mq, mqm, tyf, mqt, n15, e11, e12, e13, e14, H10, q17, H16, q18, d19, nm, seval]
   refine zfb mixed (by kernel_rfl) 4 ?_
   cases d20 : (mapGet q138 false r4 (Gf.mk 0 c9_5))
   ·simp only [d20, hs] at h
    have b21 := And.intro n15 (And.intro H10 (And.intro q17 (And.intro H16 (And.intro q18 (And.intro d19 d20)))))
    simp only [vz, mq, mqm, tyf, mqt, b21, e11, e12, e13, e14, nm, seval]
    exact ⟨p9, Nat.lt_succ_self _, by rw [hI9]; refine ⟨p9, c9_3, IntKind.i64.wrap (c9_5 + 1), .ref b9_0 0 (List.length c9_3) 1 (List.length c9_3), rfl, rfl, (show 11 ≤ nx9 + 19 by omega), ?_, e11, e12, ?_, ?_, Or.inl ⟨b9_0, el9_0, rfl, (by first | omega | (simp only [nm, seval]; omega)), (by first | omega | (intro hh; simp only [b21, reduceCtorEq] at hh)), ?_⟩, h⟩ <;> first | (simp only [ua, zdi, b21, e11, e12, e13, e14, nm, seval] <;> rfl) | rfl⟩
   simp only [d20, hs] at h
   have b22 := And.intro n15 (And.intro H10 (And.intro q17 (And.intro H16 (And.intro q18 (And.intro d19 d20)))))
   cases d23 : (mapGet q138 false r4 (Gf.mk 1 c9_5))
   ·simp only [d23, hs] at h
    simp only [vz, mq, mqm, tyf, mqt, b22, e11, e12, e13, e14, d23, nm, seval]
    exact ⟨p9, Nat.lt_succ_self _, by rw [hI9]; refine ⟨p9, c9_3, IntKind.i64.wrap (c9_5 + 1), .ref b9_0 0 (List.length c9_3) 1 (List.length c9_3), rfl, rfl, (show 11 ≤ nx9 + 30 by omega), ?_, e11, e12, ?_, ?_, Or.inl ⟨b9_0, el9_0, rfl, (by first | omega | (simp only [nm, seval]; omega)), (by first | omega | (intro hh; simp only [b22, reduceCtorEq] at hh)), ?_⟩, h⟩ <;> first | (simp only [ua, zdi, b22, e11, e12, e13, e14, d23, nm, seval] <;> rfl) | rfl⟩
   simp only [d23, hs] at h
   cases d24 : (mapGet q138 false r4 (Gf.mk 2 c9_5))
   ·simp only [d24, hs] at h
    simp only [vz, mq, mqm, tyf, mqt, b22, e11, e12, e13, e14, d23, d24, nm, seval]
    exact ⟨p9, Nat.lt_succ_self _, by rw [hI9]; refine ⟨p9, c9_3, IntKind.i64.wrap (c9_5 + 1), .ref b9_0 0 (List.length c9_3) 1 (List.length c9_3), rfl, rfl, (show 11 ≤ nx9 + 41 by omega), ?_, e11, e12, ?_, ?_, Or.inl ⟨b9_0, el9_0, rfl, (by first | omega | (simp only [nm, seval]; omega)), (by first | omega | (intro hh; simp only [b22, reduceCtorEq] at hh)), ?_⟩, h⟩ <;> first | (simp only [ua, zdi, b22, e11, e12, e13, e14, d23, d24, nm, seval] <;> rfl) | rfl⟩
   simp only [d24, hs] at h
   cases g25 : (roomOk 8 (List.length (c9_3 ++ [c9_5])))
   ·simp only [g25, hs] at h
    exact absurd h kN9
   simp only [g25, hs] at h
   simp only [vz, mq, mqm, tyf, mqt, b22, e11, e12, e13, e14, d23, d24, g25, nm, seval]
   refine k_app (w := 1) (enc := eI) (xs := c9_3) (ys := ([c9_5])) (el := el9_0) (el2 := (some 3)) (fun _ => rfl) lf29 ao29 Tryz.underlying29 (by first | rfl | assumption | (simp only [zab, zak, et29, b22, nm, seval] <;> rfl) | (simp only [zab, zak, zew, zcz, zpe, zkc, tyf, mqt, b22, e11, e12, e13, e14, d23, d24, g25, nm, seval]; done)) (by first | rfl | assumption | (simp only [zab, zak, et29, b22, nm, seval] <;> rfl) | (simp only [zab, zak, zew, zcz, zpe, zkc, tyf, mqt, b22, e11, e12, e13, e14, d23, d24, g25, nm, seval]; done)) (Nat.zero_lt_succ _) g25 ?_
   simp only [vz, mq, mqm, tyf, mqt, b22, e11, e12, e13, e14, d23, d24, g25, nm, seval]
   exact ⟨p9, Nat.lt_succ_self _, by rw [hI9]; refine ⟨p9, (c9_3 ++ [c9_5]), IntKind.i64.wrap (c9_5 + 1), .ref (nx9 + 44) 0 (List.length (c9_3 ++ [c9_5])) 1 (List.length (c9_3 ++ [c9_5])), rfl, rfl, (show 11 ≤ nx9 + 49 by omega), ?_, e11, e12, ?_, ?_, Or.inl ⟨nx9 + 44, (sameEl el9_0 3), rfl, (by first | omega | (simp only [nm, seval]; omega)), (by first | omega | (intro hh; simp only [b22, reduceCtorEq] at hh)), ?_⟩, h⟩ <;> first | (simp only [ua, zdi, b22, e11, e12, e13, e14, d23, d24, nm, seval] <;> rfl) | rfl⟩
 ·cases p9 with
  | zero =>
   simp only [zaw, hs, reduceCtorEq] at h
   exact absurd h kN9
  | succ p9 =>
   simp only [zaw, hs, reduceCtorEq] at h
   cases d26 : (decide (c9_5 ≤ x0_x.sh.Years.High))
   ·simp only [d26, hs] at h
    replace h := kG9 _ h
    try dsimp only at h
    try simp only [hs] at h
    try simp only [vz, mq, mqm, tyf, mqt, n15, e11, e12, e13, e14, H10, d26, nm, seval]
    refine zam (x := (.lit (.slice none 0 0))) (by first | (simp only [Tryz.results70, resV, resL, resV1, zao, zbi, uw, cr, tyf, mqt, n15, H10, d26, nm, seval] <;> rfl) | rfl) ?_
    obtain rfl := kF _ h
    refine zas ?_ ?_
    ·simp only [tre, tytre, mqr, Bool.and_self]
    ·first | (simp only [outV, uw, zad, cr, tyf, mqt, nrm, tynrm, n15, e11, e12, e13, e14, H10, d26, nm, seval] <;> rfl) | rfl
   simp only [d26, hs] at h
   simp only [vz, mq, mqm, tyf, mqt, n15, e11, e12, e13, e14, H10, d26, nm, seval]
   refine zfb mixed (by kernel_rfl) 4 ?_
   cases d27 : (mapGet q138 false r4 (Gf.mk 0 c9_5))
   ·simp only [d27, hs] at h
    simp only [vz, mq, mqm, tyf, mqt, n15, e11, e12, e13, e14, H10, d26, d27, nm, seval]
    exact ⟨p9, Nat.lt_succ_self _, by rw [hI9]; refine ⟨p9, ([] : List Int), IntKind.i64.wrap (c9_5 + 1), .lit (.slice none 0 0), rfl, rfl, (show 11 ≤ nx9 + 19 by omega), ?_, e11, e12, ?_, ?_, Or.inr ⟨rfl, rfl⟩, h⟩ <;> first | (simp only [ua, zdi, n15, e11, e12, e13, e14, H10, d26, d27, nm, seval] <;> rfl) | rfl⟩
   simp only [d27, hs] at h
   cases d28 : (mapGet q138 false r4 (Gf.mk 1 c9_5))
   ·simp only [d28, hs] at h
    simp only [vz, mq, mqm, tyf, mqt, n15, e11, e12, e13, e14, H10, d26, d27, d28, nm, seval]
    exact ⟨p9, Nat.lt_succ_self _, by rw [hI9]; refine ⟨p9, ([] : List Int), IntKind.i64.wrap (c9_5 + 1), .lit (.slice none 0 0), rfl, rfl, (show 11 ≤ nx9 + 30 by omega), ?_, e11, e12, ?_, ?_, Or.inr ⟨rfl, rfl⟩, h⟩ <;> first | (simp only [ua, zdi, n15, e11, e12, e13, e14, H10, d26, d27, d28, nm, seval] <;> rfl) | rfl⟩
   simp only [d28, hs] at h
   cases d29 : (mapGet q138 false r4 (Gf.mk 2 c9_5))
   ·simp only [d29, hs] at h
    simp only [vz, mq, mqm, tyf, mqt, n15, e11, e12, e13, e14, H10, d26, d27, d28, d29, nm, seval]
    exact ⟨p9, Nat.lt_succ_self _, by rw [hI9]; refine ⟨p9, ([] : List Int), IntKind.i64.wrap (c9_5 + 1), .lit (.slice none 0 0), rfl, rfl, (show 11 ≤ nx9 + 41 by omega), ?_, e11, e12, ?_, ?_, Or.inr ⟨rfl, rfl⟩, h⟩ <;> first | (simp only [ua, zdi, n15, e11, e12, e13, e14, H10, d26, d27, d28, d29, nm, seval] <;> rfl) | rfl⟩
   simp only [d29, hs] at h
   cases g30 : (roomOk 8 (List.length (([] : List Int) ++ [c9_5])))
   ·simp only [g30, hs] at h
    exact absurd h kN9
   simp only [g30, hs] at h
   simp only [vz, mq, mqm, tyf, mqt, n15, e11, e12, e13, e14, H10, d26, d27, d28, d29, g30, nm, seval]
   refine zahi (w := 1) (enc := eI) (ys := ([c9_5])) (el2 := (some 3)) (fun _ => rfl) lf29 ao29 Tryz.underlying29 (by first | rfl | assumption | (simp only [zab, zak, et29, n15, H10, nm, seval] <;> rfl) | (simp only [zab, zak, zew, zcz, zpe, zkc, tyf, mqt, n15, e11, e12, e13, e14, H10, d26, d27, d28, d29, g30, nm, seval]; done)) (Nat.zero_lt_succ _) g30 ?_
   simp only [vz, mq, mqm, tyf, mqt, n15, e11, e12, e13, e14, H10, d26, d27, d28, d29, g30, nm, seval]
   exact ⟨p9, Nat.lt_succ_self _, by rw [hI9]; refine ⟨p9, (([] : List Int) ++ [c9_5]), IntKind.i64.wrap (c9_5 + 1), .ref (nx9 + 44) 0 (List.length (([] : List Int) ++ [c9_5])) 1 (List.length (([] : List Int) ++ [c9_5])), rfl, rfl, (show 11 ≤ nx9 + 49 by omega), ?_, e11, e12, ?_, ?_, Or.inl ⟨nx9 + 44, (some 3), rfl, (by first | omega | (simp only [nm, seval]; omega)), (by first | omega | (intro hh; simp only [n15, reduceCtorEq] at hh)), ?_⟩, h⟩ <;> first | (simp only [ua, zdi, n15, e11, e12, e13, e14, H10, d26, d27, d28, d29, nm, seval] <;> rfl) | rfl⟩
def zdf (x0_x : Gm) : Option (Bool) := Option.bind (zdn x0_x) (fun r1 => some (decide ((List.length r1 : Int) > 0)))
theorem zjg (x0_x : Gm) (R : Bool) (h : zdf x0_x = some R) : VPure Tryz.prog G0 69 [.agg (cGm x0_x)] (.tree (.lit (.bool R))) := by
 refine VPure.runR mixed Tryz.call69 Tryz.func69 rfl (by simp [Tryz.ntmps69]; kernel_rfl) ?_
 obtain ⟨KF, h, kF, kN⟩ := zaj h
 simp only [zdf] at h
 obtain ⟨r2, o3, h⟩ := optI h kN
 try simp only [hs] at h
 simp only [vz, tyf, nm, seval]
 refine ktA (zhc _ _ o3) ?_
 refine zac (fun tm => tm 4 = .sl (cellsL eI r2) (List.length r2) false ∧ True) (by refine ⟨?_, trivial⟩ <;> first | (simp only [ua, nm, seval] <;> rfl) | rfl) ?_
 rintro tm ⟨e4, _⟩
 try simp only [vz, tyf, e4, nm, seval]
 obtain rfl := kF _ h
 exact zaa Tryz.results69 rfl
def zit (x0_s : Gs) (x1_mix : List Int) : Option (Int × Int) := Option.bind (zba x0_s) (fun r1 => cond (r1) (Option.bind (zcl x0_s x1_mix) (fun r2 => cond (r2) (Option.bind (zbc (Gm.mk x0_s x1_mix)) (fun r3 => cond (r3) (some (3, 0)) (Option.bind (zdf (Gm.mk x0_s x1_mix)) (fun r4 => cond (r4) (some (2, 0)) (some (1, 0)))))) (some (0, 2)))) (some (0, 2)))
theorem zsa (x0_s : Gs) (x1_mix : List Int) (R : Int × Int) (h : zit x0_s x1_mix = some R) : VPure Tryz.prog G0 27 [.agg (cGs x0_s), .sl (cellsL eI x1_mix) (List.length x1_mix) false] (.tree (.tup [.lit (.int .i64 R.1), .lit (.int .i64 R.2)])) := by
 refine VPure.runR mixed Tryz.call27 Tryz.func27 rfl (by simp [Tryz.ntmps27]; kernel_rfl) ?_
 obtain ⟨KF, h, kF, kN⟩ := zaj h
 simp only [zit] at h
 obtain ⟨r5, o6, h⟩ := optI h kN
 try simp only [hs] at h
 simp only [vz, tyf, nm, seval]
 refine ktA (zbs _ _ o6) ?_
 refine zac (fun tm => tm 1 = .sl (cellsL eI x1_mix) (List.length x1_mix) false ∧ tm 2 = .ptr 0 0 ∧ tm 8 = .lit (.bool r5) ∧ True) (by refine ⟨?_, ?_, ?_, trivial⟩ <;> first | (simp only [ua, nm, seval] <;> rfl) | rfl) ?_
 rintro tm ⟨e7, e8, e9, _⟩
 cases d10 : (r5)
 ·simp only [d10, hs] at h
  try simp only [vz, tyf, e7, e8, e9, d10, nm, seval]
  refine zam (x := (.tup [.lit (.int .i64 0), .lit (.int .i64 2)])) (by first | (simp only [Tryz.results27, resV, resL, resV1, zao, zbi, uw, cr, tyf, d10, nm, seval] <;> rfl) | rfl) ?_
  obtain rfl := kF _ h
  refine zas ?_ ?_
  ·simp only [tre, tytre, Bool.and_self]
  ·first | (simp only [outV, uw, zad, cr, tyf, nrm, tynrm, e7, e8, e9, d10, nm, seval] <;> rfl) | rfl
 simp only [d10, hs] at h
 obtain ⟨r11, o12, h⟩ := optI h kN
 try simp only [hs] at h
 simp only [vz, tyf, e7, e8, e9, d10, nm, seval]
 refine ktA (zeg _ _ _ o12) ?_
 refine zac (fun tm => tm 1 = .sl (cellsL eI x1_mix) (List.length x1_mix) false ∧ tm 2 = .ptr 0 0 ∧ tm 10 = .lit (.bool false) ∧ tm 13 = .lit (.bool r11) ∧ True) (by refine ⟨e7, e8, ?_, ?_, trivial⟩ <;> first | (simp only [ua, e7, e8, e9, d10, nm, seval] <;> rfl) | rfl) ?_
 rintro tm ⟨e13, e14, e15, e16, _⟩
 cases d17 : (r11)
 ·simp only [d17, hs] at h
  try simp only [vz, tyf, d10, e13, e14, e15, e16, d17, nm, seval]
  refine zam (x := (.tup [.lit (.int .i64 0), .lit (.int .i64 2)])) (by first | (simp only [Tryz.results27, resV, resL, resV1, zao, zbi, uw, cr, tyf, d10, d17, nm, seval] <;> rfl) | rfl) ?_
  obtain rfl := kF _ h
  refine zas ?_ ?_
  ·simp only [tre, tytre, Bool.and_self]
  ·first | (simp only [outV, uw, zad, cr, tyf, nrm, tynrm, d10, e13, e14, e15, e16, d17, nm, seval] <;> rfl) | rfl
 simp only [d17, hs] at h
 obtain ⟨r18, o19, h⟩ := optI h kN
 try simp only [hs] at h
 simp only [vz, tyf, d10, e13, e14, e15, e16, d17, nm, seval]
 refine ktA (zdh _ _ o19) ?_
 refine zac (fun tm => tm 6 = .ptr 15 0 ∧ tm 21 = .lit (.bool r18) ∧ True) (by refine ⟨?_, ?_, trivial⟩ <;> first | (simp only [ua, d10, e13, e14, e15, e16, d17, nm, seval] <;> rfl) | rfl) ?_
 rintro tm ⟨e20, e21, _⟩
 cases d22 : (r18)
 ·simp only [d22, hs] at h
  obtain ⟨r23, o24, h⟩ := optI h kN
  try simp only [hs] at h
  simp only [vz, tyf, d10, d17, e20, e21, d22, nm, seval]
  refine ktA (zjg _ _ o24) ?_
  refine zac (fun tm => tm 24 = .lit (.bool r23) ∧ True) (by refine ⟨?_, trivial⟩ <;> first | (simp only [ua, d10, d17, e20, e21, d22, nm, seval] <;> rfl) | rfl) ?_
  rintro tm ⟨e25, _⟩
  cases d26 : (r23)
  ·simp only [d26, hs] at h
   try simp only [vz, tyf, d10, d17, d22, e25, d26, nm, seval]
   refine zam (x := (.tup [.lit (.int .i64 1), .lit (.int .i64 0)])) (by first | (simp only [Tryz.results27, resV, resL, resV1, zao, zbi, uw, cr, tyf, d10, d17, d22, d26, nm, seval] <;> rfl) | rfl) ?_
   obtain rfl := kF _ h
   refine zas ?_ ?_
   ·simp only [tre, tytre, Bool.and_self]
   ·first | (simp only [outV, uw, zad, cr, tyf, nrm, tynrm, d10, d17, d22, e25, d26, nm, seval] <;> rfl) | rfl
  simp only [d26, hs] at h
  try simp only [vz, tyf, d10, d17, d22, e25, d26, nm, seval]
  refine zam (x := (.tup [.lit (.int .i64 2), .lit (.int .i64 0)])) (by first | (simp only [Tryz.results27, resV, resL, resV1, zao, zbi, uw, cr, tyf, d10, d17, d22, d26, nm, seval] <;> rfl) | rfl) ?_
  obtain rfl := kF _ h
  refine zas ?_ ?_
  ·simp only [tre, tytre, Bool.and_self]
  ·first | (simp only [outV, uw, zad, cr, tyf, nrm, tynrm, d10, d17, d22, e25, d26, nm, seval] <;> rfl) | rfl
 simp only [d22, hs] at h
 try simp only [vz, tyf, d10, d17, e20, e21, d22, nm, seval]
 refine zam (x := (.tup [.lit (.int .i64 3), .lit (.int .i64 0)])) (by first | (simp only [Tryz.results27, resV, resL, resV1, zao, zbi, uw, cr, tyf, d10, d17, d22, nm, seval] <;> rfl) | rfl) ?_
 obtain rfl := kF _ h
 refine zas ?_ ?_
 ·simp only [tre, tytre, Bool.and_self]
 ·first | (simp only [outV, uw, zad, cr, tyf, nrm, tynrm, d10, d17, e20, e21, d22, nm, seval] <;> rfl) | rfl
def zhu (x0_s : Gs) (x1_mix : List Int) : Option (GSpan × Int) := Option.bind (zba x0_s) (fun r1 => cond (r1) (Option.bind (zcl x0_s x1_mix) (fun r2 => cond (r2) (Option.bind (zdn (Gm.mk x0_s x1_mix)) (fun r3 => cond ((List.length r3 : Int) == 0) (some ((GSpan.mk 0 0), 5)) (Option.bind (getI r3 0) (fun x4 => Option.bind (getI r3 (IntKind.i64.wrap ((List.length r3 : Int) - 1))) (fun x5 => some ((GSpan.mk x4 x5), 0)))))) (some ((GSpan.mk 0 0), 2)))) (some ((GSpan.mk 0 0), 2)))
theorem zpt (x0_s : Gs) (x1_mix : List Int) (R : GSpan × Int) (h : zhu x0_s x1_mix = some R) : VPure Tryz.prog G0 28 [.agg (cGs x0_s), .sl (cellsL eI x1_mix) (List.length x1_mix) false] (.tree (.tup [.agg (cGSpan R.1), .lit (.int .i64 R.2)])) := by
 refine VPure.runR mixed Tryz.call28 Tryz.func28 rfl (by simp [Tryz.ntmps28]; kernel_rfl) ?_
 obtain ⟨KF, h, kF, kN⟩ := zaj h
 simp only [zhu] at h
 obtain ⟨r6, o7, h⟩ := optI h kN
 try simp only [hs] at h
 simp only [vz, tyf, nm, seval]
 refine ktA (zbs _ _ o7) ?_
 refine zac (fun tm => tm 1 = .sl (cellsL eI x1_mix) (List.length x1_mix) false ∧ tm 2 = .ptr 0 0 ∧ tm 4 = .ptr 1 0 ∧ tm 8 = .lit (.bool r6) ∧ True) (by refine ⟨?_, ?_, ?_, ?_, trivial⟩ <;> first | (simp only [ua, nm, seval] <;> rfl) | rfl) ?_
 rintro tm ⟨e8, e9, e10, e11, _⟩
 cases d12 : (r6)
 ·simp only [d12, hs] at h
  try simp only [vz, tyf, e8, e9, e10, e11, d12, nm, seval]
  refine zam (x := (.tup [.agg ([.lit (.int .i64 0)] ++ [.lit (.int .i64 0)]), .lit (.int .i64 2)])) (by first | (simp only [Tryz.results28, resV, resL, resV1, zao, zbi, uw, cr, tyf, e8, e9, e10, e11, d12, nm, seval] <;> rfl) | rfl) ?_
  obtain rfl := kF _ h
  refine zas ?_ ?_
  ·simp only [tre, tytre, Bool.and_self]
  ·first | (simp only [outV, uw, zad, cr, tyf, nrm, tynrm, e8, e9, e10, e11, d12, nm, seval] <;> rfl) | rfl
 simp only [d12, hs] at h
 obtain ⟨r13, o14, h⟩ := optI h kN
 try simp only [hs] at h
 simp only [vz, tyf, e8, e9, e10, e11, d12, nm, seval]
 refine ktA (zeg _ _ _ o14) ?_
 refine zac (fun tm => tm 1 = .sl (cellsL eI x1_mix) (List.length x1_mix) false ∧ tm 2 = .ptr 0 0 ∧ tm 4 = .ptr 1 0 ∧ tm 10 = .lit (.bool false) ∧ tm 13 = .lit (.bool r13) ∧ True) (by refine ⟨e8, e9, e10, ?_, ?_, trivial⟩ <;> first | (simp only [ua, e8, e9, e10, e11, d12, nm, seval] <;> rfl) | rfl) ?_
 rintro tm ⟨e15, e16, e17, e18, e19, _⟩
 cases d20 : (r13)
 ·simp only [d20, hs] at h
  try simp only [vz, tyf, d12, e15, e16, e17, e18, e19, d20, nm, seval]
  refine zam (x := (.tup [.agg ([.lit (.int .i64 0)] ++ [.lit (.int .i64 0)]), .lit (.int .i64 2)])) (by first | (simp only [Tryz.results28, resV, resL, resV1, zao, zbi, uw, cr, tyf, d12, e15, e16, e17, e18, e19, d20, nm, seval] <;> rfl) | rfl) ?_
  obtain rfl := kF _ h
  refine zas ?_ ?_
  ·simp only [tre, tytre, Bool.and_self]
  ·first | (simp only [outV, uw, zad, cr, tyf, nrm, tynrm, d12, e15, e16, e17, e18, e19, d20, nm, seval] <;> rfl) | rfl
 simp only [d20, hs] at h
 obtain ⟨r21, o22, h⟩ := optI h kN
 try simp only [hs] at h
 simp only [vz, tyf, d12, e15, e16, e17, e18, e19, d20, nm, seval]
 refine ktA (zhc _ _ o22) ?_
 refine zac (fun tm => tm 4 = .ptr 1 0 ∧ tm 20 = .sl (cellsL eI r21) (List.length r21) false ∧ True) (by refine ⟨e17, ?_, trivial⟩ <;> first | (simp only [ua, d12, e15, e16, e17, e18, e19, d20, nm, seval] <;> rfl) | rfl) ?_
 rintro tm ⟨e23, e24, _⟩
 cases d25 : ((List.length r21 : Int) == 0)
 ·simp only [d25, hs] at h
  simp only [vz, tyf, d12, d20, e23, e24, d25, nm, seval]
  refine zdz (fun tm => tm 4 = .ptr 1 0 ∧ tm 6 = .sl (cellsL eI r21) (List.length r21) false ∧ True) (by refine ⟨e23, ?_, trivial⟩ <;> first | (simp only [ua, d12, d20, e23, e24, d25, nm, seval] <;> rfl) | rfl) ?_
  rintro tm ⟨e26, e27, _⟩
  obtain ⟨x28, o29, h⟩ := optI h kN
  try simp only [hs] at h
  obtain ⟨x30, o31, h⟩ := optI h kN
  try simp only [hs] at h
  simp only [vz, tyf, d12, d20, d25, e26, e27, (ix29 o29), (ix29 o31), nm, seval]
  refine zdt ⟨?_, ?_⟩
  ·simp only [zbx, zcu, zav, zex, and_true, true_and]
   repeat' (first | exact trivial | refine And.intro ?_ ?_ | rw [zav] | rw [zdu] | exact Or.inl (by decide +kernel) | exact Or.inl (by dsimp only; decide +kernel) | (refine Or.inr ⟨?_, ?_⟩ <;> simp; done) | (refine Or.inr ⟨?_, ?_⟩ <;> simp <;> omega) | (refine Or.inr ⟨?_, ?_⟩ <;> simp [VEff.wr] <;> omega))
  try simp only [vz, tyf, d12, d20, d25, e26, e27, (ix29 o29), (ix29 o31), nm, seval]
  refine zam (x := (.tup [.agg ([.lit (.int .i64 x28)] ++ [.lit (.int .i64 x30)]), .lit (.int .i64 0)])) (by first | (simp only [Tryz.results28, resV, resL, resV1, zao, zbi, uw, cr, tyf, d12, d20, d25, e26, e27, (ix29 o29), (ix29 o31), nm, seval] <;> rfl) | rfl) ?_
  obtain rfl := kF _ h
  refine zas ?_ ?_
  ·simp only [tre, tytre, Bool.and_self]
  ·first | (simp only [outV, uw, zad, cr, tyf, nrm, tynrm, d12, d20, d25, e26, e27, (ix29 o29), (ix29 o31), nm, seval] <;> rfl) | rfl
 simp only [d25, hs] at h
 try simp only [vz, tyf, d12, d20, e23, e24, d25, nm, seval]
 refine zam (x := (.tup [.agg ([.lit (.int .i64 0)] ++ [.lit (.int .i64 0)]), .lit (.int .i64 5)])) (by first | (simp only [Tryz.results28, resV, resL, resV1, zao, zbi, uw, cr, tyf, d12, d20, e23, e24, d25, nm, seval] <;> rfl) | rfl) ?_
 obtain rfl := kF _ h
 refine zas ?_ ?_
 ·simp only [tre, tytre, Bool.and_self]
 ·first | (simp only [outV, uw, zad, cr, tyf, nrm, tynrm, d12, d20, e23, e24, d25, nm, seval] <;> rfl) | rfl



end Go.V
end
section
namespace Go.V
open Go
def anyR (T : Int → Bool) : Nat → Int → Bool
 | 0, _ => false
 | k + 1, c => T c || anyR T k (c + 1)
theorem zwb {T : Int → Bool} : ∀ (k : Nat) (c : Int), anyR T k c = true ↔ ∃ f : Int, c ≤ f ∧ f < c + k ∧ T f = true
 | 0, c => by
  simp only [anyR, Bool.false_eq_true, false_iff]
  rintro ⟨f, h1, h2, _⟩
  omega
 | k + 1, c => by
  simp only [anyR, Bool.or_eq_true, zwb k (c + 1)]
  constructor
  ·rintro (h | ⟨f, h1, h2, h3⟩)
   ·exact ⟨c, by omega, by omega, h⟩
   ·exact ⟨f, by omega, by omega, h3⟩
  ·rintro ⟨f, h1, h2, h3⟩
   by_cases e : f = c
   ·subst e; exact .inl h3
   ·exact .inr ⟨f, by omega, by omega, h3⟩
def canT (s : Gs) (mix : List Int) (p : P3) (y f : Int) : Bool := decide (sumL mix * leftI (selI s.Old p) y f - sumL mix * s.Off ≤ (sumsP s mix p).High) && decide ((sumsP s mix p).Low ≤ sumL mix * leftI (selI s.Old p) y f + sumL mix * s.Off)
theorem can_b {s : Gs} (hs : ShOk s) {mix : List Int} (hm : MixOk s mix) (p : P3) {y f : Int} (hy : 0 ≤ y ∧ y ≤ 20) (hf : 0 ≤ f) : 0 ≤ sumL mix * leftI (selI s.Old p) y f ∧ sumL mix * leftI (selI s.Old p) y f ≤ 792 ∧ 0 ≤ sumL mix * s.Off ∧ sumL mix * s.Off ≤ 160 := by
 have h1 := hs.old p
 have h2 := zaeq (y := y) (f := f) h1 hy.1 hf
 have h3 := hm.s
 have h4 := hs.off
 have h5 := mulR (a := sumL mix) (A := 8) (by omega) h3.2 h2.1 (show leftI (selI s.Old p) y f ≤ 99 by omega)
 have h6 := mulR (a := sumL mix) (A := 8) (b := s.Off) (B := 20) (by omega) h3.2 (by omega) (by omega)
 omega
theorem zanr {s : Gs} (hs : ShOk s) {mix : List Int} (hm : MixOk s mix) {y : Int} (hy : 0 ≤ y ∧ y ≤ 20) : ∀ (k fuel : Nat) (c : Int), k < fuel → 0 ≤ c → c + k = s.Fade.a0.High + 1 → zah ⟨s, mix⟩ y (sumsP s mix .p0) (sumL mix) fuel c = cond (anyR (canT s mix .p0 y) k c) (some (.ret true)) (some (.go (c + k)))
 | 0, fuel + 1, c, _, h0, hc => by
  simp only [zah]
  rw [decide_eq_false (by show ¬ c ≤ s.Fade.a0.High; omega)]
  simp [anyR]
 | k + 1, fuel + 1, c, hf, h0, hc => by
  have hfd := hs.fade .p0
  simp only [selS] at hfd
  have ih := zanr hs hm hy k fuel (c + 1) (by omega) (by omega) (by omega)
  have e1 := zqh (hs.old .p0) hy (show 0 ≤ c ∧ c ≤ 9 by omega)
  simp only [selI] at e1
  have hb := can_b hs hm .p0 hy (show 0 ≤ c by omega)
  simp only [selI] at hb
  have e2 : IntKind.i64.wrap (sumL mix * leftI s.Old.a0 y c) = sumL mix * leftI s.Old.a0 y c := zci (by omega) (by omega)
  have e3 : IntKind.i64.wrap (sumL mix * s.Off) = sumL mix * s.Off := zci (by omega) (by omega)
  have e4 : IntKind.i64.wrap (sumL mix * leftI s.Old.a0 y c - sumL mix * s.Off) = sumL mix * leftI s.Old.a0 y c - sumL mix * s.Off := zci (by omega) (by omega)
  have e5 : IntKind.i64.wrap (sumL mix * leftI s.Old.a0 y c + sumL mix * s.Off) = sumL mix * leftI s.Old.a0 y c + sumL mix * s.Off := zci (by omega) (by omega)
  have e6 : IntKind.i64.wrap (c + 1) = c + 1 := zci (by omega) (by omega)
  have hT : canT s mix .p0 y c = (decide (sumL mix * leftI s.Old.a0 y c - sumL mix * s.Off ≤ (sumsP s mix .p0).High) && decide ((sumsP s mix .p0).Low ≤ sumL mix * leftI s.Old.a0 y c + sumL mix * s.Off)) := rfl
  simp only [zah]
  rw [decide_eq_true (show c ≤ s.Fade.a0.High by omega), e1]
  simp only [Option.bind_some, cond_true, e2, e3, e4, e5, e6, ih, anyR, hT]
  rw [show c + 1 + (k : Int) = c + ((k + 1 : Nat) : Int) by omega]
  cases decide (sumL mix * leftI s.Old.a0 y c - sumL mix * s.Off ≤ (sumsP s mix .p0).High) <;> cases decide ((sumsP s mix .p0).Low ≤ sumL mix * leftI s.Old.a0 y c + sumL mix * s.Off) <;> rfl
 | _ , 0, _, hf, _, _ => by omega
theorem zapw {s : Gs} (hs : ShOk s) {mix : List Int} (hm : MixOk s mix) {y : Int} (hy : 0 ≤ y ∧ y ≤ 20) : ∀ (k fuel : Nat) (c : Int), k < fuel → 0 ≤ c → c + k = s.Fade.a1.High + 1 → zag ⟨s, mix⟩ y (sumsP s mix .p1) (sumL mix) fuel c = cond (anyR (canT s mix .p1 y) k c) (some (.ret true)) (some (.go (c + k)))
 | 0, fuel + 1, c, _, h0, hc => by
  simp only [zag]
  rw [decide_eq_false (by show ¬ c ≤ s.Fade.a1.High; omega)]
  simp [anyR]
 | k + 1, fuel + 1, c, hf, h0, hc => by
  have hfd := hs.fade .p1
  simp only [selS] at hfd
  have ih := zapw hs hm hy k fuel (c + 1) (by omega) (by omega) (by omega)
  have e1 := zqh (hs.old .p1) hy (show 0 ≤ c ∧ c ≤ 9 by omega)
  simp only [selI] at e1
  have hb := can_b hs hm .p1 hy (show 0 ≤ c by omega)
  simp only [selI] at hb
  have e2 : IntKind.i64.wrap (sumL mix * leftI s.Old.a1 y c) = sumL mix * leftI s.Old.a1 y c := zci (by omega) (by omega)
  have e3 : IntKind.i64.wrap (sumL mix * s.Off) = sumL mix * s.Off := zci (by omega) (by omega)
  have e4 : IntKind.i64.wrap (sumL mix * leftI s.Old.a1 y c - sumL mix * s.Off) = sumL mix * leftI s.Old.a1 y c - sumL mix * s.Off := zci (by omega) (by omega)
  have e5 : IntKind.i64.wrap (sumL mix * leftI s.Old.a1 y c + sumL mix * s.Off) = sumL mix * leftI s.Old.a1 y c + sumL mix * s.Off := zci (by omega) (by omega)
  have e6 : IntKind.i64.wrap (c + 1) = c + 1 := zci (by omega) (by omega)
  have hT : canT s mix .p1 y c = (decide (sumL mix * leftI s.Old.a1 y c - sumL mix * s.Off ≤ (sumsP s mix .p1).High) && decide ((sumsP s mix .p1).Low ≤ sumL mix * leftI s.Old.a1 y c + sumL mix * s.Off)) := rfl
  simp only [zag]
  rw [decide_eq_true (show c ≤ s.Fade.a1.High by omega), e1]
  simp only [Option.bind_some, cond_true, e2, e3, e4, e5, e6, ih, anyR, hT]
  rw [show c + 1 + (k : Int) = c + ((k + 1 : Nat) : Int) by omega]
  cases decide (sumL mix * leftI s.Old.a1 y c - sumL mix * s.Off ≤ (sumsP s mix .p1).High) <;> cases decide ((sumsP s mix .p1).Low ≤ sumL mix * leftI s.Old.a1 y c + sumL mix * s.Off) <;> rfl
 | _ , 0, _, hf, _, _ => by omega
theorem zaoo {s : Gs} (hs : ShOk s) {mix : List Int} (hm : MixOk s mix) {y : Int} (hy : 0 ≤ y ∧ y ≤ 20) : ∀ (k fuel : Nat) (c : Int), k < fuel → 0 ≤ c → c + k = s.Fade.a2.High + 1 → zaf ⟨s, mix⟩ y (sumsP s mix .p2) (sumL mix) fuel c = cond (anyR (canT s mix .p2 y) k c) (some (.ret true)) (some (.go (c + k)))
 | 0, fuel + 1, c, _, h0, hc => by
  simp only [zaf]
  rw [decide_eq_false (by show ¬ c ≤ s.Fade.a2.High; omega)]
  simp [anyR]
 | k + 1, fuel + 1, c, hf, h0, hc => by
  have hfd := hs.fade .p2
  simp only [selS] at hfd
  have ih := zaoo hs hm hy k fuel (c + 1) (by omega) (by omega) (by omega)
  have e1 := zqh (hs.old .p2) hy (show 0 ≤ c ∧ c ≤ 9 by omega)
  simp only [selI] at e1
  have hb := can_b hs hm .p2 hy (show 0 ≤ c by omega)
  simp only [selI] at hb
  have e2 : IntKind.i64.wrap (sumL mix * leftI s.Old.a2 y c) = sumL mix * leftI s.Old.a2 y c := zci (by omega) (by omega)
  have e3 : IntKind.i64.wrap (sumL mix * s.Off) = sumL mix * s.Off := zci (by omega) (by omega)
  have e4 : IntKind.i64.wrap (sumL mix * leftI s.Old.a2 y c - sumL mix * s.Off) = sumL mix * leftI s.Old.a2 y c - sumL mix * s.Off := zci (by omega) (by omega)
  have e5 : IntKind.i64.wrap (sumL mix * leftI s.Old.a2 y c + sumL mix * s.Off) = sumL mix * leftI s.Old.a2 y c + sumL mix * s.Off := zci (by omega) (by omega)
  have e6 : IntKind.i64.wrap (c + 1) = c + 1 := zci (by omega) (by omega)
  have hT : canT s mix .p2 y c = (decide (sumL mix * leftI s.Old.a2 y c - sumL mix * s.Off ≤ (sumsP s mix .p2).High) && decide ((sumsP s mix .p2).Low ≤ sumL mix * leftI s.Old.a2 y c + sumL mix * s.Off)) := rfl
  simp only [zaf]
  rw [decide_eq_true (show c ≤ s.Fade.a2.High by omega), e1]
  simp only [Option.bind_some, cond_true, e2, e3, e4, e5, e6, ih, anyR, hT]
  rw [show c + 1 + (k : Int) = c + ((k + 1 : Nat) : Int) by omega]
  cases decide (sumL mix * leftI s.Old.a2 y c - sumL mix * s.Off ≤ (sumsP s mix .p2).High) <;> cases decide ((sumsP s mix .p2).Low ≤ sumL mix * leftI s.Old.a2 y c + sumL mix * s.Off) <;> rfl
 | _ , 0, _, hf, _, _ => by omega
def canB (s : Gs) (mix : List Int) (p : P3) (y : Int) : Bool := anyR (canT s mix p y) ((selS s.Fade p).High + 1 - (selS s.Fade p).Low).toNat (selS s.Fade p).Low
theorem zmp {s : Gs} (hs : ShOk s) {mix : List Int} (hm : MixOk s mix) (p : P3) {y : Int} (hy : 0 ≤ y ∧ y ≤ 20) : zbd ⟨s, mix⟩ y p.i (sumsP s mix p) = some (canB s mix p y) := by
 have f0 := hs.fade .p0
 have f1 := hs.fade .p1
 have f2 := hs.fade .p2
 simp only [selS] at f0 f1 f2
 unfold zbd canB
 rw [zafl hs hm]
 simp only [Option.bind_some]
 cases p <;> simp only [P3.i, Int.reduceBEq, cond_true, cond_false, selS]
 ·rw [zanr hs hm hy (s.Fade.a0.High + 1 - s.Fade.a0.Low).toNat 1000000 s.Fade.a0.Low (by omega) (by omega) (by omega)]
  cases anyR (canT s mix .p0 y) (s.Fade.a0.High + 1 - s.Fade.a0.Low).toNat s.Fade.a0.Low <;> rfl
 ·rw [zapw hs hm hy (s.Fade.a1.High + 1 - s.Fade.a1.Low).toNat 1000000 s.Fade.a1.Low (by omega) (by omega) (by omega)]
  cases anyR (canT s mix .p1 y) (s.Fade.a1.High + 1 - s.Fade.a1.Low).toNat s.Fade.a1.Low <;> rfl
 ·rw [zaoo hs hm hy (s.Fade.a2.High + 1 - s.Fade.a2.Low).toNat 1000000 s.Fade.a2.Low (by omega) (by omega) (by omega)]
  cases anyR (canT s mix .p2 y) (s.Fade.a2.High + 1 - s.Fade.a2.Low).toNat s.Fade.a2.Low <;> rfl
def fillM (p : Int) (T : Int → Bool) : Nat → Int → List (Gf × Bool) → List (Gf × Bool)
 | 0, _, m => m
 | k + 1, c, m => fillM p T k (c + 1) (mapSet q138 m ⟨p, c⟩ (T c))
theorem zwo (a b : Gf) : q138 a b = true ↔ a = b := by
 constructor
 ·exact hq138 a b
 ·rintro rfl
  simp [q138]
theorem zkt (p : Int) (T : Int → Bool) : ∀ (k : Nat) (c : Int) (m : List (Gf × Bool)) (p' y : Int), mapGet q138 false (fillM p T k c m) ⟨p', y⟩ = if p' = p ∧ c ≤ y ∧ y < c + k then T y else mapGet q138 false m ⟨p', y⟩
 | 0, c, m, p', y => by
  rw [if_neg (by rintro ⟨_, h1, h2⟩; omega)]
  rfl
 | k + 1, c, m, p', y => by
  rw [fillM, zkt p T k (c + 1), zacw zwo]
  by_cases h1 : p' = p
  ·by_cases h2 : y = c
   ·subst h1 h2
    rw [if_neg (by rintro ⟨_, h1, _⟩; omega), if_pos (by simp [q138]), if_pos ⟨rfl, by omega, by omega⟩]
   ·have h3 : ¬ q138 ⟨p', y⟩ ⟨p, c⟩ = true := by
     rw [zwo]
     intro e
     exact h2 (congrArg Gf.years e)
    rw [if_neg h3]
    by_cases h4 : c + 1 ≤ y ∧ y < c + 1 + k
    ·rw [if_pos ⟨h1, h4⟩, if_pos ⟨h1, by omega, by omega⟩]
    ·rw [if_neg (fun h => h4 h.2), if_neg (fun h => h4 ⟨by omega, by omega⟩)]
  ·have h3 : ¬ q138 ⟨p', y⟩ ⟨p, c⟩ = true := by
    rw [zwo]
    intro e
    exact h1 (congrArg Gf.pigment e)
   rw [if_neg (fun h => h1 h.1), if_neg h3, if_neg (fun h => h1 h.1)]
theorem zqi {s : Gs} (hs : ShOk s) {mix : List Int} (hm : MixOk s mix) : ∀ (k fuel : Nat) (c : Int) (m : List (Gf × Bool)), k < fuel → 0 ≤ c → c + k = s.Years.High + 1 → zap ⟨s, mix⟩ (sumsS s mix) fuel c m = some (.go (c + k, fillM 0 (canB s mix .p0) k c m))
 | 0, fuel + 1, c, m, _, h0, hc => by
  simp only [zap]
  rw [decide_eq_false (by show ¬ c ≤ s.Years.High; omega)]
  simp [fillM]
 | k + 1, fuel + 1, c, m, hf, h0, hc => by
  have hyr := hs.yrs
  have ih := fun m => zqi hs hm k fuel (c + 1) m (by omega) (by omega) (by omega)
  have e1 := zmp hs hm .p0 (show 0 ≤ c ∧ c ≤ 20 by omega)
  rw [show P3.p0.i = 0 from rfl] at e1
  have e6 : IntKind.i64.wrap (c + 1) = c + 1 := zci (by omega) (by omega)
  simp only [zap]
  rw [decide_eq_true (show c ≤ s.Years.High by omega), show (sumsS s mix).a0 = sumsP s mix .p0 from rfl, e1]
  simp only [Option.bind_some, cond_true, e6, ih, fillM]
  rw [show c + 1 + (k : Int) = c + ((k + 1 : Nat) : Int) by omega]
 | _ , 0, _, _, hf, _, _ => by omega
theorem zrc {s : Gs} (hs : ShOk s) {mix : List Int} (hm : MixOk s mix) : ∀ (k fuel : Nat) (c : Int) (m : List (Gf × Bool)), k < fuel → 0 ≤ c → c + k = s.Years.High + 1 → zat ⟨s, mix⟩ (sumsS s mix) fuel c m = some (.go (c + k, fillM 1 (canB s mix .p1) k c m))
 | 0, fuel + 1, c, m, _, h0, hc => by
  simp only [zat]
  rw [decide_eq_false (by show ¬ c ≤ s.Years.High; omega)]
  simp [fillM]
 | k + 1, fuel + 1, c, m, hf, h0, hc => by
  have hyr := hs.yrs
  have ih := fun m => zrc hs hm k fuel (c + 1) m (by omega) (by omega) (by omega)
  have e1 := zmp hs hm .p1 (show 0 ≤ c ∧ c ≤ 20 by omega)
  rw [show P3.p1.i = 1 from rfl] at e1
  have e6 : IntKind.i64.wrap (c + 1) = c + 1 := zci (by omega) (by omega)
  simp only [zat]
  rw [decide_eq_true (show c ≤ s.Years.High by omega), show (sumsS s mix).a1 = sumsP s mix .p1 from rfl, e1]
  simp only [Option.bind_some, cond_true, e6, ih, fillM]
  rw [show c + 1 + (k : Int) = c + ((k + 1 : Nat) : Int) by omega]
 | _ , 0, _, _, hf, _, _ => by omega
theorem zqt {s : Gs} (hs : ShOk s) {mix : List Int} (hm : MixOk s mix) : ∀ (k fuel : Nat) (c : Int) (m : List (Gf × Bool)), k < fuel → 0 ≤ c → c + k = s.Years.High + 1 → zar ⟨s, mix⟩ (sumsS s mix) fuel c m = some (.go (c + k, fillM 2 (canB s mix .p2) k c m))
 | 0, fuel + 1, c, m, _, h0, hc => by
  simp only [zar]
  rw [decide_eq_false (by show ¬ c ≤ s.Years.High; omega)]
  simp [fillM]
 | k + 1, fuel + 1, c, m, hf, h0, hc => by
  have hyr := hs.yrs
  have ih := fun m => zqt hs hm k fuel (c + 1) m (by omega) (by omega) (by omega)
  have e1 := zmp hs hm .p2 (show 0 ≤ c ∧ c ≤ 20 by omega)
  rw [show P3.p2.i = 2 from rfl] at e1
  have e6 : IntKind.i64.wrap (c + 1) = c + 1 := zci (by omega) (by omega)
  simp only [zar]
  rw [decide_eq_true (show c ≤ s.Years.High by omega), show (sumsS s mix).a2 = sumsP s mix .p2 from rfl, e1]
  simp only [Option.bind_some, cond_true, e6, ih, fillM]
  rw [show c + 1 + (k : Int) = c + ((k + 1 : Nat) : Int) by omega]
 | _ , 0, _, _, hf, _, _ => by omega
def yrsN (s : Gs) : Nat := (s.Years.High + 1 - s.Years.Low).toNat
def mapM (s : Gs) (mix : List Int) : List (Gf × Bool) := fillM 2 (canB s mix .p2) (yrsN s) s.Years.Low (fillM 1 (canB s mix .p1) (yrsN s) s.Years.Low (fillM 0 (canB s mix .p0) (yrsN s) s.Years.Low []))
theorem zaax {s : Gs} (hs : ShOk s) {mix : List Int} (hm : MixOk s mix) : zdg ⟨s, mix⟩ = some (mapM s mix) := by
 have hy := hs.yrs
 have hk : s.Years.Low + (yrsN s : Int) = s.Years.High + 1 := by unfold yrsN; omega
 have hk2 : yrsN s < 1000000 := by unfold yrsN; omega
 unfold zdg
 rw [zabo hs hm]
 simp only [Option.bind_some, zqi hs hm (yrsN s) 1000000 _ _ hk2 hy.1 hk, zrc hs hm (yrsN s) 1000000 _ _ hk2 hy.1 hk, zqt hs hm (yrsN s) 1000000 _ _ hk2 hy.1 hk, lbind]
 rfl
theorem zsu {s : Gs} {mix : List Int} (hs : ShOk s) (p : P3) {y : Int} (hy : s.Years.Low ≤ y ∧ y ≤ s.Years.High) : mapGet q138 false (mapM s mix) ⟨p.i, y⟩ = canB s mix p y := by
 have hk : s.Years.Low + (yrsN s : Int) = s.Years.High + 1 := by have := hs.yrs; unfold yrsN; omega
 unfold mapM
 rw [zkt, zkt, zkt]
 cases p <;> simp only [P3.i]
 ·rw [if_neg (by rintro ⟨h, _⟩; omega), if_neg (by rintro ⟨h, _⟩; omega), if_pos ⟨trivial, by omega, by omega⟩]
 ·rw [if_neg (by rintro ⟨h, _⟩; omega), if_pos ⟨trivial, by omega, by omega⟩]
 ·rw [if_pos ⟨trivial, by omega, by omega⟩]
def allC (s : Gs) (mix : List Int) (y : Int) : Bool := canB s mix .p0 y && (canB s mix .p1 y && canB s mix .p2 y)
def yL (A : Int → Bool) : Nat → Int → List Int
 | 0, _ => []
 | k + 1, c => cond (A c) (c :: yL A k (c + 1)) (yL A k (c + 1))
theorem zacd {A : Int → Bool} {y : Int} : ∀ (k : Nat) (c : Int), y ∈ yL A k c ↔ c ≤ y ∧ y < c + k ∧ A y = true
 | 0, c => by simp only [yL, List.not_mem_nil, false_iff]; omega
 | k + 1, c => by
  simp only [yL]
  cases h : A c with
  | true =>
   simp only [cond_true, List.mem_cons, zacd k (c + 1)]
   constructor
   ·rintro (rfl | ⟨h1, h2, h3⟩)
    ·exact ⟨by omega, by omega, h⟩
    ·exact ⟨by omega, by omega, h3⟩
   ·rintro ⟨h1, h2, h3⟩
    by_cases e : y = c
    ·exact .inl e
    ·exact .inr ⟨by omega, by omega, h3⟩
  | false =>
   simp only [cond_false, zacd k (c + 1)]
   constructor
   ·rintro ⟨h1, h2, h3⟩
    exact ⟨by omega, by omega, h3⟩
   ·rintro ⟨h1, h2, h3⟩
    by_cases e : y = c
    ·subst e; rw [h] at h3; cases h3
    ·exact ⟨by omega, by omega, h3⟩
theorem zapf {A : Int → Bool} : ∀ (k : Nat) (c : Int), (yL A k c).length ≤ k
 | 0, _ => Nat.le_refl _
 | k + 1, c => by
  have := zapf (A := A) k (c + 1)
  simp only [yL]
  cases A c
  ·simp only [cond_false]; omega
  ·simp only [cond_true, List.length_cons]; omega
theorem zadq {s : Gs} (hs : ShOk s) {mix : List Int} : ∀ (k fuel : Nat) (c : Int) (acc : List Int), k < fuel → s.Years.Low ≤ c → c + k = s.Years.High + 1 → acc.length + k ≤ 1000 → zaw ⟨s, mix⟩ (mapM s mix) fuel acc c = some (.go (acc ++ yL (allC s mix) k c, c + k))
 | 0, fuel + 1, c, acc, _, h0, hc, _ => by
  simp only [zaw]
  rw [decide_eq_false (by show ¬ c ≤ s.Years.High; omega)]
  simp [yL]
 | k + 1, fuel + 1, c, acc, hf, h0, hc, hl => by
  have hyr := hs.yrs
  have ih := fun acc hl => zadq (mix := mix) hs k fuel (c + 1) acc (by omega) (by omega) (by omega) hl
  have g0 := zsu (mix := mix) hs .p0 (y := c) ⟨h0, by omega⟩
  have g1 := zsu (mix := mix) hs .p1 (y := c) ⟨h0, by omega⟩
  have g2 := zsu (mix := mix) hs .p2 (y := c) ⟨h0, by omega⟩
  simp only [P3.i] at g0 g1 g2
  have e6 : IntKind.i64.wrap (c + 1) = c + 1 := zci (by omega) (by omega)
  have hr : roomOk 8 (List.length (acc ++ [c])) = true := by
   unfold roomOk
   simp only [List.length_append, List.length_cons, List.length_nil, decide_eq_true_eq]
   omega
  have i1 := ih (acc ++ [c]) (by simp only [List.length_append, List.length_cons, List.length_nil]; omega)
  have i2 := ih acc (by omega)
  simp only [zaw]
  rw [decide_eq_true (show c ≤ s.Years.High by omega), g0, g1, g2, e6, hr, i1, i2]
  simp only [cond_true, yL, allC]
  rw [show c + 1 + (k : Int) = c + ((k + 1 : Nat) : Int) by omega]
  cases canB s mix .p0 c <;> cases canB s mix .p1 c <;> cases canB s mix .p2 c <;> simp
 | _ , 0, _, _, hf, _, _, _ => by omega
def yearsL (s : Gs) (mix : List Int) : List Int := yL (allC s mix) (yrsN s) s.Years.Low
theorem zado {s : Gs} (hs : ShOk s) {mix : List Int} (hm : MixOk s mix) : zdn ⟨s, mix⟩ = some (yearsL s mix) := by
 have hy := hs.yrs
 have hk : s.Years.Low + (yrsN s : Int) = s.Years.High + 1 := by unfold yrsN; omega
 have hk2 : yrsN s ≤ 900 := by unfold yrsN; omega
 unfold zdn
 rw [zaax hs hm]
 simp only [Option.bind_some, zadq hs (yrsN s) 1000000 _ [] (by omega) (Int.le_refl _) hk (by simp only [List.length_nil]; omega), lbind]
 rfl
theorem zaar {s : Gs} (hs : ShOk s) {mix : List Int} (hm : MixOk s mix) : zdf ⟨s, mix⟩ = some (!(yearsL s mix).isEmpty) := by
 unfold zdf
 rw [zado hs hm, Option.bind_some]
 cases yearsL s mix with
 | nil => rfl
 | cons a l =>
  rw [decide_eq_true (by show ((a :: l).length : Int) > 0; simp only [List.length_cons]; omega)]
  rfl
def wordI (s : Gs) (mix : List Int) : Int := cond (surelyB s mix) 3 (cond (!(yearsL s mix).isEmpty) 2 1)
theorem zape {s : Gs} (h : lenOk s.Tins = true) (mix : List Int) : zit s mix = some (cond (sheetB s && mixB s mix) (wordI s mix, 0) (0, 2)) := by
 unfold zit
 rw [zkh h]
 cases hb : sheetB s with
 | false => rfl
 | true =>
  have hs := ShOk.of hb
  simp only [Option.bind_some, cond_true, zrr hs, Bool.true_and]
  cases hx : mixB s mix with
  | false => rfl
  | true =>
   have hm := MixOk.of hx
   simp only [cond_true, zxv hs hm, zaar hs hm, Option.bind_some, wordI]
   cases surelyB s mix <;> cases (yearsL s mix).isEmpty <;> rfl
def spanY : List Int → GSpan × Int
 | [] => (⟨0, 0⟩, 5)
 | a :: l => (⟨a, (a :: l).getLast (by simp)⟩, 0)
theorem zama {s : Gs} (h : lenOk s.Tins = true) (mix : List Int) : zhu s mix = some (cond (sheetB s && mixB s mix) (spanY (yearsL s mix)) (⟨0, 0⟩, 2)) := by
 unfold zhu
 rw [zkh h]
 cases hb : sheetB s with
 | false => rfl
 | true =>
  have hs := ShOk.of hb
  simp only [Option.bind_some, cond_true, zrr hs, Bool.true_and]
  cases hx : mixB s mix with
  | false => rfl
  | true =>
   have hm := MixOk.of hx
   have hy := hs.yrs
   have hlen : (yearsL s mix).length ≤ yrsN s := zapf _ _
   have hk2 : yrsN s ≤ 900 := by unfold yrsN; omega
   simp only [cond_true, zado hs hm, Option.bind_some]
   generalize yearsL s mix = Y at hlen
   cases Y with
   | nil => rfl
   | cons a l =>
    have e1 : (((a :: l).length : Int) == 0) = false := by rw [beq_eq_false_iff_ne, List.length_cons]; omega
    have e2 := zaie (xs := a :: l) (by simp) (by omega)
    rw [e1, e2, List.getLast?_eq_some_getLast (by simp), show getI (a :: l) 0 = some a from rfl]
    rfl
end Go.V
end
section
namespace Go.V
open Go Go.Proofs

end Go.V
end
