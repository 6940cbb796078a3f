/- Part of a proof: a logic of values by content, lifted functions, what follows. -/
import Derived.Test.YtekhjalgmlflpaaGreatDoorQbf
import Derived.Test.YtekhjalgmlflpaaGreatDoorQbe
import Derived.Test.YtekhjalgmlflpaaGreatDoorQbh
import Derived.Test.YtekhjalgmlflpaaGreatDoorQal
import Derived.Test.YtekhjalgmlflpaaGreatDoorQbb
set_option linter.all false
set_option maxRecDepth 4000
set_option maxHeartbeats 40000000
section
namespace Go.V
open Go Go.Proofs
def zce (x0_s : GTintSheet) : List GA3Int → Int → Option (LOut (Bool) (Unit))
 | [], c3_6 => some (.go ())
 | e3 :: p3, c3_6 => Option.bind (getI x0_s.Tins c3_6) (fun x13 => Option.bind (zav e3.a2 x13.Pigments.a2.Low x13.Pigments.a2.High) (fun r14 => cond (r14) (zce x0_s p3 (c3_6 + 1)) (some (.ret false))))
def zcb (x0_s : GTintSheet) : List GA3Int → Int → Option (LOut (Bool) (Unit))
 | [], c2_6 => some (.go ())
 | e2 :: p2, c2_6 => Option.bind (getI x0_s.Tins c2_6) (fun x8 => Option.bind (zav e2.a1 x8.Pigments.a1.Low x8.Pigments.a1.High) (fun r9 => cond (r9) (zcb x0_s p2 (c2_6 + 1)) (some (.ret false))))
def zcf (x0_s : GTintSheet) : List GA3Int → Int → Option (LOut (Bool) (Unit))
 | [], c1_6 => some (.go ())
 | e1 :: p1, c1_6 => Option.bind (getI x0_s.Tins c1_6) (fun x3 => Option.bind (zav e1.a0 x3.Pigments.a0.Low x3.Pigments.a0.High) (fun r4 => cond (r4) (zcf x0_s p1 (c1_6 + 1)) (some (.ret false))))
def zdp (x0_s : GTintSheet) (x1_a1 : GTintTruth) : Nat → Int → Option (LOut (Bool) (Unit))
 | 0, c0_5 => some (.go ())
 | k0 + 1, c0_5 => cond (c0_5 == 0) (Option.bind (zav x1_a1.Fade.a0 x0_s.Fade.a0.Low x0_s.Fade.a0.High) (fun r2 => cond (r2) (cond (lenOk x1_a1.Tins) (lbind (zcf x0_s x1_a1.Tins 0) (fun r6 => some (.ret r6)) (fun c5 => zdp x0_s x1_a1 k0 (c0_5 + 1)) (fun _ _ => none)) none) (some (.ret false)))) (cond (c0_5 == 1) (Option.bind (zav x1_a1.Fade.a1 x0_s.Fade.a1.Low x0_s.Fade.a1.High) (fun r7 => cond (r7) (cond (lenOk x1_a1.Tins) (lbind (zcb x0_s x1_a1.Tins 0) (fun r11 => some (.ret r11)) (fun c10 => zdp x0_s x1_a1 k0 (c0_5 + 1)) (fun _ _ => none)) none) (some (.ret false)))) (cond (c0_5 == 2) (Option.bind (zav x1_a1.Fade.a2 x0_s.Fade.a2.Low x0_s.Fade.a2.High) (fun r12 => cond (r12) (cond (lenOk x1_a1.Tins) (lbind (zce x0_s x1_a1.Tins 0) (fun r16 => some (.ret r16)) (fun c15 => zdp x0_s x1_a1 k0 (c0_5 + 1)) (fun _ _ => none)) none) (some (.ret false)))) (none)))
def zfq (x0_s : GTintSheet) (x1_a1 : GTintTruth) : Option (Bool) := cond ((List.length x1_a1.Tins : Int) != (List.length x0_s.Tins : Int)) (some false) (Option.bind (zav x1_a1.Years x0_s.Years.Low x0_s.Years.High) (fun r1 => cond (r1) (cond (boundOk 3) (lbind (zdp x0_s x1_a1 (Int.toNat (3 - 0)) 0) (fun r18 => some r18) (fun c17 => some true) (fun _ _ => none)) none) (some false)))
theorem zor (x0_s : GTintSheet) (x1_a1 : GTintTruth) (R : Bool) (h : zfq x0_s x1_a1 = some R) : VPure Tryz.prog G0 25 [.agg (cGTintSheet x0_s), .agg (cGTintTruth x1_a1)] (.tree (.lit (.bool R))) := by
 refine VPure.runR mixed Tryz.call25 Tryz.func25 rfl (by simp [Tryz.ntmps25]; kernel_rfl) ?_
 obtain ⟨KF, h, kF, kN⟩ := zak h
 simp only [zfq] at h
 cases d19 : ((List.length x1_a1.Tins : Int) != (List.length x0_s.Tins : Int))
 ·simp only [d19, hs] at h
  rcases o21 : (zav x1_a1.Years x0_s.Years.Low x0_s.Years.High) with _ | r20
  ·simp only [o21, hs] at h
   exact absurd h kN
  simp only [o21, hs] at h
  simp only [vz, tyf, d19, nm, seval]
  refine ktree (args0 := [.lit (.int .i64 x1_a1.Years), .lit (.int .i64 x0_s.Years.Low), .lit (.int .i64 x0_s.Years.High)]) (by first | (simp only [nrm, tynrm] <;> rfl) | rfl) (by simp only [tre, tytre, Bool.and_self]) (zbn _ _ _ _ o21) ?_
  refine zac (fun tm => tm 2 = .ptr 0 0 ∧ tm 3 = .ptr 1 0 ∧ tm 15 = .lit (.bool false) ∧ tm 24 = .lit (.bool r20) ∧ True) (by refine ⟨?_, ?_, ?_, ?_, trivial⟩ <;> first | (simp only [ua, d19, nm, seval] <;> rfl) | rfl) ?_
  rintro tm ⟨e22, e23, e24, e25, _⟩
  cases d26 : (r20)
  ·simp only [d26, hs] at h
   try simp only [vz, tyf, d19, e22, e23, e24, e25, d26, nm, seval]
   obtain rfl := kF _ h
   exact zab Tryz.results25 rfl
  simp only [d26, hs] at h
  cases g28 : (boundOk 3)
  ·simp only [g28, hs] at h
   exact absurd h kN
  simp only [g28, hs] at h
  simp only [vz, tyf, d19, e22, e23, e24, e25, d26, g28, nm, seval]
  obtain ⟨K27, h, kR27, kG27, kB27, kN27⟩ := zbc h kN
  obtain ⟨f27, hf27, h⟩ := call2 h
  obtain ⟨I27, hI27⟩ : ∃ I : Nat → St → Prop, I = (fun m st => ∃ (p27 : Nat) (c27_5 : Int), p27 = m ∧ loOk c27_5 = true ∧ Int.toNat (3 - c27_5) = p27 ∧ st.df = [] ∧ 23 ≤ st.nx ∧ st.H 0 = some (.cells (some 28) (cGTintSheet x0_s)) ∧ st.H 1 = some (.cells (some 42) (cGTintTruth x1_a1)) ∧ st.tm 2 = .ptr 0 0 ∧ st.tm 3 = .ptr 1 0 ∧ st.tm 5 = .lit (.int .i64 c27_5) ∧ K27 (f27 p27 c27_5)) := ⟨_, rfl⟩
  refine loopK mixed (by kernel_rfl) I27 (Int.toNat (3 - 0)) (by rw [hI27]; refine ⟨Int.toNat (3 - 0), 0, rfl, (by rfl), rfl, rfl, (show 23 ≤ 23 by omega), ?_, ?_, e22, e23, ?_, h⟩ <;> first | (simp only [ua, d19, e22, e23, e24, e25, d26, nm, seval] <;> rfl) | rfl) ?_
  rintro m ⟨tm, H, nx27, df⟩ hinv
  rw [hI27] at hinv
  obtain ⟨p27, c27_5, rfl, hi27, hp27, hdf, hn27, H29, H30, e31, e32, e33, h⟩ := hinv
  simp only at hdf hn27 H29 H30 e31 e32 e33
  have n34 := zda (m := 23) (b := nx27) (by omega)
  subst hdf hf27
  cases p27 with
  | zero =>
   have d35 : (decide (c27_5 < 3)) = false := zkd hp27
   simp only [zdp, hs, reduceCtorEq] at h
   replace h := kG27 _ h
   try dsimp only at h
   try simp only [hs] at h
   try simp only [vz, tyf, d19, d26, g28, n34, e31, e32, e33, H29, H30, d35, nm, seval]
   obtain rfl := kF _ h
   exact zab Tryz.results25 rfl
  | succ p27 =>
   have d36 : (decide (c27_5 < 3)) = true := zaeg hp27
   have w37 := zns hi27 hp27 g28
   simp only [zdp, hs, reduceCtorEq] at h
   simp only [vz, tyf, d19, d26, g28, n34, e31, e32, e33, H29, H30, d36, w37, nm, seval]
   refine zcq (fun tm => tm 2 = .ptr 0 0 ∧ tm 3 = .ptr 1 0 ∧ tm 5 = .lit (.int .i64 c27_5) ∧ True) (by refine ⟨e31, e32, e33, trivial⟩ <;> first | (simp only [ua, d19, d26, n34, e31, e32, e33, H29, H30, d36, w37, nm, seval] <;> rfl) | rfl) ?_
   rintro tm ⟨e38, e39, e40, _⟩
   have b41 := And.intro d19 (And.intro d26 (And.intro g28 (And.intro n34 (And.intro H29 (And.intro H30 (And.intro d36 w37))))))
   cases d42 : (c27_5 == 0)
   ·simp only [d42, hs] at h
    cases d43 : (c27_5 == 1)
    ·simp only [d43, hs] at h
     cases d44 : (c27_5 == 2)
     ·simp only [d44, hs] at h
      exact absurd h kN27
     simp only [d44, hs] at h
     rcases o46 : (zav x1_a1.Fade.a2 x0_s.Fade.a2.Low x0_s.Fade.a2.High) with _ | r45
     ·simp only [o46, hs] at h
      exact absurd h kN27
     simp only [o46, hs] at h
     simp only [vz, tyf, b41, e38, e39, e40, d42, d43, d44, (zgt d44), (zib d44), nm, seval]
     refine dktree (args0 := [.lit (.int .i64 x1_a1.Fade.a2), .lit (.int .i64 x0_s.Fade.a2.Low), .lit (.int .i64 x0_s.Fade.a2.High)]) (by first | (simp only [nrm, tynrm] <;> rfl) | rfl) (by simp only [tre, tytre, Bool.and_self]) (zbn _ _ _ _ o46) ?_
     refine zac (fun tm => tm 2 = .ptr 0 0 ∧ tm 3 = .ptr 1 0 ∧ tm 5 = .lit (.int .i64 c27_5) ∧ tm 45 = .lit (.bool r45) ∧ True) (by refine ⟨e38, e39, e40, ?_, trivial⟩ <;> first | (simp only [ua, b41, e38, e39, e40, d42, d43, d44, nm, seval] <;> rfl) | rfl) ?_
     rintro tm ⟨e47, e48, e49, e50, _⟩
     cases d51 : (r45)
     ·simp only [d51, hs] at h
      try simp only [vz, tyf, b41, d42, d43, d44, (zgt d44), (zib d44), e47, e48, e49, e50, d51, nm, seval]
      replace h := kR27 _ h
      try dsimp only at h
      obtain rfl := kF _ h
      exact zab Tryz.results25 rfl
     simp only [d51, hs] at h
     cases g53 : (lenOk x1_a1.Tins)
     ·simp only [g53, hs] at h
      exact absurd h kN27
     simp only [g53, hs] at h
     simp only [vz, tyf, b41, d42, d43, d44, (zgt d44), (zib d44), e47, e48, e49, e50, d51, g53, nm, seval]
     obtain ⟨K52, h, kR52, kG52, kB52, kN52⟩ := zbc h kN27
     obtain ⟨f52, hf52, h⟩ := call2 h
     obtain ⟨I52, hI52⟩ : ∃ I : Nat → St → Prop, I = (fun m st => ∃ (p52 : List GA3Int) (c52_6 : Int), m = List.length p52 ∧ 0 ≤ c52_6 ∧ List.drop (Int.toNat c52_6) x1_a1.Tins = p52 ∧ st.df = [] ∧ nx27 + 19 ≤ st.nx ∧ st.H 0 = some (.cells (some 28) (cGTintSheet x0_s)) ∧ st.H 1 = some (.cells (some 42) (cGTintTruth x1_a1)) ∧ st.tm 2 = .ptr 0 0 ∧ st.tm 3 = .ptr 1 0 ∧ st.tm 5 = .lit (.int .i64 c27_5) ∧ st.tm 6 = .lit (.int .i64 c52_6) ∧ K52 (f52 p52 c52_6)) := ⟨_, rfl⟩
     refine loopK mixed (by kernel_rfl) I52 (List.length x1_a1.Tins) (by rw [hI52]; refine ⟨x1_a1.Tins, 0, rfl, Int.le_refl _, rfl, rfl, (show nx27 + 19 ≤ nx27 + 19 by omega), ?_, ?_, e47, e48, e49, ?_, h⟩ <;> first | (simp only [ua, b41, d42, d43, d44, e47, e48, e49, e50, d51, nm, seval] <;> rfl) | rfl) ?_
     rintro m ⟨tm, H, nx52, df⟩ hinv
     rw [hI52] at hinv
     obtain ⟨p52, c52_6, rfl, hi52, hp52, hdf, hn52, H54, H55, e56, e57, e58, e59, h⟩ := hinv
     simp only at hdf hn52 H54 H55 e56 e57 e58 e59
     have n60 := zda (m := 23) (b := nx52) (by omega)
     have n61 := zoc (a := nx27) (m := 19) (b := nx52) (by omega)
     subst hdf hf52
     cases p52 with
     | nil =>
      have d62 : (decide (c52_6 < (List.length x1_a1.Tins : Int))) = false := zam hi52 hp52
      simp only [zcf, zcb, zce, hs, reduceCtorEq] at h
      replace h := kG52 _ h
      try dsimp only at h
      try simp only [hs] at h
      simp only [vz, tyf, b41, d42, d43, d44, (zgt d44), (zib d44), d51, g53, n60, n61, e56, e57, e58, e59, H54, H55, d62, nm, seval]
      exact ⟨p27, Nat.lt_succ_self _, by rw [hI27]; refine ⟨p27, c27_5 + 1, rfl, zmj hi27, zgg hp27, rfl, (show 23 ≤ nx52 + 8 by omega), ?_, ?_, e56, e57, ?_, h⟩ <;> first | (simp only [ua, b41, d42, d43, d44, d51, n60, n61, e56, e57, e58, e59, H54, H55, d62, nm, seval] <;> rfl) | rfl⟩
     | cons e52 p52 =>
      have d63 : (decide (c52_6 < (List.length x1_a1.Tins : Int))) = true := zbp hi52 hp52
      have o65 := zaj hi52 hp52
      have w64 := zcm hi52 hp52 g53
      simp only [zcf, zcb, zce, hs, reduceCtorEq] at h
      rcases o67 : (getI x0_s.Tins c52_6) with _ | x66
      ·simp only [o67, hs] at h
       exact absurd h kN52
      simp only [o67, hs] at h
      simp only [vz, tyf, b41, d42, d43, d44, (zgt d44), (zib d44), d51, g53, n60, n61, e56, e57, e58, e59, H54, H55, d63, (ix40 o65), w64, (ix26 o67), (zmy d44), nm, seval]
      refine zcq (fun tm => tm 2 = .ptr 0 0 ∧ tm 3 = .ptr 1 0 ∧ tm 5 = .lit (.int .i64 c27_5) ∧ tm 6 = .lit (.int .i64 c52_6) ∧ tm 7 = .ptr (nx52 + 13) 0 ∧ True) (by refine ⟨e56, e57, e58, e59, ?_, trivial⟩ <;> first | (simp only [ua, b41, d42, d43, d44, d51, n60, n61, e56, e57, e58, e59, H54, H55, d63, w64, nm, seval] <;> rfl) | rfl) ?_
      rintro tm ⟨e68, e69, e70, e71, e72, _⟩
      have b73 := And.intro b41 (And.intro d42 (And.intro d43 (And.intro d44 (And.intro d51 (And.intro g53 (And.intro n60 (And.intro n61 (And.intro H54 (And.intro H55 (And.intro d63 w64))))))))))
      rcases o75 : (zav e52.a2 x66.Pigments.a2.Low x66.Pigments.a2.High) with _ | r74
      ·simp only [o75, hs] at h
       exact absurd h kN52
      simp only [o75, hs] at h
      simp only [vz, tyf, b73, (zgt d44), (zib d44), (ix40 o65), (ix26 o67), (zmy d44), e68, e69, e70, e71, e72, (zafr d44), nm, seval]
      refine dktree (args0 := [.lit (.int .i64 e52.a2), .lit (.int .i64 x66.Pigments.a2.Low), .lit (.int .i64 x66.Pigments.a2.High)]) (by first | (simp only [nrm, tynrm] <;> rfl) | rfl) (by simp only [tre, tytre, Bool.and_self]) (zbn _ _ _ _ o75) ?_
      refine zac (fun tm => tm 2 = .ptr 0 0 ∧ tm 3 = .ptr 1 0 ∧ tm 5 = .lit (.int .i64 c27_5) ∧ tm 6 = .lit (.int .i64 c52_6) ∧ tm 73 = .lit (.bool r74) ∧ True) (by refine ⟨e68, e69, e70, e71, ?_, trivial⟩ <;> first | (simp only [ua, b73, e68, e69, e70, e71, e72, nm, seval] <;> rfl) | rfl) ?_
      rintro tm ⟨e76, e77, e78, e79, e80, _⟩
      cases d81 : (r74)
      ·simp only [d81, hs] at h
       try simp only [vz, tyf, b73, (zgt d44), (zib d44), (ix40 o65), (ix26 o67), (zmy d44), (zafr d44), e76, e77, e78, e79, e80, d81, nm, seval]
       replace h := kR52 _ h
       try dsimp only at h
       replace h := kR27 _ h
       try dsimp only at h
       obtain rfl := kF _ h
       exact zab Tryz.results25 rfl
      simp only [d81, hs] at h
      simp only [vz, tyf, b73, (zgt d44), (zib d44), (ix40 o65), (ix26 o67), (zmy d44), (zafr d44), e76, e77, e78, e79, e80, d81, nm, seval]
      exact ⟨List.length p52, Nat.lt_succ_self _, by rw [hI52]; refine ⟨p52, c52_6 + 1, rfl, Int.le_trans hi52 (Int.le_add_one (Int.le_refl _)), zay hi52 hp52, rfl, (show nx27 + 19 ≤ nx52 + 31 by omega), ?_, ?_, e76, e77, e78, ?_, h⟩ <;> first | (simp only [ua, b73, e76, e77, e78, e79, e80, d81, nm, seval] <;> rfl) | rfl⟩
    simp only [d43, hs] at h
    rcases o83 : (zav x1_a1.Fade.a1 x0_s.Fade.a1.Low x0_s.Fade.a1.High) with _ | r82
    ·simp only [o83, hs] at h
     exact absurd h kN27
    simp only [o83, hs] at h
    simp only [vz, tyf, b41, e38, e39, e40, d42, d43, (zgs d43), (zic d43), nm, seval]
    refine dktree (args0 := [.lit (.int .i64 x1_a1.Fade.a1), .lit (.int .i64 x0_s.Fade.a1.Low), .lit (.int .i64 x0_s.Fade.a1.High)]) (by first | (simp only [nrm, tynrm] <;> rfl) | rfl) (by simp only [tre, tytre, Bool.and_self]) (zbn _ _ _ _ o83) ?_
    refine zac (fun tm => tm 2 = .ptr 0 0 ∧ tm 3 = .ptr 1 0 ∧ tm 5 = .lit (.int .i64 c27_5) ∧ tm 45 = .lit (.bool r82) ∧ True) (by refine ⟨e38, e39, e40, ?_, trivial⟩ <;> first | (simp only [ua, b41, e38, e39, e40, d42, d43, nm, seval] <;> rfl) | rfl) ?_
    rintro tm ⟨e84, e85, e86, e87, _⟩
    cases d88 : (r82)
    ·simp only [d88, hs] at h
     try simp only [vz, tyf, b41, d42, d43, (zgs d43), (zic d43), e84, e85, e86, e87, d88, nm, seval]
     replace h := kR27 _ h
     try dsimp only at h
     obtain rfl := kF _ h
     exact zab Tryz.results25 rfl
    simp only [d88, hs] at h
    cases g90 : (lenOk x1_a1.Tins)
    ·simp only [g90, hs] at h
     exact absurd h kN27
    simp only [g90, hs] at h
    simp only [vz, tyf, b41, d42, d43, (zgs d43), (zic d43), e84, e85, e86, e87, d88, g90, nm, seval]
    obtain ⟨K89, h, kR89, kG89, kB89, kN89⟩ := zbc h kN27
    obtain ⟨f89, hf89, h⟩ := call2 h
    obtain ⟨I89, hI89⟩ : ∃ I : Nat → St → Prop, I = (fun m st => ∃ (p89 : List GA3Int) (c89_6 : Int), m = List.length p89 ∧ 0 ≤ c89_6 ∧ List.drop (Int.toNat c89_6) x1_a1.Tins = p89 ∧ st.df = [] ∧ nx27 + 19 ≤ st.nx ∧ st.H 0 = some (.cells (some 28) (cGTintSheet x0_s)) ∧ st.H 1 = some (.cells (some 42) (cGTintTruth x1_a1)) ∧ st.tm 2 = .ptr 0 0 ∧ st.tm 3 = .ptr 1 0 ∧ st.tm 5 = .lit (.int .i64 c27_5) ∧ st.tm 6 = .lit (.int .i64 c89_6) ∧ K89 (f89 p89 c89_6)) := ⟨_, rfl⟩
    refine loopK mixed (by kernel_rfl) I89 (List.length x1_a1.Tins) (by rw [hI89]; refine ⟨x1_a1.Tins, 0, rfl, Int.le_refl _, rfl, rfl, (show nx27 + 19 ≤ nx27 + 19 by omega), ?_, ?_, e84, e85, e86, ?_, h⟩ <;> first | (simp only [ua, b41, d42, d43, e84, e85, e86, e87, d88, nm, seval] <;> rfl) | rfl) ?_
    rintro m ⟨tm, H, nx89, df⟩ hinv
    rw [hI89] at hinv
    obtain ⟨p89, c89_6, rfl, hi89, hp89, hdf, hn89, H91, H92, e93, e94, e95, e96, h⟩ := hinv
    simp only at hdf hn89 H91 H92 e93 e94 e95 e96
    have n97 := zda (m := 23) (b := nx89) (by omega)
    have n98 := zoc (a := nx27) (m := 19) (b := nx89) (by omega)
    subst hdf hf89
    cases p89 with
    | nil =>
     have d99 : (decide (c89_6 < (List.length x1_a1.Tins : Int))) = false := zam hi89 hp89
     simp only [zcf, zcb, zce, hs, reduceCtorEq] at h
     replace h := kG89 _ h
     try dsimp only at h
     try simp only [hs] at h
     simp only [vz, tyf, b41, d42, d43, (zgs d43), (zic d43), d88, g90, n97, n98, e93, e94, e95, e96, H91, H92, d99, nm, seval]
     exact ⟨p27, Nat.lt_succ_self _, by rw [hI27]; refine ⟨p27, c27_5 + 1, rfl, zmj hi27, zgg hp27, rfl, (show 23 ≤ nx89 + 8 by omega), ?_, ?_, e93, e94, ?_, h⟩ <;> first | (simp only [ua, b41, d42, d43, d88, n97, n98, e93, e94, e95, e96, H91, H92, d99, nm, seval] <;> rfl) | rfl⟩
    | cons e89 p89 =>
     have d100 : (decide (c89_6 < (List.length x1_a1.Tins : Int))) = true := zbp hi89 hp89
     have o102 := zaj hi89 hp89
     have w101 := zcm hi89 hp89 g90
     simp only [zcf, zcb, zce, hs, reduceCtorEq] at h
     rcases o104 : (getI x0_s.Tins c89_6) with _ | x103
     ·simp only [o104, hs] at h
      exact absurd h kN89
     simp only [o104, hs] at h
     simp only [vz, tyf, b41, d42, d43, (zgs d43), (zic d43), d88, g90, n97, n98, e93, e94, e95, e96, H91, H92, d100, (ix40 o102), w101, (ix26 o104), (zmz d43), nm, seval]
     refine zcq (fun tm => tm 2 = .ptr 0 0 ∧ tm 3 = .ptr 1 0 ∧ tm 5 = .lit (.int .i64 c27_5) ∧ tm 6 = .lit (.int .i64 c89_6) ∧ tm 7 = .ptr (nx89 + 13) 0 ∧ True) (by refine ⟨e93, e94, e95, e96, ?_, trivial⟩ <;> first | (simp only [ua, b41, d42, d43, d88, n97, n98, e93, e94, e95, e96, H91, H92, d100, w101, nm, seval] <;> rfl) | rfl) ?_
     rintro tm ⟨e105, e106, e107, e108, e109, _⟩
     have b110 := And.intro b41 (And.intro d42 (And.intro d43 (And.intro d88 (And.intro g90 (And.intro n97 (And.intro n98 (And.intro H91 (And.intro H92 (And.intro d100 w101)))))))))
     rcases o112 : (zav e89.a1 x103.Pigments.a1.Low x103.Pigments.a1.High) with _ | r111
     ·simp only [o112, hs] at h
      exact absurd h kN89
     simp only [o112, hs] at h
     simp only [vz, tyf, b110, (zgs d43), (zic d43), (ix40 o102), (ix26 o104), (zmz d43), e105, e106, e107, e108, e109, (zaho d43), nm, seval]
     refine dktree (args0 := [.lit (.int .i64 e89.a1), .lit (.int .i64 x103.Pigments.a1.Low), .lit (.int .i64 x103.Pigments.a1.High)]) (by first | (simp only [nrm, tynrm] <;> rfl) | rfl) (by simp only [tre, tytre, Bool.and_self]) (zbn _ _ _ _ o112) ?_
     refine zac (fun tm => tm 2 = .ptr 0 0 ∧ tm 3 = .ptr 1 0 ∧ tm 5 = .lit (.int .i64 c27_5) ∧ tm 6 = .lit (.int .i64 c89_6) ∧ tm 73 = .lit (.bool r111) ∧ True) (by refine ⟨e105, e106, e107, e108, ?_, trivial⟩ <;> first | (simp only [ua, b110, e105, e106, e107, e108, e109, nm, seval] <;> rfl) | rfl) ?_
     rintro tm ⟨e113, e114, e115, e116, e117, _⟩
     cases d118 : (r111)
     ·simp only [d118, hs] at h
      try simp only [vz, tyf, b110, (zgs d43), (zic d43), (ix40 o102), (ix26 o104), (zmz d43), (zaho d43), e113, e114, e115, e116, e117, d118, nm, seval]
      replace h := kR89 _ h
      try dsimp only at h
      replace h := kR27 _ h
      try dsimp only at h
      obtain rfl := kF _ h
      exact zab Tryz.results25 rfl
     simp only [d118, hs] at h
     simp only [vz, tyf, b110, (zgs d43), (zic d43), (ix40 o102), (ix26 o104), (zmz d43), (zaho d43), e113, e114, e115, e116, e117, d118, nm, seval]
     exact ⟨List.length p89, Nat.lt_succ_self _, by rw [hI89]; refine ⟨p89, c89_6 + 1, rfl, Int.le_trans hi89 (Int.le_add_one (Int.le_refl _)), zay hi89 hp89, rfl, (show nx27 + 19 ≤ nx89 + 31 by omega), ?_, ?_, e113, e114, e115, ?_, h⟩ <;> first | (simp only [ua, b110, e113, e114, e115, e116, e117, d118, nm, seval] <;> rfl) | rfl⟩
   simp only [d42, hs] at h
   rcases o120 : (zav x1_a1.Fade.a0 x0_s.Fade.a0.Low x0_s.Fade.a0.High) with _ | r119
   ·simp only [o120, hs] at h
    exact absurd h kN27
   simp only [o120, hs] at h
   simp only [vz, tyf, b41, e38, e39, e40, d42, (zgr d42), (zhz d42), nm, seval]
   refine dktree (args0 := [.lit (.int .i64 x1_a1.Fade.a0), .lit (.int .i64 x0_s.Fade.a0.Low), .lit (.int .i64 x0_s.Fade.a0.High)]) (by first | (simp only [nrm, tynrm] <;> rfl) | rfl) (by simp only [tre, tytre, Bool.and_self]) (zbn _ _ _ _ o120) ?_
   refine zac (fun tm => tm 2 = .ptr 0 0 ∧ tm 3 = .ptr 1 0 ∧ tm 5 = .lit (.int .i64 c27_5) ∧ tm 45 = .lit (.bool r119) ∧ True) (by refine ⟨e38, e39, e40, ?_, trivial⟩ <;> first | (simp only [ua, b41, e38, e39, e40, d42, nm, seval] <;> rfl) | rfl) ?_
   rintro tm ⟨e121, e122, e123, e124, _⟩
   cases d125 : (r119)
   ·simp only [d125, hs] at h
    try simp only [vz, tyf, b41, d42, (zgr d42), (zhz d42), e121, e122, e123, e124, d125, nm, seval]
    replace h := kR27 _ h
    try dsimp only at h
    obtain rfl := kF _ h
    exact zab Tryz.results25 rfl
   simp only [d125, hs] at h
   cases g127 : (lenOk x1_a1.Tins)
   ·simp only [g127, hs] at h
    exact absurd h kN27
   simp only [g127, hs] at h
   simp only [vz, tyf, b41, d42, (zgr d42), (zhz d42), e121, e122, e123, e124, d125, g127, nm, seval]
   obtain ⟨K126, h, kR126, kG126, kB126, kN126⟩ := zbc h kN27
   obtain ⟨f126, hf126, h⟩ := call2 h
   obtain ⟨I126, hI126⟩ : ∃ I : Nat → St → Prop, I = (fun m st => ∃ (p126 : List GA3Int) (c126_6 : Int), m = List.length p126 ∧ 0 ≤ c126_6 ∧ List.drop (Int.toNat c126_6) x1_a1.Tins = p126 ∧ st.df = [] ∧ nx27 + 19 ≤ st.nx ∧ st.H 0 = some (.cells (some 28) (cGTintSheet x0_s)) ∧ st.H 1 = some (.cells (some 42) (cGTintTruth x1_a1)) ∧ st.tm 2 = .ptr 0 0 ∧ st.tm 3 = .ptr 1 0 ∧ st.tm 5 = .lit (.int .i64 c27_5) ∧ st.tm 6 = .lit (.int .i64 c126_6) ∧ K126 (f126 p126 c126_6)) := ⟨_, rfl⟩
   refine loopK mixed (by kernel_rfl) I126 (List.length x1_a1.Tins) (by rw [hI126]; refine ⟨x1_a1.Tins, 0, rfl, Int.le_refl _, rfl, rfl, (show nx27 + 19 ≤ nx27 + 19 by omega), ?_, ?_, e121, e122, e123, ?_, h⟩ <;> first | (simp only [ua, b41, d42, e121, e122, e123, e124, d125, nm, seval] <;> rfl) | rfl) ?_
   rintro m ⟨tm, H, nx126, df⟩ hinv
   rw [hI126] at hinv
   obtain ⟨p126, c126_6, rfl, hi126, hp126, hdf, hn126, H128, H129, e130, e131, e132, e133, h⟩ := hinv
   simp only at hdf hn126 H128 H129 e130 e131 e132 e133
   have n134 := zda (m := 23) (b := nx126) (by omega)
   have n135 := zoc (a := nx27) (m := 19) (b := nx126) (by omega)
   subst hdf hf126
   cases p126 with
   | nil =>
    have d136 : (decide (c126_6 < (List.length x1_a1.Tins : Int))) = false := zam hi126 hp126
    simp only [zcf, zcb, zce, hs, reduceCtorEq] at h
    replace h := kG126 _ h
    try dsimp only at h
    try simp only [hs] at h
    simp only [vz, tyf, b41, d42, (zgr d42), (zhz d42), d125, g127, n134, n135, e130, e131, e132, e133, H128, H129, d136, nm, seval]
    exact ⟨p27, Nat.lt_succ_self _, by rw [hI27]; refine ⟨p27, c27_5 + 1, rfl, zmj hi27, zgg hp27, rfl, (show 23 ≤ nx126 + 8 by omega), ?_, ?_, e130, e131, ?_, h⟩ <;> first | (simp only [ua, b41, d42, d125, n134, n135, e130, e131, e132, e133, H128, H129, d136, nm, seval] <;> rfl) | rfl⟩
   | cons e126 p126 =>
    have d137 : (decide (c126_6 < (List.length x1_a1.Tins : Int))) = true := zbp hi126 hp126
    have o139 := zaj hi126 hp126
    have w138 := zcm hi126 hp126 g127
    simp only [zcf, zcb, zce, hs, reduceCtorEq] at h
    rcases o141 : (getI x0_s.Tins c126_6) with _ | x140
    ·simp only [o141, hs] at h
     exact absurd h kN126
    simp only [o141, hs] at h
    simp only [vz, tyf, b41, d42, (zgr d42), (zhz d42), d125, g127, n134, n135, e130, e131, e132, e133, H128, H129, d137, (ix40 o139), w138, (ix26 o141), (znc d42), nm, seval]
    refine zcq (fun tm => tm 2 = .ptr 0 0 ∧ tm 3 = .ptr 1 0 ∧ tm 5 = .lit (.int .i64 c27_5) ∧ tm 6 = .lit (.int .i64 c126_6) ∧ tm 7 = .ptr (nx126 + 13) 0 ∧ True) (by refine ⟨e130, e131, e132, e133, ?_, trivial⟩ <;> first | (simp only [ua, b41, d42, d125, n134, n135, e130, e131, e132, e133, H128, H129, d137, w138, nm, seval] <;> rfl) | rfl) ?_
    rintro tm ⟨e142, e143, e144, e145, e146, _⟩
    have b147 := And.intro b41 (And.intro d42 (And.intro d125 (And.intro g127 (And.intro n134 (And.intro n135 (And.intro H128 (And.intro H129 (And.intro d137 w138))))))))
    rcases o149 : (zav e126.a0 x140.Pigments.a0.Low x140.Pigments.a0.High) with _ | r148
    ·simp only [o149, hs] at h
     exact absurd h kN126
    simp only [o149, hs] at h
    simp only [vz, tyf, b147, (zgr d42), (zhz d42), (ix40 o139), (ix26 o141), (znc d42), e142, e143, e144, e145, e146, (zahm d42), nm, seval]
    refine dktree (args0 := [.lit (.int .i64 e126.a0), .lit (.int .i64 x140.Pigments.a0.Low), .lit (.int .i64 x140.Pigments.a0.High)]) (by first | (simp only [nrm, tynrm] <;> rfl) | rfl) (by simp only [tre, tytre, Bool.and_self]) (zbn _ _ _ _ o149) ?_
    refine zac (fun tm => tm 2 = .ptr 0 0 ∧ tm 3 = .ptr 1 0 ∧ tm 5 = .lit (.int .i64 c27_5) ∧ tm 6 = .lit (.int .i64 c126_6) ∧ tm 73 = .lit (.bool r148) ∧ True) (by refine ⟨e142, e143, e144, e145, ?_, trivial⟩ <;> first | (simp only [ua, b147, e142, e143, e144, e145, e146, nm, seval] <;> rfl) | rfl) ?_
    rintro tm ⟨e150, e151, e152, e153, e154, _⟩
    cases d155 : (r148)
    ·simp only [d155, hs] at h
     try simp only [vz, tyf, b147, (zgr d42), (zhz d42), (ix40 o139), (ix26 o141), (znc d42), (zahm d42), e150, e151, e152, e153, e154, d155, nm, seval]
     replace h := kR126 _ h
     try dsimp only at h
     replace h := kR27 _ h
     try dsimp only at h
     obtain rfl := kF _ h
     exact zab Tryz.results25 rfl
    simp only [d155, hs] at h
    simp only [vz, tyf, b147, (zgr d42), (zhz d42), (ix40 o139), (ix26 o141), (znc d42), (zahm d42), e150, e151, e152, e153, e154, d155, nm, seval]
    exact ⟨List.length p126, Nat.lt_succ_self _, by rw [hI126]; refine ⟨p126, c126_6 + 1, rfl, Int.le_trans hi126 (Int.le_add_one (Int.le_refl _)), zay hi126 hp126, rfl, (show nx27 + 19 ≤ nx126 + 31 by omega), ?_, ?_, e150, e151, e152, ?_, h⟩ <;> first | (simp only [ua, b147, e150, e151, e152, e153, e154, d155, nm, seval] <;> rfl) | rfl⟩
 simp only [d19, hs] at h
 try simp only [vz, tyf, d19, nm, seval]
 obtain rfl := kF _ h
 exact zab Tryz.results25 rfl
end Go.V
end
section
set_option linter.unusedVariables false
namespace Go.V
open Go
theorem VPure.runRQ {P : Program} {G : Glob} (hm : P.follows .mixedOrders = true) {f : FuncId} {fn : Func} {code : Code} {args : List VV} {r : PRes} (hc : Callable P f) (hf : P.funcs[f]? = some fn) (hb : fn.body = some code)
  (hst : (decide (args.length ≤ fn.ntmps) && codeQ fn.ntmps code) = true) (h : CWp P (G.at (some none)) fn.ntmps code (OpenPostD P G fn (RR r) (RPn r)) { tm := argsTm args, H := fun _ => none, nx := 0, df := [] }) : VPure P G f args r := by
 rw [Bool.and_eq_true] at hst
 exact VPure.runR hm hc hf hb (by rw [Bool.and_eq_true]; exact ⟨hst.1, zhx hst.2⟩) h
end Go.V
end
section
namespace Go.V
open Go Go.Proofs
def zcy (x0_s : GTintSheet) (c0_6 : Int) : List Int → Int → Int → Int → Int → Int → Int → Int → Option (LOut (GA3GSpan) (Int × Int × Int × Int × Int × Int))
 | [], c1_7, c1_o0, c1_o1, c1_o2, c1_o3, c1_o4, c1_o5 => some (.go (c1_o0, c1_o1, c1_o2, c1_o3, c1_o4, c1_o5))
 | e1 :: p1, c1_7, c1_o0, c1_o1, c1_o2, c1_o3, c1_o4, c1_o5 => Option.bind (getI x0_s.Tins c1_7) (fun x5 => cond (c0_6 == 0) (zcy x0_s c0_6 p1 (c1_7 + 1) (IntKind.i64.wrap (c1_o0 + (IntKind.i64.wrap (e1 * x5.Pigments.a0.Low)))) (IntKind.i64.wrap (c1_o1 + (IntKind.i64.wrap (e1 * x5.Pigments.a0.High)))) c1_o2 c1_o3 c1_o4 c1_o5) (cond (c0_6 == 1) (zcy x0_s c0_6 p1 (c1_7 + 1) c1_o0 c1_o1 (IntKind.i64.wrap (c1_o2 + (IntKind.i64.wrap (e1 * x5.Pigments.a1.Low)))) (IntKind.i64.wrap (c1_o3 + (IntKind.i64.wrap (e1 * x5.Pigments.a1.High)))) c1_o4 c1_o5) (cond (c0_6 == 2) (zcy x0_s c0_6 p1 (c1_7 + 1) c1_o0 c1_o1 c1_o2 c1_o3 (IntKind.i64.wrap (c1_o4 + (IntKind.i64.wrap (e1 * x5.Pigments.a2.Low)))) (IntKind.i64.wrap (c1_o5 + (IntKind.i64.wrap (e1 * x5.Pigments.a2.High))))) (none))))
def zfi (x0_s : GTintSheet) (x1_mix : List Int) : Nat → Int → Int → Int → Int → Int → Int → Int → Option (LOut (GA3GSpan) (Int × Int × Int × Int × Int × Int))
 | 0, c0_6, c0_o0, c0_o1, c0_o2, c0_o3, c0_o4, c0_o5 => some (.go (c0_o0, c0_o1, c0_o2, c0_o3, c0_o4, c0_o5))
 | k0 + 1, c0_6, c0_o0, c0_o1, c0_o2, c0_o3, c0_o4, c0_o5 => cond (lenOk x1_mix) (lbind (zcy x0_s c0_6 x1_mix 0 c0_o0 c0_o1 c0_o2 c0_o3 c0_o4 c0_o5) (fun r7 => some (.ret r7)) (fun c6 => zfi x0_s x1_mix k0 (c0_6 + 1) c6.1 c6.2.1 c6.2.2.1 c6.2.2.2.1 c6.2.2.2.2.1 c6.2.2.2.2.2) (fun _ _ => none)) none
def zgh (x0_s : GTintSheet) (x1_mix : List Int) : Option (GA3GSpan) := cond (boundOk 3) (lbind (zfi x0_s x1_mix (Int.toNat (3 - 0)) 0 0 0 0 0 0 0) (fun r9 => some r9) (fun c8 => some (GA3GSpan.mk (GSpan.mk c8.1 c8.2.1) (GSpan.mk c8.2.2.1 c8.2.2.2.1) (GSpan.mk c8.2.2.2.2.1 c8.2.2.2.2.2))) (fun _ _ => none)) none
theorem zpz (x0_s : GTintSheet) (x1_mix : List Int) (R : GA3GSpan) (h : zgh x0_s x1_mix = some R) : VPure Tryz.prog G0 23 [.agg (cGTintSheet x0_s), .sl (cellsL eI x1_mix) (List.length x1_mix) false] (.tree (.agg (cGA3GSpan R))) := by
 refine VPure.runRQ mixed Tryz.call23 Tryz.func23 rfl (by simp [Tryz.ntmps23]; kernel_rfl) ?_
 obtain ⟨KF, h, kF, kN⟩ := zak h
 simp only [zgh] at h
 cases g11 : (boundOk 3)
 ·simp only [g11, hs] at h
  exact absurd h kN
 simp only [g11, hs] at h
 simp only [vz, tyf, g11, nm, seval]
 obtain ⟨K10, h, kR10, kG10, kB10, kN10⟩ := zbc h kN
 obtain ⟨f10, hf10, h⟩ := call8 h
 obtain ⟨I10, hI10⟩ : ∃ I : Nat → St → Prop, I = (fun m st => ∃ (p10 : Nat) (c10_6 : Int) (c10_o0 : Int) (c10_o1 : Int) (c10_o2 : Int) (c10_o3 : Int) (c10_o4 : Int) (c10_o5 : Int), p10 = m ∧ loOk c10_6 = true ∧ Int.toNat (3 - c10_6) = p10 ∧ st.df = [] ∧ 4 ≤ st.nx ∧ st.H 0 = some (.cells (some 28) (cGTintSheet x0_s)) ∧ st.H 1 = some (.cells (some 25) ([.lit (.int .i64 0)] ++ [.lit (.int .i64 0)] ++ [.lit (.int .i64 0)] ++ [.lit (.int .i64 0)] ++ [.lit (.int .i64 0)] ++ [.lit (.int .i64 0)])) ∧ st.H 2 = some (.cells (some 25) ([.lit (.int .i64 c10_o0)] ++ [.lit (.int .i64 c10_o1)] ++ [.lit (.int .i64 c10_o2)] ++ [.lit (.int .i64 c10_o3)] ++ [.lit (.int .i64 c10_o4)] ++ [.lit (.int .i64 c10_o5)])) ∧ st.tm 1 = .sl (cellsL eI x1_mix) (List.length x1_mix) false ∧ st.tm 2 = .ptr 0 0 ∧ st.tm 4 = .ptr 1 0 ∧ st.tm 5 = .ptr 2 0 ∧ st.tm 6 = .lit (.int .i64 c10_6) ∧ K10 (f10 p10 c10_6 c10_o0 c10_o1 c10_o2 c10_o3 c10_o4 c10_o5)) := ⟨_, rfl⟩
 refine loopK mixed (by kernel_rfl) I10 (Int.toNat (3 - 0)) (by rw [hI10]; refine ⟨Int.toNat (3 - 0), 0, 0, 0, 0, 0, 0, 0, rfl, (by rfl), rfl, rfl, (show 4 ≤ 4 by omega), ?_, ?_, ?_, ?_, ?_, ?_, ?_, ?_, h⟩ <;> first | (simp only [ua, nm, seval] <;> rfl) | rfl) ?_
 rintro m ⟨tm, H, nx10, df⟩ hinv
 rw [hI10] at hinv
 obtain ⟨p10, c10_6, c10_o0, c10_o1, c10_o2, c10_o3, c10_o4, c10_o5, rfl, hi10, hp10, hdf, hn10, H12, H13, H14, e15, e16, e17, e18, e19, h⟩ := hinv
 simp only at hdf hn10 H12 H13 H14 e15 e16 e17 e18 e19
 have n20 := zda (m := 4) (b := nx10) (by omega)
 subst hdf hf10
 cases p10 with
 | zero =>
  have d21 : (decide (c10_6 < 3)) = false := zkd hp10
  simp only [zfi, hs, reduceCtorEq] at h
  replace h := kG10 _ h
  try dsimp only at h
  try simp only [hs] at h
  try simp only [vz, tyf, g11, n20, e15, e16, e17, e18, e19, H12, H13, H14, d21, nm, seval]
  refine zaq (x := (.agg ([.lit (.int .i64 c10_o0)] ++ [.lit (.int .i64 c10_o1)] ++ [.lit (.int .i64 c10_o2)] ++ [.lit (.int .i64 c10_o3)] ++ [.lit (.int .i64 c10_o4)] ++ [.lit (.int .i64 c10_o5)]))) (by first | (simp only [Tryz.results23, resV, resL, resV1, zat, zbs, uw, cr, tyf, g11, n20, e15, e16, e17, e18, e19, H12, H13, H14, d21, nm, seval] <;> rfl) | rfl) ?_
  obtain rfl := kF _ h
  refine zau ?_ ?_
  ·simp only [tre, tytre, Bool.and_self]
  ·first | (simp only [outV, uw, zae, cr, tyf, nrm, tynrm, g11, n20, e15, e16, e17, e18, e19, H12, H13, H14, d21, nm, seval] <;> rfl) | rfl
 | succ p10 =>
  have d22 : (decide (c10_6 < 3)) = true := zaeg hp10
  have w23 := zns hi10 hp10 g11
  simp only [zfi, hs, reduceCtorEq] at h
  cases g25 : (lenOk x1_mix)
  ·simp only [g25, hs] at h
   exact absurd h kN10
  simp only [g25, hs] at h
  simp only [vz, tyf, g11, n20, e15, e16, e17, e18, e19, H12, H13, H14, d22, w23, g25, nm, seval]
  obtain ⟨K24, h, kR24, kG24, kB24, kN24⟩ := zbc h kN10
  obtain ⟨f24, hf24, h⟩ := call8 h
  obtain ⟨I24, hI24⟩ : ∃ I : Nat → St → Prop, I = (fun m st => ∃ (p24 : List Int) (c24_7 : Int) (c24_o0 : Int) (c24_o1 : Int) (c24_o2 : Int) (c24_o3 : Int) (c24_o4 : Int) (c24_o5 : Int), m = List.length p24 ∧ 0 ≤ c24_7 ∧ List.drop (Int.toNat c24_7) x1_mix = p24 ∧ st.df = [] ∧ nx10 + 3 ≤ st.nx ∧ st.H 0 = some (.cells (some 28) (cGTintSheet x0_s)) ∧ st.H 1 = some (.cells (some 25) ([.lit (.int .i64 0)] ++ [.lit (.int .i64 0)] ++ [.lit (.int .i64 0)] ++ [.lit (.int .i64 0)] ++ [.lit (.int .i64 0)] ++ [.lit (.int .i64 0)])) ∧ st.H 2 = some (.cells (some 25) ([.lit (.int .i64 c24_o0)] ++ [.lit (.int .i64 c24_o1)] ++ [.lit (.int .i64 c24_o2)] ++ [.lit (.int .i64 c24_o3)] ++ [.lit (.int .i64 c24_o4)] ++ [.lit (.int .i64 c24_o5)])) ∧ st.tm 1 = .sl (cellsL eI x1_mix) (List.length x1_mix) false ∧ st.tm 2 = .ptr 0 0 ∧ st.tm 4 = .ptr 1 0 ∧ st.tm 5 = .ptr 2 0 ∧ st.tm 6 = .lit (.int .i64 c10_6) ∧ st.tm 7 = .lit (.int .i64 c24_7) ∧ K24 (f24 p24 c24_7 c24_o0 c24_o1 c24_o2 c24_o3 c24_o4 c24_o5)) := ⟨_, rfl⟩
  refine loopK mixed (by kernel_rfl) I24 (List.length x1_mix) (by rw [hI24]; refine ⟨x1_mix, 0, c10_o0, c10_o1, c10_o2, c10_o3, c10_o4, c10_o5, rfl, Int.le_refl _, rfl, rfl, (show nx10 + 3 ≤ nx10 + 3 by omega), ?_, ?_, ?_, e15, e16, e17, e18, e19, ?_, h⟩ <;> first | (simp only [ua, n20, e15, e16, e17, e18, e19, H12, H13, H14, d22, w23, nm, seval] <;> rfl) | rfl) ?_
  rintro m ⟨tm, H, nx24, df⟩ hinv
  rw [hI24] at hinv
  obtain ⟨p24, c24_7, c24_o0, c24_o1, c24_o2, c24_o3, c24_o4, c24_o5, rfl, hi24, hp24, hdf, hn24, H26, H27, H28, e29, e30, e31, e32, e33, e34, h⟩ := hinv
  simp only at hdf hn24 H26 H27 H28 e29 e30 e31 e32 e33 e34
  have n35 := zda (m := 4) (b := nx24) (by omega)
  have n36 := zoc (a := nx10) (m := 3) (b := nx24) (by omega)
  subst hdf hf24
  cases p24 with
  | nil =>
   have d37 : (decide (c24_7 < (List.length x1_mix : Int))) = false := zam hi24 hp24
   simp only [zcy, hs, reduceCtorEq] at h
   replace h := kG24 _ h
   try dsimp only at h
   try simp only [hs] at h
   simp only [vz, tyf, g11, n20, d22, w23, g25, n35, n36, e29, e30, e31, e32, e33, e34, H26, H27, H28, d37, nm, seval]
   exact ⟨p10, Nat.lt_succ_self _, by rw [hI10]; refine ⟨p10, c10_6 + 1, c24_o0, c24_o1, c24_o2, c24_o3, c24_o4, c24_o5, rfl, zmj hi10, zgg hp10, rfl, (show 4 ≤ nx24 + 7 by omega), ?_, ?_, ?_, e29, e30, e31, e32, ?_, h⟩ <;> first | (simp only [ua, n20, d22, w23, n35, n36, e29, e30, e31, e32, e33, e34, H26, H27, H28, d37, nm, seval] <;> rfl) | rfl⟩
  | cons e24 p24 =>
   have d38 : (decide (c24_7 < (List.length x1_mix : Int))) = true := zbp hi24 hp24
   have o40 := zaj hi24 hp24
   have w39 := zcm hi24 hp24 g25
   simp only [zcy, hs, reduceCtorEq] at h
   rcases o42 : (getI x0_s.Tins c24_7) with _ | x41
   ·simp only [o42, hs] at h
    exact absurd h kN24
   simp only [o42, hs] at h
   cases d43 : (c10_6 == 0)
   ·simp only [d43, hs] at h
    have b44 := And.intro g11 (And.intro n20 (And.intro d22 (And.intro w23 (And.intro g25 (And.intro n35 (And.intro n36 (And.intro H26 (And.intro H27 (And.intro H28 (And.intro d38 (And.intro w39 d43)))))))))))
    cases d45 : (c10_6 == 1)
    ·simp only [d45, hs] at h
     cases d46 : (c10_6 == 2)
     ·simp only [d46, hs] at h
      exact absurd h kN24
     simp only [d46, hs] at h
     simp only [vz, tyf, b44, e29, e30, e31, e32, e33, e34, (ix29 o40), (ix26 o42), d45, d46, (zmy d46), nm, seval]
     refine zdc (fun tm => tm 1 = .sl (cellsL eI x1_mix) (List.length x1_mix) false ∧ tm 2 = .ptr 0 0 ∧ tm 4 = .ptr 1 0 ∧ tm 5 = .ptr 2 0 ∧ tm 6 = .lit (.int .i64 c10_6) ∧ tm 7 = .lit (.int .i64 c24_7) ∧ tm 8 = .ptr (nx24 + 12) 0 ∧ True) (by refine ⟨e29, e30, e31, e32, e33, e34, ?_, trivial⟩ <;> first | (simp only [ua, b44, e29, e30, e31, e32, e33, e34, d45, d46, nm, seval] <;> rfl) | rfl) ?_
     rintro tm ⟨e47, e48, e49, e50, e51, e52, e53, _⟩
     simp only [vz, tyf, b44, (ix29 o40), (ix26 o42), d45, d46, (zmy d46), e47, e48, e49, e50, e51, e52, e53, (zib d46), nm, seval]
     refine zcr ⟨?_, ?_⟩
     ·simp only [zbj, zbu, zai, zdl, and_true, true_and]
      repeat' (first | exact trivial | refine And.intro ?_ ?_ | rw [zai] | rw [zcp] | exact Or.inl (by decide +kernel) | exact Or.inl (by dsimp only; decide +kernel) | (refine Or.inr ⟨?_, ?_⟩ <;> simp; done) | (refine Or.inr ⟨?_, ?_⟩ <;> simp <;> omega) | (refine Or.inr ⟨?_, ?_⟩ <;> simp [VEff.wr] <;> omega))
     simp only [vz, tyf, b44, (ix29 o40), (ix26 o42), d45, d46, (zmy d46), e47, e48, e49, e50, e51, e52, e53, (zib d46), nm, seval]
     exact ⟨List.length p24, Nat.lt_succ_self _, by rw [hI24]; refine ⟨p24, c24_7 + 1, c24_o0, c24_o1, c24_o2, c24_o3, IntKind.i64.wrap (c24_o4 + (IntKind.i64.wrap (e24 * x41.Pigments.a2.Low))), IntKind.i64.wrap (c24_o5 + (IntKind.i64.wrap (e24 * x41.Pigments.a2.High))), rfl, Int.le_trans hi24 (Int.le_add_one (Int.le_refl _)), zay hi24 hp24, rfl, (show nx10 + 3 ≤ nx24 + 49 by omega), ?_, ?_, ?_, e47, e48, e49, e50, e51, ?_, h⟩ <;> first | (simp only [ua, b44, d45, d46, e47, e48, e49, e50, e51, e52, e53, nm, seval] <;> rfl) | rfl⟩
    simp only [d45, hs] at h
    simp only [vz, tyf, b44, e29, e30, e31, e32, e33, e34, (ix29 o40), (ix26 o42), d45, (zmz d45), nm, seval]
    refine zdc (fun tm => tm 1 = .sl (cellsL eI x1_mix) (List.length x1_mix) false ∧ tm 2 = .ptr 0 0 ∧ tm 4 = .ptr 1 0 ∧ tm 5 = .ptr 2 0 ∧ tm 6 = .lit (.int .i64 c10_6) ∧ tm 7 = .lit (.int .i64 c24_7) ∧ tm 8 = .ptr (nx24 + 12) 0 ∧ True) (by refine ⟨e29, e30, e31, e32, e33, e34, ?_, trivial⟩ <;> first | (simp only [ua, b44, e29, e30, e31, e32, e33, e34, d45, nm, seval] <;> rfl) | rfl) ?_
    rintro tm ⟨e54, e55, e56, e57, e58, e59, e60, _⟩
    simp only [vz, tyf, b44, (ix29 o40), (ix26 o42), d45, (zmz d45), e54, e55, e56, e57, e58, e59, e60, (zic d45), nm, seval]
    refine zcr ⟨?_, ?_⟩
    ·simp only [zbj, zbu, zai, zdl, and_true, true_and]
     repeat' (first | exact trivial | refine And.intro ?_ ?_ | rw [zai] | rw [zcp] | exact Or.inl (by decide +kernel) | exact Or.inl (by dsimp only; decide +kernel) | (refine Or.inr ⟨?_, ?_⟩ <;> simp; done) | (refine Or.inr ⟨?_, ?_⟩ <;> simp <;> omega) | (refine Or.inr ⟨?_, ?_⟩ <;> simp [VEff.wr] <;> omega))
    simp only [vz, tyf, b44, (ix29 o40), (ix26 o42), d45, (zmz d45), e54, e55, e56, e57, e58, e59, e60, (zic d45), nm, seval]
    exact ⟨List.length p24, Nat.lt_succ_self _, by rw [hI24]; refine ⟨p24, c24_7 + 1, c24_o0, c24_o1, IntKind.i64.wrap (c24_o2 + (IntKind.i64.wrap (e24 * x41.Pigments.a1.Low))), IntKind.i64.wrap (c24_o3 + (IntKind.i64.wrap (e24 * x41.Pigments.a1.High))), c24_o4, c24_o5, rfl, Int.le_trans hi24 (Int.le_add_one (Int.le_refl _)), zay hi24 hp24, rfl, (show nx10 + 3 ≤ nx24 + 49 by omega), ?_, ?_, ?_, e54, e55, e56, e57, e58, ?_, h⟩ <;> first | (simp only [ua, b44, d45, e54, e55, e56, e57, e58, e59, e60, nm, seval] <;> rfl) | rfl⟩
   simp only [d43, hs] at h
   have b61 := And.intro g11 (And.intro n20 (And.intro d22 (And.intro w23 (And.intro g25 (And.intro n35 (And.intro n36 (And.intro H26 (And.intro H27 (And.intro H28 (And.intro d38 (And.intro w39 d43)))))))))))
   simp only [vz, tyf, b61, e29, e30, e31, e32, e33, e34, (ix29 o40), (ix26 o42), (znc d43), nm, seval]
   refine zdc (fun tm => tm 1 = .sl (cellsL eI x1_mix) (List.length x1_mix) false ∧ tm 2 = .ptr 0 0 ∧ tm 4 = .ptr 1 0 ∧ tm 5 = .ptr 2 0 ∧ tm 6 = .lit (.int .i64 c10_6) ∧ tm 7 = .lit (.int .i64 c24_7) ∧ tm 8 = .ptr (nx24 + 12) 0 ∧ True) (by refine ⟨e29, e30, e31, e32, e33, e34, ?_, trivial⟩ <;> first | (simp only [ua, b61, e29, e30, e31, e32, e33, e34, nm, seval] <;> rfl) | rfl) ?_
   rintro tm ⟨e62, e63, e64, e65, e66, e67, e68, _⟩
   simp only [vz, tyf, b61, (ix29 o40), (ix26 o42), (znc d43), e62, e63, e64, e65, e66, e67, e68, (zhz d43), nm, seval]
   refine zcr ⟨?_, ?_⟩
   ·simp only [zbj, zbu, zai, zdl, and_true, true_and]
    repeat' (first | exact trivial | refine And.intro ?_ ?_ | rw [zai] | rw [zcp] | exact Or.inl (by decide +kernel) | exact Or.inl (by dsimp only; decide +kernel) | (refine Or.inr ⟨?_, ?_⟩ <;> simp; done) | (refine Or.inr ⟨?_, ?_⟩ <;> simp <;> omega) | (refine Or.inr ⟨?_, ?_⟩ <;> simp [VEff.wr] <;> omega))
   simp only [vz, tyf, b61, (ix29 o40), (ix26 o42), (znc d43), e62, e63, e64, e65, e66, e67, e68, (zhz d43), nm, seval]
   exact ⟨List.length p24, Nat.lt_succ_self _, by rw [hI24]; refine ⟨p24, c24_7 + 1, IntKind.i64.wrap (c24_o0 + (IntKind.i64.wrap (e24 * x41.Pigments.a0.Low))), IntKind.i64.wrap (c24_o1 + (IntKind.i64.wrap (e24 * x41.Pigments.a0.High))), c24_o2, c24_o3, c24_o4, c24_o5, rfl, Int.le_trans hi24 (Int.le_add_one (Int.le_refl _)), zay hi24 hp24, rfl, (show nx10 + 3 ≤ nx24 + 49 by omega), ?_, ?_, ?_, e62, e63, e64, e65, e66, ?_, h⟩ <;> first | (simp only [ua, b61, e62, e63, e64, e65, e66, e67, e68, nm, seval] <;> rfl) | rfl⟩
end Go.V
end
section
namespace Go.V
open Go Go.Proofs
def zdg (x1_t : GTintTruth) (x2_p : Int) : List Int → Int → Int → Option (LOut (Int) (Int))
 | [], c0_8, c0_7 => some (.go c0_7)
 | e0 :: p0, c0_8, c0_7 => Option.bind (getI x1_t.Tins c0_8) (fun x1 => cond (x2_p == 0) (zdg x1_t x2_p p0 (c0_8 + 1) (IntKind.i64.wrap (c0_7 + (IntKind.i64.wrap (e0 * x1.a0))))) (cond (x2_p == 1) (zdg x1_t x2_p p0 (c0_8 + 1) (IntKind.i64.wrap (c0_7 + (IntKind.i64.wrap (e0 * x1.a1))))) (cond (x2_p == 2) (zdg x1_t x2_p p0 (c0_8 + 1) (IntKind.i64.wrap (c0_7 + (IntKind.i64.wrap (e0 * x1.a2))))) (none))))
def zhc (x0_mix : List Int) (x1_t : GTintTruth) (x2_p : Int) : Option (Int) := cond (lenOk x0_mix) (lbind (zdg x1_t x2_p x0_mix 0 0) (fun r3 => some r3) (fun c2 => some c2) (fun _ _ => none)) none
theorem zsk (x0_mix : List Int) (x1_t : GTintTruth) (x2_p : Int) (R : Int) (h : zhc x0_mix x1_t x2_p = some R) : VPure Tryz.prog G0 33 [.sl (cellsL eI x0_mix) (List.length x0_mix) false, .agg (cGTintTruth x1_t), .lit (.int .i64 x2_p)] (.tree (.lit (.int .i64 R))) := by
 refine VPure.runR mixed Tryz.call33 Tryz.func33 rfl (by simp [Tryz.ntmps33]; kernel_rfl) ?_
 obtain ⟨KF, h, kF, kN⟩ := zak h
 simp only [zhc] at h
 cases g5 : (lenOk x0_mix)
 ·simp only [g5, hs] at h
  exact absurd h kN
 simp only [g5, hs] at h
 simp only [vz, tyf, g5, nm, seval]
 obtain ⟨K4, h, kR4, kG4, kB4, kN4⟩ := zbc h kN
 obtain ⟨f4, hf4, h⟩ := call3 h
 obtain ⟨I4, hI4⟩ : ∃ I : Nat → St → Prop, I = (fun m st => ∃ (p4 : List Int) (c4_8 : Int) (c4_7 : Int), m = List.length p4 ∧ 0 ≤ c4_8 ∧ List.drop (Int.toNat c4_8) x0_mix = p4 ∧ st.df = [] ∧ 4 ≤ st.nx ∧ st.H 0 = some (.cells (some 42) (cGTintTruth x1_t)) ∧ st.tm 0 = .sl (cellsL eI x0_mix) (List.length x0_mix) false ∧ st.tm 2 = .lit (.int .i64 x2_p) ∧ st.tm 4 = .ptr 0 0 ∧ st.tm 7 = .lit (.int .i64 c4_7) ∧ st.tm 8 = .lit (.int .i64 c4_8) ∧ K4 (f4 p4 c4_8 c4_7)) := ⟨_, rfl⟩
 refine loopK mixed (by kernel_rfl) I4 (List.length x0_mix) (by rw [hI4]; refine ⟨x0_mix, 0, 0, rfl, Int.le_refl _, rfl, rfl, (show 4 ≤ 4 by omega), ?_, ?_, ?_, ?_, ?_, ?_, h⟩ <;> first | (simp only [ua, nm, seval] <;> rfl) | rfl) ?_
 rintro m ⟨tm, H, nx4, df⟩ hinv
 rw [hI4] at hinv
 obtain ⟨p4, c4_8, c4_7, rfl, hi4, hp4, hdf, hn4, H6, e7, e8, e9, e10, e11, h⟩ := hinv
 simp only at hdf hn4 H6 e7 e8 e9 e10 e11
 have n12 := zda (m := 4) (b := nx4) (by omega)
 subst hdf hf4
 cases p4 with
 | nil =>
  have d13 : (decide (c4_8 < (List.length x0_mix : Int))) = false := zam hi4 hp4
  simp only [zdg, hs, reduceCtorEq] at h
  replace h := kG4 _ h
  try dsimp only at h
  try simp only [hs] at h
  try simp only [vz, tyf, g5, n12, e7, e8, e9, e10, e11, H6, d13, nm, seval]
  refine zaq (x := (.lit (.int .i64 c4_7))) (by first | (simp only [Tryz.results33, resV, resL, resV1, zat, zbs, uw, cr, tyf, g5, n12, H6, d13, nm, seval] <;> rfl) | rfl) ?_
  obtain rfl := kF _ h
  refine zau ?_ ?_
  ·simp only [tre, tytre, Bool.and_self]
  ·first | (simp only [outV, uw, zae, cr, tyf, nrm, tynrm, g5, n12, e7, e8, e9, e10, e11, H6, d13, nm, seval] <;> rfl) | rfl
 | cons e4 p4 =>
  have d14 : (decide (c4_8 < (List.length x0_mix : Int))) = true := zbp hi4 hp4
  have o16 := zaj hi4 hp4
  have w15 := zcm hi4 hp4 g5
  simp only [zdg, hs, reduceCtorEq] at h
  simp only [vz, tyf, g5, n12, e7, e8, e9, e10, e11, H6, d14, (ix29 o16), w15, nm, seval]
  refine zcq (fun tm => tm 0 = .sl (cellsL eI x0_mix) (List.length x0_mix) false ∧ tm 2 = .lit (.int .i64 x2_p) ∧ tm 4 = .ptr 0 0 ∧ tm 7 = .lit (.int .i64 c4_7) ∧ tm 8 = .lit (.int .i64 c4_8) ∧ True) (by refine ⟨e7, e8, e9, e10, e11, trivial⟩ <;> first | (simp only [ua, n12, e7, e8, e9, e10, e11, H6, d14, w15, nm, seval] <;> rfl) | rfl) ?_
  rintro tm ⟨e17, e18, e19, e20, e21, _⟩
  rcases o23 : (getI x1_t.Tins c4_8) with _ | x22
  ·simp only [o23, hs] at h
   exact absurd h kN4
  simp only [o23, hs] at h
  cases d24 : (x2_p == 0)
  ·simp only [d24, hs] at h
   cases d25 : (x2_p == 1)
   ·simp only [d25, hs] at h
    have b26 := And.intro g5 (And.intro n12 (And.intro H6 (And.intro d14 (And.intro w15 (And.intro d24 d25)))))
    cases d27 : (x2_p == 2)
    ·simp only [d27, hs] at h
     exact absurd h kN4
    simp only [d27, hs] at h
    simp only [vz, tyf, b26, (ix29 o16), e17, e18, e19, e20, e21, (ix40 o23), d27, (zafr d27), nm, seval]
    exact ⟨List.length p4, Nat.lt_succ_self _, by rw [hI4]; refine ⟨p4, c4_8 + 1, IntKind.i64.wrap (c4_7 + (IntKind.i64.wrap (e4 * x22.a2))), rfl, Int.le_trans hi4 (Int.le_add_one (Int.le_refl _)), zay hi4 hp4, rfl, (show 4 ≤ nx4 + 22 by omega), ?_, e17, e18, e19, ?_, ?_, h⟩ <;> first | (simp only [ua, b26, e17, e18, e19, e20, e21, d27, nm, seval] <;> rfl) | rfl⟩
   simp only [d25, hs] at h
   have b28 := And.intro g5 (And.intro n12 (And.intro H6 (And.intro d14 (And.intro w15 (And.intro d24 d25)))))
   simp only [vz, tyf, b28, (ix29 o16), e17, e18, e19, e20, e21, (ix40 o23), (zaho d25), nm, seval]
   exact ⟨List.length p4, Nat.lt_succ_self _, by rw [hI4]; refine ⟨p4, c4_8 + 1, IntKind.i64.wrap (c4_7 + (IntKind.i64.wrap (e4 * x22.a1))), rfl, Int.le_trans hi4 (Int.le_add_one (Int.le_refl _)), zay hi4 hp4, rfl, (show 4 ≤ nx4 + 22 by omega), ?_, e17, e18, e19, ?_, ?_, h⟩ <;> first | (simp only [ua, b28, e17, e18, e19, e20, e21, nm, seval] <;> rfl) | rfl⟩
  simp only [d24, hs] at h
  simp only [vz, tyf, g5, n12, H6, d14, (ix29 o16), w15, e17, e18, e19, e20, e21, (ix40 o23), d24, (zahm d24), nm, seval]
  exact ⟨List.length p4, Nat.lt_succ_self _, by rw [hI4]; refine ⟨p4, c4_8 + 1, IntKind.i64.wrap (c4_7 + (IntKind.i64.wrap (e4 * x22.a0))), rfl, Int.le_trans hi4 (Int.le_add_one (Int.le_refl _)), zay hi4 hp4, rfl, (show 4 ≤ nx4 + 22 by omega), ?_, e17, e18, e19, ?_, ?_, h⟩ <;> first | (simp only [ua, n12, H6, d14, w15, e17, e18, e19, e20, e21, d24, nm, seval] <;> rfl) | rfl⟩
end Go.V
end
section
namespace Go.V
open Go Go.Proofs
def zaw (x0_s : GTintSheet) (x1_p : Int) (x2_years : Int) (x3_fade : Int) : Option (Int) := cond (x1_p == 0) (some (if 0 < (IntKind.i64.wrap (x0_s.Old.a0 - (IntKind.i64.wrap (x2_years * x3_fade)))) then (IntKind.i64.wrap (x0_s.Old.a0 - (IntKind.i64.wrap (x2_years * x3_fade)))) else 0)) (cond (x1_p == 1) (some (if 0 < (IntKind.i64.wrap (x0_s.Old.a1 - (IntKind.i64.wrap (x2_years * x3_fade)))) then (IntKind.i64.wrap (x0_s.Old.a1 - (IntKind.i64.wrap (x2_years * x3_fade)))) else 0)) (cond (x1_p == 2) (some (if 0 < (IntKind.i64.wrap (x0_s.Old.a2 - (IntKind.i64.wrap (x2_years * x3_fade)))) then (IntKind.i64.wrap (x0_s.Old.a2 - (IntKind.i64.wrap (x2_years * x3_fade)))) else 0)) (none)))
theorem zco (x0_s : GTintSheet) (x1_p : Int) (x2_years : Int) (x3_fade : Int) (R : Int) (h : zaw x0_s x1_p x2_years x3_fade = some R) : VPure Tryz.prog G0 32 [.agg (cGTintSheet x0_s), .lit (.int .i64 x1_p), .lit (.int .i64 x2_years), .lit (.int .i64 x3_fade)] (.tree (.lit (.int .i64 R))) := by
 refine VPure.runR mixed Tryz.call32 Tryz.func32 rfl (by simp [Tryz.ntmps32]; kernel_rfl) ?_
 obtain ⟨KF, h, kF, kN⟩ := zak h
 simp only [zaw] at h
 cases d1 : (x1_p == 0)
 ·simp only [d1, hs] at h
  cases d2 : (x1_p == 1)
  ·simp only [d2, hs] at h
   cases d3 : (x1_p == 2)
   ·simp only [d3, hs] at h
    exact absurd h kN
   simp only [d3, hs] at h
   try simp only [vz, tyf, d1, d2, d3, (zgt d3), nm, seval]
   refine zaq (x := (.lit (.int .i64 (if 0 < (IntKind.i64.wrap (x0_s.Old.a2 - (IntKind.i64.wrap (x2_years * x3_fade)))) then (IntKind.i64.wrap (x0_s.Old.a2 - (IntKind.i64.wrap (x2_years * x3_fade)))) else 0)))) (by first | (simp only [Tryz.results32, resV, resL, resV1, zat, zbs, uw, cr, tyf, d1, d2, d3, (zgt d3), nm, seval] <;> rfl) | rfl) ?_
   obtain rfl := kF _ h
   refine zau ?_ ?_
   ·simp only [tre, tytre, Bool.and_self]
   ·first | (simp only [outV, uw, zae, cr, tyf, nrm, tynrm, d1, d2, d3, (zgt d3), nm, seval] <;> rfl) | rfl
  simp only [d2, hs] at h
  try simp only [vz, tyf, d1, d2, (zgs d2), nm, seval]
  refine zaq (x := (.lit (.int .i64 (if 0 < (IntKind.i64.wrap (x0_s.Old.a1 - (IntKind.i64.wrap (x2_years * x3_fade)))) then (IntKind.i64.wrap (x0_s.Old.a1 - (IntKind.i64.wrap (x2_years * x3_fade)))) else 0)))) (by first | (simp only [Tryz.results32, resV, resL, resV1, zat, zbs, uw, cr, tyf, d1, d2, (zgs d2), nm, seval] <;> rfl) | rfl) ?_
  obtain rfl := kF _ h
  refine zau ?_ ?_
  ·simp only [tre, tytre, Bool.and_self]
  ·first | (simp only [outV, uw, zae, cr, tyf, nrm, tynrm, d1, d2, (zgs d2), nm, seval] <;> rfl) | rfl
 simp only [d1, hs] at h
 try simp only [vz, tyf, d1, (zgr d1), nm, seval]
 refine zaq (x := (.lit (.int .i64 (if 0 < (IntKind.i64.wrap (x0_s.Old.a0 - (IntKind.i64.wrap (x2_years * x3_fade)))) then (IntKind.i64.wrap (x0_s.Old.a0 - (IntKind.i64.wrap (x2_years * x3_fade)))) else 0)))) (by first | (simp only [Tryz.results32, resV, resL, resV1, zat, zbs, uw, cr, tyf, d1, (zgr d1), nm, seval] <;> rfl) | rfl) ?_
 obtain rfl := kF _ h
 refine zau ?_ ?_
 ·simp only [tre, tytre, Bool.and_self]
 ·first | (simp only [outV, uw, zae, cr, tyf, nrm, tynrm, d1, (zgr d1), nm, seval] <;> rfl) | rfl
end Go.V
end
