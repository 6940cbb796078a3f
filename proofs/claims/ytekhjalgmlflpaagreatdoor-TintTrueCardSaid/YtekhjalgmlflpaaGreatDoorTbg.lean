/- Part of a proof. -/
import Derived.Test.YtekhjalgmlflpaaGreatDoorTbf
set_option linter.all false
set_option maxRecDepth 4000
set_option maxHeartbeats 40000000
section
namespace Go.V
open Go Go.Proofs
def zks (x0_n : Int) : Option (Bool) := Option.bind (zco x0_n 1 20) (fun r1 => some r1)
theorem zsv (x0_n : Int) (R : Bool) (h : zks x0_n = some R) : VPure Tryz.prog G0 52 [.lit (.int .i64 x0_n)] (.tree (.lit (.bool R))) := by
 refine VPure.runR mixed Tryz.call52 Tryz.func52 rfl (by simp [Tryz.ntmps52]; kernel_rfl) ?_
 obtain ⟨KF, h, kF, kN⟩ := zaj h
 simp only [zks] at h
 obtain ⟨r2, o3, h⟩ := optI h kN
 try simp only [hs] at h
 simp only [vz, tyf, nm, seval]
 refine ktA (zbk _ _ _ _ o3) ?_
 refine zac (fun tm => tm 4 = .lit (.bool r2) ∧ True) (by refine ⟨?_, trivial⟩ <;> first | (simp only [ua, nm, seval] <;> rfl) | rfl) ?_
 rintro tm ⟨e4, _⟩
 try simp only [vz, tyf, e4, nm, seval]
 obtain rfl := kF _ h
 exact zaa Tryz.results52 rfl
def zcg  : List Gt → Int → Option (LOut (Bool) (Unit))
 | [], c3_4 => some (.go ())
 | e3 :: p3, c3_4 => Option.bind (zds e3.pg.a2 99) (fun r16 => cond (r16) (zcg p3 (c3_4 + 1)) (some (.ret false)))
def zbz  : List Gt → Int → Option (LOut (Bool) (Unit))
 | [], c2_4 => some (.go ())
 | e2 :: p2, c2_4 => Option.bind (zds e2.pg.a1 99) (fun r11 => cond (r11) (zbz p2 (c2_4 + 1)) (some (.ret false)))
def zca  : List Gt → Int → Option (LOut (Bool) (Unit))
 | [], c1_4 => some (.go ())
 | e1 :: p1, c1_4 => Option.bind (zds e1.pg.a0 99) (fun r6 => cond (r6) (zca p1 (c1_4 + 1)) (some (.ret false)))
def zdr (x0_s : Gs) : Nat → Int → Option (LOut (Bool) (Unit))
 | 0, c0_3 => some (.go ())
 | k0 + 1, c0_3 => cond (c0_3 == 0) (Option.bind (zco x0_s.Old.a0 0 99) (fun r4 => cond (r4) (Option.bind (zds x0_s.Fade.a0 9) (fun r5 => cond (r5) (cond (lenOk x0_s.Tins) (lbind (zca x0_s.Tins 0) (fun r8 => some (.ret r8)) (fun c7 => zdr x0_s k0 (c0_3 + 1)) (fun _ _ => none)) none) (some (.ret false)))) (some (.ret false)))) (cond (c0_3 == 1) (Option.bind (zco x0_s.Old.a1 0 99) (fun r9 => cond (r9) (Option.bind (zds x0_s.Fade.a1 9) (fun r10 => cond (r10) (cond (lenOk x0_s.Tins) (lbind (zbz x0_s.Tins 0) (fun r13 => some (.ret r13)) (fun c12 => zdr x0_s k0 (c0_3 + 1)) (fun _ _ => none)) none) (some (.ret false)))) (some (.ret false)))) (cond (c0_3 == 2) (Option.bind (zco x0_s.Old.a2 0 99) (fun r14 => cond (r14) (Option.bind (zds x0_s.Fade.a2 9) (fun r15 => cond (r15) (cond (lenOk x0_s.Tins) (lbind (zcg x0_s.Tins 0) (fun r18 => some (.ret r18)) (fun c17 => zdr x0_s k0 (c0_3 + 1)) (fun _ _ => none)) none) (some (.ret false)))) (some (.ret false)))) (none)))
def zhb (x0_s : Gs) : Option (Bool) := Option.bind (zds x0_s.Years 20) (fun r1 => cond (r1) (Option.bind (zks x0_s.Off) (fun r2 => cond (r2) (Option.bind (zco (List.length x0_s.Tins : Int) 1 4) (fun r3 => cond (r3) (cond (boundOk 3) (lbind (zdr x0_s (Int.toNat (3 - 0)) 0) (fun r20 => some r20) (fun c19 => some true) (fun _ _ => none)) none) (some false))) (some false))) (some false))
theorem zpm (x0_s : Gs) (R : Bool) (h : zhb x0_s = some R) : VPure Tryz.prog G0 20 [.agg (cGs x0_s)] (.tree (.lit (.bool R))) := by
 refine VPure.runR mixed Tryz.call20 Tryz.func20 rfl (by simp [Tryz.ntmps20]; kernel_rfl) ?_
 obtain ⟨KF, h, kF, kN⟩ := zaj h
 simp only [zhb] at h
 obtain ⟨r21, o22, h⟩ := optI h kN
 try simp only [hs] at h
 simp only [vz, tyf, nm, seval]
 refine ktA (zec _ _ _ o22) ?_
 refine zac (fun tm => tm 1 = .ptr 0 0 ∧ tm 7 = .lit (.bool r21) ∧ True) (by refine ⟨?_, ?_, trivial⟩ <;> first | (simp only [ua, nm, seval] <;> rfl) | rfl) ?_
 rintro tm ⟨e23, e24, _⟩
 cases d25 : (r21)
 ·simp only [d25, hs] at h
  try simp only [vz, tyf, e23, e24, d25, nm, seval]
  obtain rfl := kF _ h
  exact zaa Tryz.results20 rfl
 simp only [d25, hs] at h
 obtain ⟨r26, o27, h⟩ := optI h kN
 try simp only [hs] at h
 simp only [vz, tyf, e23, e24, d25, nm, seval]
 refine ktA (zsv _ _ o27) ?_
 refine zac (fun tm => tm 1 = .ptr 0 0 ∧ tm 9 = .lit (.bool false) ∧ tm 12 = .lit (.bool r26) ∧ True) (by refine ⟨e23, ?_, ?_, trivial⟩ <;> first | (simp only [ua, e23, e24, d25, nm, seval] <;> rfl) | rfl) ?_
 rintro tm ⟨e28, e29, e30, _⟩
 cases d31 : (r26)
 ·simp only [d31, hs] at h
  try simp only [vz, tyf, d25, e28, e29, e30, d31, nm, seval]
  obtain rfl := kF _ h
  exact zaa Tryz.results20 rfl
 simp only [d31, hs] at h
 obtain ⟨r32, o33, h⟩ := optI h kN
 try simp only [hs] at h
 simp only [vz, tyf, d25, e28, e29, e30, d31, nm, seval]
 refine ktA (zbk _ _ _ _ o33) ?_
 refine zac (fun tm => tm 1 = .ptr 0 0 ∧ tm 15 = .lit (.bool false) ∧ tm 19 = .lit (.bool r32) ∧ True) (by refine ⟨e28, ?_, ?_, trivial⟩ <;> first | (simp only [ua, d25, e28, e29, e30, d31, nm, seval] <;> rfl) | rfl) ?_
 rintro tm ⟨e34, e35, e36, _⟩
 cases d37 : (r32)
 ·simp only [d37, hs] at h
  try simp only [vz, tyf, d25, d31, e34, e35, e36, d37, nm, seval]
  obtain rfl := kF _ h
  exact zaa Tryz.results20 rfl
 simp only [d37, hs] at h
 cases g39 : (boundOk 3)
 ·simp only [g39, hs] at h
  exact absurd h kN
 simp only [g39, hs] at h
 simp only [vz, tyf, d25, d31, e34, e35, e36, d37, g39, nm, seval]
 obtain ⟨K38, h, kR38, kG38, kB38, kN38⟩ := zau h kN
 obtain ⟨f38, hf38, h⟩ := call2 h
 obtain ⟨I38, hI38⟩ : ∃ I : Nat → St → Prop, I = (fun m st => ∃ (p38 : Nat) (c38_3 : Int), p38 = m ∧ loOk c38_3 = true ∧ Int.toNat (3 - c38_3) = p38 ∧ st.df = [] ∧ 20 ≤ st.nx ∧ st.H 0 = some (.cells (some 28) (cGs x0_s)) ∧ st.tm 1 = .ptr 0 0 ∧ st.tm 3 = .lit (.int .i64 c38_3) ∧ K38 (f38 p38 c38_3)) := ⟨_, rfl⟩
 refine loopK mixed (by kernel_rfl) I38 (Int.toNat (3 - 0)) (by rw [hI38]; refine ⟨Int.toNat (3 - 0), 0, rfl, (by rfl), rfl, rfl, (show 20 ≤ 20 by omega), ?_, e34, ?_, h⟩ <;> first | (simp only [ua, d25, d31, e34, e35, e36, d37, nm, seval] <;> rfl) | rfl) ?_
 rintro m ⟨tm, H, nx38, df⟩ hinv
 rw [hI38] at hinv
 obtain ⟨p38, c38_3, rfl, hi38, hp38, hdf, hn38, H40, e41, e42, h⟩ := hinv
 simp only at hdf hn38 H40 e41 e42
 have n43 := zcf (m := 20) (b := nx38) (by omega)
 subst hdf hf38
 cases p38 with
 | zero =>
  have d44 : (decide (c38_3 < 3)) = false := zjo hp38
  simp only [zdr, hs, reduceCtorEq] at h
  replace h := kG38 _ h
  try dsimp only at h
  try simp only [hs] at h
  try simp only [vz, tyf, d25, d31, d37, g39, n43, e41, e42, H40, d44, nm, seval]
  obtain rfl := kF _ h
  exact zaa Tryz.results20 rfl
 | succ p38 =>
  have d45 : (decide (c38_3 < 3)) = true := zada hp38
  have w46 := zos hi38 hp38 g39
  simp only [zdr, hs, reduceCtorEq] at h
  cases d47 : (c38_3 == 0)
  ·simp only [d47, hs] at h
   have b48 := And.intro d25 (And.intro d31 (And.intro d37 (And.intro g39 (And.intro n43 (And.intro H40 (And.intro d45 (And.intro w46 d47)))))))
   cases d49 : (c38_3 == 1)
   ·simp only [d49, hs] at h
    cases d50 : (c38_3 == 2)
    ·simp only [d50, hs] at h
     exact absurd h kN38
    simp only [d50, hs] at h
    obtain ⟨r51, o52, h⟩ := optI h kN38
    try simp only [hs] at h
    simp only [vz, tyf, b48, e41, e42, d49, d50, (zed d50), nm, seval]
    refine ktA (zbk _ _ _ _ o52) ?_
    refine zac (fun tm => tm 1 = .ptr 0 0 ∧ tm 3 = .lit (.int .i64 c38_3) ∧ tm 30 = .lit (.bool r51) ∧ True) (by refine ⟨e41, e42, ?_, trivial⟩ <;> first | (simp only [ua, b48, e41, e42, d49, d50, nm, seval] <;> rfl) | rfl) ?_
    rintro tm ⟨e53, e54, e55, _⟩
    cases d56 : (r51)
    ·simp only [d56, hs] at h
     try simp only [vz, tyf, b48, d49, d50, (zed d50), e53, e54, e55, d56, nm, seval]
     replace h := kR38 _ h
     try dsimp only at h
     obtain rfl := kF _ h
     exact zaa Tryz.results20 rfl
    simp only [d56, hs] at h
    obtain ⟨r57, o58, h⟩ := optI h kN38
    try simp only [hs] at h
    simp only [vz, tyf, b48, d49, d50, (zed d50), e53, e54, e55, d56, (zfz d50), nm, seval]
    refine ktA (zec _ _ _ o58) ?_
    refine zac (fun tm => tm 1 = .ptr 0 0 ∧ tm 3 = .lit (.int .i64 c38_3) ∧ tm 32 = .lit (.bool false) ∧ tm 37 = .lit (.bool r57) ∧ True) (by refine ⟨e53, e54, ?_, ?_, trivial⟩ <;> first | (simp only [ua, b48, d49, d50, e53, e54, e55, d56, nm, seval] <;> rfl) | rfl) ?_
    rintro tm ⟨e59, e60, e61, e62, _⟩
    cases d63 : (r57)
    ·simp only [d63, hs] at h
     try simp only [vz, tyf, b48, d49, d50, (zed d50), d56, (zfz d50), e59, e60, e61, e62, d63, nm, seval]
     replace h := kR38 _ h
     try dsimp only at h
     obtain rfl := kF _ h
     exact zaa Tryz.results20 rfl
    simp only [d63, hs] at h
    cases g65 : (lenOk x0_s.Tins)
    ·simp only [g65, hs] at h
     exact absurd h kN38
    simp only [g65, hs] at h
    simp only [vz, tyf, b48, d49, d50, (zed d50), d56, (zfz d50), e59, e60, e61, e62, d63, g65, nm, seval]
    obtain ⟨K64, h, kR64, kG64, kB64, kN64⟩ := zau h kN38
    obtain ⟨f64, hf64, h⟩ := call2 h
    obtain ⟨I64, hI64⟩ : ∃ I : Nat → St → Prop, I = (fun m st => ∃ (p64 : List Gt) (c64_4 : Int), m = List.length p64 ∧ 0 ≤ c64_4 ∧ List.drop (Int.toNat c64_4) x0_s.Tins = p64 ∧ st.df = [] ∧ nx38 + 17 ≤ st.nx ∧ st.H 0 = some (.cells (some 28) (cGs x0_s)) ∧ st.tm 1 = .ptr 0 0 ∧ st.tm 3 = .lit (.int .i64 c38_3) ∧ st.tm 4 = .lit (.int .i64 c64_4) ∧ K64 (f64 p64 c64_4)) := ⟨_, rfl⟩
    refine loopK mixed (by kernel_rfl) I64 (List.length x0_s.Tins) (by rw [hI64]; refine ⟨x0_s.Tins, 0, rfl, Int.le_refl _, rfl, rfl, (show nx38 + 17 ≤ nx38 + 17 by omega), ?_, e59, e60, ?_, h⟩ <;> first | (simp only [ua, b48, d49, d50, d56, e59, e60, e61, e62, d63, nm, seval] <;> rfl) | rfl) ?_
    rintro m ⟨tm, H, nx64, df⟩ hinv
    rw [hI64] at hinv
    obtain ⟨p64, c64_4, rfl, hi64, hp64, hdf, hn64, H66, e67, e68, e69, h⟩ := hinv
    simp only at hdf hn64 H66 e67 e68 e69
    have n70 := zcf (m := 20) (b := nx64) (by omega)
    have n71 := zlz (a := nx38) (m := 17) (b := nx64) (by omega)
    subst hdf hf64
    cases p64 with
    | nil =>
     have d72 : (decide (c64_4 < (List.length x0_s.Tins : Int))) = false := zaq hi64 hp64
     simp only [zca, zbz, zcg, hs, reduceCtorEq] at h
     replace h := kG64 _ h
     try dsimp only at h
     try simp only [hs] at h
     simp only [vz, tyf, b48, d49, d50, (zed d50), d56, (zfz d50), d63, g65, n70, n71, e67, e68, e69, H66, d72, nm, seval]
     exact ⟨p38, Nat.lt_succ_self _, by rw [hI38]; refine ⟨p38, c38_3 + 1, rfl, zld hi38, zgb hp38, rfl, (show 20 ≤ nx64 + 8 by omega), ?_, e67, ?_, h⟩ <;> first | (simp only [ua, b48, d49, d50, d56, d63, n70, n71, e67, e68, e69, H66, d72, nm, seval] <;> rfl) | rfl⟩
    | cons e64 p64 =>
     have d73 : (decide (c64_4 < (List.length x0_s.Tins : Int))) = true := zbr hi64 hp64
     have o75 := zal hi64 hp64
     have w74 := zcp hi64 hp64 g65
     simp only [zca, zbz, zcg, hs, reduceCtorEq] at h
     obtain ⟨r76, o77, h⟩ := optI h kN64
     try simp only [hs] at h
     simp only [vz, tyf, b48, d49, d50, (zed d50), d56, (zfz d50), d63, g65, n70, n71, e67, e68, e69, H66, d73, (ix26 o75), w74, (zsp d50), nm, seval]
     refine ktA (zec _ _ _ o77) ?_
     refine zac (fun tm => tm 1 = .ptr 0 0 ∧ tm 3 = .lit (.int .i64 c38_3) ∧ tm 4 = .lit (.int .i64 c64_4) ∧ tm 55 = .lit (.bool r76) ∧ True) (by refine ⟨e67, e68, e69, ?_, trivial⟩ <;> first | (simp only [ua, b48, d49, d50, d56, d63, n70, n71, e67, e68, e69, H66, d73, w74, nm, seval] <;> rfl) | rfl) ?_
     rintro tm ⟨e78, e79, e80, e81, _⟩
     have b82 := And.intro b48 (And.intro d49 (And.intro d50 (And.intro d56 (And.intro d63 (And.intro g65 (And.intro n70 (And.intro n71 (And.intro H66 (And.intro d73 w74)))))))))
     cases d83 : (r76)
     ·simp only [d83, hs] at h
      try simp only [vz, tyf, b82, (zed d50), (zfz d50), (ix26 o75), (zsp d50), e78, e79, e80, e81, d83, nm, seval]
      replace h := kR64 _ h
      try dsimp only at h
      replace h := kR38 _ h
      try dsimp only at h
      obtain rfl := kF _ h
      exact zaa Tryz.results20 rfl
     simp only [d83, hs] at h
     simp only [vz, tyf, b82, (zed d50), (zfz d50), (ix26 o75), (zsp d50), e78, e79, e80, e81, d83, nm, seval]
     exact ⟨List.length p64, Nat.lt_succ_self _, by rw [hI64]; refine ⟨p64, c64_4 + 1, rfl, Int.le_trans hi64 (Int.le_add_one (Int.le_refl _)), zaz hi64 hp64, rfl, (show nx38 + 17 ≤ nx64 + 18 by omega), ?_, e78, e79, ?_, h⟩ <;> first | (simp only [ua, b82, e78, e79, e80, e81, d83, nm, seval] <;> rfl) | rfl⟩
   simp only [d49, hs] at h
   obtain ⟨r84, o85, h⟩ := optI h kN38
   try simp only [hs] at h
   simp only [vz, tyf, b48, e41, e42, d49, (zee d49), nm, seval]
   refine ktA (zbk _ _ _ _ o85) ?_
   refine zac (fun tm => tm 1 = .ptr 0 0 ∧ tm 3 = .lit (.int .i64 c38_3) ∧ tm 30 = .lit (.bool r84) ∧ True) (by refine ⟨e41, e42, ?_, trivial⟩ <;> first | (simp only [ua, b48, e41, e42, d49, nm, seval] <;> rfl) | rfl) ?_
   rintro tm ⟨e86, e87, e88, _⟩
   cases d89 : (r84)
   ·simp only [d89, hs] at h
    try simp only [vz, tyf, b48, d49, (zee d49), e86, e87, e88, d89, nm, seval]
    replace h := kR38 _ h
    try dsimp only at h
    obtain rfl := kF _ h
    exact zaa Tryz.results20 rfl
   simp only [d89, hs] at h
   obtain ⟨r90, o91, h⟩ := optI h kN38
   try simp only [hs] at h
   simp only [vz, tyf, b48, d49, (zee d49), e86, e87, e88, d89, (zga d49), nm, seval]
   refine ktA (zec _ _ _ o91) ?_
   refine zac (fun tm => tm 1 = .ptr 0 0 ∧ tm 3 = .lit (.int .i64 c38_3) ∧ tm 32 = .lit (.bool false) ∧ tm 37 = .lit (.bool r90) ∧ True) (by refine ⟨e86, e87, ?_, ?_, trivial⟩ <;> first | (simp only [ua, b48, d49, e86, e87, e88, d89, nm, seval] <;> rfl) | rfl) ?_
   rintro tm ⟨e92, e93, e94, e95, _⟩
   cases d96 : (r90)
   ·simp only [d96, hs] at h
    try simp only [vz, tyf, b48, d49, (zee d49), d89, (zga d49), e92, e93, e94, e95, d96, nm, seval]
    replace h := kR38 _ h
    try dsimp only at h
    obtain rfl := kF _ h
    exact zaa Tryz.results20 rfl
   simp only [d96, hs] at h
   cases g98 : (lenOk x0_s.Tins)
   ·simp only [g98, hs] at h
    exact absurd h kN38
   simp only [g98, hs] at h
   simp only [vz, tyf, b48, d49, (zee d49), d89, (zga d49), e92, e93, e94, e95, d96, g98, nm, seval]
   obtain ⟨K97, h, kR97, kG97, kB97, kN97⟩ := zau h kN38
   obtain ⟨f97, hf97, h⟩ := call2 h
   obtain ⟨I97, hI97⟩ : ∃ I : Nat → St → Prop, I = (fun m st => ∃ (p97 : List Gt) (c97_4 : Int), m = List.length p97 ∧ 0 ≤ c97_4 ∧ List.drop (Int.toNat c97_4) x0_s.Tins = p97 ∧ st.df = [] ∧ nx38 + 17 ≤ st.nx ∧ st.H 0 = some (.cells (some 28) (cGs x0_s)) ∧ st.tm 1 = .ptr 0 0 ∧ st.tm 3 = .lit (.int .i64 c38_3) ∧ st.tm 4 = .lit (.int .i64 c97_4) ∧ K97 (f97 p97 c97_4)) := ⟨_, rfl⟩
   refine loopK mixed (by kernel_rfl) I97 (List.length x0_s.Tins) (by rw [hI97]; refine ⟨x0_s.Tins, 0, rfl, Int.le_refl _, rfl, rfl, (show nx38 + 17 ≤ nx38 + 17 by omega), ?_, e92, e93, ?_, h⟩ <;> first | (simp only [ua, b48, d49, d89, e92, e93, e94, e95, d96, nm, seval] <;> rfl) | rfl) ?_
   rintro m ⟨tm, H, nx97, df⟩ hinv
   rw [hI97] at hinv
   obtain ⟨p97, c97_4, rfl, hi97, hp97, hdf, hn97, H99, e100, e101, e102, h⟩ := hinv
   simp only at hdf hn97 H99 e100 e101 e102
   have n103 := zcf (m := 20) (b := nx97) (by omega)
   have n104 := zlz (a := nx38) (m := 17) (b := nx97) (by omega)
   subst hdf hf97
   cases p97 with
   | nil =>
    have d105 : (decide (c97_4 < (List.length x0_s.Tins : Int))) = false := zaq hi97 hp97
    simp only [zca, zbz, zcg, hs, reduceCtorEq] at h
    replace h := kG97 _ h
    try dsimp only at h
    try simp only [hs] at h
    simp only [vz, tyf, b48, d49, (zee d49), d89, (zga d49), d96, g98, n103, n104, e100, e101, e102, H99, d105, nm, seval]
    exact ⟨p38, Nat.lt_succ_self _, by rw [hI38]; refine ⟨p38, c38_3 + 1, rfl, zld hi38, zgb hp38, rfl, (show 20 ≤ nx97 + 8 by omega), ?_, e100, ?_, h⟩ <;> first | (simp only [ua, b48, d49, d89, d96, n103, n104, e100, e101, e102, H99, d105, nm, seval] <;> rfl) | rfl⟩
   | cons e97 p97 =>
    have d106 : (decide (c97_4 < (List.length x0_s.Tins : Int))) = true := zbr hi97 hp97
    have o108 := zal hi97 hp97
    have w107 := zcp hi97 hp97 g98
    simp only [zca, zbz, zcg, hs, reduceCtorEq] at h
    obtain ⟨r109, o110, h⟩ := optI h kN97
    try simp only [hs] at h
    simp only [vz, tyf, b48, d49, (zee d49), d89, (zga d49), d96, g98, n103, n104, e100, e101, e102, H99, d106, (ix26 o108), w107, (zsh d49), nm, seval]
    refine ktA (zec _ _ _ o110) ?_
    refine zac (fun tm => tm 1 = .ptr 0 0 ∧ tm 3 = .lit (.int .i64 c38_3) ∧ tm 4 = .lit (.int .i64 c97_4) ∧ tm 55 = .lit (.bool r109) ∧ True) (by refine ⟨e100, e101, e102, ?_, trivial⟩ <;> first | (simp only [ua, b48, d49, d89, d96, n103, n104, e100, e101, e102, H99, d106, w107, nm, seval] <;> rfl) | rfl) ?_
    rintro tm ⟨e111, e112, e113, e114, _⟩
    have b115 := And.intro b48 (And.intro d49 (And.intro d89 (And.intro d96 (And.intro g98 (And.intro n103 (And.intro n104 (And.intro H99 (And.intro d106 w107))))))))
    cases d116 : (r109)
    ·simp only [d116, hs] at h
     try simp only [vz, tyf, b115, (zee d49), (zga d49), (ix26 o108), (zsh d49), e111, e112, e113, e114, d116, nm, seval]
     replace h := kR97 _ h
     try dsimp only at h
     replace h := kR38 _ h
     try dsimp only at h
     obtain rfl := kF _ h
     exact zaa Tryz.results20 rfl
    simp only [d116, hs] at h
    simp only [vz, tyf, b115, (zee d49), (zga d49), (ix26 o108), (zsh d49), e111, e112, e113, e114, d116, nm, seval]
    exact ⟨List.length p97, Nat.lt_succ_self _, by rw [hI97]; refine ⟨p97, c97_4 + 1, rfl, Int.le_trans hi97 (Int.le_add_one (Int.le_refl _)), zaz hi97 hp97, rfl, (show nx38 + 17 ≤ nx97 + 18 by omega), ?_, e111, e112, ?_, h⟩ <;> first | (simp only [ua, b115, e111, e112, e113, e114, d116, nm, seval] <;> rfl) | rfl⟩
  simp only [d47, hs] at h
  have b117 := And.intro d25 (And.intro d31 (And.intro d37 (And.intro g39 (And.intro n43 (And.intro H40 (And.intro d45 (And.intro w46 d47)))))))
  obtain ⟨r118, o119, h⟩ := optI h kN38
  try simp only [hs] at h
  simp only [vz, tyf, b117, e41, e42, (zea d47), nm, seval]
  refine ktA (zbk _ _ _ _ o119) ?_
  refine zac (fun tm => tm 1 = .ptr 0 0 ∧ tm 3 = .lit (.int .i64 c38_3) ∧ tm 30 = .lit (.bool r118) ∧ True) (by refine ⟨e41, e42, ?_, trivial⟩ <;> first | (simp only [ua, b117, e41, e42, nm, seval] <;> rfl) | rfl) ?_
  rintro tm ⟨e120, e121, e122, _⟩
  cases d123 : (r118)
  ·simp only [d123, hs] at h
   try simp only [vz, tyf, b117, (zea d47), e120, e121, e122, d123, nm, seval]
   replace h := kR38 _ h
   try dsimp only at h
   obtain rfl := kF _ h
   exact zaa Tryz.results20 rfl
  simp only [d123, hs] at h
  obtain ⟨r124, o125, h⟩ := optI h kN38
  try simp only [hs] at h
  simp only [vz, tyf, b117, (zea d47), e120, e121, e122, d123, (zfy d47), nm, seval]
  refine ktA (zec _ _ _ o125) ?_
  refine zac (fun tm => tm 1 = .ptr 0 0 ∧ tm 3 = .lit (.int .i64 c38_3) ∧ tm 32 = .lit (.bool false) ∧ tm 37 = .lit (.bool r124) ∧ True) (by refine ⟨e120, e121, ?_, ?_, trivial⟩ <;> first | (simp only [ua, b117, e120, e121, e122, d123, nm, seval] <;> rfl) | rfl) ?_
  rintro tm ⟨e126, e127, e128, e129, _⟩
  cases d130 : (r124)
  ·simp only [d130, hs] at h
   try simp only [vz, tyf, b117, (zea d47), d123, (zfy d47), e126, e127, e128, e129, d130, nm, seval]
   replace h := kR38 _ h
   try dsimp only at h
   obtain rfl := kF _ h
   exact zaa Tryz.results20 rfl
  simp only [d130, hs] at h
  cases g132 : (lenOk x0_s.Tins)
  ·simp only [g132, hs] at h
   exact absurd h kN38
  simp only [g132, hs] at h
  simp only [vz, tyf, b117, (zea d47), d123, (zfy d47), e126, e127, e128, e129, d130, g132, nm, seval]
  obtain ⟨K131, h, kR131, kG131, kB131, kN131⟩ := zau h kN38
  obtain ⟨f131, hf131, h⟩ := call2 h
  obtain ⟨I131, hI131⟩ : ∃ I : Nat → St → Prop, I = (fun m st => ∃ (p131 : List Gt) (c131_4 : Int), m = List.length p131 ∧ 0 ≤ c131_4 ∧ List.drop (Int.toNat c131_4) x0_s.Tins = p131 ∧ st.df = [] ∧ nx38 + 17 ≤ st.nx ∧ st.H 0 = some (.cells (some 28) (cGs x0_s)) ∧ st.tm 1 = .ptr 0 0 ∧ st.tm 3 = .lit (.int .i64 c38_3) ∧ st.tm 4 = .lit (.int .i64 c131_4) ∧ K131 (f131 p131 c131_4)) := ⟨_, rfl⟩
  refine loopK mixed (by kernel_rfl) I131 (List.length x0_s.Tins) (by rw [hI131]; refine ⟨x0_s.Tins, 0, rfl, Int.le_refl _, rfl, rfl, (show nx38 + 17 ≤ nx38 + 17 by omega), ?_, e126, e127, ?_, h⟩ <;> first | (simp only [ua, b117, d123, e126, e127, e128, e129, d130, nm, seval] <;> rfl) | rfl) ?_
  rintro m ⟨tm, H, nx131, df⟩ hinv
  rw [hI131] at hinv
  obtain ⟨p131, c131_4, rfl, hi131, hp131, hdf, hn131, H133, e134, e135, e136, h⟩ := hinv
  simp only at hdf hn131 H133 e134 e135 e136
  have n137 := zcf (m := 20) (b := nx131) (by omega)
  have n138 := zlz (a := nx38) (m := 17) (b := nx131) (by omega)
  subst hdf hf131
  cases p131 with
  | nil =>
   have d139 : (decide (c131_4 < (List.length x0_s.Tins : Int))) = false := zaq hi131 hp131
   simp only [zca, zbz, zcg, hs, reduceCtorEq] at h
   replace h := kG131 _ h
   try dsimp only at h
   try simp only [hs] at h
   simp only [vz, tyf, b117, (zea d47), d123, (zfy d47), d130, g132, n137, n138, e134, e135, e136, H133, d139, nm, seval]
   exact ⟨p38, Nat.lt_succ_self _, by rw [hI38]; refine ⟨p38, c38_3 + 1, rfl, zld hi38, zgb hp38, rfl, (show 20 ≤ nx131 + 8 by omega), ?_, e134, ?_, h⟩ <;> first | (simp only [ua, b117, d123, d130, n137, n138, e134, e135, e136, H133, d139, nm, seval] <;> rfl) | rfl⟩
  | cons e131 p131 =>
   have d140 : (decide (c131_4 < (List.length x0_s.Tins : Int))) = true := zbr hi131 hp131
   have o142 := zal hi131 hp131
   have w141 := zcp hi131 hp131 g132
   simp only [zca, zbz, zcg, hs, reduceCtorEq] at h
   obtain ⟨r143, o144, h⟩ := optI h kN131
   try simp only [hs] at h
   simp only [vz, tyf, b117, (zea d47), d123, (zfy d47), d130, g132, n137, n138, e134, e135, e136, H133, d140, (ix26 o142), w141, (zrv d47), nm, seval]
   refine ktA (zec _ _ _ o144) ?_
   refine zac (fun tm => tm 1 = .ptr 0 0 ∧ tm 3 = .lit (.int .i64 c38_3) ∧ tm 4 = .lit (.int .i64 c131_4) ∧ tm 55 = .lit (.bool r143) ∧ True) (by refine ⟨e134, e135, e136, ?_, trivial⟩ <;> first | (simp only [ua, b117, d123, d130, n137, n138, e134, e135, e136, H133, d140, w141, nm, seval] <;> rfl) | rfl) ?_
   rintro tm ⟨e145, e146, e147, e148, _⟩
   have b149 := And.intro b117 (And.intro d123 (And.intro d130 (And.intro g132 (And.intro n137 (And.intro n138 (And.intro H133 (And.intro d140 w141)))))))
   cases d150 : (r143)
   ·simp only [d150, hs] at h
    try simp only [vz, tyf, b149, (zea d47), (zfy d47), (ix26 o142), (zrv d47), e145, e146, e147, e148, d150, nm, seval]
    replace h := kR131 _ h
    try dsimp only at h
    replace h := kR38 _ h
    try dsimp only at h
    obtain rfl := kF _ h
    exact zaa Tryz.results20 rfl
   simp only [d150, hs] at h
   simp only [vz, tyf, b149, (zea d47), (zfy d47), (ix26 o142), (zrv d47), e145, e146, e147, e148, d150, nm, seval]
   exact ⟨List.length p131, Nat.lt_succ_self _, by rw [hI131]; refine ⟨p131, c131_4 + 1, rfl, Int.le_trans hi131 (Int.le_add_one (Int.le_refl _)), zaz hi131 hp131, rfl, (show nx38 + 17 ≤ nx131 + 18 by omega), ?_, e145, e146, ?_, h⟩ <;> first | (simp only [ua, b149, e145, e146, e147, e148, d150, nm, seval] <;> rfl) | rfl⟩
def zdo  : List Int → Int → Int → Option (LOut (Int) (Int))
 | [], c0_4, c0_3 => some (.go c0_3)
 | e0 :: p0, c0_4, c0_3 => zdo p0 (c0_4 + 1) (IntKind.i64.wrap (c0_3 + e0))
def zge (x0_mix : List Int) : Option (Int) := cond (lenOk x0_mix) (lbind (zdo x0_mix 0 0) (fun r2 => some r2) (fun c1 => some c1) (fun _ _ => none)) none
theorem zfc (x0_mix : List Int) (R : Int) (h : zge x0_mix = some R) : VPure Tryz.prog G0 35 [.sl (cellsL eI x0_mix) (List.length x0_mix) false] (.tree (.lit (.int .i64 R))) := by
 refine VPure.runR mixed Tryz.call35 Tryz.func35 rfl (by simp [Tryz.ntmps35]; kernel_rfl) ?_
 obtain ⟨KF, h, kF, kN⟩ := zaj h
 simp only [zge] at h
 cases g4 : (lenOk x0_mix)
 ·simp only [g4, hs] at h
  exact absurd h kN
 simp only [g4, hs] at h
 simp only [vz, tyf, g4, nm, seval]
 obtain ⟨K3, h, kR3, kG3, kB3, kN3⟩ := zau h kN
 obtain ⟨f3, hf3, h⟩ := call3 h
 obtain ⟨I3, hI3⟩ : ∃ I : Nat → St → Prop, I = (fun m st => ∃ (p3 : List Int) (c3_4 : Int) (c3_3 : Int), m = List.length p3 ∧ 0 ≤ c3_4 ∧ List.drop (Int.toNat c3_4) x0_mix = p3 ∧ st.df = [] ∧ 3 ≤ st.nx ∧ st.tm 0 = .sl (cellsL eI x0_mix) (List.length x0_mix) false ∧ st.tm 3 = .lit (.int .i64 c3_3) ∧ st.tm 4 = .lit (.int .i64 c3_4) ∧ K3 (f3 p3 c3_4 c3_3)) := ⟨_, rfl⟩
 refine loopK mixed (by kernel_rfl) I3 (List.length x0_mix) (by rw [hI3]; refine ⟨x0_mix, 0, 0, rfl, Int.le_refl _, rfl, rfl, (show 3 ≤ 3 by omega), ?_, ?_, ?_, h⟩ <;> first | (simp only [ua, nm, seval] <;> rfl) | rfl) ?_
 rintro m ⟨tm, H, nx3, df⟩ hinv
 rw [hI3] at hinv
 obtain ⟨p3, c3_4, c3_3, rfl, hi3, hp3, hdf, hn3, e5, e6, e7, h⟩ := hinv
 simp only at hdf hn3 e5 e6 e7
 have n8 := zcf (m := 3) (b := nx3) (by omega)
 subst hdf hf3
 cases p3 with
 | nil =>
  have d9 : (decide (c3_4 < (List.length x0_mix : Int))) = false := zaq hi3 hp3
  simp only [zdo, hs, reduceCtorEq] at h
  replace h := kG3 _ h
  try dsimp only at h
  try simp only [hs] at h
  try simp only [vz, tyf, g4, n8, e5, e6, e7, d9, nm, seval]
  refine zam (x := (.lit (.int .i64 c3_3))) (by first | (simp only [Tryz.results35, resV, resL, resV1, zao, zbi, uw, cr, tyf, g4, n8, d9, nm, seval] <;> rfl) | rfl) ?_
  obtain rfl := kF _ h
  refine zas ?_ ?_
  ·simp only [tre, tytre, Bool.and_self]
  ·first | (simp only [outV, uw, zad, cr, tyf, nrm, tynrm, g4, n8, e5, e6, e7, d9, nm, seval] <;> rfl) | rfl
 | cons e3 p3 =>
  have d10 : (decide (c3_4 < (List.length x0_mix : Int))) = true := zbr hi3 hp3
  have o12 := zal hi3 hp3
  have w11 := zcp hi3 hp3 g4
  simp only [zdo, hs, reduceCtorEq] at h
  simp only [vz, tyf, g4, n8, e5, e6, e7, d10, (ix29 o12), w11, nm, seval]
  exact ⟨List.length p3, Nat.lt_succ_self _, by rw [hI3]; refine ⟨p3, c3_4 + 1, IntKind.i64.wrap (c3_3 + e3), rfl, Int.le_trans hi3 (Int.le_add_one (Int.le_refl _)), zaz hi3 hp3, rfl, (show 3 ≤ nx3 + 14 by omega), e5, ?_, ?_, h⟩ <;> first | (simp only [ua, n8, e5, e6, e7, d10, w11, nm, seval] <;> rfl) | rfl⟩
def zfj  : List Int → Int → Option (LOut (Bool) (Unit))
 | [], c0_5 => some (.go ())
 | e0 :: p0, c0_5 => Option.bind (zco e0 0 8) (fun r1 => cond (r1) (zfj p0 (c0_5 + 1)) (some (.ret false)))
def zig (x0_s : Gs) (x1_mix : List Int) : Option (Bool) := cond (lenOk x1_mix) (lbind (zfj x1_mix 0) (fun r5 => some r5) (fun c2 => cond ((List.length x1_mix : Int) == (List.length x0_s.Tins : Int)) (Option.bind (zge x1_mix) (fun r3 => Option.bind (zco r3 1 8) (fun r4 => some r4))) (some false)) (fun _ _ => none)) none
theorem zrk (x0_s : Gs) (x1_mix : List Int) (R : Bool) (h : zig x0_s x1_mix = some R) : VPure Tryz.prog G0 22 [.agg (cGs x0_s), .sl (cellsL eI x1_mix) (List.length x1_mix) false] (.tree (.lit (.bool R))) := by
 refine VPure.runR mixed Tryz.call22 Tryz.func22 rfl (by simp [Tryz.ntmps22]; kernel_rfl) ?_
 obtain ⟨KF, h, kF, kN⟩ := zaj h
 simp only [zig] at h
 cases g7 : (lenOk x1_mix)
 ·simp only [g7, hs] at h
  exact absurd h kN
 simp only [g7, hs] at h
 simp only [vz, tyf, g7, nm, seval]
 obtain ⟨K6, h, kR6, kG6, kB6, kN6⟩ := zau h kN
 obtain ⟨f6, hf6, h⟩ := call2 h
 obtain ⟨I6, hI6⟩ : ∃ I : Nat → St → Prop, I = (fun m st => ∃ (p6 : List Int) (c6_5 : Int), m = List.length p6 ∧ 0 ≤ c6_5 ∧ List.drop (Int.toNat c6_5) x1_mix = p6 ∧ st.df = [] ∧ 3 ≤ st.nx ∧ st.H 0 = some (.cells (some 28) (cGs x0_s)) ∧ st.tm 1 = .sl (cellsL eI x1_mix) (List.length x1_mix) false ∧ st.tm 2 = .ptr 0 0 ∧ st.tm 5 = .lit (.int .i64 c6_5) ∧ K6 (f6 p6 c6_5)) := ⟨_, rfl⟩
 refine loopK mixed (by kernel_rfl) I6 (List.length x1_mix) (by rw [hI6]; refine ⟨x1_mix, 0, rfl, Int.le_refl _, rfl, rfl, (show 3 ≤ 3 by omega), ?_, ?_, ?_, ?_, h⟩ <;> first | (simp only [ua, nm, seval] <;> rfl) | rfl) ?_
 rintro m ⟨tm, H, nx6, df⟩ hinv
 rw [hI6] at hinv
 obtain ⟨p6, c6_5, rfl, hi6, hp6, hdf, hn6, H8, e9, e10, e11, h⟩ := hinv
 simp only at hdf hn6 H8 e9 e10 e11
 have n12 := zcf (m := 3) (b := nx6) (by omega)
 subst hdf hf6
 cases p6 with
 | nil =>
  have d13 : (decide (c6_5 < (List.length x1_mix : Int))) = false := zaq hi6 hp6
  simp only [zfj, hs, reduceCtorEq] at h
  replace h := kG6 _ h
  try dsimp only at h
  try simp only [hs] at h
  cases d14 : ((List.length x1_mix : Int) == (List.length x0_s.Tins : Int))
  ·simp only [d14, hs] at h
   try simp only [vz, tyf, g7, n12, e9, e10, e11, H8, d13, d14, nm, seval]
   obtain rfl := kF _ h
   exact zaa Tryz.results22 rfl
  simp only [d14, hs] at h
  obtain ⟨r15, o16, h⟩ := optI h kN
  try simp only [hs] at h
  simp only [vz, tyf, g7, n12, e9, e10, e11, H8, d13, d14, nm, seval]
  refine ktA (zfc _ _ o16) ?_
  refine zac (fun tm => tm 24 = .lit (.bool true) ∧ tm 26 = .lit (.int .i64 r15) ∧ True) (by refine ⟨?_, ?_, trivial⟩ <;> first | (simp only [ua, n12, e9, e10, e11, H8, d13, d14, nm, seval] <;> rfl) | rfl) ?_
  rintro tm ⟨e17, e18, _⟩
  obtain ⟨r19, o20, h⟩ := optI h kN
  try simp only [hs] at h
  simp only [vz, tyf, g7, n12, H8, d13, d14, e17, e18, nm, seval]
  refine ktA (zbk _ _ _ _ o20) ?_
  refine zac (fun tm => tm 24 = .lit (.bool true) ∧ tm 27 = .lit (.bool r19) ∧ True) (by refine ⟨e17, ?_, trivial⟩ <;> first | (simp only [ua, n12, H8, d13, d14, e17, e18, nm, seval] <;> rfl) | rfl) ?_
  rintro tm ⟨e21, e22, _⟩
  try simp only [vz, tyf, g7, n12, H8, d13, d14, e21, e22, nm, seval]
  obtain rfl := kF _ h
  exact zaa Tryz.results22 rfl
 | cons e6 p6 =>
  have d23 : (decide (c6_5 < (List.length x1_mix : Int))) = true := zbr hi6 hp6
  have o25 := zal hi6 hp6
  have w24 := zcp hi6 hp6 g7
  simp only [zfj, hs, reduceCtorEq] at h
  obtain ⟨r26, o27, h⟩ := optI h kN6
  try simp only [hs] at h
  simp only [vz, tyf, g7, n12, e9, e10, e11, H8, d23, (ix29 o25), w24, nm, seval]
  refine ktA (zbk _ _ _ _ o27) ?_
  refine zac (fun tm => tm 1 = .sl (cellsL eI x1_mix) (List.length x1_mix) false ∧ tm 2 = .ptr 0 0 ∧ tm 5 = .lit (.int .i64 c6_5) ∧ tm 16 = .lit (.bool r26) ∧ True) (by refine ⟨e9, e10, e11, ?_, trivial⟩ <;> first | (simp only [ua, n12, e9, e10, e11, H8, d23, w24, nm, seval] <;> rfl) | rfl) ?_
  rintro tm ⟨e28, e29, e30, e31, _⟩
  cases d32 : (r26)
  ·simp only [d32, hs] at h
   try simp only [vz, tyf, g7, n12, H8, d23, (ix29 o25), w24, e28, e29, e30, e31, d32, nm, seval]
   replace h := kR6 _ h
   try dsimp only at h
   obtain rfl := kF _ h
   exact zaa Tryz.results22 rfl
  simp only [d32, hs] at h
  simp only [vz, tyf, g7, n12, H8, d23, (ix29 o25), w24, e28, e29, e30, e31, d32, nm, seval]
  exact ⟨List.length p6, Nat.lt_succ_self _, by rw [hI6]; refine ⟨p6, c6_5 + 1, rfl, Int.le_trans hi6 (Int.le_add_one (Int.le_refl _)), zaz hi6 hp6, rfl, (show 3 ≤ nx6 + 13 by omega), ?_, e28, e29, ?_, h⟩ <;> first | (simp only [ua, n12, H8, d23, w24, e28, e29, e30, e31, d32, nm, seval] <;> rfl) | rfl⟩
def zce (x0_s : Gs) : List Gi → Int → Option (LOut (Bool) (Unit))
 | [], c3_6 => some (.go ())
 | e3 :: p3, c3_6 => Option.bind (getI x0_s.Tins c3_6) (fun x13 => Option.bind (zco e3.a2 x13.pg.a2.Low x13.pg.a2.High) (fun r14 => cond (r14) (zce x0_s p3 (c3_6 + 1)) (some (.ret false))))
def zcd (x0_s : Gs) : List Gi → Int → Option (LOut (Bool) (Unit))
 | [], c2_6 => some (.go ())
 | e2 :: p2, c2_6 => Option.bind (getI x0_s.Tins c2_6) (fun x8 => Option.bind (zco e2.a1 x8.pg.a1.Low x8.pg.a1.High) (fun r9 => cond (r9) (zcd x0_s p2 (c2_6 + 1)) (some (.ret false))))
def zcc (x0_s : Gs) : List Gi → Int → Option (LOut (Bool) (Unit))
 | [], c1_6 => some (.go ())
 | e1 :: p1, c1_6 => Option.bind (getI x0_s.Tins c1_6) (fun x3 => Option.bind (zco e1.a0 x3.pg.a0.Low x3.pg.a0.High) (fun r4 => cond (r4) (zcc x0_s p1 (c1_6 + 1)) (some (.ret false))))
def zdq (x0_s : Gs) (x1_a1 : Gu) : Nat → Int → Option (LOut (Bool) (Unit))
 | 0, c0_5 => some (.go ())
 | k0 + 1, c0_5 => cond (c0_5 == 0) (Option.bind (zco x1_a1.Fade.a0 x0_s.Fade.a0.Low x0_s.Fade.a0.High) (fun r2 => cond (r2) (cond (lenOk x1_a1.Tins) (lbind (zcc x0_s x1_a1.Tins 0) (fun r6 => some (.ret r6)) (fun c5 => zdq x0_s x1_a1 k0 (c0_5 + 1)) (fun _ _ => none)) none) (some (.ret false)))) (cond (c0_5 == 1) (Option.bind (zco x1_a1.Fade.a1 x0_s.Fade.a1.Low x0_s.Fade.a1.High) (fun r7 => cond (r7) (cond (lenOk x1_a1.Tins) (lbind (zcd x0_s x1_a1.Tins 0) (fun r11 => some (.ret r11)) (fun c10 => zdq x0_s x1_a1 k0 (c0_5 + 1)) (fun _ _ => none)) none) (some (.ret false)))) (cond (c0_5 == 2) (Option.bind (zco x1_a1.Fade.a2 x0_s.Fade.a2.Low x0_s.Fade.a2.High) (fun r12 => cond (r12) (cond (lenOk x1_a1.Tins) (lbind (zce x0_s x1_a1.Tins 0) (fun r16 => some (.ret r16)) (fun c15 => zdq x0_s x1_a1 k0 (c0_5 + 1)) (fun _ _ => none)) none) (some (.ret false)))) (none)))
def zgx (x0_s : Gs) (x1_a1 : Gu) : Option (Bool) := cond ((List.length x1_a1.Tins : Int) != (List.length x0_s.Tins : Int)) (some false) (Option.bind (zco x1_a1.Years x0_s.Years.Low x0_s.Years.High) (fun r1 => cond (r1) (cond (boundOk 3) (lbind (zdq x0_s x1_a1 (Int.toNat (3 - 0)) 0) (fun r18 => some r18) (fun c17 => some true) (fun _ _ => none)) none) (some false)))
theorem zob (x0_s : Gs) (x1_a1 : Gu) (R : Bool) (h : zgx x0_s x1_a1 = some R) : VPure Tryz.prog G0 25 [.agg (cGs x0_s), .agg (cGu x1_a1)] (.tree (.lit (.bool R))) := by
 refine VPure.runR mixed Tryz.call25 Tryz.func25 rfl (by simp [Tryz.ntmps25]; kernel_rfl) ?_
 obtain ⟨KF, h, kF, kN⟩ := zaj h
 simp only [zgx] at h
 cases d19 : ((List.length x1_a1.Tins : Int) != (List.length x0_s.Tins : Int))
 ·simp only [d19, hs] at h
  obtain ⟨r20, o21, h⟩ := optI h kN
  try simp only [hs] at h
  simp only [vz, tyf, d19, nm, seval]
  refine ktA (zbk _ _ _ _ o21) ?_
  refine zac (fun tm => tm 2 = .ptr 0 0 ∧ tm 3 = .ptr 1 0 ∧ tm 15 = .lit (.bool false) ∧ tm 24 = .lit (.bool r20) ∧ True) (by refine ⟨?_, ?_, ?_, ?_, trivial⟩ <;> first | (simp only [ua, d19, nm, seval] <;> rfl) | rfl) ?_
  rintro tm ⟨e22, e23, e24, e25, _⟩
  cases d26 : (r20)
  ·simp only [d26, hs] at h
   try simp only [vz, tyf, d19, e22, e23, e24, e25, d26, nm, seval]
   obtain rfl := kF _ h
   exact zaa Tryz.results25 rfl
  simp only [d26, hs] at h
  cases g28 : (boundOk 3)
  ·simp only [g28, hs] at h
   exact absurd h kN
  simp only [g28, hs] at h
  simp only [vz, tyf, d19, e22, e23, e24, e25, d26, g28, nm, seval]
  obtain ⟨K27, h, kR27, kG27, kB27, kN27⟩ := zau h kN
  obtain ⟨f27, hf27, h⟩ := call2 h
  obtain ⟨I27, hI27⟩ : ∃ I : Nat → St → Prop, I = (fun m st => ∃ (p27 : Nat) (c27_5 : Int), p27 = m ∧ loOk c27_5 = true ∧ Int.toNat (3 - c27_5) = p27 ∧ st.df = [] ∧ 23 ≤ st.nx ∧ st.H 0 = some (.cells (some 28) (cGs x0_s)) ∧ st.H 1 = some (.cells (some 42) (cGu x1_a1)) ∧ st.tm 2 = .ptr 0 0 ∧ st.tm 3 = .ptr 1 0 ∧ st.tm 5 = .lit (.int .i64 c27_5) ∧ K27 (f27 p27 c27_5)) := ⟨_, rfl⟩
  refine loopK mixed (by kernel_rfl) I27 (Int.toNat (3 - 0)) (by rw [hI27]; refine ⟨Int.toNat (3 - 0), 0, rfl, (by rfl), rfl, rfl, (show 23 ≤ 23 by omega), ?_, ?_, e22, e23, ?_, h⟩ <;> first | (simp only [ua, d19, e22, e23, e24, e25, d26, nm, seval] <;> rfl) | rfl) ?_
  rintro m ⟨tm, H, nx27, df⟩ hinv
  rw [hI27] at hinv
  obtain ⟨p27, c27_5, rfl, hi27, hp27, hdf, hn27, H29, H30, e31, e32, e33, h⟩ := hinv
  simp only at hdf hn27 H29 H30 e31 e32 e33
  have n34 := zcf (m := 23) (b := nx27) (by omega)
  subst hdf hf27
  cases p27 with
  | zero =>
   have d35 : (decide (c27_5 < 3)) = false := zjo hp27
   simp only [zdq, hs, reduceCtorEq] at h
   replace h := kG27 _ h
   try dsimp only at h
   try simp only [hs] at h
   try simp only [vz, tyf, d19, d26, g28, n34, e31, e32, e33, H29, H30, d35, nm, seval]
   obtain rfl := kF _ h
   exact zaa Tryz.results25 rfl
  | succ p27 =>
   have d36 : (decide (c27_5 < 3)) = true := zada hp27
   have w37 := zos hi27 hp27 g28
   simp only [zdq, hs, reduceCtorEq] at h
   simp only [vz, tyf, d19, d26, g28, n34, e31, e32, e33, H29, H30, d36, w37, nm, seval]
   refine zcq (fun tm => tm 2 = .ptr 0 0 ∧ tm 3 = .ptr 1 0 ∧ tm 5 = .lit (.int .i64 c27_5) ∧ True) (by refine ⟨e31, e32, e33, trivial⟩ <;> first | (simp only [ua, d19, d26, n34, e31, e32, e33, H29, H30, d36, w37, nm, seval] <;> rfl) | rfl) ?_
   rintro tm ⟨e38, e39, e40, _⟩
   have b41 := And.intro d19 (And.intro d26 (And.intro g28 (And.intro n34 (And.intro H29 (And.intro H30 (And.intro d36 w37))))))
   cases d42 : (c27_5 == 0)
   ·simp only [d42, hs] at h
    cases d43 : (c27_5 == 1)
    ·simp only [d43, hs] at h
     cases d44 : (c27_5 == 2)
     ·simp only [d44, hs] at h
      exact absurd h kN27
     simp only [d44, hs] at h
     obtain ⟨r45, o46, h⟩ := optI h kN27
     try simp only [hs] at h
     simp only [vz, tyf, b41, e38, e39, e40, d42, d43, d44, (zed d44), (zfz d44), nm, seval]
     refine dktA (zbk _ _ _ _ o46) ?_
     refine zac (fun tm => tm 2 = .ptr 0 0 ∧ tm 3 = .ptr 1 0 ∧ tm 5 = .lit (.int .i64 c27_5) ∧ tm 45 = .lit (.bool r45) ∧ True) (by refine ⟨e38, e39, e40, ?_, trivial⟩ <;> first | (simp only [ua, b41, e38, e39, e40, d42, d43, d44, nm, seval] <;> rfl) | rfl) ?_
     rintro tm ⟨e47, e48, e49, e50, _⟩
     cases d51 : (r45)
     ·simp only [d51, hs] at h
      try simp only [vz, tyf, b41, d42, d43, d44, (zed d44), (zfz d44), e47, e48, e49, e50, d51, nm, seval]
      replace h := kR27 _ h
      try dsimp only at h
      obtain rfl := kF _ h
      exact zaa Tryz.results25 rfl
     simp only [d51, hs] at h
     cases g53 : (lenOk x1_a1.Tins)
     ·simp only [g53, hs] at h
      exact absurd h kN27
     simp only [g53, hs] at h
     simp only [vz, tyf, b41, d42, d43, d44, (zed d44), (zfz d44), e47, e48, e49, e50, d51, g53, nm, seval]
     obtain ⟨K52, h, kR52, kG52, kB52, kN52⟩ := zau h kN27
     obtain ⟨f52, hf52, h⟩ := call2 h
     obtain ⟨I52, hI52⟩ : ∃ I : Nat → St → Prop, I = (fun m st => ∃ (p52 : List Gi) (c52_6 : Int), m = List.length p52 ∧ 0 ≤ c52_6 ∧ List.drop (Int.toNat c52_6) x1_a1.Tins = p52 ∧ st.df = [] ∧ nx27 + 19 ≤ st.nx ∧ st.H 0 = some (.cells (some 28) (cGs x0_s)) ∧ st.H 1 = some (.cells (some 42) (cGu x1_a1)) ∧ st.tm 2 = .ptr 0 0 ∧ st.tm 3 = .ptr 1 0 ∧ st.tm 5 = .lit (.int .i64 c27_5) ∧ st.tm 6 = .lit (.int .i64 c52_6) ∧ K52 (f52 p52 c52_6)) := ⟨_, rfl⟩
     refine loopK mixed (by kernel_rfl) I52 (List.length x1_a1.Tins) (by rw [hI52]; refine ⟨x1_a1.Tins, 0, rfl, Int.le_refl _, rfl, rfl, (show nx27 + 19 ≤ nx27 + 19 by omega), ?_, ?_, e47, e48, e49, ?_, h⟩ <;> first | (simp only [ua, b41, d42, d43, d44, e47, e48, e49, e50, d51, nm, seval] <;> rfl) | rfl) ?_
     rintro m ⟨tm, H, nx52, df⟩ hinv
     rw [hI52] at hinv
     obtain ⟨p52, c52_6, rfl, hi52, hp52, hdf, hn52, H54, H55, e56, e57, e58, e59, h⟩ := hinv
     simp only at hdf hn52 H54 H55 e56 e57 e58 e59
     have n60 := zcf (m := 23) (b := nx52) (by omega)
     have n61 := zlz (a := nx27) (m := 19) (b := nx52) (by omega)
     subst hdf hf52
     cases p52 with
     | nil =>
      have d62 : (decide (c52_6 < (List.length x1_a1.Tins : Int))) = false := zaq hi52 hp52
      simp only [zcc, zcd, zce, hs, reduceCtorEq] at h
      replace h := kG52 _ h
      try dsimp only at h
      try simp only [hs] at h
      simp only [vz, tyf, b41, d42, d43, d44, (zed d44), (zfz d44), d51, g53, n60, n61, e56, e57, e58, e59, H54, H55, d62, nm, seval]
      exact ⟨p27, Nat.lt_succ_self _, by rw [hI27]; refine ⟨p27, c27_5 + 1, rfl, zld hi27, zgb hp27, rfl, (show 23 ≤ nx52 + 8 by omega), ?_, ?_, e56, e57, ?_, h⟩ <;> first | (simp only [ua, b41, d42, d43, d44, d51, n60, n61, e56, e57, e58, e59, H54, H55, d62, nm, seval] <;> rfl) | rfl⟩
     | cons e52 p52 =>
      have d63 : (decide (c52_6 < (List.length x1_a1.Tins : Int))) = true := zbr hi52 hp52
      have o65 := zal hi52 hp52
      have w64 := zcp hi52 hp52 g53
      simp only [zcc, zcd, zce, hs, reduceCtorEq] at h
      obtain ⟨x66, o67, h⟩ := optI h kN52
      try simp only [hs] at h
      simp only [vz, tyf, b41, d42, d43, d44, (zed d44), (zfz d44), d51, g53, n60, n61, e56, e57, e58, e59, H54, H55, d63, (ix40 o65), w64, (ix26 o67), (zsp d44), nm, seval]
      refine zcq (fun tm => tm 2 = .ptr 0 0 ∧ tm 3 = .ptr 1 0 ∧ tm 5 = .lit (.int .i64 c27_5) ∧ tm 6 = .lit (.int .i64 c52_6) ∧ tm 7 = .ptr (nx52 + 13) 0 ∧ True) (by refine ⟨e56, e57, e58, e59, ?_, trivial⟩ <;> first | (simp only [ua, b41, d42, d43, d44, d51, n60, n61, e56, e57, e58, e59, H54, H55, d63, w64, nm, seval] <;> rfl) | rfl) ?_
      rintro tm ⟨e68, e69, e70, e71, e72, _⟩
      have b73 := And.intro b41 (And.intro d42 (And.intro d43 (And.intro d44 (And.intro d51 (And.intro g53 (And.intro n60 (And.intro n61 (And.intro H54 (And.intro H55 (And.intro d63 w64))))))))))
      obtain ⟨r74, o75, h⟩ := optI h kN52
      try simp only [hs] at h
      simp only [vz, tyf, b73, (zed d44), (zfz d44), (ix40 o65), (ix26 o67), (zsp d44), e68, e69, e70, e71, e72, (zaij d44), nm, seval]
      refine dktA (zbk _ _ _ _ o75) ?_
      refine zac (fun tm => tm 2 = .ptr 0 0 ∧ tm 3 = .ptr 1 0 ∧ tm 5 = .lit (.int .i64 c27_5) ∧ tm 6 = .lit (.int .i64 c52_6) ∧ tm 73 = .lit (.bool r74) ∧ True) (by refine ⟨e68, e69, e70, e71, ?_, trivial⟩ <;> first | (simp only [ua, b73, e68, e69, e70, e71, e72, nm, seval] <;> rfl) | rfl) ?_
      rintro tm ⟨e76, e77, e78, e79, e80, _⟩
      cases d81 : (r74)
      ·simp only [d81, hs] at h
       try simp only [vz, tyf, b73, (zed d44), (zfz d44), (ix40 o65), (ix26 o67), (zsp d44), (zaij d44), e76, e77, e78, e79, e80, d81, nm, seval]
       replace h := kR52 _ h
       try dsimp only at h
       replace h := kR27 _ h
       try dsimp only at h
       obtain rfl := kF _ h
       exact zaa Tryz.results25 rfl
      simp only [d81, hs] at h
      simp only [vz, tyf, b73, (zed d44), (zfz d44), (ix40 o65), (ix26 o67), (zsp d44), (zaij d44), e76, e77, e78, e79, e80, d81, nm, seval]
      exact ⟨List.length p52, Nat.lt_succ_self _, by rw [hI52]; refine ⟨p52, c52_6 + 1, rfl, Int.le_trans hi52 (Int.le_add_one (Int.le_refl _)), zaz hi52 hp52, rfl, (show nx27 + 19 ≤ nx52 + 31 by omega), ?_, ?_, e76, e77, e78, ?_, h⟩ <;> first | (simp only [ua, b73, e76, e77, e78, e79, e80, d81, nm, seval] <;> rfl) | rfl⟩
    simp only [d43, hs] at h
    obtain ⟨r82, o83, h⟩ := optI h kN27
    try simp only [hs] at h
    simp only [vz, tyf, b41, e38, e39, e40, d42, d43, (zee d43), (zga d43), nm, seval]
    refine dktA (zbk _ _ _ _ o83) ?_
    refine zac (fun tm => tm 2 = .ptr 0 0 ∧ tm 3 = .ptr 1 0 ∧ tm 5 = .lit (.int .i64 c27_5) ∧ tm 45 = .lit (.bool r82) ∧ True) (by refine ⟨e38, e39, e40, ?_, trivial⟩ <;> first | (simp only [ua, b41, e38, e39, e40, d42, d43, nm, seval] <;> rfl) | rfl) ?_
    rintro tm ⟨e84, e85, e86, e87, _⟩
    cases d88 : (r82)
    ·simp only [d88, hs] at h
     try simp only [vz, tyf, b41, d42, d43, (zee d43), (zga d43), e84, e85, e86, e87, d88, nm, seval]
     replace h := kR27 _ h
     try dsimp only at h
     obtain rfl := kF _ h
     exact zaa Tryz.results25 rfl
    simp only [d88, hs] at h
    cases g90 : (lenOk x1_a1.Tins)
    ·simp only [g90, hs] at h
     exact absurd h kN27
    simp only [g90, hs] at h
    simp only [vz, tyf, b41, d42, d43, (zee d43), (zga d43), e84, e85, e86, e87, d88, g90, nm, seval]
    obtain ⟨K89, h, kR89, kG89, kB89, kN89⟩ := zau h kN27
    obtain ⟨f89, hf89, h⟩ := call2 h
    obtain ⟨I89, hI89⟩ : ∃ I : Nat → St → Prop, I = (fun m st => ∃ (p89 : List Gi) (c89_6 : Int), m = List.length p89 ∧ 0 ≤ c89_6 ∧ List.drop (Int.toNat c89_6) x1_a1.Tins = p89 ∧ st.df = [] ∧ nx27 + 19 ≤ st.nx ∧ st.H 0 = some (.cells (some 28) (cGs x0_s)) ∧ st.H 1 = some (.cells (some 42) (cGu x1_a1)) ∧ st.tm 2 = .ptr 0 0 ∧ st.tm 3 = .ptr 1 0 ∧ st.tm 5 = .lit (.int .i64 c27_5) ∧ st.tm 6 = .lit (.int .i64 c89_6) ∧ K89 (f89 p89 c89_6)) := ⟨_, rfl⟩
    refine loopK mixed (by kernel_rfl) I89 (List.length x1_a1.Tins) (by rw [hI89]; refine ⟨x1_a1.Tins, 0, rfl, Int.le_refl _, rfl, rfl, (show nx27 + 19 ≤ nx27 + 19 by omega), ?_, ?_, e84, e85, e86, ?_, h⟩ <;> first | (simp only [ua, b41, d42, d43, e84, e85, e86, e87, d88, nm, seval] <;> rfl) | rfl) ?_
    rintro m ⟨tm, H, nx89, df⟩ hinv
    rw [hI89] at hinv
    obtain ⟨p89, c89_6, rfl, hi89, hp89, hdf, hn89, H91, H92, e93, e94, e95, e96, h⟩ := hinv
    simp only at hdf hn89 H91 H92 e93 e94 e95 e96
    have n97 := zcf (m := 23) (b := nx89) (by omega)
    have n98 := zlz (a := nx27) (m := 19) (b := nx89) (by omega)
    subst hdf hf89
    cases p89 with
    | nil =>
     have d99 : (decide (c89_6 < (List.length x1_a1.Tins : Int))) = false := zaq hi89 hp89
     simp only [zcc, zcd, zce, hs, reduceCtorEq] at h
     replace h := kG89 _ h
     try dsimp only at h
     try simp only [hs] at h
     simp only [vz, tyf, b41, d42, d43, (zee d43), (zga d43), d88, g90, n97, n98, e93, e94, e95, e96, H91, H92, d99, nm, seval]
     exact ⟨p27, Nat.lt_succ_self _, by rw [hI27]; refine ⟨p27, c27_5 + 1, rfl, zld hi27, zgb hp27, rfl, (show 23 ≤ nx89 + 8 by omega), ?_, ?_, e93, e94, ?_, h⟩ <;> first | (simp only [ua, b41, d42, d43, d88, n97, n98, e93, e94, e95, e96, H91, H92, d99, nm, seval] <;> rfl) | rfl⟩
    | cons e89 p89 =>
     have d100 : (decide (c89_6 < (List.length x1_a1.Tins : Int))) = true := zbr hi89 hp89
     have o102 := zal hi89 hp89
     have w101 := zcp hi89 hp89 g90
     simp only [zcc, zcd, zce, hs, reduceCtorEq] at h
     obtain ⟨x103, o104, h⟩ := optI h kN89
     try simp only [hs] at h
     simp only [vz, tyf, b41, d42, d43, (zee d43), (zga d43), d88, g90, n97, n98, e93, e94, e95, e96, H91, H92, d100, (ix40 o102), w101, (ix26 o104), (zsh d43), nm, seval]
     refine zcq (fun tm => tm 2 = .ptr 0 0 ∧ tm 3 = .ptr 1 0 ∧ tm 5 = .lit (.int .i64 c27_5) ∧ tm 6 = .lit (.int .i64 c89_6) ∧ tm 7 = .ptr (nx89 + 13) 0 ∧ True) (by refine ⟨e93, e94, e95, e96, ?_, trivial⟩ <;> first | (simp only [ua, b41, d42, d43, d88, n97, n98, e93, e94, e95, e96, H91, H92, d100, w101, nm, seval] <;> rfl) | rfl) ?_
     rintro tm ⟨e105, e106, e107, e108, e109, _⟩
     have b110 := And.intro b41 (And.intro d42 (And.intro d43 (And.intro d88 (And.intro g90 (And.intro n97 (And.intro n98 (And.intro H91 (And.intro H92 (And.intro d100 w101)))))))))
     obtain ⟨r111, o112, h⟩ := optI h kN89
     try simp only [hs] at h
     simp only [vz, tyf, b110, (zee d43), (zga d43), (ix40 o102), (ix26 o104), (zsh d43), e105, e106, e107, e108, e109, (zaic d43), nm, seval]
     refine dktA (zbk _ _ _ _ o112) ?_
     refine zac (fun tm => tm 2 = .ptr 0 0 ∧ tm 3 = .ptr 1 0 ∧ tm 5 = .lit (.int .i64 c27_5) ∧ tm 6 = .lit (.int .i64 c89_6) ∧ tm 73 = .lit (.bool r111) ∧ True) (by refine ⟨e105, e106, e107, e108, ?_, trivial⟩ <;> first | (simp only [ua, b110, e105, e106, e107, e108, e109, nm, seval] <;> rfl) | rfl) ?_
     rintro tm ⟨e113, e114, e115, e116, e117, _⟩
     cases d118 : (r111)
     ·simp only [d118, hs] at h
      try simp only [vz, tyf, b110, (zee d43), (zga d43), (ix40 o102), (ix26 o104), (zsh d43), (zaic d43), e113, e114, e115, e116, e117, d118, nm, seval]
      replace h := kR89 _ h
      try dsimp only at h
      replace h := kR27 _ h
      try dsimp only at h
      obtain rfl := kF _ h
      exact zaa Tryz.results25 rfl
     simp only [d118, hs] at h
     simp only [vz, tyf, b110, (zee d43), (zga d43), (ix40 o102), (ix26 o104), (zsh d43), (zaic d43), e113, e114, e115, e116, e117, d118, nm, seval]
     exact ⟨List.length p89, Nat.lt_succ_self _, by rw [hI89]; refine ⟨p89, c89_6 + 1, rfl, Int.le_trans hi89 (Int.le_add_one (Int.le_refl _)), zaz hi89 hp89, rfl, (show nx27 + 19 ≤ nx89 + 31 by omega), ?_, ?_, e113, e114, e115, ?_, h⟩ <;> first | (simp only [ua, b110, e113, e114, e115, e116, e117, d118, nm, seval] <;> rfl) | rfl⟩
   simp only [d42, hs] at h
   obtain ⟨r119, o120, h⟩ := optI h kN27
   try simp only [hs] at h
   simp only [vz, tyf, b41, e38, e39, e40, d42, (zea d42), (zfy d42), nm, seval]
   refine dktA (zbk _ _ _ _ o120) ?_
   refine zac (fun tm => tm 2 = .ptr 0 0 ∧ tm 3 = .ptr 1 0 ∧ tm 5 = .lit (.int .i64 c27_5) ∧ tm 45 = .lit (.bool r119) ∧ True) (by refine ⟨e38, e39, e40, ?_, trivial⟩ <;> first | (simp only [ua, b41, e38, e39, e40, d42, nm, seval] <;> rfl) | rfl) ?_
   rintro tm ⟨e121, e122, e123, e124, _⟩
   cases d125 : (r119)
   ·simp only [d125, hs] at h
    try simp only [vz, tyf, b41, d42, (zea d42), (zfy d42), e121, e122, e123, e124, d125, nm, seval]
    replace h := kR27 _ h
    try dsimp only at h
    obtain rfl := kF _ h
    exact zaa Tryz.results25 rfl
   simp only [d125, hs] at h
   cases g127 : (lenOk x1_a1.Tins)
   ·simp only [g127, hs] at h
    exact absurd h kN27
   simp only [g127, hs] at h
   simp only [vz, tyf, b41, d42, (zea d42), (zfy d42), e121, e122, e123, e124, d125, g127, nm, seval]
   obtain ⟨K126, h, kR126, kG126, kB126, kN126⟩ := zau h kN27
   obtain ⟨f126, hf126, h⟩ := call2 h
   obtain ⟨I126, hI126⟩ : ∃ I : Nat → St → Prop, I = (fun m st => ∃ (p126 : List Gi) (c126_6 : Int), m = List.length p126 ∧ 0 ≤ c126_6 ∧ List.drop (Int.toNat c126_6) x1_a1.Tins = p126 ∧ st.df = [] ∧ nx27 + 19 ≤ st.nx ∧ st.H 0 = some (.cells (some 28) (cGs x0_s)) ∧ st.H 1 = some (.cells (some 42) (cGu x1_a1)) ∧ st.tm 2 = .ptr 0 0 ∧ st.tm 3 = .ptr 1 0 ∧ st.tm 5 = .lit (.int .i64 c27_5) ∧ st.tm 6 = .lit (.int .i64 c126_6) ∧ K126 (f126 p126 c126_6)) := ⟨_, rfl⟩
   refine loopK mixed (by kernel_rfl) I126 (List.length x1_a1.Tins) (by rw [hI126]; refine ⟨x1_a1.Tins, 0, rfl, Int.le_refl _, rfl, rfl, (show nx27 + 19 ≤ nx27 + 19 by omega), ?_, ?_, e121, e122, e123, ?_, h⟩ <;> first | (simp only [ua, b41, d42, e121, e122, e123, e124, d125, nm, seval] <;> rfl) | rfl) ?_
   rintro m ⟨tm, H, nx126, df⟩ hinv
   rw [hI126] at hinv
   obtain ⟨p126, c126_6, rfl, hi126, hp126, hdf, hn126, H128, H129, e130, e131, e132, e133, h⟩ := hinv
   simp only at hdf hn126 H128 H129 e130 e131 e132 e133
   have n134 := zcf (m := 23) (b := nx126) (by omega)
   have n135 := zlz (a := nx27) (m := 19) (b := nx126) (by omega)
   subst hdf hf126
   cases p126 with
   | nil =>
    have d136 : (decide (c126_6 < (List.length x1_a1.Tins : Int))) = false := zaq hi126 hp126
    simp only [zcc, zcd, zce, hs, reduceCtorEq] at h
    replace h := kG126 _ h
    try dsimp only at h
    try simp only [hs] at h
    simp only [vz, tyf, b41, d42, (zea d42), (zfy d42), d125, g127, n134, n135, e130, e131, e132, e133, H128, H129, d136, nm, seval]
    exact ⟨p27, Nat.lt_succ_self _, by rw [hI27]; refine ⟨p27, c27_5 + 1, rfl, zld hi27, zgb hp27, rfl, (show 23 ≤ nx126 + 8 by omega), ?_, ?_, e130, e131, ?_, h⟩ <;> first | (simp only [ua, b41, d42, d125, n134, n135, e130, e131, e132, e133, H128, H129, d136, nm, seval] <;> rfl) | rfl⟩
   | cons e126 p126 =>
    have d137 : (decide (c126_6 < (List.length x1_a1.Tins : Int))) = true := zbr hi126 hp126
    have o139 := zal hi126 hp126
    have w138 := zcp hi126 hp126 g127
    simp only [zcc, zcd, zce, hs, reduceCtorEq] at h
    obtain ⟨x140, o141, h⟩ := optI h kN126
    try simp only [hs] at h
    simp only [vz, tyf, b41, d42, (zea d42), (zfy d42), d125, g127, n134, n135, e130, e131, e132, e133, H128, H129, d137, (ix40 o139), w138, (ix26 o141), (zrv d42), nm, seval]
    refine zcq (fun tm => tm 2 = .ptr 0 0 ∧ tm 3 = .ptr 1 0 ∧ tm 5 = .lit (.int .i64 c27_5) ∧ tm 6 = .lit (.int .i64 c126_6) ∧ tm 7 = .ptr (nx126 + 13) 0 ∧ True) (by refine ⟨e130, e131, e132, e133, ?_, trivial⟩ <;> first | (simp only [ua, b41, d42, d125, n134, n135, e130, e131, e132, e133, H128, H129, d137, w138, nm, seval] <;> rfl) | rfl) ?_
    rintro tm ⟨e142, e143, e144, e145, e146, _⟩
    have b147 := And.intro b41 (And.intro d42 (And.intro d125 (And.intro g127 (And.intro n134 (And.intro n135 (And.intro H128 (And.intro H129 (And.intro d137 w138))))))))
    obtain ⟨r148, o149, h⟩ := optI h kN126
    try simp only [hs] at h
    simp only [vz, tyf, b147, (zea d42), (zfy d42), (ix40 o139), (ix26 o141), (zrv d42), e142, e143, e144, e145, e146, (zags d42), nm, seval]
    refine dktA (zbk _ _ _ _ o149) ?_
    refine zac (fun tm => tm 2 = .ptr 0 0 ∧ tm 3 = .ptr 1 0 ∧ tm 5 = .lit (.int .i64 c27_5) ∧ tm 6 = .lit (.int .i64 c126_6) ∧ tm 73 = .lit (.bool r148) ∧ True) (by refine ⟨e142, e143, e144, e145, ?_, trivial⟩ <;> first | (simp only [ua, b147, e142, e143, e144, e145, e146, nm, seval] <;> rfl) | rfl) ?_
    rintro tm ⟨e150, e151, e152, e153, e154, _⟩
    cases d155 : (r148)
    ·simp only [d155, hs] at h
     try simp only [vz, tyf, b147, (zea d42), (zfy d42), (ix40 o139), (ix26 o141), (zrv d42), (zags d42), e150, e151, e152, e153, e154, d155, nm, seval]
     replace h := kR126 _ h
     try dsimp only at h
     replace h := kR27 _ h
     try dsimp only at h
     obtain rfl := kF _ h
     exact zaa Tryz.results25 rfl
    simp only [d155, hs] at h
    simp only [vz, tyf, b147, (zea d42), (zfy d42), (ix40 o139), (ix26 o141), (zrv d42), (zags d42), e150, e151, e152, e153, e154, d155, nm, seval]
    exact ⟨List.length p126, Nat.lt_succ_self _, by rw [hI126]; refine ⟨p126, c126_6 + 1, rfl, Int.le_trans hi126 (Int.le_add_one (Int.le_refl _)), zaz hi126 hp126, rfl, (show nx27 + 19 ≤ nx126 + 31 by omega), ?_, ?_, e150, e151, e152, ?_, h⟩ <;> first | (simp only [ua, b147, e150, e151, e152, e153, e154, d155, nm, seval] <;> rfl) | rfl⟩
 simp only [d19, hs] at h
 try simp only [vz, tyf, d19, nm, seval]
 obtain rfl := kF _ h
 exact zaa Tryz.results25 rfl
end Go.V
end
section
namespace Go.V
open Go

end Go.V
end
section
namespace Go.V
open Go Go.Proofs

def zdj (x1_t : Gu) (x2_p : Int) : List Int → Int → Int → Option (LOut (Int) (Int))
 | [], c0_8, c0_7 => some (.go c0_7)
 | e0 :: p0, c0_8, c0_7 => Option.bind (getI x1_t.Tins c0_8) (fun x1 => cond (x2_p == 0) (zdj x1_t x2_p p0 (c0_8 + 1) (IntKind.i64.wrap (c0_7 + (IntKind.i64.wrap (e0 * x1.a0))))) (cond (x2_p == 1) (zdj x1_t x2_p p0 (c0_8 + 1) (IntKind.i64.wrap (c0_7 + (IntKind.i64.wrap (e0 * x1.a1))))) (cond (x2_p == 2) (zdj x1_t x2_p p0 (c0_8 + 1) (IntKind.i64.wrap (c0_7 + (IntKind.i64.wrap (e0 * x1.a2))))) (none))))
def zek (x0_mix : List Int) (x1_t : Gu) (x2_p : Int) : Option (Int) := cond (lenOk x0_mix) (lbind (zdj x1_t x2_p x0_mix 0 0) (fun r3 => some r3) (fun c2 => some c2) (fun _ _ => none)) none
theorem zem (x0_mix : List Int) (x1_t : Gu) (x2_p : Int) (R : Int) (h : zek x0_mix x1_t x2_p = some R) : VPure Tryz.prog G0 33 [.sl (cellsL eI x0_mix) (List.length x0_mix) false, .agg (cGu x1_t), .lit (.int .i64 x2_p)] (.tree (.lit (.int .i64 R))) := by
 refine VPure.runR mixed Tryz.call33 Tryz.func33 rfl (by simp [Tryz.ntmps33]; kernel_rfl) ?_
 obtain ⟨KF, h, kF, kN⟩ := zaj h
 simp only [zek] at h
 cases g5 : (lenOk x0_mix)
 ·simp only [g5, hs] at h
  exact absurd h kN
 simp only [g5, hs] at h
 simp only [vz, tyf, g5, nm, seval]
 obtain ⟨K4, h, kR4, kG4, kB4, kN4⟩ := zau h kN
 obtain ⟨f4, hf4, h⟩ := call3 h
 obtain ⟨I4, hI4⟩ : ∃ I : Nat → St → Prop, I = (fun m st => ∃ (p4 : List Int) (c4_8 : Int) (c4_7 : Int), m = List.length p4 ∧ 0 ≤ c4_8 ∧ List.drop (Int.toNat c4_8) x0_mix = p4 ∧ st.df = [] ∧ 4 ≤ st.nx ∧ st.H 0 = some (.cells (some 42) (cGu x1_t)) ∧ st.tm 0 = .sl (cellsL eI x0_mix) (List.length x0_mix) false ∧ st.tm 2 = .lit (.int .i64 x2_p) ∧ st.tm 4 = .ptr 0 0 ∧ st.tm 7 = .lit (.int .i64 c4_7) ∧ st.tm 8 = .lit (.int .i64 c4_8) ∧ K4 (f4 p4 c4_8 c4_7)) := ⟨_, rfl⟩
 refine loopK mixed (by kernel_rfl) I4 (List.length x0_mix) (by rw [hI4]; refine ⟨x0_mix, 0, 0, rfl, Int.le_refl _, rfl, rfl, (show 4 ≤ 4 by omega), ?_, ?_, ?_, ?_, ?_, ?_, h⟩ <;> first | (simp only [ua, nm, seval] <;> rfl) | rfl) ?_
 rintro m ⟨tm, H, nx4, df⟩ hinv
 rw [hI4] at hinv
 obtain ⟨p4, c4_8, c4_7, rfl, hi4, hp4, hdf, hn4, H6, e7, e8, e9, e10, e11, h⟩ := hinv
 simp only at hdf hn4 H6 e7 e8 e9 e10 e11
 have n12 := zcf (m := 4) (b := nx4) (by omega)
 subst hdf hf4
 cases p4 with
 | nil =>
  have d13 : (decide (c4_8 < (List.length x0_mix : Int))) = false := zaq hi4 hp4
  simp only [zdj, hs, reduceCtorEq] at h
  replace h := kG4 _ h
  try dsimp only at h
  try simp only [hs] at h
  try simp only [vz, tyf, g5, n12, e7, e8, e9, e10, e11, H6, d13, nm, seval]
  refine zam (x := (.lit (.int .i64 c4_7))) (by first | (simp only [Tryz.results33, resV, resL, resV1, zao, zbi, uw, cr, tyf, g5, n12, H6, d13, nm, seval] <;> rfl) | rfl) ?_
  obtain rfl := kF _ h
  refine zas ?_ ?_
  ·simp only [tre, tytre, Bool.and_self]
  ·first | (simp only [outV, uw, zad, cr, tyf, nrm, tynrm, g5, n12, e7, e8, e9, e10, e11, H6, d13, nm, seval] <;> rfl) | rfl
 | cons e4 p4 =>
  have d14 : (decide (c4_8 < (List.length x0_mix : Int))) = true := zbr hi4 hp4
  have o16 := zal hi4 hp4
  have w15 := zcp hi4 hp4 g5
  simp only [zdj, hs, reduceCtorEq] at h
  simp only [vz, tyf, g5, n12, e7, e8, e9, e10, e11, H6, d14, (ix29 o16), w15, nm, seval]
  refine zcq (fun tm => tm 0 = .sl (cellsL eI x0_mix) (List.length x0_mix) false ∧ tm 2 = .lit (.int .i64 x2_p) ∧ tm 4 = .ptr 0 0 ∧ tm 7 = .lit (.int .i64 c4_7) ∧ tm 8 = .lit (.int .i64 c4_8) ∧ True) (by refine ⟨e7, e8, e9, e10, e11, trivial⟩ <;> first | (simp only [ua, n12, e7, e8, e9, e10, e11, H6, d14, w15, nm, seval] <;> rfl) | rfl) ?_
  rintro tm ⟨e17, e18, e19, e20, e21, _⟩
  obtain ⟨x22, o23, h⟩ := optI h kN4
  try simp only [hs] at h
  cases d24 : (x2_p == 0)
  ·simp only [d24, hs] at h
   cases d25 : (x2_p == 1)
   ·simp only [d25, hs] at h
    have b26 := And.intro g5 (And.intro n12 (And.intro H6 (And.intro d14 (And.intro w15 (And.intro d24 d25)))))
    cases d27 : (x2_p == 2)
    ·simp only [d27, hs] at h
     exact absurd h kN4
    simp only [d27, hs] at h
    simp only [vz, tyf, b26, (ix29 o16), e17, e18, e19, e20, e21, (ix40 o23), d27, (zaij d27), nm, seval]
    exact ⟨List.length p4, Nat.lt_succ_self _, by rw [hI4]; refine ⟨p4, c4_8 + 1, IntKind.i64.wrap (c4_7 + (IntKind.i64.wrap (e4 * x22.a2))), rfl, Int.le_trans hi4 (Int.le_add_one (Int.le_refl _)), zaz hi4 hp4, rfl, (show 4 ≤ nx4 + 22 by omega), ?_, e17, e18, e19, ?_, ?_, h⟩ <;> first | (simp only [ua, b26, e17, e18, e19, e20, e21, d27, nm, seval] <;> rfl) | rfl⟩
   simp only [d25, hs] at h
   have b28 := And.intro g5 (And.intro n12 (And.intro H6 (And.intro d14 (And.intro w15 (And.intro d24 d25)))))
   simp only [vz, tyf, b28, (ix29 o16), e17, e18, e19, e20, e21, (ix40 o23), (zaic d25), nm, seval]
   exact ⟨List.length p4, Nat.lt_succ_self _, by rw [hI4]; refine ⟨p4, c4_8 + 1, IntKind.i64.wrap (c4_7 + (IntKind.i64.wrap (e4 * x22.a1))), rfl, Int.le_trans hi4 (Int.le_add_one (Int.le_refl _)), zaz hi4 hp4, rfl, (show 4 ≤ nx4 + 22 by omega), ?_, e17, e18, e19, ?_, ?_, h⟩ <;> first | (simp only [ua, b28, e17, e18, e19, e20, e21, nm, seval] <;> rfl) | rfl⟩
  simp only [d24, hs] at h
  simp only [vz, tyf, g5, n12, H6, d14, (ix29 o16), w15, e17, e18, e19, e20, e21, (ix40 o23), d24, (zags d24), nm, seval]
  exact ⟨List.length p4, Nat.lt_succ_self _, by rw [hI4]; refine ⟨p4, c4_8 + 1, IntKind.i64.wrap (c4_7 + (IntKind.i64.wrap (e4 * x22.a0))), rfl, Int.le_trans hi4 (Int.le_add_one (Int.le_refl _)), zaz hi4 hp4, rfl, (show 4 ≤ nx4 + 22 by omega), ?_, e17, e18, e19, ?_, ?_, h⟩ <;> first | (simp only [ua, n12, H6, d14, w15, e17, e18, e19, e20, e21, d24, nm, seval] <;> rfl) | rfl⟩
def zbw (x0_s : Gs) (x1_p : Int) (x2_years : Int) (x3_fade : Int) : Option (Int) := cond (x1_p == 0) (some (if 0 < (IntKind.i64.wrap (x0_s.Old.a0 - (IntKind.i64.wrap (x2_years * x3_fade)))) then (IntKind.i64.wrap (x0_s.Old.a0 - (IntKind.i64.wrap (x2_years * x3_fade)))) else 0)) (cond (x1_p == 1) (some (if 0 < (IntKind.i64.wrap (x0_s.Old.a1 - (IntKind.i64.wrap (x2_years * x3_fade)))) then (IntKind.i64.wrap (x0_s.Old.a1 - (IntKind.i64.wrap (x2_years * x3_fade)))) else 0)) (cond (x1_p == 2) (some (if 0 < (IntKind.i64.wrap (x0_s.Old.a2 - (IntKind.i64.wrap (x2_years * x3_fade)))) then (IntKind.i64.wrap (x0_s.Old.a2 - (IntKind.i64.wrap (x2_years * x3_fade)))) else 0)) (none)))
theorem zcn (x0_s : Gs) (x1_p : Int) (x2_years : Int) (x3_fade : Int) (R : Int) (h : zbw x0_s x1_p x2_years x3_fade = some R) : VPure Tryz.prog G0 32 [.agg (cGs x0_s), .lit (.int .i64 x1_p), .lit (.int .i64 x2_years), .lit (.int .i64 x3_fade)] (.tree (.lit (.int .i64 R))) := by
 refine VPure.runR mixed Tryz.call32 Tryz.func32 rfl (by simp [Tryz.ntmps32]; kernel_rfl) ?_
 obtain ⟨KF, h, kF, kN⟩ := zaj h
 simp only [zbw] at h
 cases d1 : (x1_p == 0)
 ·simp only [d1, hs] at h
  cases d2 : (x1_p == 1)
  ·simp only [d2, hs] at h
   cases d3 : (x1_p == 2)
   ·simp only [d3, hs] at h
    exact absurd h kN
   simp only [d3, hs] at h
   try simp only [vz, tyf, d1, d2, d3, (zed d3), nm, seval]
   refine zam (x := (.lit (.int .i64 (if 0 < (IntKind.i64.wrap (x0_s.Old.a2 - (IntKind.i64.wrap (x2_years * x3_fade)))) then (IntKind.i64.wrap (x0_s.Old.a2 - (IntKind.i64.wrap (x2_years * x3_fade)))) else 0)))) (by first | (simp only [Tryz.results32, resV, resL, resV1, zao, zbi, uw, cr, tyf, d1, d2, d3, (zed d3), nm, seval] <;> rfl) | rfl) ?_
   obtain rfl := kF _ h
   refine zas ?_ ?_
   ·simp only [tre, tytre, Bool.and_self]
   ·first | (simp only [outV, uw, zad, cr, tyf, nrm, tynrm, d1, d2, d3, (zed d3), nm, seval] <;> rfl) | rfl
  simp only [d2, hs] at h
  try simp only [vz, tyf, d1, d2, (zee d2), nm, seval]
  refine zam (x := (.lit (.int .i64 (if 0 < (IntKind.i64.wrap (x0_s.Old.a1 - (IntKind.i64.wrap (x2_years * x3_fade)))) then (IntKind.i64.wrap (x0_s.Old.a1 - (IntKind.i64.wrap (x2_years * x3_fade)))) else 0)))) (by first | (simp only [Tryz.results32, resV, resL, resV1, zao, zbi, uw, cr, tyf, d1, d2, (zee d2), nm, seval] <;> rfl) | rfl) ?_
  obtain rfl := kF _ h
  refine zas ?_ ?_
  ·simp only [tre, tytre, Bool.and_self]
  ·first | (simp only [outV, uw, zad, cr, tyf, nrm, tynrm, d1, d2, (zee d2), nm, seval] <;> rfl) | rfl
 simp only [d1, hs] at h
 try simp only [vz, tyf, d1, (zea d1), nm, seval]
 refine zam (x := (.lit (.int .i64 (if 0 < (IntKind.i64.wrap (x0_s.Old.a0 - (IntKind.i64.wrap (x2_years * x3_fade)))) then (IntKind.i64.wrap (x0_s.Old.a0 - (IntKind.i64.wrap (x2_years * x3_fade)))) else 0)))) (by first | (simp only [Tryz.results32, resV, resL, resV1, zao, zbi, uw, cr, tyf, d1, (zea d1), nm, seval] <;> rfl) | rfl) ?_
 obtain rfl := kF _ h
 refine zas ?_ ?_
 ·simp only [tre, tytre, Bool.and_self]
 ·first | (simp only [outV, uw, zad, cr, tyf, nrm, tynrm, d1, (zea d1), nm, seval] <;> rfl) | rfl

def zhw (x0_s : Gs) : Option (Bool) := some (decide ((List.length x0_s.Tins : Int) ≤ 6))
theorem zom (x0_s : Gs) (R : Bool) (h : zhw x0_s = some R) : VPure Tryz.prog G0 15 [.agg (cGs x0_s)] (.tree (.lit (.bool R))) := by
 refine VPure.runR mixed Tryz.call15 Tryz.func15 rfl (by simp [Tryz.ntmps15]; kernel_rfl) ?_
 obtain ⟨KF, h, kF, kN⟩ := zaj h
 simp only [zhw] at h
 try simp only [vz, tyf, nm, seval]
 obtain rfl := kF _ h
 exact zaa Tryz.results15 rfl
def zgy (x0_s : Gs) (x1_mix : List Int) : Option (Bool) := Option.bind (zhw x0_s) (fun r1 => cond (r1) (cond (decide ((List.length x1_mix : Int) ≤ 6)) (Option.bind (zhb x0_s) (fun r2 => cond (r2) (Option.bind (zig x0_s x1_mix) (fun r3 => some r3)) (some false))) (some false)) (some false))
theorem zpj (x0_s : Gs) (x1_mix : List Int) (R : Bool) (h : zgy x0_s x1_mix = some R) : VPure Tryz.prog G0 31 [.agg (cGs x0_s), .sl (cellsL eI x1_mix) (List.length x1_mix) false] (.tree (.lit (.bool R))) := by
 refine VPure.runR mixed Tryz.call31 Tryz.func31 rfl (by simp [Tryz.ntmps31]; kernel_rfl) ?_
 obtain ⟨KF, h, kF, kN⟩ := zaj h
 simp only [zgy] at h
 obtain ⟨r4, o5, h⟩ := optI h kN
 try simp only [hs] at h
 simp only [vz, tyf, nm, seval]
 refine ktA (zom _ _ o5) ?_
 refine zac (fun tm => tm 1 = .sl (cellsL eI x1_mix) (List.length x1_mix) false ∧ tm 2 = .ptr 0 0 ∧ tm 6 = .lit (.bool r4) ∧ True) (by refine ⟨?_, ?_, ?_, trivial⟩ <;> first | (simp only [ua, nm, seval] <;> rfl) | rfl) ?_
 rintro tm ⟨e6, e7, e8, _⟩
 cases d9 : (r4)
 ·simp only [d9, hs] at h
  try simp only [vz, tyf, e6, e7, e8, d9, nm, seval]
  obtain rfl := kF _ h
  exact zaa Tryz.results31 rfl
 simp only [d9, hs] at h
 cases d10 : (decide ((List.length x1_mix : Int) ≤ 6))
 ·simp only [d10, hs] at h
  try simp only [vz, tyf, e6, e7, e8, d9, d10, nm, seval]
  obtain rfl := kF _ h
  exact zaa Tryz.results31 rfl
 simp only [d10, hs] at h
 obtain ⟨r11, o12, h⟩ := optI h kN
 try simp only [hs] at h
 simp only [vz, tyf, e6, e7, e8, d9, d10, nm, seval]
 refine ktA (zpm _ _ o12) ?_
 refine zac (fun tm => tm 1 = .sl (cellsL eI x1_mix) (List.length x1_mix) false ∧ tm 2 = .ptr 0 0 ∧ tm 12 = .lit (.bool true) ∧ tm 14 = .lit (.bool r11) ∧ True) (by refine ⟨e6, e7, ?_, ?_, trivial⟩ <;> first | (simp only [ua, e6, e7, e8, d9, d10, nm, seval] <;> rfl) | rfl) ?_
 rintro tm ⟨e13, e14, e15, e16, _⟩
 cases d17 : (r11)
 ·simp only [d17, hs] at h
  try simp only [vz, tyf, d9, d10, e13, e14, e15, e16, d17, nm, seval]
  obtain rfl := kF _ h
  exact zaa Tryz.results31 rfl
 simp only [d17, hs] at h
 obtain ⟨r18, o19, h⟩ := optI h kN
 try simp only [hs] at h
 simp only [vz, tyf, d9, d10, e13, e14, e15, e16, d17, nm, seval]
 refine ktA (zrk _ _ _ o19) ?_
 refine zac (fun tm => tm 16 = .lit (.bool true) ∧ tm 19 = .lit (.bool r18) ∧ True) (by refine ⟨?_, ?_, trivial⟩ <;> first | (simp only [ua, d9, d10, e13, e14, e15, e16, d17, nm, seval] <;> rfl) | rfl) ?_
 rintro tm ⟨e20, e21, _⟩
 try simp only [vz, tyf, d9, d10, d17, e20, e21, nm, seval]
 obtain rfl := kF _ h
 exact zaa Tryz.results31 rfl
end Go.V
end
