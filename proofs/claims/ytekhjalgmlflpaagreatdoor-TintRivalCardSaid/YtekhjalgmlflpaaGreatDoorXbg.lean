/- Part of a proof. -/
import Derived.Test.YtekhjalgmlflpaaGreatDoorXbf
set_option linter.all false
set_option maxRecDepth 4000
set_option maxHeartbeats 40000000
section
namespace Go.V
open Go Go.Proofs
def zbx  : List Gt → Int → Option (LOut (Bool) (Unit))
 | [], c3_4 => some (.go ())
 | e3 :: p3, c3_4 => Option.bind (zde e3.pg.a2 99) (fun r16 => cond (r16) (zbx p3 (c3_4 + 1)) (some (.ret false)))
def zbw  : List Gt → Int → Option (LOut (Bool) (Unit))
 | [], c2_4 => some (.go ())
 | e2 :: p2, c2_4 => Option.bind (zde e2.pg.a1 99) (fun r11 => cond (r11) (zbw p2 (c2_4 + 1)) (some (.ret false)))
def zca  : List Gt → Int → Option (LOut (Bool) (Unit))
 | [], c1_4 => some (.go ())
 | e1 :: p1, c1_4 => Option.bind (zde e1.pg.a0 99) (fun r6 => cond (r6) (zca p1 (c1_4 + 1)) (some (.ret false)))
def zdd (x0_s : Gs) : Nat → Int → Option (LOut (Bool) (Unit))
 | 0, c0_3 => some (.go ())
 | k0 + 1, c0_3 => cond (c0_3 == 0) (Option.bind (zec x0_s.Old.a0 0 99) (fun r4 => cond (r4) (Option.bind (zde x0_s.Fade.a0 9) (fun r5 => cond (r5) (cond (lenOk x0_s.Tins) (lbind (zca x0_s.Tins 0) (fun r8 => some (.ret r8)) (fun c7 => zdd x0_s k0 (c0_3 + 1)) (fun _ _ => none)) none) (some (.ret false)))) (some (.ret false)))) (cond (c0_3 == 1) (Option.bind (zec x0_s.Old.a1 0 99) (fun r9 => cond (r9) (Option.bind (zde x0_s.Fade.a1 9) (fun r10 => cond (r10) (cond (lenOk x0_s.Tins) (lbind (zbw x0_s.Tins 0) (fun r13 => some (.ret r13)) (fun c12 => zdd x0_s k0 (c0_3 + 1)) (fun _ _ => none)) none) (some (.ret false)))) (some (.ret false)))) (cond (c0_3 == 2) (Option.bind (zec x0_s.Old.a2 0 99) (fun r14 => cond (r14) (Option.bind (zde x0_s.Fade.a2 9) (fun r15 => cond (r15) (cond (lenOk x0_s.Tins) (lbind (zbx x0_s.Tins 0) (fun r18 => some (.ret r18)) (fun c17 => zdd x0_s k0 (c0_3 + 1)) (fun _ _ => none)) none) (some (.ret false)))) (some (.ret false)))) (none)))
def zgl (x0_s : Gs) : Option (Bool) := Option.bind (zde x0_s.Years 20) (fun r1 => cond (r1) (Option.bind (zjv x0_s.Off) (fun r2 => cond (r2) (Option.bind (zec (List.length x0_s.Tins : Int) 1 4) (fun r3 => cond (r3) (cond (boundOk 3) (lbind (zdd x0_s (Int.toNat (3 - 0)) 0) (fun r20 => some r20) (fun c19 => some true) (fun _ _ => none)) none) (some false))) (some false))) (some false))
theorem zoi (x0_s : Gs) (R : Bool) (h : zgl x0_s = some R) : VPure Tryz.prog G0 20 [.agg (cGs x0_s)] (.tree (.lit (.bool R))) := by
 refine VPure.runR mixed Tryz.call20 Tryz.func20 rfl (by simp [Tryz.ntmps20]; kernel_rfl) ?_
 obtain ⟨KF, h, kF, kN⟩ := zan h
 simp only [zgl] at h
 obtain ⟨r21, o22, h⟩ := optI h kN
 try simp only [hs] at h
 simp only [vz, tyf, nm, seval]
 refine ktA (zdq _ _ _ o22) ?_
 refine zab (fun tm => tm 1 = .ptr 0 0 ∧ tm 7 = .lit (.bool r21) ∧ True) (by refine ⟨?_, ?_, trivial⟩ <;> first | (simp only [ua, nm, seval] <;> rfl) | rfl) ?_
 rintro tm ⟨e23, e24, _⟩
 cases d25 : (r21)
 ·simp only [d25, hs] at h
  try simp only [vz, tyf, e23, e24, d25, nm, seval]
  obtain rfl := kF _ h
  exact zaa Tryz.results20 rfl
 simp only [d25, hs] at h
 obtain ⟨r26, o27, h⟩ := optI h kN
 try simp only [hs] at h
 simp only [vz, tyf, e23, e24, d25, nm, seval]
 refine ktA (zqz _ _ o27) ?_
 refine zab (fun tm => tm 1 = .ptr 0 0 ∧ tm 9 = .lit (.bool false) ∧ tm 12 = .lit (.bool r26) ∧ True) (by refine ⟨e23, ?_, ?_, trivial⟩ <;> first | (simp only [ua, e23, e24, d25, nm, seval] <;> rfl) | rfl) ?_
 rintro tm ⟨e28, e29, e30, _⟩
 cases d31 : (r26)
 ·simp only [d31, hs] at h
  try simp only [vz, tyf, d25, e28, e29, e30, d31, nm, seval]
  obtain rfl := kF _ h
  exact zaa Tryz.results20 rfl
 simp only [d31, hs] at h
 obtain ⟨r32, o33, h⟩ := optI h kN
 try simp only [hs] at h
 simp only [vz, tyf, d25, e28, e29, e30, d31, nm, seval]
 refine ktA (zdm _ _ _ _ o33) ?_
 refine zab (fun tm => tm 1 = .ptr 0 0 ∧ tm 15 = .lit (.bool false) ∧ tm 19 = .lit (.bool r32) ∧ True) (by refine ⟨e28, ?_, ?_, trivial⟩ <;> first | (simp only [ua, d25, e28, e29, e30, d31, nm, seval] <;> rfl) | rfl) ?_
 rintro tm ⟨e34, e35, e36, _⟩
 cases d37 : (r32)
 ·simp only [d37, hs] at h
  try simp only [vz, tyf, d25, d31, e34, e35, e36, d37, nm, seval]
  obtain rfl := kF _ h
  exact zaa Tryz.results20 rfl
 simp only [d37, hs] at h
 cases g39 : (boundOk 3)
 ·simp only [g39, hs] at h
  exact absurd h kN
 simp only [g39, hs] at h
 simp only [vz, tyf, d25, d31, e34, e35, e36, d37, g39, nm, seval]
 obtain ⟨K38, h, kR38, kG38, kB38, kN38⟩ := zbh h kN
 obtain ⟨f38, hf38, h⟩ := call2 h
 obtain ⟨I38, hI38⟩ : ∃ I : Nat → St → Prop, I = (fun m st => ∃ (p38 : Nat) (c38_3 : Int), p38 = m ∧ loOk c38_3 = true ∧ Int.toNat (3 - c38_3) = p38 ∧ st.df = [] ∧ 20 ≤ st.nx ∧ st.H 0 = some (.cells (some 28) (cGs x0_s)) ∧ st.tm 1 = .ptr 0 0 ∧ st.tm 3 = .lit (.int .i64 c38_3) ∧ K38 (f38 p38 c38_3)) := ⟨_, rfl⟩
 refine loopK mixed (by kernel_rfl) I38 (Int.toNat (3 - 0)) (by rw [hI38]; refine ⟨Int.toNat (3 - 0), 0, rfl, (by rfl), rfl, rfl, (show 20 ≤ 20 by omega), ?_, e34, ?_, h⟩ <;> first | (simp only [ua, d25, d31, e34, e35, e36, d37, nm, seval] <;> rfl) | rfl) ?_
 rintro m ⟨tm, H, nx38, df⟩ hinv
 rw [hI38] at hinv
 obtain ⟨p38, c38_3, rfl, hi38, hp38, hdf, hn38, H40, e41, e42, h⟩ := hinv
 simp only at hdf hn38 H40 e41 e42
 have n43 := zcw (m := 20) (b := nx38) (by omega)
 subst hdf hf38
 cases p38 with
 | zero =>
  have d44 : (decide (c38_3 < 3)) = false := zadu hp38
  simp only [zdd, hs, reduceCtorEq] at h
  replace h := kG38 _ h
  try dsimp only at h
  try simp only [hs] at h
  try simp only [vz, tyf, d25, d31, d37, g39, n43, e41, e42, H40, d44, nm, seval]
  obtain rfl := kF _ h
  exact zaa Tryz.results20 rfl
 | succ p38 =>
  have d45 : (decide (c38_3 < 3)) = true := zash hp38
  have w46 := zamd hi38 hp38 g39
  simp only [zdd, hs, reduceCtorEq] at h
  cases d47 : (c38_3 == 0)
  ·simp only [d47, hs] at h
   have b48 := And.intro d25 (And.intro d31 (And.intro d37 (And.intro g39 (And.intro n43 (And.intro H40 (And.intro d45 (And.intro w46 d47)))))))
   cases d49 : (c38_3 == 1)
   ·simp only [d49, hs] at h
    cases d50 : (c38_3 == 2)
    ·simp only [d50, hs] at h
     exact absurd h kN38
    simp only [d50, hs] at h
    obtain ⟨r51, o52, h⟩ := optI h kN38
    try simp only [hs] at h
    simp only [vz, tyf, b48, e41, e42, d49, d50, (zlk d50), nm, seval]
    refine ktA (zdm _ _ _ _ o52) ?_
    refine zab (fun tm => tm 1 = .ptr 0 0 ∧ tm 3 = .lit (.int .i64 c38_3) ∧ tm 30 = .lit (.bool r51) ∧ True) (by refine ⟨e41, e42, ?_, trivial⟩ <;> first | (simp only [ua, b48, e41, e42, d49, d50, nm, seval] <;> rfl) | rfl) ?_
    rintro tm ⟨e53, e54, e55, _⟩
    cases d56 : (r51)
    ·simp only [d56, hs] at h
     try simp only [vz, tyf, b48, d49, d50, (zlk d50), e53, e54, e55, d56, nm, seval]
     replace h := kR38 _ h
     try dsimp only at h
     obtain rfl := kF _ h
     exact zaa Tryz.results20 rfl
    simp only [d56, hs] at h
    obtain ⟨r57, o58, h⟩ := optI h kN38
    try simp only [hs] at h
    simp only [vz, tyf, b48, d49, d50, (zlk d50), e53, e54, e55, d56, (zlt d50), nm, seval]
    refine ktA (zdq _ _ _ o58) ?_
    refine zab (fun tm => tm 1 = .ptr 0 0 ∧ tm 3 = .lit (.int .i64 c38_3) ∧ tm 32 = .lit (.bool false) ∧ tm 37 = .lit (.bool r57) ∧ True) (by refine ⟨e53, e54, ?_, ?_, trivial⟩ <;> first | (simp only [ua, b48, d49, d50, e53, e54, e55, d56, nm, seval] <;> rfl) | rfl) ?_
    rintro tm ⟨e59, e60, e61, e62, _⟩
    cases d63 : (r57)
    ·simp only [d63, hs] at h
     try simp only [vz, tyf, b48, d49, d50, (zlk d50), d56, (zlt d50), e59, e60, e61, e62, d63, nm, seval]
     replace h := kR38 _ h
     try dsimp only at h
     obtain rfl := kF _ h
     exact zaa Tryz.results20 rfl
    simp only [d63, hs] at h
    cases g65 : (lenOk x0_s.Tins)
    ·simp only [g65, hs] at h
     exact absurd h kN38
    simp only [g65, hs] at h
    simp only [vz, tyf, b48, d49, d50, (zlk d50), d56, (zlt d50), e59, e60, e61, e62, d63, g65, nm, seval]
    obtain ⟨K64, h, kR64, kG64, kB64, kN64⟩ := zbh h kN38
    obtain ⟨f64, hf64, h⟩ := call2 h
    obtain ⟨I64, hI64⟩ : ∃ I : Nat → St → Prop, I = (fun m st => ∃ (p64 : List Gt) (c64_4 : Int), m = List.length p64 ∧ 0 ≤ c64_4 ∧ List.drop (Int.toNat c64_4) x0_s.Tins = p64 ∧ st.df = [] ∧ nx38 + 17 ≤ st.nx ∧ st.H 0 = some (.cells (some 28) (cGs x0_s)) ∧ st.tm 1 = .ptr 0 0 ∧ st.tm 3 = .lit (.int .i64 c38_3) ∧ st.tm 4 = .lit (.int .i64 c64_4) ∧ K64 (f64 p64 c64_4)) := ⟨_, rfl⟩
    refine loopK mixed (by kernel_rfl) I64 (List.length x0_s.Tins) (by rw [hI64]; refine ⟨x0_s.Tins, 0, rfl, Int.le_refl _, rfl, rfl, (show nx38 + 17 ≤ nx38 + 17 by omega), ?_, e59, e60, ?_, h⟩ <;> first | (simp only [ua, b48, d49, d50, d56, e59, e60, e61, e62, d63, nm, seval] <;> rfl) | rfl) ?_
    rintro m ⟨tm, H, nx64, df⟩ hinv
    rw [hI64] at hinv
    obtain ⟨p64, c64_4, rfl, hi64, hp64, hdf, hn64, H66, e67, e68, e69, h⟩ := hinv
    simp only at hdf hn64 H66 e67 e68 e69
    have n70 := zcw (m := 20) (b := nx64) (by omega)
    have n71 := zpw (a := nx38) (m := 17) (b := nx64) (by omega)
    subst hdf hf64
    cases p64 with
    | nil =>
     have d72 : (decide (c64_4 < (List.length x0_s.Tins : Int))) = false := zbc hi64 hp64
     simp only [zca, zbw, zbx, hs, reduceCtorEq] at h
     replace h := kG64 _ h
     try dsimp only at h
     try simp only [hs] at h
     simp only [vz, tyf, b48, d49, d50, (zlk d50), d56, (zlt d50), d63, g65, n70, n71, e67, e68, e69, H66, d72, nm, seval]
     exact ⟨p38, Nat.lt_succ_self _, by rw [hI38]; refine ⟨p38, c38_3 + 1, rfl, zalo hi38, zux hp38, rfl, (show 20 ≤ nx64 + 8 by omega), ?_, e67, ?_, h⟩ <;> first | (simp only [ua, b48, d49, d50, d56, d63, n70, n71, e67, e68, e69, H66, d72, nm, seval] <;> rfl) | rfl⟩
    | cons e64 p64 =>
     have d73 : (decide (c64_4 < (List.length x0_s.Tins : Int))) = true := zci hi64 hp64
     have o75 := zax hi64 hp64
     have w74 := zdh hi64 hp64 g65
     simp only [zca, zbw, zbx, hs, reduceCtorEq] at h
     obtain ⟨r76, o77, h⟩ := optI h kN64
     try simp only [hs] at h
     simp only [vz, tyf, b48, d49, d50, (zlk d50), d56, (zlt d50), d63, g65, n70, n71, e67, e68, e69, H66, d73, (ix26 o75), w74, (zadn d50), nm, seval]
     refine ktA (zdq _ _ _ o77) ?_
     refine zab (fun tm => tm 1 = .ptr 0 0 ∧ tm 3 = .lit (.int .i64 c38_3) ∧ tm 4 = .lit (.int .i64 c64_4) ∧ tm 55 = .lit (.bool r76) ∧ True) (by refine ⟨e67, e68, e69, ?_, trivial⟩ <;> first | (simp only [ua, b48, d49, d50, d56, d63, n70, n71, e67, e68, e69, H66, d73, w74, nm, seval] <;> rfl) | rfl) ?_
     rintro tm ⟨e78, e79, e80, e81, _⟩
     have b82 := And.intro b48 (And.intro d49 (And.intro d50 (And.intro d56 (And.intro d63 (And.intro g65 (And.intro n70 (And.intro n71 (And.intro H66 (And.intro d73 w74)))))))))
     cases d83 : (r76)
     ·simp only [d83, hs] at h
      try simp only [vz, tyf, b82, (zlk d50), (zlt d50), (ix26 o75), (zadn d50), e78, e79, e80, e81, d83, nm, seval]
      replace h := kR64 _ h
      try dsimp only at h
      replace h := kR38 _ h
      try dsimp only at h
      obtain rfl := kF _ h
      exact zaa Tryz.results20 rfl
     simp only [d83, hs] at h
     simp only [vz, tyf, b82, (zlk d50), (zlt d50), (ix26 o75), (zadn d50), e78, e79, e80, e81, d83, nm, seval]
     exact ⟨List.length p64, Nat.lt_succ_self _, by rw [hI64]; refine ⟨p64, c64_4 + 1, rfl, Int.le_trans hi64 (Int.le_add_one (Int.le_refl _)), zbr hi64 hp64, rfl, (show nx38 + 17 ≤ nx64 + 18 by omega), ?_, e78, e79, ?_, h⟩ <;> first | (simp only [ua, b82, e78, e79, e80, e81, d83, nm, seval] <;> rfl) | rfl⟩
   simp only [d49, hs] at h
   obtain ⟨r84, o85, h⟩ := optI h kN38
   try simp only [hs] at h
   simp only [vz, tyf, b48, e41, e42, d49, (zli d49), nm, seval]
   refine ktA (zdm _ _ _ _ o85) ?_
   refine zab (fun tm => tm 1 = .ptr 0 0 ∧ tm 3 = .lit (.int .i64 c38_3) ∧ tm 30 = .lit (.bool r84) ∧ True) (by refine ⟨e41, e42, ?_, trivial⟩ <;> first | (simp only [ua, b48, e41, e42, d49, nm, seval] <;> rfl) | rfl) ?_
   rintro tm ⟨e86, e87, e88, _⟩
   cases d89 : (r84)
   ·simp only [d89, hs] at h
    try simp only [vz, tyf, b48, d49, (zli d49), e86, e87, e88, d89, nm, seval]
    replace h := kR38 _ h
    try dsimp only at h
    obtain rfl := kF _ h
    exact zaa Tryz.results20 rfl
   simp only [d89, hs] at h
   obtain ⟨r90, o91, h⟩ := optI h kN38
   try simp only [hs] at h
   simp only [vz, tyf, b48, d49, (zli d49), e86, e87, e88, d89, (zlm d49), nm, seval]
   refine ktA (zdq _ _ _ o91) ?_
   refine zab (fun tm => tm 1 = .ptr 0 0 ∧ tm 3 = .lit (.int .i64 c38_3) ∧ tm 32 = .lit (.bool false) ∧ tm 37 = .lit (.bool r90) ∧ True) (by refine ⟨e86, e87, ?_, ?_, trivial⟩ <;> first | (simp only [ua, b48, d49, e86, e87, e88, d89, nm, seval] <;> rfl) | rfl) ?_
   rintro tm ⟨e92, e93, e94, e95, _⟩
   cases d96 : (r90)
   ·simp only [d96, hs] at h
    try simp only [vz, tyf, b48, d49, (zli d49), d89, (zlm d49), e92, e93, e94, e95, d96, nm, seval]
    replace h := kR38 _ h
    try dsimp only at h
    obtain rfl := kF _ h
    exact zaa Tryz.results20 rfl
   simp only [d96, hs] at h
   cases g98 : (lenOk x0_s.Tins)
   ·simp only [g98, hs] at h
    exact absurd h kN38
   simp only [g98, hs] at h
   simp only [vz, tyf, b48, d49, (zli d49), d89, (zlm d49), e92, e93, e94, e95, d96, g98, nm, seval]
   obtain ⟨K97, h, kR97, kG97, kB97, kN97⟩ := zbh h kN38
   obtain ⟨f97, hf97, h⟩ := call2 h
   obtain ⟨I97, hI97⟩ : ∃ I : Nat → St → Prop, I = (fun m st => ∃ (p97 : List Gt) (c97_4 : Int), m = List.length p97 ∧ 0 ≤ c97_4 ∧ List.drop (Int.toNat c97_4) x0_s.Tins = p97 ∧ st.df = [] ∧ nx38 + 17 ≤ st.nx ∧ st.H 0 = some (.cells (some 28) (cGs x0_s)) ∧ st.tm 1 = .ptr 0 0 ∧ st.tm 3 = .lit (.int .i64 c38_3) ∧ st.tm 4 = .lit (.int .i64 c97_4) ∧ K97 (f97 p97 c97_4)) := ⟨_, rfl⟩
   refine loopK mixed (by kernel_rfl) I97 (List.length x0_s.Tins) (by rw [hI97]; refine ⟨x0_s.Tins, 0, rfl, Int.le_refl _, rfl, rfl, (show nx38 + 17 ≤ nx38 + 17 by omega), ?_, e92, e93, ?_, h⟩ <;> first | (simp only [ua, b48, d49, d89, e92, e93, e94, e95, d96, nm, seval] <;> rfl) | rfl) ?_
   rintro m ⟨tm, H, nx97, df⟩ hinv
   rw [hI97] at hinv
   obtain ⟨p97, c97_4, rfl, hi97, hp97, hdf, hn97, H99, e100, e101, e102, h⟩ := hinv
   simp only at hdf hn97 H99 e100 e101 e102
   have n103 := zcw (m := 20) (b := nx97) (by omega)
   have n104 := zpw (a := nx38) (m := 17) (b := nx97) (by omega)
   subst hdf hf97
   cases p97 with
   | nil =>
    have d105 : (decide (c97_4 < (List.length x0_s.Tins : Int))) = false := zbc hi97 hp97
    simp only [zca, zbw, zbx, hs, reduceCtorEq] at h
    replace h := kG97 _ h
    try dsimp only at h
    try simp only [hs] at h
    simp only [vz, tyf, b48, d49, (zli d49), d89, (zlm d49), d96, g98, n103, n104, e100, e101, e102, H99, d105, nm, seval]
    exact ⟨p38, Nat.lt_succ_self _, by rw [hI38]; refine ⟨p38, c38_3 + 1, rfl, zalo hi38, zux hp38, rfl, (show 20 ≤ nx97 + 8 by omega), ?_, e100, ?_, h⟩ <;> first | (simp only [ua, b48, d49, d89, d96, n103, n104, e100, e101, e102, H99, d105, nm, seval] <;> rfl) | rfl⟩
   | cons e97 p97 =>
    have d106 : (decide (c97_4 < (List.length x0_s.Tins : Int))) = true := zci hi97 hp97
    have o108 := zax hi97 hp97
    have w107 := zdh hi97 hp97 g98
    simp only [zca, zbw, zbx, hs, reduceCtorEq] at h
    obtain ⟨r109, o110, h⟩ := optI h kN97
    try simp only [hs] at h
    simp only [vz, tyf, b48, d49, (zli d49), d89, (zlm d49), d96, g98, n103, n104, e100, e101, e102, H99, d106, (ix26 o108), w107, (zabt d49), nm, seval]
    refine ktA (zdq _ _ _ o110) ?_
    refine zab (fun tm => tm 1 = .ptr 0 0 ∧ tm 3 = .lit (.int .i64 c38_3) ∧ tm 4 = .lit (.int .i64 c97_4) ∧ tm 55 = .lit (.bool r109) ∧ True) (by refine ⟨e100, e101, e102, ?_, trivial⟩ <;> first | (simp only [ua, b48, d49, d89, d96, n103, n104, e100, e101, e102, H99, d106, w107, nm, seval] <;> rfl) | rfl) ?_
    rintro tm ⟨e111, e112, e113, e114, _⟩
    have b115 := And.intro b48 (And.intro d49 (And.intro d89 (And.intro d96 (And.intro g98 (And.intro n103 (And.intro n104 (And.intro H99 (And.intro d106 w107))))))))
    cases d116 : (r109)
    ·simp only [d116, hs] at h
     try simp only [vz, tyf, b115, (zli d49), (zlm d49), (ix26 o108), (zabt d49), e111, e112, e113, e114, d116, nm, seval]
     replace h := kR97 _ h
     try dsimp only at h
     replace h := kR38 _ h
     try dsimp only at h
     obtain rfl := kF _ h
     exact zaa Tryz.results20 rfl
    simp only [d116, hs] at h
    simp only [vz, tyf, b115, (zli d49), (zlm d49), (ix26 o108), (zabt d49), e111, e112, e113, e114, d116, nm, seval]
    exact ⟨List.length p97, Nat.lt_succ_self _, by rw [hI97]; refine ⟨p97, c97_4 + 1, rfl, Int.le_trans hi97 (Int.le_add_one (Int.le_refl _)), zbr hi97 hp97, rfl, (show nx38 + 17 ≤ nx97 + 18 by omega), ?_, e111, e112, ?_, h⟩ <;> first | (simp only [ua, b115, e111, e112, e113, e114, d116, nm, seval] <;> rfl) | rfl⟩
  simp only [d47, hs] at h
  have b117 := And.intro d25 (And.intro d31 (And.intro d37 (And.intro g39 (And.intro n43 (And.intro H40 (And.intro d45 (And.intro w46 d47)))))))
  obtain ⟨r118, o119, h⟩ := optI h kN38
  try simp only [hs] at h
  simp only [vz, tyf, b117, e41, e42, (zlw d47), nm, seval]
  refine ktA (zdm _ _ _ _ o119) ?_
  refine zab (fun tm => tm 1 = .ptr 0 0 ∧ tm 3 = .lit (.int .i64 c38_3) ∧ tm 30 = .lit (.bool r118) ∧ True) (by refine ⟨e41, e42, ?_, trivial⟩ <;> first | (simp only [ua, b117, e41, e42, nm, seval] <;> rfl) | rfl) ?_
  rintro tm ⟨e120, e121, e122, _⟩
  cases d123 : (r118)
  ·simp only [d123, hs] at h
   try simp only [vz, tyf, b117, (zlw d47), e120, e121, e122, d123, nm, seval]
   replace h := kR38 _ h
   try dsimp only at h
   obtain rfl := kF _ h
   exact zaa Tryz.results20 rfl
  simp only [d123, hs] at h
  obtain ⟨r124, o125, h⟩ := optI h kN38
  try simp only [hs] at h
  simp only [vz, tyf, b117, (zlw d47), e120, e121, e122, d123, (zlq d47), nm, seval]
  refine ktA (zdq _ _ _ o125) ?_
  refine zab (fun tm => tm 1 = .ptr 0 0 ∧ tm 3 = .lit (.int .i64 c38_3) ∧ tm 32 = .lit (.bool false) ∧ tm 37 = .lit (.bool r124) ∧ True) (by refine ⟨e120, e121, ?_, ?_, trivial⟩ <;> first | (simp only [ua, b117, e120, e121, e122, d123, nm, seval] <;> rfl) | rfl) ?_
  rintro tm ⟨e126, e127, e128, e129, _⟩
  cases d130 : (r124)
  ·simp only [d130, hs] at h
   try simp only [vz, tyf, b117, (zlw d47), d123, (zlq d47), e126, e127, e128, e129, d130, nm, seval]
   replace h := kR38 _ h
   try dsimp only at h
   obtain rfl := kF _ h
   exact zaa Tryz.results20 rfl
  simp only [d130, hs] at h
  cases g132 : (lenOk x0_s.Tins)
  ·simp only [g132, hs] at h
   exact absurd h kN38
  simp only [g132, hs] at h
  simp only [vz, tyf, b117, (zlw d47), d123, (zlq d47), e126, e127, e128, e129, d130, g132, nm, seval]
  obtain ⟨K131, h, kR131, kG131, kB131, kN131⟩ := zbh h kN38
  obtain ⟨f131, hf131, h⟩ := call2 h
  obtain ⟨I131, hI131⟩ : ∃ I : Nat → St → Prop, I = (fun m st => ∃ (p131 : List Gt) (c131_4 : Int), m = List.length p131 ∧ 0 ≤ c131_4 ∧ List.drop (Int.toNat c131_4) x0_s.Tins = p131 ∧ st.df = [] ∧ nx38 + 17 ≤ st.nx ∧ st.H 0 = some (.cells (some 28) (cGs x0_s)) ∧ st.tm 1 = .ptr 0 0 ∧ st.tm 3 = .lit (.int .i64 c38_3) ∧ st.tm 4 = .lit (.int .i64 c131_4) ∧ K131 (f131 p131 c131_4)) := ⟨_, rfl⟩
  refine loopK mixed (by kernel_rfl) I131 (List.length x0_s.Tins) (by rw [hI131]; refine ⟨x0_s.Tins, 0, rfl, Int.le_refl _, rfl, rfl, (show nx38 + 17 ≤ nx38 + 17 by omega), ?_, e126, e127, ?_, h⟩ <;> first | (simp only [ua, b117, d123, e126, e127, e128, e129, d130, nm, seval] <;> rfl) | rfl) ?_
  rintro m ⟨tm, H, nx131, df⟩ hinv
  rw [hI131] at hinv
  obtain ⟨p131, c131_4, rfl, hi131, hp131, hdf, hn131, H133, e134, e135, e136, h⟩ := hinv
  simp only at hdf hn131 H133 e134 e135 e136
  have n137 := zcw (m := 20) (b := nx131) (by omega)
  have n138 := zpw (a := nx38) (m := 17) (b := nx131) (by omega)
  subst hdf hf131
  cases p131 with
  | nil =>
   have d139 : (decide (c131_4 < (List.length x0_s.Tins : Int))) = false := zbc hi131 hp131
   simp only [zca, zbw, zbx, hs, reduceCtorEq] at h
   replace h := kG131 _ h
   try dsimp only at h
   try simp only [hs] at h
   simp only [vz, tyf, b117, (zlw d47), d123, (zlq d47), d130, g132, n137, n138, e134, e135, e136, H133, d139, nm, seval]
   exact ⟨p38, Nat.lt_succ_self _, by rw [hI38]; refine ⟨p38, c38_3 + 1, rfl, zalo hi38, zux hp38, rfl, (show 20 ≤ nx131 + 8 by omega), ?_, e134, ?_, h⟩ <;> first | (simp only [ua, b117, d123, d130, n137, n138, e134, e135, e136, H133, d139, nm, seval] <;> rfl) | rfl⟩
  | cons e131 p131 =>
   have d140 : (decide (c131_4 < (List.length x0_s.Tins : Int))) = true := zci hi131 hp131
   have o142 := zax hi131 hp131
   have w141 := zdh hi131 hp131 g132
   simp only [zca, zbw, zbx, hs, reduceCtorEq] at h
   obtain ⟨r143, o144, h⟩ := optI h kN131
   try simp only [hs] at h
   simp only [vz, tyf, b117, (zlw d47), d123, (zlq d47), d130, g132, n137, n138, e134, e135, e136, H133, d140, (ix26 o142), w141, (zaar d47), nm, seval]
   refine ktA (zdq _ _ _ o144) ?_
   refine zab (fun tm => tm 1 = .ptr 0 0 ∧ tm 3 = .lit (.int .i64 c38_3) ∧ tm 4 = .lit (.int .i64 c131_4) ∧ tm 55 = .lit (.bool r143) ∧ True) (by refine ⟨e134, e135, e136, ?_, trivial⟩ <;> first | (simp only [ua, b117, d123, d130, n137, n138, e134, e135, e136, H133, d140, w141, nm, seval] <;> rfl) | rfl) ?_
   rintro tm ⟨e145, e146, e147, e148, _⟩
   have b149 := And.intro b117 (And.intro d123 (And.intro d130 (And.intro g132 (And.intro n137 (And.intro n138 (And.intro H133 (And.intro d140 w141)))))))
   cases d150 : (r143)
   ·simp only [d150, hs] at h
    try simp only [vz, tyf, b149, (zlw d47), (zlq d47), (ix26 o142), (zaar d47), e145, e146, e147, e148, d150, nm, seval]
    replace h := kR131 _ h
    try dsimp only at h
    replace h := kR38 _ h
    try dsimp only at h
    obtain rfl := kF _ h
    exact zaa Tryz.results20 rfl
   simp only [d150, hs] at h
   simp only [vz, tyf, b149, (zlw d47), (zlq d47), (ix26 o142), (zaar d47), e145, e146, e147, e148, d150, nm, seval]
   exact ⟨List.length p131, Nat.lt_succ_self _, by rw [hI131]; refine ⟨p131, c131_4 + 1, rfl, Int.le_trans hi131 (Int.le_add_one (Int.le_refl _)), zbr hi131 hp131, rfl, (show nx38 + 17 ≤ nx131 + 18 by omega), ?_, e145, e146, ?_, h⟩ <;> first | (simp only [ua, b149, e145, e146, e147, e148, d150, nm, seval] <;> rfl) | rfl⟩
def zdf  : List Int → Int → Int → Option (LOut (Int) (Int))
 | [], c0_4, c0_3 => some (.go c0_3)
 | e0 :: p0, c0_4, c0_3 => zdf p0 (c0_4 + 1) (IntKind.i64.wrap (c0_3 + e0))
def zep (x0_mix : List Int) : Option (Int) := cond (lenOk x0_mix) (lbind (zdf x0_mix 0 0) (fun r2 => some r2) (fun c1 => some c1) (fun _ _ => none)) none
theorem zer (x0_mix : List Int) (R : Int) (h : zep x0_mix = some R) : VPure Tryz.prog G0 35 [.sl (cellsL eI x0_mix) (List.length x0_mix) false] (.tree (.lit (.int .i64 R))) := by
 refine VPure.runR mixed Tryz.call35 Tryz.func35 rfl (by simp [Tryz.ntmps35]; kernel_rfl) ?_
 obtain ⟨KF, h, kF, kN⟩ := zan h
 simp only [zep] at h
 cases g4 : (lenOk x0_mix)
 ·simp only [g4, hs] at h
  exact absurd h kN
 simp only [g4, hs] at h
 simp only [vz, tyf, g4, nm, seval]
 obtain ⟨K3, h, kR3, kG3, kB3, kN3⟩ := zbh h kN
 obtain ⟨f3, hf3, h⟩ := call3 h
 obtain ⟨I3, hI3⟩ : ∃ I : Nat → St → Prop, I = (fun m st => ∃ (p3 : List Int) (c3_4 : Int) (c3_3 : Int), m = List.length p3 ∧ 0 ≤ c3_4 ∧ List.drop (Int.toNat c3_4) x0_mix = p3 ∧ st.df = [] ∧ 3 ≤ st.nx ∧ st.tm 0 = .sl (cellsL eI x0_mix) (List.length x0_mix) false ∧ st.tm 3 = .lit (.int .i64 c3_3) ∧ st.tm 4 = .lit (.int .i64 c3_4) ∧ K3 (f3 p3 c3_4 c3_3)) := ⟨_, rfl⟩
 refine loopK mixed (by kernel_rfl) I3 (List.length x0_mix) (by rw [hI3]; refine ⟨x0_mix, 0, 0, rfl, Int.le_refl _, rfl, rfl, (show 3 ≤ 3 by omega), ?_, ?_, ?_, h⟩ <;> first | (simp only [ua, nm, seval] <;> rfl) | rfl) ?_
 rintro m ⟨tm, H, nx3, df⟩ hinv
 rw [hI3] at hinv
 obtain ⟨p3, c3_4, c3_3, rfl, hi3, hp3, hdf, hn3, e5, e6, e7, h⟩ := hinv
 simp only at hdf hn3 e5 e6 e7
 have n8 := zcw (m := 3) (b := nx3) (by omega)
 subst hdf hf3
 cases p3 with
 | nil =>
  have d9 : (decide (c3_4 < (List.length x0_mix : Int))) = false := zbc hi3 hp3
  simp only [zdf, hs, reduceCtorEq] at h
  replace h := kG3 _ h
  try dsimp only at h
  try simp only [hs] at h
  try simp only [vz, tyf, g4, n8, e5, e6, e7, d9, nm, seval]
  refine zaw (x := (.lit (.int .i64 c3_3))) (by first | (simp only [Tryz.results35, resV, resL, resV1, zba, zbz, uw, cr, tyf, g4, n8, d9, nm, seval] <;> rfl) | rfl) ?_
  obtain rfl := kF _ h
  refine zbb ?_ ?_
  ·simp only [tre, tytre, Bool.and_self]
  ·first | (simp only [outV, uw, zak, cr, tyf, nrm, tynrm, g4, n8, e5, e6, e7, d9, nm, seval] <;> rfl) | rfl
 | cons e3 p3 =>
  have d10 : (decide (c3_4 < (List.length x0_mix : Int))) = true := zci hi3 hp3
  have o12 := zax hi3 hp3
  have w11 := zdh hi3 hp3 g4
  simp only [zdf, hs, reduceCtorEq] at h
  simp only [vz, tyf, g4, n8, e5, e6, e7, d10, (ix29 o12), w11, nm, seval]
  exact ⟨List.length p3, Nat.lt_succ_self _, by rw [hI3]; refine ⟨p3, c3_4 + 1, IntKind.i64.wrap (c3_3 + e3), rfl, Int.le_trans hi3 (Int.le_add_one (Int.le_refl _)), zbr hi3 hp3, rfl, (show 3 ≤ nx3 + 14 by omega), e5, ?_, ?_, h⟩ <;> first | (simp only [ua, n8, e5, e6, e7, d10, w11, nm, seval] <;> rfl) | rfl⟩
def zeu  : List Int → Int → Option (LOut (Bool) (Unit))
 | [], c0_5 => some (.go ())
 | e0 :: p0, c0_5 => Option.bind (zec e0 0 8) (fun r1 => cond (r1) (zeu p0 (c0_5 + 1)) (some (.ret false)))
def zbd (x0_s : Gs) (x1_mix : List Int) : Option (Bool) := cond (lenOk x1_mix) (lbind (zeu x1_mix 0) (fun r5 => some r5) (fun c2 => cond ((List.length x1_mix : Int) == (List.length x0_s.Tins : Int)) (Option.bind (zep x1_mix) (fun r3 => Option.bind (zec r3 1 8) (fun r4 => some r4))) (some false)) (fun _ _ => none)) none
theorem zau (x0_s : Gs) (x1_mix : List Int) (R : Bool) (h : zbd x0_s x1_mix = some R) : VPure Tryz.prog G0 22 [.agg (cGs x0_s), .sl (cellsL eI x1_mix) (List.length x1_mix) false] (.tree (.lit (.bool R))) := by
 refine VPure.runR mixed Tryz.call22 Tryz.func22 rfl (by simp [Tryz.ntmps22]; kernel_rfl) ?_
 obtain ⟨KF, h, kF, kN⟩ := zan h
 simp only [zbd] at h
 cases g7 : (lenOk x1_mix)
 ·simp only [g7, hs] at h
  exact absurd h kN
 simp only [g7, hs] at h
 simp only [vz, tyf, g7, nm, seval]
 obtain ⟨K6, h, kR6, kG6, kB6, kN6⟩ := zbh h kN
 obtain ⟨f6, hf6, h⟩ := call2 h
 obtain ⟨I6, hI6⟩ : ∃ I : Nat → St → Prop, I = (fun m st => ∃ (p6 : List Int) (c6_5 : Int), m = List.length p6 ∧ 0 ≤ c6_5 ∧ List.drop (Int.toNat c6_5) x1_mix = p6 ∧ st.df = [] ∧ 3 ≤ st.nx ∧ st.H 0 = some (.cells (some 28) (cGs x0_s)) ∧ st.tm 1 = .sl (cellsL eI x1_mix) (List.length x1_mix) false ∧ st.tm 2 = .ptr 0 0 ∧ st.tm 5 = .lit (.int .i64 c6_5) ∧ K6 (f6 p6 c6_5)) := ⟨_, rfl⟩
 refine loopK mixed (by kernel_rfl) I6 (List.length x1_mix) (by rw [hI6]; refine ⟨x1_mix, 0, rfl, Int.le_refl _, rfl, rfl, (show 3 ≤ 3 by omega), ?_, ?_, ?_, ?_, h⟩ <;> first | (simp only [ua, nm, seval] <;> rfl) | rfl) ?_
 rintro m ⟨tm, H, nx6, df⟩ hinv
 rw [hI6] at hinv
 obtain ⟨p6, c6_5, rfl, hi6, hp6, hdf, hn6, H8, e9, e10, e11, h⟩ := hinv
 simp only at hdf hn6 H8 e9 e10 e11
 have n12 := zcw (m := 3) (b := nx6) (by omega)
 subst hdf hf6
 cases p6 with
 | nil =>
  have d13 : (decide (c6_5 < (List.length x1_mix : Int))) = false := zbc hi6 hp6
  simp only [zeu, hs, reduceCtorEq] at h
  replace h := kG6 _ h
  try dsimp only at h
  try simp only [hs] at h
  cases d14 : ((List.length x1_mix : Int) == (List.length x0_s.Tins : Int))
  ·simp only [d14, hs] at h
   try simp only [vz, tyf, g7, n12, e9, e10, e11, H8, d13, d14, nm, seval]
   obtain rfl := kF _ h
   exact zaa Tryz.results22 rfl
  simp only [d14, hs] at h
  obtain ⟨r15, o16, h⟩ := optI h kN
  try simp only [hs] at h
  simp only [vz, tyf, g7, n12, e9, e10, e11, H8, d13, d14, nm, seval]
  refine ktA (zer _ _ o16) ?_
  refine zab (fun tm => tm 24 = .lit (.bool true) ∧ tm 26 = .lit (.int .i64 r15) ∧ True) (by refine ⟨?_, ?_, trivial⟩ <;> first | (simp only [ua, n12, e9, e10, e11, H8, d13, d14, nm, seval] <;> rfl) | rfl) ?_
  rintro tm ⟨e17, e18, _⟩
  obtain ⟨r19, o20, h⟩ := optI h kN
  try simp only [hs] at h
  simp only [vz, tyf, g7, n12, H8, d13, d14, e17, e18, nm, seval]
  refine ktA (zdm _ _ _ _ o20) ?_
  refine zab (fun tm => tm 24 = .lit (.bool true) ∧ tm 27 = .lit (.bool r19) ∧ True) (by refine ⟨e17, ?_, trivial⟩ <;> first | (simp only [ua, n12, H8, d13, d14, e17, e18, nm, seval] <;> rfl) | rfl) ?_
  rintro tm ⟨e21, e22, _⟩
  try simp only [vz, tyf, g7, n12, H8, d13, d14, e21, e22, nm, seval]
  obtain rfl := kF _ h
  exact zaa Tryz.results22 rfl
 | cons e6 p6 =>
  have d23 : (decide (c6_5 < (List.length x1_mix : Int))) = true := zci hi6 hp6
  have o25 := zax hi6 hp6
  have w24 := zdh hi6 hp6 g7
  simp only [zeu, hs, reduceCtorEq] at h
  obtain ⟨r26, o27, h⟩ := optI h kN6
  try simp only [hs] at h
  simp only [vz, tyf, g7, n12, e9, e10, e11, H8, d23, (ix29 o25), w24, nm, seval]
  refine ktA (zdm _ _ _ _ o27) ?_
  refine zab (fun tm => tm 1 = .sl (cellsL eI x1_mix) (List.length x1_mix) false ∧ tm 2 = .ptr 0 0 ∧ tm 5 = .lit (.int .i64 c6_5) ∧ tm 16 = .lit (.bool r26) ∧ True) (by refine ⟨e9, e10, e11, ?_, trivial⟩ <;> first | (simp only [ua, n12, e9, e10, e11, H8, d23, w24, nm, seval] <;> rfl) | rfl) ?_
  rintro tm ⟨e28, e29, e30, e31, _⟩
  cases d32 : (r26)
  ·simp only [d32, hs] at h
   try simp only [vz, tyf, g7, n12, H8, d23, (ix29 o25), w24, e28, e29, e30, e31, d32, nm, seval]
   replace h := kR6 _ h
   try dsimp only at h
   obtain rfl := kF _ h
   exact zaa Tryz.results22 rfl
  simp only [d32, hs] at h
  simp only [vz, tyf, g7, n12, H8, d23, (ix29 o25), w24, e28, e29, e30, e31, d32, nm, seval]
  exact ⟨List.length p6, Nat.lt_succ_self _, by rw [hI6]; refine ⟨p6, c6_5 + 1, rfl, Int.le_trans hi6 (Int.le_add_one (Int.le_refl _)), zbr hi6 hp6, rfl, (show 3 ≤ nx6 + 13 by omega), ?_, e28, e29, ?_, h⟩ <;> first | (simp only [ua, n12, H8, d23, w24, e28, e29, e30, e31, d32, nm, seval] <;> rfl) | rfl⟩

end Go.V
end
section
namespace Go.V
open Go

end Go.V
end
section
namespace Go.V
open Go Go.Proofs




def zhr (x0_s : Gs) : Option (Bool) := some (decide ((List.length x0_s.Tins : Int) ≤ 6))
theorem zno (x0_s : Gs) (R : Bool) (h : zhr x0_s = some R) : VPure Tryz.prog G0 15 [.agg (cGs x0_s)] (.tree (.lit (.bool R))) := by
 refine VPure.runR mixed Tryz.call15 Tryz.func15 rfl (by simp [Tryz.ntmps15]; kernel_rfl) ?_
 obtain ⟨KF, h, kF, kN⟩ := zan h
 simp only [zhr] at h
 try simp only [vz, tyf, nm, seval]
 obtain rfl := kF _ h
 exact zaa Tryz.results15 rfl
def zgk (x0_s : Gs) (x1_mix : List Int) : Option (Bool) := Option.bind (zhr x0_s) (fun r1 => cond (r1) (cond (decide ((List.length x1_mix : Int) ≤ 6)) (Option.bind (zgl x0_s) (fun r2 => cond (r2) (Option.bind (zbd x0_s x1_mix) (fun r3 => some r3)) (some false))) (some false)) (some false))
theorem znv (x0_s : Gs) (x1_mix : List Int) (R : Bool) (h : zgk x0_s x1_mix = some R) : VPure Tryz.prog G0 31 [.agg (cGs x0_s), .sl (cellsL eI x1_mix) (List.length x1_mix) false] (.tree (.lit (.bool R))) := by
 refine VPure.runR mixed Tryz.call31 Tryz.func31 rfl (by simp [Tryz.ntmps31]; kernel_rfl) ?_
 obtain ⟨KF, h, kF, kN⟩ := zan h
 simp only [zgk] at h
 obtain ⟨r4, o5, h⟩ := optI h kN
 try simp only [hs] at h
 simp only [vz, tyf, nm, seval]
 refine ktA (zno _ _ o5) ?_
 refine zab (fun tm => tm 1 = .sl (cellsL eI x1_mix) (List.length x1_mix) false ∧ tm 2 = .ptr 0 0 ∧ tm 6 = .lit (.bool r4) ∧ True) (by refine ⟨?_, ?_, ?_, trivial⟩ <;> first | (simp only [ua, nm, seval] <;> rfl) | rfl) ?_
 rintro tm ⟨e6, e7, e8, _⟩
 cases d9 : (r4)
 ·simp only [d9, hs] at h
  try simp only [vz, tyf, e6, e7, e8, d9, nm, seval]
  obtain rfl := kF _ h
  exact zaa Tryz.results31 rfl
 simp only [d9, hs] at h
 cases d10 : (decide ((List.length x1_mix : Int) ≤ 6))
 ·simp only [d10, hs] at h
  try simp only [vz, tyf, e6, e7, e8, d9, d10, nm, seval]
  obtain rfl := kF _ h
  exact zaa Tryz.results31 rfl
 simp only [d10, hs] at h
 obtain ⟨r11, o12, h⟩ := optI h kN
 try simp only [hs] at h
 simp only [vz, tyf, e6, e7, e8, d9, d10, nm, seval]
 refine ktA (zoi _ _ o12) ?_
 refine zab (fun tm => tm 1 = .sl (cellsL eI x1_mix) (List.length x1_mix) false ∧ tm 2 = .ptr 0 0 ∧ tm 12 = .lit (.bool true) ∧ tm 14 = .lit (.bool r11) ∧ True) (by refine ⟨e6, e7, ?_, ?_, trivial⟩ <;> first | (simp only [ua, e6, e7, e8, d9, d10, nm, seval] <;> rfl) | rfl) ?_
 rintro tm ⟨e13, e14, e15, e16, _⟩
 cases d17 : (r11)
 ·simp only [d17, hs] at h
  try simp only [vz, tyf, d9, d10, e13, e14, e15, e16, d17, nm, seval]
  obtain rfl := kF _ h
  exact zaa Tryz.results31 rfl
 simp only [d17, hs] at h
 obtain ⟨r18, o19, h⟩ := optI h kN
 try simp only [hs] at h
 simp only [vz, tyf, d9, d10, e13, e14, e15, e16, d17, nm, seval]
 refine ktA (zau _ _ _ o19) ?_
 refine zab (fun tm => tm 16 = .lit (.bool true) ∧ tm 19 = .lit (.bool r18) ∧ True) (by refine ⟨?_, ?_, trivial⟩ <;> first | (simp only [ua, d9, d10, e13, e14, e15, e16, d17, nm, seval] <;> rfl) | rfl) ?_
 rintro tm ⟨e20, e21, _⟩
 try simp only [vz, tyf, d9, d10, d17, e20, e21, nm, seval]
 obtain rfl := kF _ h
 exact zaa Tryz.results31 rfl
end Go.V
end
section
namespace Go.V
open Go
inductive P3 where
 | p0
 | p1
 | p2
def P3.i : P3 → Int
 | .p0 => 0
 | .p1 => 1
 | .p2 => 2
def selS (c : Ga) : P3 → GSpan
 | .p0 => c.a0
 | .p1 => c.a1
 | .p2 => c.a2
def selI (c : Gi) : P3 → Int
 | .p0 => c.a0
 | .p1 => c.a1
 | .p2 => c.a2
theorem zmx (a n b : Int) : zdr a n b = some (inB a b n) := csome _ _
theorem zaho (n a b : Int) : zec n a b = some (inB a b n) := csome _ _
def spB (m : Int) (x : GSpan) : Bool := decide (0 ≤ x.Low) && (decide (x.Low ≤ x.High) && decide (x.High ≤ m))
theorem zaei {m : Int} {x : GSpan} : spB m x = true ↔ 0 ≤ x.Low ∧ x.Low ≤ x.High ∧ x.High ≤ m := by simp [spB]
theorem zwv (x : GSpan) (m : Int) : zeg 0 x m = some (spB m x) := by
 unfold zeg spB
 cases decide (0 ≤ x.Low) <;> cases decide (x.Low ≤ x.High) <;> rfl
theorem zrj (x : GSpan) (m : Int) : zde x m = some (spB m x) := by
 unfold zde
 simp only [zaho, Option.bind_some]
 rw [csome]
 congr 1
 rw [Bool.eq_iff_iff]
 simp only [Bool.and_eq_true, zkd, zaei]
 omega
theorem ztd (a b : Int) : ∀ (p : List Int) (c : Int), zcq a b p c = goB (p.all (inB a b))
 | [], _ => rfl
 | e :: p, c => by
  simp only [zcq, zmx, Option.bind_some, ztd a b p, List.all_cons, zol]
theorem zrz (a b : Int) {x : List Int} (h : lenOk x = true) : zdx a x b = some (x.all (inB a b)) := by
 unfold zdx
 rw [h, ztd, zlf]
 cases x.all (inB a b) <;> rfl
theorem zpu (b : Int) : ∀ (p : List GSpan) (c : Int), zcn 0 b p c = goB (p.all (spB b))
 | [], _ => rfl
 | e :: p, c => by
  simp only [zcn, zwv, Option.bind_some, zpu b p, List.all_cons, zol]
theorem zqe (b : Int) {x : List GSpan} (h : lenOk x = true) : zcu 0 x b = some (x.all (spB b)) := by
 unfold zcu
 rw [h, zpu, zlf]
 cases x.all (spB b) <;> rfl
def tinB (t : Gt) : Bool := spB 99 t.pg.a0 && (spB 99 t.pg.a1 && spB 99 t.pg.a2)
def sheetB (s : Gs) : Bool := (inB 0 99 s.Old.a0 && (inB 0 99 s.Old.a1 && inB 0 99 s.Old.a2)) && ((spB 9 s.Fade.a0 && (spB 9 s.Fade.a1 && spB 9 s.Fade.a2)) && (spB 20 s.Years && (inB 1 20 s.Off && (inB 1 4 s.Tins.length && s.Tins.all tinB))))
theorem zsw : ∀ (p : List Gt) (c : Int), zdl p c = goB (p.all tinB)
 | [], _ => rfl
 | e :: p, c => by
  have h : zcu 0 [e.pg.a0, e.pg.a1, e.pg.a2] 99 = some (tinB e) := by
   rw [zqe 99 (ziy (by simp only [List.length_cons, List.length_nil]; decide))]
   simp only [List.all_cons, List.all_nil, Bool.and_true]
   rfl
  simp only [zdl, h, Option.bind_some, zsw p, List.all_cons, zol]
theorem zkx {s : Gs} (h : lenOk s.Tins = true) : zbl s = some (sheetB s) := by
 unfold zbl zgu
 rw [zrz 0 99 (ziy (by simp only [List.length_cons, List.length_nil]; decide)), zqe 9 (ziy (by simp only [List.length_cons, List.length_nil]; decide)), zwv, zmx, zmx, h, zsw, zlf]
 simp only [List.all_cons, List.all_nil, Bool.and_true, Option.bind_some, sheetB]
 cases (inB 0 99 s.Old.a0 && (inB 0 99 s.Old.a1 && inB 0 99 s.Old.a2)) <;> cases (spB 9 s.Fade.a0 && (spB 9 s.Fade.a1 && spB 9 s.Fade.a2)) <;> cases spB 20 s.Years <;> cases inB 1 20 s.Off <;> cases inB 1 4 (s.Tins.length : Int) <;> cases s.Tins.all tinB <;> rfl
theorem zxd : ∀ (p : List Gt) (c : Int), zca p c = goB (p.all fun t => spB 99 t.pg.a0)
 | [], _ => rfl
 | e :: p, c => by simp only [zca, zrj, Option.bind_some, zxd p, List.all_cons, zol]
theorem zyb : ∀ (p : List Gt) (c : Int), zbw p c = goB (p.all fun t => spB 99 t.pg.a1)
 | [], _ => rfl
 | e :: p, c => by simp only [zbw, zrj, Option.bind_some, zyb p, List.all_cons, zol]
theorem zxc : ∀ (p : List Gt) (c : Int), zbx p c = goB (p.all fun t => spB 99 t.pg.a2)
 | [], _ => rfl
 | e :: p, c => by simp only [zbx, zrj, Option.bind_some, zxc p, List.all_cons, zol]
theorem zaiz : ∀ (p : List Gt), p.all tinB = ((p.all fun t => spB 99 t.pg.a0) && ((p.all fun t => spB 99 t.pg.a1) && (p.all fun t => spB 99 t.pg.a2)))
 | [] => rfl
 | e :: p => by
  simp only [List.all_cons, zaiz p, tinB]
  cases spB 99 e.pg.a0 <;> cases spB 99 e.pg.a1 <;> cases spB 99 e.pg.a2 <;> simp
theorem zahs {s : Gs} (h : lenOk s.Tins = true) : zgl s = some (sheetB s) := by
 unfold zgl zjv sheetB
 rw [zaiz, show Int.toNat (3 - 0) = 3 from rfl, show boundOk 3 = true from rfl]
 simp only [zdd, h, zxd, zyb, zxc, zlf, zrj, zaho, Option.bind_some, Int.reduceAdd, Int.reduceBEq, cond_true, cond_false]
 cases inB 0 99 s.Old.a0 <;> cases inB 0 99 s.Old.a1 <;> cases inB 0 99 s.Old.a2 <;> cases spB 9 s.Fade.a0 <;> cases spB 9 s.Fade.a1 <;> cases spB 9 s.Fade.a2 <;> simp only [cond_true, cond_false, Bool.false_and, Bool.true_and, Bool.and_false, lbind] <;> first | (cases spB 20 s.Years <;> cases inB 1 20 s.Off <;> cases inB 1 4 (s.Tins.length : Int) <;> rfl) | (cases spB 20 s.Years <;> cases inB 1 20 s.Off <;> cases inB 1 4 (s.Tins.length : Int) <;> cases (s.Tins.all fun t => spB 99 t.pg.a0) <;> first | rfl | (cases (s.Tins.all fun t => spB 99 t.pg.a1) <;> first | rfl | (cases (s.Tins.all fun t => spB 99 t.pg.a2) <;> rfl)))
structure ShOk (s : Gs) : Prop where
 old : ∀ p, 0 ≤ selI s.Old p ∧ selI s.Old p ≤ 99
 fade : ∀ p, 0 ≤ (selS s.Fade p).Low ∧ (selS s.Fade p).Low ≤ (selS s.Fade p).High ∧ (selS s.Fade p).High ≤ 9
 yrs : 0 ≤ s.Years.Low ∧ s.Years.Low ≤ s.Years.High ∧ s.Years.High ≤ 20
 off : 1 ≤ s.Off ∧ s.Off ≤ 20
 n : 1 ≤ s.Tins.length ∧ s.Tins.length ≤ 4
 tin : ∀ t ∈ s.Tins, ∀ p, 0 ≤ (selS t.pg p).Low ∧ (selS t.pg p).Low ≤ (selS t.pg p).High ∧ (selS t.pg p).High ≤ 99
theorem ShOk.of {s : Gs} (h : sheetB s = true) : ShOk s := by
 simp only [sheetB, Bool.and_eq_true, List.all_eq_true, tinB, zkd, zaei] at h
 obtain ⟨⟨h1, h2, h3⟩, ⟨h4, h5, h6⟩, h7, h8, h9, h10⟩ := h
 refine ⟨fun p => ?_, fun p => ?_, h7, h8, by omega, fun t ht p => ?_⟩
 ·cases p <;> assumption
 ·cases p <;> assumption
 ·obtain ⟨a, b, c⟩ := h10 t ht
  cases p <;> assumption
theorem ShOk.ok {s : Gs} (h : ShOk s) : sheetB s = true := by
 simp only [sheetB, Bool.and_eq_true, List.all_eq_true, tinB, zkd, zaei]
 exact ⟨⟨h.old .p0, h.old .p1, h.old .p2⟩, ⟨h.fade .p0, h.fade .p1, h.fade .p2⟩, h.yrs, h.off, by have := h.n; omega, fun t ht => ⟨h.tin t ht .p0, h.tin t ht .p1, h.tin t ht .p2⟩⟩
def sumL : List Int → Int
 | [] => 0
 | e :: l => e + sumL l
theorem zaed : ∀ {l : List Int}, (∀ e ∈ l, 0 ≤ e ∧ e ≤ 8) → 0 ≤ sumL l ∧ sumL l ≤ 8 * l.length
 | [], _ => by simp [sumL]
 | e :: l, h => by
  have h1 := h e (List.mem_cons_self ..)
  have h2 := zaed fun x hx => h x (List.mem_cons_of_mem _ hx)
  simp only [sumL, List.length_cons]
  omega
theorem zaee : ∀ (l : List Int) (c acc : Int), (∀ e ∈ l, 0 ≤ e ∧ e ≤ 8) → 0 ≤ acc → acc + 8 * l.length ≤ 1000000 → zfz l c acc = some (.go (acc + sumL l))
 | [], c, acc, _, _, _ => by simp [zfz, sumL]
 | e :: l, c, acc, h, h0, hb => by
  have h1 := h e (List.mem_cons_self ..)
  simp only [List.length_cons] at hb
  simp only [zfz]
  rw [zcj (by omega) (by omega), zaee l _ _ (fun x hx => h x (List.mem_cons_of_mem _ hx)) (by omega) (by omega)]
  simp only [sumL, Int.add_assoc]
theorem zuz {l : List Int} (h : ∀ e ∈ l, 0 ≤ e ∧ e ≤ 8) (hl : l.length ≤ 1000) : zkg l = some (sumL l) := by
 unfold zkg
 rw [ziy (by omega), zaee l 0 0 h (by omega) (by omega)]
 simp [lbind]
theorem zxb : ∀ (l : List Int) (c acc : Int), (∀ e ∈ l, 0 ≤ e ∧ e ≤ 8) → 0 ≤ acc → acc + 8 * l.length ≤ 1000000 → zdf l c acc = some (.go (acc + sumL l))
 | [], c, acc, _, _, _ => by simp [zdf, sumL]
 | e :: l, c, acc, h, h0, hb => by
  have h1 := h e (List.mem_cons_self ..)
  simp only [List.length_cons] at hb
  simp only [zdf]
  rw [zcj (by omega) (by omega), zxb l _ _ (fun x hx => h x (List.mem_cons_of_mem _ hx)) (by omega) (by omega)]
  simp only [sumL, Int.add_assoc]
theorem zqq {l : List Int} (h : ∀ e ∈ l, 0 ≤ e ∧ e ≤ 8) (hl : l.length ≤ 1000) : zep l = some (sumL l) := by
 unfold zep
 rw [ziy (by omega), zxb l 0 0 h (by omega) (by omega)]
 simp [lbind]
def mixB (s : Gs) (mix : List Int) : Bool := decide (mix.length = s.Tins.length) && (mix.all (inB 0 8) && inB 1 8 (sumL mix))
theorem lenB (a b : Nat) : ((a : Int) == (b : Int)) = decide (a = b) := by
 by_cases h : a = b
 ·simp [h]
 ·rw [decide_eq_false h]; exact beq_false_of_ne (by omega)
theorem zajf {s : Gs} (hs : ShOk s) (mix : List Int) : zdv s mix = some (mixB s mix) := by
 unfold zdv mixB
 rw [lenB]
 by_cases h : mix.length = s.Tins.length
 ·have hl : mix.length ≤ 1000 := by have := hs.n; omega
  rw [decide_eq_true h, zrz _ _ (ziy (by omega))]
  simp only [cond_true, Option.bind_some, Bool.true_and]
  cases ha : mix.all (inB 0 8) with
  | false => rfl
  | true =>
   have hb : ∀ e ∈ mix, 0 ≤ e ∧ e ≤ 8 := by
    intro e he
    rw [List.all_eq_true] at ha
    exact zkd.1 (ha e he)
   rw [zuz hb hl]
   simp only [cond_true, Option.bind_some, zmx, Bool.true_and]
 ·rw [decide_eq_false h]
  rfl
theorem zail : ∀ (p : List Int) (c : Int), zeu p c = goB (p.all (inB 0 8))
 | [], _ => rfl
 | e :: p, c => by
  simp only [zeu, zaho, Option.bind_some, zail p, List.all_cons, zol]
theorem zxg {s : Gs} (hs : ShOk s) {mix : List Int} (hm : lenOk mix = true) : zbd s mix = some (mixB s mix) := by
 unfold zbd mixB
 rw [lenB, hm, zail, zlf]
 by_cases h : mix.length = s.Tins.length
 ·have hl : mix.length ≤ 1000 := by have := hs.n; omega
  rw [decide_eq_true h]
  simp only [cond_true, Option.bind_some, Bool.true_and]
  cases ha : mix.all (inB 0 8) with
  | false => rfl
  | true =>
   have hb : ∀ e ∈ mix, 0 ≤ e ∧ e ≤ 8 := by
    intro e he
    rw [List.all_eq_true] at ha
    exact zkd.1 (ha e he)
   rw [zqq hb hl]
   simp only [cond_true, Option.bind_some, zaho, Bool.true_and]
 ·rw [decide_eq_false h]
  cases mix.all (inB 0 8) <;> rfl
structure MixOk (s : Gs) (mix : List Int) : Prop where
 n : mix.length = s.Tins.length
 b : ∀ e ∈ mix, 0 ≤ e ∧ e ≤ 8
 s : 1 ≤ sumL mix ∧ sumL mix ≤ 8
theorem MixOk.of {s : Gs} {mix : List Int} (h : mixB s mix = true) : MixOk s mix := by
 simp only [mixB, Bool.and_eq_true, List.all_eq_true, zkd, decide_eq_true_eq] at h
 exact ⟨h.1, h.2.1, h.2.2⟩
theorem MixOk.ok {s : Gs} {mix : List Int} (h : MixOk s mix) : mixB s mix = true := by
 simp only [mixB, Bool.and_eq_true, List.all_eq_true, zkd, decide_eq_true_eq]
 exact ⟨h.n, h.b, h.s⟩
def dot {α : Type} (f : α → Int) : List Int → List α → Int
 | m :: ms, t :: ts => m * f t + dot f ms ts
 | _, _ => 0
theorem dot_b {α : Type} {f : α → Int} : ∀ (ms : List Int) (ts : List α), (∀ e ∈ ms, 0 ≤ e ∧ e ≤ 8) → (∀ t ∈ ts, 0 ≤ f t ∧ f t ≤ 99) → 0 ≤ dot f ms ts ∧ dot f ms ts ≤ 99 * sumL ms
 | [], _, _, _ => by simp [dot, sumL]
 | e :: ms, [], h, _ => by
  have := (zaed h).1
  simp only [dot]
  omega
 | e :: ms, t :: ts, h, h2 => by
  have h1 := h e (List.mem_cons_self ..)
  have h3 := h2 t (List.mem_cons_self ..)
  have ih := dot_b ms ts (fun x hx => h x (List.mem_cons_of_mem _ hx)) (fun x hx => h2 x (List.mem_cons_of_mem _ hx))
  have h4 := mulR h1.1 (Int.le_refl e) h3.1 h3.2
  simp only [dot, sumL]
  omega
theorem zaax {α β : Type} {f : α → Int} {g : β → Int} : ∀ (ms : List Int) (ts : List α) (us : List β), ts.length = us.length → (∀ e ∈ ms, 0 ≤ e ∧ e ≤ 8) → (∀ (i : Nat) t u, ts[i]? = some t → us[i]? = some u → f t ≤ g u) → dot f ms ts ≤ dot g ms us
 | [], _, _, _, _, _ => by simp [dot]
 | e :: ms, [], [], _, _, _ => by simp [dot]
 | e :: ms, t :: ts, u :: us, hl, h, h2 => by
  have h1 := h e (List.mem_cons_self ..)
  have h3 := h2 0 t u rfl rfl
  have ih := zaax ms ts us (by simpa using hl) (fun x hx => h x (List.mem_cons_of_mem _ hx)) (fun i a b ha hb => h2 (i + 1) a b (by simpa using ha) (by simpa using hb))
  have h4 := Int.mul_le_mul_of_nonneg_left h3 h1.1
  simp only [dot]
  omega
 | _ :: _, [], _ :: _, hl, _, _ => by simp at hl
 | _ :: _, _ :: _, [], hl, _, _ => by simp at hl
def lowT (p : P3) (t : Gt) : Int := (selS t.pg p).Low
def highT (p : P3) (t : Gt) : Int := (selS t.pg p).High
theorem zace (x : Gm) (p : P3) : ∀ (ms : List Int) (ts : List Gt) (c acc : Int), 0 ≤ c → List.drop c.toNat x.sh.Tins = ts → ms.length ≤ ts.length → (∀ e ∈ ms, 0 ≤ e ∧ e ≤ 8) → (∀ t ∈ ts, 0 ≤ lowT p t ∧ lowT p t ≤ 99) → 0 ≤ acc → acc + 792 * ms.length ≤ 1000000 →
  zbj x p.i ms c acc = some (.go (acc + dot (lowT p) ms ts))
 | [], ts, c, acc, _, _, _, _, _, _, _ => by simp [zbj, dot]
 | e :: ms, [], _, _, _, _, hl, _, _, _, _ => by simp at hl
 | e :: ms, t :: ts, c, acc, h0, hd, hl, h, h2, ha, hb => by
  have h1 := h e (List.mem_cons_self ..)
  have h3 := h2 t (List.mem_cons_self ..)
  have h4 := mulR h1.1 h1.2 h3.1 h3.2
  simp only [List.length_cons] at hb hl
  have ih := zace x p ms ts (c + 1) (acc + e * lowT p t) (by omega) (zbr h0 hd) (by omega) (fun x hx => h x (List.mem_cons_of_mem _ hx)) (fun x hx => h2 x (List.mem_cons_of_mem _ hx)) (by omega) (by omega)
  simp only [zbj, zax h0 hd, Option.bind_some]
  have hw : IntKind.i64.wrap (acc + IntKind.i64.wrap (e * lowT p t)) = acc + e * lowT p t := by rw [zcj (n := e * lowT p t) (by omega) (by omega), zcj (by omega) (by omega)]
  have hg : acc + e * lowT p t + dot (lowT p) ms ts = acc + dot (lowT p) (e :: ms) (t :: ts) := by simp only [dot]; omega
  rw [hg] at ih
  cases p <;> simp only [P3.i, Int.reduceBEq, cond_true, cond_false] <;> simp only [lowT, selS] at hw <;> rw [hw] <;> exact ih
theorem zpk (x : Gm) (p : P3) : ∀ (ms : List Int) (ts : List Gt) (c acc : Int), 0 ≤ c → List.drop c.toNat x.sh.Tins = ts → ms.length ≤ ts.length → (∀ e ∈ ms, 0 ≤ e ∧ e ≤ 8) → (∀ t ∈ ts, 0 ≤ highT p t ∧ highT p t ≤ 99) → 0 ≤ acc → acc + 792 * ms.length ≤ 1000000 →
  zay x p.i ms c acc = some (.go (acc + dot (highT p) ms ts))
 | [], ts, c, acc, _, _, _, _, _, _, _ => by simp [zay, dot]
 | e :: ms, [], _, _, _, _, hl, _, _, _, _ => by simp at hl
 | e :: ms, t :: ts, c, acc, h0, hd, hl, h, h2, ha, hb => by
  have h1 := h e (List.mem_cons_self ..)
  have h3 := h2 t (List.mem_cons_self ..)
  have h4 := mulR h1.1 h1.2 h3.1 h3.2
  simp only [List.length_cons] at hb hl
  have ih := zpk x p ms ts (c + 1) (acc + e * highT p t) (by omega) (zbr h0 hd) (by omega) (fun x hx => h x (List.mem_cons_of_mem _ hx)) (fun x hx => h2 x (List.mem_cons_of_mem _ hx)) (by omega) (by omega)
  simp only [zay, zax h0 hd, Option.bind_some]
  have hw : IntKind.i64.wrap (acc + IntKind.i64.wrap (e * highT p t)) = acc + e * highT p t := by rw [zcj (n := e * highT p t) (by omega) (by omega), zcj (by omega) (by omega)]
  have hg : acc + e * highT p t + dot (highT p) ms ts = acc + dot (highT p) (e :: ms) (t :: ts) := by simp only [dot]; omega
  rw [hg] at ih
  cases p <;> simp only [P3.i, Int.reduceBEq, cond_true, cond_false] <;> simp only [highT, selS] at hw <;> rw [hw] <;> exact ih
theorem ShOk.low {s : Gs} (h : ShOk s) (p : P3) : ∀ t ∈ s.Tins, 0 ≤ lowT p t ∧ lowT p t ≤ 99 := fun t ht => by
 have := h.tin t ht p
 unfold lowT
 omega
theorem ShOk.high {s : Gs} (h : ShOk s) (p : P3) : ∀ t ∈ s.Tins, 0 ≤ highT p t ∧ highT p t ≤ 99 := fun t ht => by
 have := h.tin t ht p
 unfold highT
 omega
def sumsP (s : Gs) (mix : List Int) (p : P3) : GSpan := ⟨dot (lowT p) mix s.Tins, dot (highT p) mix s.Tins⟩
def sumsS (s : Gs) (mix : List Int) : Ga := ⟨sumsP s mix .p0, sumsP s mix .p1, sumsP s mix .p2⟩
theorem zwh {s : Gs} (hs : ShOk s) {mix : List Int} (hm : MixOk s mix) (p : P3) : zcm ⟨s, mix⟩ p.i = some (dot (lowT p) mix s.Tins) := by
 have hl := hs.n
 have hn := hm.n
 unfold zcm
 rw [ziy (by show mix.length < _; omega)]
 have := zace ⟨s, mix⟩ p mix s.Tins 0 0 (Int.le_refl _) rfl (by omega) hm.b (hs.low p) (Int.le_refl _) (by omega)
 simp only [cond_true]
 rw [this]
 simp [lbind]
theorem zlr {s : Gs} (hs : ShOk s) {mix : List Int} (hm : MixOk s mix) (p : P3) : zbu ⟨s, mix⟩ p.i = some (dot (highT p) mix s.Tins) := by
 have hl := hs.n
 have hn := hm.n
 unfold zbu
 rw [ziy (by show mix.length < _; omega)]
 have := zpk ⟨s, mix⟩ p mix s.Tins 0 0 (Int.le_refl _) rfl (by omega) hm.b (hs.high p) (Int.le_refl _) (by omega)
 simp only [cond_true]
 rw [this]
 simp [lbind]
theorem zaia {s : Gs} (hs : ShOk s) {mix : List Int} (hm : MixOk s mix) : zdj ⟨s, mix⟩ = some (sumsS s mix) := by
 unfold zdj
 have a0 := zwh hs hm .p0
 have a1 := zwh hs hm .p1
 have a2 := zwh hs hm .p2
 have b0 := zlr hs hm .p0
 have b1 := zlr hs hm .p1
 have b2 := zlr hs hm .p2
 simp only [P3.i] at a0 a1 a2 b0 b1 b2
 rw [a0, a1, a2, b0, b1, b2]
 rfl
theorem zacp {s : Gs} (hs : ShOk s) {mix : List Int} (hm : MixOk s mix) : zcc ⟨s, mix⟩ = some (sumL mix) := by
 have hl := hs.n
 have hn := hm.n
 unfold zcc
 rw [zuz hm.b (by omega)]
 rfl
def leftI (old y f : Int) : Int := if 0 < old - y * f then old - y * f else 0
theorem zsj {old y f : Int} (h1 : 0 ≤ old ∧ old ≤ 99) (h2 : 0 ≤ y ∧ y ≤ 20) (h3 : 0 ≤ f ∧ f ≤ 9) : zck old y f = some (leftI old y f) := by
 have := mulR h2.1 h2.2 h3.1 h3.2
 unfold zck leftI
 rw [zcj (n := y * f) (by omega) (by omega), zcj (by omega) (by omega)]
theorem zabx {old y f : Int} (h1 : 0 ≤ old ∧ old ≤ 99) (h2 : 0 ≤ y) (h3 : 0 ≤ f) : 0 ≤ leftI old y f ∧ leftI old y f ≤ old := by
 have := Int.mul_nonneg h2 h3
 unfold leftI
 split <;> omega
theorem znp {old y f y' f' : Int} (h2 : 0 ≤ y) (h : y ≤ y') (h3 : 0 ≤ f) (h' : f ≤ f') : leftI old y' f' ≤ leftI old y f := by
 have h4 : y * f ≤ y' * f' := Int.mul_le_mul h h' h3 (by omega)
 unfold leftI
 split <;> split <;> omega
def aimP (s : Gs) (p : P3) : GSpan := ⟨leftI (selI s.Old p) s.Years.High (selS s.Fade p).High, leftI (selI s.Old p) s.Years.Low (selS s.Fade p).Low⟩
def aimS (s : Gs) : Ga := ⟨aimP s .p0, aimP s .p1, aimP s .p2⟩
theorem zwe {s : Gs} (hs : ShOk s) (p : P3) : zck (selI s.Old p) s.Years.High (selS s.Fade p).High = some (aimP s p).Low := by
 have h1 := hs.old p
 have h2 := hs.yrs
 have h3 := hs.fade p
 exact zsj h1 (by omega) (by omega)
theorem zra {s : Gs} (hs : ShOk s) (p : P3) : zck (selI s.Old p) s.Years.Low (selS s.Fade p).Low = some (aimP s p).High := by
 have h1 := hs.old p
 have h2 := hs.yrs
 have h3 := hs.fade p
 exact zsj h1 (by omega) (by omega)
theorem zarg {s : Gs} (hs : ShOk s) : zfw s = some (aimS s) := by
 have a0 := zwe hs .p0
 have a1 := zwe hs .p1
 have a2 := zwe hs .p2
 have b0 := zra hs .p0
 have b1 := zra hs .p1
 have b2 := zra hs .p2
 simp only [selI, selS] at a0 a1 a2 b0 b1 b2
 unfold zfw
 rw [a0, a1, a2, b0, b1, b2]
 rfl
theorem zask {s : Gs} (hs : ShOk s) (p : P3) : 0 ≤ (aimP s p).Low ∧ (aimP s p).Low ≤ (aimP s p).High ∧ (aimP s p).High ≤ 99 := by
 have h1 := hs.old p
 have h2 := hs.yrs
 have h3 := hs.fade p
 have h4 := zabx (y := s.Years.High) (f := (selS s.Fade p).High) h1 (by omega) (by omega)
 have h5 := zabx (y := s.Years.Low) (f := (selS s.Fade p).Low) h1 (by omega) (by omega)
 have h6 := znp (old := selI s.Old p) (y := s.Years.Low) (y' := s.Years.High) (f := (selS s.Fade p).Low) (f' := (selS s.Fade p).High) (by omega) (by omega) (by omega) (by omega)
 unfold aimP
 simp only
 omega
end Go.V
end
section
namespace Go.V
open Go Go.Proofs



end Go.V
end
section
set_option linter.defProp false
namespace Go.V
open Go
section
variable {P : Program} {H : Nat → Option VObj} {t : TypeId} {x y : Operand} {k : IntKind} {a b : Int}
theorem zanx (h : (b != 0) = true) : binV P H .quo t x y (.lit (.int k a)) (.lit (.int k b)) = some (.lit (.int k (k.wrap (a.tdiv b)))) := by
 have : b ≠ 0 := by simpa using h
 simp [binV, VV.val?, vbin, ofVal, ofVal2, ofVal1, this]
theorem zasj : unV P .neg (.lit (.int k a)) = some (.lit (.int k (k.wrap (-a)))) := by simp [unV, VV.val?, Op.unary, Op.intArith, zby, ofVal, ofVal2, ofVal1]
def qr := (And.intro @zanx @zasj)
end
end Go.V
end
section
namespace Go.V
open Go Go.Proofs
def zbo (x0_x : Gm) (xpg : Int) : Option (Int) := Option.bind (zdj x0_x) (fun r1 => cond (xpg == 0) (Option.bind (zfw x0_x.sh) (fun r2 => Option.bind (zcc x0_x) (fun r3 => cond ((r3 != 0)) (some (IntKind.i64.wrap (Int.tdiv (IntKind.i64.wrap ((IntKind.i64.wrap ((if (IntKind.i64.wrap (r1.a0.High - (IntKind.i64.wrap (r3 * r2.a0.Low)))) < (IntKind.i64.wrap ((IntKind.i64.wrap (r3 * r2.a0.High)) - r1.a0.Low)) then (IntKind.i64.wrap ((IntKind.i64.wrap (r3 * r2.a0.High)) - r1.a0.Low)) else (IntKind.i64.wrap (r1.a0.High - (IntKind.i64.wrap (r3 * r2.a0.Low))))) + r3)) - 1)) r3))) none))) (cond (xpg == 1) (Option.bind (zfw x0_x.sh) (fun r4 => Option.bind (zcc x0_x) (fun r5 => cond ((r5 != 0)) (some (IntKind.i64.wrap (Int.tdiv (IntKind.i64.wrap ((IntKind.i64.wrap ((if (IntKind.i64.wrap (r1.a1.High - (IntKind.i64.wrap (r5 * r4.a1.Low)))) < (IntKind.i64.wrap ((IntKind.i64.wrap (r5 * r4.a1.High)) - r1.a1.Low)) then (IntKind.i64.wrap ((IntKind.i64.wrap (r5 * r4.a1.High)) - r1.a1.Low)) else (IntKind.i64.wrap (r1.a1.High - (IntKind.i64.wrap (r5 * r4.a1.Low))))) + r5)) - 1)) r5))) none))) (cond (xpg == 2) (Option.bind (zfw x0_x.sh) (fun r6 => Option.bind (zcc x0_x) (fun r7 => cond ((r7 != 0)) (some (IntKind.i64.wrap (Int.tdiv (IntKind.i64.wrap ((IntKind.i64.wrap ((if (IntKind.i64.wrap (r1.a2.High - (IntKind.i64.wrap (r7 * r6.a2.Low)))) < (IntKind.i64.wrap ((IntKind.i64.wrap (r7 * r6.a2.High)) - r1.a2.Low)) then (IntKind.i64.wrap ((IntKind.i64.wrap (r7 * r6.a2.High)) - r1.a2.Low)) else (IntKind.i64.wrap (r1.a2.High - (IntKind.i64.wrap (r7 * r6.a2.Low))))) + r7)) - 1)) r7))) none))) (none))))
theorem zcy (x0_x : Gm) (xpg : Int) (R : Int) (h : zbo x0_x xpg = some R) : VPure Tryz.prog G0 111 [.agg (cGm x0_x), .lit (.int .i64 xpg)] (.tree (.lit (.int .i64 R))) := by
 refine VPure.runR mixed Tryz.call111 Tryz.func111 rfl (by simp [Tryz.ntmps111]; kernel_rfl) ?_
 obtain ⟨KF, h, kF, kN⟩ := zan h
 simp only [zbo] at h
 simp only [vz, qr, tyf, nm, seval]
 refine zfe (fun tm => tm 1 = .lit (.int .i64 xpg) ∧ tm 2 = .ptr 0 0 ∧ True) (by refine ⟨?_, ?_, trivial⟩ <;> first | (simp only [ua, nm, seval] <;> rfl) | rfl) ?_
 rintro tm ⟨e8, e9, _⟩
 obtain ⟨r10, o11, h⟩ := optI h kN
 try simp only [hs] at h
 simp only [vz, qr, tyf, e8, e9, nm, seval]
 refine dktA (zhg _ _ o11) ?_
 refine zab (fun tm => tm 1 = .lit (.int .i64 xpg) ∧ tm 2 = .ptr 0 0 ∧ tm 10 = .agg (cGa r10) ∧ True) (by refine ⟨e8, e9, ?_, trivial⟩ <;> first | (simp only [ua, e8, e9, nm, seval] <;> rfl) | rfl) ?_
 rintro tm ⟨e12, e13, e14, _⟩
 cases d15 : (xpg == 0)
 ·simp only [d15, hs] at h
  cases d16 : (xpg == 1)
  ·simp only [d16, hs] at h
   cases d17 : (xpg == 2)
   ·simp only [d17, hs] at h
    exact absurd h kN
   simp only [d17, hs] at h
   obtain ⟨r18, o19, h⟩ := optI h kN
   try simp only [hs] at h
   simp only [vz, qr, tyf, e12, e13, e14, d15, d16, d17, (zyt d17), nm, seval]
   refine dktA (zhm _ _ o19) ?_
   refine zab (fun tm => tm 1 = .lit (.int .i64 xpg) ∧ tm 2 = .ptr 0 0 ∧ tm 12 = .agg (cGSpan r10.a2) ∧ tm 15 = .agg (cGa r18) ∧ True) (by refine ⟨e12, e13, ?_, ?_, trivial⟩ <;> first | (simp only [ua, e12, e13, e14, d15, d16, d17, nm, seval] <;> rfl) | rfl) ?_
   rintro tm ⟨e20, e21, e22, e23, _⟩
   obtain ⟨r24, o25, h⟩ := optI h kN
   try simp only [hs] at h
   simp only [vz, qr, tyf, d15, d16, d17, (zyt d17), e20, e21, e22, e23, nm, seval]
   refine dktA (zdt _ _ o25) ?_
   refine zab (fun tm => tm 12 = .agg (cGSpan r10.a2) ∧ tm 17 = .agg (cGSpan r18.a2) ∧ tm 19 = .lit (.int .i64 r24) ∧ True) (by refine ⟨e22, ?_, ?_, trivial⟩ <;> first | (simp only [ua, d15, d16, d17, e20, e21, e22, e23, nm, seval] <;> rfl) | rfl) ?_
   rintro tm ⟨e26, e27, e28, _⟩
   simp only [vz, qr, tyf, d15, d16, d17, (zyt d17), e26, e27, e28, nm, seval]
   refine zel ⟨?_, ?_⟩
   ·simp only [zcs, zdp, zbi, zfr, and_true, true_and]
    repeat' (first | exact trivial | refine And.intro ?_ ?_ | rw [zbi] | rw [zej] | exact Or.inl (by decide +kernel) | exact Or.inl (by dsimp only; decide +kernel) | (refine Or.inr ⟨?_, ?_⟩ <;> simp; done) | (refine Or.inr ⟨?_, ?_⟩ <;> simp <;> omega) | (refine Or.inr ⟨?_, ?_⟩ <;> simp [VEff.wr] <;> omega))
   cases g29 : ((r24 != 0))
   ·simp only [g29, hs] at h
    exact absurd h kN
   simp only [g29, hs] at h
   try simp only [vz, qr, tyf, d15, d16, d17, (zyt d17), e26, e27, e28, g29, nm, seval]
   refine zaw (x := (.lit (.int .i64 (IntKind.i64.wrap (Int.tdiv (IntKind.i64.wrap ((IntKind.i64.wrap ((if (IntKind.i64.wrap (r10.a2.High - (IntKind.i64.wrap (r24 * r18.a2.Low)))) < (IntKind.i64.wrap ((IntKind.i64.wrap (r24 * r18.a2.High)) - r10.a2.Low)) then (IntKind.i64.wrap ((IntKind.i64.wrap (r24 * r18.a2.High)) - r10.a2.Low)) else (IntKind.i64.wrap (r10.a2.High - (IntKind.i64.wrap (r24 * r18.a2.Low))))) + r24)) - 1)) r24))))) (by first | (simp only [Tryz.results111, resV, resL, resV1, zba, zbz, uw, cr, tyf, d15, d16, d17, (zyt d17), g29, nm, seval] <;> rfl) | rfl) ?_
   obtain rfl := kF _ h
   refine zbb ?_ ?_
   ·simp only [tre, tytre, Bool.and_self]
   ·first | (simp only [outV, uw, zak, cr, tyf, nrm, tynrm, d15, d16, d17, (zyt d17), e26, e27, e28, g29, nm, seval] <;> rfl) | rfl
  simp only [d16, hs] at h
  obtain ⟨r30, o31, h⟩ := optI h kN
  try simp only [hs] at h
  simp only [vz, qr, tyf, e12, e13, e14, d15, d16, (zyp d16), nm, seval]
  refine dktA (zhm _ _ o31) ?_
  refine zab (fun tm => tm 1 = .lit (.int .i64 xpg) ∧ tm 2 = .ptr 0 0 ∧ tm 12 = .agg (cGSpan r10.a1) ∧ tm 15 = .agg (cGa r30) ∧ True) (by refine ⟨e12, e13, ?_, ?_, trivial⟩ <;> first | (simp only [ua, e12, e13, e14, d15, d16, nm, seval] <;> rfl) | rfl) ?_
  rintro tm ⟨e32, e33, e34, e35, _⟩
  obtain ⟨r36, o37, h⟩ := optI h kN
  try simp only [hs] at h
  simp only [vz, qr, tyf, d15, d16, (zyp d16), e32, e33, e34, e35, nm, seval]
  refine dktA (zdt _ _ o37) ?_
  refine zab (fun tm => tm 12 = .agg (cGSpan r10.a1) ∧ tm 17 = .agg (cGSpan r30.a1) ∧ tm 19 = .lit (.int .i64 r36) ∧ True) (by refine ⟨e34, ?_, ?_, trivial⟩ <;> first | (simp only [ua, d15, d16, e32, e33, e34, e35, nm, seval] <;> rfl) | rfl) ?_
  rintro tm ⟨e38, e39, e40, _⟩
  simp only [vz, qr, tyf, d15, d16, (zyp d16), e38, e39, e40, nm, seval]
  refine zel ⟨?_, ?_⟩
  ·simp only [zcs, zdp, zbi, zfr, and_true, true_and]
   repeat' (first | exact trivial | refine And.intro ?_ ?_ | rw [zbi] | rw [zej] | exact Or.inl (by decide +kernel) | exact Or.inl (by dsimp only; decide +kernel) | (refine Or.inr ⟨?_, ?_⟩ <;> simp; done) | (refine Or.inr ⟨?_, ?_⟩ <;> simp <;> omega) | (refine Or.inr ⟨?_, ?_⟩ <;> simp [VEff.wr] <;> omega))
  cases g41 : ((r36 != 0))
  ·simp only [g41, hs] at h
   exact absurd h kN
  simp only [g41, hs] at h
  try simp only [vz, qr, tyf, d15, d16, (zyp d16), e38, e39, e40, g41, nm, seval]
  refine zaw (x := (.lit (.int .i64 (IntKind.i64.wrap (Int.tdiv (IntKind.i64.wrap ((IntKind.i64.wrap ((if (IntKind.i64.wrap (r10.a1.High - (IntKind.i64.wrap (r36 * r30.a1.Low)))) < (IntKind.i64.wrap ((IntKind.i64.wrap (r36 * r30.a1.High)) - r10.a1.Low)) then (IntKind.i64.wrap ((IntKind.i64.wrap (r36 * r30.a1.High)) - r10.a1.Low)) else (IntKind.i64.wrap (r10.a1.High - (IntKind.i64.wrap (r36 * r30.a1.Low))))) + r36)) - 1)) r36))))) (by first | (simp only [Tryz.results111, resV, resL, resV1, zba, zbz, uw, cr, tyf, d15, d16, (zyp d16), g41, nm, seval] <;> rfl) | rfl) ?_
  obtain rfl := kF _ h
  refine zbb ?_ ?_
  ·simp only [tre, tytre, Bool.and_self]
  ·first | (simp only [outV, uw, zak, cr, tyf, nrm, tynrm, d15, d16, (zyp d16), e38, e39, e40, g41, nm, seval] <;> rfl) | rfl
 simp only [d15, hs] at h
 obtain ⟨r42, o43, h⟩ := optI h kN
 try simp only [hs] at h
 simp only [vz, qr, tyf, e12, e13, e14, d15, (zzp d15), nm, seval]
 refine dktA (zhm _ _ o43) ?_
 refine zab (fun tm => tm 1 = .lit (.int .i64 xpg) ∧ tm 2 = .ptr 0 0 ∧ tm 12 = .agg (cGSpan r10.a0) ∧ tm 15 = .agg (cGa r42) ∧ True) (by refine ⟨e12, e13, ?_, ?_, trivial⟩ <;> first | (simp only [ua, e12, e13, e14, d15, nm, seval] <;> rfl) | rfl) ?_
 rintro tm ⟨e44, e45, e46, e47, _⟩
 obtain ⟨r48, o49, h⟩ := optI h kN
 try simp only [hs] at h
 simp only [vz, qr, tyf, d15, (zzp d15), e44, e45, e46, e47, nm, seval]
 refine dktA (zdt _ _ o49) ?_
 refine zab (fun tm => tm 12 = .agg (cGSpan r10.a0) ∧ tm 17 = .agg (cGSpan r42.a0) ∧ tm 19 = .lit (.int .i64 r48) ∧ True) (by refine ⟨e46, ?_, ?_, trivial⟩ <;> first | (simp only [ua, d15, e44, e45, e46, e47, nm, seval] <;> rfl) | rfl) ?_
 rintro tm ⟨e50, e51, e52, _⟩
 simp only [vz, qr, tyf, d15, (zzp d15), e50, e51, e52, nm, seval]
 refine zel ⟨?_, ?_⟩
 ·simp only [zcs, zdp, zbi, zfr, and_true, true_and]
  repeat' (first | exact trivial | refine And.intro ?_ ?_ | rw [zbi] | rw [zej] | exact Or.inl (by decide +kernel) | exact Or.inl (by dsimp only; decide +kernel) | (refine Or.inr ⟨?_, ?_⟩ <;> simp; done) | (refine Or.inr ⟨?_, ?_⟩ <;> simp <;> omega) | (refine Or.inr ⟨?_, ?_⟩ <;> simp [VEff.wr] <;> omega))
 cases g53 : ((r48 != 0))
 ·simp only [g53, hs] at h
  exact absurd h kN
 simp only [g53, hs] at h
 try simp only [vz, qr, tyf, d15, (zzp d15), e50, e51, e52, g53, nm, seval]
 refine zaw (x := (.lit (.int .i64 (IntKind.i64.wrap (Int.tdiv (IntKind.i64.wrap ((IntKind.i64.wrap ((if (IntKind.i64.wrap (r10.a0.High - (IntKind.i64.wrap (r48 * r42.a0.Low)))) < (IntKind.i64.wrap ((IntKind.i64.wrap (r48 * r42.a0.High)) - r10.a0.Low)) then (IntKind.i64.wrap ((IntKind.i64.wrap (r48 * r42.a0.High)) - r10.a0.Low)) else (IntKind.i64.wrap (r10.a0.High - (IntKind.i64.wrap (r48 * r42.a0.Low))))) + r48)) - 1)) r48))))) (by first | (simp only [Tryz.results111, resV, resL, resV1, zba, zbz, uw, cr, tyf, d15, (zzp d15), g53, nm, seval] <;> rfl) | rfl) ?_
 obtain rfl := kF _ h
 refine zbb ?_ ?_
 ·simp only [tre, tytre, Bool.and_self]
 ·first | (simp only [outV, uw, zak, cr, tyf, nrm, tynrm, d15, (zzp d15), e50, e51, e52, g53, nm, seval] <;> rfl) | rfl
def zbs (x0_x : Gm) (xpg : Int) : Option ((Unit) ⊕ (Unit)) := Option.bind (zbo x0_x xpg) (fun r1 => cond (decide (r1 > x0_x.sh.Off)) (some (.inr ())) (some (.inl ())))
theorem zbq (x0_x : Gm) (xpg : Int) (R : (Unit) ⊕ (Unit)) (h : zbs x0_x xpg = some R) : VPure Tryz.prog G0 102 [.agg (cGm x0_x), .lit (.int .i64 xpg)] (presB R (fun r => .tree (.tup [])) (fun e => .panic (.ifc 132 (.agg [])))) := by
 refine VPure.runR mixed Tryz.call102 Tryz.func102 rfl (by simp [Tryz.ntmps102]; kernel_rfl) ?_
 obtain ⟨KF, h, kF, kN⟩ := zan h
 simp only [zbs] at h
 simp only [vz, tyf, nm, seval]
 refine zfu (fun tm => tm 1 = .lit (.int .i64 xpg) ∧ tm 2 = .ptr 0 0 ∧ True) (by refine ⟨?_, ?_, trivial⟩ <;> first | (simp only [ua, nm, seval] <;> rfl) | rfl) ?_
 rintro tm ⟨e2, e3, _⟩
 obtain ⟨r4, o5, h⟩ := optI h kN
 try simp only [hs] at h
 simp only [vz, tyf, e2, e3, nm, seval]
 refine dktA (zcy _ _ _ o5) ?_
 refine zab (fun tm => tm 2 = .ptr 0 0 ∧ tm 6 = .lit (.int .i64 r4) ∧ True) (by refine ⟨e3, ?_, trivial⟩ <;> first | (simp only [ua, e2, e3, nm, seval] <;> rfl) | rfl) ?_
 rintro tm ⟨e6, e7, _⟩
 cases d8 : (decide (r4 > x0_x.sh.Off))
 ·simp only [d8, hs] at h
  try simp only [vz, tyf, e6, e7, d8, nm, seval]
  refine ziz (x := (.tup [])) (by first | (simp only [Tryz.results102, resV, resL, resV1, zba, zbz, uw, cr, tyf, d8, nm, seval] <;> rfl) | rfl) ?_
  obtain rfl := kF _ h
  refine zbb ?_ ?_
  ·simp only [tre, tytre, Bool.and_self]
  ·first | (simp only [outV, uw, zak, cr, tyf, nrm, tynrm, e6, e7, d8, nm, seval] <;> rfl) | rfl
 simp only [d8, hs] at h
 simp only [vz, tyf, e6, e7, d8, nm, seval]
 refine zagl ?_
 obtain rfl := kF _ h
 refine zarc ?_ ?_
 ·simp only [tre, tytre, zakl, Bool.and_self]
 ·first | (simp only [outV, uw, zak, zage, zagt, cr, tyf, nrm, tynrm, e6, e7, d8, nm, seval] <;> rfl) | rfl
def zbn (x0_x : Gm) : Option (Bool) := Option.bind (zbs x0_x 0) (fun r1 => sumB r1 (fun u2 => Option.bind (zbs x0_x 1) (fun r4 => sumB r4 (fun u5 => Option.bind (zbs x0_x 2) (fun r7 => sumB r7 (fun u8 => some true) (fun w9 => some false))) (fun w6 => some false))) (fun w3 => some false))
theorem zei (x0_x : Gm) (R : Bool) (h : zbn x0_x = some R) : VPure Tryz.prog G0 68 [.agg (cGm x0_x)] (.tree (.lit (.bool R))) := by
 refine VPure.runR mixed Tryz.call68 Tryz.func68 rfl (by simp [Tryz.ntmps68]; kernel_rfl) ?_
 obtain ⟨KF, h, kF, kN⟩ := zan h
 simp only [zbn] at h
 simp only [vz, tyf, nm, seval]
 refine zfs mixed (by kernel_rfl) 4 ?_
 obtain ⟨r10, o11, h⟩ := optI h kN
 try simp only [hs] at h
 cases r10 with
 | inl u12 =>
  simp only [hs] at h
  simp only [vz, tyf, nm, seval]
  refine ktA (zbq _ _ _ o11) ?_
  refine zab (fun tm => tm 1 = .ptr 0 0 ∧ tm 2 = .ptr 1 0 ∧ tm 5 = .lit (.int .i64 0) ∧ True) (by refine ⟨?_, ?_, ?_, trivial⟩ <;> first | (simp only [ua, nm, seval] <;> rfl) | rfl) ?_
  rintro tm ⟨e14, e15, e16, _⟩
  obtain ⟨r17, o18, h⟩ := optI h kN
  try simp only [hs] at h
  cases r17 with
  | inl u19 =>
   simp only [hs] at h
   simp only [vz, tyf, e14, e15, e16, nm, seval]
   refine ktA (zbq _ _ _ o18) ?_
   refine zab (fun tm => tm 1 = .ptr 0 0 ∧ tm 2 = .ptr 1 0 ∧ tm 5 = .lit (.int .i64 1) ∧ True) (by refine ⟨e14, e15, ?_, trivial⟩ <;> first | (simp only [ua, e14, e15, e16, nm, seval] <;> rfl) | rfl) ?_
   rintro tm ⟨e21, e22, e23, _⟩
   obtain ⟨r24, o25, h⟩ := optI h kN
   try simp only [hs] at h
   cases r24 with
   | inl u26 =>
    simp only [hs] at h
    simp only [vz, tyf, e21, e22, e23, nm, seval]
    refine ktA (zbq _ _ _ o25) ?_
    refine zab (fun tm => tm 1 = .ptr 0 0 ∧ tm 2 = .ptr 1 0 ∧ tm 5 = .lit (.int .i64 2) ∧ True) (by refine ⟨e21, e22, ?_, trivial⟩ <;> first | (simp only [ua, e21, e22, e23, nm, seval] <;> rfl) | rfl) ?_
    rintro tm ⟨e28, e29, e30, _⟩
    try simp only [vz, tyf, e28, e29, e30, nm, seval]
    refine zalt ?_
    refine VDeferred.run mixed Tryz.call101 Tryz.func101 rfl (by kernel_rfl) ?_
    try simp only [vz, tyf, nm, seval]
    refine zig Tryz.results101 ?_
    refine zabg (x := (.lit (.bool true))) (by first | (simp only [Tryz.results68, resV, resL, resV1, zba, zbz, uw, cr, tyf, e28, e29, e30, nm, seval] <;> rfl) | rfl) ?_
    obtain rfl := kF _ h
    refine zbb ?_ ?_
    ·simp only [tre, tytre, Bool.and_self]
    ·first | (simp only [outV, uw, zak, cr, tyf, nrm, tynrm, e28, e29, e30, nm, seval] <;> rfl) | rfl
   | inr w27 =>
    simp only [hs] at h
    simp only [vz, tyf, e21, e22, e23, nm, seval]
    refine kpan (args0 := [.agg (cGm x0_x), .lit (.int .i64 2)]) (by first | (simp only [nrm, tynrm] <;> rfl) | rfl) (by simp only [tre, tytre, Bool.and_self]) (zbq _ _ _ o25) ?_
    try simp only [vz, tyf, e21, e22, e23, nm, seval]
    refine zof ?_
    refine VDeferred.run mixed Tryz.call101 Tryz.func101 rfl (by kernel_rfl) ?_
    try simp only [vz, tyf, nm, seval]
    refine zig Tryz.results101 ?_
    refine zoq (x := (.lit (.bool false))) (by first | (simp only [Tryz.results68, resV, resL, resV1, zba, zbz, uw, cr, tyf, e21, e22, e23, nm, seval] <;> rfl) | rfl) ?_
    obtain rfl := kF _ h
    refine zbb ?_ ?_
    ·simp only [tre, tytre, Bool.and_self]
    ·first | (simp only [outV, uw, zak, cr, tyf, nrm, tynrm, e21, e22, e23, nm, seval] <;> rfl) | rfl
  | inr w20 =>
   simp only [hs] at h
   simp only [vz, tyf, e14, e15, e16, nm, seval]
   refine kpan (args0 := [.agg (cGm x0_x), .lit (.int .i64 1)]) (by first | (simp only [nrm, tynrm] <;> rfl) | rfl) (by simp only [tre, tytre, Bool.and_self]) (zbq _ _ _ o18) ?_
   try simp only [vz, tyf, e14, e15, e16, nm, seval]
   refine zof ?_
   refine VDeferred.run mixed Tryz.call101 Tryz.func101 rfl (by kernel_rfl) ?_
   try simp only [vz, tyf, nm, seval]
   refine zig Tryz.results101 ?_
   refine zoq (x := (.lit (.bool false))) (by first | (simp only [Tryz.results68, resV, resL, resV1, zba, zbz, uw, cr, tyf, e14, e15, e16, nm, seval] <;> rfl) | rfl) ?_
   obtain rfl := kF _ h
   refine zbb ?_ ?_
   ·simp only [tre, tytre, Bool.and_self]
   ·first | (simp only [outV, uw, zak, cr, tyf, nrm, tynrm, e14, e15, e16, nm, seval] <;> rfl) | rfl
 | inr w13 =>
  simp only [hs] at h
  simp only [vz, tyf, nm, seval]
  refine kpan (args0 := [.agg (cGm x0_x), .lit (.int .i64 0)]) (by first | (simp only [nrm, tynrm] <;> rfl) | rfl) (by simp only [tre, tytre, Bool.and_self]) (zbq _ _ _ o11) ?_
  try simp only [vz, tyf, nm, seval]
  refine zof ?_
  refine VDeferred.run mixed Tryz.call101 Tryz.func101 rfl (by kernel_rfl) ?_
  try simp only [vz, tyf, nm, seval]
  refine zig Tryz.results101 ?_
  refine zoq (x := (.lit (.bool false))) (by first | (simp only [Tryz.results68, resV, resL, resV1, zba, zbz, uw, cr, tyf, nm, seval] <;> rfl) | rfl) ?_
  obtain rfl := kF _ h
  refine zbb ?_ ?_
  ·simp only [tre, tytre, Bool.and_self]
  ·first | (simp only [outV, uw, zak, cr, tyf, nrm, tynrm, nm, seval] <;> rfl) | rfl



end Go.V
end
