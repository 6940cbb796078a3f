/- Part of a proof. -/
import Derived.Test.YtekhjalgmlflpaaGreatDoorWbg
set_option linter.all false
set_option maxRecDepth 4000
set_option maxHeartbeats 40000000
section
namespace Go.V
open Go Go.Proofs
def zbz  : List Gt → Int → Option (LOut (Bool) (Unit))
 | [], c3_4 => some (.go ())
 | e3 :: p3, c3_4 => Option.bind (zdo e3.pg.a2 99) (fun r16 => cond (r16) (zbz p3 (c3_4 + 1)) (some (.ret false)))
def zcb  : List Gt → Int → Option (LOut (Bool) (Unit))
 | [], c2_4 => some (.go ())
 | e2 :: p2, c2_4 => Option.bind (zdo e2.pg.a1 99) (fun r11 => cond (r11) (zcb p2 (c2_4 + 1)) (some (.ret false)))
def zca  : List Gt → Int → Option (LOut (Bool) (Unit))
 | [], c1_4 => some (.go ())
 | e1 :: p1, c1_4 => Option.bind (zdo e1.pg.a0 99) (fun r6 => cond (r6) (zca p1 (c1_4 + 1)) (some (.ret false)))
def zdl (x0_s : Gs) : Nat → Int → Option (LOut (Bool) (Unit))
 | 0, c0_3 => some (.go ())
 | k0 + 1, c0_3 => cond (c0_3 == 0) (Option.bind (zei x0_s.Old.a0 0 99) (fun r4 => cond (r4) (Option.bind (zdo x0_s.Fade.a0 9) (fun r5 => cond (r5) (cond (lenOk x0_s.Tins) (lbind (zca x0_s.Tins 0) (fun r8 => some (.ret r8)) (fun c7 => zdl x0_s k0 (c0_3 + 1)) (fun _ _ => none)) none) (some (.ret false)))) (some (.ret false)))) (cond (c0_3 == 1) (Option.bind (zei x0_s.Old.a1 0 99) (fun r9 => cond (r9) (Option.bind (zdo x0_s.Fade.a1 9) (fun r10 => cond (r10) (cond (lenOk x0_s.Tins) (lbind (zcb x0_s.Tins 0) (fun r13 => some (.ret r13)) (fun c12 => zdl x0_s k0 (c0_3 + 1)) (fun _ _ => none)) none) (some (.ret false)))) (some (.ret false)))) (cond (c0_3 == 2) (Option.bind (zei x0_s.Old.a2 0 99) (fun r14 => cond (r14) (Option.bind (zdo x0_s.Fade.a2 9) (fun r15 => cond (r15) (cond (lenOk x0_s.Tins) (lbind (zbz x0_s.Tins 0) (fun r18 => some (.ret r18)) (fun c17 => zdl x0_s k0 (c0_3 + 1)) (fun _ _ => none)) none) (some (.ret false)))) (some (.ret false)))) (none)))
def zgi (x0_s : Gs) : Option (Bool) := Option.bind (zdo x0_s.Years 20) (fun r1 => cond (r1) (Option.bind (zjy x0_s.Off) (fun r2 => cond (r2) (Option.bind (zei (List.length x0_s.Tins : Int) 1 4) (fun r3 => cond (r3) (cond (boundOk 3) (lbind (zdl x0_s (Int.toNat (3 - 0)) 0) (fun r20 => some r20) (fun c19 => some true) (fun _ _ => none)) none) (some false))) (some false))) (some false))
theorem znm (x0_s : Gs) (R : Bool) (h : zgi x0_s = some R) : VPure Tryz.prog G0 20 [.agg (cGs x0_s)] (.tree (.lit (.bool R))) := by
 refine VPure.runR mixed Tryz.call20 Tryz.func20 rfl (by simp [Tryz.ntmps20]; kernel_rfl) ?_
 obtain ⟨KF, h, kF, kN⟩ := zan h
 simp only [zgi] at h
 obtain ⟨r21, o22, h⟩ := optI h kN
 try simp only [hs] at h
 simp only [vz, tyf, nm, seval]
 refine ktA (zdy _ _ _ o22) ?_
 refine zab (fun tm => tm 1 = .ptr 0 0 ∧ tm 7 = .lit (.bool r21) ∧ True) (by refine ⟨?_, ?_, trivial⟩ <;> first | (simp only [ua, nm, seval] <;> rfl) | rfl) ?_
 rintro tm ⟨e23, e24, _⟩
 cases d25 : (r21)
 ·simp only [d25, hs] at h
  try simp only [vz, tyf, e23, e24, d25, nm, seval]
  obtain rfl := kF _ h
  exact zac Tryz.results20 rfl
 simp only [d25, hs] at h
 obtain ⟨r26, o27, h⟩ := optI h kN
 try simp only [hs] at h
 simp only [vz, tyf, e23, e24, d25, nm, seval]
 refine ktA (zsc _ _ o27) ?_
 refine zab (fun tm => tm 1 = .ptr 0 0 ∧ tm 9 = .lit (.bool false) ∧ tm 12 = .lit (.bool r26) ∧ True) (by refine ⟨e23, ?_, ?_, trivial⟩ <;> first | (simp only [ua, e23, e24, d25, nm, seval] <;> rfl) | rfl) ?_
 rintro tm ⟨e28, e29, e30, _⟩
 cases d31 : (r26)
 ·simp only [d31, hs] at h
  try simp only [vz, tyf, d25, e28, e29, e30, d31, nm, seval]
  obtain rfl := kF _ h
  exact zac Tryz.results20 rfl
 simp only [d31, hs] at h
 obtain ⟨r32, o33, h⟩ := optI h kN
 try simp only [hs] at h
 simp only [vz, tyf, d25, e28, e29, e30, d31, nm, seval]
 refine ktA (zdt _ _ _ _ o33) ?_
 refine zab (fun tm => tm 1 = .ptr 0 0 ∧ tm 15 = .lit (.bool false) ∧ tm 19 = .lit (.bool r32) ∧ True) (by refine ⟨e28, ?_, ?_, trivial⟩ <;> first | (simp only [ua, d25, e28, e29, e30, d31, nm, seval] <;> rfl) | rfl) ?_
 rintro tm ⟨e34, e35, e36, _⟩
 cases d37 : (r32)
 ·simp only [d37, hs] at h
  try simp only [vz, tyf, d25, d31, e34, e35, e36, d37, nm, seval]
  obtain rfl := kF _ h
  exact zac Tryz.results20 rfl
 simp only [d37, hs] at h
 cases g39 : (boundOk 3)
 ·simp only [g39, hs] at h
  exact absurd h kN
 simp only [g39, hs] at h
 simp only [vz, tyf, d25, d31, e34, e35, e36, d37, g39, nm, seval]
 obtain ⟨K38, h, kR38, kG38, kB38, kN38⟩ := zax h kN
 obtain ⟨f38, hf38, h⟩ := call2 h
 obtain ⟨I38, hI38⟩ : ∃ I : Nat → St → Prop, I = (fun m st => ∃ (p38 : Nat) (c38_3 : Int), p38 = m ∧ loOk c38_3 = true ∧ Int.toNat (3 - c38_3) = p38 ∧ st.df = [] ∧ 20 ≤ st.nx ∧ st.H 0 = some (.cells (some 28) (cGs x0_s)) ∧ st.tm 1 = .ptr 0 0 ∧ st.tm 3 = .lit (.int .i64 c38_3) ∧ K38 (f38 p38 c38_3)) := ⟨_, rfl⟩
 refine loopK mixed (by kernel_rfl) I38 (Int.toNat (3 - 0)) (by rw [hI38]; refine ⟨Int.toNat (3 - 0), 0, rfl, (by rfl), rfl, rfl, (show 20 ≤ 20 by omega), ?_, e34, ?_, h⟩ <;> first | (simp only [ua, d25, d31, e34, e35, e36, d37, nm, seval] <;> rfl) | rfl) ?_
 rintro m ⟨tm, H, nx38, df⟩ hinv
 rw [hI38] at hinv
 obtain ⟨p38, c38_3, rfl, hi38, hp38, hdf, hn38, H40, e41, e42, h⟩ := hinv
 simp only at hdf hn38 H40 e41 e42
 have n43 := zcl (m := 20) (b := nx38) (by omega)
 subst hdf hf38
 cases p38 with
 | zero =>
  have d44 : (decide (c38_3 < 3)) = false := zli hp38
  simp only [zdl, hs, reduceCtorEq] at h
  replace h := kG38 _ h
  try dsimp only at h
  try simp only [hs] at h
  try simp only [vz, tyf, d25, d31, d37, g39, n43, e41, e42, H40, d44, nm, seval]
  obtain rfl := kF _ h
  exact zac Tryz.results20 rfl
 | succ p38 =>
  have d45 : (decide (c38_3 < 3)) = true := zahp hp38
  have w46 := zrn hi38 hp38 g39
  simp only [zdl, hs, reduceCtorEq] at h
  cases d47 : (c38_3 == 0)
  ·simp only [d47, hs] at h
   have b48 := And.intro d25 (And.intro d31 (And.intro d37 (And.intro g39 (And.intro n43 (And.intro H40 (And.intro d45 (And.intro w46 d47)))))))
   cases d49 : (c38_3 == 1)
   ·simp only [d49, hs] at h
    cases d50 : (c38_3 == 2)
    ·simp only [d50, hs] at h
     exact absurd h kN38
    simp only [d50, hs] at h
    obtain ⟨r51, o52, h⟩ := optI h kN38
    try simp only [hs] at h
    simp only [vz, tyf, b48, e41, e42, d49, d50, (zki d50), nm, seval]
    refine ktA (zdt _ _ _ _ o52) ?_
    refine zab (fun tm => tm 1 = .ptr 0 0 ∧ tm 3 = .lit (.int .i64 c38_3) ∧ tm 30 = .lit (.bool r51) ∧ True) (by refine ⟨e41, e42, ?_, trivial⟩ <;> first | (simp only [ua, b48, e41, e42, d49, d50, nm, seval] <;> rfl) | rfl) ?_
    rintro tm ⟨e53, e54, e55, _⟩
    cases d56 : (r51)
    ·simp only [d56, hs] at h
     try simp only [vz, tyf, b48, d49, d50, (zki d50), e53, e54, e55, d56, nm, seval]
     replace h := kR38 _ h
     try dsimp only at h
     obtain rfl := kF _ h
     exact zac Tryz.results20 rfl
    simp only [d56, hs] at h
    obtain ⟨r57, o58, h⟩ := optI h kN38
    try simp only [hs] at h
    simp only [vz, tyf, b48, d49, d50, (zki d50), e53, e54, e55, d56, (zgk d50), nm, seval]
    refine ktA (zdy _ _ _ o58) ?_
    refine zab (fun tm => tm 1 = .ptr 0 0 ∧ tm 3 = .lit (.int .i64 c38_3) ∧ tm 32 = .lit (.bool false) ∧ tm 37 = .lit (.bool r57) ∧ True) (by refine ⟨e53, e54, ?_, ?_, trivial⟩ <;> first | (simp only [ua, b48, d49, d50, e53, e54, e55, d56, nm, seval] <;> rfl) | rfl) ?_
    rintro tm ⟨e59, e60, e61, e62, _⟩
    cases d63 : (r57)
    ·simp only [d63, hs] at h
     try simp only [vz, tyf, b48, d49, d50, (zki d50), d56, (zgk d50), e59, e60, e61, e62, d63, nm, seval]
     replace h := kR38 _ h
     try dsimp only at h
     obtain rfl := kF _ h
     exact zac Tryz.results20 rfl
    simp only [d63, hs] at h
    cases g65 : (lenOk x0_s.Tins)
    ·simp only [g65, hs] at h
     exact absurd h kN38
    simp only [g65, hs] at h
    simp only [vz, tyf, b48, d49, d50, (zki d50), d56, (zgk d50), e59, e60, e61, e62, d63, g65, nm, seval]
    obtain ⟨K64, h, kR64, kG64, kB64, kN64⟩ := zax h kN38
    obtain ⟨f64, hf64, h⟩ := call2 h
    obtain ⟨I64, hI64⟩ : ∃ I : Nat → St → Prop, I = (fun m st => ∃ (p64 : List Gt) (c64_4 : Int), m = List.length p64 ∧ 0 ≤ c64_4 ∧ List.drop (Int.toNat c64_4) x0_s.Tins = p64 ∧ st.df = [] ∧ nx38 + 17 ≤ st.nx ∧ st.H 0 = some (.cells (some 28) (cGs x0_s)) ∧ st.tm 1 = .ptr 0 0 ∧ st.tm 3 = .lit (.int .i64 c38_3) ∧ st.tm 4 = .lit (.int .i64 c64_4) ∧ K64 (f64 p64 c64_4)) := ⟨_, rfl⟩
    refine loopK mixed (by kernel_rfl) I64 (List.length x0_s.Tins) (by rw [hI64]; refine ⟨x0_s.Tins, 0, rfl, Int.le_refl _, rfl, rfl, (show nx38 + 17 ≤ nx38 + 17 by omega), ?_, e59, e60, ?_, h⟩ <;> first | (simp only [ua, b48, d49, d50, d56, e59, e60, e61, e62, d63, nm, seval] <;> rfl) | rfl) ?_
    rintro m ⟨tm, H, nx64, df⟩ hinv
    rw [hI64] at hinv
    obtain ⟨p64, c64_4, rfl, hi64, hp64, hdf, hn64, H66, e67, e68, e69, h⟩ := hinv
    simp only at hdf hn64 H66 e67 e68 e69
    have n70 := zcl (m := 20) (b := nx64) (by omega)
    have n71 := zof (a := nx38) (m := 17) (b := nx64) (by omega)
    subst hdf hf64
    cases p64 with
    | nil =>
     have d72 : (decide (c64_4 < (List.length x0_s.Tins : Int))) = false := zbe hi64 hp64
     simp only [zca, zcb, zbz, hs, reduceCtorEq] at h
     replace h := kG64 _ h
     try dsimp only at h
     try simp only [hs] at h
     simp only [vz, tyf, b48, d49, d50, (zki d50), d56, (zgk d50), d63, g65, n70, n71, e67, e68, e69, H66, d72, nm, seval]
     exact ⟨p38, Nat.lt_succ_self _, by rw [hI38]; refine ⟨p38, c38_3 + 1, rfl, zpj hi38, zhs hp38, rfl, (show 20 ≤ nx64 + 8 by omega), ?_, e67, ?_, h⟩ <;> first | (simp only [ua, b48, d49, d50, d56, d63, n70, n71, e67, e68, e69, H66, d72, nm, seval] <;> rfl) | rfl⟩
    | cons e64 p64 =>
     have d73 : (decide (c64_4 < (List.length x0_s.Tins : Int))) = true := zcu hi64 hp64
     have o75 := zbb hi64 hp64
     have w74 := zds hi64 hp64 g65
     simp only [zca, zcb, zbz, hs, reduceCtorEq] at h
     obtain ⟨r76, o77, h⟩ := optI h kN64
     try simp only [hs] at h
     simp only [vz, tyf, b48, d49, d50, (zki d50), d56, (zgk d50), d63, g65, n70, n71, e67, e68, e69, H66, d73, (ix26 o75), w74, (ztt d50), nm, seval]
     refine ktA (zdy _ _ _ o77) ?_
     refine zab (fun tm => tm 1 = .ptr 0 0 ∧ tm 3 = .lit (.int .i64 c38_3) ∧ tm 4 = .lit (.int .i64 c64_4) ∧ tm 55 = .lit (.bool r76) ∧ True) (by refine ⟨e67, e68, e69, ?_, trivial⟩ <;> first | (simp only [ua, b48, d49, d50, d56, d63, n70, n71, e67, e68, e69, H66, d73, w74, nm, seval] <;> rfl) | rfl) ?_
     rintro tm ⟨e78, e79, e80, e81, _⟩
     have b82 := And.intro b48 (And.intro d49 (And.intro d50 (And.intro d56 (And.intro d63 (And.intro g65 (And.intro n70 (And.intro n71 (And.intro H66 (And.intro d73 w74)))))))))
     cases d83 : (r76)
     ·simp only [d83, hs] at h
      try simp only [vz, tyf, b82, (zki d50), (zgk d50), (ix26 o75), (ztt d50), e78, e79, e80, e81, d83, nm, seval]
      replace h := kR64 _ h
      try dsimp only at h
      replace h := kR38 _ h
      try dsimp only at h
      obtain rfl := kF _ h
      exact zac Tryz.results20 rfl
     simp only [d83, hs] at h
     simp only [vz, tyf, b82, (zki d50), (zgk d50), (ix26 o75), (ztt d50), e78, e79, e80, e81, d83, nm, seval]
     exact ⟨List.length p64, Nat.lt_succ_self _, by rw [hI64]; refine ⟨p64, c64_4 + 1, rfl, Int.le_trans hi64 (Int.le_add_one (Int.le_refl _)), zbr hi64 hp64, rfl, (show nx38 + 17 ≤ nx64 + 18 by omega), ?_, e78, e79, ?_, h⟩ <;> first | (simp only [ua, b82, e78, e79, e80, e81, d83, nm, seval] <;> rfl) | rfl⟩
   simp only [d49, hs] at h
   obtain ⟨r84, o85, h⟩ := optI h kN38
   try simp only [hs] at h
   simp only [vz, tyf, b48, e41, e42, d49, (zkj d49), nm, seval]
   refine ktA (zdt _ _ _ _ o85) ?_
   refine zab (fun tm => tm 1 = .ptr 0 0 ∧ tm 3 = .lit (.int .i64 c38_3) ∧ tm 30 = .lit (.bool r84) ∧ True) (by refine ⟨e41, e42, ?_, trivial⟩ <;> first | (simp only [ua, b48, e41, e42, d49, nm, seval] <;> rfl) | rfl) ?_
   rintro tm ⟨e86, e87, e88, _⟩
   cases d89 : (r84)
   ·simp only [d89, hs] at h
    try simp only [vz, tyf, b48, d49, (zkj d49), e86, e87, e88, d89, nm, seval]
    replace h := kR38 _ h
    try dsimp only at h
    obtain rfl := kF _ h
    exact zac Tryz.results20 rfl
   simp only [d89, hs] at h
   obtain ⟨r90, o91, h⟩ := optI h kN38
   try simp only [hs] at h
   simp only [vz, tyf, b48, d49, (zkj d49), e86, e87, e88, d89, (zgl d49), nm, seval]
   refine ktA (zdy _ _ _ o91) ?_
   refine zab (fun tm => tm 1 = .ptr 0 0 ∧ tm 3 = .lit (.int .i64 c38_3) ∧ tm 32 = .lit (.bool false) ∧ tm 37 = .lit (.bool r90) ∧ True) (by refine ⟨e86, e87, ?_, ?_, trivial⟩ <;> first | (simp only [ua, b48, d49, e86, e87, e88, d89, nm, seval] <;> rfl) | rfl) ?_
   rintro tm ⟨e92, e93, e94, e95, _⟩
   cases d96 : (r90)
   ·simp only [d96, hs] at h
    try simp only [vz, tyf, b48, d49, (zkj d49), d89, (zgl d49), e92, e93, e94, e95, d96, nm, seval]
    replace h := kR38 _ h
    try dsimp only at h
    obtain rfl := kF _ h
    exact zac Tryz.results20 rfl
   simp only [d96, hs] at h
   cases g98 : (lenOk x0_s.Tins)
   ·simp only [g98, hs] at h
    exact absurd h kN38
   simp only [g98, hs] at h
   simp only [vz, tyf, b48, d49, (zkj d49), d89, (zgl d49), e92, e93, e94, e95, d96, g98, nm, seval]
   obtain ⟨K97, h, kR97, kG97, kB97, kN97⟩ := zax h kN38
   obtain ⟨f97, hf97, h⟩ := call2 h
   obtain ⟨I97, hI97⟩ : ∃ I : Nat → St → Prop, I = (fun m st => ∃ (p97 : List Gt) (c97_4 : Int), m = List.length p97 ∧ 0 ≤ c97_4 ∧ List.drop (Int.toNat c97_4) x0_s.Tins = p97 ∧ st.df = [] ∧ nx38 + 17 ≤ st.nx ∧ st.H 0 = some (.cells (some 28) (cGs x0_s)) ∧ st.tm 1 = .ptr 0 0 ∧ st.tm 3 = .lit (.int .i64 c38_3) ∧ st.tm 4 = .lit (.int .i64 c97_4) ∧ K97 (f97 p97 c97_4)) := ⟨_, rfl⟩
   refine loopK mixed (by kernel_rfl) I97 (List.length x0_s.Tins) (by rw [hI97]; refine ⟨x0_s.Tins, 0, rfl, Int.le_refl _, rfl, rfl, (show nx38 + 17 ≤ nx38 + 17 by omega), ?_, e92, e93, ?_, h⟩ <;> first | (simp only [ua, b48, d49, d89, e92, e93, e94, e95, d96, nm, seval] <;> rfl) | rfl) ?_
   rintro m ⟨tm, H, nx97, df⟩ hinv
   rw [hI97] at hinv
   obtain ⟨p97, c97_4, rfl, hi97, hp97, hdf, hn97, H99, e100, e101, e102, h⟩ := hinv
   simp only at hdf hn97 H99 e100 e101 e102
   have n103 := zcl (m := 20) (b := nx97) (by omega)
   have n104 := zof (a := nx38) (m := 17) (b := nx97) (by omega)
   subst hdf hf97
   cases p97 with
   | nil =>
    have d105 : (decide (c97_4 < (List.length x0_s.Tins : Int))) = false := zbe hi97 hp97
    simp only [zca, zcb, zbz, hs, reduceCtorEq] at h
    replace h := kG97 _ h
    try dsimp only at h
    try simp only [hs] at h
    simp only [vz, tyf, b48, d49, (zkj d49), d89, (zgl d49), d96, g98, n103, n104, e100, e101, e102, H99, d105, nm, seval]
    exact ⟨p38, Nat.lt_succ_self _, by rw [hI38]; refine ⟨p38, c38_3 + 1, rfl, zpj hi38, zhs hp38, rfl, (show 20 ≤ nx97 + 8 by omega), ?_, e100, ?_, h⟩ <;> first | (simp only [ua, b48, d49, d89, d96, n103, n104, e100, e101, e102, H99, d105, nm, seval] <;> rfl) | rfl⟩
   | cons e97 p97 =>
    have d106 : (decide (c97_4 < (List.length x0_s.Tins : Int))) = true := zcu hi97 hp97
    have o108 := zbb hi97 hp97
    have w107 := zds hi97 hp97 g98
    simp only [zca, zcb, zbz, hs, reduceCtorEq] at h
    obtain ⟨r109, o110, h⟩ := optI h kN97
    try simp only [hs] at h
    simp only [vz, tyf, b48, d49, (zkj d49), d89, (zgl d49), d96, g98, n103, n104, e100, e101, e102, H99, d106, (ix26 o108), w107, (zum d49), nm, seval]
    refine ktA (zdy _ _ _ o110) ?_
    refine zab (fun tm => tm 1 = .ptr 0 0 ∧ tm 3 = .lit (.int .i64 c38_3) ∧ tm 4 = .lit (.int .i64 c97_4) ∧ tm 55 = .lit (.bool r109) ∧ True) (by refine ⟨e100, e101, e102, ?_, trivial⟩ <;> first | (simp only [ua, b48, d49, d89, d96, n103, n104, e100, e101, e102, H99, d106, w107, nm, seval] <;> rfl) | rfl) ?_
    rintro tm ⟨e111, e112, e113, e114, _⟩
    have b115 := And.intro b48 (And.intro d49 (And.intro d89 (And.intro d96 (And.intro g98 (And.intro n103 (And.intro n104 (And.intro H99 (And.intro d106 w107))))))))
    cases d116 : (r109)
    ·simp only [d116, hs] at h
     try simp only [vz, tyf, b115, (zkj d49), (zgl d49), (ix26 o108), (zum d49), e111, e112, e113, e114, d116, nm, seval]
     replace h := kR97 _ h
     try dsimp only at h
     replace h := kR38 _ h
     try dsimp only at h
     obtain rfl := kF _ h
     exact zac Tryz.results20 rfl
    simp only [d116, hs] at h
    simp only [vz, tyf, b115, (zkj d49), (zgl d49), (ix26 o108), (zum d49), e111, e112, e113, e114, d116, nm, seval]
    exact ⟨List.length p97, Nat.lt_succ_self _, by rw [hI97]; refine ⟨p97, c97_4 + 1, rfl, Int.le_trans hi97 (Int.le_add_one (Int.le_refl _)), zbr hi97 hp97, rfl, (show nx38 + 17 ≤ nx97 + 18 by omega), ?_, e111, e112, ?_, h⟩ <;> first | (simp only [ua, b115, e111, e112, e113, e114, d116, nm, seval] <;> rfl) | rfl⟩
  simp only [d47, hs] at h
  have b117 := And.intro d25 (And.intro d31 (And.intro d37 (And.intro g39 (And.intro n43 (And.intro H40 (And.intro d45 (And.intro w46 d47)))))))
  obtain ⟨r118, o119, h⟩ := optI h kN38
  try simp only [hs] at h
  simp only [vz, tyf, b117, e41, e42, (zkg d47), nm, seval]
  refine ktA (zdt _ _ _ _ o119) ?_
  refine zab (fun tm => tm 1 = .ptr 0 0 ∧ tm 3 = .lit (.int .i64 c38_3) ∧ tm 30 = .lit (.bool r118) ∧ True) (by refine ⟨e41, e42, ?_, trivial⟩ <;> first | (simp only [ua, b117, e41, e42, nm, seval] <;> rfl) | rfl) ?_
  rintro tm ⟨e120, e121, e122, _⟩
  cases d123 : (r118)
  ·simp only [d123, hs] at h
   try simp only [vz, tyf, b117, (zkg d47), e120, e121, e122, d123, nm, seval]
   replace h := kR38 _ h
   try dsimp only at h
   obtain rfl := kF _ h
   exact zac Tryz.results20 rfl
  simp only [d123, hs] at h
  obtain ⟨r124, o125, h⟩ := optI h kN38
  try simp only [hs] at h
  simp only [vz, tyf, b117, (zkg d47), e120, e121, e122, d123, (zgm d47), nm, seval]
  refine ktA (zdy _ _ _ o125) ?_
  refine zab (fun tm => tm 1 = .ptr 0 0 ∧ tm 3 = .lit (.int .i64 c38_3) ∧ tm 32 = .lit (.bool false) ∧ tm 37 = .lit (.bool r124) ∧ True) (by refine ⟨e120, e121, ?_, ?_, trivial⟩ <;> first | (simp only [ua, b117, e120, e121, e122, d123, nm, seval] <;> rfl) | rfl) ?_
  rintro tm ⟨e126, e127, e128, e129, _⟩
  cases d130 : (r124)
  ·simp only [d130, hs] at h
   try simp only [vz, tyf, b117, (zkg d47), d123, (zgm d47), e126, e127, e128, e129, d130, nm, seval]
   replace h := kR38 _ h
   try dsimp only at h
   obtain rfl := kF _ h
   exact zac Tryz.results20 rfl
  simp only [d130, hs] at h
  cases g132 : (lenOk x0_s.Tins)
  ·simp only [g132, hs] at h
   exact absurd h kN38
  simp only [g132, hs] at h
  simp only [vz, tyf, b117, (zkg d47), d123, (zgm d47), e126, e127, e128, e129, d130, g132, nm, seval]
  obtain ⟨K131, h, kR131, kG131, kB131, kN131⟩ := zax h kN38
  obtain ⟨f131, hf131, h⟩ := call2 h
  obtain ⟨I131, hI131⟩ : ∃ I : Nat → St → Prop, I = (fun m st => ∃ (p131 : List Gt) (c131_4 : Int), m = List.length p131 ∧ 0 ≤ c131_4 ∧ List.drop (Int.toNat c131_4) x0_s.Tins = p131 ∧ st.df = [] ∧ nx38 + 17 ≤ st.nx ∧ st.H 0 = some (.cells (some 28) (cGs x0_s)) ∧ st.tm 1 = .ptr 0 0 ∧ st.tm 3 = .lit (.int .i64 c38_3) ∧ st.tm 4 = .lit (.int .i64 c131_4) ∧ K131 (f131 p131 c131_4)) := ⟨_, rfl⟩
  refine loopK mixed (by kernel_rfl) I131 (List.length x0_s.Tins) (by rw [hI131]; refine ⟨x0_s.Tins, 0, rfl, Int.le_refl _, rfl, rfl, (show nx38 + 17 ≤ nx38 + 17 by omega), ?_, e126, e127, ?_, h⟩ <;> first | (simp only [ua, b117, d123, e126, e127, e128, e129, d130, nm, seval] <;> rfl) | rfl) ?_
  rintro m ⟨tm, H, nx131, df⟩ hinv
  rw [hI131] at hinv
  obtain ⟨p131, c131_4, rfl, hi131, hp131, hdf, hn131, H133, e134, e135, e136, h⟩ := hinv
  simp only at hdf hn131 H133 e134 e135 e136
  have n137 := zcl (m := 20) (b := nx131) (by omega)
  have n138 := zof (a := nx38) (m := 17) (b := nx131) (by omega)
  subst hdf hf131
  cases p131 with
  | nil =>
   have d139 : (decide (c131_4 < (List.length x0_s.Tins : Int))) = false := zbe hi131 hp131
   simp only [zca, zcb, zbz, hs, reduceCtorEq] at h
   replace h := kG131 _ h
   try dsimp only at h
   try simp only [hs] at h
   simp only [vz, tyf, b117, (zkg d47), d123, (zgm d47), d130, g132, n137, n138, e134, e135, e136, H133, d139, nm, seval]
   exact ⟨p38, Nat.lt_succ_self _, by rw [hI38]; refine ⟨p38, c38_3 + 1, rfl, zpj hi38, zhs hp38, rfl, (show 20 ≤ nx131 + 8 by omega), ?_, e134, ?_, h⟩ <;> first | (simp only [ua, b117, d123, d130, n137, n138, e134, e135, e136, H133, d139, nm, seval] <;> rfl) | rfl⟩
  | cons e131 p131 =>
   have d140 : (decide (c131_4 < (List.length x0_s.Tins : Int))) = true := zcu hi131 hp131
   have o142 := zbb hi131 hp131
   have w141 := zds hi131 hp131 g132
   simp only [zca, zcb, zbz, hs, reduceCtorEq] at h
   obtain ⟨r143, o144, h⟩ := optI h kN131
   try simp only [hs] at h
   simp only [vz, tyf, b117, (zkg d47), d123, (zgm d47), d130, g132, n137, n138, e134, e135, e136, H133, d140, (ix26 o142), w141, (ztq d47), nm, seval]
   refine ktA (zdy _ _ _ o144) ?_
   refine zab (fun tm => tm 1 = .ptr 0 0 ∧ tm 3 = .lit (.int .i64 c38_3) ∧ tm 4 = .lit (.int .i64 c131_4) ∧ tm 55 = .lit (.bool r143) ∧ True) (by refine ⟨e134, e135, e136, ?_, trivial⟩ <;> first | (simp only [ua, b117, d123, d130, n137, n138, e134, e135, e136, H133, d140, w141, nm, seval] <;> rfl) | rfl) ?_
   rintro tm ⟨e145, e146, e147, e148, _⟩
   have b149 := And.intro b117 (And.intro d123 (And.intro d130 (And.intro g132 (And.intro n137 (And.intro n138 (And.intro H133 (And.intro d140 w141)))))))
   cases d150 : (r143)
   ·simp only [d150, hs] at h
    try simp only [vz, tyf, b149, (zkg d47), (zgm d47), (ix26 o142), (ztq d47), e145, e146, e147, e148, d150, nm, seval]
    replace h := kR131 _ h
    try dsimp only at h
    replace h := kR38 _ h
    try dsimp only at h
    obtain rfl := kF _ h
    exact zac Tryz.results20 rfl
   simp only [d150, hs] at h
   simp only [vz, tyf, b149, (zkg d47), (zgm d47), (ix26 o142), (ztq d47), e145, e146, e147, e148, d150, nm, seval]
   exact ⟨List.length p131, Nat.lt_succ_self _, by rw [hI131]; refine ⟨p131, c131_4 + 1, rfl, Int.le_trans hi131 (Int.le_add_one (Int.le_refl _)), zbr hi131 hp131, rfl, (show nx38 + 17 ≤ nx131 + 18 by omega), ?_, e145, e146, ?_, h⟩ <;> first | (simp only [ua, b149, e145, e146, e147, e148, d150, nm, seval] <;> rfl) | rfl⟩
end Go.V
end
section
namespace Go.V
open Go Go.Proofs
def zdn  : List Int → Int → Int → Option (LOut (Int) (Int))
 | [], c0_4, c0_3 => some (.go c0_3)
 | e0 :: p0, c0_4, c0_3 => zdn p0 (c0_4 + 1) (IntKind.i64.wrap (c0_3 + e0))
def zdw (x0_mix : List Int) : Option (Int) := cond (lenOk x0_mix) (lbind (zdn x0_mix 0 0) (fun r2 => some r2) (fun c1 => some c1) (fun _ _ => none)) none
theorem zew (x0_mix : List Int) (R : Int) (h : zdw x0_mix = some R) : VPure Tryz.prog G0 35 [.sl (cellsL eI x0_mix) (List.length x0_mix) false] (.tree (.lit (.int .i64 R))) := by
 refine VPure.runR mixed Tryz.call35 Tryz.func35 rfl (by simp [Tryz.ntmps35]; kernel_rfl) ?_
 obtain ⟨KF, h, kF, kN⟩ := zan h
 simp only [zdw] at h
 cases g4 : (lenOk x0_mix)
 ·simp only [g4, hs] at h
  exact absurd h kN
 simp only [g4, hs] at h
 simp only [vz, tyf, g4, nm, seval]
 obtain ⟨K3, h, kR3, kG3, kB3, kN3⟩ := zax h kN
 obtain ⟨f3, hf3, h⟩ := call3 h
 obtain ⟨I3, hI3⟩ : ∃ I : Nat → St → Prop, I = (fun m st => ∃ (p3 : List Int) (c3_4 : Int) (c3_3 : Int), m = List.length p3 ∧ 0 ≤ c3_4 ∧ List.drop (Int.toNat c3_4) x0_mix = p3 ∧ st.df = [] ∧ 3 ≤ st.nx ∧ st.tm 0 = .sl (cellsL eI x0_mix) (List.length x0_mix) false ∧ st.tm 3 = .lit (.int .i64 c3_3) ∧ st.tm 4 = .lit (.int .i64 c3_4) ∧ K3 (f3 p3 c3_4 c3_3)) := ⟨_, rfl⟩
 refine loopK mixed (by kernel_rfl) I3 (List.length x0_mix) (by rw [hI3]; refine ⟨x0_mix, 0, 0, rfl, Int.le_refl _, rfl, rfl, (show 3 ≤ 3 by omega), ?_, ?_, ?_, h⟩ <;> first | (simp only [ua, nm, seval] <;> rfl) | rfl) ?_
 rintro m ⟨tm, H, nx3, df⟩ hinv
 rw [hI3] at hinv
 obtain ⟨p3, c3_4, c3_3, rfl, hi3, hp3, hdf, hn3, e5, e6, e7, h⟩ := hinv
 simp only at hdf hn3 e5 e6 e7
 have n8 := zcl (m := 3) (b := nx3) (by omega)
 subst hdf hf3
 cases p3 with
 | nil =>
  have d9 : (decide (c3_4 < (List.length x0_mix : Int))) = false := zbe hi3 hp3
  simp only [zdn, hs, reduceCtorEq] at h
  replace h := kG3 _ h
  try dsimp only at h
  try simp only [hs] at h
  try simp only [vz, tyf, g4, n8, e5, e6, e7, d9, nm, seval]
  refine zat (x := (.lit (.int .i64 c3_3))) (by first | (simp only [Tryz.results35, resV, resL, resV1, zau, zbo, uw, cr, tyf, g4, n8, d9, nm, seval] <;> rfl) | rfl) ?_
  obtain rfl := kF _ h
  refine zaw ?_ ?_
  ·simp only [tre, tytre, Bool.and_self]
  ·first | (simp only [outV, uw, zaf, cr, tyf, nrm, tynrm, g4, n8, e5, e6, e7, d9, nm, seval] <;> rfl) | rfl
 | cons e3 p3 =>
  have d10 : (decide (c3_4 < (List.length x0_mix : Int))) = true := zcu hi3 hp3
  have o12 := zbb hi3 hp3
  have w11 := zds hi3 hp3 g4
  simp only [zdn, hs, reduceCtorEq] at h
  simp only [vz, tyf, g4, n8, e5, e6, e7, d10, (ix29 o12), w11, nm, seval]
  exact ⟨List.length p3, Nat.lt_succ_self _, by rw [hI3]; refine ⟨p3, c3_4 + 1, IntKind.i64.wrap (c3_3 + e3), rfl, Int.le_trans hi3 (Int.le_add_one (Int.le_refl _)), zbr hi3 hp3, rfl, (show 3 ≤ nx3 + 14 by omega), e5, ?_, ?_, h⟩ <;> first | (simp only [ua, n8, e5, e6, e7, d10, w11, nm, seval] <;> rfl) | rfl⟩
end Go.V
end
section
namespace Go.V
open Go Go.Proofs
def zex  : List Int → Int → Option (LOut (Bool) (Unit))
 | [], c0_5 => some (.go ())
 | e0 :: p0, c0_5 => Option.bind (zei e0 0 8) (fun r1 => cond (r1) (zex p0 (c0_5 + 1)) (some (.ret false)))
def zid (x0_s : Gs) (x1_mix : List Int) : Option (Bool) := cond (lenOk x1_mix) (lbind (zex x1_mix 0) (fun r5 => some r5) (fun c2 => cond ((List.length x1_mix : Int) == (List.length x0_s.Tins : Int)) (Option.bind (zdw x1_mix) (fun r3 => Option.bind (zei r3 1 8) (fun r4 => some r4))) (some false)) (fun _ _ => none)) none
theorem zqz (x0_s : Gs) (x1_mix : List Int) (R : Bool) (h : zid x0_s x1_mix = some R) : VPure Tryz.prog G0 22 [.agg (cGs x0_s), .sl (cellsL eI x1_mix) (List.length x1_mix) false] (.tree (.lit (.bool R))) := by
 refine VPure.runR mixed Tryz.call22 Tryz.func22 rfl (by simp [Tryz.ntmps22]; kernel_rfl) ?_
 obtain ⟨KF, h, kF, kN⟩ := zan h
 simp only [zid] at h
 cases g7 : (lenOk x1_mix)
 ·simp only [g7, hs] at h
  exact absurd h kN
 simp only [g7, hs] at h
 simp only [vz, tyf, g7, nm, seval]
 obtain ⟨K6, h, kR6, kG6, kB6, kN6⟩ := zax h kN
 obtain ⟨f6, hf6, h⟩ := call2 h
 obtain ⟨I6, hI6⟩ : ∃ I : Nat → St → Prop, I = (fun m st => ∃ (p6 : List Int) (c6_5 : Int), m = List.length p6 ∧ 0 ≤ c6_5 ∧ List.drop (Int.toNat c6_5) x1_mix = p6 ∧ st.df = [] ∧ 3 ≤ st.nx ∧ st.H 0 = some (.cells (some 28) (cGs x0_s)) ∧ st.tm 1 = .sl (cellsL eI x1_mix) (List.length x1_mix) false ∧ st.tm 2 = .ptr 0 0 ∧ st.tm 5 = .lit (.int .i64 c6_5) ∧ K6 (f6 p6 c6_5)) := ⟨_, rfl⟩
 refine loopK mixed (by kernel_rfl) I6 (List.length x1_mix) (by rw [hI6]; refine ⟨x1_mix, 0, rfl, Int.le_refl _, rfl, rfl, (show 3 ≤ 3 by omega), ?_, ?_, ?_, ?_, h⟩ <;> first | (simp only [ua, nm, seval] <;> rfl) | rfl) ?_
 rintro m ⟨tm, H, nx6, df⟩ hinv
 rw [hI6] at hinv
 obtain ⟨p6, c6_5, rfl, hi6, hp6, hdf, hn6, H8, e9, e10, e11, h⟩ := hinv
 simp only at hdf hn6 H8 e9 e10 e11
 have n12 := zcl (m := 3) (b := nx6) (by omega)
 subst hdf hf6
 cases p6 with
 | nil =>
  have d13 : (decide (c6_5 < (List.length x1_mix : Int))) = false := zbe hi6 hp6
  simp only [zex, hs, reduceCtorEq] at h
  replace h := kG6 _ h
  try dsimp only at h
  try simp only [hs] at h
  cases d14 : ((List.length x1_mix : Int) == (List.length x0_s.Tins : Int))
  ·simp only [d14, hs] at h
   try simp only [vz, tyf, g7, n12, e9, e10, e11, H8, d13, d14, nm, seval]
   obtain rfl := kF _ h
   exact zac Tryz.results22 rfl
  simp only [d14, hs] at h
  obtain ⟨r15, o16, h⟩ := optI h kN
  try simp only [hs] at h
  simp only [vz, tyf, g7, n12, e9, e10, e11, H8, d13, d14, nm, seval]
  refine ktA (zew _ _ o16) ?_
  refine zab (fun tm => tm 24 = .lit (.bool true) ∧ tm 26 = .lit (.int .i64 r15) ∧ True) (by refine ⟨?_, ?_, trivial⟩ <;> first | (simp only [ua, n12, e9, e10, e11, H8, d13, d14, nm, seval] <;> rfl) | rfl) ?_
  rintro tm ⟨e17, e18, _⟩
  obtain ⟨r19, o20, h⟩ := optI h kN
  try simp only [hs] at h
  simp only [vz, tyf, g7, n12, H8, d13, d14, e17, e18, nm, seval]
  refine ktA (zdt _ _ _ _ o20) ?_
  refine zab (fun tm => tm 24 = .lit (.bool true) ∧ tm 27 = .lit (.bool r19) ∧ True) (by refine ⟨e17, ?_, trivial⟩ <;> first | (simp only [ua, n12, H8, d13, d14, e17, e18, nm, seval] <;> rfl) | rfl) ?_
  rintro tm ⟨e21, e22, _⟩
  try simp only [vz, tyf, g7, n12, H8, d13, d14, e21, e22, nm, seval]
  obtain rfl := kF _ h
  exact zac Tryz.results22 rfl
 | cons e6 p6 =>
  have d23 : (decide (c6_5 < (List.length x1_mix : Int))) = true := zcu hi6 hp6
  have o25 := zbb hi6 hp6
  have w24 := zds hi6 hp6 g7
  simp only [zex, hs, reduceCtorEq] at h
  obtain ⟨r26, o27, h⟩ := optI h kN6
  try simp only [hs] at h
  simp only [vz, tyf, g7, n12, e9, e10, e11, H8, d23, (ix29 o25), w24, nm, seval]
  refine ktA (zdt _ _ _ _ o27) ?_
  refine zab (fun tm => tm 1 = .sl (cellsL eI x1_mix) (List.length x1_mix) false ∧ tm 2 = .ptr 0 0 ∧ tm 5 = .lit (.int .i64 c6_5) ∧ tm 16 = .lit (.bool r26) ∧ True) (by refine ⟨e9, e10, e11, ?_, trivial⟩ <;> first | (simp only [ua, n12, e9, e10, e11, H8, d23, w24, nm, seval] <;> rfl) | rfl) ?_
  rintro tm ⟨e28, e29, e30, e31, _⟩
  cases d32 : (r26)
  ·simp only [d32, hs] at h
   try simp only [vz, tyf, g7, n12, H8, d23, (ix29 o25), w24, e28, e29, e30, e31, d32, nm, seval]
   replace h := kR6 _ h
   try dsimp only at h
   obtain rfl := kF _ h
   exact zac Tryz.results22 rfl
  simp only [d32, hs] at h
  simp only [vz, tyf, g7, n12, H8, d23, (ix29 o25), w24, e28, e29, e30, e31, d32, nm, seval]
  exact ⟨List.length p6, Nat.lt_succ_self _, by rw [hI6]; refine ⟨p6, c6_5 + 1, rfl, Int.le_trans hi6 (Int.le_add_one (Int.le_refl _)), zbr hi6 hp6, rfl, (show 3 ≤ nx6 + 13 by omega), ?_, e28, e29, ?_, h⟩ <;> first | (simp only [ua, n12, H8, d23, w24, e28, e29, e30, e31, d32, nm, seval] <;> rfl) | rfl⟩
end Go.V
end
section
namespace Go.V
open Go Go.Proofs
end Go.V
end
section
namespace Go.V
open Go
theorem VPure.runRQ {P : Program} {G : Glob} (hm : P.follows .mixedOrders = true) {f : FuncId} {fn : Func} {code : Code} {args : List VV} {r : PRes} (hc : Callable P f) (hf : P.funcs[f]? = some fn) (hb : fn.body = some code)
  (hst : (decide (args.length ≤ fn.ntmps) && codeQ fn.ntmps code) = true) (h : CWp P (G.at (some none)) fn.ntmps code (OpenPostD P G fn (RR r) (RPn r)) { tm := argsTm args, H := fun _ => none, nx := 0, df := [] }) : VPure P G f args r := by
 rw [Bool.and_eq_true] at hst
 exact VPure.runR hm hc hf hb (by rw [Bool.and_eq_true]; exact ⟨hst.1, zhr hst.2⟩) h
end Go.V
end
section
namespace Go.V
open Go Go.Proofs
def zct (x0_s : Gs) (c0_6 : Int) : List Int → Int → Int → Int → Int → Int → Int → Int → Option (LOut (Ga) (Int × Int × Int × Int × Int × Int))
 | [], c1_7, c1_o0, c1_o1, c1_o2, c1_o3, c1_o4, c1_o5 => some (.go (c1_o0, c1_o1, c1_o2, c1_o3, c1_o4, c1_o5))
 | e1 :: p1, c1_7, c1_o0, c1_o1, c1_o2, c1_o3, c1_o4, c1_o5 => Option.bind (getI x0_s.Tins c1_7) (fun x5 => cond (c0_6 == 0) (zct x0_s c0_6 p1 (c1_7 + 1) (IntKind.i64.wrap (c1_o0 + (IntKind.i64.wrap (e1 * x5.pg.a0.Low)))) (IntKind.i64.wrap (c1_o1 + (IntKind.i64.wrap (e1 * x5.pg.a0.High)))) c1_o2 c1_o3 c1_o4 c1_o5) (cond (c0_6 == 1) (zct x0_s c0_6 p1 (c1_7 + 1) c1_o0 c1_o1 (IntKind.i64.wrap (c1_o2 + (IntKind.i64.wrap (e1 * x5.pg.a1.Low)))) (IntKind.i64.wrap (c1_o3 + (IntKind.i64.wrap (e1 * x5.pg.a1.High)))) c1_o4 c1_o5) (cond (c0_6 == 2) (zct x0_s c0_6 p1 (c1_7 + 1) c1_o0 c1_o1 c1_o2 c1_o3 (IntKind.i64.wrap (c1_o4 + (IntKind.i64.wrap (e1 * x5.pg.a2.Low)))) (IntKind.i64.wrap (c1_o5 + (IntKind.i64.wrap (e1 * x5.pg.a2.High))))) (none))))
def zff (x0_s : Gs) (x1_mix : List Int) : Nat → Int → Int → Int → Int → Int → Int → Int → Option (LOut (Ga) (Int × Int × Int × Int × Int × Int))
 | 0, c0_6, c0_o0, c0_o1, c0_o2, c0_o3, c0_o4, c0_o5 => some (.go (c0_o0, c0_o1, c0_o2, c0_o3, c0_o4, c0_o5))
 | k0 + 1, c0_6, c0_o0, c0_o1, c0_o2, c0_o3, c0_o4, c0_o5 => cond (lenOk x1_mix) (lbind (zct x0_s c0_6 x1_mix 0 c0_o0 c0_o1 c0_o2 c0_o3 c0_o4 c0_o5) (fun r7 => some (.ret r7)) (fun c6 => zff x0_s x1_mix k0 (c0_6 + 1) c6.1 c6.2.1 c6.2.2.1 c6.2.2.2.1 c6.2.2.2.2.1 c6.2.2.2.2.2) (fun _ _ => none)) none
def zfz (x0_s : Gs) (x1_mix : List Int) : Option (Ga) := cond (boundOk 3) (lbind (zff x0_s x1_mix (Int.toNat (3 - 0)) 0 0 0 0 0 0 0) (fun r9 => some r9) (fun c8 => some (Ga.mk (GSpan.mk c8.1 c8.2.1) (GSpan.mk c8.2.2.1 c8.2.2.2.1) (GSpan.mk c8.2.2.2.2.1 c8.2.2.2.2.2))) (fun _ _ => none)) none
theorem zkm (x0_s : Gs) (x1_mix : List Int) (R : Ga) (h : zfz x0_s x1_mix = some R) : VPure Tryz.prog G0 23 [.agg (cGs x0_s), .sl (cellsL eI x1_mix) (List.length x1_mix) false] (.tree (.agg (cGa R))) := by
 refine VPure.runRQ mixed Tryz.call23 Tryz.func23 rfl (by simp [Tryz.ntmps23]; kernel_rfl) ?_
 obtain ⟨KF, h, kF, kN⟩ := zan h
 simp only [zfz] at h
 cases g11 : (boundOk 3)
 ·simp only [g11, hs] at h
  exact absurd h kN
 simp only [g11, hs] at h
 simp only [vz, tyf, g11, nm, seval]
 obtain ⟨K10, h, kR10, kG10, kB10, kN10⟩ := zax h kN
 obtain ⟨f10, hf10, h⟩ := call8 h
 obtain ⟨I10, hI10⟩ : ∃ I : Nat → St → Prop, I = (fun m st => ∃ (p10 : Nat) (c10_6 : Int) (c10_o0 : Int) (c10_o1 : Int) (c10_o2 : Int) (c10_o3 : Int) (c10_o4 : Int) (c10_o5 : Int), p10 = m ∧ loOk c10_6 = true ∧ Int.toNat (3 - c10_6) = p10 ∧ st.df = [] ∧ 4 ≤ st.nx ∧ st.H 0 = some (.cells (some 28) (cGs x0_s)) ∧ st.H 1 = some (.cells (some 25) ([.lit (.int .i64 0)] ++ [.lit (.int .i64 0)] ++ [.lit (.int .i64 0)] ++ [.lit (.int .i64 0)] ++ [.lit (.int .i64 0)] ++ [.lit (.int .i64 0)])) ∧ st.H 2 = some (.cells (some 25) ([.lit (.int .i64 c10_o0)] ++ [.lit (.int .i64 c10_o1)] ++ [.lit (.int .i64 c10_o2)] ++ [.lit (.int .i64 c10_o3)] ++ [.lit (.int .i64 c10_o4)] ++ [.lit (.int .i64 c10_o5)])) ∧ st.tm 1 = .sl (cellsL eI x1_mix) (List.length x1_mix) false ∧ st.tm 2 = .ptr 0 0 ∧ st.tm 4 = .ptr 1 0 ∧ st.tm 5 = .ptr 2 0 ∧ st.tm 6 = .lit (.int .i64 c10_6) ∧ K10 (f10 p10 c10_6 c10_o0 c10_o1 c10_o2 c10_o3 c10_o4 c10_o5)) := ⟨_, rfl⟩
 refine loopK mixed (by kernel_rfl) I10 (Int.toNat (3 - 0)) (by rw [hI10]; refine ⟨Int.toNat (3 - 0), 0, 0, 0, 0, 0, 0, 0, rfl, (by rfl), rfl, rfl, (show 4 ≤ 4 by omega), ?_, ?_, ?_, ?_, ?_, ?_, ?_, ?_, h⟩ <;> first | (simp only [ua, nm, seval] <;> rfl) | rfl) ?_
 rintro m ⟨tm, H, nx10, df⟩ hinv
 rw [hI10] at hinv
 obtain ⟨p10, c10_6, c10_o0, c10_o1, c10_o2, c10_o3, c10_o4, c10_o5, rfl, hi10, hp10, hdf, hn10, H12, H13, H14, e15, e16, e17, e18, e19, h⟩ := hinv
 simp only at hdf hn10 H12 H13 H14 e15 e16 e17 e18 e19
 have n20 := zcl (m := 4) (b := nx10) (by omega)
 subst hdf hf10
 cases p10 with
 | zero =>
  have d21 : (decide (c10_6 < 3)) = false := zli hp10
  simp only [zff, hs, reduceCtorEq] at h
  replace h := kG10 _ h
  try dsimp only at h
  try simp only [hs] at h
  try simp only [vz, tyf, g11, n20, e15, e16, e17, e18, e19, H12, H13, H14, d21, nm, seval]
  refine zat (x := (.agg ([.lit (.int .i64 c10_o0)] ++ [.lit (.int .i64 c10_o1)] ++ [.lit (.int .i64 c10_o2)] ++ [.lit (.int .i64 c10_o3)] ++ [.lit (.int .i64 c10_o4)] ++ [.lit (.int .i64 c10_o5)]))) (by first | (simp only [Tryz.results23, resV, resL, resV1, zau, zbo, uw, cr, tyf, g11, n20, e15, e16, e17, e18, e19, H12, H13, H14, d21, nm, seval] <;> rfl) | rfl) ?_
  obtain rfl := kF _ h
  refine zaw ?_ ?_
  ·simp only [tre, tytre, Bool.and_self]
  ·first | (simp only [outV, uw, zaf, cr, tyf, nrm, tynrm, g11, n20, e15, e16, e17, e18, e19, H12, H13, H14, d21, nm, seval] <;> rfl) | rfl
 | succ p10 =>
  have d22 : (decide (c10_6 < 3)) = true := zahp hp10
  have w23 := zrn hi10 hp10 g11
  simp only [zff, hs, reduceCtorEq] at h
  cases g25 : (lenOk x1_mix)
  ·simp only [g25, hs] at h
   exact absurd h kN10
  simp only [g25, hs] at h
  simp only [vz, tyf, g11, n20, e15, e16, e17, e18, e19, H12, H13, H14, d22, w23, g25, nm, seval]
  obtain ⟨K24, h, kR24, kG24, kB24, kN24⟩ := zax h kN10
  obtain ⟨f24, hf24, h⟩ := call8 h
  obtain ⟨I24, hI24⟩ : ∃ I : Nat → St → Prop, I = (fun m st => ∃ (p24 : List Int) (c24_7 : Int) (c24_o0 : Int) (c24_o1 : Int) (c24_o2 : Int) (c24_o3 : Int) (c24_o4 : Int) (c24_o5 : Int), m = List.length p24 ∧ 0 ≤ c24_7 ∧ List.drop (Int.toNat c24_7) x1_mix = p24 ∧ st.df = [] ∧ nx10 + 3 ≤ st.nx ∧ st.H 0 = some (.cells (some 28) (cGs x0_s)) ∧ st.H 1 = some (.cells (some 25) ([.lit (.int .i64 0)] ++ [.lit (.int .i64 0)] ++ [.lit (.int .i64 0)] ++ [.lit (.int .i64 0)] ++ [.lit (.int .i64 0)] ++ [.lit (.int .i64 0)])) ∧ st.H 2 = some (.cells (some 25) ([.lit (.int .i64 c24_o0)] ++ [.lit (.int .i64 c24_o1)] ++ [.lit (.int .i64 c24_o2)] ++ [.lit (.int .i64 c24_o3)] ++ [.lit (.int .i64 c24_o4)] ++ [.lit (.int .i64 c24_o5)])) ∧ st.tm 1 = .sl (cellsL eI x1_mix) (List.length x1_mix) false ∧ st.tm 2 = .ptr 0 0 ∧ st.tm 4 = .ptr 1 0 ∧ st.tm 5 = .ptr 2 0 ∧ st.tm 6 = .lit (.int .i64 c10_6) ∧ st.tm 7 = .lit (.int .i64 c24_7) ∧ K24 (f24 p24 c24_7 c24_o0 c24_o1 c24_o2 c24_o3 c24_o4 c24_o5)) := ⟨_, rfl⟩
  refine loopK mixed (by kernel_rfl) I24 (List.length x1_mix) (by rw [hI24]; refine ⟨x1_mix, 0, c10_o0, c10_o1, c10_o2, c10_o3, c10_o4, c10_o5, rfl, Int.le_refl _, rfl, rfl, (show nx10 + 3 ≤ nx10 + 3 by omega), ?_, ?_, ?_, e15, e16, e17, e18, e19, ?_, h⟩ <;> first | (simp only [ua, n20, e15, e16, e17, e18, e19, H12, H13, H14, d22, w23, nm, seval] <;> rfl) | rfl) ?_
  rintro m ⟨tm, H, nx24, df⟩ hinv
  rw [hI24] at hinv
  obtain ⟨p24, c24_7, c24_o0, c24_o1, c24_o2, c24_o3, c24_o4, c24_o5, rfl, hi24, hp24, hdf, hn24, H26, H27, H28, e29, e30, e31, e32, e33, e34, h⟩ := hinv
  simp only at hdf hn24 H26 H27 H28 e29 e30 e31 e32 e33 e34
  have n35 := zcl (m := 4) (b := nx24) (by omega)
  have n36 := zof (a := nx10) (m := 3) (b := nx24) (by omega)
  subst hdf hf24
  cases p24 with
  | nil =>
   have d37 : (decide (c24_7 < (List.length x1_mix : Int))) = false := zbe hi24 hp24
   simp only [zct, hs, reduceCtorEq] at h
   replace h := kG24 _ h
   try dsimp only at h
   try simp only [hs] at h
   simp only [vz, tyf, g11, n20, d22, w23, g25, n35, n36, e29, e30, e31, e32, e33, e34, H26, H27, H28, d37, nm, seval]
   exact ⟨p10, Nat.lt_succ_self _, by rw [hI10]; refine ⟨p10, c10_6 + 1, c24_o0, c24_o1, c24_o2, c24_o3, c24_o4, c24_o5, rfl, zpj hi10, zhs hp10, rfl, (show 4 ≤ nx24 + 7 by omega), ?_, ?_, ?_, e29, e30, e31, e32, ?_, h⟩ <;> first | (simp only [ua, n20, d22, w23, n35, n36, e29, e30, e31, e32, e33, e34, H26, H27, H28, d37, nm, seval] <;> rfl) | rfl⟩
  | cons e24 p24 =>
   have d38 : (decide (c24_7 < (List.length x1_mix : Int))) = true := zcu hi24 hp24
   have o40 := zbb hi24 hp24
   have w39 := zds hi24 hp24 g25
   simp only [zct, hs, reduceCtorEq] at h
   obtain ⟨x41, o42, h⟩ := optI h kN24
   try simp only [hs] at h
   cases d43 : (c10_6 == 0)
   ·simp only [d43, hs] at h
    have b44 := And.intro g11 (And.intro n20 (And.intro d22 (And.intro w23 (And.intro g25 (And.intro n35 (And.intro n36 (And.intro H26 (And.intro H27 (And.intro H28 (And.intro d38 (And.intro w39 d43)))))))))))
    cases d45 : (c10_6 == 1)
    ·simp only [d45, hs] at h
     cases d46 : (c10_6 == 2)
     ·simp only [d46, hs] at h
      exact absurd h kN24
     simp only [d46, hs] at h
     simp only [vz, tyf, b44, e29, e30, e31, e32, e33, e34, (ix29 o40), (ix26 o42), d45, d46, (ztt d46), nm, seval]
     refine zcv (fun tm => tm 1 = .sl (cellsL eI x1_mix) (List.length x1_mix) false ∧ tm 2 = .ptr 0 0 ∧ tm 4 = .ptr 1 0 ∧ tm 5 = .ptr 2 0 ∧ tm 6 = .lit (.int .i64 c10_6) ∧ tm 7 = .lit (.int .i64 c24_7) ∧ tm 8 = .ptr (nx24 + 12) 0 ∧ True) (by refine ⟨e29, e30, e31, e32, e33, e34, ?_, trivial⟩ <;> first | (simp only [ua, b44, e29, e30, e31, e32, e33, e34, d45, d46, nm, seval] <;> rfl) | rfl) ?_
     rintro tm ⟨e47, e48, e49, e50, e51, e52, e53, _⟩
     simp only [vz, tyf, b44, (ix29 o40), (ix26 o42), d45, d46, (ztt d46), e47, e48, e49, e50, e51, e52, e53, (zgk d46), nm, seval]
     refine zcg ⟨?_, ?_⟩
     ·simp only [zbc, zbm, zai, zda, and_true, true_and]
      repeat' (first | exact trivial | refine And.intro ?_ ?_ | rw [zai] | rw [zce] | exact Or.inl (by decide +kernel) | exact Or.inl (by dsimp only; decide +kernel) | (refine Or.inr ⟨?_, ?_⟩ <;> simp; done) | (refine Or.inr ⟨?_, ?_⟩ <;> simp <;> omega) | (refine Or.inr ⟨?_, ?_⟩ <;> simp [VEff.wr] <;> omega))
     simp only [vz, tyf, b44, (ix29 o40), (ix26 o42), d45, d46, (ztt d46), e47, e48, e49, e50, e51, e52, e53, (zgk d46), nm, seval]
     exact ⟨List.length p24, Nat.lt_succ_self _, by rw [hI24]; refine ⟨p24, c24_7 + 1, c24_o0, c24_o1, c24_o2, c24_o3, IntKind.i64.wrap (c24_o4 + (IntKind.i64.wrap (e24 * x41.pg.a2.Low))), IntKind.i64.wrap (c24_o5 + (IntKind.i64.wrap (e24 * x41.pg.a2.High))), rfl, Int.le_trans hi24 (Int.le_add_one (Int.le_refl _)), zbr hi24 hp24, rfl, (show nx10 + 3 ≤ nx24 + 49 by omega), ?_, ?_, ?_, e47, e48, e49, e50, e51, ?_, h⟩ <;> first | (simp only [ua, b44, d45, d46, e47, e48, e49, e50, e51, e52, e53, nm, seval] <;> rfl) | rfl⟩
    simp only [d45, hs] at h
    simp only [vz, tyf, b44, e29, e30, e31, e32, e33, e34, (ix29 o40), (ix26 o42), d45, (zum d45), nm, seval]
    refine zcv (fun tm => tm 1 = .sl (cellsL eI x1_mix) (List.length x1_mix) false ∧ tm 2 = .ptr 0 0 ∧ tm 4 = .ptr 1 0 ∧ tm 5 = .ptr 2 0 ∧ tm 6 = .lit (.int .i64 c10_6) ∧ tm 7 = .lit (.int .i64 c24_7) ∧ tm 8 = .ptr (nx24 + 12) 0 ∧ True) (by refine ⟨e29, e30, e31, e32, e33, e34, ?_, trivial⟩ <;> first | (simp only [ua, b44, e29, e30, e31, e32, e33, e34, d45, nm, seval] <;> rfl) | rfl) ?_
    rintro tm ⟨e54, e55, e56, e57, e58, e59, e60, _⟩
    simp only [vz, tyf, b44, (ix29 o40), (ix26 o42), d45, (zum d45), e54, e55, e56, e57, e58, e59, e60, (zgl d45), nm, seval]
    refine zcg ⟨?_, ?_⟩
    ·simp only [zbc, zbm, zai, zda, and_true, true_and]
     repeat' (first | exact trivial | refine And.intro ?_ ?_ | rw [zai] | rw [zce] | exact Or.inl (by decide +kernel) | exact Or.inl (by dsimp only; decide +kernel) | (refine Or.inr ⟨?_, ?_⟩ <;> simp; done) | (refine Or.inr ⟨?_, ?_⟩ <;> simp <;> omega) | (refine Or.inr ⟨?_, ?_⟩ <;> simp [VEff.wr] <;> omega))
    simp only [vz, tyf, b44, (ix29 o40), (ix26 o42), d45, (zum d45), e54, e55, e56, e57, e58, e59, e60, (zgl d45), nm, seval]
    exact ⟨List.length p24, Nat.lt_succ_self _, by rw [hI24]; refine ⟨p24, c24_7 + 1, c24_o0, c24_o1, IntKind.i64.wrap (c24_o2 + (IntKind.i64.wrap (e24 * x41.pg.a1.Low))), IntKind.i64.wrap (c24_o3 + (IntKind.i64.wrap (e24 * x41.pg.a1.High))), c24_o4, c24_o5, rfl, Int.le_trans hi24 (Int.le_add_one (Int.le_refl _)), zbr hi24 hp24, rfl, (show nx10 + 3 ≤ nx24 + 49 by omega), ?_, ?_, ?_, e54, e55, e56, e57, e58, ?_, h⟩ <;> first | (simp only [ua, b44, d45, e54, e55, e56, e57, e58, e59, e60, nm, seval] <;> rfl) | rfl⟩
   simp only [d43, hs] at h
   have b61 := And.intro g11 (And.intro n20 (And.intro d22 (And.intro w23 (And.intro g25 (And.intro n35 (And.intro n36 (And.intro H26 (And.intro H27 (And.intro H28 (And.intro d38 (And.intro w39 d43)))))))))))
   simp only [vz, tyf, b61, e29, e30, e31, e32, e33, e34, (ix29 o40), (ix26 o42), (ztq d43), nm, seval]
   refine zcv (fun tm => tm 1 = .sl (cellsL eI x1_mix) (List.length x1_mix) false ∧ tm 2 = .ptr 0 0 ∧ tm 4 = .ptr 1 0 ∧ tm 5 = .ptr 2 0 ∧ tm 6 = .lit (.int .i64 c10_6) ∧ tm 7 = .lit (.int .i64 c24_7) ∧ tm 8 = .ptr (nx24 + 12) 0 ∧ True) (by refine ⟨e29, e30, e31, e32, e33, e34, ?_, trivial⟩ <;> first | (simp only [ua, b61, e29, e30, e31, e32, e33, e34, nm, seval] <;> rfl) | rfl) ?_
   rintro tm ⟨e62, e63, e64, e65, e66, e67, e68, _⟩
   simp only [vz, tyf, b61, (ix29 o40), (ix26 o42), (ztq d43), e62, e63, e64, e65, e66, e67, e68, (zgm d43), nm, seval]
   refine zcg ⟨?_, ?_⟩
   ·simp only [zbc, zbm, zai, zda, and_true, true_and]
    repeat' (first | exact trivial | refine And.intro ?_ ?_ | rw [zai] | rw [zce] | exact Or.inl (by decide +kernel) | exact Or.inl (by dsimp only; decide +kernel) | (refine Or.inr ⟨?_, ?_⟩ <;> simp; done) | (refine Or.inr ⟨?_, ?_⟩ <;> simp <;> omega) | (refine Or.inr ⟨?_, ?_⟩ <;> simp [VEff.wr] <;> omega))
   simp only [vz, tyf, b61, (ix29 o40), (ix26 o42), (ztq d43), e62, e63, e64, e65, e66, e67, e68, (zgm d43), nm, seval]
   exact ⟨List.length p24, Nat.lt_succ_self _, by rw [hI24]; refine ⟨p24, c24_7 + 1, IntKind.i64.wrap (c24_o0 + (IntKind.i64.wrap (e24 * x41.pg.a0.Low))), IntKind.i64.wrap (c24_o1 + (IntKind.i64.wrap (e24 * x41.pg.a0.High))), c24_o2, c24_o3, c24_o4, c24_o5, rfl, Int.le_trans hi24 (Int.le_add_one (Int.le_refl _)), zbr hi24 hp24, rfl, (show nx10 + 3 ≤ nx24 + 49 by omega), ?_, ?_, ?_, e62, e63, e64, e65, e66, ?_, h⟩ <;> first | (simp only [ua, b61, e62, e63, e64, e65, e66, e67, e68, nm, seval] <;> rfl) | rfl⟩
end Go.V
end
section
namespace Go.V
open Go Go.Proofs
end Go.V
end
section
namespace Go.V
open Go Go.Proofs
def zci (x0_s : Gs) (x1_p : Int) (x2_years : Int) (x3_fade : Int) : Option (Int) := cond (x1_p == 0) (some (if 0 < (IntKind.i64.wrap (x0_s.Old.a0 - (IntKind.i64.wrap (x2_years * x3_fade)))) then (IntKind.i64.wrap (x0_s.Old.a0 - (IntKind.i64.wrap (x2_years * x3_fade)))) else 0)) (cond (x1_p == 1) (some (if 0 < (IntKind.i64.wrap (x0_s.Old.a1 - (IntKind.i64.wrap (x2_years * x3_fade)))) then (IntKind.i64.wrap (x0_s.Old.a1 - (IntKind.i64.wrap (x2_years * x3_fade)))) else 0)) (cond (x1_p == 2) (some (if 0 < (IntKind.i64.wrap (x0_s.Old.a2 - (IntKind.i64.wrap (x2_years * x3_fade)))) then (IntKind.i64.wrap (x0_s.Old.a2 - (IntKind.i64.wrap (x2_years * x3_fade)))) else 0)) (none)))
theorem zcm (x0_s : Gs) (x1_p : Int) (x2_years : Int) (x3_fade : Int) (R : Int) (h : zci x0_s x1_p x2_years x3_fade = some R) : VPure Tryz.prog G0 32 [.agg (cGs x0_s), .lit (.int .i64 x1_p), .lit (.int .i64 x2_years), .lit (.int .i64 x3_fade)] (.tree (.lit (.int .i64 R))) := by
 refine VPure.runR mixed Tryz.call32 Tryz.func32 rfl (by simp [Tryz.ntmps32]; kernel_rfl) ?_
 obtain ⟨KF, h, kF, kN⟩ := zan h
 simp only [zci] at h
 cases d1 : (x1_p == 0)
 ·simp only [d1, hs] at h
  cases d2 : (x1_p == 1)
  ·simp only [d2, hs] at h
   cases d3 : (x1_p == 2)
   ·simp only [d3, hs] at h
    exact absurd h kN
   simp only [d3, hs] at h
   try simp only [vz, tyf, d1, d2, d3, (zki d3), nm, seval]
   refine zat (x := (.lit (.int .i64 (if 0 < (IntKind.i64.wrap (x0_s.Old.a2 - (IntKind.i64.wrap (x2_years * x3_fade)))) then (IntKind.i64.wrap (x0_s.Old.a2 - (IntKind.i64.wrap (x2_years * x3_fade)))) else 0)))) (by first | (simp only [Tryz.results32, resV, resL, resV1, zau, zbo, uw, cr, tyf, d1, d2, d3, (zki d3), nm, seval] <;> rfl) | rfl) ?_
   obtain rfl := kF _ h
   refine zaw ?_ ?_
   ·simp only [tre, tytre, Bool.and_self]
   ·first | (simp only [outV, uw, zaf, cr, tyf, nrm, tynrm, d1, d2, d3, (zki d3), nm, seval] <;> rfl) | rfl
  simp only [d2, hs] at h
  try simp only [vz, tyf, d1, d2, (zkj d2), nm, seval]
  refine zat (x := (.lit (.int .i64 (if 0 < (IntKind.i64.wrap (x0_s.Old.a1 - (IntKind.i64.wrap (x2_years * x3_fade)))) then (IntKind.i64.wrap (x0_s.Old.a1 - (IntKind.i64.wrap (x2_years * x3_fade)))) else 0)))) (by first | (simp only [Tryz.results32, resV, resL, resV1, zau, zbo, uw, cr, tyf, d1, d2, (zkj d2), nm, seval] <;> rfl) | rfl) ?_
  obtain rfl := kF _ h
  refine zaw ?_ ?_
  ·simp only [tre, tytre, Bool.and_self]
  ·first | (simp only [outV, uw, zaf, cr, tyf, nrm, tynrm, d1, d2, (zkj d2), nm, seval] <;> rfl) | rfl
 simp only [d1, hs] at h
 try simp only [vz, tyf, d1, (zkg d1), nm, seval]
 refine zat (x := (.lit (.int .i64 (if 0 < (IntKind.i64.wrap (x0_s.Old.a0 - (IntKind.i64.wrap (x2_years * x3_fade)))) then (IntKind.i64.wrap (x0_s.Old.a0 - (IntKind.i64.wrap (x2_years * x3_fade)))) else 0)))) (by first | (simp only [Tryz.results32, resV, resL, resV1, zau, zbo, uw, cr, tyf, d1, (zkg d1), nm, seval] <;> rfl) | rfl) ?_
 obtain rfl := kF _ h
 refine zaw ?_ ?_
 ·simp only [tre, tytre, Bool.and_self]
 ·first | (simp only [outV, uw, zaf, cr, tyf, nrm, tynrm, d1, (zkg d1), nm, seval] <;> rfl) | rfl
end Go.V
end
section
namespace Go.V
open Go Go.Proofs
def zeg (x0_s : Gs) : Nat → Int → Int → Int → Int → Int → Int → Int → Option (LOut (Ga) (Int × Int × Int × Int × Int × Int))
 | 0, c0_4, c0_o0, c0_o1, c0_o2, c0_o3, c0_o4, c0_o5 => some (.go (c0_o0, c0_o1, c0_o2, c0_o3, c0_o4, c0_o5))
 | k0 + 1, c0_4, c0_o0, c0_o1, c0_o2, c0_o3, c0_o4, c0_o5 => cond (c0_4 == 0) (Option.bind (zci x0_s c0_4 x0_s.Years.High x0_s.Fade.a0.High) (fun r7 => Option.bind (zci x0_s c0_4 x0_s.Years.Low x0_s.Fade.a0.Low) (fun r8 => zeg x0_s k0 (c0_4 + 1) r7 r8 c0_o2 c0_o3 c0_o4 c0_o5))) (cond (c0_4 == 1) (Option.bind (zci x0_s c0_4 x0_s.Years.High x0_s.Fade.a1.High) (fun r9 => Option.bind (zci x0_s c0_4 x0_s.Years.Low x0_s.Fade.a1.Low) (fun r10 => zeg x0_s k0 (c0_4 + 1) c0_o0 c0_o1 r9 r10 c0_o4 c0_o5))) (cond (c0_4 == 2) (Option.bind (zci x0_s c0_4 x0_s.Years.High x0_s.Fade.a2.High) (fun r11 => Option.bind (zci x0_s c0_4 x0_s.Years.Low x0_s.Fade.a2.Low) (fun r12 => zeg x0_s k0 (c0_4 + 1) c0_o0 c0_o1 c0_o2 c0_o3 r11 r12))) (none)))
def zhv (x0_s : Gs) : Option (Ga) := cond (boundOk 3) (lbind (zeg x0_s (Int.toNat (3 - 0)) 0 0 0 0 0 0 0) (fun r14 => some r14) (fun c13 => some (Ga.mk (GSpan.mk c13.1 c13.2.1) (GSpan.mk c13.2.2.1 c13.2.2.2.1) (GSpan.mk c13.2.2.2.2.1 c13.2.2.2.2.2))) (fun _ _ => none)) none
theorem zrf (x0_s : Gs) (R : Ga) (h : zhv x0_s = some R) : VPure Tryz.prog G0 21 [.agg (cGs x0_s)] (.tree (.agg (cGa R))) := by
 refine VPure.runR mixed Tryz.call21 Tryz.func21 rfl (by simp [Tryz.ntmps21]; kernel_rfl) ?_
 obtain ⟨KF, h, kF, kN⟩ := zan h
 simp only [zhv] at h
 cases g16 : (boundOk 3)
 ·simp only [g16, hs] at h
  exact absurd h kN
 simp only [g16, hs] at h
 simp only [vz, tyf, g16, nm, seval]
 obtain ⟨K15, h, kR15, kG15, kB15, kN15⟩ := zax h kN
 obtain ⟨f15, hf15, h⟩ := call8 h
 obtain ⟨I15, hI15⟩ : ∃ I : Nat → St → Prop, I = (fun m st => ∃ (p15 : Nat) (c15_4 : Int) (c15_o0 : Int) (c15_o1 : Int) (c15_o2 : Int) (c15_o3 : Int) (c15_o4 : Int) (c15_o5 : Int), p15 = m ∧ loOk c15_4 = true ∧ Int.toNat (3 - c15_4) = p15 ∧ st.df = [] ∧ 4 ≤ st.nx ∧ st.H 0 = some (.cells (some 28) (cGs x0_s)) ∧ st.H 1 = some (.cells (some 25) ([.lit (.int .i64 0)] ++ [.lit (.int .i64 0)] ++ [.lit (.int .i64 0)] ++ [.lit (.int .i64 0)] ++ [.lit (.int .i64 0)] ++ [.lit (.int .i64 0)])) ∧ st.H 2 = some (.cells (some 25) ([.lit (.int .i64 c15_o0)] ++ [.lit (.int .i64 c15_o1)] ++ [.lit (.int .i64 c15_o2)] ++ [.lit (.int .i64 c15_o3)] ++ [.lit (.int .i64 c15_o4)] ++ [.lit (.int .i64 c15_o5)])) ∧ st.tm 1 = .ptr 0 0 ∧ st.tm 2 = .ptr 1 0 ∧ st.tm 3 = .ptr 2 0 ∧ st.tm 4 = .lit (.int .i64 c15_4) ∧ K15 (f15 p15 c15_4 c15_o0 c15_o1 c15_o2 c15_o3 c15_o4 c15_o5)) := ⟨_, rfl⟩
 refine loopK mixed (by kernel_rfl) I15 (Int.toNat (3 - 0)) (by rw [hI15]; refine ⟨Int.toNat (3 - 0), 0, 0, 0, 0, 0, 0, 0, rfl, (by rfl), rfl, rfl, (show 4 ≤ 4 by omega), ?_, ?_, ?_, ?_, ?_, ?_, ?_, h⟩ <;> first | (simp only [ua, nm, seval] <;> rfl) | rfl) ?_
 rintro m ⟨tm, H, nx15, df⟩ hinv
 rw [hI15] at hinv
 obtain ⟨p15, c15_4, c15_o0, c15_o1, c15_o2, c15_o3, c15_o4, c15_o5, rfl, hi15, hp15, hdf, hn15, H17, H18, H19, e20, e21, e22, e23, h⟩ := hinv
 simp only at hdf hn15 H17 H18 H19 e20 e21 e22 e23
 have n24 := zcl (m := 4) (b := nx15) (by omega)
 subst hdf hf15
 cases p15 with
 | zero =>
  have d25 : (decide (c15_4 < 3)) = false := zli hp15
  simp only [zeg, hs, reduceCtorEq] at h
  replace h := kG15 _ h
  try dsimp only at h
  try simp only [hs] at h
  try simp only [vz, tyf, g16, n24, e20, e21, e22, e23, H17, H18, H19, d25, nm, seval]
  refine zat (x := (.agg ([.lit (.int .i64 c15_o0)] ++ [.lit (.int .i64 c15_o1)] ++ [.lit (.int .i64 c15_o2)] ++ [.lit (.int .i64 c15_o3)] ++ [.lit (.int .i64 c15_o4)] ++ [.lit (.int .i64 c15_o5)]))) (by first | (simp only [Tryz.results21, resV, resL, resV1, zau, zbo, uw, cr, tyf, g16, n24, e20, e21, e22, e23, H17, H18, H19, d25, nm, seval] <;> rfl) | rfl) ?_
  obtain rfl := kF _ h
  refine zaw ?_ ?_
  ·simp only [tre, tytre, Bool.and_self]
  ·first | (simp only [outV, uw, zaf, cr, tyf, nrm, tynrm, g16, n24, e20, e21, e22, e23, H17, H18, H19, d25, nm, seval] <;> rfl) | rfl
 | succ p15 =>
  have d26 : (decide (c15_4 < 3)) = true := zahp hp15
  have w27 := zrn hi15 hp15 g16
  simp only [zeg, hs, reduceCtorEq] at h
  simp only [vz, tyf, g16, n24, e20, e21, e22, e23, H17, H18, H19, d26, w27, nm, seval]
  refine zcv (fun tm => tm 1 = .ptr 0 0 ∧ tm 2 = .ptr 1 0 ∧ tm 3 = .ptr 2 0 ∧ tm 4 = .lit (.int .i64 c15_4) ∧ True) (by refine ⟨e20, e21, e22, e23, trivial⟩ <;> first | (simp only [ua, n24, e20, e21, e22, e23, H17, H18, H19, d26, w27, nm, seval] <;> rfl) | rfl) ?_
  rintro tm ⟨e28, e29, e30, e31, _⟩
  have b32 := And.intro g16 (And.intro n24 (And.intro H17 (And.intro H18 (And.intro H19 (And.intro d26 w27)))))
  cases d33 : (c15_4 == 0)
  ·simp only [d33, hs] at h
   cases d34 : (c15_4 == 1)
   ·simp only [d34, hs] at h
    cases d35 : (c15_4 == 2)
    ·simp only [d35, hs] at h
     exact absurd h kN15
    simp only [d35, hs] at h
    obtain ⟨r36, o37, h⟩ := optI h kN15
    try simp only [hs] at h
    simp only [vz, tyf, b32, e28, e29, e30, e31, d33, d34, d35, (zgk d35), nm, seval]
    refine dktA (zcm _ _ _ _ _ o37) ?_
    refine zab (fun tm => tm 1 = .ptr 0 0 ∧ tm 2 = .ptr 1 0 ∧ tm 3 = .ptr 2 0 ∧ tm 4 = .lit (.int .i64 c15_4) ∧ tm 9 = .lit (.int .i64 c15_4) ∧ tm 20 = .lit (.int .i64 r36) ∧ True) (by refine ⟨e28, e29, e30, e31, ?_, ?_, trivial⟩ <;> first | (simp only [ua, b32, e28, e29, e30, e31, d33, d34, d35, nm, seval] <;> rfl) | rfl) ?_
    rintro tm ⟨e38, e39, e40, e41, e42, e43, _⟩
    obtain ⟨r44, o45, h⟩ := optI h kN15
    try simp only [hs] at h
    simp only [vz, tyf, b32, d33, d34, d35, (zgk d35), e38, e39, e40, e41, e42, e43, nm, seval]
    refine dktA (zcm _ _ _ _ _ o45) ?_
    refine zab (fun tm => tm 1 = .ptr 0 0 ∧ tm 2 = .ptr 1 0 ∧ tm 3 = .ptr 2 0 ∧ tm 4 = .lit (.int .i64 c15_4) ∧ tm 9 = .lit (.int .i64 c15_4) ∧ tm 20 = .lit (.int .i64 r36) ∧ tm 31 = .lit (.int .i64 r44) ∧ True) (by refine ⟨e38, e39, e40, e41, e42, e43, ?_, trivial⟩ <;> first | (simp only [ua, b32, d33, d34, d35, e38, e39, e40, e41, e42, e43, nm, seval] <;> rfl) | rfl) ?_
    rintro tm ⟨e46, e47, e48, e49, e50, e51, e52, _⟩
    simp only [vz, tyf, b32, d33, d34, d35, (zgk d35), e46, e47, e48, e49, e50, e51, e52, nm, seval]
    refine zcg ⟨?_, ?_⟩
    ·simp only [zbc, zbm, zai, zda, and_true, true_and]
     repeat' (first | exact trivial | refine And.intro ?_ ?_ | rw [zai] | rw [zce] | exact Or.inl (by decide +kernel) | exact Or.inl (by dsimp only; decide +kernel) | (refine Or.inr ⟨?_, ?_⟩ <;> simp; done) | (refine Or.inr ⟨?_, ?_⟩ <;> simp <;> omega) | (refine Or.inr ⟨?_, ?_⟩ <;> simp [VEff.wr] <;> omega))
    simp only [vz, tyf, b32, d33, d34, d35, (zgk d35), e46, e47, e48, e49, e50, e51, e52, nm, seval]
    exact ⟨p15, Nat.lt_succ_self _, by rw [hI15]; refine ⟨p15, c15_4 + 1, c15_o0, c15_o1, c15_o2, c15_o3, r36, r44, rfl, zpj hi15, zhs hp15, rfl, (show 4 ≤ nx15 + 31 by omega), ?_, ?_, ?_, e46, e47, e48, ?_, h⟩ <;> first | (simp only [ua, b32, d33, d34, d35, e46, e47, e48, e49, e50, e51, e52, nm, seval] <;> rfl) | rfl⟩
   simp only [d34, hs] at h
   obtain ⟨r53, o54, h⟩ := optI h kN15
   try simp only [hs] at h
   simp only [vz, tyf, b32, e28, e29, e30, e31, d33, d34, (zgl d34), nm, seval]
   refine dktA (zcm _ _ _ _ _ o54) ?_
   refine zab (fun tm => tm 1 = .ptr 0 0 ∧ tm 2 = .ptr 1 0 ∧ tm 3 = .ptr 2 0 ∧ tm 4 = .lit (.int .i64 c15_4) ∧ tm 9 = .lit (.int .i64 c15_4) ∧ tm 20 = .lit (.int .i64 r53) ∧ True) (by refine ⟨e28, e29, e30, e31, ?_, ?_, trivial⟩ <;> first | (simp only [ua, b32, e28, e29, e30, e31, d33, d34, nm, seval] <;> rfl) | rfl) ?_
   rintro tm ⟨e55, e56, e57, e58, e59, e60, _⟩
   obtain ⟨r61, o62, h⟩ := optI h kN15
   try simp only [hs] at h
   simp only [vz, tyf, b32, d33, d34, (zgl d34), e55, e56, e57, e58, e59, e60, nm, seval]
   refine dktA (zcm _ _ _ _ _ o62) ?_
   refine zab (fun tm => tm 1 = .ptr 0 0 ∧ tm 2 = .ptr 1 0 ∧ tm 3 = .ptr 2 0 ∧ tm 4 = .lit (.int .i64 c15_4) ∧ tm 9 = .lit (.int .i64 c15_4) ∧ tm 20 = .lit (.int .i64 r53) ∧ tm 31 = .lit (.int .i64 r61) ∧ True) (by refine ⟨e55, e56, e57, e58, e59, e60, ?_, trivial⟩ <;> first | (simp only [ua, b32, d33, d34, e55, e56, e57, e58, e59, e60, nm, seval] <;> rfl) | rfl) ?_
   rintro tm ⟨e63, e64, e65, e66, e67, e68, e69, _⟩
   simp only [vz, tyf, b32, d33, d34, (zgl d34), e63, e64, e65, e66, e67, e68, e69, nm, seval]
   refine zcg ⟨?_, ?_⟩
   ·simp only [zbc, zbm, zai, zda, and_true, true_and]
    repeat' (first | exact trivial | refine And.intro ?_ ?_ | rw [zai] | rw [zce] | exact Or.inl (by decide +kernel) | exact Or.inl (by dsimp only; decide +kernel) | (refine Or.inr ⟨?_, ?_⟩ <;> simp; done) | (refine Or.inr ⟨?_, ?_⟩ <;> simp <;> omega) | (refine Or.inr ⟨?_, ?_⟩ <;> simp [VEff.wr] <;> omega))
   simp only [vz, tyf, b32, d33, d34, (zgl d34), e63, e64, e65, e66, e67, e68, e69, nm, seval]
   exact ⟨p15, Nat.lt_succ_self _, by rw [hI15]; refine ⟨p15, c15_4 + 1, c15_o0, c15_o1, r53, r61, c15_o4, c15_o5, rfl, zpj hi15, zhs hp15, rfl, (show 4 ≤ nx15 + 31 by omega), ?_, ?_, ?_, e63, e64, e65, ?_, h⟩ <;> first | (simp only [ua, b32, d33, d34, e63, e64, e65, e66, e67, e68, e69, nm, seval] <;> rfl) | rfl⟩
  simp only [d33, hs] at h
  obtain ⟨r70, o71, h⟩ := optI h kN15
  try simp only [hs] at h
  simp only [vz, tyf, b32, e28, e29, e30, e31, d33, (zgm d33), nm, seval]
  refine dktA (zcm _ _ _ _ _ o71) ?_
  refine zab (fun tm => tm 1 = .ptr 0 0 ∧ tm 2 = .ptr 1 0 ∧ tm 3 = .ptr 2 0 ∧ tm 4 = .lit (.int .i64 c15_4) ∧ tm 9 = .lit (.int .i64 c15_4) ∧ tm 20 = .lit (.int .i64 r70) ∧ True) (by refine ⟨e28, e29, e30, e31, ?_, ?_, trivial⟩ <;> first | (simp only [ua, b32, e28, e29, e30, e31, d33, nm, seval] <;> rfl) | rfl) ?_
  rintro tm ⟨e72, e73, e74, e75, e76, e77, _⟩
  obtain ⟨r78, o79, h⟩ := optI h kN15
  try simp only [hs] at h
  simp only [vz, tyf, b32, d33, (zgm d33), e72, e73, e74, e75, e76, e77, nm, seval]
  refine dktA (zcm _ _ _ _ _ o79) ?_
  refine zab (fun tm => tm 1 = .ptr 0 0 ∧ tm 2 = .ptr 1 0 ∧ tm 3 = .ptr 2 0 ∧ tm 4 = .lit (.int .i64 c15_4) ∧ tm 9 = .lit (.int .i64 c15_4) ∧ tm 20 = .lit (.int .i64 r70) ∧ tm 31 = .lit (.int .i64 r78) ∧ True) (by refine ⟨e72, e73, e74, e75, e76, e77, ?_, trivial⟩ <;> first | (simp only [ua, b32, d33, e72, e73, e74, e75, e76, e77, nm, seval] <;> rfl) | rfl) ?_
  rintro tm ⟨e80, e81, e82, e83, e84, e85, e86, _⟩
  simp only [vz, tyf, b32, d33, (zgm d33), e80, e81, e82, e83, e84, e85, e86, nm, seval]
  refine zcg ⟨?_, ?_⟩
  ·simp only [zbc, zbm, zai, zda, and_true, true_and]
   repeat' (first | exact trivial | refine And.intro ?_ ?_ | rw [zai] | rw [zce] | exact Or.inl (by decide +kernel) | exact Or.inl (by dsimp only; decide +kernel) | (refine Or.inr ⟨?_, ?_⟩ <;> simp; done) | (refine Or.inr ⟨?_, ?_⟩ <;> simp <;> omega) | (refine Or.inr ⟨?_, ?_⟩ <;> simp [VEff.wr] <;> omega))
  simp only [vz, tyf, b32, d33, (zgm d33), e80, e81, e82, e83, e84, e85, e86, nm, seval]
  exact ⟨p15, Nat.lt_succ_self _, by rw [hI15]; refine ⟨p15, c15_4 + 1, r70, r78, c15_o2, c15_o3, c15_o4, c15_o5, rfl, zpj hi15, zhs hp15, rfl, (show 4 ≤ nx15 + 31 by omega), ?_, ?_, ?_, e80, e81, e82, ?_, h⟩ <;> first | (simp only [ua, b32, d33, e80, e81, e82, e83, e84, e85, e86, nm, seval] <;> rfl) | rfl⟩
end Go.V
end
section
namespace Go.V
open Go Go.Proofs
def zhl (x0_s : Gs) : Option (Bool) := some (decide ((List.length x0_s.Tins : Int) ≤ 6))
theorem zok (x0_s : Gs) (R : Bool) (h : zhl x0_s = some R) : VPure Tryz.prog G0 15 [.agg (cGs x0_s)] (.tree (.lit (.bool R))) := by
 refine VPure.runR mixed Tryz.call15 Tryz.func15 rfl (by simp [Tryz.ntmps15]; kernel_rfl) ?_
 obtain ⟨KF, h, kF, kN⟩ := zan h
 simp only [zhl] at h
 try simp only [vz, tyf, nm, seval]
 obtain rfl := kF _ h
 exact zac Tryz.results15 rfl
end Go.V
end
section
namespace Go.V
open Go Go.Proofs
end Go.V
end
section
namespace Go.V
open Go
inductive P3 where
 | p0
 | p1
 | p2
def P3.i : P3 → Int
 | .p0 => 0
 | .p1 => 1
 | .p2 => 2
def selS (c : Ga) : P3 → GSpan
 | .p0 => c.a0
 | .p1 => c.a1
 | .p2 => c.a2
def selI (c : Gi) : P3 → Int
 | .p0 => c.a0
 | .p1 => c.a1
 | .p2 => c.a2
theorem zni (a n b : Int) : zdx a n b = some (inB a b n) := csome _ _
theorem zaic (n a b : Int) : zei n a b = some (inB a b n) := csome _ _
def spB (m : Int) (x : GSpan) : Bool := decide (0 ≤ x.Low) && (decide (x.Low ≤ x.High) && decide (x.High ≤ m))
theorem zaek {m : Int} {x : GSpan} : spB m x = true ↔ 0 ≤ x.Low ∧ x.Low ≤ x.High ∧ x.High ≤ m := by simp [spB]
theorem zyn (x : GSpan) (m : Int) : zel 0 x m = some (spB m x) := by
 unfold zel spB
 cases decide (0 ≤ x.Low) <;> cases decide (x.Low ≤ x.High) <;> rfl
theorem zri (x : GSpan) (m : Int) : zdo x m = some (spB m x) := by
 unfold zdo
 simp only [zaic, Option.bind_some]
 rw [csome]
 congr 1
 rw [Bool.eq_iff_iff]
 simp only [Bool.and_eq_true, zkl, zaek]
 omega
theorem zsm (a b : Int) : ∀ (p : List Int) (c : Int), zcw a b p c = goB (p.all (inB a b))
 | [], _ => rfl
 | e :: p, c => by
  simp only [zcw, zni, Option.bind_some, zsm a b p, List.all_cons, znu]
theorem zun (a b : Int) {x : List Int} (h : lenOk x = true) : zec a x b = some (x.all (inB a b)) := by
 unfold zec
 rw [h, zsm, zle]
 cases x.all (inB a b) <;> rfl
theorem zqi (b : Int) : ∀ (p : List GSpan) (c : Int), zcq 0 b p c = goB (p.all (spB b))
 | [], _ => rfl
 | e :: p, c => by
  simp only [zcq, zyn, Option.bind_some, zqi b p, List.all_cons, znu]
theorem zql (b : Int) {x : List GSpan} (h : lenOk x = true) : zcy 0 x b = some (x.all (spB b)) := by
 unfold zcy
 rw [h, zqi, zle]
 cases x.all (spB b) <;> rfl
def tinB (t : Gt) : Bool := spB 99 t.pg.a0 && (spB 99 t.pg.a1 && spB 99 t.pg.a2)
def sheetB (s : Gs) : Bool := (inB 0 99 s.Old.a0 && (inB 0 99 s.Old.a1 && inB 0 99 s.Old.a2)) && ((spB 9 s.Fade.a0 && (spB 9 s.Fade.a1 && spB 9 s.Fade.a2)) && (spB 20 s.Years && (inB 1 20 s.Off && (inB 1 4 s.Tins.length && s.Tins.all tinB))))
theorem zsv : ∀ (p : List Gt) (c : Int), zdq p c = goB (p.all tinB)
 | [], _ => rfl
 | e :: p, c => by
  have h : zcy 0 [e.pg.a0, e.pg.a1, e.pg.a2] 99 = some (tinB e) := by
   rw [zql 99 (zir (by simp only [List.length_cons, List.length_nil]; decide))]
   simp only [List.all_cons, List.all_nil, Bool.and_true]
   rfl
  simp only [zdq, h, Option.bind_some, zsv p, List.all_cons, znu]
theorem ztm {s : Gs} (h : lenOk s.Tins = true) : zbl s = some (sheetB s) := by
 unfold zbl zgp
 rw [zun 0 99 (zir (by simp only [List.length_cons, List.length_nil]; decide)), zql 9 (zir (by simp only [List.length_cons, List.length_nil]; decide)), zyn, zni, zni, h, zsv, zle]
 simp only [List.all_cons, List.all_nil, Bool.and_true, Option.bind_some, sheetB]
 cases (inB 0 99 s.Old.a0 && (inB 0 99 s.Old.a1 && inB 0 99 s.Old.a2)) <;> cases (spB 9 s.Fade.a0 && (spB 9 s.Fade.a1 && spB 9 s.Fade.a2)) <;> cases spB 20 s.Years <;> cases inB 1 20 s.Off <;> cases inB 1 4 (s.Tins.length : Int) <;> cases s.Tins.all tinB <;> rfl
theorem zyt : ∀ (p : List Gt) (c : Int), zca p c = goB (p.all fun t => spB 99 t.pg.a0)
 | [], _ => rfl
 | e :: p, c => by simp only [zca, zri, Option.bind_some, zyt p, List.all_cons, znu]
theorem zyl : ∀ (p : List Gt) (c : Int), zcb p c = goB (p.all fun t => spB 99 t.pg.a1)
 | [], _ => rfl
 | e :: p, c => by simp only [zcb, zri, Option.bind_some, zyl p, List.all_cons, znu]
theorem zxi : ∀ (p : List Gt) (c : Int), zbz p c = goB (p.all fun t => spB 99 t.pg.a2)
 | [], _ => rfl
 | e :: p, c => by simp only [zbz, zri, Option.bind_some, zxi p, List.all_cons, znu]
theorem zajh : ∀ (p : List Gt), p.all tinB = ((p.all fun t => spB 99 t.pg.a0) && ((p.all fun t => spB 99 t.pg.a1) && (p.all fun t => spB 99 t.pg.a2)))
 | [] => rfl
 | e :: p => by
  simp only [List.all_cons, zajh p, tinB]
  cases spB 99 e.pg.a0 <;> cases spB 99 e.pg.a1 <;> cases spB 99 e.pg.a2 <;> simp
theorem zahe {s : Gs} (h : lenOk s.Tins = true) : zgi s = some (sheetB s) := by
 unfold zgi zjy sheetB
 rw [zajh, show Int.toNat (3 - 0) = 3 from rfl, show boundOk 3 = true from rfl]
 simp only [zdl, h, zyt, zyl, zxi, zle, zri, zaic, Option.bind_some, Int.reduceAdd, Int.reduceBEq, cond_true, cond_false]
 cases inB 0 99 s.Old.a0 <;> cases inB 0 99 s.Old.a1 <;> cases inB 0 99 s.Old.a2 <;> cases spB 9 s.Fade.a0 <;> cases spB 9 s.Fade.a1 <;> cases spB 9 s.Fade.a2 <;> simp only [cond_true, cond_false, Bool.false_and, Bool.true_and, Bool.and_false, lbind] <;> first | (cases spB 20 s.Years <;> cases inB 1 20 s.Off <;> cases inB 1 4 (s.Tins.length : Int) <;> rfl) | (cases spB 20 s.Years <;> cases inB 1 20 s.Off <;> cases inB 1 4 (s.Tins.length : Int) <;> cases (s.Tins.all fun t => spB 99 t.pg.a0) <;> first | rfl | (cases (s.Tins.all fun t => spB 99 t.pg.a1) <;> first | rfl | (cases (s.Tins.all fun t => spB 99 t.pg.a2) <;> rfl)))
structure ShOk (s : Gs) : Prop where
 old : ∀ p, 0 ≤ selI s.Old p ∧ selI s.Old p ≤ 99
 fade : ∀ p, 0 ≤ (selS s.Fade p).Low ∧ (selS s.Fade p).Low ≤ (selS s.Fade p).High ∧ (selS s.Fade p).High ≤ 9
 yrs : 0 ≤ s.Years.Low ∧ s.Years.Low ≤ s.Years.High ∧ s.Years.High ≤ 20
 off : 1 ≤ s.Off ∧ s.Off ≤ 20
 n : 1 ≤ s.Tins.length ∧ s.Tins.length ≤ 4
 tin : ∀ t ∈ s.Tins, ∀ p, 0 ≤ (selS t.pg p).Low ∧ (selS t.pg p).Low ≤ (selS t.pg p).High ∧ (selS t.pg p).High ≤ 99
theorem ShOk.of {s : Gs} (h : sheetB s = true) : ShOk s := by
 simp only [sheetB, Bool.and_eq_true, List.all_eq_true, tinB, zkl, zaek] at h
 obtain ⟨⟨h1, h2, h3⟩, ⟨h4, h5, h6⟩, h7, h8, h9, h10⟩ := h
 refine ⟨fun p => ?_, fun p => ?_, h7, h8, by omega, fun t ht p => ?_⟩
 ·cases p <;> assumption
 ·cases p <;> assumption
 ·obtain ⟨a, b, c⟩ := h10 t ht
  cases p <;> assumption
theorem ShOk.ok {s : Gs} (h : ShOk s) : sheetB s = true := by
 simp only [sheetB, Bool.and_eq_true, List.all_eq_true, tinB, zkl, zaek]
 exact ⟨⟨h.old .p0, h.old .p1, h.old .p2⟩, ⟨h.fade .p0, h.fade .p1, h.fade .p2⟩, h.yrs, h.off, by have := h.n; omega, fun t ht => ⟨h.tin t ht .p0, h.tin t ht .p1, h.tin t ht .p2⟩⟩
def sumL : List Int → Int
 | [] => 0
 | e :: l => e + sumL l
theorem zaot : ∀ {l : List Int}, (∀ e ∈ l, 0 ≤ e ∧ e ≤ 8) → 0 ≤ sumL l ∧ sumL l ≤ 8 * l.length
 | [], _ => by simp [sumL]
 | e :: l, h => by
  have h1 := h e (List.mem_cons_self ..)
  have h2 := zaot fun x hx => h x (List.mem_cons_of_mem _ hx)
  simp only [sumL, List.length_cons]
  omega
theorem zacr : ∀ (l : List Int) (c acc : Int), (∀ e ∈ l, 0 ≤ e ∧ e ≤ 8) → 0 ≤ acc → acc + 8 * l.length ≤ 1000000 → zgb l c acc = some (.go (acc + sumL l))
 | [], c, acc, _, _, _ => by simp [zgb, sumL]
 | e :: l, c, acc, h, h0, hb => by
  have h1 := h e (List.mem_cons_self ..)
  simp only [List.length_cons] at hb
  simp only [zgb]
  rw [zbk (by omega) (by omega), zacr l _ _ (fun x hx => h x (List.mem_cons_of_mem _ hx)) (by omega) (by omega)]
  simp only [sumL, Int.add_assoc]
theorem zafa {l : List Int} (h : ∀ e ∈ l, 0 ≤ e ∧ e ≤ 8) (hl : l.length ≤ 1000) : zko l = some (sumL l) := by
 unfold zko
 rw [zir (by omega), zacr l 0 0 h (by omega) (by omega)]
 simp [lbind]
theorem zyu : ∀ (l : List Int) (c acc : Int), (∀ e ∈ l, 0 ≤ e ∧ e ≤ 8) → 0 ≤ acc → acc + 8 * l.length ≤ 1000000 → zdn l c acc = some (.go (acc + sumL l))
 | [], c, acc, _, _, _ => by simp [zdn, sumL]
 | e :: l, c, acc, h, h0, hb => by
  have h1 := h e (List.mem_cons_self ..)
  simp only [List.length_cons] at hb
  simp only [zdn]
  rw [zbk (by omega) (by omega), zyu l _ _ (fun x hx => h x (List.mem_cons_of_mem _ hx)) (by omega) (by omega)]
  simp only [sumL, Int.add_assoc]
theorem zrs {l : List Int} (h : ∀ e ∈ l, 0 ≤ e ∧ e ≤ 8) (hl : l.length ≤ 1000) : zdw l = some (sumL l) := by
 unfold zdw
 rw [zir (by omega), zyu l 0 0 h (by omega) (by omega)]
 simp [lbind]
def mixB (s : Gs) (mix : List Int) : Bool := decide (mix.length = s.Tins.length) && (mix.all (inB 0 8) && inB 1 8 (sumL mix))
theorem lenB (a b : Nat) : ((a : Int) == (b : Int)) = decide (a = b) := by
 by_cases h : a = b
 ·simp [h]
 ·rw [decide_eq_false h]; exact beq_false_of_ne (by omega)
theorem zace {s : Gs} (hs : ShOk s) (mix : List Int) : zdi s mix = some (mixB s mix) := by
 unfold zdi mixB
 rw [lenB]
 by_cases h : mix.length = s.Tins.length
 ·have hl : mix.length ≤ 1000 := by have := hs.n; omega
  rw [decide_eq_true h, zun _ _ (zir (by omega))]
  simp only [cond_true, Option.bind_some, Bool.true_and]
  cases ha : mix.all (inB 0 8) with
  | false => rfl
  | true =>
   have hb : ∀ e ∈ mix, 0 ≤ e ∧ e ≤ 8 := by
    intro e he
    rw [List.all_eq_true] at ha
    exact zkl.1 (ha e he)
   rw [zafa hb hl]
   simp only [cond_true, Option.bind_some, zni, Bool.true_and]
 ·rw [decide_eq_false h]
  rfl
theorem zajc : ∀ (p : List Int) (c : Int), zex p c = goB (p.all (inB 0 8))
 | [], _ => rfl
 | e :: p, c => by
  simp only [zex, zaic, Option.bind_some, zajc p, List.all_cons, znu]
theorem zapf {s : Gs} (hs : ShOk s) {mix : List Int} (hm : lenOk mix = true) : zid s mix = some (mixB s mix) := by
 unfold zid mixB
 rw [lenB, hm, zajc, zle]
 by_cases h : mix.length = s.Tins.length
 ·have hl : mix.length ≤ 1000 := by have := hs.n; omega
  rw [decide_eq_true h]
  simp only [cond_true, Option.bind_some, Bool.true_and]
  cases ha : mix.all (inB 0 8) with
  | false => rfl
  | true =>
   have hb : ∀ e ∈ mix, 0 ≤ e ∧ e ≤ 8 := by
    intro e he
    rw [List.all_eq_true] at ha
    exact zkl.1 (ha e he)
   rw [zrs hb hl]
   simp only [cond_true, Option.bind_some, zaic, Bool.true_and]
 ·rw [decide_eq_false h]
  cases mix.all (inB 0 8) <;> rfl
structure MixOk (s : Gs) (mix : List Int) : Prop where
 n : mix.length = s.Tins.length
 b : ∀ e ∈ mix, 0 ≤ e ∧ e ≤ 8
 s : 1 ≤ sumL mix ∧ sumL mix ≤ 8
theorem MixOk.of {s : Gs} {mix : List Int} (h : mixB s mix = true) : MixOk s mix := by
 simp only [mixB, Bool.and_eq_true, List.all_eq_true, zkl, decide_eq_true_eq] at h
 exact ⟨h.1, h.2.1, h.2.2⟩
theorem MixOk.ok {s : Gs} {mix : List Int} (h : MixOk s mix) : mixB s mix = true := by
 simp only [mixB, Bool.and_eq_true, List.all_eq_true, zkl, decide_eq_true_eq]
 exact ⟨h.n, h.b, h.s⟩
end Go.V
end
