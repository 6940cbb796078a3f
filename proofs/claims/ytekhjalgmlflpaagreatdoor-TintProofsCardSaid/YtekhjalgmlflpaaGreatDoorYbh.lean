/- Part of a proof. -/
import Derived.Test.YtekhjalgmlflpaaGreatDoorYbg
set_option linter.all false
set_option maxRecDepth 4000
set_option maxHeartbeats 40000000
section
namespace Go.V
open Go Go.Proofs
def zbi  : List Gt → Int → Option (LOut (Bool) (Unit))
 | [], c3_4 => some (.go ())
 | e3 :: p3, c3_4 => Option.bind (zch e3.pg.a2 99) (fun r16 => cond (r16) (zbi p3 (c3_4 + 1)) (some (.ret false)))
def zbh  : List Gt → Int → Option (LOut (Bool) (Unit))
 | [], c2_4 => some (.go ())
 | e2 :: p2, c2_4 => Option.bind (zch e2.pg.a1 99) (fun r11 => cond (r11) (zbh p2 (c2_4 + 1)) (some (.ret false)))
def zbg  : List Gt → Int → Option (LOut (Bool) (Unit))
 | [], c1_4 => some (.go ())
 | e1 :: p1, c1_4 => Option.bind (zch e1.pg.a0 99) (fun r6 => cond (r6) (zbg p1 (c1_4 + 1)) (some (.ret false)))
def zck (x0_s : Gs) : Nat → Int → Option (LOut (Bool) (Unit))
 | 0, c0_3 => some (.go ())
 | k0 + 1, c0_3 => cond (c0_3 == 0) (Option.bind (zdc x0_s.Old.a0 0 99) (fun r4 => cond (r4) (Option.bind (zch x0_s.Fade.a0 9) (fun r5 => cond (r5) (cond (lenOk x0_s.Tins) (lbind (zbg x0_s.Tins 0) (fun r8 => some (.ret r8)) (fun c7 => zck x0_s k0 (c0_3 + 1)) (fun _ _ => none)) none) (some (.ret false)))) (some (.ret false)))) (cond (c0_3 == 1) (Option.bind (zdc x0_s.Old.a1 0 99) (fun r9 => cond (r9) (Option.bind (zch x0_s.Fade.a1 9) (fun r10 => cond (r10) (cond (lenOk x0_s.Tins) (lbind (zbh x0_s.Tins 0) (fun r13 => some (.ret r13)) (fun c12 => zck x0_s k0 (c0_3 + 1)) (fun _ _ => none)) none) (some (.ret false)))) (some (.ret false)))) (cond (c0_3 == 2) (Option.bind (zdc x0_s.Old.a2 0 99) (fun r14 => cond (r14) (Option.bind (zch x0_s.Fade.a2 9) (fun r15 => cond (r15) (cond (lenOk x0_s.Tins) (lbind (zbi x0_s.Tins 0) (fun r18 => some (.ret r18)) (fun c17 => zck x0_s k0 (c0_3 + 1)) (fun _ _ => none)) none) (some (.ret false)))) (some (.ret false)))) (none)))
def zfj (x0_s : Gs) : Option (Bool) := Option.bind (zch x0_s.Years 20) (fun r1 => cond (r1) (Option.bind (zin x0_s.Off) (fun r2 => cond (r2) (Option.bind (zdc (List.length x0_s.Tins : Int) 1 4) (fun r3 => cond (r3) (cond (boundOk 3) (lbind (zck x0_s (Int.toNat (3 - 0)) 0) (fun r20 => some r20) (fun c19 => some true) (fun _ _ => none)) none) (some false))) (some false))) (some false))
theorem zmh (x0_s : Gs) (R : Bool) (h : zfj x0_s = some R) : VPure Tryz.prog G0 20 [.agg (cGs x0_s)] (.tree (.lit (.bool R))) := by
 refine VPure.runR mixed Tryz.call20 Tryz.func20 rfl (by simp [Tryz.ntmps20]; kernel_rfl) ?_
 obtain ⟨KF, h, kF, kN⟩ := zan h
 simp only [zfj] at h
 obtain ⟨r21, o22, h⟩ := optI h kN
 try simp only [hs] at h
 simp only [vz, tyf, nm, seval]
 refine ktA (zcv _ _ _ o22) ?_
 refine zaf (fun tm => tm 1 = .ptr 0 0 ∧ tm 7 = .lit (.bool r21) ∧ True) (by refine ⟨?_, ?_, trivial⟩ <;> first | (simp only [ua, nm, seval] <;> rfl) | rfl) ?_
 rintro tm ⟨e23, e24, _⟩
 cases d25 : (r21)
 ·simp only [d25, hs] at h
  try simp only [vz, tyf, e23, e24, d25, nm, seval]
  obtain rfl := kF _ h
  exact zaj Tryz.results20 rfl
 simp only [d25, hs] at h
 obtain ⟨r26, o27, h⟩ := optI h kN
 try simp only [hs] at h
 simp only [vz, tyf, e23, e24, d25, nm, seval]
 refine ktA (zqg _ _ o27) ?_
 refine zaf (fun tm => tm 1 = .ptr 0 0 ∧ tm 9 = .lit (.bool false) ∧ tm 12 = .lit (.bool r26) ∧ True) (by refine ⟨e23, ?_, ?_, trivial⟩ <;> first | (simp only [ua, e23, e24, d25, nm, seval] <;> rfl) | rfl) ?_
 rintro tm ⟨e28, e29, e30, _⟩
 cases d31 : (r26)
 ·simp only [d31, hs] at h
  try simp only [vz, tyf, d25, e28, e29, e30, d31, nm, seval]
  obtain rfl := kF _ h
  exact zaj Tryz.results20 rfl
 simp only [d31, hs] at h
 obtain ⟨r32, o33, h⟩ := optI h kN
 try simp only [hs] at h
 simp only [vz, tyf, d25, e28, e29, e30, d31, nm, seval]
 refine ktA (zcf _ _ _ _ o33) ?_
 refine zaf (fun tm => tm 1 = .ptr 0 0 ∧ tm 15 = .lit (.bool false) ∧ tm 19 = .lit (.bool r32) ∧ True) (by refine ⟨e28, ?_, ?_, trivial⟩ <;> first | (simp only [ua, d25, e28, e29, e30, d31, nm, seval] <;> rfl) | rfl) ?_
 rintro tm ⟨e34, e35, e36, _⟩
 cases d37 : (r32)
 ·simp only [d37, hs] at h
  try simp only [vz, tyf, d25, d31, e34, e35, e36, d37, nm, seval]
  obtain rfl := kF _ h
  exact zaj Tryz.results20 rfl
 simp only [d37, hs] at h
 cases g39 : (boundOk 3)
 ·simp only [g39, hs] at h
  exact absurd h kN
 simp only [g39, hs] at h
 simp only [vz, tyf, d25, d31, e34, e35, e36, d37, g39, nm, seval]
 obtain ⟨K38, h, kR38, kG38, kB38, kN38⟩ := zax h kN
 obtain ⟨f38, hf38, h⟩ := call2 h
 obtain ⟨I38, hI38⟩ : ∃ I : Nat → St → Prop, I = (fun m st => ∃ (p38 : Nat) (c38_3 : Int), p38 = m ∧ loOk c38_3 = true ∧ Int.toNat (3 - c38_3) = p38 ∧ st.df = [] ∧ 20 ≤ st.nx ∧ st.H 0 = some (.cells (some 28) (cGs x0_s)) ∧ st.tm 1 = .ptr 0 0 ∧ st.tm 3 = .lit (.int .i64 c38_3) ∧ K38 (f38 p38 c38_3)) := ⟨_, rfl⟩
 refine loopK mixed (by kernel_rfl) I38 (Int.toNat (3 - 0)) (by rw [hI38]; refine ⟨Int.toNat (3 - 0), 0, rfl, (by rfl), rfl, rfl, (show 20 ≤ 20 by omega), ?_, e34, ?_, h⟩ <;> first | (simp only [ua, d25, d31, e34, e35, e36, d37, nm, seval] <;> rfl) | rfl) ?_
 rintro m ⟨tm, H, nx38, df⟩ hinv
 rw [hI38] at hinv
 obtain ⟨p38, c38_3, rfl, hi38, hp38, hdf, hn38, H40, e41, e42, h⟩ := hinv
 simp only at hdf hn38 H40 e41 e42
 have n43 := zct (m := 20) (b := nx38) (by omega)
 subst hdf hf38
 cases p38 with
 | zero =>
  have d44 : (decide (c38_3 < 3)) = false := zhx hp38
  simp only [zck, hs, reduceCtorEq] at h
  replace h := kG38 _ h
  try dsimp only at h
  try simp only [hs] at h
  try simp only [vz, tyf, d25, d31, d37, g39, n43, e41, e42, H40, d44, nm, seval]
  obtain rfl := kF _ h
  exact zaj Tryz.results20 rfl
 | succ p38 =>
  have d45 : (decide (c38_3 < 3)) = true := zabl hp38
  have w46 := zmo hi38 hp38 g39
  simp only [zck, hs, reduceCtorEq] at h
  cases d47 : (c38_3 == 0)
  ·simp only [d47, hs] at h
   have b48 := And.intro d25 (And.intro d31 (And.intro d37 (And.intro g39 (And.intro n43 (And.intro H40 (And.intro d45 (And.intro w46 d47)))))))
   cases d49 : (c38_3 == 1)
   ·simp only [d49, hs] at h
    cases d50 : (c38_3 == 2)
    ·simp only [d50, hs] at h
     exact absurd h kN38
    simp only [d50, hs] at h
    obtain ⟨r51, o52, h⟩ := optI h kN38
    try simp only [hs] at h
    simp only [vz, tyf, b48, e41, e42, d49, d50, (zhs d50), nm, seval]
    refine ktA (zcf _ _ _ _ o52) ?_
    refine zaf (fun tm => tm 1 = .ptr 0 0 ∧ tm 3 = .lit (.int .i64 c38_3) ∧ tm 30 = .lit (.bool r51) ∧ True) (by refine ⟨e41, e42, ?_, trivial⟩ <;> first | (simp only [ua, b48, e41, e42, d49, d50, nm, seval] <;> rfl) | rfl) ?_
    rintro tm ⟨e53, e54, e55, _⟩
    cases d56 : (r51)
    ·simp only [d56, hs] at h
     try simp only [vz, tyf, b48, d49, d50, (zhs d50), e53, e54, e55, d56, nm, seval]
     replace h := kR38 _ h
     try dsimp only at h
     obtain rfl := kF _ h
     exact zaj Tryz.results20 rfl
    simp only [d56, hs] at h
    obtain ⟨r57, o58, h⟩ := optI h kN38
    try simp only [hs] at h
    simp only [vz, tyf, b48, d49, d50, (zhs d50), e53, e54, e55, d56, (zjz d50), nm, seval]
    refine ktA (zcv _ _ _ o58) ?_
    refine zaf (fun tm => tm 1 = .ptr 0 0 ∧ tm 3 = .lit (.int .i64 c38_3) ∧ tm 32 = .lit (.bool false) ∧ tm 37 = .lit (.bool r57) ∧ True) (by refine ⟨e53, e54, ?_, ?_, trivial⟩ <;> first | (simp only [ua, b48, d49, d50, e53, e54, e55, d56, nm, seval] <;> rfl) | rfl) ?_
    rintro tm ⟨e59, e60, e61, e62, _⟩
    cases d63 : (r57)
    ·simp only [d63, hs] at h
     try simp only [vz, tyf, b48, d49, d50, (zhs d50), d56, (zjz d50), e59, e60, e61, e62, d63, nm, seval]
     replace h := kR38 _ h
     try dsimp only at h
     obtain rfl := kF _ h
     exact zaj Tryz.results20 rfl
    simp only [d63, hs] at h
    cases g65 : (lenOk x0_s.Tins)
    ·simp only [g65, hs] at h
     exact absurd h kN38
    simp only [g65, hs] at h
    simp only [vz, tyf, b48, d49, d50, (zhs d50), d56, (zjz d50), e59, e60, e61, e62, d63, g65, nm, seval]
    obtain ⟨K64, h, kR64, kG64, kB64, kN64⟩ := zax h kN38
    obtain ⟨f64, hf64, h⟩ := call2 h
    obtain ⟨I64, hI64⟩ : ∃ I : Nat → St → Prop, I = (fun m st => ∃ (p64 : List Gt) (c64_4 : Int), m = List.length p64 ∧ 0 ≤ c64_4 ∧ List.drop (Int.toNat c64_4) x0_s.Tins = p64 ∧ st.df = [] ∧ nx38 + 17 ≤ st.nx ∧ st.H 0 = some (.cells (some 28) (cGs x0_s)) ∧ st.tm 1 = .ptr 0 0 ∧ st.tm 3 = .lit (.int .i64 c38_3) ∧ st.tm 4 = .lit (.int .i64 c64_4) ∧ K64 (f64 p64 c64_4)) := ⟨_, rfl⟩
    refine loopK mixed (by kernel_rfl) I64 (List.length x0_s.Tins) (by rw [hI64]; refine ⟨x0_s.Tins, 0, rfl, Int.le_refl _, rfl, rfl, (show nx38 + 17 ≤ nx38 + 17 by omega), ?_, e59, e60, ?_, h⟩ <;> first | (simp only [ua, b48, d49, d50, d56, e59, e60, e61, e62, d63, nm, seval] <;> rfl) | rfl) ?_
    rintro m ⟨tm, H, nx64, df⟩ hinv
    rw [hI64] at hinv
    obtain ⟨p64, c64_4, rfl, hi64, hp64, hdf, hn64, H66, e67, e68, e69, h⟩ := hinv
    simp only at hdf hn64 H66 e67 e68 e69
    have n70 := zct (m := 20) (b := nx64) (by omega)
    have n71 := znd (a := nx38) (m := 17) (b := nx64) (by omega)
    subst hdf hf64
    cases p64 with
    | nil =>
     have d72 : (decide (c64_4 < (List.length x0_s.Tins : Int))) = false := zaw hi64 hp64
     simp only [zbg, zbh, zbi, hs, reduceCtorEq] at h
     replace h := kG64 _ h
     try dsimp only at h
     try simp only [hs] at h
     simp only [vz, tyf, b48, d49, d50, (zhs d50), d56, (zjz d50), d63, g65, n70, n71, e67, e68, e69, H66, d72, nm, seval]
     exact ⟨p38, Nat.lt_succ_self _, by rw [hI38]; refine ⟨p38, c38_3 + 1, rfl, zjp hi38, zep hp38, rfl, (show 20 ≤ nx64 + 8 by omega), ?_, e67, ?_, h⟩ <;> first | (simp only [ua, b48, d49, d50, d56, d63, n70, n71, e67, e68, e69, H66, d72, nm, seval] <;> rfl) | rfl⟩
    | cons e64 p64 =>
     have d73 : (decide (c64_4 < (List.length x0_s.Tins : Int))) = true := zcj hi64 hp64
     have o75 := zba hi64 hp64
     have w74 := zdf hi64 hp64 g65
     simp only [zbg, zbh, zbi, hs, reduceCtorEq] at h
     obtain ⟨r76, o77, h⟩ := optI h kN64
     try simp only [hs] at h
     simp only [vz, tyf, b48, d49, d50, (zhs d50), d56, (zjz d50), d63, g65, n70, n71, e67, e68, e69, H66, d73, (ix26 o75), w74, (zyt d50), nm, seval]
     refine ktA (zcv _ _ _ o77) ?_
     refine zaf (fun tm => tm 1 = .ptr 0 0 ∧ tm 3 = .lit (.int .i64 c38_3) ∧ tm 4 = .lit (.int .i64 c64_4) ∧ tm 55 = .lit (.bool r76) ∧ True) (by refine ⟨e67, e68, e69, ?_, trivial⟩ <;> first | (simp only [ua, b48, d49, d50, d56, d63, n70, n71, e67, e68, e69, H66, d73, w74, nm, seval] <;> rfl) | rfl) ?_
     rintro tm ⟨e78, e79, e80, e81, _⟩
     have b82 := And.intro b48 (And.intro d49 (And.intro d50 (And.intro d56 (And.intro d63 (And.intro g65 (And.intro n70 (And.intro n71 (And.intro H66 (And.intro d73 w74)))))))))
     cases d83 : (r76)
     ·simp only [d83, hs] at h
      try simp only [vz, tyf, b82, (zhs d50), (zjz d50), (ix26 o75), (zyt d50), e78, e79, e80, e81, d83, nm, seval]
      replace h := kR64 _ h
      try dsimp only at h
      replace h := kR38 _ h
      try dsimp only at h
      obtain rfl := kF _ h
      exact zaj Tryz.results20 rfl
     simp only [d83, hs] at h
     simp only [vz, tyf, b82, (zhs d50), (zjz d50), (ix26 o75), (zyt d50), e78, e79, e80, e81, d83, nm, seval]
     exact ⟨List.length p64, Nat.lt_succ_self _, by rw [hI64]; refine ⟨p64, c64_4 + 1, rfl, Int.le_trans hi64 (Int.le_add_one (Int.le_refl _)), zbt hi64 hp64, rfl, (show nx38 + 17 ≤ nx64 + 18 by omega), ?_, e78, e79, ?_, h⟩ <;> first | (simp only [ua, b82, e78, e79, e80, e81, d83, nm, seval] <;> rfl) | rfl⟩
   simp only [d49, hs] at h
   obtain ⟨r84, o85, h⟩ := optI h kN38
   try simp only [hs] at h
   simp only [vz, tyf, b48, e41, e42, d49, (zht d49), nm, seval]
   refine ktA (zcf _ _ _ _ o85) ?_
   refine zaf (fun tm => tm 1 = .ptr 0 0 ∧ tm 3 = .lit (.int .i64 c38_3) ∧ tm 30 = .lit (.bool r84) ∧ True) (by refine ⟨e41, e42, ?_, trivial⟩ <;> first | (simp only [ua, b48, e41, e42, d49, nm, seval] <;> rfl) | rfl) ?_
   rintro tm ⟨e86, e87, e88, _⟩
   cases d89 : (r84)
   ·simp only [d89, hs] at h
    try simp only [vz, tyf, b48, d49, (zht d49), e86, e87, e88, d89, nm, seval]
    replace h := kR38 _ h
    try dsimp only at h
    obtain rfl := kF _ h
    exact zaj Tryz.results20 rfl
   simp only [d89, hs] at h
   obtain ⟨r90, o91, h⟩ := optI h kN38
   try simp only [hs] at h
   simp only [vz, tyf, b48, d49, (zht d49), e86, e87, e88, d89, (zjy d49), nm, seval]
   refine ktA (zcv _ _ _ o91) ?_
   refine zaf (fun tm => tm 1 = .ptr 0 0 ∧ tm 3 = .lit (.int .i64 c38_3) ∧ tm 32 = .lit (.bool false) ∧ tm 37 = .lit (.bool r90) ∧ True) (by refine ⟨e86, e87, ?_, ?_, trivial⟩ <;> first | (simp only [ua, b48, d49, e86, e87, e88, d89, nm, seval] <;> rfl) | rfl) ?_
   rintro tm ⟨e92, e93, e94, e95, _⟩
   cases d96 : (r90)
   ·simp only [d96, hs] at h
    try simp only [vz, tyf, b48, d49, (zht d49), d89, (zjy d49), e92, e93, e94, e95, d96, nm, seval]
    replace h := kR38 _ h
    try dsimp only at h
    obtain rfl := kF _ h
    exact zaj Tryz.results20 rfl
   simp only [d96, hs] at h
   cases g98 : (lenOk x0_s.Tins)
   ·simp only [g98, hs] at h
    exact absurd h kN38
   simp only [g98, hs] at h
   simp only [vz, tyf, b48, d49, (zht d49), d89, (zjy d49), e92, e93, e94, e95, d96, g98, nm, seval]
   obtain ⟨K97, h, kR97, kG97, kB97, kN97⟩ := zax h kN38
   obtain ⟨f97, hf97, h⟩ := call2 h
   obtain ⟨I97, hI97⟩ : ∃ I : Nat → St → Prop, I = (fun m st => ∃ (p97 : List Gt) (c97_4 : Int), m = List.length p97 ∧ 0 ≤ c97_4 ∧ List.drop (Int.toNat c97_4) x0_s.Tins = p97 ∧ st.df = [] ∧ nx38 + 17 ≤ st.nx ∧ st.H 0 = some (.cells (some 28) (cGs x0_s)) ∧ st.tm 1 = .ptr 0 0 ∧ st.tm 3 = .lit (.int .i64 c38_3) ∧ st.tm 4 = .lit (.int .i64 c97_4) ∧ K97 (f97 p97 c97_4)) := ⟨_, rfl⟩
   refine loopK mixed (by kernel_rfl) I97 (List.length x0_s.Tins) (by rw [hI97]; refine ⟨x0_s.Tins, 0, rfl, Int.le_refl _, rfl, rfl, (show nx38 + 17 ≤ nx38 + 17 by omega), ?_, e92, e93, ?_, h⟩ <;> first | (simp only [ua, b48, d49, d89, e92, e93, e94, e95, d96, nm, seval] <;> rfl) | rfl) ?_
   rintro m ⟨tm, H, nx97, df⟩ hinv
   rw [hI97] at hinv
   obtain ⟨p97, c97_4, rfl, hi97, hp97, hdf, hn97, H99, e100, e101, e102, h⟩ := hinv
   simp only at hdf hn97 H99 e100 e101 e102
   have n103 := zct (m := 20) (b := nx97) (by omega)
   have n104 := znd (a := nx38) (m := 17) (b := nx97) (by omega)
   subst hdf hf97
   cases p97 with
   | nil =>
    have d105 : (decide (c97_4 < (List.length x0_s.Tins : Int))) = false := zaw hi97 hp97
    simp only [zbg, zbh, zbi, hs, reduceCtorEq] at h
    replace h := kG97 _ h
    try dsimp only at h
    try simp only [hs] at h
    simp only [vz, tyf, b48, d49, (zht d49), d89, (zjy d49), d96, g98, n103, n104, e100, e101, e102, H99, d105, nm, seval]
    exact ⟨p38, Nat.lt_succ_self _, by rw [hI38]; refine ⟨p38, c38_3 + 1, rfl, zjp hi38, zep hp38, rfl, (show 20 ≤ nx97 + 8 by omega), ?_, e100, ?_, h⟩ <;> first | (simp only [ua, b48, d49, d89, d96, n103, n104, e100, e101, e102, H99, d105, nm, seval] <;> rfl) | rfl⟩
   | cons e97 p97 =>
    have d106 : (decide (c97_4 < (List.length x0_s.Tins : Int))) = true := zcj hi97 hp97
    have o108 := zba hi97 hp97
    have w107 := zdf hi97 hp97 g98
    simp only [zbg, zbh, zbi, hs, reduceCtorEq] at h
    obtain ⟨r109, o110, h⟩ := optI h kN97
    try simp only [hs] at h
    simp only [vz, tyf, b48, d49, (zht d49), d89, (zjy d49), d96, g98, n103, n104, e100, e101, e102, H99, d106, (ix26 o108), w107, (zaag d49), nm, seval]
    refine ktA (zcv _ _ _ o110) ?_
    refine zaf (fun tm => tm 1 = .ptr 0 0 ∧ tm 3 = .lit (.int .i64 c38_3) ∧ tm 4 = .lit (.int .i64 c97_4) ∧ tm 55 = .lit (.bool r109) ∧ True) (by refine ⟨e100, e101, e102, ?_, trivial⟩ <;> first | (simp only [ua, b48, d49, d89, d96, n103, n104, e100, e101, e102, H99, d106, w107, nm, seval] <;> rfl) | rfl) ?_
    rintro tm ⟨e111, e112, e113, e114, _⟩
    have b115 := And.intro b48 (And.intro d49 (And.intro d89 (And.intro d96 (And.intro g98 (And.intro n103 (And.intro n104 (And.intro H99 (And.intro d106 w107))))))))
    cases d116 : (r109)
    ·simp only [d116, hs] at h
     try simp only [vz, tyf, b115, (zht d49), (zjy d49), (ix26 o108), (zaag d49), e111, e112, e113, e114, d116, nm, seval]
     replace h := kR97 _ h
     try dsimp only at h
     replace h := kR38 _ h
     try dsimp only at h
     obtain rfl := kF _ h
     exact zaj Tryz.results20 rfl
    simp only [d116, hs] at h
    simp only [vz, tyf, b115, (zht d49), (zjy d49), (ix26 o108), (zaag d49), e111, e112, e113, e114, d116, nm, seval]
    exact ⟨List.length p97, Nat.lt_succ_self _, by rw [hI97]; refine ⟨p97, c97_4 + 1, rfl, Int.le_trans hi97 (Int.le_add_one (Int.le_refl _)), zbt hi97 hp97, rfl, (show nx38 + 17 ≤ nx97 + 18 by omega), ?_, e111, e112, ?_, h⟩ <;> first | (simp only [ua, b115, e111, e112, e113, e114, d116, nm, seval] <;> rfl) | rfl⟩
  simp only [d47, hs] at h
  have b117 := And.intro d25 (And.intro d31 (And.intro d37 (And.intro g39 (And.intro n43 (And.intro H40 (And.intro d45 (And.intro w46 d47)))))))
  obtain ⟨r118, o119, h⟩ := optI h kN38
  try simp only [hs] at h
  simp only [vz, tyf, b117, e41, e42, (zhu d47), nm, seval]
  refine ktA (zcf _ _ _ _ o119) ?_
  refine zaf (fun tm => tm 1 = .ptr 0 0 ∧ tm 3 = .lit (.int .i64 c38_3) ∧ tm 30 = .lit (.bool r118) ∧ True) (by refine ⟨e41, e42, ?_, trivial⟩ <;> first | (simp only [ua, b117, e41, e42, nm, seval] <;> rfl) | rfl) ?_
  rintro tm ⟨e120, e121, e122, _⟩
  cases d123 : (r118)
  ·simp only [d123, hs] at h
   try simp only [vz, tyf, b117, (zhu d47), e120, e121, e122, d123, nm, seval]
   replace h := kR38 _ h
   try dsimp only at h
   obtain rfl := kF _ h
   exact zaj Tryz.results20 rfl
  simp only [d123, hs] at h
  obtain ⟨r124, o125, h⟩ := optI h kN38
  try simp only [hs] at h
  simp only [vz, tyf, b117, (zhu d47), e120, e121, e122, d123, (zjw d47), nm, seval]
  refine ktA (zcv _ _ _ o125) ?_
  refine zaf (fun tm => tm 1 = .ptr 0 0 ∧ tm 3 = .lit (.int .i64 c38_3) ∧ tm 32 = .lit (.bool false) ∧ tm 37 = .lit (.bool r124) ∧ True) (by refine ⟨e120, e121, ?_, ?_, trivial⟩ <;> first | (simp only [ua, b117, e120, e121, e122, d123, nm, seval] <;> rfl) | rfl) ?_
  rintro tm ⟨e126, e127, e128, e129, _⟩
  cases d130 : (r124)
  ·simp only [d130, hs] at h
   try simp only [vz, tyf, b117, (zhu d47), d123, (zjw d47), e126, e127, e128, e129, d130, nm, seval]
   replace h := kR38 _ h
   try dsimp only at h
   obtain rfl := kF _ h
   exact zaj Tryz.results20 rfl
  simp only [d130, hs] at h
  cases g132 : (lenOk x0_s.Tins)
  ·simp only [g132, hs] at h
   exact absurd h kN38
  simp only [g132, hs] at h
  simp only [vz, tyf, b117, (zhu d47), d123, (zjw d47), e126, e127, e128, e129, d130, g132, nm, seval]
  obtain ⟨K131, h, kR131, kG131, kB131, kN131⟩ := zax h kN38
  obtain ⟨f131, hf131, h⟩ := call2 h
  obtain ⟨I131, hI131⟩ : ∃ I : Nat → St → Prop, I = (fun m st => ∃ (p131 : List Gt) (c131_4 : Int), m = List.length p131 ∧ 0 ≤ c131_4 ∧ List.drop (Int.toNat c131_4) x0_s.Tins = p131 ∧ st.df = [] ∧ nx38 + 17 ≤ st.nx ∧ st.H 0 = some (.cells (some 28) (cGs x0_s)) ∧ st.tm 1 = .ptr 0 0 ∧ st.tm 3 = .lit (.int .i64 c38_3) ∧ st.tm 4 = .lit (.int .i64 c131_4) ∧ K131 (f131 p131 c131_4)) := ⟨_, rfl⟩
  refine loopK mixed (by kernel_rfl) I131 (List.length x0_s.Tins) (by rw [hI131]; refine ⟨x0_s.Tins, 0, rfl, Int.le_refl _, rfl, rfl, (show nx38 + 17 ≤ nx38 + 17 by omega), ?_, e126, e127, ?_, h⟩ <;> first | (simp only [ua, b117, d123, e126, e127, e128, e129, d130, nm, seval] <;> rfl) | rfl) ?_
  rintro m ⟨tm, H, nx131, df⟩ hinv
  rw [hI131] at hinv
  obtain ⟨p131, c131_4, rfl, hi131, hp131, hdf, hn131, H133, e134, e135, e136, h⟩ := hinv
  simp only at hdf hn131 H133 e134 e135 e136
  have n137 := zct (m := 20) (b := nx131) (by omega)
  have n138 := znd (a := nx38) (m := 17) (b := nx131) (by omega)
  subst hdf hf131
  cases p131 with
  | nil =>
   have d139 : (decide (c131_4 < (List.length x0_s.Tins : Int))) = false := zaw hi131 hp131
   simp only [zbg, zbh, zbi, hs, reduceCtorEq] at h
   replace h := kG131 _ h
   try dsimp only at h
   try simp only [hs] at h
   simp only [vz, tyf, b117, (zhu d47), d123, (zjw d47), d130, g132, n137, n138, e134, e135, e136, H133, d139, nm, seval]
   exact ⟨p38, Nat.lt_succ_self _, by rw [hI38]; refine ⟨p38, c38_3 + 1, rfl, zjp hi38, zep hp38, rfl, (show 20 ≤ nx131 + 8 by omega), ?_, e134, ?_, h⟩ <;> first | (simp only [ua, b117, d123, d130, n137, n138, e134, e135, e136, H133, d139, nm, seval] <;> rfl) | rfl⟩
  | cons e131 p131 =>
   have d140 : (decide (c131_4 < (List.length x0_s.Tins : Int))) = true := zcj hi131 hp131
   have o142 := zba hi131 hp131
   have w141 := zdf hi131 hp131 g132
   simp only [zbg, zbh, zbi, hs, reduceCtorEq] at h
   obtain ⟨r143, o144, h⟩ := optI h kN131
   try simp only [hs] at h
   simp only [vz, tyf, b117, (zhu d47), d123, (zjw d47), d130, g132, n137, n138, e134, e135, e136, H133, d140, (ix26 o142), w141, (zyn d47), nm, seval]
   refine ktA (zcv _ _ _ o144) ?_
   refine zaf (fun tm => tm 1 = .ptr 0 0 ∧ tm 3 = .lit (.int .i64 c38_3) ∧ tm 4 = .lit (.int .i64 c131_4) ∧ tm 55 = .lit (.bool r143) ∧ True) (by refine ⟨e134, e135, e136, ?_, trivial⟩ <;> first | (simp only [ua, b117, d123, d130, n137, n138, e134, e135, e136, H133, d140, w141, nm, seval] <;> rfl) | rfl) ?_
   rintro tm ⟨e145, e146, e147, e148, _⟩
   have b149 := And.intro b117 (And.intro d123 (And.intro d130 (And.intro g132 (And.intro n137 (And.intro n138 (And.intro H133 (And.intro d140 w141)))))))
   cases d150 : (r143)
   ·simp only [d150, hs] at h
    try simp only [vz, tyf, b149, (zhu d47), (zjw d47), (ix26 o142), (zyn d47), e145, e146, e147, e148, d150, nm, seval]
    replace h := kR131 _ h
    try dsimp only at h
    replace h := kR38 _ h
    try dsimp only at h
    obtain rfl := kF _ h
    exact zaj Tryz.results20 rfl
   simp only [d150, hs] at h
   simp only [vz, tyf, b149, (zhu d47), (zjw d47), (ix26 o142), (zyn d47), e145, e146, e147, e148, d150, nm, seval]
   exact ⟨List.length p131, Nat.lt_succ_self _, by rw [hI131]; refine ⟨p131, c131_4 + 1, rfl, Int.le_trans hi131 (Int.le_add_one (Int.le_refl _)), zbt hi131 hp131, rfl, (show nx38 + 17 ≤ nx131 + 18 by omega), ?_, e145, e146, ?_, h⟩ <;> first | (simp only [ua, b149, e145, e146, e147, e148, d150, nm, seval] <;> rfl) | rfl⟩



end Go.V
end
section
namespace Go.V
open Go

end Go.V
end
section
namespace Go.V
open Go Go.Proofs


def zce (x0_s : Gs) (x1_p : Int) (x2_years : Int) (x3_fade : Int) : Option (Int) := cond (x1_p == 0) (some (if 0 < (IntKind.i64.wrap (x0_s.Old.a0 - (IntKind.i64.wrap (x2_years * x3_fade)))) then (IntKind.i64.wrap (x0_s.Old.a0 - (IntKind.i64.wrap (x2_years * x3_fade)))) else 0)) (cond (x1_p == 1) (some (if 0 < (IntKind.i64.wrap (x0_s.Old.a1 - (IntKind.i64.wrap (x2_years * x3_fade)))) then (IntKind.i64.wrap (x0_s.Old.a1 - (IntKind.i64.wrap (x2_years * x3_fade)))) else 0)) (cond (x1_p == 2) (some (if 0 < (IntKind.i64.wrap (x0_s.Old.a2 - (IntKind.i64.wrap (x2_years * x3_fade)))) then (IntKind.i64.wrap (x0_s.Old.a2 - (IntKind.i64.wrap (x2_years * x3_fade)))) else 0)) (none)))
theorem zda (x0_s : Gs) (x1_p : Int) (x2_years : Int) (x3_fade : Int) (R : Int) (h : zce x0_s x1_p x2_years x3_fade = some R) : VPure Tryz.prog G0 32 [.agg (cGs x0_s), .lit (.int .i64 x1_p), .lit (.int .i64 x2_years), .lit (.int .i64 x3_fade)] (.tree (.lit (.int .i64 R))) := by
 refine VPure.runR mixed Tryz.call32 Tryz.func32 rfl (by simp [Tryz.ntmps32]; kernel_rfl) ?_
 obtain ⟨KF, h, kF, kN⟩ := zan h
 simp only [zce] at h
 cases d1 : (x1_p == 0)
 ·simp only [d1, hs] at h
  cases d2 : (x1_p == 1)
  ·simp only [d2, hs] at h
   cases d3 : (x1_p == 2)
   ·simp only [d3, hs] at h
    exact absurd h kN
   simp only [d3, hs] at h
   try simp only [vz, tyf, d1, d2, d3, (zhs d3), nm, seval]
   refine zap (x := (.lit (.int .i64 (if 0 < (IntKind.i64.wrap (x0_s.Old.a2 - (IntKind.i64.wrap (x2_years * x3_fade)))) then (IntKind.i64.wrap (x0_s.Old.a2 - (IntKind.i64.wrap (x2_years * x3_fade)))) else 0)))) (by first | (simp only [Tryz.results32, resV, resL, resV1, zat, zbq, uw, cr, tyf, d1, d2, d3, (zhs d3), nm, seval] <;> rfl) | rfl) ?_
   obtain rfl := kF _ h
   refine zas ?_ ?_
   ·simp only [tre, tytre, Bool.and_self]
   ·first | (simp only [outV, uw, zah, cr, tyf, nrm, tynrm, d1, d2, d3, (zhs d3), nm, seval] <;> rfl) | rfl
  simp only [d2, hs] at h
  try simp only [vz, tyf, d1, d2, (zht d2), nm, seval]
  refine zap (x := (.lit (.int .i64 (if 0 < (IntKind.i64.wrap (x0_s.Old.a1 - (IntKind.i64.wrap (x2_years * x3_fade)))) then (IntKind.i64.wrap (x0_s.Old.a1 - (IntKind.i64.wrap (x2_years * x3_fade)))) else 0)))) (by first | (simp only [Tryz.results32, resV, resL, resV1, zat, zbq, uw, cr, tyf, d1, d2, (zht d2), nm, seval] <;> rfl) | rfl) ?_
  obtain rfl := kF _ h
  refine zas ?_ ?_
  ·simp only [tre, tytre, Bool.and_self]
  ·first | (simp only [outV, uw, zah, cr, tyf, nrm, tynrm, d1, d2, (zht d2), nm, seval] <;> rfl) | rfl
 simp only [d1, hs] at h
 try simp only [vz, tyf, d1, (zhu d1), nm, seval]
 refine zap (x := (.lit (.int .i64 (if 0 < (IntKind.i64.wrap (x0_s.Old.a0 - (IntKind.i64.wrap (x2_years * x3_fade)))) then (IntKind.i64.wrap (x0_s.Old.a0 - (IntKind.i64.wrap (x2_years * x3_fade)))) else 0)))) (by first | (simp only [Tryz.results32, resV, resL, resV1, zat, zbq, uw, cr, tyf, d1, (zhu d1), nm, seval] <;> rfl) | rfl) ?_
 obtain rfl := kF _ h
 refine zas ?_ ?_
 ·simp only [tre, tytre, Bool.and_self]
 ·first | (simp only [outV, uw, zah, cr, tyf, nrm, tynrm, d1, (zhu d1), nm, seval] <;> rfl) | rfl
def zdi (x0_s : Gs) : Nat → Int → Int → Int → Int → Int → Int → Int → Option (LOut (Ga) (Int × Int × Int × Int × Int × Int))
 | 0, c0_4, c0_o0, c0_o1, c0_o2, c0_o3, c0_o4, c0_o5 => some (.go (c0_o0, c0_o1, c0_o2, c0_o3, c0_o4, c0_o5))
 | k0 + 1, c0_4, c0_o0, c0_o1, c0_o2, c0_o3, c0_o4, c0_o5 => cond (c0_4 == 0) (Option.bind (zce x0_s c0_4 x0_s.Years.High x0_s.Fade.a0.High) (fun r7 => Option.bind (zce x0_s c0_4 x0_s.Years.Low x0_s.Fade.a0.Low) (fun r8 => zdi x0_s k0 (c0_4 + 1) r7 r8 c0_o2 c0_o3 c0_o4 c0_o5))) (cond (c0_4 == 1) (Option.bind (zce x0_s c0_4 x0_s.Years.High x0_s.Fade.a1.High) (fun r9 => Option.bind (zce x0_s c0_4 x0_s.Years.Low x0_s.Fade.a1.Low) (fun r10 => zdi x0_s k0 (c0_4 + 1) c0_o0 c0_o1 r9 r10 c0_o4 c0_o5))) (cond (c0_4 == 2) (Option.bind (zce x0_s c0_4 x0_s.Years.High x0_s.Fade.a2.High) (fun r11 => Option.bind (zce x0_s c0_4 x0_s.Years.Low x0_s.Fade.a2.Low) (fun r12 => zdi x0_s k0 (c0_4 + 1) c0_o0 c0_o1 c0_o2 c0_o3 r11 r12))) (none)))
def zgx (x0_s : Gs) : Option (Ga) := cond (boundOk 3) (lbind (zdi x0_s (Int.toNat (3 - 0)) 0 0 0 0 0 0 0) (fun r14 => some r14) (fun c13 => some (Ga.mk (GSpan.mk c13.1 c13.2.1) (GSpan.mk c13.2.2.1 c13.2.2.2.1) (GSpan.mk c13.2.2.2.2.1 c13.2.2.2.2.2))) (fun _ _ => none)) none
theorem zpu (x0_s : Gs) (R : Ga) (h : zgx x0_s = some R) : VPure Tryz.prog G0 21 [.agg (cGs x0_s)] (.tree (.agg (cGa R))) := by
 refine VPure.runR mixed Tryz.call21 Tryz.func21 rfl (by simp [Tryz.ntmps21]; kernel_rfl) ?_
 obtain ⟨KF, h, kF, kN⟩ := zan h
 simp only [zgx] at h
 cases g16 : (boundOk 3)
 ·simp only [g16, hs] at h
  exact absurd h kN
 simp only [g16, hs] at h
 simp only [vz, tyf, g16, nm, seval]
 obtain ⟨K15, h, kR15, kG15, kB15, kN15⟩ := zax h kN
 obtain ⟨f15, hf15, h⟩ := call8 h
 obtain ⟨I15, hI15⟩ : ∃ I : Nat → St → Prop, I = (fun m st => ∃ (p15 : Nat) (c15_4 : Int) (c15_o0 : Int) (c15_o1 : Int) (c15_o2 : Int) (c15_o3 : Int) (c15_o4 : Int) (c15_o5 : Int), p15 = m ∧ loOk c15_4 = true ∧ Int.toNat (3 - c15_4) = p15 ∧ st.df = [] ∧ 4 ≤ st.nx ∧ st.H 0 = some (.cells (some 28) (cGs x0_s)) ∧ st.H 1 = some (.cells (some 25) ([.lit (.int .i64 0)] ++ [.lit (.int .i64 0)] ++ [.lit (.int .i64 0)] ++ [.lit (.int .i64 0)] ++ [.lit (.int .i64 0)] ++ [.lit (.int .i64 0)])) ∧ st.H 2 = some (.cells (some 25) ([.lit (.int .i64 c15_o0)] ++ [.lit (.int .i64 c15_o1)] ++ [.lit (.int .i64 c15_o2)] ++ [.lit (.int .i64 c15_o3)] ++ [.lit (.int .i64 c15_o4)] ++ [.lit (.int .i64 c15_o5)])) ∧ st.tm 1 = .ptr 0 0 ∧ st.tm 2 = .ptr 1 0 ∧ st.tm 3 = .ptr 2 0 ∧ st.tm 4 = .lit (.int .i64 c15_4) ∧ K15 (f15 p15 c15_4 c15_o0 c15_o1 c15_o2 c15_o3 c15_o4 c15_o5)) := ⟨_, rfl⟩
 refine loopK mixed (by kernel_rfl) I15 (Int.toNat (3 - 0)) (by rw [hI15]; refine ⟨Int.toNat (3 - 0), 0, 0, 0, 0, 0, 0, 0, rfl, (by rfl), rfl, rfl, (show 4 ≤ 4 by omega), ?_, ?_, ?_, ?_, ?_, ?_, ?_, h⟩ <;> first | (simp only [ua, nm, seval] <;> rfl) | rfl) ?_
 rintro m ⟨tm, H, nx15, df⟩ hinv
 rw [hI15] at hinv
 obtain ⟨p15, c15_4, c15_o0, c15_o1, c15_o2, c15_o3, c15_o4, c15_o5, rfl, hi15, hp15, hdf, hn15, H17, H18, H19, e20, e21, e22, e23, h⟩ := hinv
 simp only at hdf hn15 H17 H18 H19 e20 e21 e22 e23
 have n24 := zct (m := 4) (b := nx15) (by omega)
 subst hdf hf15
 cases p15 with
 | zero =>
  have d25 : (decide (c15_4 < 3)) = false := zhx hp15
  simp only [zdi, hs, reduceCtorEq] at h
  replace h := kG15 _ h
  try dsimp only at h
  try simp only [hs] at h
  try simp only [vz, tyf, g16, n24, e20, e21, e22, e23, H17, H18, H19, d25, nm, seval]
  refine zap (x := (.agg ([.lit (.int .i64 c15_o0)] ++ [.lit (.int .i64 c15_o1)] ++ [.lit (.int .i64 c15_o2)] ++ [.lit (.int .i64 c15_o3)] ++ [.lit (.int .i64 c15_o4)] ++ [.lit (.int .i64 c15_o5)]))) (by first | (simp only [Tryz.results21, resV, resL, resV1, zat, zbq, uw, cr, tyf, g16, n24, e20, e21, e22, e23, H17, H18, H19, d25, nm, seval] <;> rfl) | rfl) ?_
  obtain rfl := kF _ h
  refine zas ?_ ?_
  ·simp only [tre, tytre, Bool.and_self]
  ·first | (simp only [outV, uw, zah, cr, tyf, nrm, tynrm, g16, n24, e20, e21, e22, e23, H17, H18, H19, d25, nm, seval] <;> rfl) | rfl
 | succ p15 =>
  have d26 : (decide (c15_4 < 3)) = true := zabl hp15
  have w27 := zmo hi15 hp15 g16
  simp only [zdi, hs, reduceCtorEq] at h
  simp only [vz, tyf, g16, n24, e20, e21, e22, e23, H17, H18, H19, d26, w27, nm, seval]
  refine zea (fun tm => tm 1 = .ptr 0 0 ∧ tm 2 = .ptr 1 0 ∧ tm 3 = .ptr 2 0 ∧ tm 4 = .lit (.int .i64 c15_4) ∧ True) (by refine ⟨e20, e21, e22, e23, trivial⟩ <;> first | (simp only [ua, n24, e20, e21, e22, e23, H17, H18, H19, d26, w27, nm, seval] <;> rfl) | rfl) ?_
  rintro tm ⟨e28, e29, e30, e31, _⟩
  have b32 := And.intro g16 (And.intro n24 (And.intro H17 (And.intro H18 (And.intro H19 (And.intro d26 w27)))))
  cases d33 : (c15_4 == 0)
  ·simp only [d33, hs] at h
   cases d34 : (c15_4 == 1)
   ·simp only [d34, hs] at h
    cases d35 : (c15_4 == 2)
    ·simp only [d35, hs] at h
     exact absurd h kN15
    simp only [d35, hs] at h
    obtain ⟨r36, o37, h⟩ := optI h kN15
    try simp only [hs] at h
    simp only [vz, tyf, b32, e28, e29, e30, e31, d33, d34, d35, (zjz d35), nm, seval]
    refine dktA (zda _ _ _ _ _ o37) ?_
    refine zaf (fun tm => tm 1 = .ptr 0 0 ∧ tm 2 = .ptr 1 0 ∧ tm 3 = .ptr 2 0 ∧ tm 4 = .lit (.int .i64 c15_4) ∧ tm 9 = .lit (.int .i64 c15_4) ∧ tm 20 = .lit (.int .i64 r36) ∧ True) (by refine ⟨e28, e29, e30, e31, ?_, ?_, trivial⟩ <;> first | (simp only [ua, b32, e28, e29, e30, e31, d33, d34, d35, nm, seval] <;> rfl) | rfl) ?_
    rintro tm ⟨e38, e39, e40, e41, e42, e43, _⟩
    obtain ⟨r44, o45, h⟩ := optI h kN15
    try simp only [hs] at h
    simp only [vz, tyf, b32, d33, d34, d35, (zjz d35), e38, e39, e40, e41, e42, e43, nm, seval]
    refine dktA (zda _ _ _ _ _ o45) ?_
    refine zaf (fun tm => tm 1 = .ptr 0 0 ∧ tm 2 = .ptr 1 0 ∧ tm 3 = .ptr 2 0 ∧ tm 4 = .lit (.int .i64 c15_4) ∧ tm 9 = .lit (.int .i64 c15_4) ∧ tm 20 = .lit (.int .i64 r36) ∧ tm 31 = .lit (.int .i64 r44) ∧ True) (by refine ⟨e38, e39, e40, e41, e42, e43, ?_, trivial⟩ <;> first | (simp only [ua, b32, d33, d34, d35, e38, e39, e40, e41, e42, e43, nm, seval] <;> rfl) | rfl) ?_
    rintro tm ⟨e46, e47, e48, e49, e50, e51, e52, _⟩
    simp only [vz, tyf, b32, d33, d34, d35, (zjz d35), e46, e47, e48, e49, e50, e51, e52, nm, seval]
    refine zcr ⟨?_, ?_⟩
    ·simp only [zbl, zbv, zam, zdy, and_true, true_and]
     repeat' (first | exact trivial | refine And.intro ?_ ?_ | rw [zam] | rw [zcs] | exact Or.inl (by decide +kernel) | exact Or.inl (by dsimp only; decide +kernel) | (refine Or.inr ⟨?_, ?_⟩ <;> simp; done) | (refine Or.inr ⟨?_, ?_⟩ <;> simp <;> omega) | (refine Or.inr ⟨?_, ?_⟩ <;> simp [VEff.wr] <;> omega))
    simp only [vz, tyf, b32, d33, d34, d35, (zjz d35), e46, e47, e48, e49, e50, e51, e52, nm, seval]
    exact ⟨p15, Nat.lt_succ_self _, by rw [hI15]; refine ⟨p15, c15_4 + 1, c15_o0, c15_o1, c15_o2, c15_o3, r36, r44, rfl, zjp hi15, zep hp15, rfl, (show 4 ≤ nx15 + 31 by omega), ?_, ?_, ?_, e46, e47, e48, ?_, h⟩ <;> first | (simp only [ua, b32, d33, d34, d35, e46, e47, e48, e49, e50, e51, e52, nm, seval] <;> rfl) | rfl⟩
   simp only [d34, hs] at h
   obtain ⟨r53, o54, h⟩ := optI h kN15
   try simp only [hs] at h
   simp only [vz, tyf, b32, e28, e29, e30, e31, d33, d34, (zjy d34), nm, seval]
   refine dktA (zda _ _ _ _ _ o54) ?_
   refine zaf (fun tm => tm 1 = .ptr 0 0 ∧ tm 2 = .ptr 1 0 ∧ tm 3 = .ptr 2 0 ∧ tm 4 = .lit (.int .i64 c15_4) ∧ tm 9 = .lit (.int .i64 c15_4) ∧ tm 20 = .lit (.int .i64 r53) ∧ True) (by refine ⟨e28, e29, e30, e31, ?_, ?_, trivial⟩ <;> first | (simp only [ua, b32, e28, e29, e30, e31, d33, d34, nm, seval] <;> rfl) | rfl) ?_
   rintro tm ⟨e55, e56, e57, e58, e59, e60, _⟩
   obtain ⟨r61, o62, h⟩ := optI h kN15
   try simp only [hs] at h
   simp only [vz, tyf, b32, d33, d34, (zjy d34), e55, e56, e57, e58, e59, e60, nm, seval]
   refine dktA (zda _ _ _ _ _ o62) ?_
   refine zaf (fun tm => tm 1 = .ptr 0 0 ∧ tm 2 = .ptr 1 0 ∧ tm 3 = .ptr 2 0 ∧ tm 4 = .lit (.int .i64 c15_4) ∧ tm 9 = .lit (.int .i64 c15_4) ∧ tm 20 = .lit (.int .i64 r53) ∧ tm 31 = .lit (.int .i64 r61) ∧ True) (by refine ⟨e55, e56, e57, e58, e59, e60, ?_, trivial⟩ <;> first | (simp only [ua, b32, d33, d34, e55, e56, e57, e58, e59, e60, nm, seval] <;> rfl) | rfl) ?_
   rintro tm ⟨e63, e64, e65, e66, e67, e68, e69, _⟩
   simp only [vz, tyf, b32, d33, d34, (zjy d34), e63, e64, e65, e66, e67, e68, e69, nm, seval]
   refine zcr ⟨?_, ?_⟩
   ·simp only [zbl, zbv, zam, zdy, and_true, true_and]
    repeat' (first | exact trivial | refine And.intro ?_ ?_ | rw [zam] | rw [zcs] | exact Or.inl (by decide +kernel) | exact Or.inl (by dsimp only; decide +kernel) | (refine Or.inr ⟨?_, ?_⟩ <;> simp; done) | (refine Or.inr ⟨?_, ?_⟩ <;> simp <;> omega) | (refine Or.inr ⟨?_, ?_⟩ <;> simp [VEff.wr] <;> omega))
   simp only [vz, tyf, b32, d33, d34, (zjy d34), e63, e64, e65, e66, e67, e68, e69, nm, seval]
   exact ⟨p15, Nat.lt_succ_self _, by rw [hI15]; refine ⟨p15, c15_4 + 1, c15_o0, c15_o1, r53, r61, c15_o4, c15_o5, rfl, zjp hi15, zep hp15, rfl, (show 4 ≤ nx15 + 31 by omega), ?_, ?_, ?_, e63, e64, e65, ?_, h⟩ <;> first | (simp only [ua, b32, d33, d34, e63, e64, e65, e66, e67, e68, e69, nm, seval] <;> rfl) | rfl⟩
  simp only [d33, hs] at h
  obtain ⟨r70, o71, h⟩ := optI h kN15
  try simp only [hs] at h
  simp only [vz, tyf, b32, e28, e29, e30, e31, d33, (zjw d33), nm, seval]
  refine dktA (zda _ _ _ _ _ o71) ?_
  refine zaf (fun tm => tm 1 = .ptr 0 0 ∧ tm 2 = .ptr 1 0 ∧ tm 3 = .ptr 2 0 ∧ tm 4 = .lit (.int .i64 c15_4) ∧ tm 9 = .lit (.int .i64 c15_4) ∧ tm 20 = .lit (.int .i64 r70) ∧ True) (by refine ⟨e28, e29, e30, e31, ?_, ?_, trivial⟩ <;> first | (simp only [ua, b32, e28, e29, e30, e31, d33, nm, seval] <;> rfl) | rfl) ?_
  rintro tm ⟨e72, e73, e74, e75, e76, e77, _⟩
  obtain ⟨r78, o79, h⟩ := optI h kN15
  try simp only [hs] at h
  simp only [vz, tyf, b32, d33, (zjw d33), e72, e73, e74, e75, e76, e77, nm, seval]
  refine dktA (zda _ _ _ _ _ o79) ?_
  refine zaf (fun tm => tm 1 = .ptr 0 0 ∧ tm 2 = .ptr 1 0 ∧ tm 3 = .ptr 2 0 ∧ tm 4 = .lit (.int .i64 c15_4) ∧ tm 9 = .lit (.int .i64 c15_4) ∧ tm 20 = .lit (.int .i64 r70) ∧ tm 31 = .lit (.int .i64 r78) ∧ True) (by refine ⟨e72, e73, e74, e75, e76, e77, ?_, trivial⟩ <;> first | (simp only [ua, b32, d33, e72, e73, e74, e75, e76, e77, nm, seval] <;> rfl) | rfl) ?_
  rintro tm ⟨e80, e81, e82, e83, e84, e85, e86, _⟩
  simp only [vz, tyf, b32, d33, (zjw d33), e80, e81, e82, e83, e84, e85, e86, nm, seval]
  refine zcr ⟨?_, ?_⟩
  ·simp only [zbl, zbv, zam, zdy, and_true, true_and]
   repeat' (first | exact trivial | refine And.intro ?_ ?_ | rw [zam] | rw [zcs] | exact Or.inl (by decide +kernel) | exact Or.inl (by dsimp only; decide +kernel) | (refine Or.inr ⟨?_, ?_⟩ <;> simp; done) | (refine Or.inr ⟨?_, ?_⟩ <;> simp <;> omega) | (refine Or.inr ⟨?_, ?_⟩ <;> simp [VEff.wr] <;> omega))
  simp only [vz, tyf, b32, d33, (zjw d33), e80, e81, e82, e83, e84, e85, e86, nm, seval]
  exact ⟨p15, Nat.lt_succ_self _, by rw [hI15]; refine ⟨p15, c15_4 + 1, r70, r78, c15_o2, c15_o3, c15_o4, c15_o5, rfl, zjp hi15, zep hp15, rfl, (show 4 ≤ nx15 + 31 by omega), ?_, ?_, ?_, e80, e81, e82, ?_, h⟩ <;> first | (simp only [ua, b32, d33, e80, e81, e82, e83, e84, e85, e86, nm, seval] <;> rfl) | rfl⟩
def zgk (x0_s : Gs) : Option (Bool) := some (decide ((List.length x0_s.Tins : Int) ≤ 6))
theorem zmv (x0_s : Gs) (R : Bool) (h : zgk x0_s = some R) : VPure Tryz.prog G0 15 [.agg (cGs x0_s)] (.tree (.lit (.bool R))) := by
 refine VPure.runR mixed Tryz.call15 Tryz.func15 rfl (by simp [Tryz.ntmps15]; kernel_rfl) ?_
 obtain ⟨KF, h, kF, kN⟩ := zan h
 simp only [zgk] at h
 try simp only [vz, tyf, nm, seval]
 obtain rfl := kF _ h
 exact zaj Tryz.results15 rfl

end Go.V
end
section
namespace Go.V
open Go
inductive P3 where
 | p0
 | p1
 | p2
def P3.i : P3 → Int
 | .p0 => 0
 | .p1 => 1
 | .p2 => 2
def selS (c : Ga) : P3 → GSpan
 | .p0 => c.a0
 | .p1 => c.a1
 | .p2 => c.a2
def selI (c : Gi) : P3 → Int
 | .p0 => c.a0
 | .p1 => c.a1
 | .p2 => c.a2
theorem zqc (a n b : Int) : zdn a n b = some (inB a b n) := csome _ _
theorem zaik (n a b : Int) : zdc n a b = some (inB a b n) := csome _ _
def spB (m : Int) (x : GSpan) : Bool := decide (0 ≤ x.Low) && (decide (x.Low ≤ x.High) && decide (x.High ≤ m))
theorem zxy {m : Int} {x : GSpan} : spB m x = true ↔ 0 ≤ x.Low ∧ x.Low ≤ x.High ∧ x.High ≤ m := by simp [spB]
theorem zuh (x : GSpan) (m : Int) : zdl 0 x m = some (spB m x) := by
 unfold zdl spB
 cases decide (0 ≤ x.Low) <;> cases decide (x.Low ≤ x.High) <;> rfl
theorem zqf (x : GSpan) (m : Int) : zch x m = some (spB m x) := by
 unfold zch
 simp only [zaik, Option.bind_some]
 rw [csome]
 congr 1
 rw [Bool.eq_iff_iff]
 simp only [Bool.and_eq_true, zop, zxy]
 omega
theorem zqs (a b : Int) : ∀ (p : List Int) (c : Int), zby a b p c = goB (p.all (inB a b))
 | [], _ => rfl
 | e :: p, c => by
  simp only [zby, zqc, Option.bind_some, zqs a b p, List.all_cons, zoh]
theorem zabb (a b : Int) {x : List Int} (h : lenOk x = true) : zdw a x b = some (x.all (inB a b)) := by
 unfold zdw
 rw [h, zqs, zlm]
 cases x.all (inB a b) <;> rfl
theorem zog (b : Int) : ∀ (p : List GSpan) (c : Int), zbs 0 b p c = goB (p.all (spB b))
 | [], _ => rfl
 | e :: p, c => by
  simp only [zbs, zuh, Option.bind_some, zog b p, List.all_cons, zoh]
theorem zoj (b : Int) {x : List GSpan} (h : lenOk x = true) : zca 0 x b = some (x.all (spB b)) := by
 unfold zca
 rw [h, zog, zlm]
 cases x.all (spB b) <;> rfl
def tinB (t : Gt) : Bool := spB 99 t.pg.a0 && (spB 99 t.pg.a1 && spB 99 t.pg.a2)
def sheetB (s : Gs) : Bool := (inB 0 99 s.Old.a0 && (inB 0 99 s.Old.a1 && inB 0 99 s.Old.a2)) && ((spB 9 s.Fade.a0 && (spB 9 s.Fade.a1 && spB 9 s.Fade.a2)) && (spB 20 s.Years && (inB 1 20 s.Off && (inB 1 4 s.Tins.length && s.Tins.all tinB))))
theorem zsa : ∀ (p : List Gt) (c : Int), zcn p c = goB (p.all tinB)
 | [], _ => rfl
 | e :: p, c => by
  have h : zca 0 [e.pg.a0, e.pg.a1, e.pg.a2] 99 = some (tinB e) := by
   rw [zoj 99 (zsr (by simp only [List.length_cons, List.length_nil]; decide))]
   simp only [List.all_cons, List.all_nil, Bool.and_true]
   rfl
  simp only [zcn, h, Option.bind_some, zsa p, List.all_cons, zoh]
theorem zyw {s : Gs} (h : lenOk s.Tins = true) : zbb s = some (sheetB s) := by
 unfold zbb zfn
 rw [zabb 0 99 (zsr (by simp only [List.length_cons, List.length_nil]; decide)), zoj 9 (zsr (by simp only [List.length_cons, List.length_nil]; decide)), zuh, zqc, zqc, h, zsa, zlm]
 simp only [List.all_cons, List.all_nil, Bool.and_true, Option.bind_some, sheetB]
 cases (inB 0 99 s.Old.a0 && (inB 0 99 s.Old.a1 && inB 0 99 s.Old.a2)) <;> cases (spB 9 s.Fade.a0 && (spB 9 s.Fade.a1 && spB 9 s.Fade.a2)) <;> cases spB 20 s.Years <;> cases inB 1 20 s.Off <;> cases inB 1 4 (s.Tins.length : Int) <;> cases s.Tins.all tinB <;> rfl
theorem zvd : ∀ (p : List Gt) (c : Int), zbg p c = goB (p.all fun t => spB 99 t.pg.a0)
 | [], _ => rfl
 | e :: p, c => by simp only [zbg, zqf, Option.bind_some, zvd p, List.all_cons, zoh]
theorem zuw : ∀ (p : List Gt) (c : Int), zbh p c = goB (p.all fun t => spB 99 t.pg.a1)
 | [], _ => rfl
 | e :: p, c => by simp only [zbh, zqf, Option.bind_some, zuw p, List.all_cons, zoh]
theorem zvh : ∀ (p : List Gt) (c : Int), zbi p c = goB (p.all fun t => spB 99 t.pg.a2)
 | [], _ => rfl
 | e :: p, c => by simp only [zbi, zqf, Option.bind_some, zvh p, List.all_cons, zoh]
theorem zaff : ∀ (p : List Gt), p.all tinB = ((p.all fun t => spB 99 t.pg.a0) && ((p.all fun t => spB 99 t.pg.a1) && (p.all fun t => spB 99 t.pg.a2)))
 | [] => rfl
 | e :: p => by
  simp only [List.all_cons, zaff p, tinB]
  cases spB 99 e.pg.a0 <;> cases spB 99 e.pg.a1 <;> cases spB 99 e.pg.a2 <;> simp
theorem zado {s : Gs} (h : lenOk s.Tins = true) : zfj s = some (sheetB s) := by
 unfold zfj zin sheetB
 rw [zaff, show Int.toNat (3 - 0) = 3 from rfl, show boundOk 3 = true from rfl]
 simp only [zck, h, zvd, zuw, zvh, zlm, zqf, zaik, Option.bind_some, Int.reduceAdd, Int.reduceBEq, cond_true, cond_false]
 cases inB 0 99 s.Old.a0 <;> cases inB 0 99 s.Old.a1 <;> cases inB 0 99 s.Old.a2 <;> cases spB 9 s.Fade.a0 <;> cases spB 9 s.Fade.a1 <;> cases spB 9 s.Fade.a2 <;> simp only [cond_true, cond_false, Bool.false_and, Bool.true_and, Bool.and_false, lbind] <;> first | (cases spB 20 s.Years <;> cases inB 1 20 s.Off <;> cases inB 1 4 (s.Tins.length : Int) <;> rfl) | (cases spB 20 s.Years <;> cases inB 1 20 s.Off <;> cases inB 1 4 (s.Tins.length : Int) <;> cases (s.Tins.all fun t => spB 99 t.pg.a0) <;> first | rfl | (cases (s.Tins.all fun t => spB 99 t.pg.a1) <;> first | rfl | (cases (s.Tins.all fun t => spB 99 t.pg.a2) <;> rfl)))
structure ShOk (s : Gs) : Prop where
 old : ∀ p, 0 ≤ selI s.Old p ∧ selI s.Old p ≤ 99
 fade : ∀ p, 0 ≤ (selS s.Fade p).Low ∧ (selS s.Fade p).Low ≤ (selS s.Fade p).High ∧ (selS s.Fade p).High ≤ 9
 yrs : 0 ≤ s.Years.Low ∧ s.Years.Low ≤ s.Years.High ∧ s.Years.High ≤ 20
 off : 1 ≤ s.Off ∧ s.Off ≤ 20
 n : 1 ≤ s.Tins.length ∧ s.Tins.length ≤ 4
 tin : ∀ t ∈ s.Tins, ∀ p, 0 ≤ (selS t.pg p).Low ∧ (selS t.pg p).Low ≤ (selS t.pg p).High ∧ (selS t.pg p).High ≤ 99
theorem ShOk.of {s : Gs} (h : sheetB s = true) : ShOk s := by
 simp only [sheetB, Bool.and_eq_true, List.all_eq_true, tinB, zop, zxy] at h
 obtain ⟨⟨h1, h2, h3⟩, ⟨h4, h5, h6⟩, h7, h8, h9, h10⟩ := h
 refine ⟨fun p => ?_, fun p => ?_, h7, h8, by omega, fun t ht p => ?_⟩
 ·cases p <;> assumption
 ·cases p <;> assumption
 ·obtain ⟨a, b, c⟩ := h10 t ht
  cases p <;> assumption
theorem ShOk.ok {s : Gs} (h : ShOk s) : sheetB s = true := by
 simp only [sheetB, Bool.and_eq_true, List.all_eq_true, tinB, zop, zxy]
 exact ⟨⟨h.old .p0, h.old .p1, h.old .p2⟩, ⟨h.fade .p0, h.fade .p1, h.fade .p2⟩, h.yrs, h.off, by have := h.n; omega, fun t ht => ⟨h.tin t ht .p0, h.tin t ht .p1, h.tin t ht .p2⟩⟩
def sumL : List Int → Int
 | [] => 0
 | e :: l => e + sumL l
def mixB (s : Gs) (mix : List Int) : Bool := decide (mix.length = s.Tins.length) && (mix.all (inB 0 8) && inB 1 8 (sumL mix))
structure MixOk (s : Gs) (mix : List Int) : Prop where
 n : mix.length = s.Tins.length
 b : ∀ e ∈ mix, 0 ≤ e ∧ e ≤ 8
 s : 1 ≤ sumL mix ∧ sumL mix ≤ 8
theorem MixOk.of {s : Gs} {mix : List Int} (h : mixB s mix = true) : MixOk s mix := by
 simp only [mixB, Bool.and_eq_true, List.all_eq_true, zop, decide_eq_true_eq] at h
 exact ⟨h.1, h.2.1, h.2.2⟩
theorem MixOk.ok {s : Gs} {mix : List Int} (h : MixOk s mix) : mixB s mix = true := by
 simp only [mixB, Bool.and_eq_true, List.all_eq_true, zop, decide_eq_true_eq]
 exact ⟨h.n, h.b, h.s⟩
def leftI (old y f : Int) : Int := if 0 < old - y * f then old - y * f else 0
theorem zaar {old y f : Int} (h1 : 0 ≤ old ∧ old ≤ 99) (h2 : 0 ≤ y ∧ y ≤ 20) (h3 : 0 ≤ f ∧ f ≤ 9) : zcg old y f = some (leftI old y f) := by
 have := mulR h2.1 h2.2 h3.1 h3.2
 unfold zcg leftI
 rw [zgj (n := y * f) (by omega) (by omega), zgj (by omega) (by omega)]
def aimP (s : Gs) (p : P3) : GSpan := ⟨leftI (selI s.Old p) s.Years.High (selS s.Fade p).High, leftI (selI s.Old p) s.Years.Low (selS s.Fade p).Low⟩
def aimS (s : Gs) : Ga := ⟨aimP s .p0, aimP s .p1, aimP s .p2⟩
theorem zsv {s : Gs} (hs : ShOk s) (p : P3) : zcg (selI s.Old p) s.Years.High (selS s.Fade p).High = some (aimP s p).Low := by
 have h1 := hs.old p
 have h2 := hs.yrs
 have h3 := hs.fade p
 exact zaar h1 (by omega) (by omega)
theorem zpx {s : Gs} (hs : ShOk s) (p : P3) : zcg (selI s.Old p) s.Years.Low (selS s.Fade p).Low = some (aimP s p).High := by
 have h1 := hs.old p
 have h2 := hs.yrs
 have h3 := hs.fade p
 exact zaar h1 (by omega) (by omega)
theorem zaoy {s : Gs} (hs : ShOk s) : zev s = some (aimS s) := by
 have a0 := zsv hs .p0
 have a1 := zsv hs .p1
 have a2 := zsv hs .p2
 have b0 := zpx hs .p0
 have b1 := zpx hs .p1
 have b2 := zpx hs .p2
 simp only [selI, selS] at a0 a1 a2 b0 b1 b2
 unfold zev
 rw [a0, a1, a2, b0, b1, b2]
 rfl
theorem zkp {s : Gs} (hs : ShOk s) (p : P3) {y f : Int} (h2 : 0 ≤ y ∧ y ≤ 20) (h3 : 0 ≤ f ∧ f ≤ 9) : zce s p.i y f = some (leftI (selI s.Old p) y f) := by
 have h1 := hs.old p
 have h := zaar h1 h2 h3
 unfold zcg at h
 unfold zce
 cases p <;> simp only [P3.i, Int.reduceBEq, cond_true, cond_false] <;> exact h
theorem zajq {s : Gs} (hs : ShOk s) : zgx s = some (aimS s) := by
 have hy := hs.yrs
 have f0 := hs.fade .p0
 have f1 := hs.fade .p1
 have f2 := hs.fade .p2
 simp only [selS] at f0 f1 f2
 have a0 := zkp hs .p0 (y := s.Years.High) (f := s.Fade.a0.High) (by omega) (by omega)
 have a1 := zkp hs .p1 (y := s.Years.High) (f := s.Fade.a1.High) (by omega) (by omega)
 have a2 := zkp hs .p2 (y := s.Years.High) (f := s.Fade.a2.High) (by omega) (by omega)
 have b0 := zkp hs .p0 (y := s.Years.Low) (f := s.Fade.a0.Low) (by omega) (by omega)
 have b1 := zkp hs .p1 (y := s.Years.Low) (f := s.Fade.a1.Low) (by omega) (by omega)
 have b2 := zkp hs .p2 (y := s.Years.Low) (f := s.Fade.a2.Low) (by omega) (by omega)
 simp only [P3.i] at a0 a1 a2 b0 b1 b2
 unfold zgx
 rw [show Int.toNat (3 - 0) = 3 from rfl, show boundOk 3 = true from rfl]
 simp only [zdi, Int.reduceAdd, Int.reduceBEq, cond_true, cond_false, a0, a1, a2, b0, b1, b2, Option.bind_some, lbind]
 rfl
end Go.V
end
section
namespace Go.V
open Go Go.Proofs
def zee (xs : List Int) : Option (List Int) := cond (neB xs) (cond (roomOk 8 xs.length) (some xs) none) none
theorem zja (xs R : List Int) (h : zee xs = some R) : VPure Tryz.prog G0 140 [.sl (cellsL eI xs) xs.length false] (.own (cellsL eI R) R.length 1) := by
 unfold zee at h
 cases hn : neB xs with
 | false => rw [hn] at h; cases h
 | true =>
 cases hr : roomOk 8 xs.length with
 | false => rw [hn, hr] at h; cases h
 | true =>
 rw [hn, hr] at h
 simp only [cond_true, Option.some.injEq] at h
 subst h
 have hc : cellsL eI xs ≠ [] := by
  cases xs with
  | nil => cases hn
  | cons a l => intro hh; cases hh
 have hnil : ∀ (H : Nat → Option VObj) (x y : Operand), binV Tryz.prog H .eql 29 x y (.sl (cellsL eI xs) xs.length false) (.lit (.slice none 0 0)) = some (.lit (.bool false)) := fun H x y => zabr Tryz.underlying29 hc
 have hb : vbuildSlice Tryz.prog 29 0 [] = some ([], 1) := by kernel_rfl
 refine VPure.run mixed Tryz.call140 Tryz.func140 rfl (by simp [Tryz.ntmps140]; kernel_rfl) ?_
 simp only [vz, tyf, hnil, hb, List.map_nil, seval]
 refine zaqy (w := 1) (enc := eI) (xs := ([] : List Int)) (ys := xs) (el := some 3) (fun _ => rfl) lf29 ao29 Tryz.underlying29 rfl hn (by rw [List.nil_append]; exact hr) ?_
 simp only [vz, tyf, List.nil_append, seval]
 refine ⟨rfl, .ref 5 0 xs.length 1 xs.length, by simp [Tryz.results140, resV, resL, resV1, upd], (cellsL eI xs).length + 1, 5, _, cellsL eI xs, ⟨_, rfl⟩, by simp only [zaa, zaq, seval] <;> rfl, zhp _ _ (eI_ok.treeL xs) (Nat.lt_succ_self _)⟩
end Go.V
end
section
set_option linter.defProp false
namespace Go.V
open Go
section
variable {P : Program} {H : Nat → Option VObj} {t : TypeId} {x y : Operand} {k : IntKind} {a b : Int}
theorem zamk (h : (b != 0) = true) : binV P H .quo t x y (.lit (.int k a)) (.lit (.int k b)) = some (.lit (.int k (k.wrap (a.tdiv b)))) := by
 have : b ≠ 0 := by simpa using h
 simp [binV, VV.val?, vbin, ofVal, ofVal2, ofVal1, this]
theorem zake (h : (b != 0) = true) : binV P H .rem t x y (.lit (.int k a)) (.lit (.int k b)) = some (.lit (.int k (a.tmod b))) := by
 have : b ≠ 0 := by simpa using h
 simp [binV, VV.val?, vbin, ofVal, ofVal2, ofVal1, this]
theorem zaom : unV P .neg (.lit (.int k a)) = some (.lit (.int k (k.wrap (-a)))) := by simp [unV, VV.val?, Op.unary, Op.intArith, zbf, ofVal, ofVal2, ofVal1]
theorem zamx {a b : ByteArray} : binV P H .eql t x y (.lit (.string a)) (.lit (.string b)) = some (.lit (.bool (a.toList == b.toList))) := by simp [binV, VV.val?, vbin, ofVal, ofVal2, ofVal1]
theorem zakq {a b : ByteArray} : binV P H .neq t x y (.lit (.string a)) (.lit (.string b)) = some (.lit (.bool (!(a.toList == b.toList)))) := by simp [binV, VV.val?, vbin, ofVal, ofVal2, ofVal1]
def qr := And.intro @zamk (And.intro @zake (And.intro @zaom (And.intro @zamx @zakq)))
end
end Go.V
end
section
namespace Go.V
open Go
section
variable {P : Program} {G : Glob} {ops : Array Oper} {base : Nat} {Q : VExit → St → Prop} {n : Nat}
end
end Go.V
namespace Go.V
open Go
section
variable {P : Program} {G : Glob} {ops : Array Oper} {base : Nat} {Q : VExit → St → Prop} {n : Nat}
end
section
variable {P : Program} {G : Glob} {ops : Array Oper} {base : Nat} {Q : VExit → St → Prop} {n : Nat} {i m b : Nat} {o : Oper} {l l2 : List Oper} {mk mE mL : List Bool} {tr : Tr} {K : Tr → St → Prop} {tm : Nat → VV} {H : Nat → Option VObj} {nx : Nat} {df : List VDef} {st : St} {rest : List (List Bool × Nat)}
end
end Go.V
namespace Go.V
set_option linter.defProp false
end Go.V
end
section
namespace Go.V
open Go
def gone (H H' : Nat → Option VObj) : Nat → Option VObj := fun β => if (H' β).isSome then none else H β
theorem SubHeap.gone (H H' : Nat → Option VObj) : SubHeap (gone H H') H := fun x o h => by
 unfold Go.V.gone at h
 split at h
 ·cases h
 ·exact h
def Frozen (H H' : Nat → Option VObj) (x y : VV) : Prop := y = x ∨ y = .any ∨ ∃ n, sealV (gone H H') n x = some y
def FrozenL (H H' : Nat → Option VObj) : List VV → List VV → Prop
 | [], [] => True
 | x :: xs, y :: ys => Frozen H H' x y ∧ FrozenL H H' xs ys
 | _, _ => False
def FrozenO (H H' : Nat → Option VObj) (o o' : VObj) : Prop := o' = o ∨ ∃ el cs cs', o = .cells el cs ∧ o' = .cells el cs' ∧ FrozenL H H' cs cs'
def Ctx.frz (c : Ctx) (H' : Nat → Option VObj) : Ctx := { c with H := H', A := fun b => c.A b ∨ ∃ β, c.live β ∧ (H' β).isSome = false ∧ c.φ β = b }
section
variable {c : Ctx} {W : World} {H' : Nat → Option VObj}
theorem zhc (hl : ∀ β, (H' β).isSome = true → c.live β) : Abides c W (c.frz H') W := ⟨fun _ h => .inl h, fun _ _ => rfl, fun _ h => h, fun β _ h => hl β h, fun _ _ _ => rfl, fun _ _ _ => rfl⟩
theorem zva (hl : ∀ β, (H' β).isSome = true → c.live β) : Ext c W (c.frz H') W where
 A _ h := .inl h
 newA b h := h.imp id fun ⟨β, h1, _, e⟩ => .inr ⟨β, h1, e⟩
 used _ h := h
 live β _ h := hl β h
 φ _ _ _ := rfl
 room _ _ _ := rfl
 keep _ _ _ := rfl
 old x h _ := ⟨x, hl x h, rfl⟩
 size := Nat.le_refl _
 os := rfl
 tape := rfl
 output := rfl
theorem zqr (s : Sim c W) (hl : ∀ β, (H' β).isSome = true → c.live β) {x y : VV} {v : Value} (h : Frozen c.H H' x y) (hr : Rep c W x v) : Rep (c.frz H') W y v := by
 rcases h with rfl | rfl | ⟨n, hn⟩
 ·exact Rep.abides (zhc hl) _ hr
 ·unfold Rep; trivial
 ·have h1 := (zhk s (SubHeap.gone c.H H') n).1 x v y hn hr
  refine Rep.abides (zbz fun b hb => ?_) _ h1
  rcases hb with hb | ⟨β, hβ, e⟩
  ·exact .inl hb
  ·refine .inr ⟨β, ?_, ?_, e⟩
   ·unfold Go.V.gone at hβ
    split at hβ
    ·cases hβ
    ·exact hβ
   ·cases h0 : (H' β).isSome with
    | false => rfl
    | true => unfold Go.V.gone at hβ; rw [h0] at hβ; cases hβ
theorem zgu (s : Sim c W) (hl : ∀ β, (H' β).isSome = true → c.live β) : ∀ {xs ys : List VV} {l : List Value}, FrozenL c.H H' xs ys → RepL c W xs l → RepL (c.frz H') W ys l
 | [], [], _, _, h => h
 | _ :: _, _ :: _, _, ⟨h1, h2⟩, ⟨u, us, e, r1, r2⟩ => ⟨u, us, e, zqr s hl h1 r1, zgu s hl h2 r2⟩
 | [], _ :: _, _, h, _ => h.elim
 | _ :: _, [], _, h, _ => h.elim
theorem FrozenL.length {H H' : Nat → Option VObj} : ∀ {xs ys : List VV}, FrozenL H H' xs ys → ys.length = xs.length
 | [], [], _ => rfl
 | _ :: _, _ :: _, h => by simp [FrozenL.length h.2]
 | [], _ :: _, h => h.elim
 | _ :: _, [], h => h.elim
theorem Sim.frz (s : Sim c W) (ho : ∀ β o', H' β = some o' → ∃ o, c.H β = some o ∧ FrozenO c.H H' o o') (hloop : ∀ x st pe tm ps asg bo df, H' x = some (.loop st pe tm ps asg bo df) → isDef H' df) : Sim (c.frz H') W := by
 have hl : ∀ β, (H' β).isSome = true → c.live β := by
  intro β h
  obtain ⟨o', h'⟩ := Option.isSome_iff_exists.1 h
  obtain ⟨o, h1, _⟩ := ho β o' h'
  simp [Ctx.live, h1]
 have ab : Abides c W (c.frz H') W := zhc hl
 refine ⟨fun x h => s.used x (hl x h), fun x ox hx => ?_, fun x h => s.lt x (hl x h), fun x h => ?_, fun x y hx hy e => s.inj x y (hl x hx) (hl y hy) e, fun b hb => ?_⟩
 ·have hx0 : H' x = some ox := hx
  obtain ⟨o, h1, hf⟩ := ho x ox hx0
  rcases hf with rfl | ⟨el, cs, cs', rfl, rfl, hcs⟩
  ·refine (s.obj x _ h1).abides ab (s.used x (hl x (by simp [hx0]))) (by simp [Ctx.live, Ctx.frz, hx0]) rfl ?_
   intro st pe tm ps asg bo df e'
   subst e'
   exact hloop x st pe tm ps asg bo df hx0
  ·obtain ⟨arr, e, a1, a2, a3, a4, a5⟩ := s.obj x _ h1
   exact ⟨arr, e, a1, a2, by rw [hcs.length]; exact a3, by rw [hcs.length]; exact zgu s hl hcs a4, a5⟩
 ·rintro (hA | ⟨β, h1, hn, e⟩)
  ·exact s.notA x (hl x h) hA
  ·have := s.inj β x h1 (hl x h) e
   subst this
   have h' : (H' β).isSome = true := h
   rw [h'] at hn; cases hn
 ·rcases hb with hA | ⟨β, h1, _, e⟩
  ·exact s.ltA b hA
  ·rw [← e]; exact s.lt β h1
end
theorem VWp.freeze {P : Program} {G : Glob} {n : Nat} {code : Code} {Q : VExit → St → Prop} {st : St} (H' : Nat → Option VObj) (tm' : Nat → VV) (ho : ∀ β o', H' β = some o' → ∃ o, st.H β = some o ∧ FrozenO st.H H' o o') (hloop : ∀ x s pe tm ps asg bo df, H' x = some (.loop s pe tm ps asg bo df) → isDef H' df)
  (htm : ∀ t, Frozen st.H H' (st.tm t) (tm' t)) (h : VWp P G n code Q ⟨tm', H', st.nx, st.df⟩) : VWp P G n code Q st := by
 intro ro c W a hro s hr hsz
 have ho' : ∀ β o', H' β = some o' → ∃ o, c.H β = some o ∧ FrozenO c.H H' o o' := by rw [hr.H]; exact ho
 have hl : ∀ β, (H' β).isSome = true → c.live β := by
  intro β h
  obtain ⟨o', h'⟩ := Option.isSome_iff_exists.1 h
  obtain ⟨o, h1, _⟩ := ho' β o' h'
  simp [Ctx.live, h1]
 have he : Ext c W (c.frz H') W := zva hl
 have ab : Abides c W (c.frz H') W := zhc hl
 refine wpIn_mono (h ro (c.frz H') W a (hro.ext he) (s.frz ho' hloop) ⟨rfl, fun t => ?_, hr.nx, hr.df.abides ab, hr.G.abides ab⟩ hsz) fun _ _ _ hl => hl.of_ext he (fun β hb => .inl hb) (Nat.le_refl _)
 exact zqr s hl (by rw [hr.H]; exact htm t) (hr.tm t)
end Go.V
end
section
namespace Go.V
open Go
theorem VOpen.freeze {P : Program} {G : Glob} {f : FuncId} {args args' : List VV} {H : Nat → Option VObj} {nx : Nat} {R Rp : VV → (Nat → Option VObj) → Nat → Prop} (H' : Nat → Option VObj) (ho : ∀ β o', H' β = some o' → ∃ o, H β = some o ∧ FrozenO H H' o o')
  (hloop : ∀ x s pe tm ps asg bo df, H' x = some (.loop s pe tm ps asg bo df) → isDef H' df) (ha : FrozenL H H' args args') (h : VOpen P G f args' H' nx R Rp) : VOpen P G f args H nx R Rp := by
 refine ⟨h.1, fun c W vs s hH hnx hG hargs => ?_⟩
 have ho' : ∀ β o', H' β = some o' → ∃ o, c.H β = some o ∧ FrozenO c.H H' o o' := by rw [hH]; exact ho
 have hl : ∀ β, (H' β).isSome = true → c.live β := by
  intro β h
  obtain ⟨o', h'⟩ := Option.isSome_iff_exists.1 h
  obtain ⟨o, h1, _⟩ := ho' β o' h'
  simp [Ctx.live, h1]
 have he : Ext c W (c.frz H') W := zva hl
 have ab : Abides c W (c.frz H') W := zhc hl
 refine (h.2 (c.frz H') W vs (s.frz ho' hloop) rfl hnx (hG.abides ab) (zgu s hl (by rw [hH]; exact ha) hargs)).mono ?_
 rintro e W' ⟨c', H1, nx', g1, g2, g3, g4, g5, g6, g7⟩
 exact ⟨c', H1, nx', he.trans g1, g2, g3, g4, g5, g6, g7⟩
def Yields (P : Program) (G : Glob) (β : Nat) (x : VV) (H : Nat → Option VObj) (nx : Nat) (Post : Bool → (Nat → Option VObj) → Nat → Prop) : Prop :=
 ∀ (r : Option (Option Nat)) (o : Oper) (st : St) (K : St → Prop), st.H = H → st.nx = nx → (∀ b H' nx', Post b H' nx' → K ⟨(match o.dst with | some d => upd st.tm d (.lit (.bool b)) | none => st.tm), H', nx', st.df⟩) → yieldK P (G.at r) o β [x] st K
theorem Yields.mono {P : Program} {G : Glob} {β : Nat} {x : VV} {H : Nat → Option VObj} {nx : Nat} {Post Post' : Bool → (Nat → Option VObj) → Nat → Prop} (h : Yields P G β x H nx Post) (hp : ∀ b H' nx', Post b H' nx' → Post' b H' nx') : Yields P G β x H nx Post' :=
 fun r o st K h1 h2 hk => h r o st K h1 h2 fun b H' nx' hp' => hk b H' nx' (hp b H' nx' hp')
abbrev Inv := Option (List VV) → (Nat → Prop) → (Nat → Option VObj) → Nat → Prop
def Stable (I : Inv) : Prop := ∀ o (Fr Fr1 : Nat → Prop) (H H1 : Nat → Option VObj) (nx nx1 : Nat), I o Fr H nx → (∀ γ, γ < nx → ¬ Fr γ → H1 γ = H γ) → nx ≤ nx1 → (∀ γ, Fr1 γ → Fr γ ∨ (nx ≤ γ ∧ γ < nx1)) → I o Fr1 H1 nx1
def Rounds (P : Program) (G : Glob) (β : Nat) (I : Inv) : Prop := ∀ x rest (Fr : Nat → Prop) (H : Nat → Option VObj) (nx : Nat), (∀ γ, Fr γ → γ < nx) → I (some (x :: rest)) Fr H nx →
 Yields P G β x H nx (fun b H' nx' => nx ≤ nx' ∧ (∀ γ, Fr γ → H' γ = H γ) ∧ I (if b then some rest else none) Fr H' nx')
def noFr : Nat → Prop := fun _ => False
def Iter (P : Program) (G : Glob) (g : VV) (L : List VV) : Prop := ∃ f first captured, g = .fn (.func f) first captured ∧ ∀ (β : Nat) (I : Inv), Stable I → Rounds P G β I → ∀ (H : Nat → Option VObj) (nx : Nat), β < nx → I (some L) noFr H nx →
 VOpen P G f (first ++ [.yl β] ++ captured) H nx (fun _ H' nx' => I (some []) noFr H' nx' ∨ I none noFr H' nx') (fun _ _ _ => False)
def Own (hp : List (Nat × VObj)) (Fr : Nat → Prop) (H : Nat → Option VObj) (nx : Nat) : Prop := ∀ p ∈ hp, p.1 < nx ∧ ¬ Fr p.1 ∧ H p.1 = some p.2
theorem Own.stable {hp : List (Nat × VObj)} {Fr Fr1 : Nat → Prop} {H H1 : Nat → Option VObj} {nx nx1 : Nat} (h : Own hp Fr H nx) (h1 : ∀ γ, γ < nx → ¬ Fr γ → H1 γ = H γ) (h2 : nx ≤ nx1) (h3 : ∀ γ, Fr1 γ → Fr γ ∨ (nx ≤ γ ∧ γ < nx1)) : Own hp Fr1 H1 nx1 := by
 intro p hp
 obtain ⟨a, b, c⟩ := h p hp
 refine ⟨Nat.lt_of_lt_of_le a h2, fun hf => ?_, by rw [h1 p.1 a b]; exact c⟩
 rcases h3 p.1 hf with hf | hf
 ·exact b hf
 ·omega
theorem Own.nil {Fr : Nat → Prop} {H : Nat → Option VObj} {nx : Nat} : Own [] Fr H nx := fun _ h => by cases h
theorem Own.cons {p : Nat} {o : VObj} {hp : List (Nat × VObj)} {Fr : Nat → Prop} {H : Nat → Option VObj} {nx : Nat} (h1 : p < nx) (h2 : ¬ Fr p) (h3 : H p = some o) (h : Own hp Fr H nx) : Own ((p, o) :: hp) Fr H nx := by
 intro q hq
 rcases List.mem_cons.1 hq with rfl | hq
 ·exact ⟨h1, h2, h3⟩
 ·exact h q hq
theorem Own.head {p : Nat} {o : VObj} {hp : List (Nat × VObj)} {Fr : Nat → Prop} {H : Nat → Option VObj} {nx : Nat} (h : Own ((p, o) :: hp) Fr H nx) : p < nx ∧ ¬ Fr p ∧ H p = some o := h (p, o) (List.mem_cons_self ..)
theorem Own.tail {p : Nat} {o : VObj} {hp : List (Nat × VObj)} {Fr : Nat → Prop} {H : Nat → Option VObj} {nx : Nat} (h : Own ((p, o) :: hp) Fr H nx) : Own hp Fr H nx := fun q hq => h q (List.mem_cons_of_mem _ hq)
def ownI (J : Option (List VV) → List (Nat × VObj) → Prop) : Inv := fun o Fr H nx => ∃ hp, Own hp Fr H nx ∧ J o hp
theorem ziq {J : Option (List VV) → List (Nat × VObj) → Prop} : Stable (ownI J) := fun _ _ _ _ _ _ _ ⟨hp, h, hj⟩ h1 h2 h3 => ⟨hp, h.stable h1 h2 h3, hj⟩
def ownI2 (I : Inv) (J : Option (List VV) → Option (List VV) → List (Nat × VObj) → Prop) : Inv := fun o Fr H nx => ∃ hp o', Own hp Fr H nx ∧ J o o' hp ∧ I o' (fun γ => Fr γ ∨ ∃ p ∈ hp, p.1 = γ) H nx
theorem zjn {I : Inv} (hs : Stable I) {J : Option (List VV) → Option (List VV) → List (Nat × VObj) → Prop} : Stable (ownI2 I J) := by
 rintro o Fr Fr1 H H1 nx nx1 ⟨hp, o', h, hj, hi⟩ h1 h2 h3
 refine ⟨hp, o', h.stable h1 h2 h3, hj, hs _ _ _ _ _ _ _ hi (fun γ hlt hn => h1 γ hlt fun hf => hn (.inl hf)) h2 ?_⟩
 rintro γ (hf | hf)
 ·rcases h3 γ hf with hf | hf
  ·exact .inl (.inl hf)
  ·exact .inr hf
 ·exact .inl (.inr hf)
section
variable {P : Program} {G : Glob} {n : Nat} {Q : VExit → St → Prop} {tm : Nat → VV} {H : Nat → Option VObj} {nx : Nat} {df : List VDef} {g : Operand} {ps : Array Tmp} {az bo : Code}
def RPost (β : Nat) (LB LO : VObj) (LD : Code → VObj) (Post : Bool → (Nat → Option VObj) → Nat → Prop) : VExit → St → Prop
 | .normal, s => s.H β = some LB ∧ Post true (updH s.H β LO) s.nx
 | .ret, s => s.H β = some LB ∧ Post false (updH s.H β (LD .ret)) s.nx
 | .exit id, s => s.H β = some LB ∧ Post false (updH s.H β (LD (.exit id))) s.nx
 | _, _ => False
def RStart (P : Program) (G : Glob) (n β : Nat) (LB LO : VObj) (LD : Code → VObj) (bo : Code) (Post : Bool → (Nat → Option VObj) → Nat → Prop) : VExit → St → Prop
 | .normal, s => s.H β = some LO ∧ CWp P (G.at (some (some β))) n bo (RPost β LB LO LD Post) { s with H := updH s.H β LB }
 | _, _ => False
theorem zfb (hm : P.follows .mixedOrders = true) {β : Nat} {x : VV} {Post : Bool → (Nat → Option VObj) → Nat → Prop} {LO : VObj} {tml : List VV} {d : Nat} {psl : List Tmp} (hL : LO = VObj.loop .ready none tml ⟨psl⟩ az bo d) (hβ : H β = some LO) (hn : tml.length = n) (ha : psl.length = 1)
  (h1 : codeOk n az = true) (h2 : codeOk n bo = true)
  (h : ∀ LB LD, LB = VObj.loop .busy none tml ⟨psl⟩ az bo d → LD = (fun c => VObj.loop .done (some c) tml ⟨psl⟩ az bo d) →
   CWp P (G.at (some (some β))) n az (RStart P G n β LB LO LD bo Post) ⟨argsTm (roundTm tml psl [x]), H, nx, []⟩) : Yields P G β x H nx Post := by
 intro r o st K e1 e2 hk
 subst e1 e2
 replace hk : ∀ b H' nx', Post b H' nx' → K { st.put o.dst (.lit (.bool b)) with H := H', nx := nx' } := by
  intro b H' nx' hp
  have := hk b H' nx' hp
  obtain ⟨d, op, ty, pos, af, gd⟩ := o
  cases d <;> exact this
 refine zaal hm hL hβ hn (by simp [ha]) h1 h2 fun LB LD hB hD => ?_
 refine CWp.mono az _ ?_ (h LB LD hB hD)
 intro e s hs
 cases e with
 | normal =>
  refine ⟨hs.1, CWp.mono bo _ ?_ hs.2⟩
  intro e s2 hs2
  cases e with
  | normal => exact ⟨hs2.1, hk _ _ _ hs2.2⟩
  | ret => exact ⟨hs2.1, hk _ _ _ hs2.2⟩
  | exit id => exact ⟨hs2.1, hk _ _ _ hs2.2⟩
  | goto l => exact hs2.elim
  | panic x => exact hs2.elim
 | _ => exact hs.elim
theorem zfy {itv : VV} {L : List VV} (hit : Iter P G itv L) (hg : ev (G.at (some none)) tm g = itv)
  (h : ∀ LO, LO = VObj.loop .ready none (tmL n tm) ps az bo nx → ∃ I : Inv, Stable I ∧ Rounds P G (nx + 1) I ∧ I (some L) noFr (updH (updH H nx (.deferred (some []))) (nx + 1) LO) (nx + 2) ∧
   ∀ H' nx', I (some []) noFr H' nx' ∨ I none noFr H' nx' → RangeEnd P (G.at (some none)) n Q ⟨tm, H, nx, df⟩ H' nx') : CWp P (G.at (some none)) n (.rangeFunc g ps az bo) Q ⟨tm, H, nx, df⟩ := by
 obtain ⟨f, first, captured, rfl, hv⟩ := hit
 refine zaaw hg fun LO hL => ?_
 obtain ⟨I, hs, hr, h0, he⟩ := h LO hL
 exact VOpen.mono (hv (nx + 1) I hs hr _ _ (Nat.lt_succ_self _) h0) (fun _ H' nx' hh => he H' nx' hh) (fun _ _ _ hh => hh.elim)
end
end Go.V
end
