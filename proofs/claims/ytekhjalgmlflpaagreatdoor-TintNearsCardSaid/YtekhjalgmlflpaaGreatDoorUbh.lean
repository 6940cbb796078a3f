/- Part of a proof. -/
import Derived.Test.YtekhjalgmlflpaaGreatDoorUbg
set_option linter.all false
set_option maxRecDepth 4000
set_option maxHeartbeats 40000000
section
namespace Go.V
open Go Go.Proofs
def zbr  : List Gt → Int → Option (LOut (Bool) (Unit))
 | [], c3_4 => some (.go ())
 | e3 :: p3, c3_4 => Option.bind (zcn e3.pg.a2 99) (fun r16 => cond (r16) (zbr p3 (c3_4 + 1)) (some (.ret false)))
def zbq  : List Gt → Int → Option (LOut (Bool) (Unit))
 | [], c2_4 => some (.go ())
 | e2 :: p2, c2_4 => Option.bind (zcn e2.pg.a1 99) (fun r11 => cond (r11) (zbq p2 (c2_4 + 1)) (some (.ret false)))
def zbp  : List Gt → Int → Option (LOut (Bool) (Unit))
 | [], c1_4 => some (.go ())
 | e1 :: p1, c1_4 => Option.bind (zcn e1.pg.a0 99) (fun r6 => cond (r6) (zbp p1 (c1_4 + 1)) (some (.ret false)))
def zco (x0_s : Gs) : Nat → Int → Option (LOut (Bool) (Unit))
 | 0, c0_3 => some (.go ())
 | k0 + 1, c0_3 => cond (c0_3 == 0) (Option.bind (zep x0_s.Old.a0 0 99) (fun r4 => cond (r4) (Option.bind (zcn x0_s.Fade.a0 9) (fun r5 => cond (r5) (cond (lenOk x0_s.Tins) (lbind (zbp x0_s.Tins 0) (fun r8 => some (.ret r8)) (fun c7 => zco x0_s k0 (c0_3 + 1)) (fun _ _ => none)) none) (some (.ret false)))) (some (.ret false)))) (cond (c0_3 == 1) (Option.bind (zep x0_s.Old.a1 0 99) (fun r9 => cond (r9) (Option.bind (zcn x0_s.Fade.a1 9) (fun r10 => cond (r10) (cond (lenOk x0_s.Tins) (lbind (zbq x0_s.Tins 0) (fun r13 => some (.ret r13)) (fun c12 => zco x0_s k0 (c0_3 + 1)) (fun _ _ => none)) none) (some (.ret false)))) (some (.ret false)))) (cond (c0_3 == 2) (Option.bind (zep x0_s.Old.a2 0 99) (fun r14 => cond (r14) (Option.bind (zcn x0_s.Fade.a2 9) (fun r15 => cond (r15) (cond (lenOk x0_s.Tins) (lbind (zbr x0_s.Tins 0) (fun r18 => some (.ret r18)) (fun c17 => zco x0_s k0 (c0_3 + 1)) (fun _ _ => none)) none) (some (.ret false)))) (some (.ret false)))) (none)))
def zfr (x0_s : Gs) : Option (Bool) := Option.bind (zcn x0_s.Years 20) (fun r1 => cond (r1) (Option.bind (zjn x0_s.Off) (fun r2 => cond (r2) (Option.bind (zep (List.length x0_s.Tins : Int) 1 4) (fun r3 => cond (r3) (cond (boundOk 3) (lbind (zco x0_s (Int.toNat (3 - 0)) 0) (fun r20 => some r20) (fun c19 => some true) (fun _ _ => none)) none) (some false))) (some false))) (some false))
theorem znt (x0_s : Gs) (R : Bool) (h : zfr x0_s = some R) : VPure Tryz.prog G0 20 [.agg (cGs x0_s)] (.tree (.lit (.bool R))) := by
 refine VPure.runR mixed Tryz.call20 Tryz.func20 rfl (by simp [Tryz.ntmps20]; kernel_rfl) ?_
 obtain ⟨KF, h, kF, kN⟩ := zam h
 simp only [zfr] at h
 obtain ⟨r21, o22, h⟩ := optI h kN
 try simp only [hs] at h
 simp only [vz, tyf, nm, seval]
 refine ktA (zdb _ _ _ o22) ?_
 refine zae (fun tm => tm 1 = .ptr 0 0 ∧ tm 7 = .lit (.bool r21) ∧ True) (by refine ⟨?_, ?_, trivial⟩ <;> first | (simp only [ua, nm, seval] <;> rfl) | rfl) ?_
 rintro tm ⟨e23, e24, _⟩
 cases d25 : (r21)
 ·simp only [d25, hs] at h
  try simp only [vz, tyf, e23, e24, d25, nm, seval]
  obtain rfl := kF _ h
  exact zan Tryz.results20 rfl
 simp only [d25, hs] at h
 obtain ⟨r26, o27, h⟩ := optI h kN
 try simp only [hs] at h
 simp only [vz, tyf, e23, e24, d25, nm, seval]
 refine ktA (zrf _ _ o27) ?_
 refine zae (fun tm => tm 1 = .ptr 0 0 ∧ tm 9 = .lit (.bool false) ∧ tm 12 = .lit (.bool r26) ∧ True) (by refine ⟨e23, ?_, ?_, trivial⟩ <;> first | (simp only [ua, e23, e24, d25, nm, seval] <;> rfl) | rfl) ?_
 rintro tm ⟨e28, e29, e30, _⟩
 cases d31 : (r26)
 ·simp only [d31, hs] at h
  try simp only [vz, tyf, d25, e28, e29, e30, d31, nm, seval]
  obtain rfl := kF _ h
  exact zan Tryz.results20 rfl
 simp only [d31, hs] at h
 obtain ⟨r32, o33, h⟩ := optI h kN
 try simp only [hs] at h
 simp only [vz, tyf, d25, e28, e29, e30, d31, nm, seval]
 refine ktA (zed _ _ _ _ o33) ?_
 refine zae (fun tm => tm 1 = .ptr 0 0 ∧ tm 15 = .lit (.bool false) ∧ tm 19 = .lit (.bool r32) ∧ True) (by refine ⟨e28, ?_, ?_, trivial⟩ <;> first | (simp only [ua, d25, e28, e29, e30, d31, nm, seval] <;> rfl) | rfl) ?_
 rintro tm ⟨e34, e35, e36, _⟩
 cases d37 : (r32)
 ·simp only [d37, hs] at h
  try simp only [vz, tyf, d25, d31, e34, e35, e36, d37, nm, seval]
  obtain rfl := kF _ h
  exact zan Tryz.results20 rfl
 simp only [d37, hs] at h
 cases g39 : (boundOk 3)
 ·simp only [g39, hs] at h
  exact absurd h kN
 simp only [g39, hs] at h
 simp only [vz, tyf, d25, d31, e34, e35, e36, d37, g39, nm, seval]
 obtain ⟨K38, h, kR38, kG38, kB38, kN38⟩ := zbc h kN
 obtain ⟨f38, hf38, h⟩ := call2 h
 obtain ⟨I38, hI38⟩ : ∃ I : Nat → St → Prop, I = (fun m st => ∃ (p38 : Nat) (c38_3 : Int), p38 = m ∧ loOk c38_3 = true ∧ Int.toNat (3 - c38_3) = p38 ∧ st.df = [] ∧ 20 ≤ st.nx ∧ st.H 0 = some (.cells (some 28) (cGs x0_s)) ∧ st.tm 1 = .ptr 0 0 ∧ st.tm 3 = .lit (.int .i64 c38_3) ∧ K38 (f38 p38 c38_3)) := ⟨_, rfl⟩
 refine loopK mixed (by kernel_rfl) I38 (Int.toNat (3 - 0)) (by rw [hI38]; refine ⟨Int.toNat (3 - 0), 0, rfl, (by rfl), rfl, rfl, (show 20 ≤ 20 by omega), ?_, e34, ?_, h⟩ <;> first | (simp only [ua, d25, d31, e34, e35, e36, d37, nm, seval] <;> rfl) | rfl) ?_
 rintro m ⟨tm, H, nx38, df⟩ hinv
 rw [hI38] at hinv
 obtain ⟨p38, c38_3, rfl, hi38, hp38, hdf, hn38, H40, e41, e42, h⟩ := hinv
 simp only at hdf hn38 H40 e41 e42
 have n43 := zct (m := 20) (b := nx38) (by omega)
 subst hdf hf38
 cases p38 with
 | zero =>
  have d44 : (decide (c38_3 < 3)) = false := zkj hp38
  simp only [zco, hs, reduceCtorEq] at h
  replace h := kG38 _ h
  try dsimp only at h
  try simp only [hs] at h
  try simp only [vz, tyf, d25, d31, d37, g39, n43, e41, e42, H40, d44, nm, seval]
  obtain rfl := kF _ h
  exact zan Tryz.results20 rfl
 | succ p38 =>
  have d45 : (decide (c38_3 < 3)) = true := zafz hp38
  have w46 := zrc hi38 hp38 g39
  simp only [zco, hs, reduceCtorEq] at h
  cases d47 : (c38_3 == 0)
  ·simp only [d47, hs] at h
   have b48 := And.intro d25 (And.intro d31 (And.intro d37 (And.intro g39 (And.intro n43 (And.intro H40 (And.intro d45 (And.intro w46 d47)))))))
   cases d49 : (c38_3 == 1)
   ·simp only [d49, hs] at h
    cases d50 : (c38_3 == 2)
    ·simp only [d50, hs] at h
     exact absurd h kN38
    simp only [d50, hs] at h
    obtain ⟨r51, o52, h⟩ := optI h kN38
    try simp only [hs] at h
    simp only [vz, tyf, b48, e41, e42, d49, d50, (zml d50), nm, seval]
    refine ktA (zed _ _ _ _ o52) ?_
    refine zae (fun tm => tm 1 = .ptr 0 0 ∧ tm 3 = .lit (.int .i64 c38_3) ∧ tm 30 = .lit (.bool r51) ∧ True) (by refine ⟨e41, e42, ?_, trivial⟩ <;> first | (simp only [ua, b48, e41, e42, d49, d50, nm, seval] <;> rfl) | rfl) ?_
    rintro tm ⟨e53, e54, e55, _⟩
    cases d56 : (r51)
    ·simp only [d56, hs] at h
     try simp only [vz, tyf, b48, d49, d50, (zml d50), e53, e54, e55, d56, nm, seval]
     replace h := kR38 _ h
     try dsimp only at h
     obtain rfl := kF _ h
     exact zan Tryz.results20 rfl
    simp only [d56, hs] at h
    obtain ⟨r57, o58, h⟩ := optI h kN38
    try simp only [hs] at h
    simp only [vz, tyf, b48, d49, d50, (zml d50), e53, e54, e55, d56, (zlb d50), nm, seval]
    refine ktA (zdb _ _ _ o58) ?_
    refine zae (fun tm => tm 1 = .ptr 0 0 ∧ tm 3 = .lit (.int .i64 c38_3) ∧ tm 32 = .lit (.bool false) ∧ tm 37 = .lit (.bool r57) ∧ True) (by refine ⟨e53, e54, ?_, ?_, trivial⟩ <;> first | (simp only [ua, b48, d49, d50, e53, e54, e55, d56, nm, seval] <;> rfl) | rfl) ?_
    rintro tm ⟨e59, e60, e61, e62, _⟩
    cases d63 : (r57)
    ·simp only [d63, hs] at h
     try simp only [vz, tyf, b48, d49, d50, (zml d50), d56, (zlb d50), e59, e60, e61, e62, d63, nm, seval]
     replace h := kR38 _ h
     try dsimp only at h
     obtain rfl := kF _ h
     exact zan Tryz.results20 rfl
    simp only [d63, hs] at h
    cases g65 : (lenOk x0_s.Tins)
    ·simp only [g65, hs] at h
     exact absurd h kN38
    simp only [g65, hs] at h
    simp only [vz, tyf, b48, d49, d50, (zml d50), d56, (zlb d50), e59, e60, e61, e62, d63, g65, nm, seval]
    obtain ⟨K64, h, kR64, kG64, kB64, kN64⟩ := zbc h kN38
    obtain ⟨f64, hf64, h⟩ := call2 h
    obtain ⟨I64, hI64⟩ : ∃ I : Nat → St → Prop, I = (fun m st => ∃ (p64 : List Gt) (c64_4 : Int), m = List.length p64 ∧ 0 ≤ c64_4 ∧ List.drop (Int.toNat c64_4) x0_s.Tins = p64 ∧ st.df = [] ∧ nx38 + 17 ≤ st.nx ∧ st.H 0 = some (.cells (some 28) (cGs x0_s)) ∧ st.tm 1 = .ptr 0 0 ∧ st.tm 3 = .lit (.int .i64 c38_3) ∧ st.tm 4 = .lit (.int .i64 c64_4) ∧ K64 (f64 p64 c64_4)) := ⟨_, rfl⟩
    refine loopK mixed (by kernel_rfl) I64 (List.length x0_s.Tins) (by rw [hI64]; refine ⟨x0_s.Tins, 0, rfl, Int.le_refl _, rfl, rfl, (show nx38 + 17 ≤ nx38 + 17 by omega), ?_, e59, e60, ?_, h⟩ <;> first | (simp only [ua, b48, d49, d50, d56, e59, e60, e61, e62, d63, nm, seval] <;> rfl) | rfl) ?_
    rintro m ⟨tm, H, nx64, df⟩ hinv
    rw [hI64] at hinv
    obtain ⟨p64, c64_4, rfl, hi64, hp64, hdf, hn64, H66, e67, e68, e69, h⟩ := hinv
    simp only at hdf hn64 H66 e67 e68 e69
    have n70 := zct (m := 20) (b := nx64) (by omega)
    have n71 := zxp (a := nx38) (m := 17) (b := nx64) (by omega)
    subst hdf hf64
    cases p64 with
    | nil =>
     have d72 : (decide (c64_4 < (List.length x0_s.Tins : Int))) = false := zau hi64 hp64
     simp only [zbp, zbq, zbr, hs, reduceCtorEq] at h
     replace h := kG64 _ h
     try dsimp only at h
     try simp only [hs] at h
     simp only [vz, tyf, b48, d49, d50, (zml d50), d56, (zlb d50), d63, g65, n70, n71, e67, e68, e69, H66, d72, nm, seval]
     exact ⟨p38, Nat.lt_succ_self _, by rw [hI38]; refine ⟨p38, c38_3 + 1, rfl, zoz hi38, zgz hp38, rfl, (show 20 ≤ nx64 + 8 by omega), ?_, e67, ?_, h⟩ <;> first | (simp only [ua, b48, d49, d50, d56, d63, n70, n71, e67, e68, e69, H66, d72, nm, seval] <;> rfl) | rfl⟩
    | cons e64 p64 =>
     have d73 : (decide (c64_4 < (List.length x0_s.Tins : Int))) = true := zbx hi64 hp64
     have o75 := zar hi64 hp64
     have w74 := zcs hi64 hp64 g65
     simp only [zbp, zbq, zbr, hs, reduceCtorEq] at h
     obtain ⟨r76, o77, h⟩ := optI h kN64
     try simp only [hs] at h
     simp only [vz, tyf, b48, d49, d50, (zml d50), d56, (zlb d50), d63, g65, n70, n71, e67, e68, e69, H66, d73, (ix26 o75), w74, (zsy d50), nm, seval]
     refine ktA (zdb _ _ _ o77) ?_
     refine zae (fun tm => tm 1 = .ptr 0 0 ∧ tm 3 = .lit (.int .i64 c38_3) ∧ tm 4 = .lit (.int .i64 c64_4) ∧ tm 55 = .lit (.bool r76) ∧ True) (by refine ⟨e67, e68, e69, ?_, trivial⟩ <;> first | (simp only [ua, b48, d49, d50, d56, d63, n70, n71, e67, e68, e69, H66, d73, w74, nm, seval] <;> rfl) | rfl) ?_
     rintro tm ⟨e78, e79, e80, e81, _⟩
     have b82 := And.intro b48 (And.intro d49 (And.intro d50 (And.intro d56 (And.intro d63 (And.intro g65 (And.intro n70 (And.intro n71 (And.intro H66 (And.intro d73 w74)))))))))
     cases d83 : (r76)
     ·simp only [d83, hs] at h
      try simp only [vz, tyf, b82, (zml d50), (zlb d50), (ix26 o75), (zsy d50), e78, e79, e80, e81, d83, nm, seval]
      replace h := kR64 _ h
      try dsimp only at h
      replace h := kR38 _ h
      try dsimp only at h
      obtain rfl := kF _ h
      exact zan Tryz.results20 rfl
     simp only [d83, hs] at h
     simp only [vz, tyf, b82, (zml d50), (zlb d50), (ix26 o75), (zsy d50), e78, e79, e80, e81, d83, nm, seval]
     exact ⟨List.length p64, Nat.lt_succ_self _, by rw [hI64]; refine ⟨p64, c64_4 + 1, rfl, Int.le_trans hi64 (Int.le_add_one (Int.le_refl _)), zbe hi64 hp64, rfl, (show nx38 + 17 ≤ nx64 + 18 by omega), ?_, e78, e79, ?_, h⟩ <;> first | (simp only [ua, b82, e78, e79, e80, e81, d83, nm, seval] <;> rfl) | rfl⟩
   simp only [d49, hs] at h
   obtain ⟨r84, o85, h⟩ := optI h kN38
   try simp only [hs] at h
   simp only [vz, tyf, b48, e41, e42, d49, (zmj d49), nm, seval]
   refine ktA (zed _ _ _ _ o85) ?_
   refine zae (fun tm => tm 1 = .ptr 0 0 ∧ tm 3 = .lit (.int .i64 c38_3) ∧ tm 30 = .lit (.bool r84) ∧ True) (by refine ⟨e41, e42, ?_, trivial⟩ <;> first | (simp only [ua, b48, e41, e42, d49, nm, seval] <;> rfl) | rfl) ?_
   rintro tm ⟨e86, e87, e88, _⟩
   cases d89 : (r84)
   ·simp only [d89, hs] at h
    try simp only [vz, tyf, b48, d49, (zmj d49), e86, e87, e88, d89, nm, seval]
    replace h := kR38 _ h
    try dsimp only at h
    obtain rfl := kF _ h
    exact zan Tryz.results20 rfl
   simp only [d89, hs] at h
   obtain ⟨r90, o91, h⟩ := optI h kN38
   try simp only [hs] at h
   simp only [vz, tyf, b48, d49, (zmj d49), e86, e87, e88, d89, (zkt d49), nm, seval]
   refine ktA (zdb _ _ _ o91) ?_
   refine zae (fun tm => tm 1 = .ptr 0 0 ∧ tm 3 = .lit (.int .i64 c38_3) ∧ tm 32 = .lit (.bool false) ∧ tm 37 = .lit (.bool r90) ∧ True) (by refine ⟨e86, e87, ?_, ?_, trivial⟩ <;> first | (simp only [ua, b48, d49, e86, e87, e88, d89, nm, seval] <;> rfl) | rfl) ?_
   rintro tm ⟨e92, e93, e94, e95, _⟩
   cases d96 : (r90)
   ·simp only [d96, hs] at h
    try simp only [vz, tyf, b48, d49, (zmj d49), d89, (zkt d49), e92, e93, e94, e95, d96, nm, seval]
    replace h := kR38 _ h
    try dsimp only at h
    obtain rfl := kF _ h
    exact zan Tryz.results20 rfl
   simp only [d96, hs] at h
   cases g98 : (lenOk x0_s.Tins)
   ·simp only [g98, hs] at h
    exact absurd h kN38
   simp only [g98, hs] at h
   simp only [vz, tyf, b48, d49, (zmj d49), d89, (zkt d49), e92, e93, e94, e95, d96, g98, nm, seval]
   obtain ⟨K97, h, kR97, kG97, kB97, kN97⟩ := zbc h kN38
   obtain ⟨f97, hf97, h⟩ := call2 h
   obtain ⟨I97, hI97⟩ : ∃ I : Nat → St → Prop, I = (fun m st => ∃ (p97 : List Gt) (c97_4 : Int), m = List.length p97 ∧ 0 ≤ c97_4 ∧ List.drop (Int.toNat c97_4) x0_s.Tins = p97 ∧ st.df = [] ∧ nx38 + 17 ≤ st.nx ∧ st.H 0 = some (.cells (some 28) (cGs x0_s)) ∧ st.tm 1 = .ptr 0 0 ∧ st.tm 3 = .lit (.int .i64 c38_3) ∧ st.tm 4 = .lit (.int .i64 c97_4) ∧ K97 (f97 p97 c97_4)) := ⟨_, rfl⟩
   refine loopK mixed (by kernel_rfl) I97 (List.length x0_s.Tins) (by rw [hI97]; refine ⟨x0_s.Tins, 0, rfl, Int.le_refl _, rfl, rfl, (show nx38 + 17 ≤ nx38 + 17 by omega), ?_, e92, e93, ?_, h⟩ <;> first | (simp only [ua, b48, d49, d89, e92, e93, e94, e95, d96, nm, seval] <;> rfl) | rfl) ?_
   rintro m ⟨tm, H, nx97, df⟩ hinv
   rw [hI97] at hinv
   obtain ⟨p97, c97_4, rfl, hi97, hp97, hdf, hn97, H99, e100, e101, e102, h⟩ := hinv
   simp only at hdf hn97 H99 e100 e101 e102
   have n103 := zct (m := 20) (b := nx97) (by omega)
   have n104 := zxp (a := nx38) (m := 17) (b := nx97) (by omega)
   subst hdf hf97
   cases p97 with
   | nil =>
    have d105 : (decide (c97_4 < (List.length x0_s.Tins : Int))) = false := zau hi97 hp97
    simp only [zbp, zbq, zbr, hs, reduceCtorEq] at h
    replace h := kG97 _ h
    try dsimp only at h
    try simp only [hs] at h
    simp only [vz, tyf, b48, d49, (zmj d49), d89, (zkt d49), d96, g98, n103, n104, e100, e101, e102, H99, d105, nm, seval]
    exact ⟨p38, Nat.lt_succ_self _, by rw [hI38]; refine ⟨p38, c38_3 + 1, rfl, zoz hi38, zgz hp38, rfl, (show 20 ≤ nx97 + 8 by omega), ?_, e100, ?_, h⟩ <;> first | (simp only [ua, b48, d49, d89, d96, n103, n104, e100, e101, e102, H99, d105, nm, seval] <;> rfl) | rfl⟩
   | cons e97 p97 =>
    have d106 : (decide (c97_4 < (List.length x0_s.Tins : Int))) = true := zbx hi97 hp97
    have o108 := zar hi97 hp97
    have w107 := zcs hi97 hp97 g98
    simp only [zbp, zbq, zbr, hs, reduceCtorEq] at h
    obtain ⟨r109, o110, h⟩ := optI h kN97
    try simp only [hs] at h
    simp only [vz, tyf, b48, d49, (zmj d49), d89, (zkt d49), d96, g98, n103, n104, e100, e101, e102, H99, d106, (ix26 o108), w107, (zsq d49), nm, seval]
    refine ktA (zdb _ _ _ o110) ?_
    refine zae (fun tm => tm 1 = .ptr 0 0 ∧ tm 3 = .lit (.int .i64 c38_3) ∧ tm 4 = .lit (.int .i64 c97_4) ∧ tm 55 = .lit (.bool r109) ∧ True) (by refine ⟨e100, e101, e102, ?_, trivial⟩ <;> first | (simp only [ua, b48, d49, d89, d96, n103, n104, e100, e101, e102, H99, d106, w107, nm, seval] <;> rfl) | rfl) ?_
    rintro tm ⟨e111, e112, e113, e114, _⟩
    have b115 := And.intro b48 (And.intro d49 (And.intro d89 (And.intro d96 (And.intro g98 (And.intro n103 (And.intro n104 (And.intro H99 (And.intro d106 w107))))))))
    cases d116 : (r109)
    ·simp only [d116, hs] at h
     try simp only [vz, tyf, b115, (zmj d49), (zkt d49), (ix26 o108), (zsq d49), e111, e112, e113, e114, d116, nm, seval]
     replace h := kR97 _ h
     try dsimp only at h
     replace h := kR38 _ h
     try dsimp only at h
     obtain rfl := kF _ h
     exact zan Tryz.results20 rfl
    simp only [d116, hs] at h
    simp only [vz, tyf, b115, (zmj d49), (zkt d49), (ix26 o108), (zsq d49), e111, e112, e113, e114, d116, nm, seval]
    exact ⟨List.length p97, Nat.lt_succ_self _, by rw [hI97]; refine ⟨p97, c97_4 + 1, rfl, Int.le_trans hi97 (Int.le_add_one (Int.le_refl _)), zbe hi97 hp97, rfl, (show nx38 + 17 ≤ nx97 + 18 by omega), ?_, e111, e112, ?_, h⟩ <;> first | (simp only [ua, b115, e111, e112, e113, e114, d116, nm, seval] <;> rfl) | rfl⟩
  simp only [d47, hs] at h
  have b117 := And.intro d25 (And.intro d31 (And.intro d37 (And.intro g39 (And.intro n43 (And.intro H40 (And.intro d45 (And.intro w46 d47)))))))
  obtain ⟨r118, o119, h⟩ := optI h kN38
  try simp only [hs] at h
  simp only [vz, tyf, b117, e41, e42, (zmm d47), nm, seval]
  refine ktA (zed _ _ _ _ o119) ?_
  refine zae (fun tm => tm 1 = .ptr 0 0 ∧ tm 3 = .lit (.int .i64 c38_3) ∧ tm 30 = .lit (.bool r118) ∧ True) (by refine ⟨e41, e42, ?_, trivial⟩ <;> first | (simp only [ua, b117, e41, e42, nm, seval] <;> rfl) | rfl) ?_
  rintro tm ⟨e120, e121, e122, _⟩
  cases d123 : (r118)
  ·simp only [d123, hs] at h
   try simp only [vz, tyf, b117, (zmm d47), e120, e121, e122, d123, nm, seval]
   replace h := kR38 _ h
   try dsimp only at h
   obtain rfl := kF _ h
   exact zan Tryz.results20 rfl
  simp only [d123, hs] at h
  obtain ⟨r124, o125, h⟩ := optI h kN38
  try simp only [hs] at h
  simp only [vz, tyf, b117, (zmm d47), e120, e121, e122, d123, (zko d47), nm, seval]
  refine ktA (zdb _ _ _ o125) ?_
  refine zae (fun tm => tm 1 = .ptr 0 0 ∧ tm 3 = .lit (.int .i64 c38_3) ∧ tm 32 = .lit (.bool false) ∧ tm 37 = .lit (.bool r124) ∧ True) (by refine ⟨e120, e121, ?_, ?_, trivial⟩ <;> first | (simp only [ua, b117, e120, e121, e122, d123, nm, seval] <;> rfl) | rfl) ?_
  rintro tm ⟨e126, e127, e128, e129, _⟩
  cases d130 : (r124)
  ·simp only [d130, hs] at h
   try simp only [vz, tyf, b117, (zmm d47), d123, (zko d47), e126, e127, e128, e129, d130, nm, seval]
   replace h := kR38 _ h
   try dsimp only at h
   obtain rfl := kF _ h
   exact zan Tryz.results20 rfl
  simp only [d130, hs] at h
  cases g132 : (lenOk x0_s.Tins)
  ·simp only [g132, hs] at h
   exact absurd h kN38
  simp only [g132, hs] at h
  simp only [vz, tyf, b117, (zmm d47), d123, (zko d47), e126, e127, e128, e129, d130, g132, nm, seval]
  obtain ⟨K131, h, kR131, kG131, kB131, kN131⟩ := zbc h kN38
  obtain ⟨f131, hf131, h⟩ := call2 h
  obtain ⟨I131, hI131⟩ : ∃ I : Nat → St → Prop, I = (fun m st => ∃ (p131 : List Gt) (c131_4 : Int), m = List.length p131 ∧ 0 ≤ c131_4 ∧ List.drop (Int.toNat c131_4) x0_s.Tins = p131 ∧ st.df = [] ∧ nx38 + 17 ≤ st.nx ∧ st.H 0 = some (.cells (some 28) (cGs x0_s)) ∧ st.tm 1 = .ptr 0 0 ∧ st.tm 3 = .lit (.int .i64 c38_3) ∧ st.tm 4 = .lit (.int .i64 c131_4) ∧ K131 (f131 p131 c131_4)) := ⟨_, rfl⟩
  refine loopK mixed (by kernel_rfl) I131 (List.length x0_s.Tins) (by rw [hI131]; refine ⟨x0_s.Tins, 0, rfl, Int.le_refl _, rfl, rfl, (show nx38 + 17 ≤ nx38 + 17 by omega), ?_, e126, e127, ?_, h⟩ <;> first | (simp only [ua, b117, d123, e126, e127, e128, e129, d130, nm, seval] <;> rfl) | rfl) ?_
  rintro m ⟨tm, H, nx131, df⟩ hinv
  rw [hI131] at hinv
  obtain ⟨p131, c131_4, rfl, hi131, hp131, hdf, hn131, H133, e134, e135, e136, h⟩ := hinv
  simp only at hdf hn131 H133 e134 e135 e136
  have n137 := zct (m := 20) (b := nx131) (by omega)
  have n138 := zxp (a := nx38) (m := 17) (b := nx131) (by omega)
  subst hdf hf131
  cases p131 with
  | nil =>
   have d139 : (decide (c131_4 < (List.length x0_s.Tins : Int))) = false := zau hi131 hp131
   simp only [zbp, zbq, zbr, hs, reduceCtorEq] at h
   replace h := kG131 _ h
   try dsimp only at h
   try simp only [hs] at h
   simp only [vz, tyf, b117, (zmm d47), d123, (zko d47), d130, g132, n137, n138, e134, e135, e136, H133, d139, nm, seval]
   exact ⟨p38, Nat.lt_succ_self _, by rw [hI38]; refine ⟨p38, c38_3 + 1, rfl, zoz hi38, zgz hp38, rfl, (show 20 ≤ nx131 + 8 by omega), ?_, e134, ?_, h⟩ <;> first | (simp only [ua, b117, d123, d130, n137, n138, e134, e135, e136, H133, d139, nm, seval] <;> rfl) | rfl⟩
  | cons e131 p131 =>
   have d140 : (decide (c131_4 < (List.length x0_s.Tins : Int))) = true := zbx hi131 hp131
   have o142 := zar hi131 hp131
   have w141 := zcs hi131 hp131 g132
   simp only [zbp, zbq, zbr, hs, reduceCtorEq] at h
   obtain ⟨r143, o144, h⟩ := optI h kN131
   try simp only [hs] at h
   simp only [vz, tyf, b117, (zmm d47), d123, (zko d47), d130, g132, n137, n138, e134, e135, e136, H133, d140, (ix26 o142), w141, (ztx d47), nm, seval]
   refine ktA (zdb _ _ _ o144) ?_
   refine zae (fun tm => tm 1 = .ptr 0 0 ∧ tm 3 = .lit (.int .i64 c38_3) ∧ tm 4 = .lit (.int .i64 c131_4) ∧ tm 55 = .lit (.bool r143) ∧ True) (by refine ⟨e134, e135, e136, ?_, trivial⟩ <;> first | (simp only [ua, b117, d123, d130, n137, n138, e134, e135, e136, H133, d140, w141, nm, seval] <;> rfl) | rfl) ?_
   rintro tm ⟨e145, e146, e147, e148, _⟩
   have b149 := And.intro b117 (And.intro d123 (And.intro d130 (And.intro g132 (And.intro n137 (And.intro n138 (And.intro H133 (And.intro d140 w141)))))))
   cases d150 : (r143)
   ·simp only [d150, hs] at h
    try simp only [vz, tyf, b149, (zmm d47), (zko d47), (ix26 o142), (ztx d47), e145, e146, e147, e148, d150, nm, seval]
    replace h := kR131 _ h
    try dsimp only at h
    replace h := kR38 _ h
    try dsimp only at h
    obtain rfl := kF _ h
    exact zan Tryz.results20 rfl
   simp only [d150, hs] at h
   simp only [vz, tyf, b149, (zmm d47), (zko d47), (ix26 o142), (ztx d47), e145, e146, e147, e148, d150, nm, seval]
   exact ⟨List.length p131, Nat.lt_succ_self _, by rw [hI131]; refine ⟨p131, c131_4 + 1, rfl, Int.le_trans hi131 (Int.le_add_one (Int.le_refl _)), zbe hi131 hp131, rfl, (show nx38 + 17 ≤ nx131 + 18 by omega), ?_, e145, e146, ?_, h⟩ <;> first | (simp only [ua, b149, e145, e146, e147, e148, d150, nm, seval] <;> rfl) | rfl⟩
def zcr  : List Int → Int → Int → Option (LOut (Int) (Int))
 | [], c0_4, c0_3 => some (.go c0_3)
 | e0 :: p0, c0_4, c0_3 => zcr p0 (c0_4 + 1) (IntKind.i64.wrap (c0_3 + e0))
def zey (x0_mix : List Int) : Option (Int) := cond (lenOk x0_mix) (lbind (zcr x0_mix 0 0) (fun r2 => some r2) (fun c1 => some c1) (fun _ _ => none)) none
theorem zjb (x0_mix : List Int) (R : Int) (h : zey x0_mix = some R) : VPure Tryz.prog G0 35 [.sl (cellsL eI x0_mix) (List.length x0_mix) false] (.tree (.lit (.int .i64 R))) := by
 refine VPure.runR mixed Tryz.call35 Tryz.func35 rfl (by simp [Tryz.ntmps35]; kernel_rfl) ?_
 obtain ⟨KF, h, kF, kN⟩ := zam h
 simp only [zey] at h
 cases g4 : (lenOk x0_mix)
 ·simp only [g4, hs] at h
  exact absurd h kN
 simp only [g4, hs] at h
 simp only [vz, tyf, g4, nm, seval]
 obtain ⟨K3, h, kR3, kG3, kB3, kN3⟩ := zbc h kN
 obtain ⟨f3, hf3, h⟩ := call3 h
 obtain ⟨I3, hI3⟩ : ∃ I : Nat → St → Prop, I = (fun m st => ∃ (p3 : List Int) (c3_4 : Int) (c3_3 : Int), m = List.length p3 ∧ 0 ≤ c3_4 ∧ List.drop (Int.toNat c3_4) x0_mix = p3 ∧ st.df = [] ∧ 3 ≤ st.nx ∧ st.tm 0 = .sl (cellsL eI x0_mix) (List.length x0_mix) false ∧ st.tm 3 = .lit (.int .i64 c3_3) ∧ st.tm 4 = .lit (.int .i64 c3_4) ∧ K3 (f3 p3 c3_4 c3_3)) := ⟨_, rfl⟩
 refine loopK mixed (by kernel_rfl) I3 (List.length x0_mix) (by rw [hI3]; refine ⟨x0_mix, 0, 0, rfl, Int.le_refl _, rfl, rfl, (show 3 ≤ 3 by omega), ?_, ?_, ?_, h⟩ <;> first | (simp only [ua, nm, seval] <;> rfl) | rfl) ?_
 rintro m ⟨tm, H, nx3, df⟩ hinv
 rw [hI3] at hinv
 obtain ⟨p3, c3_4, c3_3, rfl, hi3, hp3, hdf, hn3, e5, e6, e7, h⟩ := hinv
 simp only at hdf hn3 e5 e6 e7
 have n8 := zct (m := 3) (b := nx3) (by omega)
 subst hdf hf3
 cases p3 with
 | nil =>
  have d9 : (decide (c3_4 < (List.length x0_mix : Int))) = false := zau hi3 hp3
  simp only [zcr, hs, reduceCtorEq] at h
  replace h := kG3 _ h
  try dsimp only at h
  try simp only [hs] at h
  try simp only [vz, tyf, g4, n8, e5, e6, e7, d9, nm, seval]
  refine zap (x := (.lit (.int .i64 c3_3))) (by first | (simp only [Tryz.results35, resV, resL, resV1, zat, zbs, uw, cr, tyf, g4, n8, d9, nm, seval] <;> rfl) | rfl) ?_
  obtain rfl := kF _ h
  refine zas ?_ ?_
  ·simp only [tre, tytre, Bool.and_self]
  ·first | (simp only [outV, uw, zad, cr, tyf, nrm, tynrm, g4, n8, e5, e6, e7, d9, nm, seval] <;> rfl) | rfl
 | cons e3 p3 =>
  have d10 : (decide (c3_4 < (List.length x0_mix : Int))) = true := zbx hi3 hp3
  have o12 := zar hi3 hp3
  have w11 := zcs hi3 hp3 g4
  simp only [zcr, hs, reduceCtorEq] at h
  simp only [vz, tyf, g4, n8, e5, e6, e7, d10, (ix29 o12), w11, nm, seval]
  exact ⟨List.length p3, Nat.lt_succ_self _, by rw [hI3]; refine ⟨p3, c3_4 + 1, IntKind.i64.wrap (c3_3 + e3), rfl, Int.le_trans hi3 (Int.le_add_one (Int.le_refl _)), zbe hi3 hp3, rfl, (show 3 ≤ nx3 + 14 by omega), e5, ?_, ?_, h⟩ <;> first | (simp only [ua, n8, e5, e6, e7, d10, w11, nm, seval] <;> rfl) | rfl⟩


end Go.V
end
section
namespace Go.V
open Go
theorem VPure.runRQ {P : Program} {G : Glob} (hm : P.follows .mixedOrders = true) {f : FuncId} {fn : Func} {code : Code} {args : List VV} {r : PRes} (hc : Callable P f) (hf : P.funcs[f]? = some fn) (hb : fn.body = some code)
  (hst : (decide (args.length ≤ fn.ntmps) && codeQ fn.ntmps code) = true) (h : CWp P (G.at (some none)) fn.ntmps code (OpenPostD P G fn (RR r) (RPn r)) { tm := argsTm args, H := fun _ => none, nx := 0, df := [] }) : VPure P G f args r := by
 rw [Bool.and_eq_true] at hst
 exact VPure.runR hm hc hf hb (by rw [Bool.and_eq_true]; exact ⟨hst.1, zhb hst.2⟩) h
end Go.V
end
section
namespace Go.V
open Go Go.Proofs
def zcb (x0_s : Gs) (c0_6 : Int) : List Int → Int → Int → Int → Int → Int → Int → Int → Option (LOut (Ga) (Int × Int × Int × Int × Int × Int))
 | [], c1_7, c1_o0, c1_o1, c1_o2, c1_o3, c1_o4, c1_o5 => some (.go (c1_o0, c1_o1, c1_o2, c1_o3, c1_o4, c1_o5))
 | e1 :: p1, c1_7, c1_o0, c1_o1, c1_o2, c1_o3, c1_o4, c1_o5 => Option.bind (getI x0_s.Tins c1_7) (fun x5 => cond (c0_6 == 0) (zcb x0_s c0_6 p1 (c1_7 + 1) (IntKind.i64.wrap (c1_o0 + (IntKind.i64.wrap (e1 * x5.pg.a0.Low)))) (IntKind.i64.wrap (c1_o1 + (IntKind.i64.wrap (e1 * x5.pg.a0.High)))) c1_o2 c1_o3 c1_o4 c1_o5) (cond (c0_6 == 1) (zcb x0_s c0_6 p1 (c1_7 + 1) c1_o0 c1_o1 (IntKind.i64.wrap (c1_o2 + (IntKind.i64.wrap (e1 * x5.pg.a1.Low)))) (IntKind.i64.wrap (c1_o3 + (IntKind.i64.wrap (e1 * x5.pg.a1.High)))) c1_o4 c1_o5) (cond (c0_6 == 2) (zcb x0_s c0_6 p1 (c1_7 + 1) c1_o0 c1_o1 c1_o2 c1_o3 (IntKind.i64.wrap (c1_o4 + (IntKind.i64.wrap (e1 * x5.pg.a2.Low)))) (IntKind.i64.wrap (c1_o5 + (IntKind.i64.wrap (e1 * x5.pg.a2.High))))) (none))))
def zem (x0_s : Gs) (x1_mix : List Int) : Nat → Int → Int → Int → Int → Int → Int → Int → Option (LOut (Ga) (Int × Int × Int × Int × Int × Int))
 | 0, c0_6, c0_o0, c0_o1, c0_o2, c0_o3, c0_o4, c0_o5 => some (.go (c0_o0, c0_o1, c0_o2, c0_o3, c0_o4, c0_o5))
 | k0 + 1, c0_6, c0_o0, c0_o1, c0_o2, c0_o3, c0_o4, c0_o5 => cond (lenOk x1_mix) (lbind (zcb x0_s c0_6 x1_mix 0 c0_o0 c0_o1 c0_o2 c0_o3 c0_o4 c0_o5) (fun r7 => some (.ret r7)) (fun c6 => zem x0_s x1_mix k0 (c0_6 + 1) c6.1 c6.2.1 c6.2.2.1 c6.2.2.2.1 c6.2.2.2.2.1 c6.2.2.2.2.2) (fun _ _ => none)) none
def zgh (x0_s : Gs) (x1_mix : List Int) : Option (Ga) := cond (boundOk 3) (lbind (zem x0_s x1_mix (Int.toNat (3 - 0)) 0 0 0 0 0 0 0) (fun r9 => some r9) (fun c8 => some (Ga.mk (GSpan.mk c8.1 c8.2.1) (GSpan.mk c8.2.2.1 c8.2.2.2.1) (GSpan.mk c8.2.2.2.2.1 c8.2.2.2.2.2))) (fun _ _ => none)) none
theorem zop (x0_s : Gs) (x1_mix : List Int) (R : Ga) (h : zgh x0_s x1_mix = some R) : VPure Tryz.prog G0 23 [.agg (cGs x0_s), .sl (cellsL eI x1_mix) (List.length x1_mix) false] (.tree (.agg (cGa R))) := by
 refine VPure.runRQ mixed Tryz.call23 Tryz.func23 rfl (by simp [Tryz.ntmps23]; kernel_rfl) ?_
 obtain ⟨KF, h, kF, kN⟩ := zam h
 simp only [zgh] at h
 cases g11 : (boundOk 3)
 ·simp only [g11, hs] at h
  exact absurd h kN
 simp only [g11, hs] at h
 simp only [vz, tyf, g11, nm, seval]
 obtain ⟨K10, h, kR10, kG10, kB10, kN10⟩ := zbc h kN
 obtain ⟨f10, hf10, h⟩ := call8 h
 obtain ⟨I10, hI10⟩ : ∃ I : Nat → St → Prop, I = (fun m st => ∃ (p10 : Nat) (c10_6 : Int) (c10_o0 : Int) (c10_o1 : Int) (c10_o2 : Int) (c10_o3 : Int) (c10_o4 : Int) (c10_o5 : Int), p10 = m ∧ loOk c10_6 = true ∧ Int.toNat (3 - c10_6) = p10 ∧ st.df = [] ∧ 4 ≤ st.nx ∧ st.H 0 = some (.cells (some 28) (cGs x0_s)) ∧ st.H 1 = some (.cells (some 25) ([.lit (.int .i64 0)] ++ [.lit (.int .i64 0)] ++ [.lit (.int .i64 0)] ++ [.lit (.int .i64 0)] ++ [.lit (.int .i64 0)] ++ [.lit (.int .i64 0)])) ∧ st.H 2 = some (.cells (some 25) ([.lit (.int .i64 c10_o0)] ++ [.lit (.int .i64 c10_o1)] ++ [.lit (.int .i64 c10_o2)] ++ [.lit (.int .i64 c10_o3)] ++ [.lit (.int .i64 c10_o4)] ++ [.lit (.int .i64 c10_o5)])) ∧ st.tm 1 = .sl (cellsL eI x1_mix) (List.length x1_mix) false ∧ st.tm 2 = .ptr 0 0 ∧ st.tm 4 = .ptr 1 0 ∧ st.tm 5 = .ptr 2 0 ∧ st.tm 6 = .lit (.int .i64 c10_6) ∧ K10 (f10 p10 c10_6 c10_o0 c10_o1 c10_o2 c10_o3 c10_o4 c10_o5)) := ⟨_, rfl⟩
 refine loopK mixed (by kernel_rfl) I10 (Int.toNat (3 - 0)) (by rw [hI10]; refine ⟨Int.toNat (3 - 0), 0, 0, 0, 0, 0, 0, 0, rfl, (by rfl), rfl, rfl, (show 4 ≤ 4 by omega), ?_, ?_, ?_, ?_, ?_, ?_, ?_, ?_, h⟩ <;> first | (simp only [ua, nm, seval] <;> rfl) | rfl) ?_
 rintro m ⟨tm, H, nx10, df⟩ hinv
 rw [hI10] at hinv
 obtain ⟨p10, c10_6, c10_o0, c10_o1, c10_o2, c10_o3, c10_o4, c10_o5, rfl, hi10, hp10, hdf, hn10, H12, H13, H14, e15, e16, e17, e18, e19, h⟩ := hinv
 simp only at hdf hn10 H12 H13 H14 e15 e16 e17 e18 e19
 have n20 := zct (m := 4) (b := nx10) (by omega)
 subst hdf hf10
 cases p10 with
 | zero =>
  have d21 : (decide (c10_6 < 3)) = false := zkj hp10
  simp only [zem, hs, reduceCtorEq] at h
  replace h := kG10 _ h
  try dsimp only at h
  try simp only [hs] at h
  try simp only [vz, tyf, g11, n20, e15, e16, e17, e18, e19, H12, H13, H14, d21, nm, seval]
  refine zap (x := (.agg ([.lit (.int .i64 c10_o0)] ++ [.lit (.int .i64 c10_o1)] ++ [.lit (.int .i64 c10_o2)] ++ [.lit (.int .i64 c10_o3)] ++ [.lit (.int .i64 c10_o4)] ++ [.lit (.int .i64 c10_o5)]))) (by first | (simp only [Tryz.results23, resV, resL, resV1, zat, zbs, uw, cr, tyf, g11, n20, e15, e16, e17, e18, e19, H12, H13, H14, d21, nm, seval] <;> rfl) | rfl) ?_
  obtain rfl := kF _ h
  refine zas ?_ ?_
  ·simp only [tre, tytre, Bool.and_self]
  ·first | (simp only [outV, uw, zad, cr, tyf, nrm, tynrm, g11, n20, e15, e16, e17, e18, e19, H12, H13, H14, d21, nm, seval] <;> rfl) | rfl
 | succ p10 =>
  have d22 : (decide (c10_6 < 3)) = true := zafz hp10
  have w23 := zrc hi10 hp10 g11
  simp only [zem, hs, reduceCtorEq] at h
  cases g25 : (lenOk x1_mix)
  ·simp only [g25, hs] at h
   exact absurd h kN10
  simp only [g25, hs] at h
  simp only [vz, tyf, g11, n20, e15, e16, e17, e18, e19, H12, H13, H14, d22, w23, g25, nm, seval]
  obtain ⟨K24, h, kR24, kG24, kB24, kN24⟩ := zbc h kN10
  obtain ⟨f24, hf24, h⟩ := call8 h
  obtain ⟨I24, hI24⟩ : ∃ I : Nat → St → Prop, I = (fun m st => ∃ (p24 : List Int) (c24_7 : Int) (c24_o0 : Int) (c24_o1 : Int) (c24_o2 : Int) (c24_o3 : Int) (c24_o4 : Int) (c24_o5 : Int), m = List.length p24 ∧ 0 ≤ c24_7 ∧ List.drop (Int.toNat c24_7) x1_mix = p24 ∧ st.df = [] ∧ nx10 + 3 ≤ st.nx ∧ st.H 0 = some (.cells (some 28) (cGs x0_s)) ∧ st.H 1 = some (.cells (some 25) ([.lit (.int .i64 0)] ++ [.lit (.int .i64 0)] ++ [.lit (.int .i64 0)] ++ [.lit (.int .i64 0)] ++ [.lit (.int .i64 0)] ++ [.lit (.int .i64 0)])) ∧ st.H 2 = some (.cells (some 25) ([.lit (.int .i64 c24_o0)] ++ [.lit (.int .i64 c24_o1)] ++ [.lit (.int .i64 c24_o2)] ++ [.lit (.int .i64 c24_o3)] ++ [.lit (.int .i64 c24_o4)] ++ [.lit (.int .i64 c24_o5)])) ∧ st.tm 1 = .sl (cellsL eI x1_mix) (List.length x1_mix) false ∧ st.tm 2 = .ptr 0 0 ∧ st.tm 4 = .ptr 1 0 ∧ st.tm 5 = .ptr 2 0 ∧ st.tm 6 = .lit (.int .i64 c10_6) ∧ st.tm 7 = .lit (.int .i64 c24_7) ∧ K24 (f24 p24 c24_7 c24_o0 c24_o1 c24_o2 c24_o3 c24_o4 c24_o5)) := ⟨_, rfl⟩
  refine loopK mixed (by kernel_rfl) I24 (List.length x1_mix) (by rw [hI24]; refine ⟨x1_mix, 0, c10_o0, c10_o1, c10_o2, c10_o3, c10_o4, c10_o5, rfl, Int.le_refl _, rfl, rfl, (show nx10 + 3 ≤ nx10 + 3 by omega), ?_, ?_, ?_, e15, e16, e17, e18, e19, ?_, h⟩ <;> first | (simp only [ua, n20, e15, e16, e17, e18, e19, H12, H13, H14, d22, w23, nm, seval] <;> rfl) | rfl) ?_
  rintro m ⟨tm, H, nx24, df⟩ hinv
  rw [hI24] at hinv
  obtain ⟨p24, c24_7, c24_o0, c24_o1, c24_o2, c24_o3, c24_o4, c24_o5, rfl, hi24, hp24, hdf, hn24, H26, H27, H28, e29, e30, e31, e32, e33, e34, h⟩ := hinv
  simp only at hdf hn24 H26 H27 H28 e29 e30 e31 e32 e33 e34
  have n35 := zct (m := 4) (b := nx24) (by omega)
  have n36 := zxp (a := nx10) (m := 3) (b := nx24) (by omega)
  subst hdf hf24
  cases p24 with
  | nil =>
   have d37 : (decide (c24_7 < (List.length x1_mix : Int))) = false := zau hi24 hp24
   simp only [zcb, hs, reduceCtorEq] at h
   replace h := kG24 _ h
   try dsimp only at h
   try simp only [hs] at h
   simp only [vz, tyf, g11, n20, d22, w23, g25, n35, n36, e29, e30, e31, e32, e33, e34, H26, H27, H28, d37, nm, seval]
   exact ⟨p10, Nat.lt_succ_self _, by rw [hI10]; refine ⟨p10, c10_6 + 1, c24_o0, c24_o1, c24_o2, c24_o3, c24_o4, c24_o5, rfl, zoz hi10, zgz hp10, rfl, (show 4 ≤ nx24 + 7 by omega), ?_, ?_, ?_, e29, e30, e31, e32, ?_, h⟩ <;> first | (simp only [ua, n20, d22, w23, n35, n36, e29, e30, e31, e32, e33, e34, H26, H27, H28, d37, nm, seval] <;> rfl) | rfl⟩
  | cons e24 p24 =>
   have d38 : (decide (c24_7 < (List.length x1_mix : Int))) = true := zbx hi24 hp24
   have o40 := zar hi24 hp24
   have w39 := zcs hi24 hp24 g25
   simp only [zcb, hs, reduceCtorEq] at h
   obtain ⟨x41, o42, h⟩ := optI h kN24
   try simp only [hs] at h
   cases d43 : (c10_6 == 0)
   ·simp only [d43, hs] at h
    have b44 := And.intro g11 (And.intro n20 (And.intro d22 (And.intro w23 (And.intro g25 (And.intro n35 (And.intro n36 (And.intro H26 (And.intro H27 (And.intro H28 (And.intro d38 (And.intro w39 d43)))))))))))
    cases d45 : (c10_6 == 1)
    ·simp only [d45, hs] at h
     cases d46 : (c10_6 == 2)
     ·simp only [d46, hs] at h
      exact absurd h kN24
     simp only [d46, hs] at h
     simp only [vz, tyf, b44, e29, e30, e31, e32, e33, e34, (ix29 o40), (ix26 o42), d45, d46, (zsy d46), nm, seval]
     refine zcp (fun tm => tm 1 = .sl (cellsL eI x1_mix) (List.length x1_mix) false ∧ tm 2 = .ptr 0 0 ∧ tm 4 = .ptr 1 0 ∧ tm 5 = .ptr 2 0 ∧ tm 6 = .lit (.int .i64 c10_6) ∧ tm 7 = .lit (.int .i64 c24_7) ∧ tm 8 = .ptr (nx24 + 12) 0 ∧ True) (by refine ⟨e29, e30, e31, e32, e33, e34, ?_, trivial⟩ <;> first | (simp only [ua, b44, e29, e30, e31, e32, e33, e34, d45, d46, nm, seval] <;> rfl) | rfl) ?_
     rintro tm ⟨e47, e48, e49, e50, e51, e52, e53, _⟩
     simp only [vz, tyf, b44, (ix29 o40), (ix26 o42), d45, d46, (zsy d46), e47, e48, e49, e50, e51, e52, e53, (zlb d46), nm, seval]
     refine zcd ⟨?_, ?_⟩
     ·simp only [zbd, zbk, zai, zcu, and_true, true_and]
      repeat' (first | exact trivial | refine And.intro ?_ ?_ | rw [zai] | rw [zbv] | exact Or.inl (by decide +kernel) | exact Or.inl (by dsimp only; decide +kernel) | (refine Or.inr ⟨?_, ?_⟩ <;> simp; done) | (refine Or.inr ⟨?_, ?_⟩ <;> simp <;> omega) | (refine Or.inr ⟨?_, ?_⟩ <;> simp [VEff.wr] <;> omega))
     simp only [vz, tyf, b44, (ix29 o40), (ix26 o42), d45, d46, (zsy d46), e47, e48, e49, e50, e51, e52, e53, (zlb d46), nm, seval]
     exact ⟨List.length p24, Nat.lt_succ_self _, by rw [hI24]; refine ⟨p24, c24_7 + 1, c24_o0, c24_o1, c24_o2, c24_o3, IntKind.i64.wrap (c24_o4 + (IntKind.i64.wrap (e24 * x41.pg.a2.Low))), IntKind.i64.wrap (c24_o5 + (IntKind.i64.wrap (e24 * x41.pg.a2.High))), rfl, Int.le_trans hi24 (Int.le_add_one (Int.le_refl _)), zbe hi24 hp24, rfl, (show nx10 + 3 ≤ nx24 + 49 by omega), ?_, ?_, ?_, e47, e48, e49, e50, e51, ?_, h⟩ <;> first | (simp only [ua, b44, d45, d46, e47, e48, e49, e50, e51, e52, e53, nm, seval] <;> rfl) | rfl⟩
    simp only [d45, hs] at h
    simp only [vz, tyf, b44, e29, e30, e31, e32, e33, e34, (ix29 o40), (ix26 o42), d45, (zsq d45), nm, seval]
    refine zcp (fun tm => tm 1 = .sl (cellsL eI x1_mix) (List.length x1_mix) false ∧ tm 2 = .ptr 0 0 ∧ tm 4 = .ptr 1 0 ∧ tm 5 = .ptr 2 0 ∧ tm 6 = .lit (.int .i64 c10_6) ∧ tm 7 = .lit (.int .i64 c24_7) ∧ tm 8 = .ptr (nx24 + 12) 0 ∧ True) (by refine ⟨e29, e30, e31, e32, e33, e34, ?_, trivial⟩ <;> first | (simp only [ua, b44, e29, e30, e31, e32, e33, e34, d45, nm, seval] <;> rfl) | rfl) ?_
    rintro tm ⟨e54, e55, e56, e57, e58, e59, e60, _⟩
    simp only [vz, tyf, b44, (ix29 o40), (ix26 o42), d45, (zsq d45), e54, e55, e56, e57, e58, e59, e60, (zkt d45), nm, seval]
    refine zcd ⟨?_, ?_⟩
    ·simp only [zbd, zbk, zai, zcu, and_true, true_and]
     repeat' (first | exact trivial | refine And.intro ?_ ?_ | rw [zai] | rw [zbv] | exact Or.inl (by decide +kernel) | exact Or.inl (by dsimp only; decide +kernel) | (refine Or.inr ⟨?_, ?_⟩ <;> simp; done) | (refine Or.inr ⟨?_, ?_⟩ <;> simp <;> omega) | (refine Or.inr ⟨?_, ?_⟩ <;> simp [VEff.wr] <;> omega))
    simp only [vz, tyf, b44, (ix29 o40), (ix26 o42), d45, (zsq d45), e54, e55, e56, e57, e58, e59, e60, (zkt d45), nm, seval]
    exact ⟨List.length p24, Nat.lt_succ_self _, by rw [hI24]; refine ⟨p24, c24_7 + 1, c24_o0, c24_o1, IntKind.i64.wrap (c24_o2 + (IntKind.i64.wrap (e24 * x41.pg.a1.Low))), IntKind.i64.wrap (c24_o3 + (IntKind.i64.wrap (e24 * x41.pg.a1.High))), c24_o4, c24_o5, rfl, Int.le_trans hi24 (Int.le_add_one (Int.le_refl _)), zbe hi24 hp24, rfl, (show nx10 + 3 ≤ nx24 + 49 by omega), ?_, ?_, ?_, e54, e55, e56, e57, e58, ?_, h⟩ <;> first | (simp only [ua, b44, d45, e54, e55, e56, e57, e58, e59, e60, nm, seval] <;> rfl) | rfl⟩
   simp only [d43, hs] at h
   have b61 := And.intro g11 (And.intro n20 (And.intro d22 (And.intro w23 (And.intro g25 (And.intro n35 (And.intro n36 (And.intro H26 (And.intro H27 (And.intro H28 (And.intro d38 (And.intro w39 d43)))))))))))
   simp only [vz, tyf, b61, e29, e30, e31, e32, e33, e34, (ix29 o40), (ix26 o42), (ztx d43), nm, seval]
   refine zcp (fun tm => tm 1 = .sl (cellsL eI x1_mix) (List.length x1_mix) false ∧ tm 2 = .ptr 0 0 ∧ tm 4 = .ptr 1 0 ∧ tm 5 = .ptr 2 0 ∧ tm 6 = .lit (.int .i64 c10_6) ∧ tm 7 = .lit (.int .i64 c24_7) ∧ tm 8 = .ptr (nx24 + 12) 0 ∧ True) (by refine ⟨e29, e30, e31, e32, e33, e34, ?_, trivial⟩ <;> first | (simp only [ua, b61, e29, e30, e31, e32, e33, e34, nm, seval] <;> rfl) | rfl) ?_
   rintro tm ⟨e62, e63, e64, e65, e66, e67, e68, _⟩
   simp only [vz, tyf, b61, (ix29 o40), (ix26 o42), (ztx d43), e62, e63, e64, e65, e66, e67, e68, (zko d43), nm, seval]
   refine zcd ⟨?_, ?_⟩
   ·simp only [zbd, zbk, zai, zcu, and_true, true_and]
    repeat' (first | exact trivial | refine And.intro ?_ ?_ | rw [zai] | rw [zbv] | exact Or.inl (by decide +kernel) | exact Or.inl (by dsimp only; decide +kernel) | (refine Or.inr ⟨?_, ?_⟩ <;> simp; done) | (refine Or.inr ⟨?_, ?_⟩ <;> simp <;> omega) | (refine Or.inr ⟨?_, ?_⟩ <;> simp [VEff.wr] <;> omega))
   simp only [vz, tyf, b61, (ix29 o40), (ix26 o42), (ztx d43), e62, e63, e64, e65, e66, e67, e68, (zko d43), nm, seval]
   exact ⟨List.length p24, Nat.lt_succ_self _, by rw [hI24]; refine ⟨p24, c24_7 + 1, IntKind.i64.wrap (c24_o0 + (IntKind.i64.wrap (e24 * x41.pg.a0.Low))), IntKind.i64.wrap (c24_o1 + (IntKind.i64.wrap (e24 * x41.pg.a0.High))), c24_o2, c24_o3, c24_o4, c24_o5, rfl, Int.le_trans hi24 (Int.le_add_one (Int.le_refl _)), zbe hi24 hp24, rfl, (show nx10 + 3 ≤ nx24 + 49 by omega), ?_, ?_, ?_, e62, e63, e64, e65, e66, ?_, h⟩ <;> first | (simp only [ua, b61, e62, e63, e64, e65, e66, e67, e68, nm, seval] <;> rfl) | rfl⟩

def zcl (x0_s : Gs) (x1_p : Int) (x2_years : Int) (x3_fade : Int) : Option (Int) := cond (x1_p == 0) (some (if 0 < (IntKind.i64.wrap (x0_s.Old.a0 - (IntKind.i64.wrap (x2_years * x3_fade)))) then (IntKind.i64.wrap (x0_s.Old.a0 - (IntKind.i64.wrap (x2_years * x3_fade)))) else 0)) (cond (x1_p == 1) (some (if 0 < (IntKind.i64.wrap (x0_s.Old.a1 - (IntKind.i64.wrap (x2_years * x3_fade)))) then (IntKind.i64.wrap (x0_s.Old.a1 - (IntKind.i64.wrap (x2_years * x3_fade)))) else 0)) (cond (x1_p == 2) (some (if 0 < (IntKind.i64.wrap (x0_s.Old.a2 - (IntKind.i64.wrap (x2_years * x3_fade)))) then (IntKind.i64.wrap (x0_s.Old.a2 - (IntKind.i64.wrap (x2_years * x3_fade)))) else 0)) (none)))
theorem zdh (x0_s : Gs) (x1_p : Int) (x2_years : Int) (x3_fade : Int) (R : Int) (h : zcl x0_s x1_p x2_years x3_fade = some R) : VPure Tryz.prog G0 32 [.agg (cGs x0_s), .lit (.int .i64 x1_p), .lit (.int .i64 x2_years), .lit (.int .i64 x3_fade)] (.tree (.lit (.int .i64 R))) := by
 refine VPure.runR mixed Tryz.call32 Tryz.func32 rfl (by simp [Tryz.ntmps32]; kernel_rfl) ?_
 obtain ⟨KF, h, kF, kN⟩ := zam h
 simp only [zcl] at h
 cases d1 : (x1_p == 0)
 ·simp only [d1, hs] at h
  cases d2 : (x1_p == 1)
  ·simp only [d2, hs] at h
   cases d3 : (x1_p == 2)
   ·simp only [d3, hs] at h
    exact absurd h kN
   simp only [d3, hs] at h
   try simp only [vz, tyf, d1, d2, d3, (zml d3), nm, seval]
   refine zap (x := (.lit (.int .i64 (if 0 < (IntKind.i64.wrap (x0_s.Old.a2 - (IntKind.i64.wrap (x2_years * x3_fade)))) then (IntKind.i64.wrap (x0_s.Old.a2 - (IntKind.i64.wrap (x2_years * x3_fade)))) else 0)))) (by first | (simp only [Tryz.results32, resV, resL, resV1, zat, zbs, uw, cr, tyf, d1, d2, d3, (zml d3), nm, seval] <;> rfl) | rfl) ?_
   obtain rfl := kF _ h
   refine zas ?_ ?_
   ·simp only [tre, tytre, Bool.and_self]
   ·first | (simp only [outV, uw, zad, cr, tyf, nrm, tynrm, d1, d2, d3, (zml d3), nm, seval] <;> rfl) | rfl
  simp only [d2, hs] at h
  try simp only [vz, tyf, d1, d2, (zmj d2), nm, seval]
  refine zap (x := (.lit (.int .i64 (if 0 < (IntKind.i64.wrap (x0_s.Old.a1 - (IntKind.i64.wrap (x2_years * x3_fade)))) then (IntKind.i64.wrap (x0_s.Old.a1 - (IntKind.i64.wrap (x2_years * x3_fade)))) else 0)))) (by first | (simp only [Tryz.results32, resV, resL, resV1, zat, zbs, uw, cr, tyf, d1, d2, (zmj d2), nm, seval] <;> rfl) | rfl) ?_
  obtain rfl := kF _ h
  refine zas ?_ ?_
  ·simp only [tre, tytre, Bool.and_self]
  ·first | (simp only [outV, uw, zad, cr, tyf, nrm, tynrm, d1, d2, (zmj d2), nm, seval] <;> rfl) | rfl
 simp only [d1, hs] at h
 try simp only [vz, tyf, d1, (zmm d1), nm, seval]
 refine zap (x := (.lit (.int .i64 (if 0 < (IntKind.i64.wrap (x0_s.Old.a0 - (IntKind.i64.wrap (x2_years * x3_fade)))) then (IntKind.i64.wrap (x0_s.Old.a0 - (IntKind.i64.wrap (x2_years * x3_fade)))) else 0)))) (by first | (simp only [Tryz.results32, resV, resL, resV1, zat, zbs, uw, cr, tyf, d1, (zmm d1), nm, seval] <;> rfl) | rfl) ?_
 obtain rfl := kF _ h
 refine zas ?_ ?_
 ·simp only [tre, tytre, Bool.and_self]
 ·first | (simp only [outV, uw, zad, cr, tyf, nrm, tynrm, d1, (zmm d1), nm, seval] <;> rfl) | rfl
def zdk (x0_s : Gs) : Nat → Int → Int → Int → Int → Int → Int → Int → Option (LOut (Ga) (Int × Int × Int × Int × Int × Int))
 | 0, c0_4, c0_o0, c0_o1, c0_o2, c0_o3, c0_o4, c0_o5 => some (.go (c0_o0, c0_o1, c0_o2, c0_o3, c0_o4, c0_o5))
 | k0 + 1, c0_4, c0_o0, c0_o1, c0_o2, c0_o3, c0_o4, c0_o5 => cond (c0_4 == 0) (Option.bind (zcl x0_s c0_4 x0_s.Years.High x0_s.Fade.a0.High) (fun r7 => Option.bind (zcl x0_s c0_4 x0_s.Years.Low x0_s.Fade.a0.Low) (fun r8 => zdk x0_s k0 (c0_4 + 1) r7 r8 c0_o2 c0_o3 c0_o4 c0_o5))) (cond (c0_4 == 1) (Option.bind (zcl x0_s c0_4 x0_s.Years.High x0_s.Fade.a1.High) (fun r9 => Option.bind (zcl x0_s c0_4 x0_s.Years.Low x0_s.Fade.a1.Low) (fun r10 => zdk x0_s k0 (c0_4 + 1) c0_o0 c0_o1 r9 r10 c0_o4 c0_o5))) (cond (c0_4 == 2) (Option.bind (zcl x0_s c0_4 x0_s.Years.High x0_s.Fade.a2.High) (fun r11 => Option.bind (zcl x0_s c0_4 x0_s.Years.Low x0_s.Fade.a2.Low) (fun r12 => zdk x0_s k0 (c0_4 + 1) c0_o0 c0_o1 c0_o2 c0_o3 r11 r12))) (none)))
def zhj (x0_s : Gs) : Option (Ga) := cond (boundOk 3) (lbind (zdk x0_s (Int.toNat (3 - 0)) 0 0 0 0 0 0 0) (fun r14 => some r14) (fun c13 => some (Ga.mk (GSpan.mk c13.1 c13.2.1) (GSpan.mk c13.2.2.1 c13.2.2.2.1) (GSpan.mk c13.2.2.2.2.1 c13.2.2.2.2.2))) (fun _ _ => none)) none
theorem zqo (x0_s : Gs) (R : Ga) (h : zhj x0_s = some R) : VPure Tryz.prog G0 21 [.agg (cGs x0_s)] (.tree (.agg (cGa R))) := by
 refine VPure.runR mixed Tryz.call21 Tryz.func21 rfl (by simp [Tryz.ntmps21]; kernel_rfl) ?_
 obtain ⟨KF, h, kF, kN⟩ := zam h
 simp only [zhj] at h
 cases g16 : (boundOk 3)
 ·simp only [g16, hs] at h
  exact absurd h kN
 simp only [g16, hs] at h
 simp only [vz, tyf, g16, nm, seval]
 obtain ⟨K15, h, kR15, kG15, kB15, kN15⟩ := zbc h kN
 obtain ⟨f15, hf15, h⟩ := call8 h
 obtain ⟨I15, hI15⟩ : ∃ I : Nat → St → Prop, I = (fun m st => ∃ (p15 : Nat) (c15_4 : Int) (c15_o0 : Int) (c15_o1 : Int) (c15_o2 : Int) (c15_o3 : Int) (c15_o4 : Int) (c15_o5 : Int), p15 = m ∧ loOk c15_4 = true ∧ Int.toNat (3 - c15_4) = p15 ∧ st.df = [] ∧ 4 ≤ st.nx ∧ st.H 0 = some (.cells (some 28) (cGs x0_s)) ∧ st.H 1 = some (.cells (some 25) ([.lit (.int .i64 0)] ++ [.lit (.int .i64 0)] ++ [.lit (.int .i64 0)] ++ [.lit (.int .i64 0)] ++ [.lit (.int .i64 0)] ++ [.lit (.int .i64 0)])) ∧ st.H 2 = some (.cells (some 25) ([.lit (.int .i64 c15_o0)] ++ [.lit (.int .i64 c15_o1)] ++ [.lit (.int .i64 c15_o2)] ++ [.lit (.int .i64 c15_o3)] ++ [.lit (.int .i64 c15_o4)] ++ [.lit (.int .i64 c15_o5)])) ∧ st.tm 1 = .ptr 0 0 ∧ st.tm 2 = .ptr 1 0 ∧ st.tm 3 = .ptr 2 0 ∧ st.tm 4 = .lit (.int .i64 c15_4) ∧ K15 (f15 p15 c15_4 c15_o0 c15_o1 c15_o2 c15_o3 c15_o4 c15_o5)) := ⟨_, rfl⟩
 refine loopK mixed (by kernel_rfl) I15 (Int.toNat (3 - 0)) (by rw [hI15]; refine ⟨Int.toNat (3 - 0), 0, 0, 0, 0, 0, 0, 0, rfl, (by rfl), rfl, rfl, (show 4 ≤ 4 by omega), ?_, ?_, ?_, ?_, ?_, ?_, ?_, h⟩ <;> first | (simp only [ua, nm, seval] <;> rfl) | rfl) ?_
 rintro m ⟨tm, H, nx15, df⟩ hinv
 rw [hI15] at hinv
 obtain ⟨p15, c15_4, c15_o0, c15_o1, c15_o2, c15_o3, c15_o4, c15_o5, rfl, hi15, hp15, hdf, hn15, H17, H18, H19, e20, e21, e22, e23, h⟩ := hinv
 simp only at hdf hn15 H17 H18 H19 e20 e21 e22 e23
 have n24 := zct (m := 4) (b := nx15) (by omega)
 subst hdf hf15
 cases p15 with
 | zero =>
  have d25 : (decide (c15_4 < 3)) = false := zkj hp15
  simp only [zdk, hs, reduceCtorEq] at h
  replace h := kG15 _ h
  try dsimp only at h
  try simp only [hs] at h
  try simp only [vz, tyf, g16, n24, e20, e21, e22, e23, H17, H18, H19, d25, nm, seval]
  refine zap (x := (.agg ([.lit (.int .i64 c15_o0)] ++ [.lit (.int .i64 c15_o1)] ++ [.lit (.int .i64 c15_o2)] ++ [.lit (.int .i64 c15_o3)] ++ [.lit (.int .i64 c15_o4)] ++ [.lit (.int .i64 c15_o5)]))) (by first | (simp only [Tryz.results21, resV, resL, resV1, zat, zbs, uw, cr, tyf, g16, n24, e20, e21, e22, e23, H17, H18, H19, d25, nm, seval] <;> rfl) | rfl) ?_
  obtain rfl := kF _ h
  refine zas ?_ ?_
  ·simp only [tre, tytre, Bool.and_self]
  ·first | (simp only [outV, uw, zad, cr, tyf, nrm, tynrm, g16, n24, e20, e21, e22, e23, H17, H18, H19, d25, nm, seval] <;> rfl) | rfl
 | succ p15 =>
  have d26 : (decide (c15_4 < 3)) = true := zafz hp15
  have w27 := zrc hi15 hp15 g16
  simp only [zdk, hs, reduceCtorEq] at h
  simp only [vz, tyf, g16, n24, e20, e21, e22, e23, H17, H18, H19, d26, w27, nm, seval]
  refine zcp (fun tm => tm 1 = .ptr 0 0 ∧ tm 2 = .ptr 1 0 ∧ tm 3 = .ptr 2 0 ∧ tm 4 = .lit (.int .i64 c15_4) ∧ True) (by refine ⟨e20, e21, e22, e23, trivial⟩ <;> first | (simp only [ua, n24, e20, e21, e22, e23, H17, H18, H19, d26, w27, nm, seval] <;> rfl) | rfl) ?_
  rintro tm ⟨e28, e29, e30, e31, _⟩
  have b32 := And.intro g16 (And.intro n24 (And.intro H17 (And.intro H18 (And.intro H19 (And.intro d26 w27)))))
  cases d33 : (c15_4 == 0)
  ·simp only [d33, hs] at h
   cases d34 : (c15_4 == 1)
   ·simp only [d34, hs] at h
    cases d35 : (c15_4 == 2)
    ·simp only [d35, hs] at h
     exact absurd h kN15
    simp only [d35, hs] at h
    obtain ⟨r36, o37, h⟩ := optI h kN15
    try simp only [hs] at h
    simp only [vz, tyf, b32, e28, e29, e30, e31, d33, d34, d35, (zlb d35), nm, seval]
    refine dktA (zdh _ _ _ _ _ o37) ?_
    refine zae (fun tm => tm 1 = .ptr 0 0 ∧ tm 2 = .ptr 1 0 ∧ tm 3 = .ptr 2 0 ∧ tm 4 = .lit (.int .i64 c15_4) ∧ tm 9 = .lit (.int .i64 c15_4) ∧ tm 20 = .lit (.int .i64 r36) ∧ True) (by refine ⟨e28, e29, e30, e31, ?_, ?_, trivial⟩ <;> first | (simp only [ua, b32, e28, e29, e30, e31, d33, d34, d35, nm, seval] <;> rfl) | rfl) ?_
    rintro tm ⟨e38, e39, e40, e41, e42, e43, _⟩
    obtain ⟨r44, o45, h⟩ := optI h kN15
    try simp only [hs] at h
    simp only [vz, tyf, b32, d33, d34, d35, (zlb d35), e38, e39, e40, e41, e42, e43, nm, seval]
    refine dktA (zdh _ _ _ _ _ o45) ?_
    refine zae (fun tm => tm 1 = .ptr 0 0 ∧ tm 2 = .ptr 1 0 ∧ tm 3 = .ptr 2 0 ∧ tm 4 = .lit (.int .i64 c15_4) ∧ tm 9 = .lit (.int .i64 c15_4) ∧ tm 20 = .lit (.int .i64 r36) ∧ tm 31 = .lit (.int .i64 r44) ∧ True) (by refine ⟨e38, e39, e40, e41, e42, e43, ?_, trivial⟩ <;> first | (simp only [ua, b32, d33, d34, d35, e38, e39, e40, e41, e42, e43, nm, seval] <;> rfl) | rfl) ?_
    rintro tm ⟨e46, e47, e48, e49, e50, e51, e52, _⟩
    simp only [vz, tyf, b32, d33, d34, d35, (zlb d35), e46, e47, e48, e49, e50, e51, e52, nm, seval]
    refine zcd ⟨?_, ?_⟩
    ·simp only [zbd, zbk, zai, zcu, and_true, true_and]
     repeat' (first | exact trivial | refine And.intro ?_ ?_ | rw [zai] | rw [zbv] | exact Or.inl (by decide +kernel) | exact Or.inl (by dsimp only; decide +kernel) | (refine Or.inr ⟨?_, ?_⟩ <;> simp; done) | (refine Or.inr ⟨?_, ?_⟩ <;> simp <;> omega) | (refine Or.inr ⟨?_, ?_⟩ <;> simp [VEff.wr] <;> omega))
    simp only [vz, tyf, b32, d33, d34, d35, (zlb d35), e46, e47, e48, e49, e50, e51, e52, nm, seval]
    exact ⟨p15, Nat.lt_succ_self _, by rw [hI15]; refine ⟨p15, c15_4 + 1, c15_o0, c15_o1, c15_o2, c15_o3, r36, r44, rfl, zoz hi15, zgz hp15, rfl, (show 4 ≤ nx15 + 31 by omega), ?_, ?_, ?_, e46, e47, e48, ?_, h⟩ <;> first | (simp only [ua, b32, d33, d34, d35, e46, e47, e48, e49, e50, e51, e52, nm, seval] <;> rfl) | rfl⟩
   simp only [d34, hs] at h
   obtain ⟨r53, o54, h⟩ := optI h kN15
   try simp only [hs] at h
   simp only [vz, tyf, b32, e28, e29, e30, e31, d33, d34, (zkt d34), nm, seval]
   refine dktA (zdh _ _ _ _ _ o54) ?_
   refine zae (fun tm => tm 1 = .ptr 0 0 ∧ tm 2 = .ptr 1 0 ∧ tm 3 = .ptr 2 0 ∧ tm 4 = .lit (.int .i64 c15_4) ∧ tm 9 = .lit (.int .i64 c15_4) ∧ tm 20 = .lit (.int .i64 r53) ∧ True) (by refine ⟨e28, e29, e30, e31, ?_, ?_, trivial⟩ <;> first | (simp only [ua, b32, e28, e29, e30, e31, d33, d34, nm, seval] <;> rfl) | rfl) ?_
   rintro tm ⟨e55, e56, e57, e58, e59, e60, _⟩
   obtain ⟨r61, o62, h⟩ := optI h kN15
   try simp only [hs] at h
   simp only [vz, tyf, b32, d33, d34, (zkt d34), e55, e56, e57, e58, e59, e60, nm, seval]
   refine dktA (zdh _ _ _ _ _ o62) ?_
   refine zae (fun tm => tm 1 = .ptr 0 0 ∧ tm 2 = .ptr 1 0 ∧ tm 3 = .ptr 2 0 ∧ tm 4 = .lit (.int .i64 c15_4) ∧ tm 9 = .lit (.int .i64 c15_4) ∧ tm 20 = .lit (.int .i64 r53) ∧ tm 31 = .lit (.int .i64 r61) ∧ True) (by refine ⟨e55, e56, e57, e58, e59, e60, ?_, trivial⟩ <;> first | (simp only [ua, b32, d33, d34, e55, e56, e57, e58, e59, e60, nm, seval] <;> rfl) | rfl) ?_
   rintro tm ⟨e63, e64, e65, e66, e67, e68, e69, _⟩
   simp only [vz, tyf, b32, d33, d34, (zkt d34), e63, e64, e65, e66, e67, e68, e69, nm, seval]
   refine zcd ⟨?_, ?_⟩
   ·simp only [zbd, zbk, zai, zcu, and_true, true_and]
    repeat' (first | exact trivial | refine And.intro ?_ ?_ | rw [zai] | rw [zbv] | exact Or.inl (by decide +kernel) | exact Or.inl (by dsimp only; decide +kernel) | (refine Or.inr ⟨?_, ?_⟩ <;> simp; done) | (refine Or.inr ⟨?_, ?_⟩ <;> simp <;> omega) | (refine Or.inr ⟨?_, ?_⟩ <;> simp [VEff.wr] <;> omega))
   simp only [vz, tyf, b32, d33, d34, (zkt d34), e63, e64, e65, e66, e67, e68, e69, nm, seval]
   exact ⟨p15, Nat.lt_succ_self _, by rw [hI15]; refine ⟨p15, c15_4 + 1, c15_o0, c15_o1, r53, r61, c15_o4, c15_o5, rfl, zoz hi15, zgz hp15, rfl, (show 4 ≤ nx15 + 31 by omega), ?_, ?_, ?_, e63, e64, e65, ?_, h⟩ <;> first | (simp only [ua, b32, d33, d34, e63, e64, e65, e66, e67, e68, e69, nm, seval] <;> rfl) | rfl⟩
  simp only [d33, hs] at h
  obtain ⟨r70, o71, h⟩ := optI h kN15
  try simp only [hs] at h
  simp only [vz, tyf, b32, e28, e29, e30, e31, d33, (zko d33), nm, seval]
  refine dktA (zdh _ _ _ _ _ o71) ?_
  refine zae (fun tm => tm 1 = .ptr 0 0 ∧ tm 2 = .ptr 1 0 ∧ tm 3 = .ptr 2 0 ∧ tm 4 = .lit (.int .i64 c15_4) ∧ tm 9 = .lit (.int .i64 c15_4) ∧ tm 20 = .lit (.int .i64 r70) ∧ True) (by refine ⟨e28, e29, e30, e31, ?_, ?_, trivial⟩ <;> first | (simp only [ua, b32, e28, e29, e30, e31, d33, nm, seval] <;> rfl) | rfl) ?_
  rintro tm ⟨e72, e73, e74, e75, e76, e77, _⟩
  obtain ⟨r78, o79, h⟩ := optI h kN15
  try simp only [hs] at h
  simp only [vz, tyf, b32, d33, (zko d33), e72, e73, e74, e75, e76, e77, nm, seval]
  refine dktA (zdh _ _ _ _ _ o79) ?_
  refine zae (fun tm => tm 1 = .ptr 0 0 ∧ tm 2 = .ptr 1 0 ∧ tm 3 = .ptr 2 0 ∧ tm 4 = .lit (.int .i64 c15_4) ∧ tm 9 = .lit (.int .i64 c15_4) ∧ tm 20 = .lit (.int .i64 r70) ∧ tm 31 = .lit (.int .i64 r78) ∧ True) (by refine ⟨e72, e73, e74, e75, e76, e77, ?_, trivial⟩ <;> first | (simp only [ua, b32, d33, e72, e73, e74, e75, e76, e77, nm, seval] <;> rfl) | rfl) ?_
  rintro tm ⟨e80, e81, e82, e83, e84, e85, e86, _⟩
  simp only [vz, tyf, b32, d33, (zko d33), e80, e81, e82, e83, e84, e85, e86, nm, seval]
  refine zcd ⟨?_, ?_⟩
  ·simp only [zbd, zbk, zai, zcu, and_true, true_and]
   repeat' (first | exact trivial | refine And.intro ?_ ?_ | rw [zai] | rw [zbv] | exact Or.inl (by decide +kernel) | exact Or.inl (by dsimp only; decide +kernel) | (refine Or.inr ⟨?_, ?_⟩ <;> simp; done) | (refine Or.inr ⟨?_, ?_⟩ <;> simp <;> omega) | (refine Or.inr ⟨?_, ?_⟩ <;> simp [VEff.wr] <;> omega))
  simp only [vz, tyf, b32, d33, (zko d33), e80, e81, e82, e83, e84, e85, e86, nm, seval]
  exact ⟨p15, Nat.lt_succ_self _, by rw [hI15]; refine ⟨p15, c15_4 + 1, r70, r78, c15_o2, c15_o3, c15_o4, c15_o5, rfl, zoz hi15, zgz hp15, rfl, (show 4 ≤ nx15 + 31 by omega), ?_, ?_, ?_, e80, e81, e82, ?_, h⟩ <;> first | (simp only [ua, b32, d33, e80, e81, e82, e83, e84, e85, e86, nm, seval] <;> rfl) | rfl⟩
def zgx (x0_s : Gs) : Option (Bool) := some (decide ((List.length x0_s.Tins : Int) ≤ 6))
theorem znm (x0_s : Gs) (R : Bool) (h : zgx x0_s = some R) : VPure Tryz.prog G0 15 [.agg (cGs x0_s)] (.tree (.lit (.bool R))) := by
 refine VPure.runR mixed Tryz.call15 Tryz.func15 rfl (by simp [Tryz.ntmps15]; kernel_rfl) ?_
 obtain ⟨KF, h, kF, kN⟩ := zam h
 simp only [zgx] at h
 try simp only [vz, tyf, nm, seval]
 obtain rfl := kF _ h
 exact zan Tryz.results15 rfl

end Go.V
end
section
namespace Go.V
open Go
inductive P3 where
 | p0
 | p1
 | p2
def P3.i : P3 → Int
 | .p0 => 0
 | .p1 => 1
 | .p2 => 2
def selS (c : Ga) : P3 → GSpan
 | .p0 => c.a0
 | .p1 => c.a1
 | .p2 => c.a2
def selI (c : Gi) : P3 → Int
 | .p0 => c.a0
 | .p1 => c.a1
 | .p2 => c.a2
theorem zqr (a n b : Int) : zdv a n b = some (inB a b n) := csome _ _
theorem zano (n a b : Int) : zep n a b = some (inB a b n) := csome _ _
def spB (m : Int) (x : GSpan) : Bool := decide (0 ≤ x.Low) && (decide (x.Low ≤ x.High) && decide (x.High ≤ m))
theorem zacv {m : Int} {x : GSpan} : spB m x = true ↔ 0 ≤ x.Low ∧ x.Low ≤ x.High ∧ x.High ≤ m := by simp [spB]
theorem zyl (x : GSpan) (m : Int) : zdt 0 x m = some (spB m x) := by
 unfold zdt spB
 cases decide (0 ≤ x.Low) <;> cases decide (x.Low ≤ x.High) <;> rfl
theorem zqh (x : GSpan) (m : Int) : zcn x m = some (spB m x) := by
 unfold zcn
 simp only [zano, Option.bind_some]
 rw [csome]
 congr 1
 rw [Bool.eq_iff_iff]
 simp only [Bool.and_eq_true, zly, zacv]
 omega
theorem zty (a b : Int) : ∀ (p : List Int) (c : Int), zcf a b p c = goB (p.all (inB a b))
 | [], _ => rfl
 | e :: p, c => by
  simp only [zcf, zqr, Option.bind_some, zty a b p, List.all_cons, zpy]
theorem zaea (a b : Int) {x : List Int} (h : lenOk x = true) : zea a x b = some (x.all (inB a b)) := by
 unfold zea
 rw [h, zty, zmn]
 cases x.all (inB a b) <;> rfl
theorem zpm (b : Int) : ∀ (p : List GSpan) (c : Int), zca 0 b p c = goB (p.all (spB b))
 | [], _ => rfl
 | e :: p, c => by
  simp only [zca, zyl, Option.bind_some, zpm b p, List.all_cons, zpy]
theorem zqb (b : Int) {x : List GSpan} (h : lenOk x = true) : zci 0 x b = some (x.all (spB b)) := by
 unfold zci
 rw [h, zpm, zmn]
 cases x.all (spB b) <;> rfl
def tinB (t : Gt) : Bool := spB 99 t.pg.a0 && (spB 99 t.pg.a1 && spB 99 t.pg.a2)
def sheetB (s : Gs) : Bool := (inB 0 99 s.Old.a0 && (inB 0 99 s.Old.a1 && inB 0 99 s.Old.a2)) && ((spB 9 s.Fade.a0 && (spB 9 s.Fade.a1 && spB 9 s.Fade.a2)) && (spB 20 s.Years && (inB 1 20 s.Off && (inB 1 4 s.Tins.length && s.Tins.all tinB))))
theorem ztw : ∀ (p : List Gt) (c : Int), zcw p c = goB (p.all tinB)
 | [], _ => rfl
 | e :: p, c => by
  have h : zci 0 [e.pg.a0, e.pg.a1, e.pg.a2] 99 = some (tinB e) := by
   rw [zqb 99 (zjh (by simp only [List.length_cons, List.length_nil]; decide))]
   simp only [List.all_cons, List.all_nil, Bool.and_true]
   rfl
  simp only [zcw, h, Option.bind_some, ztw p, List.all_cons, zpy]
theorem zabi {s : Gs} (h : lenOk s.Tins = true) : zbi s = some (sheetB s) := by
 unfold zbi zfv
 rw [zaea 0 99 (zjh (by simp only [List.length_cons, List.length_nil]; decide)), zqb 9 (zjh (by simp only [List.length_cons, List.length_nil]; decide)), zyl, zqr, zqr, h, ztw, zmn]
 simp only [List.all_cons, List.all_nil, Bool.and_true, Option.bind_some, sheetB]
 cases (inB 0 99 s.Old.a0 && (inB 0 99 s.Old.a1 && inB 0 99 s.Old.a2)) <;> cases (spB 9 s.Fade.a0 && (spB 9 s.Fade.a1 && spB 9 s.Fade.a2)) <;> cases spB 20 s.Years <;> cases inB 1 20 s.Off <;> cases inB 1 4 (s.Tins.length : Int) <;> cases s.Tins.all tinB <;> rfl
theorem zyf : ∀ (p : List Gt) (c : Int), zbp p c = goB (p.all fun t => spB 99 t.pg.a0)
 | [], _ => rfl
 | e :: p, c => by simp only [zbp, zqh, Option.bind_some, zyf p, List.all_cons, zpy]
theorem zxg : ∀ (p : List Gt) (c : Int), zbq p c = goB (p.all fun t => spB 99 t.pg.a1)
 | [], _ => rfl
 | e :: p, c => by simp only [zbq, zqh, Option.bind_some, zxg p, List.all_cons, zpy]
theorem zwr : ∀ (p : List Gt) (c : Int), zbr p c = goB (p.all fun t => spB 99 t.pg.a2)
 | [], _ => rfl
 | e :: p, c => by simp only [zbr, zqh, Option.bind_some, zwr p, List.all_cons, zpy]
theorem zaih : ∀ (p : List Gt), p.all tinB = ((p.all fun t => spB 99 t.pg.a0) && ((p.all fun t => spB 99 t.pg.a1) && (p.all fun t => spB 99 t.pg.a2)))
 | [] => rfl
 | e :: p => by
  simp only [List.all_cons, zaih p, tinB]
  cases spB 99 e.pg.a0 <;> cases spB 99 e.pg.a1 <;> cases spB 99 e.pg.a2 <;> simp
theorem zahh {s : Gs} (h : lenOk s.Tins = true) : zfr s = some (sheetB s) := by
 unfold zfr zjn sheetB
 rw [zaih, show Int.toNat (3 - 0) = 3 from rfl, show boundOk 3 = true from rfl]
 simp only [zco, h, zyf, zxg, zwr, zmn, zqh, zano, Option.bind_some, Int.reduceAdd, Int.reduceBEq, cond_true, cond_false]
 cases inB 0 99 s.Old.a0 <;> cases inB 0 99 s.Old.a1 <;> cases inB 0 99 s.Old.a2 <;> cases spB 9 s.Fade.a0 <;> cases spB 9 s.Fade.a1 <;> cases spB 9 s.Fade.a2 <;> simp only [cond_true, cond_false, Bool.false_and, Bool.true_and, Bool.and_false, lbind] <;> first | (cases spB 20 s.Years <;> cases inB 1 20 s.Off <;> cases inB 1 4 (s.Tins.length : Int) <;> rfl) | (cases spB 20 s.Years <;> cases inB 1 20 s.Off <;> cases inB 1 4 (s.Tins.length : Int) <;> cases (s.Tins.all fun t => spB 99 t.pg.a0) <;> first | rfl | (cases (s.Tins.all fun t => spB 99 t.pg.a1) <;> first | rfl | (cases (s.Tins.all fun t => spB 99 t.pg.a2) <;> rfl)))
structure ShOk (s : Gs) : Prop where
 old : ∀ p, 0 ≤ selI s.Old p ∧ selI s.Old p ≤ 99
 fade : ∀ p, 0 ≤ (selS s.Fade p).Low ∧ (selS s.Fade p).Low ≤ (selS s.Fade p).High ∧ (selS s.Fade p).High ≤ 9
 yrs : 0 ≤ s.Years.Low ∧ s.Years.Low ≤ s.Years.High ∧ s.Years.High ≤ 20
 off : 1 ≤ s.Off ∧ s.Off ≤ 20
 n : 1 ≤ s.Tins.length ∧ s.Tins.length ≤ 4
 tin : ∀ t ∈ s.Tins, ∀ p, 0 ≤ (selS t.pg p).Low ∧ (selS t.pg p).Low ≤ (selS t.pg p).High ∧ (selS t.pg p).High ≤ 99
theorem ShOk.of {s : Gs} (h : sheetB s = true) : ShOk s := by
 simp only [sheetB, Bool.and_eq_true, List.all_eq_true, tinB, zly, zacv] at h
 obtain ⟨⟨h1, h2, h3⟩, ⟨h4, h5, h6⟩, h7, h8, h9, h10⟩ := h
 refine ⟨fun p => ?_, fun p => ?_, h7, h8, by omega, fun t ht p => ?_⟩
 ·cases p <;> assumption
 ·cases p <;> assumption
 ·obtain ⟨a, b, c⟩ := h10 t ht
  cases p <;> assumption
theorem ShOk.ok {s : Gs} (h : ShOk s) : sheetB s = true := by
 simp only [sheetB, Bool.and_eq_true, List.all_eq_true, tinB, zly, zacv]
 exact ⟨⟨h.old .p0, h.old .p1, h.old .p2⟩, ⟨h.fade .p0, h.fade .p1, h.fade .p2⟩, h.yrs, h.off, by have := h.n; omega, fun t ht => ⟨h.tin t ht .p0, h.tin t ht .p1, h.tin t ht .p2⟩⟩
def sumL : List Int → Int
 | [] => 0
 | e :: l => e + sumL l
theorem zyr : ∀ {l : List Int}, (∀ e ∈ l, 0 ≤ e ∧ e ≤ 8) → 0 ≤ sumL l ∧ sumL l ≤ 8 * l.length
 | [], _ => by simp [sumL]
 | e :: l, h => by
  have h1 := h e (List.mem_cons_self ..)
  have h2 := zyr fun x hx => h x (List.mem_cons_of_mem _ hx)
  simp only [sumL, List.length_cons]
  omega
theorem zacp : ∀ (l : List Int) (c acc : Int), (∀ e ∈ l, 0 ≤ e ∧ e ≤ 8) → 0 ≤ acc → acc + 8 * l.length ≤ 1000000 → zfg l c acc = some (.go (acc + sumL l))
 | [], c, acc, _, _, _ => by simp [zfg, sumL]
 | e :: l, c, acc, h, h0, hb => by
  have h1 := h e (List.mem_cons_self ..)
  simp only [List.length_cons] at hb
  simp only [zfg]
  rw [zdc (by omega) (by omega), zacp l _ _ (fun x hx => h x (List.mem_cons_of_mem _ hx)) (by omega) (by omega)]
  simp only [sumL, Int.add_assoc]
theorem zaer {l : List Int} (h : ∀ e ∈ l, 0 ≤ e ∧ e ≤ 8) (hl : l.length ≤ 1000) : zlg l = some (sumL l) := by
 unfold zlg
 rw [zjh (by omega), zacp l 0 0 h (by omega) (by omega)]
 simp [lbind]
theorem zyh : ∀ (l : List Int) (c acc : Int), (∀ e ∈ l, 0 ≤ e ∧ e ≤ 8) → 0 ≤ acc → acc + 8 * l.length ≤ 1000000 → zcr l c acc = some (.go (acc + sumL l))
 | [], c, acc, _, _, _ => by simp [zcr, sumL]
 | e :: l, c, acc, h, h0, hb => by
  have h1 := h e (List.mem_cons_self ..)
  simp only [List.length_cons] at hb
  simp only [zcr]
  rw [zdc (by omega) (by omega), zyh l _ _ (fun x hx => h x (List.mem_cons_of_mem _ hx)) (by omega) (by omega)]
  simp only [sumL, Int.add_assoc]
theorem zxo {l : List Int} (h : ∀ e ∈ l, 0 ≤ e ∧ e ≤ 8) (hl : l.length ≤ 1000) : zey l = some (sumL l) := by
 unfold zey
 rw [zjh (by omega), zyh l 0 0 h (by omega) (by omega)]
 simp [lbind]
def mixB (s : Gs) (mix : List Int) : Bool := decide (mix.length = s.Tins.length) && (mix.all (inB 0 8) && inB 1 8 (sumL mix))
structure MixOk (s : Gs) (mix : List Int) : Prop where
 n : mix.length = s.Tins.length
 b : ∀ e ∈ mix, 0 ≤ e ∧ e ≤ 8
 s : 1 ≤ sumL mix ∧ sumL mix ≤ 8
theorem MixOk.of {s : Gs} {mix : List Int} (h : mixB s mix = true) : MixOk s mix := by
 simp only [mixB, Bool.and_eq_true, List.all_eq_true, zly, decide_eq_true_eq] at h
 exact ⟨h.1, h.2.1, h.2.2⟩
theorem MixOk.ok {s : Gs} {mix : List Int} (h : MixOk s mix) : mixB s mix = true := by
 simp only [mixB, Bool.and_eq_true, List.all_eq_true, zly, decide_eq_true_eq]
 exact ⟨h.n, h.b, h.s⟩
end Go.V
end
