/- Part of a proof: a logic of values by content, lifted functions, what follows. -/
import Derived.Test.YtekhjalgmlflpaaGreatDoorQbf
import Derived.Test.YtekhjalgmlflpaaGreatDoorQbe
import Derived.Test.YtekhjalgmlflpaaGreatDoorQbh
set_option linter.all false
set_option maxRecDepth 4000
set_option maxHeartbeats 40000000
section
namespace Go.V
open Go Go.Proofs
def zcd  : List GTintTin → Int → Option (LOut (Bool) (Unit))
 | [], c3_4 => some (.go ())
 | e3 :: p3, c3_4 => Option.bind (zbo e3.Pigments.a2 99) (fun r16 => cond (r16) (zcd p3 (c3_4 + 1)) (some (.ret false)))
def zca  : List GTintTin → Int → Option (LOut (Bool) (Unit))
 | [], c2_4 => some (.go ())
 | e2 :: p2, c2_4 => Option.bind (zbo e2.Pigments.a1 99) (fun r11 => cond (r11) (zca p2 (c2_4 + 1)) (some (.ret false)))
def zcc  : List GTintTin → Int → Option (LOut (Bool) (Unit))
 | [], c1_4 => some (.go ())
 | e1 :: p1, c1_4 => Option.bind (zbo e1.Pigments.a0 99) (fun r6 => cond (r6) (zcc p1 (c1_4 + 1)) (some (.ret false)))
def zdm (x0_s : GTintSheet) : Nat → Int → Option (LOut (Bool) (Unit))
 | 0, c0_3 => some (.go ())
 | k0 + 1, c0_3 => cond (c0_3 == 0) (Option.bind (zav x0_s.Old.a0 0 99) (fun r4 => cond (r4) (Option.bind (zbo x0_s.Fade.a0 9) (fun r5 => cond (r5) (cond (lenOk x0_s.Tins) (lbind (zcc x0_s.Tins 0) (fun r8 => some (.ret r8)) (fun c7 => zdm x0_s k0 (c0_3 + 1)) (fun _ _ => none)) none) (some (.ret false)))) (some (.ret false)))) (cond (c0_3 == 1) (Option.bind (zav x0_s.Old.a1 0 99) (fun r9 => cond (r9) (Option.bind (zbo x0_s.Fade.a1 9) (fun r10 => cond (r10) (cond (lenOk x0_s.Tins) (lbind (zca x0_s.Tins 0) (fun r13 => some (.ret r13)) (fun c12 => zdm x0_s k0 (c0_3 + 1)) (fun _ _ => none)) none) (some (.ret false)))) (some (.ret false)))) (cond (c0_3 == 2) (Option.bind (zav x0_s.Old.a2 0 99) (fun r14 => cond (r14) (Option.bind (zbo x0_s.Fade.a2 9) (fun r15 => cond (r15) (cond (lenOk x0_s.Tins) (lbind (zcd x0_s.Tins 0) (fun r18 => some (.ret r18)) (fun c17 => zdm x0_s k0 (c0_3 + 1)) (fun _ _ => none)) none) (some (.ret false)))) (some (.ret false)))) (none)))
def zee (x0_s : GTintSheet) : Option (Bool) := Option.bind (zbo x0_s.Years 20) (fun r1 => cond (r1) (Option.bind (zij x0_s.Off) (fun r2 => cond (r2) (Option.bind (zav (List.length x0_s.Tins : Int) 1 4) (fun r3 => cond (r3) (cond (boundOk 3) (lbind (zdm x0_s (Int.toNat (3 - 0)) 0) (fun r20 => some r20) (fun c19 => some true) (fun _ _ => none)) none) (some false))) (some false))) (some false))
theorem zkc (x0_s : GTintSheet) (R : Bool) (h : zee x0_s = some R) : VPure Tryz.prog G0 20 [.agg (cGTintSheet x0_s)] (.tree (.lit (.bool R))) := by
 refine VPure.runR mixed Tryz.call20 Tryz.func20 rfl (by simp [Tryz.ntmps20]; kernel_rfl) ?_
 obtain ⟨KF, h, kF, kN⟩ := zak h
 simp only [zee] at h
 rcases o22 : (zbo x0_s.Years 20) with _ | r21
 ·simp only [o22, hs] at h
  exact absurd h kN
 simp only [o22, hs] at h
 simp only [vz, tyf, nm, seval]
 refine ktree (args0 := [.agg (cGSpan x0_s.Years), .lit (.int .i64 20)]) (by first | (simp only [nrm, tynrm] <;> rfl) | rfl) (by simp only [tre, tytre, Bool.and_self]) (zdx _ _ _ o22) ?_
 refine zac (fun tm => tm 1 = .ptr 0 0 ∧ tm 7 = .lit (.bool r21) ∧ True) (by refine ⟨?_, ?_, trivial⟩ <;> first | (simp only [ua, nm, seval] <;> rfl) | rfl) ?_
 rintro tm ⟨e23, e24, _⟩
 cases d25 : (r21)
 ·simp only [d25, hs] at h
  try simp only [vz, tyf, e23, e24, d25, nm, seval]
  obtain rfl := kF _ h
  exact zab Tryz.results20 rfl
 simp only [d25, hs] at h
 rcases o27 : (zij x0_s.Off) with _ | r26
 ·simp only [o27, hs] at h
  exact absurd h kN
 simp only [o27, hs] at h
 simp only [vz, tyf, e23, e24, d25, nm, seval]
 refine ktree (args0 := [.lit (.int .i64 x0_s.Off)]) (by first | (simp only [nrm, tynrm] <;> rfl) | rfl) (by simp only [tre, tytre, Bool.and_self]) (zsg _ _ o27) ?_
 refine zac (fun tm => tm 1 = .ptr 0 0 ∧ tm 9 = .lit (.bool false) ∧ tm 12 = .lit (.bool r26) ∧ True) (by refine ⟨e23, ?_, ?_, trivial⟩ <;> first | (simp only [ua, e23, e24, d25, nm, seval] <;> rfl) | rfl) ?_
 rintro tm ⟨e28, e29, e30, _⟩
 cases d31 : (r26)
 ·simp only [d31, hs] at h
  try simp only [vz, tyf, d25, e28, e29, e30, d31, nm, seval]
  obtain rfl := kF _ h
  exact zab Tryz.results20 rfl
 simp only [d31, hs] at h
 rcases o33 : (zav (List.length x0_s.Tins : Int) 1 4) with _ | r32
 ·simp only [o33, hs] at h
  exact absurd h kN
 simp only [o33, hs] at h
 simp only [vz, tyf, d25, e28, e29, e30, d31, nm, seval]
 refine ktree (args0 := [.lit (.int .i64 (List.length x0_s.Tins : Int)), .lit (.int .i64 1), .lit (.int .i64 4)]) (by first | (simp only [nrm, tynrm] <;> rfl) | rfl) (by simp only [tre, tytre, Bool.and_self]) (zbn _ _ _ _ o33) ?_
 refine zac (fun tm => tm 1 = .ptr 0 0 ∧ tm 15 = .lit (.bool false) ∧ tm 19 = .lit (.bool r32) ∧ True) (by refine ⟨e28, ?_, ?_, trivial⟩ <;> first | (simp only [ua, d25, e28, e29, e30, d31, nm, seval] <;> rfl) | rfl) ?_
 rintro tm ⟨e34, e35, e36, _⟩
 cases d37 : (r32)
 ·simp only [d37, hs] at h
  try simp only [vz, tyf, d25, d31, e34, e35, e36, d37, nm, seval]
  obtain rfl := kF _ h
  exact zab Tryz.results20 rfl
 simp only [d37, hs] at h
 cases g39 : (boundOk 3)
 ·simp only [g39, hs] at h
  exact absurd h kN
 simp only [g39, hs] at h
 simp only [vz, tyf, d25, d31, e34, e35, e36, d37, g39, nm, seval]
 obtain ⟨K38, h, kR38, kG38, kB38, kN38⟩ := zbc h kN
 obtain ⟨f38, hf38, h⟩ := call2 h
 obtain ⟨I38, hI38⟩ : ∃ I : Nat → St → Prop, I = (fun m st => ∃ (p38 : Nat) (c38_3 : Int), p38 = m ∧ loOk c38_3 = true ∧ Int.toNat (3 - c38_3) = p38 ∧ st.df = [] ∧ 20 ≤ st.nx ∧ st.H 0 = some (.cells (some 28) (cGTintSheet x0_s)) ∧ st.tm 1 = .ptr 0 0 ∧ st.tm 3 = .lit (.int .i64 c38_3) ∧ K38 (f38 p38 c38_3)) := ⟨_, rfl⟩
 refine loopK mixed (by kernel_rfl) I38 (Int.toNat (3 - 0)) (by rw [hI38]; refine ⟨Int.toNat (3 - 0), 0, rfl, (by rfl), rfl, rfl, (show 20 ≤ 20 by omega), ?_, e34, ?_, h⟩ <;> first | (simp only [ua, d25, d31, e34, e35, e36, d37, nm, seval] <;> rfl) | rfl) ?_
 rintro m ⟨tm, H, nx38, df⟩ hinv
 rw [hI38] at hinv
 obtain ⟨p38, c38_3, rfl, hi38, hp38, hdf, hn38, H40, e41, e42, h⟩ := hinv
 simp only at hdf hn38 H40 e41 e42
 have n43 := zda (m := 20) (b := nx38) (by omega)
 subst hdf hf38
 cases p38 with
 | zero =>
  have d44 : (decide (c38_3 < 3)) = false := zkd hp38
  simp only [zdm, hs, reduceCtorEq] at h
  replace h := kG38 _ h
  try dsimp only at h
  try simp only [hs] at h
  try simp only [vz, tyf, d25, d31, d37, g39, n43, e41, e42, H40, d44, nm, seval]
  obtain rfl := kF _ h
  exact zab Tryz.results20 rfl
 | succ p38 =>
  have d45 : (decide (c38_3 < 3)) = true := zaeg hp38
  have w46 := zns hi38 hp38 g39
  simp only [zdm, hs, reduceCtorEq] at h
  cases d47 : (c38_3 == 0)
  ·simp only [d47, hs] at h
   have b48 := And.intro d25 (And.intro d31 (And.intro d37 (And.intro g39 (And.intro n43 (And.intro H40 (And.intro d45 (And.intro w46 d47)))))))
   cases d49 : (c38_3 == 1)
   ·simp only [d49, hs] at h
    cases d50 : (c38_3 == 2)
    ·simp only [d50, hs] at h
     exact absurd h kN38
    simp only [d50, hs] at h
    rcases o52 : (zav x0_s.Old.a2 0 99) with _ | r51
    ·simp only [o52, hs] at h
     exact absurd h kN38
    simp only [o52, hs] at h
    simp only [vz, tyf, b48, e41, e42, d49, d50, (zgt d50), nm, seval]
    refine ktree (args0 := [.lit (.int .i64 x0_s.Old.a2), .lit (.int .i64 0), .lit (.int .i64 99)]) (by first | (simp only [nrm, tynrm] <;> rfl) | rfl) (by simp only [tre, tytre, Bool.and_self]) (zbn _ _ _ _ o52) ?_
    refine zac (fun tm => tm 1 = .ptr 0 0 ∧ tm 3 = .lit (.int .i64 c38_3) ∧ tm 30 = .lit (.bool r51) ∧ True) (by refine ⟨e41, e42, ?_, trivial⟩ <;> first | (simp only [ua, b48, e41, e42, d49, d50, nm, seval] <;> rfl) | rfl) ?_
    rintro tm ⟨e53, e54, e55, _⟩
    cases d56 : (r51)
    ·simp only [d56, hs] at h
     try simp only [vz, tyf, b48, d49, d50, (zgt d50), e53, e54, e55, d56, nm, seval]
     replace h := kR38 _ h
     try dsimp only at h
     obtain rfl := kF _ h
     exact zab Tryz.results20 rfl
    simp only [d56, hs] at h
    rcases o58 : (zbo x0_s.Fade.a2 9) with _ | r57
    ·simp only [o58, hs] at h
     exact absurd h kN38
    simp only [o58, hs] at h
    simp only [vz, tyf, b48, d49, d50, (zgt d50), e53, e54, e55, d56, (zib d50), nm, seval]
    refine ktree (args0 := [.agg (cGSpan x0_s.Fade.a2), .lit (.int .i64 9)]) (by first | (simp only [nrm, tynrm] <;> rfl) | rfl) (by simp only [tre, tytre, Bool.and_self]) (zdx _ _ _ o58) ?_
    refine zac (fun tm => tm 1 = .ptr 0 0 ∧ tm 3 = .lit (.int .i64 c38_3) ∧ tm 32 = .lit (.bool false) ∧ tm 37 = .lit (.bool r57) ∧ True) (by refine ⟨e53, e54, ?_, ?_, trivial⟩ <;> first | (simp only [ua, b48, d49, d50, e53, e54, e55, d56, nm, seval] <;> rfl) | rfl) ?_
    rintro tm ⟨e59, e60, e61, e62, _⟩
    cases d63 : (r57)
    ·simp only [d63, hs] at h
     try simp only [vz, tyf, b48, d49, d50, (zgt d50), d56, (zib d50), e59, e60, e61, e62, d63, nm, seval]
     replace h := kR38 _ h
     try dsimp only at h
     obtain rfl := kF _ h
     exact zab Tryz.results20 rfl
    simp only [d63, hs] at h
    cases g65 : (lenOk x0_s.Tins)
    ·simp only [g65, hs] at h
     exact absurd h kN38
    simp only [g65, hs] at h
    simp only [vz, tyf, b48, d49, d50, (zgt d50), d56, (zib d50), e59, e60, e61, e62, d63, g65, nm, seval]
    obtain ⟨K64, h, kR64, kG64, kB64, kN64⟩ := zbc h kN38
    obtain ⟨f64, hf64, h⟩ := call2 h
    obtain ⟨I64, hI64⟩ : ∃ I : Nat → St → Prop, I = (fun m st => ∃ (p64 : List GTintTin) (c64_4 : Int), m = List.length p64 ∧ 0 ≤ c64_4 ∧ List.drop (Int.toNat c64_4) x0_s.Tins = p64 ∧ st.df = [] ∧ nx38 + 17 ≤ st.nx ∧ st.H 0 = some (.cells (some 28) (cGTintSheet x0_s)) ∧ st.tm 1 = .ptr 0 0 ∧ st.tm 3 = .lit (.int .i64 c38_3) ∧ st.tm 4 = .lit (.int .i64 c64_4) ∧ K64 (f64 p64 c64_4)) := ⟨_, rfl⟩
    refine loopK mixed (by kernel_rfl) I64 (List.length x0_s.Tins) (by rw [hI64]; refine ⟨x0_s.Tins, 0, rfl, Int.le_refl _, rfl, rfl, (show nx38 + 17 ≤ nx38 + 17 by omega), ?_, e59, e60, ?_, h⟩ <;> first | (simp only [ua, b48, d49, d50, d56, e59, e60, e61, e62, d63, nm, seval] <;> rfl) | rfl) ?_
    rintro m ⟨tm, H, nx64, df⟩ hinv
    rw [hI64] at hinv
    obtain ⟨p64, c64_4, rfl, hi64, hp64, hdf, hn64, H66, e67, e68, e69, h⟩ := hinv
    simp only at hdf hn64 H66 e67 e68 e69
    have n70 := zda (m := 20) (b := nx64) (by omega)
    have n71 := zoc (a := nx38) (m := 17) (b := nx64) (by omega)
    subst hdf hf64
    cases p64 with
    | nil =>
     have d72 : (decide (c64_4 < (List.length x0_s.Tins : Int))) = false := zam hi64 hp64
     simp only [zcc, zca, zcd, hs, reduceCtorEq] at h
     replace h := kG64 _ h
     try dsimp only at h
     try simp only [hs] at h
     simp only [vz, tyf, b48, d49, d50, (zgt d50), d56, (zib d50), d63, g65, n70, n71, e67, e68, e69, H66, d72, nm, seval]
     exact ⟨p38, Nat.lt_succ_self _, by rw [hI38]; refine ⟨p38, c38_3 + 1, rfl, zmj hi38, zgg hp38, rfl, (show 20 ≤ nx64 + 8 by omega), ?_, e67, ?_, h⟩ <;> first | (simp only [ua, b48, d49, d50, d56, d63, n70, n71, e67, e68, e69, H66, d72, nm, seval] <;> rfl) | rfl⟩
    | cons e64 p64 =>
     have d73 : (decide (c64_4 < (List.length x0_s.Tins : Int))) = true := zbp hi64 hp64
     have o75 := zaj hi64 hp64
     have w74 := zcm hi64 hp64 g65
     simp only [zcc, zca, zcd, hs, reduceCtorEq] at h
     rcases o77 : (zbo e64.Pigments.a2 99) with _ | r76
     ·simp only [o77, hs] at h
      exact absurd h kN64
     simp only [o77, hs] at h
     simp only [vz, tyf, b48, d49, d50, (zgt d50), d56, (zib d50), d63, g65, n70, n71, e67, e68, e69, H66, d73, (ix26 o75), w74, (zmy d50), nm, seval]
     refine ktree (args0 := [.agg (cGSpan e64.Pigments.a2), .lit (.int .i64 99)]) (by first | (simp only [nrm, tynrm] <;> rfl) | rfl) (by simp only [tre, tytre, Bool.and_self]) (zdx _ _ _ o77) ?_
     refine zac (fun tm => tm 1 = .ptr 0 0 ∧ tm 3 = .lit (.int .i64 c38_3) ∧ tm 4 = .lit (.int .i64 c64_4) ∧ tm 55 = .lit (.bool r76) ∧ True) (by refine ⟨e67, e68, e69, ?_, trivial⟩ <;> first | (simp only [ua, b48, d49, d50, d56, d63, n70, n71, e67, e68, e69, H66, d73, w74, nm, seval] <;> rfl) | rfl) ?_
     rintro tm ⟨e78, e79, e80, e81, _⟩
     have b82 := And.intro b48 (And.intro d49 (And.intro d50 (And.intro d56 (And.intro d63 (And.intro g65 (And.intro n70 (And.intro n71 (And.intro H66 (And.intro d73 w74)))))))))
     cases d83 : (r76)
     ·simp only [d83, hs] at h
      try simp only [vz, tyf, b82, (zgt d50), (zib d50), (ix26 o75), (zmy d50), e78, e79, e80, e81, d83, nm, seval]
      replace h := kR64 _ h
      try dsimp only at h
      replace h := kR38 _ h
      try dsimp only at h
      obtain rfl := kF _ h
      exact zab Tryz.results20 rfl
     simp only [d83, hs] at h
     simp only [vz, tyf, b82, (zgt d50), (zib d50), (ix26 o75), (zmy d50), e78, e79, e80, e81, d83, nm, seval]
     exact ⟨List.length p64, Nat.lt_succ_self _, by rw [hI64]; refine ⟨p64, c64_4 + 1, rfl, Int.le_trans hi64 (Int.le_add_one (Int.le_refl _)), zay hi64 hp64, rfl, (show nx38 + 17 ≤ nx64 + 18 by omega), ?_, e78, e79, ?_, h⟩ <;> first | (simp only [ua, b82, e78, e79, e80, e81, d83, nm, seval] <;> rfl) | rfl⟩
   simp only [d49, hs] at h
   rcases o85 : (zav x0_s.Old.a1 0 99) with _ | r84
   ·simp only [o85, hs] at h
    exact absurd h kN38
   simp only [o85, hs] at h
   simp only [vz, tyf, b48, e41, e42, d49, (zgs d49), nm, seval]
   refine ktree (args0 := [.lit (.int .i64 x0_s.Old.a1), .lit (.int .i64 0), .lit (.int .i64 99)]) (by first | (simp only [nrm, tynrm] <;> rfl) | rfl) (by simp only [tre, tytre, Bool.and_self]) (zbn _ _ _ _ o85) ?_
   refine zac (fun tm => tm 1 = .ptr 0 0 ∧ tm 3 = .lit (.int .i64 c38_3) ∧ tm 30 = .lit (.bool r84) ∧ True) (by refine ⟨e41, e42, ?_, trivial⟩ <;> first | (simp only [ua, b48, e41, e42, d49, nm, seval] <;> rfl) | rfl) ?_
   rintro tm ⟨e86, e87, e88, _⟩
   cases d89 : (r84)
   ·simp only [d89, hs] at h
    try simp only [vz, tyf, b48, d49, (zgs d49), e86, e87, e88, d89, nm, seval]
    replace h := kR38 _ h
    try dsimp only at h
    obtain rfl := kF _ h
    exact zab Tryz.results20 rfl
   simp only [d89, hs] at h
   rcases o91 : (zbo x0_s.Fade.a1 9) with _ | r90
   ·simp only [o91, hs] at h
    exact absurd h kN38
   simp only [o91, hs] at h
   simp only [vz, tyf, b48, d49, (zgs d49), e86, e87, e88, d89, (zic d49), nm, seval]
   refine ktree (args0 := [.agg (cGSpan x0_s.Fade.a1), .lit (.int .i64 9)]) (by first | (simp only [nrm, tynrm] <;> rfl) | rfl) (by simp only [tre, tytre, Bool.and_self]) (zdx _ _ _ o91) ?_
   refine zac (fun tm => tm 1 = .ptr 0 0 ∧ tm 3 = .lit (.int .i64 c38_3) ∧ tm 32 = .lit (.bool false) ∧ tm 37 = .lit (.bool r90) ∧ True) (by refine ⟨e86, e87, ?_, ?_, trivial⟩ <;> first | (simp only [ua, b48, d49, e86, e87, e88, d89, nm, seval] <;> rfl) | rfl) ?_
   rintro tm ⟨e92, e93, e94, e95, _⟩
   cases d96 : (r90)
   ·simp only [d96, hs] at h
    try simp only [vz, tyf, b48, d49, (zgs d49), d89, (zic d49), e92, e93, e94, e95, d96, nm, seval]
    replace h := kR38 _ h
    try dsimp only at h
    obtain rfl := kF _ h
    exact zab Tryz.results20 rfl
   simp only [d96, hs] at h
   cases g98 : (lenOk x0_s.Tins)
   ·simp only [g98, hs] at h
    exact absurd h kN38
   simp only [g98, hs] at h
   simp only [vz, tyf, b48, d49, (zgs d49), d89, (zic d49), e92, e93, e94, e95, d96, g98, nm, seval]
   obtain ⟨K97, h, kR97, kG97, kB97, kN97⟩ := zbc h kN38
   obtain ⟨f97, hf97, h⟩ := call2 h
   obtain ⟨I97, hI97⟩ : ∃ I : Nat → St → Prop, I = (fun m st => ∃ (p97 : List GTintTin) (c97_4 : Int), m = List.length p97 ∧ 0 ≤ c97_4 ∧ List.drop (Int.toNat c97_4) x0_s.Tins = p97 ∧ st.df = [] ∧ nx38 + 17 ≤ st.nx ∧ st.H 0 = some (.cells (some 28) (cGTintSheet x0_s)) ∧ st.tm 1 = .ptr 0 0 ∧ st.tm 3 = .lit (.int .i64 c38_3) ∧ st.tm 4 = .lit (.int .i64 c97_4) ∧ K97 (f97 p97 c97_4)) := ⟨_, rfl⟩
   refine loopK mixed (by kernel_rfl) I97 (List.length x0_s.Tins) (by rw [hI97]; refine ⟨x0_s.Tins, 0, rfl, Int.le_refl _, rfl, rfl, (show nx38 + 17 ≤ nx38 + 17 by omega), ?_, e92, e93, ?_, h⟩ <;> first | (simp only [ua, b48, d49, d89, e92, e93, e94, e95, d96, nm, seval] <;> rfl) | rfl) ?_
   rintro m ⟨tm, H, nx97, df⟩ hinv
   rw [hI97] at hinv
   obtain ⟨p97, c97_4, rfl, hi97, hp97, hdf, hn97, H99, e100, e101, e102, h⟩ := hinv
   simp only at hdf hn97 H99 e100 e101 e102
   have n103 := zda (m := 20) (b := nx97) (by omega)
   have n104 := zoc (a := nx38) (m := 17) (b := nx97) (by omega)
   subst hdf hf97
   cases p97 with
   | nil =>
    have d105 : (decide (c97_4 < (List.length x0_s.Tins : Int))) = false := zam hi97 hp97
    simp only [zcc, zca, zcd, hs, reduceCtorEq] at h
    replace h := kG97 _ h
    try dsimp only at h
    try simp only [hs] at h
    simp only [vz, tyf, b48, d49, (zgs d49), d89, (zic d49), d96, g98, n103, n104, e100, e101, e102, H99, d105, nm, seval]
    exact ⟨p38, Nat.lt_succ_self _, by rw [hI38]; refine ⟨p38, c38_3 + 1, rfl, zmj hi38, zgg hp38, rfl, (show 20 ≤ nx97 + 8 by omega), ?_, e100, ?_, h⟩ <;> first | (simp only [ua, b48, d49, d89, d96, n103, n104, e100, e101, e102, H99, d105, nm, seval] <;> rfl) | rfl⟩
   | cons e97 p97 =>
    have d106 : (decide (c97_4 < (List.length x0_s.Tins : Int))) = true := zbp hi97 hp97
    have o108 := zaj hi97 hp97
    have w107 := zcm hi97 hp97 g98
    simp only [zcc, zca, zcd, hs, reduceCtorEq] at h
    rcases o110 : (zbo e97.Pigments.a1 99) with _ | r109
    ·simp only [o110, hs] at h
     exact absurd h kN97
    simp only [o110, hs] at h
    simp only [vz, tyf, b48, d49, (zgs d49), d89, (zic d49), d96, g98, n103, n104, e100, e101, e102, H99, d106, (ix26 o108), w107, (zmz d49), nm, seval]
    refine ktree (args0 := [.agg (cGSpan e97.Pigments.a1), .lit (.int .i64 99)]) (by first | (simp only [nrm, tynrm] <;> rfl) | rfl) (by simp only [tre, tytre, Bool.and_self]) (zdx _ _ _ o110) ?_
    refine zac (fun tm => tm 1 = .ptr 0 0 ∧ tm 3 = .lit (.int .i64 c38_3) ∧ tm 4 = .lit (.int .i64 c97_4) ∧ tm 55 = .lit (.bool r109) ∧ True) (by refine ⟨e100, e101, e102, ?_, trivial⟩ <;> first | (simp only [ua, b48, d49, d89, d96, n103, n104, e100, e101, e102, H99, d106, w107, nm, seval] <;> rfl) | rfl) ?_
    rintro tm ⟨e111, e112, e113, e114, _⟩
    have b115 := And.intro b48 (And.intro d49 (And.intro d89 (And.intro d96 (And.intro g98 (And.intro n103 (And.intro n104 (And.intro H99 (And.intro d106 w107))))))))
    cases d116 : (r109)
    ·simp only [d116, hs] at h
     try simp only [vz, tyf, b115, (zgs d49), (zic d49), (ix26 o108), (zmz d49), e111, e112, e113, e114, d116, nm, seval]
     replace h := kR97 _ h
     try dsimp only at h
     replace h := kR38 _ h
     try dsimp only at h
     obtain rfl := kF _ h
     exact zab Tryz.results20 rfl
    simp only [d116, hs] at h
    simp only [vz, tyf, b115, (zgs d49), (zic d49), (ix26 o108), (zmz d49), e111, e112, e113, e114, d116, nm, seval]
    exact ⟨List.length p97, Nat.lt_succ_self _, by rw [hI97]; refine ⟨p97, c97_4 + 1, rfl, Int.le_trans hi97 (Int.le_add_one (Int.le_refl _)), zay hi97 hp97, rfl, (show nx38 + 17 ≤ nx97 + 18 by omega), ?_, e111, e112, ?_, h⟩ <;> first | (simp only [ua, b115, e111, e112, e113, e114, d116, nm, seval] <;> rfl) | rfl⟩
  simp only [d47, hs] at h
  have b117 := And.intro d25 (And.intro d31 (And.intro d37 (And.intro g39 (And.intro n43 (And.intro H40 (And.intro d45 (And.intro w46 d47)))))))
  rcases o119 : (zav x0_s.Old.a0 0 99) with _ | r118
  ·simp only [o119, hs] at h
   exact absurd h kN38
  simp only [o119, hs] at h
  simp only [vz, tyf, b117, e41, e42, (zgr d47), nm, seval]
  refine ktree (args0 := [.lit (.int .i64 x0_s.Old.a0), .lit (.int .i64 0), .lit (.int .i64 99)]) (by first | (simp only [nrm, tynrm] <;> rfl) | rfl) (by simp only [tre, tytre, Bool.and_self]) (zbn _ _ _ _ o119) ?_
  refine zac (fun tm => tm 1 = .ptr 0 0 ∧ tm 3 = .lit (.int .i64 c38_3) ∧ tm 30 = .lit (.bool r118) ∧ True) (by refine ⟨e41, e42, ?_, trivial⟩ <;> first | (simp only [ua, b117, e41, e42, nm, seval] <;> rfl) | rfl) ?_
  rintro tm ⟨e120, e121, e122, _⟩
  cases d123 : (r118)
  ·simp only [d123, hs] at h
   try simp only [vz, tyf, b117, (zgr d47), e120, e121, e122, d123, nm, seval]
   replace h := kR38 _ h
   try dsimp only at h
   obtain rfl := kF _ h
   exact zab Tryz.results20 rfl
  simp only [d123, hs] at h
  rcases o125 : (zbo x0_s.Fade.a0 9) with _ | r124
  ·simp only [o125, hs] at h
   exact absurd h kN38
  simp only [o125, hs] at h
  simp only [vz, tyf, b117, (zgr d47), e120, e121, e122, d123, (zhz d47), nm, seval]
  refine ktree (args0 := [.agg (cGSpan x0_s.Fade.a0), .lit (.int .i64 9)]) (by first | (simp only [nrm, tynrm] <;> rfl) | rfl) (by simp only [tre, tytre, Bool.and_self]) (zdx _ _ _ o125) ?_
  refine zac (fun tm => tm 1 = .ptr 0 0 ∧ tm 3 = .lit (.int .i64 c38_3) ∧ tm 32 = .lit (.bool false) ∧ tm 37 = .lit (.bool r124) ∧ True) (by refine ⟨e120, e121, ?_, ?_, trivial⟩ <;> first | (simp only [ua, b117, e120, e121, e122, d123, nm, seval] <;> rfl) | rfl) ?_
  rintro tm ⟨e126, e127, e128, e129, _⟩
  cases d130 : (r124)
  ·simp only [d130, hs] at h
   try simp only [vz, tyf, b117, (zgr d47), d123, (zhz d47), e126, e127, e128, e129, d130, nm, seval]
   replace h := kR38 _ h
   try dsimp only at h
   obtain rfl := kF _ h
   exact zab Tryz.results20 rfl
  simp only [d130, hs] at h
  cases g132 : (lenOk x0_s.Tins)
  ·simp only [g132, hs] at h
   exact absurd h kN38
  simp only [g132, hs] at h
  simp only [vz, tyf, b117, (zgr d47), d123, (zhz d47), e126, e127, e128, e129, d130, g132, nm, seval]
  obtain ⟨K131, h, kR131, kG131, kB131, kN131⟩ := zbc h kN38
  obtain ⟨f131, hf131, h⟩ := call2 h
  obtain ⟨I131, hI131⟩ : ∃ I : Nat → St → Prop, I = (fun m st => ∃ (p131 : List GTintTin) (c131_4 : Int), m = List.length p131 ∧ 0 ≤ c131_4 ∧ List.drop (Int.toNat c131_4) x0_s.Tins = p131 ∧ st.df = [] ∧ nx38 + 17 ≤ st.nx ∧ st.H 0 = some (.cells (some 28) (cGTintSheet x0_s)) ∧ st.tm 1 = .ptr 0 0 ∧ st.tm 3 = .lit (.int .i64 c38_3) ∧ st.tm 4 = .lit (.int .i64 c131_4) ∧ K131 (f131 p131 c131_4)) := ⟨_, rfl⟩
  refine loopK mixed (by kernel_rfl) I131 (List.length x0_s.Tins) (by rw [hI131]; refine ⟨x0_s.Tins, 0, rfl, Int.le_refl _, rfl, rfl, (show nx38 + 17 ≤ nx38 + 17 by omega), ?_, e126, e127, ?_, h⟩ <;> first | (simp only [ua, b117, d123, e126, e127, e128, e129, d130, nm, seval] <;> rfl) | rfl) ?_
  rintro m ⟨tm, H, nx131, df⟩ hinv
  rw [hI131] at hinv
  obtain ⟨p131, c131_4, rfl, hi131, hp131, hdf, hn131, H133, e134, e135, e136, h⟩ := hinv
  simp only at hdf hn131 H133 e134 e135 e136
  have n137 := zda (m := 20) (b := nx131) (by omega)
  have n138 := zoc (a := nx38) (m := 17) (b := nx131) (by omega)
  subst hdf hf131
  cases p131 with
  | nil =>
   have d139 : (decide (c131_4 < (List.length x0_s.Tins : Int))) = false := zam hi131 hp131
   simp only [zcc, zca, zcd, hs, reduceCtorEq] at h
   replace h := kG131 _ h
   try dsimp only at h
   try simp only [hs] at h
   simp only [vz, tyf, b117, (zgr d47), d123, (zhz d47), d130, g132, n137, n138, e134, e135, e136, H133, d139, nm, seval]
   exact ⟨p38, Nat.lt_succ_self _, by rw [hI38]; refine ⟨p38, c38_3 + 1, rfl, zmj hi38, zgg hp38, rfl, (show 20 ≤ nx131 + 8 by omega), ?_, e134, ?_, h⟩ <;> first | (simp only [ua, b117, d123, d130, n137, n138, e134, e135, e136, H133, d139, nm, seval] <;> rfl) | rfl⟩
  | cons e131 p131 =>
   have d140 : (decide (c131_4 < (List.length x0_s.Tins : Int))) = true := zbp hi131 hp131
   have o142 := zaj hi131 hp131
   have w141 := zcm hi131 hp131 g132
   simp only [zcc, zca, zcd, hs, reduceCtorEq] at h
   rcases o144 : (zbo e131.Pigments.a0 99) with _ | r143
   ·simp only [o144, hs] at h
    exact absurd h kN131
   simp only [o144, hs] at h
   simp only [vz, tyf, b117, (zgr d47), d123, (zhz d47), d130, g132, n137, n138, e134, e135, e136, H133, d140, (ix26 o142), w141, (znc d47), nm, seval]
   refine ktree (args0 := [.agg (cGSpan e131.Pigments.a0), .lit (.int .i64 99)]) (by first | (simp only [nrm, tynrm] <;> rfl) | rfl) (by simp only [tre, tytre, Bool.and_self]) (zdx _ _ _ o144) ?_
   refine zac (fun tm => tm 1 = .ptr 0 0 ∧ tm 3 = .lit (.int .i64 c38_3) ∧ tm 4 = .lit (.int .i64 c131_4) ∧ tm 55 = .lit (.bool r143) ∧ True) (by refine ⟨e134, e135, e136, ?_, trivial⟩ <;> first | (simp only [ua, b117, d123, d130, n137, n138, e134, e135, e136, H133, d140, w141, nm, seval] <;> rfl) | rfl) ?_
   rintro tm ⟨e145, e146, e147, e148, _⟩
   have b149 := And.intro b117 (And.intro d123 (And.intro d130 (And.intro g132 (And.intro n137 (And.intro n138 (And.intro H133 (And.intro d140 w141)))))))
   cases d150 : (r143)
   ·simp only [d150, hs] at h
    try simp only [vz, tyf, b149, (zgr d47), (zhz d47), (ix26 o142), (znc d47), e145, e146, e147, e148, d150, nm, seval]
    replace h := kR131 _ h
    try dsimp only at h
    replace h := kR38 _ h
    try dsimp only at h
    obtain rfl := kF _ h
    exact zab Tryz.results20 rfl
   simp only [d150, hs] at h
   simp only [vz, tyf, b149, (zgr d47), (zhz d47), (ix26 o142), (znc d47), e145, e146, e147, e148, d150, nm, seval]
   exact ⟨List.length p131, Nat.lt_succ_self _, by rw [hI131]; refine ⟨p131, c131_4 + 1, rfl, Int.le_trans hi131 (Int.le_add_one (Int.le_refl _)), zay hi131 hp131, rfl, (show nx38 + 17 ≤ nx131 + 18 by omega), ?_, e145, e146, ?_, h⟩ <;> first | (simp only [ua, b149, e145, e146, e147, e148, d150, nm, seval] <;> rfl) | rfl⟩
end Go.V
end
section
namespace Go.V
open Go Go.Proofs
def zdo  : List Int → Int → Int → Option (LOut (Int) (Int))
 | [], c0_4, c0_3 => some (.go c0_3)
 | e0 :: p0, c0_4, c0_3 => zdo p0 (c0_4 + 1) (IntKind.i64.wrap (c0_3 + e0))
def zef (x0_mix : List Int) : Option (Int) := cond (lenOk x0_mix) (lbind (zdo x0_mix 0 0) (fun r2 => some r2) (fun c1 => some c1) (fun _ _ => none)) none
theorem zev (x0_mix : List Int) (R : Int) (h : zef x0_mix = some R) : VPure Tryz.prog G0 35 [.sl (cellsL eI x0_mix) (List.length x0_mix) false] (.tree (.lit (.int .i64 R))) := by
 refine VPure.runR mixed Tryz.call35 Tryz.func35 rfl (by simp [Tryz.ntmps35]; kernel_rfl) ?_
 obtain ⟨KF, h, kF, kN⟩ := zak h
 simp only [zef] at h
 cases g4 : (lenOk x0_mix)
 ·simp only [g4, hs] at h
  exact absurd h kN
 simp only [g4, hs] at h
 simp only [vz, tyf, g4, nm, seval]
 obtain ⟨K3, h, kR3, kG3, kB3, kN3⟩ := zbc h kN
 obtain ⟨f3, hf3, h⟩ := call3 h
 obtain ⟨I3, hI3⟩ : ∃ I : Nat → St → Prop, I = (fun m st => ∃ (p3 : List Int) (c3_4 : Int) (c3_3 : Int), m = List.length p3 ∧ 0 ≤ c3_4 ∧ List.drop (Int.toNat c3_4) x0_mix = p3 ∧ st.df = [] ∧ 3 ≤ st.nx ∧ st.tm 0 = .sl (cellsL eI x0_mix) (List.length x0_mix) false ∧ st.tm 3 = .lit (.int .i64 c3_3) ∧ st.tm 4 = .lit (.int .i64 c3_4) ∧ K3 (f3 p3 c3_4 c3_3)) := ⟨_, rfl⟩
 refine loopK mixed (by kernel_rfl) I3 (List.length x0_mix) (by rw [hI3]; refine ⟨x0_mix, 0, 0, rfl, Int.le_refl _, rfl, rfl, (show 3 ≤ 3 by omega), ?_, ?_, ?_, h⟩ <;> first | (simp only [ua, nm, seval] <;> rfl) | rfl) ?_
 rintro m ⟨tm, H, nx3, df⟩ hinv
 rw [hI3] at hinv
 obtain ⟨p3, c3_4, c3_3, rfl, hi3, hp3, hdf, hn3, e5, e6, e7, h⟩ := hinv
 simp only at hdf hn3 e5 e6 e7
 have n8 := zda (m := 3) (b := nx3) (by omega)
 subst hdf hf3
 cases p3 with
 | nil =>
  have d9 : (decide (c3_4 < (List.length x0_mix : Int))) = false := zam hi3 hp3
  simp only [zdo, hs, reduceCtorEq] at h
  replace h := kG3 _ h
  try dsimp only at h
  try simp only [hs] at h
  try simp only [vz, tyf, g4, n8, e5, e6, e7, d9, nm, seval]
  refine zaq (x := (.lit (.int .i64 c3_3))) (by first | (simp only [Tryz.results35, resV, resL, resV1, zat, zbs, uw, cr, tyf, g4, n8, d9, nm, seval] <;> rfl) | rfl) ?_
  obtain rfl := kF _ h
  refine zau ?_ ?_
  ·simp only [tre, tytre, Bool.and_self]
  ·first | (simp only [outV, uw, zae, cr, tyf, nrm, tynrm, g4, n8, e5, e6, e7, d9, nm, seval] <;> rfl) | rfl
 | cons e3 p3 =>
  have d10 : (decide (c3_4 < (List.length x0_mix : Int))) = true := zbp hi3 hp3
  have o12 := zaj hi3 hp3
  have w11 := zcm hi3 hp3 g4
  simp only [zdo, hs, reduceCtorEq] at h
  simp only [vz, tyf, g4, n8, e5, e6, e7, d10, (ix29 o12), w11, nm, seval]
  exact ⟨List.length p3, Nat.lt_succ_self _, by rw [hI3]; refine ⟨p3, c3_4 + 1, IntKind.i64.wrap (c3_3 + e3), rfl, Int.le_trans hi3 (Int.le_add_one (Int.le_refl _)), zay hi3 hp3, rfl, (show 3 ≤ nx3 + 14 by omega), e5, ?_, ?_, h⟩ <;> first | (simp only [ua, n8, e5, e6, e7, d10, w11, nm, seval] <;> rfl) | rfl⟩
end Go.V
end
section
namespace Go.V
open Go Go.Proofs
def zfb  : List Int → Int → Option (LOut (Bool) (Unit))
 | [], c0_5 => some (.go ())
 | e0 :: p0, c0_5 => Option.bind (zav e0 0 8) (fun r1 => cond (r1) (zfb p0 (c0_5 + 1)) (some (.ret false)))
def zfr (x0_s : GTintSheet) (x1_mix : List Int) : Option (Bool) := cond (lenOk x1_mix) (lbind (zfb x1_mix 0) (fun r5 => some r5) (fun c2 => cond ((List.length x1_mix : Int) == (List.length x0_s.Tins : Int)) (Option.bind (zef x1_mix) (fun r3 => Option.bind (zav r3 1 8) (fun r4 => some r4))) (some false)) (fun _ _ => none)) none
theorem zlh (x0_s : GTintSheet) (x1_mix : List Int) (R : Bool) (h : zfr x0_s x1_mix = some R) : VPure Tryz.prog G0 22 [.agg (cGTintSheet x0_s), .sl (cellsL eI x1_mix) (List.length x1_mix) false] (.tree (.lit (.bool R))) := by
 refine VPure.runR mixed Tryz.call22 Tryz.func22 rfl (by simp [Tryz.ntmps22]; kernel_rfl) ?_
 obtain ⟨KF, h, kF, kN⟩ := zak h
 simp only [zfr] at h
 cases g7 : (lenOk x1_mix)
 ·simp only [g7, hs] at h
  exact absurd h kN
 simp only [g7, hs] at h
 simp only [vz, tyf, g7, nm, seval]
 obtain ⟨K6, h, kR6, kG6, kB6, kN6⟩ := zbc h kN
 obtain ⟨f6, hf6, h⟩ := call2 h
 obtain ⟨I6, hI6⟩ : ∃ I : Nat → St → Prop, I = (fun m st => ∃ (p6 : List Int) (c6_5 : Int), m = List.length p6 ∧ 0 ≤ c6_5 ∧ List.drop (Int.toNat c6_5) x1_mix = p6 ∧ st.df = [] ∧ 3 ≤ st.nx ∧ st.H 0 = some (.cells (some 28) (cGTintSheet x0_s)) ∧ st.tm 1 = .sl (cellsL eI x1_mix) (List.length x1_mix) false ∧ st.tm 2 = .ptr 0 0 ∧ st.tm 5 = .lit (.int .i64 c6_5) ∧ K6 (f6 p6 c6_5)) := ⟨_, rfl⟩
 refine loopK mixed (by kernel_rfl) I6 (List.length x1_mix) (by rw [hI6]; refine ⟨x1_mix, 0, rfl, Int.le_refl _, rfl, rfl, (show 3 ≤ 3 by omega), ?_, ?_, ?_, ?_, h⟩ <;> first | (simp only [ua, nm, seval] <;> rfl) | rfl) ?_
 rintro m ⟨tm, H, nx6, df⟩ hinv
 rw [hI6] at hinv
 obtain ⟨p6, c6_5, rfl, hi6, hp6, hdf, hn6, H8, e9, e10, e11, h⟩ := hinv
 simp only at hdf hn6 H8 e9 e10 e11
 have n12 := zda (m := 3) (b := nx6) (by omega)
 subst hdf hf6
 cases p6 with
 | nil =>
  have d13 : (decide (c6_5 < (List.length x1_mix : Int))) = false := zam hi6 hp6
  simp only [zfb, hs, reduceCtorEq] at h
  replace h := kG6 _ h
  try dsimp only at h
  try simp only [hs] at h
  cases d14 : ((List.length x1_mix : Int) == (List.length x0_s.Tins : Int))
  ·simp only [d14, hs] at h
   try simp only [vz, tyf, g7, n12, e9, e10, e11, H8, d13, d14, nm, seval]
   obtain rfl := kF _ h
   exact zab Tryz.results22 rfl
  simp only [d14, hs] at h
  rcases o16 : (zef x1_mix) with _ | r15
  ·simp only [o16, hs] at h
   exact absurd h kN
  simp only [o16, hs] at h
  simp only [vz, tyf, g7, n12, e9, e10, e11, H8, d13, d14, nm, seval]
  refine ktree (args0 := [.sl (cellsL eI x1_mix) (List.length x1_mix) false]) (by first | (simp only [nrm, tynrm] <;> rfl) | rfl) (by simp only [tre, tytre, Bool.and_self]) (zev _ _ o16) ?_
  refine zac (fun tm => tm 24 = .lit (.bool true) ∧ tm 26 = .lit (.int .i64 r15) ∧ True) (by refine ⟨?_, ?_, trivial⟩ <;> first | (simp only [ua, n12, e9, e10, e11, H8, d13, d14, nm, seval] <;> rfl) | rfl) ?_
  rintro tm ⟨e17, e18, _⟩
  rcases o20 : (zav r15 1 8) with _ | r19
  ·simp only [o20, hs] at h
   exact absurd h kN
  simp only [o20, hs] at h
  simp only [vz, tyf, g7, n12, H8, d13, d14, e17, e18, nm, seval]
  refine ktree (args0 := [.lit (.int .i64 r15), .lit (.int .i64 1), .lit (.int .i64 8)]) (by first | (simp only [nrm, tynrm] <;> rfl) | rfl) (by simp only [tre, tytre, Bool.and_self]) (zbn _ _ _ _ o20) ?_
  refine zac (fun tm => tm 24 = .lit (.bool true) ∧ tm 27 = .lit (.bool r19) ∧ True) (by refine ⟨e17, ?_, trivial⟩ <;> first | (simp only [ua, n12, H8, d13, d14, e17, e18, nm, seval] <;> rfl) | rfl) ?_
  rintro tm ⟨e21, e22, _⟩
  try simp only [vz, tyf, g7, n12, H8, d13, d14, e21, e22, nm, seval]
  obtain rfl := kF _ h
  exact zab Tryz.results22 rfl
 | cons e6 p6 =>
  have d23 : (decide (c6_5 < (List.length x1_mix : Int))) = true := zbp hi6 hp6
  have o25 := zaj hi6 hp6
  have w24 := zcm hi6 hp6 g7
  simp only [zfb, hs, reduceCtorEq] at h
  rcases o27 : (zav e6 0 8) with _ | r26
  ·simp only [o27, hs] at h
   exact absurd h kN6
  simp only [o27, hs] at h
  simp only [vz, tyf, g7, n12, e9, e10, e11, H8, d23, (ix29 o25), w24, nm, seval]
  refine ktree (args0 := [.lit (.int .i64 e6), .lit (.int .i64 0), .lit (.int .i64 8)]) (by first | (simp only [nrm, tynrm] <;> rfl) | rfl) (by simp only [tre, tytre, Bool.and_self]) (zbn _ _ _ _ o27) ?_
  refine zac (fun tm => tm 1 = .sl (cellsL eI x1_mix) (List.length x1_mix) false ∧ tm 2 = .ptr 0 0 ∧ tm 5 = .lit (.int .i64 c6_5) ∧ tm 16 = .lit (.bool r26) ∧ True) (by refine ⟨e9, e10, e11, ?_, trivial⟩ <;> first | (simp only [ua, n12, e9, e10, e11, H8, d23, w24, nm, seval] <;> rfl) | rfl) ?_
  rintro tm ⟨e28, e29, e30, e31, _⟩
  cases d32 : (r26)
  ·simp only [d32, hs] at h
   try simp only [vz, tyf, g7, n12, H8, d23, (ix29 o25), w24, e28, e29, e30, e31, d32, nm, seval]
   replace h := kR6 _ h
   try dsimp only at h
   obtain rfl := kF _ h
   exact zab Tryz.results22 rfl
  simp only [d32, hs] at h
  simp only [vz, tyf, g7, n12, H8, d23, (ix29 o25), w24, e28, e29, e30, e31, d32, nm, seval]
  exact ⟨List.length p6, Nat.lt_succ_self _, by rw [hI6]; refine ⟨p6, c6_5 + 1, rfl, Int.le_trans hi6 (Int.le_add_one (Int.le_refl _)), zay hi6 hp6, rfl, (show 3 ≤ nx6 + 13 by omega), ?_, e28, e29, ?_, h⟩ <;> first | (simp only [ua, n12, H8, d23, w24, e28, e29, e30, e31, d32, nm, seval] <;> rfl) | rfl⟩
end Go.V
end
