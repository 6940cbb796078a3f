/- Part of a proof. -/
import Derived.Test.YtekhjalgmlflpaaGreatDoorXbh
set_option linter.all false
set_option maxRecDepth 4000
set_option maxHeartbeats 40000000
section
namespace Go.V
open Go Go.Proofs
def zar (x0_x : Gm) (r1 : Ga) : Nat → Int → (List (Gf × Bool)) → Option (LOut (List (Gf × Bool)) (Int × (List (Gf × Bool))))
 | 0, _, _ => none
 | k2 + 1, c2_6, c2_o0 => cond (decide (c2_6 ≤ x0_x.sh.Years.High)) (Option.bind (zbg x0_x c2_6 2 r1.a2) (fun r7 => zar x0_x r1 k2 (IntKind.i64.wrap (c2_6 + 1)) (mapSet q138 c2_o0 (Gf.mk 2 c2_6) r7))) (some (.go (c2_6, c2_o0)))
def zaq (x0_x : Gm) (r1 : Ga) : Nat → Int → (List (Gf × Bool)) → Option (LOut (List (Gf × Bool)) (Int × (List (Gf × Bool))))
 | 0, _, _ => none
 | k1 + 1, c1_6, c1_o0 => cond (decide (c1_6 ≤ x0_x.sh.Years.High)) (Option.bind (zbg x0_x c1_6 1 r1.a1) (fun r5 => zaq x0_x r1 k1 (IntKind.i64.wrap (c1_6 + 1)) (mapSet q138 c1_o0 (Gf.mk 1 c1_6) r5))) (some (.go (c1_6, c1_o0)))
def zap (x0_x : Gm) (r1 : Ga) : Nat → Int → (List (Gf × Bool)) → Option (LOut (List (Gf × Bool)) (Int × (List (Gf × Bool))))
 | 0, _, _ => none
 | k0 + 1, c0_6, c0_o0 => cond (decide (c0_6 ≤ x0_x.sh.Years.High)) (Option.bind (zbg x0_x c0_6 0 r1.a0) (fun r3 => zap x0_x r1 k0 (IntKind.i64.wrap (c0_6 + 1)) (mapSet q138 c0_o0 (Gf.mk 0 c0_6) r3))) (some (.go (c0_6, c0_o0)))
def zcv (x0_x : Gm) : Option (List (Gf × Bool)) := Option.bind (zdj x0_x) (fun r1 => lbind (zap x0_x r1 1000000 x0_x.sh.Years.Low ([] : List (Gf × Bool))) (fun r11 => some r11) (fun c4 => lbind (zaq x0_x r1 1000000 x0_x.sh.Years.Low c4.2) (fun r10 => some r10) (fun c6 => lbind (zar x0_x r1 1000000 x0_x.sh.Years.Low c6.2) (fun r9 => some r9) (fun c8 => some c8.2) (fun _ _ => none)) (fun _ _ => none)) (fun _ _ => none))
theorem zin (x0_x : Gm) (R : List (Gf × Bool)) (h : zcv x0_x = some R) : VPure Tryz.prog G0 103 [.agg (cGm x0_x)] (.tree (.mt (mtK kv138 R) (mtV ev4 R))) := by
 refine VPure.runM mixed Tryz.call103 Tryz.func103 rfl (by simp [Tryz.ntmps103]; kernel_rfl) ?_
 obtain ⟨KF, h, kF, kN⟩ := zan h
 simp only [zcv] at h
 obtain ⟨r12, o13, h⟩ := optI h kN
 try simp only [hs] at h
 simp only [vz, mq, mqm, tyf, mqt, nm, seval]
 refine ktree (args0 := [.agg (cGm x0_x)]) (by first | (simp only [nrm, tynrm, mqr] <;> rfl) | rfl) (by simp only [tre, tytre, mqr, Bool.and_self]) (zhg _ _ o13) ?_
 refine zab (fun tm => tm 1 = .ptr 0 0 ∧ tm 3 = .mp 2 ∧ tm 9 = .agg (cGa r12) ∧ True) (by refine ⟨?_, ?_, ?_, trivial⟩ <;> first | (simp only [ua, zcx, nm, seval] <;> rfl) | rfl) ?_
 rintro tm ⟨e14, e15, e16, _⟩
 simp only [vz, mq, mqm, tyf, mqt, e14, e15, e16, nm, seval]
 refine zfs mixed (by kernel_rfl) 4 ?_
 simp only [vz, mq, mqm, tyf, mqt, e14, e15, e16, nm, seval]
 obtain ⟨K17, h, kR17, kG17, kB17, kN17⟩ := zbh h kN
 obtain ⟨f17, hf17, h⟩ := call3 h
 obtain ⟨I17, hI17⟩ : ∃ I : Nat → St → Prop, I = (fun m st => ∃ (p17 : Nat) (c17_6 : Int) (c17_o0 : List (Gf × Bool)), p17 = m ∧ st.df = [] ∧ 18 ≤ st.nx ∧ st.H 0 = some (.cells (some 89) (cGm x0_x)) ∧ st.H 2 = some (.map (encM kv138 ev4 c17_o0)) ∧ st.H 10 = some (.cells (some 24) (cGSpan r12.a0)) ∧ st.tm 1 = .ptr 0 0 ∧ st.tm 3 = .mp 2 ∧ st.tm 4 = .lit (.int .i64 0) ∧ st.tm 5 = .ptr 10 0 ∧ st.tm 9 = .agg (cGa r12) ∧ st.tm 10 = .lit (.int .i64 0) ∧ st.tm 6 = .lit (.int .i64 c17_6) ∧ K17 (f17 p17 c17_6 c17_o0)) := ⟨_, rfl⟩
 refine loopK mixed (by kernel_rfl) I17 1000000 (by rw [hI17]; refine ⟨1000000, x0_x.sh.Years.Low, ([] : List (Gf × Bool)), rfl, rfl, (show 18 ≤ 18 by omega), ?_, ?_, ?_, e14, e15, ?_, ?_, e16, ?_, ?_, h⟩ <;> first | (simp only [ua, zcx, e14, e15, e16, nm, seval] <;> rfl) | rfl) ?_
 rintro m ⟨tm, H, nx17, df⟩ hinv
 rw [hI17] at hinv
 obtain ⟨p17, c17_6, c17_o0, rfl, hdf, hn17, H18, H19, H20, e21, e22, e23, e24, e25, e26, e27, h⟩ := hinv
 simp only at hdf hn17 H18 H19 H20 e21 e22 e23 e24 e25 e26 e27
 have n28 := zcw (m := 18) (b := nx17) (by omega)
 subst hdf hf17
 cases p17 with
 | zero =>
  simp only [zap, zaq, zar, hs, reduceCtorEq] at h
  exact absurd h kN17
 | succ p17 =>
  simp only [zap, zaq, zar, hs, reduceCtorEq] at h
  cases d29 : (decide (c17_6 ≤ x0_x.sh.Years.High))
  ·simp only [d29, hs] at h
   replace h := kG17 _ h
   try dsimp only at h
   try simp only [hs] at h
   simp only [vz, mq, mqm, tyf, mqt, n28, e21, e22, e23, e24, e25, e26, e27, H18, H19, H20, d29, nm, seval]
   obtain ⟨K30, h, kR30, kG30, kB30, kN30⟩ := zbh h kN
   obtain ⟨f30, hf30, h⟩ := call3 h
   obtain ⟨I30, hI30⟩ : ∃ I : Nat → St → Prop, I = (fun m st => ∃ (p30 : Nat) (c30_6 : Int) (c30_o0 : List (Gf × Bool)), p30 = m ∧ st.df = [] ∧ nx17 + 19 ≤ st.nx ∧ st.H 0 = some (.cells (some 89) (cGm x0_x)) ∧ st.H 2 = some (.map (encM kv138 ev4 c30_o0)) ∧ st.H (nx17 + 11) = some (.cells (some 24) (cGSpan r12.a1)) ∧ st.tm 1 = .ptr 0 0 ∧ st.tm 3 = .mp 2 ∧ st.tm 4 = .lit (.int .i64 1) ∧ st.tm 5 = .ptr (nx17 + 11) 0 ∧ st.tm 9 = .agg (cGa r12) ∧ st.tm 10 = .lit (.int .i64 1) ∧ st.tm 6 = .lit (.int .i64 c30_6) ∧ K30 (f30 p30 c30_6 c30_o0)) := ⟨_, rfl⟩
   refine loopK mixed (by kernel_rfl) I30 1000000 (by rw [hI30]; refine ⟨1000000, x0_x.sh.Years.Low, c17_o0, rfl, rfl, (show nx17 + 19 ≤ nx17 + 19 by omega), ?_, ?_, ?_, e21, e22, ?_, ?_, e25, ?_, ?_, h⟩ <;> first | (simp only [ua, zcx, n28, e21, e22, e23, e24, e25, e26, e27, H18, H19, H20, d29, nm, seval] <;> rfl) | rfl) ?_
   rintro m ⟨tm, H, nx30, df⟩ hinv
   rw [hI30] at hinv
   obtain ⟨p30, c30_6, c30_o0, rfl, hdf, hn30, H31, H32, H33, e34, e35, e36, e37, e38, e39, e40, h⟩ := hinv
   simp only at hdf hn30 H31 H32 H33 e34 e35 e36 e37 e38 e39 e40
   have n41 := zcw (m := 18) (b := nx30) (by omega)
   have n42 := zpw (a := nx17) (m := 19) (b := nx30) (by omega)
   subst hdf hf30
   cases p30 with
   | zero =>
    simp only [zap, zaq, zar, hs, reduceCtorEq] at h
    exact absurd h kN30
   | succ p30 =>
    simp only [zap, zaq, zar, hs, reduceCtorEq] at h
    cases d43 : (decide (c30_6 ≤ x0_x.sh.Years.High))
    ·simp only [d43, hs] at h
     have b44 := And.intro n28 (And.intro d29 (And.intro n41 (And.intro n42 (And.intro H31 (And.intro H32 (And.intro H33 d43))))))
     replace h := kG30 _ h
     try dsimp only at h
     try simp only [hs] at h
     simp only [vz, mq, mqm, tyf, mqt, b44, e34, e35, e36, e37, e38, e39, e40, nm, seval]
     obtain ⟨K45, h, kR45, kG45, kB45, kN45⟩ := zbh h kN
     obtain ⟨f45, hf45, h⟩ := call3 h
     obtain ⟨I45, hI45⟩ : ∃ I : Nat → St → Prop, I = (fun m st => ∃ (p45 : Nat) (c45_6 : Int) (c45_o0 : List (Gf × Bool)), p45 = m ∧ st.df = [] ∧ nx30 + 19 ≤ st.nx ∧ st.H 0 = some (.cells (some 89) (cGm x0_x)) ∧ st.H 2 = some (.map (encM kv138 ev4 c45_o0)) ∧ st.H (nx30 + 11) = some (.cells (some 24) (cGSpan r12.a2)) ∧ st.tm 1 = .ptr 0 0 ∧ st.tm 3 = .mp 2 ∧ st.tm 4 = .lit (.int .i64 2) ∧ st.tm 5 = .ptr (nx30 + 11) 0 ∧ st.tm 9 = .agg (cGa r12) ∧ st.tm 10 = .lit (.int .i64 2) ∧ st.tm 6 = .lit (.int .i64 c45_6) ∧ K45 (f45 p45 c45_6 c45_o0)) := ⟨_, rfl⟩
     refine loopK mixed (by kernel_rfl) I45 1000000 (by rw [hI45]; refine ⟨1000000, x0_x.sh.Years.Low, c30_o0, rfl, rfl, (show nx30 + 19 ≤ nx30 + 19 by omega), ?_, ?_, ?_, e34, e35, ?_, ?_, e38, ?_, ?_, h⟩ <;> first | (simp only [ua, zcx, b44, e34, e35, e36, e37, e38, e39, e40, nm, seval] <;> rfl) | rfl) ?_
     rintro m ⟨tm, H, nx45, df⟩ hinv
     rw [hI45] at hinv
     obtain ⟨p45, c45_6, c45_o0, rfl, hdf, hn45, H46, H47, H48, e49, e50, e51, e52, e53, e54, e55, h⟩ := hinv
     simp only at hdf hn45 H46 H47 H48 e49 e50 e51 e52 e53 e54 e55
     have n56 := zcw (m := 18) (b := nx45) (by omega)
     have n57 := zpw (a := nx17) (m := 19) (b := nx45) (by omega)
     have n58 := zpw (a := nx30) (m := 19) (b := nx45) (by omega)
     subst hdf hf45
     cases p45 with
     | zero =>
      simp only [zap, zaq, zar, hs, reduceCtorEq] at h
      exact absurd h kN45
     | succ p45 =>
      simp only [zap, zaq, zar, hs, reduceCtorEq] at h
      cases d59 : (decide (c45_6 ≤ x0_x.sh.Years.High))
      ·simp only [d59, hs] at h
       have b60 := And.intro b44 (And.intro n56 (And.intro n57 (And.intro n58 (And.intro H46 (And.intro H47 (And.intro H48 d59))))))
       replace h := kG45 _ h
       try dsimp only at h
       try simp only [hs] at h
       try simp only [vz, mq, mqm, tyf, mqt, b60, e49, e50, e51, e52, e53, e54, e55, nm, seval]
       refine zaw (x := (.mp 2)) (by first | (simp only [Tryz.results103, resV, resL, resV1, zba, zbz, uw, cr, tyf, mqt, b60, nm, seval] <;> rfl) | rfl) ?_
       obtain rfl := kF _ h
       refine zatw et4 ?_
       ·simp only [uw, zcx, cr, tyf, mqt, b60, e49, e50, e51, e52, e53, e54, e55, nm, seval] <;> rfl
      simp only [d59, hs] at h
      have b61 := And.intro b44 (And.intro n56 (And.intro n57 (And.intro n58 (And.intro H46 (And.intro H47 (And.intro H48 d59))))))
      obtain ⟨r62, o63, h⟩ := optI h kN45
      try simp only [hs] at h
      simp only [vz, mq, mqm, tyf, mqt, b61, e49, e50, e51, e52, e53, e54, e55, nm, seval]
      refine ktree (args0 := [.agg (cGm x0_x), .lit (.int .i64 c45_6), .lit (.int .i64 2), .agg (cGSpan r12.a2)]) (by first | (simp only [nrm, tynrm, mqr] <;> rfl) | rfl) (by simp only [tre, tytre, mqr, Bool.and_self]) (zcz _ _ _ _ _ o63) ?_
      refine zab (fun tm => tm 1 = .ptr 0 0 ∧ tm 3 = .mp 2 ∧ tm 4 = .lit (.int .i64 2) ∧ tm 5 = .ptr (nx30 + 11) 0 ∧ tm 6 = .lit (.int .i64 c45_6) ∧ tm 9 = .agg (cGa r12) ∧ tm 10 = .lit (.int .i64 2) ∧ tm 26 = .mp 2 ∧ tm 29 = .agg ([.lit (.int .i64 2)] ++ [.lit (.int .i64 c45_6)]) ∧ tm 34 = .lit (.bool r62) ∧ True) (by refine ⟨e49, e50, e51, e52, e55, e53, e54, ?_, ?_, ?_, trivial⟩ <;> first | (simp only [ua, zcx, b61, e49, e50, e51, e52, e53, e54, e55, nm, seval] <;> rfl) | rfl) ?_
      rintro tm ⟨e64, e65, e66, e67, e68, e69, e70, e71, e72, e73, _⟩
      have w74 := fun H => up135 (β := 2) c45_o0 (Gf.mk 2 c45_6) r62 H
      try simp only [zcx] at w74
      simp only [vz, mq, mqm, tyf, mqt, b61, e64, e65, e66, e67, e68, e69, e70, e71, e72, e73, w74, nm, seval]
      exact ⟨p45, Nat.lt_succ_self _, by rw [hI45]; refine ⟨p45, IntKind.i64.wrap (c45_6 + 1), (mapSet q138 c45_o0 (Gf.mk 2 c45_6) r62), rfl, rfl, (show nx30 + 19 ≤ nx45 + 19 by omega), ?_, ?_, ?_, e64, e65, e66, e67, e69, e70, ?_, h⟩ <;> first | (simp only [ua, zcx, b61, e64, e65, e66, e67, e68, e69, e70, e71, e72, e73, w74, nm, seval] <;> rfl) | rfl⟩
    simp only [d43, hs] at h
    have b75 := And.intro n28 (And.intro d29 (And.intro n41 (And.intro n42 (And.intro H31 (And.intro H32 (And.intro H33 d43))))))
    obtain ⟨r76, o77, h⟩ := optI h kN30
    try simp only [hs] at h
    simp only [vz, mq, mqm, tyf, mqt, b75, e34, e35, e36, e37, e38, e39, e40, nm, seval]
    refine ktree (args0 := [.agg (cGm x0_x), .lit (.int .i64 c30_6), .lit (.int .i64 1), .agg (cGSpan r12.a1)]) (by first | (simp only [nrm, tynrm, mqr] <;> rfl) | rfl) (by simp only [tre, tytre, mqr, Bool.and_self]) (zcz _ _ _ _ _ o77) ?_
    refine zab (fun tm => tm 1 = .ptr 0 0 ∧ tm 3 = .mp 2 ∧ tm 4 = .lit (.int .i64 1) ∧ tm 5 = .ptr (nx17 + 11) 0 ∧ tm 6 = .lit (.int .i64 c30_6) ∧ tm 9 = .agg (cGa r12) ∧ tm 10 = .lit (.int .i64 1) ∧ tm 26 = .mp 2 ∧ tm 29 = .agg ([.lit (.int .i64 1)] ++ [.lit (.int .i64 c30_6)]) ∧ tm 34 = .lit (.bool r76) ∧ True) (by refine ⟨e34, e35, e36, e37, e40, e38, e39, ?_, ?_, ?_, trivial⟩ <;> first | (simp only [ua, zcx, b75, e34, e35, e36, e37, e38, e39, e40, nm, seval] <;> rfl) | rfl) ?_
    rintro tm ⟨e78, e79, e80, e81, e82, e83, e84, e85, e86, e87, _⟩
    have w88 := fun H => up135 (β := 2) c30_o0 (Gf.mk 1 c30_6) r76 H
    try simp only [zcx] at w88
    simp only [vz, mq, mqm, tyf, mqt, b75, e78, e79, e80, e81, e82, e83, e84, e85, e86, e87, w88, nm, seval]
    exact ⟨p30, Nat.lt_succ_self _, by rw [hI30]; refine ⟨p30, IntKind.i64.wrap (c30_6 + 1), (mapSet q138 c30_o0 (Gf.mk 1 c30_6) r76), rfl, rfl, (show nx17 + 19 ≤ nx30 + 19 by omega), ?_, ?_, ?_, e78, e79, e80, e81, e83, e84, ?_, h⟩ <;> first | (simp only [ua, zcx, b75, e78, e79, e80, e81, e82, e83, e84, e85, e86, e87, w88, nm, seval] <;> rfl) | rfl⟩
  simp only [d29, hs] at h
  obtain ⟨r89, o90, h⟩ := optI h kN17
  try simp only [hs] at h
  simp only [vz, mq, mqm, tyf, mqt, n28, e21, e22, e23, e24, e25, e26, e27, H18, H19, H20, d29, nm, seval]
  refine ktree (args0 := [.agg (cGm x0_x), .lit (.int .i64 c17_6), .lit (.int .i64 0), .agg (cGSpan r12.a0)]) (by first | (simp only [nrm, tynrm, mqr] <;> rfl) | rfl) (by simp only [tre, tytre, mqr, Bool.and_self]) (zcz _ _ _ _ _ o90) ?_
  refine zab (fun tm => tm 1 = .ptr 0 0 ∧ tm 3 = .mp 2 ∧ tm 4 = .lit (.int .i64 0) ∧ tm 5 = .ptr 10 0 ∧ tm 6 = .lit (.int .i64 c17_6) ∧ tm 9 = .agg (cGa r12) ∧ tm 10 = .lit (.int .i64 0) ∧ tm 26 = .mp 2 ∧ tm 29 = .agg ([.lit (.int .i64 0)] ++ [.lit (.int .i64 c17_6)]) ∧ tm 34 = .lit (.bool r89) ∧ True) (by refine ⟨e21, e22, e23, e24, e27, e25, e26, ?_, ?_, ?_, trivial⟩ <;> first | (simp only [ua, zcx, n28, e21, e22, e23, e24, e25, e26, e27, H18, H19, H20, d29, nm, seval] <;> rfl) | rfl) ?_
  rintro tm ⟨e91, e92, e93, e94, e95, e96, e97, e98, e99, e100, _⟩
  have w101 := fun H => up135 (β := 2) c17_o0 (Gf.mk 0 c17_6) r89 H
  try simp only [zcx] at w101
  simp only [vz, mq, mqm, tyf, mqt, n28, H18, H19, H20, d29, e91, e92, e93, e94, e95, e96, e97, e98, e99, e100, w101, nm, seval]
  exact ⟨p17, Nat.lt_succ_self _, by rw [hI17]; refine ⟨p17, IntKind.i64.wrap (c17_6 + 1), (mapSet q138 c17_o0 (Gf.mk 0 c17_6) r89), rfl, rfl, (show 18 ≤ nx17 + 19 by omega), ?_, ?_, ?_, e91, e92, e93, e94, e96, e97, ?_, h⟩ <;> first | (simp only [ua, zcx, n28, H18, H19, H20, d29, e91, e92, e93, e94, e95, e96, e97, e98, e99, e100, w101, nm, seval] <;> rfl) | rfl⟩
def zat (x0_x : Gm) (r1 : List (Gf × Bool)) : Nat → (List Int) → Int → Option (LOut (List Int) ((List Int) × Int))
 | 0, _, _ => none
 | k0 + 1, c0_3, c0_5 => cond (decide (c0_5 ≤ x0_x.sh.Years.High)) (cond (mapGet q138 false r1 (Gf.mk 0 c0_5)) (cond (mapGet q138 false r1 (Gf.mk 1 c0_5)) (cond (mapGet q138 false r1 (Gf.mk 2 c0_5)) (cond (roomOk 8 (List.length (c0_3 ++ [c0_5]))) (zat x0_x r1 k0 (c0_3 ++ [c0_5]) (IntKind.i64.wrap (c0_5 + 1))) none) (zat x0_x r1 k0 c0_3 (IntKind.i64.wrap (c0_5 + 1)))) (zat x0_x r1 k0 c0_3 (IntKind.i64.wrap (c0_5 + 1)))) (zat x0_x r1 k0 c0_3 (IntKind.i64.wrap (c0_5 + 1)))) (some (.go (c0_3, c0_5)))
def zdw (x0_x : Gm) : Option (List Int) := Option.bind (zcv x0_x) (fun r1 => lbind (zat x0_x r1 1000000 ([] : List Int) x0_x.sh.Years.Low) (fun r3 => some r3) (fun c2 => some c2.1) (fun _ _ => none))
theorem zjz (x0_x : Gm) (R : List Int) (h : zdw x0_x = some R) : VPure Tryz.prog G0 70 [.agg (cGm x0_x)] (.tree (.sl (cellsL eI R) (List.length R) false)) := by
 refine VPure.runR mixed Tryz.call70 Tryz.func70 rfl (by simp [Tryz.ntmps70]; kernel_rfl) ?_
 obtain ⟨KF, h, kF, kN⟩ := zan h
 simp only [zdw] at h
 simp only [vz, mq, mqm, tyf, mqt, nm, seval]
 refine zwl mixed (by kernel_rfl) ?_
 obtain ⟨r4, o5, h⟩ := optI h kN
 try simp only [hs] at h
 simp only [vz, mq, mqm, tyf, mqt, nm, seval]
 refine ktree (args0 := [.agg (cGm x0_x)]) (by first | (simp only [nrm, tynrm, mqr] <;> rfl) | rfl) (by simp only [tre, tytre, mqr, Bool.and_self]) (zin _ _ o5) ?_
 refine zab (fun tm => tm 1 = .ptr 0 0 ∧ tm 3 = .lit (.slice none 0 0) ∧ tm 8 = .mt (mtK kv138 r4) (mtV ev4 r4) ∧ True) (by refine ⟨?_, ?_, ?_, trivial⟩ <;> first | (simp only [ua, zcx, nm, seval] <;> rfl) | rfl) ?_
 rintro tm ⟨e6, e7, e8, _⟩
 simp only [vz, mq, mqm, tyf, mqt, e6, e7, e8, nm, seval]
 obtain ⟨K9, h, kR9, kG9, kB9, kN9⟩ := zbh h kN
 obtain ⟨f9, hf9, h⟩ := call3 h
 obtain ⟨I9, hI9⟩ : ∃ I : Nat → St → Prop, I = (fun m st => ∃ (p9 : Nat) (c9_3 : List Int) (c9_5 : Int) (y9_0 : VV), p9 = m ∧ st.df = [] ∧ 11 ≤ st.nx ∧ st.H 0 = some (.cells (some 89) (cGm x0_x)) ∧ st.tm 1 = .ptr 0 0 ∧ st.tm 4 = .mt (mtK kv138 r4) (mtV ev4 r4) ∧ st.tm 3 = y9_0 ∧ st.tm 5 = .lit (.int .i64 c9_5) ∧ ((∃ (β : Nat) (el : Option TypeId), y9_0 = .ref β 0 (List.length c9_3) 1 (List.length c9_3) ∧ β < st.nx ∧ β ≠ 0 ∧ st.H β = some (.cells el (cellsL eI c9_3))) ∨ (y9_0 = .lit (.slice none 0 0) ∧ c9_3 = [])) ∧ K9 (f9 p9 c9_3 c9_5)) := ⟨_, rfl⟩
 refine loopK mixed (by kernel_rfl) I9 1000000 (by rw [hI9]; refine ⟨1000000, ([] : List Int), x0_x.sh.Years.Low, .lit (.slice none 0 0), rfl, rfl, (show 11 ≤ 11 by omega), ?_, e6, ?_, ?_, ?_, Or.inr ⟨rfl, rfl⟩, h⟩ <;> first | (simp only [ua, zcx, e6, e7, e8, nm, seval] <;> rfl) | rfl) ?_
 rintro m ⟨tm, H, nx9, df⟩ hinv
 rw [hI9] at hinv
 obtain ⟨p9, c9_3, c9_5, y9_0, rfl, hdf, hn9, H10, e11, e12, e13, e14, ow9_0, h⟩ := hinv
 simp only at hdf hn9 H10 e11 e12 e13 e14 ow9_0
 have n15 := zcw (m := 11) (b := nx9) (by omega)
 subst hdf hf9
 rcases ow9_0 with ⟨b9_0, el9_0, rfl, lq17, lq18, H16⟩ | ⟨rfl, rfl⟩
 ·have q17 := zann lq17
  have q18 := ne_f lq18
  cases p9 with
  | zero =>
   simp only [zat, hs, reduceCtorEq] at h
   exact absurd h kN9
  | succ p9 =>
   simp only [zat, hs, reduceCtorEq] at h
   cases d19 : (decide (c9_5 ≤ x0_x.sh.Years.High))
   ·simp only [d19, hs] at h
    replace h := kG9 _ h
    try dsimp only at h
    try simp only [hs] at h
    try simp only [vz, mq, mqm, tyf, mqt, n15, e11, e12, e13, e14, H10, q17, H16, q18, d19, nm, seval]
    refine zaw (x := (.ref b9_0 0 (List.length c9_3) 1 (List.length c9_3))) (by first | (simp only [Tryz.results70, resV, resL, resV1, zba, zbz, uw, cr, tyf, mqt, n15, H10, q17, H16, q18, d19, nm, seval] <;> rfl) | rfl) ?_
    obtain rfl := kF _ h
    refine zbb ?_ ?_
    ·simp only [tre, tytre, mqr, Bool.and_self]
    ·first | (simp only [outV, uw, zak, cr, tyf, mqt, nrm, tynrm, n15, e11, e12, e13, e14, H10, q17, H16, q18, d19, nm, seval] <;> rfl) | rfl
   simp only [d19, hs] at h
   simp only [vz, mq, mqm, tyf, mqt, n15, e11, e12, e13, e14, H10, q17, H16, q18, d19, nm, seval]
   refine zfs mixed (by kernel_rfl) 4 ?_
   cases d20 : (mapGet q138 false r4 (Gf.mk 0 c9_5))
   ·simp only [d20, hs] at h
    have b21 := And.intro n15 (And.intro H10 (And.intro q17 (And.intro H16 (And.intro q18 (And.intro d19 d20)))))
    simp only [vz, mq, mqm, tyf, mqt, b21, e11, e12, e13, e14, nm, seval]
    exact ⟨p9, Nat.lt_succ_self _, by rw [hI9]; refine ⟨p9, c9_3, IntKind.i64.wrap (c9_5 + 1), .ref b9_0 0 (List.length c9_3) 1 (List.length c9_3), rfl, rfl, (show 11 ≤ nx9 + 19 by omega), ?_, e11, e12, ?_, ?_, Or.inl ⟨b9_0, el9_0, rfl, (by first | omega | (simp only [nm, seval]; omega)), (by first | omega | (intro hh; simp only [b21, reduceCtorEq] at hh)), ?_⟩, h⟩ <;> first | (simp only [ua, zcx, b21, e11, e12, e13, e14, nm, seval] <;> rfl) | rfl⟩
   simp only [d20, hs] at h
   have b22 := And.intro n15 (And.intro H10 (And.intro q17 (And.intro H16 (And.intro q18 (And.intro d19 d20)))))
   cases d23 : (mapGet q138 false r4 (Gf.mk 1 c9_5))
   ·simp only [d23, hs] at h
    simp only [vz, mq, mqm, tyf, mqt, b22, e11, e12, e13, e14, d23, nm, seval]
    exact ⟨p9, Nat.lt_succ_self _, by rw [hI9]; refine ⟨p9, c9_3, IntKind.i64.wrap (c9_5 + 1), .ref b9_0 0 (List.length c9_3) 1 (List.length c9_3), rfl, rfl, (show 11 ≤ nx9 + 30 by omega), ?_, e11, e12, ?_, ?_, Or.inl ⟨b9_0, el9_0, rfl, (by first | omega | (simp only [nm, seval]; omega)), (by first | omega | (intro hh; simp only [b22, reduceCtorEq] at hh)), ?_⟩, h⟩ <;> first | (simp only [ua, zcx, b22, e11, e12, e13, e14, d23, nm, seval] <;> rfl) | rfl⟩
   simp only [d23, hs] at h
   cases d24 : (mapGet q138 false r4 (Gf.mk 2 c9_5))
   ·simp only [d24, hs] at h
    simp only [vz, mq, mqm, tyf, mqt, b22, e11, e12, e13, e14, d23, d24, nm, seval]
    exact ⟨p9, Nat.lt_succ_self _, by rw [hI9]; refine ⟨p9, c9_3, IntKind.i64.wrap (c9_5 + 1), .ref b9_0 0 (List.length c9_3) 1 (List.length c9_3), rfl, rfl, (show 11 ≤ nx9 + 41 by omega), ?_, e11, e12, ?_, ?_, Or.inl ⟨b9_0, el9_0, rfl, (by first | omega | (simp only [nm, seval]; omega)), (by first | omega | (intro hh; simp only [b22, reduceCtorEq] at hh)), ?_⟩, h⟩ <;> first | (simp only [ua, zcx, b22, e11, e12, e13, e14, d23, d24, nm, seval] <;> rfl) | rfl⟩
   simp only [d24, hs] at h
   cases g25 : (roomOk 8 (List.length (c9_3 ++ [c9_5])))
   ·simp only [g25, hs] at h
    exact absurd h kN9
   simp only [g25, hs] at h
   simp only [vz, mq, mqm, tyf, mqt, b22, e11, e12, e13, e14, d23, d24, g25, nm, seval]
   refine k_app (w := 1) (enc := eI) (xs := c9_3) (ys := ([c9_5])) (el := el9_0) (el2 := (some 3)) (fun _ => rfl) lf29 ao29 Tryz.underlying29 (by first | rfl | assumption | (simp only [zac, zas, et29, b22, nm, seval] <;> rfl) | (simp only [zac, zas, zge, zcp, zsg, zmf, tyf, mqt, b22, e11, e12, e13, e14, d23, d24, g25, nm, seval]; done)) (by first | rfl | assumption | (simp only [zac, zas, et29, b22, nm, seval] <;> rfl) | (simp only [zac, zas, zge, zcp, zsg, zmf, tyf, mqt, b22, e11, e12, e13, e14, d23, d24, g25, nm, seval]; done)) (Nat.zero_lt_succ _) g25 ?_
   simp only [vz, mq, mqm, tyf, mqt, b22, e11, e12, e13, e14, d23, d24, g25, nm, seval]
   exact ⟨p9, Nat.lt_succ_self _, by rw [hI9]; refine ⟨p9, (c9_3 ++ [c9_5]), IntKind.i64.wrap (c9_5 + 1), .ref (nx9 + 44) 0 (List.length (c9_3 ++ [c9_5])) 1 (List.length (c9_3 ++ [c9_5])), rfl, rfl, (show 11 ≤ nx9 + 49 by omega), ?_, e11, e12, ?_, ?_, Or.inl ⟨nx9 + 44, (sameEl el9_0 3), rfl, (by first | omega | (simp only [nm, seval]; omega)), (by first | omega | (intro hh; simp only [b22, reduceCtorEq] at hh)), ?_⟩, h⟩ <;> first | (simp only [ua, zcx, b22, e11, e12, e13, e14, d23, d24, nm, seval] <;> rfl) | rfl⟩
 ·cases p9 with
  | zero =>
   simp only [zat, hs, reduceCtorEq] at h
   exact absurd h kN9
  | succ p9 =>
   simp only [zat, hs, reduceCtorEq] at h
   cases d26 : (decide (c9_5 ≤ x0_x.sh.Years.High))
   ·simp only [d26, hs] at h
    replace h := kG9 _ h
    try dsimp only at h
    try simp only [hs] at h
    try simp only [vz, mq, mqm, tyf, mqt, n15, e11, e12, e13, e14, H10, d26, nm, seval]
    refine zaw (x := (.lit (.slice none 0 0))) (by first | (simp only [Tryz.results70, resV, resL, resV1, zba, zbz, uw, cr, tyf, mqt, n15, H10, d26, nm, seval] <;> rfl) | rfl) ?_
    obtain rfl := kF _ h
    refine zbb ?_ ?_
    ·simp only [tre, tytre, mqr, Bool.and_self]
    ·first | (simp only [outV, uw, zak, cr, tyf, mqt, nrm, tynrm, n15, e11, e12, e13, e14, H10, d26, nm, seval] <;> rfl) | rfl
   simp only [d26, hs] at h
   simp only [vz, mq, mqm, tyf, mqt, n15, e11, e12, e13, e14, H10, d26, nm, seval]
   refine zfs mixed (by kernel_rfl) 4 ?_
   cases d27 : (mapGet q138 false r4 (Gf.mk 0 c9_5))
   ·simp only [d27, hs] at h
    simp only [vz, mq, mqm, tyf, mqt, n15, e11, e12, e13, e14, H10, d26, d27, nm, seval]
    exact ⟨p9, Nat.lt_succ_self _, by rw [hI9]; refine ⟨p9, ([] : List Int), IntKind.i64.wrap (c9_5 + 1), .lit (.slice none 0 0), rfl, rfl, (show 11 ≤ nx9 + 19 by omega), ?_, e11, e12, ?_, ?_, Or.inr ⟨rfl, rfl⟩, h⟩ <;> first | (simp only [ua, zcx, n15, e11, e12, e13, e14, H10, d26, d27, nm, seval] <;> rfl) | rfl⟩
   simp only [d27, hs] at h
   cases d28 : (mapGet q138 false r4 (Gf.mk 1 c9_5))
   ·simp only [d28, hs] at h
    simp only [vz, mq, mqm, tyf, mqt, n15, e11, e12, e13, e14, H10, d26, d27, d28, nm, seval]
    exact ⟨p9, Nat.lt_succ_self _, by rw [hI9]; refine ⟨p9, ([] : List Int), IntKind.i64.wrap (c9_5 + 1), .lit (.slice none 0 0), rfl, rfl, (show 11 ≤ nx9 + 30 by omega), ?_, e11, e12, ?_, ?_, Or.inr ⟨rfl, rfl⟩, h⟩ <;> first | (simp only [ua, zcx, n15, e11, e12, e13, e14, H10, d26, d27, d28, nm, seval] <;> rfl) | rfl⟩
   simp only [d28, hs] at h
   cases d29 : (mapGet q138 false r4 (Gf.mk 2 c9_5))
   ·simp only [d29, hs] at h
    simp only [vz, mq, mqm, tyf, mqt, n15, e11, e12, e13, e14, H10, d26, d27, d28, d29, nm, seval]
    exact ⟨p9, Nat.lt_succ_self _, by rw [hI9]; refine ⟨p9, ([] : List Int), IntKind.i64.wrap (c9_5 + 1), .lit (.slice none 0 0), rfl, rfl, (show 11 ≤ nx9 + 41 by omega), ?_, e11, e12, ?_, ?_, Or.inr ⟨rfl, rfl⟩, h⟩ <;> first | (simp only [ua, zcx, n15, e11, e12, e13, e14, H10, d26, d27, d28, d29, nm, seval] <;> rfl) | rfl⟩
   simp only [d29, hs] at h
   cases g30 : (roomOk 8 (List.length (([] : List Int) ++ [c9_5])))
   ·simp only [g30, hs] at h
    exact absurd h kN9
   simp only [g30, hs] at h
   simp only [vz, mq, mqm, tyf, mqt, n15, e11, e12, e13, e14, H10, d26, d27, d28, d29, g30, nm, seval]
   refine zamr (w := 1) (enc := eI) (ys := ([c9_5])) (el2 := (some 3)) (fun _ => rfl) lf29 ao29 Tryz.underlying29 (by first | rfl | assumption | (simp only [zac, zas, et29, n15, H10, nm, seval] <;> rfl) | (simp only [zac, zas, zge, zcp, zsg, zmf, tyf, mqt, n15, e11, e12, e13, e14, H10, d26, d27, d28, d29, g30, nm, seval]; done)) (Nat.zero_lt_succ _) g30 ?_
   simp only [vz, mq, mqm, tyf, mqt, n15, e11, e12, e13, e14, H10, d26, d27, d28, d29, g30, nm, seval]
   exact ⟨p9, Nat.lt_succ_self _, by rw [hI9]; refine ⟨p9, (([] : List Int) ++ [c9_5]), IntKind.i64.wrap (c9_5 + 1), .ref (nx9 + 44) 0 (List.length (([] : List Int) ++ [c9_5])) 1 (List.length (([] : List Int) ++ [c9_5])), rfl, rfl, (show 11 ≤ nx9 + 49 by omega), ?_, e11, e12, ?_, ?_, Or.inl ⟨nx9 + 44, (some 3), rfl, (by first | omega | (simp only [nm, seval]; omega)), (by first | omega | (intro hh; simp only [n15, reduceCtorEq] at hh)), ?_⟩, h⟩ <;> first | (simp only [ua, zcx, n15, e11, e12, e13, e14, H10, d26, d27, d28, d29, nm, seval] <;> rfl) | rfl⟩
def zcf (x0_x : Gm) : Option (Bool) := Option.bind (zdw x0_x) (fun r1 => some (decide ((List.length r1 : Int) > 0)))
theorem zfx (x0_x : Gm) (R : Bool) (h : zcf x0_x = some R) : VPure Tryz.prog G0 69 [.agg (cGm x0_x)] (.tree (.lit (.bool R))) := by
 refine VPure.runR mixed Tryz.call69 Tryz.func69 rfl (by simp [Tryz.ntmps69]; kernel_rfl) ?_
 obtain ⟨KF, h, kF, kN⟩ := zan h
 simp only [zcf] at h
 obtain ⟨r2, o3, h⟩ := optI h kN
 try simp only [hs] at h
 simp only [vz, tyf, nm, seval]
 refine ktA (zjz _ _ o3) ?_
 refine zab (fun tm => tm 4 = .sl (cellsL eI r2) (List.length r2) false ∧ True) (by refine ⟨?_, trivial⟩ <;> first | (simp only [ua, nm, seval] <;> rfl) | rfl) ?_
 rintro tm ⟨e4, _⟩
 try simp only [vz, tyf, e4, nm, seval]
 obtain rfl := kF _ h
 exact zaa Tryz.results69 rfl
def zhu (x0_s : Gs) (x1_mix : List Int) : Option (Int × Int) := Option.bind (zbl x0_s) (fun r1 => cond (r1) (Option.bind (zdv x0_s x1_mix) (fun r2 => cond (r2) (Option.bind (zbn (Gm.mk x0_s x1_mix)) (fun r3 => cond (r3) (some (3, 0)) (Option.bind (zcf (Gm.mk x0_s x1_mix)) (fun r4 => cond (r4) (some (2, 0)) (some (1, 0)))))) (some (0, 2)))) (some (0, 2)))
theorem zqv (x0_s : Gs) (x1_mix : List Int) (R : Int × Int) (h : zhu x0_s x1_mix = some R) : VPure Tryz.prog G0 27 [.agg (cGs x0_s), .sl (cellsL eI x1_mix) (List.length x1_mix) false] (.tree (.tup [.lit (.int .i64 R.1), .lit (.int .i64 R.2)])) := by
 refine VPure.runR mixed Tryz.call27 Tryz.func27 rfl (by simp [Tryz.ntmps27]; kernel_rfl) ?_
 obtain ⟨KF, h, kF, kN⟩ := zan h
 simp only [zhu] at h
 obtain ⟨r5, o6, h⟩ := optI h kN
 try simp only [hs] at h
 simp only [vz, tyf, nm, seval]
 refine ktA (zct _ _ o6) ?_
 refine zab (fun tm => tm 1 = .sl (cellsL eI x1_mix) (List.length x1_mix) false ∧ tm 2 = .ptr 0 0 ∧ tm 8 = .lit (.bool r5) ∧ True) (by refine ⟨?_, ?_, ?_, trivial⟩ <;> first | (simp only [ua, nm, seval] <;> rfl) | rfl) ?_
 rintro tm ⟨e7, e8, e9, _⟩
 cases d10 : (r5)
 ·simp only [d10, hs] at h
  try simp only [vz, tyf, e7, e8, e9, d10, nm, seval]
  refine zaw (x := (.tup [.lit (.int .i64 0), .lit (.int .i64 2)])) (by first | (simp only [Tryz.results27, resV, resL, resV1, zba, zbz, uw, cr, tyf, d10, nm, seval] <;> rfl) | rfl) ?_
  obtain rfl := kF _ h
  refine zbb ?_ ?_
  ·simp only [tre, tytre, Bool.and_self]
  ·first | (simp only [outV, uw, zak, cr, tyf, nrm, tynrm, e7, e8, e9, d10, nm, seval] <;> rfl) | rfl
 simp only [d10, hs] at h
 obtain ⟨r11, o12, h⟩ := optI h kN
 try simp only [hs] at h
 simp only [vz, tyf, e7, e8, e9, d10, nm, seval]
 refine ktA (zjy _ _ _ o12) ?_
 refine zab (fun tm => tm 1 = .sl (cellsL eI x1_mix) (List.length x1_mix) false ∧ tm 2 = .ptr 0 0 ∧ tm 10 = .lit (.bool false) ∧ tm 13 = .lit (.bool r11) ∧ True) (by refine ⟨e7, e8, ?_, ?_, trivial⟩ <;> first | (simp only [ua, e7, e8, e9, d10, nm, seval] <;> rfl) | rfl) ?_
 rintro tm ⟨e13, e14, e15, e16, _⟩
 cases d17 : (r11)
 ·simp only [d17, hs] at h
  try simp only [vz, tyf, d10, e13, e14, e15, e16, d17, nm, seval]
  refine zaw (x := (.tup [.lit (.int .i64 0), .lit (.int .i64 2)])) (by first | (simp only [Tryz.results27, resV, resL, resV1, zba, zbz, uw, cr, tyf, d10, d17, nm, seval] <;> rfl) | rfl) ?_
  obtain rfl := kF _ h
  refine zbb ?_ ?_
  ·simp only [tre, tytre, Bool.and_self]
  ·first | (simp only [outV, uw, zak, cr, tyf, nrm, tynrm, d10, e13, e14, e15, e16, d17, nm, seval] <;> rfl) | rfl
 simp only [d17, hs] at h
 obtain ⟨r18, o19, h⟩ := optI h kN
 try simp only [hs] at h
 simp only [vz, tyf, d10, e13, e14, e15, e16, d17, nm, seval]
 refine ktA (zei _ _ o19) ?_
 refine zab (fun tm => tm 6 = .ptr 15 0 ∧ tm 21 = .lit (.bool r18) ∧ True) (by refine ⟨?_, ?_, trivial⟩ <;> first | (simp only [ua, d10, e13, e14, e15, e16, d17, nm, seval] <;> rfl) | rfl) ?_
 rintro tm ⟨e20, e21, _⟩
 cases d22 : (r18)
 ·simp only [d22, hs] at h
  obtain ⟨r23, o24, h⟩ := optI h kN
  try simp only [hs] at h
  simp only [vz, tyf, d10, d17, e20, e21, d22, nm, seval]
  refine ktA (zfx _ _ o24) ?_
  refine zab (fun tm => tm 24 = .lit (.bool r23) ∧ True) (by refine ⟨?_, trivial⟩ <;> first | (simp only [ua, d10, d17, e20, e21, d22, nm, seval] <;> rfl) | rfl) ?_
  rintro tm ⟨e25, _⟩
  cases d26 : (r23)
  ·simp only [d26, hs] at h
   try simp only [vz, tyf, d10, d17, d22, e25, d26, nm, seval]
   refine zaw (x := (.tup [.lit (.int .i64 1), .lit (.int .i64 0)])) (by first | (simp only [Tryz.results27, resV, resL, resV1, zba, zbz, uw, cr, tyf, d10, d17, d22, d26, nm, seval] <;> rfl) | rfl) ?_
   obtain rfl := kF _ h
   refine zbb ?_ ?_
   ·simp only [tre, tytre, Bool.and_self]
   ·first | (simp only [outV, uw, zak, cr, tyf, nrm, tynrm, d10, d17, d22, e25, d26, nm, seval] <;> rfl) | rfl
  simp only [d26, hs] at h
  try simp only [vz, tyf, d10, d17, d22, e25, d26, nm, seval]
  refine zaw (x := (.tup [.lit (.int .i64 2), .lit (.int .i64 0)])) (by first | (simp only [Tryz.results27, resV, resL, resV1, zba, zbz, uw, cr, tyf, d10, d17, d22, d26, nm, seval] <;> rfl) | rfl) ?_
  obtain rfl := kF _ h
  refine zbb ?_ ?_
  ·simp only [tre, tytre, Bool.and_self]
  ·first | (simp only [outV, uw, zak, cr, tyf, nrm, tynrm, d10, d17, d22, e25, d26, nm, seval] <;> rfl) | rfl
 simp only [d22, hs] at h
 try simp only [vz, tyf, d10, d17, e20, e21, d22, nm, seval]
 refine zaw (x := (.tup [.lit (.int .i64 3), .lit (.int .i64 0)])) (by first | (simp only [Tryz.results27, resV, resL, resV1, zba, zbz, uw, cr, tyf, d10, d17, d22, nm, seval] <;> rfl) | rfl) ?_
 obtain rfl := kF _ h
 refine zbb ?_ ?_
 ·simp only [tre, tytre, Bool.and_self]
 ·first | (simp only [outV, uw, zak, cr, tyf, nrm, tynrm, d10, d17, e20, e21, d22, nm, seval] <;> rfl) | rfl




end Go.V
end
section
namespace Go.V
open Go
def anyR (T : Int → Bool) : Nat → Int → Bool
 | 0, _ => false
 | k + 1, c => T c || anyR T k (c + 1)
theorem zacc {T : Int → Bool} : ∀ (k : Nat) (c : Int), anyR T k c = true ↔ ∃ f : Int, c ≤ f ∧ f < c + k ∧ T f = true
 | 0, c => by
  simp only [anyR, Bool.false_eq_true, false_iff]
  rintro ⟨f, h1, h2, _⟩
  omega
 | k + 1, c => by
  simp only [anyR, Bool.or_eq_true, zacc k (c + 1)]
  constructor
  ·rintro (h | ⟨f, h1, h2, h3⟩)
   ·exact ⟨c, by omega, by omega, h⟩
   ·exact ⟨f, by omega, by omega, h3⟩
  ·rintro ⟨f, h1, h2, h3⟩
   by_cases e : f = c
   ·subst e; exact .inl h3
   ·exact .inr ⟨f, by omega, by omega, h3⟩
def canT (s : Gs) (mix : List Int) (p : P3) (y f : Int) : Bool := decide (sumL mix * leftI (selI s.Old p) y f - sumL mix * s.Off ≤ (sumsP s mix p).High) && decide ((sumsP s mix p).Low ≤ sumL mix * leftI (selI s.Old p) y f + sumL mix * s.Off)
theorem can_b {s : Gs} (hs : ShOk s) {mix : List Int} (hm : MixOk s mix) (p : P3) {y f : Int} (hy : 0 ≤ y ∧ y ≤ 20) (hf : 0 ≤ f) : 0 ≤ sumL mix * leftI (selI s.Old p) y f ∧ sumL mix * leftI (selI s.Old p) y f ≤ 792 ∧ 0 ≤ sumL mix * s.Off ∧ sumL mix * s.Off ≤ 160 := by
 have h1 := hs.old p
 have h2 := zabx (y := y) (f := f) h1 hy.1 hf
 have h3 := hm.s
 have h4 := hs.off
 have h5 := mulR (a := sumL mix) (A := 8) (by omega) h3.2 h2.1 (show leftI (selI s.Old p) y f ≤ 99 by omega)
 have h6 := mulR (a := sumL mix) (A := 8) (b := s.Off) (B := 20) (by omega) h3.2 (by omega) (by omega)
 omega
theorem zapg {s : Gs} (hs : ShOk s) {mix : List Int} (hm : MixOk s mix) {y : Int} (hy : 0 ≤ y ∧ y ≤ 20) : ∀ (k fuel : Nat) (c : Int), k < fuel → 0 ≤ c → c + k = s.Fade.a0.High + 1 → zaf ⟨s, mix⟩ y (sumsP s mix .p0) (sumL mix) fuel c = cond (anyR (canT s mix .p0 y) k c) (some (.ret true)) (some (.go (c + k)))
 | 0, fuel + 1, c, _, h0, hc => by
  simp only [zaf]
  rw [decide_eq_false (by show ¬ c ≤ s.Fade.a0.High; omega)]
  simp [anyR]
 | k + 1, fuel + 1, c, hf, h0, hc => by
  have hfd := hs.fade .p0
  simp only [selS] at hfd
  have ih := zapg hs hm hy k fuel (c + 1) (by omega) (by omega) (by omega)
  have e1 := zsj (hs.old .p0) hy (show 0 ≤ c ∧ c ≤ 9 by omega)
  simp only [selI] at e1
  have hb := can_b hs hm .p0 hy (show 0 ≤ c by omega)
  simp only [selI] at hb
  have e2 : IntKind.i64.wrap (sumL mix * leftI s.Old.a0 y c) = sumL mix * leftI s.Old.a0 y c := zcj (by omega) (by omega)
  have e3 : IntKind.i64.wrap (sumL mix * s.Off) = sumL mix * s.Off := zcj (by omega) (by omega)
  have e4 : IntKind.i64.wrap (sumL mix * leftI s.Old.a0 y c - sumL mix * s.Off) = sumL mix * leftI s.Old.a0 y c - sumL mix * s.Off := zcj (by omega) (by omega)
  have e5 : IntKind.i64.wrap (sumL mix * leftI s.Old.a0 y c + sumL mix * s.Off) = sumL mix * leftI s.Old.a0 y c + sumL mix * s.Off := zcj (by omega) (by omega)
  have e6 : IntKind.i64.wrap (c + 1) = c + 1 := zcj (by omega) (by omega)
  have hT : canT s mix .p0 y c = (decide (sumL mix * leftI s.Old.a0 y c - sumL mix * s.Off ≤ (sumsP s mix .p0).High) && decide ((sumsP s mix .p0).Low ≤ sumL mix * leftI s.Old.a0 y c + sumL mix * s.Off)) := rfl
  simp only [zaf]
  rw [decide_eq_true (show c ≤ s.Fade.a0.High by omega), e1]
  simp only [Option.bind_some, cond_true, e2, e3, e4, e5, e6, ih, anyR, hT]
  rw [show c + 1 + (k : Int) = c + ((k + 1 : Nat) : Int) by omega]
  cases decide (sumL mix * leftI s.Old.a0 y c - sumL mix * s.Off ≤ (sumsP s mix .p0).High) <;> cases decide ((sumsP s mix .p0).Low ≤ sumL mix * leftI s.Old.a0 y c + sumL mix * s.Off) <;> rfl
 | _ , 0, _, hf, _, _ => by omega
theorem zanm {s : Gs} (hs : ShOk s) {mix : List Int} (hm : MixOk s mix) {y : Int} (hy : 0 ≤ y ∧ y ≤ 20) : ∀ (k fuel : Nat) (c : Int), k < fuel → 0 ≤ c → c + k = s.Fade.a1.High + 1 → zah ⟨s, mix⟩ y (sumsP s mix .p1) (sumL mix) fuel c = cond (anyR (canT s mix .p1 y) k c) (some (.ret true)) (some (.go (c + k)))
 | 0, fuel + 1, c, _, h0, hc => by
  simp only [zah]
  rw [decide_eq_false (by show ¬ c ≤ s.Fade.a1.High; omega)]
  simp [anyR]
 | k + 1, fuel + 1, c, hf, h0, hc => by
  have hfd := hs.fade .p1
  simp only [selS] at hfd
  have ih := zanm hs hm hy k fuel (c + 1) (by omega) (by omega) (by omega)
  have e1 := zsj (hs.old .p1) hy (show 0 ≤ c ∧ c ≤ 9 by omega)
  simp only [selI] at e1
  have hb := can_b hs hm .p1 hy (show 0 ≤ c by omega)
  simp only [selI] at hb
  have e2 : IntKind.i64.wrap (sumL mix * leftI s.Old.a1 y c) = sumL mix * leftI s.Old.a1 y c := zcj (by omega) (by omega)
  have e3 : IntKind.i64.wrap (sumL mix * s.Off) = sumL mix * s.Off := zcj (by omega) (by omega)
  have e4 : IntKind.i64.wrap (sumL mix * leftI s.Old.a1 y c - sumL mix * s.Off) = sumL mix * leftI s.Old.a1 y c - sumL mix * s.Off := zcj (by omega) (by omega)
  have e5 : IntKind.i64.wrap (sumL mix * leftI s.Old.a1 y c + sumL mix * s.Off) = sumL mix * leftI s.Old.a1 y c + sumL mix * s.Off := zcj (by omega) (by omega)
  have e6 : IntKind.i64.wrap (c + 1) = c + 1 := zcj (by omega) (by omega)
  have hT : canT s mix .p1 y c = (decide (sumL mix * leftI s.Old.a1 y c - sumL mix * s.Off ≤ (sumsP s mix .p1).High) && decide ((sumsP s mix .p1).Low ≤ sumL mix * leftI s.Old.a1 y c + sumL mix * s.Off)) := rfl
  simp only [zah]
  rw [decide_eq_true (show c ≤ s.Fade.a1.High by omega), e1]
  simp only [Option.bind_some, cond_true, e2, e3, e4, e5, e6, ih, anyR, hT]
  rw [show c + 1 + (k : Int) = c + ((k + 1 : Nat) : Int) by omega]
  cases decide (sumL mix * leftI s.Old.a1 y c - sumL mix * s.Off ≤ (sumsP s mix .p1).High) <;> cases decide ((sumsP s mix .p1).Low ≤ sumL mix * leftI s.Old.a1 y c + sumL mix * s.Off) <;> rfl
 | _ , 0, _, hf, _, _ => by omega
theorem zanh {s : Gs} (hs : ShOk s) {mix : List Int} (hm : MixOk s mix) {y : Int} (hy : 0 ≤ y ∧ y ≤ 20) : ∀ (k fuel : Nat) (c : Int), k < fuel → 0 ≤ c → c + k = s.Fade.a2.High + 1 → zag ⟨s, mix⟩ y (sumsP s mix .p2) (sumL mix) fuel c = cond (anyR (canT s mix .p2 y) k c) (some (.ret true)) (some (.go (c + k)))
 | 0, fuel + 1, c, _, h0, hc => by
  simp only [zag]
  rw [decide_eq_false (by show ¬ c ≤ s.Fade.a2.High; omega)]
  simp [anyR]
 | k + 1, fuel + 1, c, hf, h0, hc => by
  have hfd := hs.fade .p2
  simp only [selS] at hfd
  have ih := zanh hs hm hy k fuel (c + 1) (by omega) (by omega) (by omega)
  have e1 := zsj (hs.old .p2) hy (show 0 ≤ c ∧ c ≤ 9 by omega)
  simp only [selI] at e1
  have hb := can_b hs hm .p2 hy (show 0 ≤ c by omega)
  simp only [selI] at hb
  have e2 : IntKind.i64.wrap (sumL mix * leftI s.Old.a2 y c) = sumL mix * leftI s.Old.a2 y c := zcj (by omega) (by omega)
  have e3 : IntKind.i64.wrap (sumL mix * s.Off) = sumL mix * s.Off := zcj (by omega) (by omega)
  have e4 : IntKind.i64.wrap (sumL mix * leftI s.Old.a2 y c - sumL mix * s.Off) = sumL mix * leftI s.Old.a2 y c - sumL mix * s.Off := zcj (by omega) (by omega)
  have e5 : IntKind.i64.wrap (sumL mix * leftI s.Old.a2 y c + sumL mix * s.Off) = sumL mix * leftI s.Old.a2 y c + sumL mix * s.Off := zcj (by omega) (by omega)
  have e6 : IntKind.i64.wrap (c + 1) = c + 1 := zcj (by omega) (by omega)
  have hT : canT s mix .p2 y c = (decide (sumL mix * leftI s.Old.a2 y c - sumL mix * s.Off ≤ (sumsP s mix .p2).High) && decide ((sumsP s mix .p2).Low ≤ sumL mix * leftI s.Old.a2 y c + sumL mix * s.Off)) := rfl
  simp only [zag]
  rw [decide_eq_true (show c ≤ s.Fade.a2.High by omega), e1]
  simp only [Option.bind_some, cond_true, e2, e3, e4, e5, e6, ih, anyR, hT]
  rw [show c + 1 + (k : Int) = c + ((k + 1 : Nat) : Int) by omega]
  cases decide (sumL mix * leftI s.Old.a2 y c - sumL mix * s.Off ≤ (sumsP s mix .p2).High) <;> cases decide ((sumsP s mix .p2).Low ≤ sumL mix * leftI s.Old.a2 y c + sumL mix * s.Off) <;> rfl
 | _ , 0, _, hf, _, _ => by omega
def canB (s : Gs) (mix : List Int) (p : P3) (y : Int) : Bool := anyR (canT s mix p y) ((selS s.Fade p).High + 1 - (selS s.Fade p).Low).toNat (selS s.Fade p).Low
theorem zlu {s : Gs} (hs : ShOk s) {mix : List Int} (hm : MixOk s mix) (p : P3) {y : Int} (hy : 0 ≤ y ∧ y ≤ 20) : zbg ⟨s, mix⟩ y p.i (sumsP s mix p) = some (canB s mix p y) := by
 have f0 := hs.fade .p0
 have f1 := hs.fade .p1
 have f2 := hs.fade .p2
 simp only [selS] at f0 f1 f2
 unfold zbg canB
 rw [zacp hs hm]
 simp only [Option.bind_some]
 cases p <;> simp only [P3.i, Int.reduceBEq, cond_true, cond_false, selS]
 ·rw [zapg hs hm hy (s.Fade.a0.High + 1 - s.Fade.a0.Low).toNat 1000000 s.Fade.a0.Low (by omega) (by omega) (by omega)]
  cases anyR (canT s mix .p0 y) (s.Fade.a0.High + 1 - s.Fade.a0.Low).toNat s.Fade.a0.Low <;> rfl
 ·rw [zanm hs hm hy (s.Fade.a1.High + 1 - s.Fade.a1.Low).toNat 1000000 s.Fade.a1.Low (by omega) (by omega) (by omega)]
  cases anyR (canT s mix .p1 y) (s.Fade.a1.High + 1 - s.Fade.a1.Low).toNat s.Fade.a1.Low <;> rfl
 ·rw [zanh hs hm hy (s.Fade.a2.High + 1 - s.Fade.a2.Low).toNat 1000000 s.Fade.a2.Low (by omega) (by omega) (by omega)]
  cases anyR (canT s mix .p2 y) (s.Fade.a2.High + 1 - s.Fade.a2.Low).toNat s.Fade.a2.Low <;> rfl
def fillM (p : Int) (T : Int → Bool) : Nat → Int → List (Gf × Bool) → List (Gf × Bool)
 | 0, _, m => m
 | k + 1, c, m => fillM p T k (c + 1) (mapSet q138 m ⟨p, c⟩ (T c))
theorem zul (a b : Gf) : q138 a b = true ↔ a = b := by
 constructor
 ·exact hq138 a b
 ·rintro rfl
  simp [q138]
theorem zju (p : Int) (T : Int → Bool) : ∀ (k : Nat) (c : Int) (m : List (Gf × Bool)) (p' y : Int), mapGet q138 false (fillM p T k c m) ⟨p', y⟩ = if p' = p ∧ c ≤ y ∧ y < c + k then T y else mapGet q138 false m ⟨p', y⟩
 | 0, c, m, p', y => by
  rw [if_neg (by rintro ⟨_, h1, h2⟩; omega)]
  rfl
 | k + 1, c, m, p', y => by
  rw [fillM, zju p T k (c + 1), zadj zul]
  by_cases h1 : p' = p
  ·by_cases h2 : y = c
   ·subst h1 h2
    rw [if_neg (by rintro ⟨_, h1, _⟩; omega), if_pos (by simp [q138]), if_pos ⟨rfl, by omega, by omega⟩]
   ·have h3 : ¬ q138 ⟨p', y⟩ ⟨p, c⟩ = true := by
     rw [zul]
     intro e
     exact h2 (congrArg Gf.years e)
    rw [if_neg h3]
    by_cases h4 : c + 1 ≤ y ∧ y < c + 1 + k
    ·rw [if_pos ⟨h1, h4⟩, if_pos ⟨h1, by omega, by omega⟩]
    ·rw [if_neg (fun h => h4 h.2), if_neg (fun h => h4 ⟨by omega, by omega⟩)]
  ·have h3 : ¬ q138 ⟨p', y⟩ ⟨p, c⟩ = true := by
    rw [zul]
    intro e
    exact h1 (congrArg Gf.pigment e)
   rw [if_neg (fun h => h1 h.1), if_neg h3, if_neg (fun h => h1 h.1)]
theorem zpp {s : Gs} (hs : ShOk s) {mix : List Int} (hm : MixOk s mix) : ∀ (k fuel : Nat) (c : Int) (m : List (Gf × Bool)), k < fuel → 0 ≤ c → c + k = s.Years.High + 1 → zap ⟨s, mix⟩ (sumsS s mix) fuel c m = some (.go (c + k, fillM 0 (canB s mix .p0) k c m))
 | 0, fuel + 1, c, m, _, h0, hc => by
  simp only [zap]
  rw [decide_eq_false (by show ¬ c ≤ s.Years.High; omega)]
  simp [fillM]
 | k + 1, fuel + 1, c, m, hf, h0, hc => by
  have hyr := hs.yrs
  have ih := fun m => zpp hs hm k fuel (c + 1) m (by omega) (by omega) (by omega)
  have e1 := zlu hs hm .p0 (show 0 ≤ c ∧ c ≤ 20 by omega)
  rw [show P3.p0.i = 0 from rfl] at e1
  have e6 : IntKind.i64.wrap (c + 1) = c + 1 := zcj (by omega) (by omega)
  simp only [zap]
  rw [decide_eq_true (show c ≤ s.Years.High by omega), show (sumsS s mix).a0 = sumsP s mix .p0 from rfl, e1]
  simp only [Option.bind_some, cond_true, e6, ih, fillM]
  rw [show c + 1 + (k : Int) = c + ((k + 1 : Nat) : Int) by omega]
 | _ , 0, _, _, hf, _, _ => by omega
theorem zql {s : Gs} (hs : ShOk s) {mix : List Int} (hm : MixOk s mix) : ∀ (k fuel : Nat) (c : Int) (m : List (Gf × Bool)), k < fuel → 0 ≤ c → c + k = s.Years.High + 1 → zaq ⟨s, mix⟩ (sumsS s mix) fuel c m = some (.go (c + k, fillM 1 (canB s mix .p1) k c m))
 | 0, fuel + 1, c, m, _, h0, hc => by
  simp only [zaq]
  rw [decide_eq_false (by show ¬ c ≤ s.Years.High; omega)]
  simp [fillM]
 | k + 1, fuel + 1, c, m, hf, h0, hc => by
  have hyr := hs.yrs
  have ih := fun m => zql hs hm k fuel (c + 1) m (by omega) (by omega) (by omega)
  have e1 := zlu hs hm .p1 (show 0 ≤ c ∧ c ≤ 20 by omega)
  rw [show P3.p1.i = 1 from rfl] at e1
  have e6 : IntKind.i64.wrap (c + 1) = c + 1 := zcj (by omega) (by omega)
  simp only [zaq]
  rw [decide_eq_true (show c ≤ s.Years.High by omega), show (sumsS s mix).a1 = sumsP s mix .p1 from rfl, e1]
  simp only [Option.bind_some, cond_true, e6, ih, fillM]
  rw [show c + 1 + (k : Int) = c + ((k + 1 : Nat) : Int) by omega]
 | _ , 0, _, _, hf, _, _ => by omega
theorem zpq {s : Gs} (hs : ShOk s) {mix : List Int} (hm : MixOk s mix) : ∀ (k fuel : Nat) (c : Int) (m : List (Gf × Bool)), k < fuel → 0 ≤ c → c + k = s.Years.High + 1 → zar ⟨s, mix⟩ (sumsS s mix) fuel c m = some (.go (c + k, fillM 2 (canB s mix .p2) k c m))
 | 0, fuel + 1, c, m, _, h0, hc => by
  simp only [zar]
  rw [decide_eq_false (by show ¬ c ≤ s.Years.High; omega)]
  simp [fillM]
 | k + 1, fuel + 1, c, m, hf, h0, hc => by
  have hyr := hs.yrs
  have ih := fun m => zpq hs hm k fuel (c + 1) m (by omega) (by omega) (by omega)
  have e1 := zlu hs hm .p2 (show 0 ≤ c ∧ c ≤ 20 by omega)
  rw [show P3.p2.i = 2 from rfl] at e1
  have e6 : IntKind.i64.wrap (c + 1) = c + 1 := zcj (by omega) (by omega)
  simp only [zar]
  rw [decide_eq_true (show c ≤ s.Years.High by omega), show (sumsS s mix).a2 = sumsP s mix .p2 from rfl, e1]
  simp only [Option.bind_some, cond_true, e6, ih, fillM]
  rw [show c + 1 + (k : Int) = c + ((k + 1 : Nat) : Int) by omega]
 | _ , 0, _, _, hf, _, _ => by omega
def yrsN (s : Gs) : Nat := (s.Years.High + 1 - s.Years.Low).toNat
def mapM (s : Gs) (mix : List Int) : List (Gf × Bool) := fillM 2 (canB s mix .p2) (yrsN s) s.Years.Low (fillM 1 (canB s mix .p1) (yrsN s) s.Years.Low (fillM 0 (canB s mix .p0) (yrsN s) s.Years.Low []))
theorem zaal {s : Gs} (hs : ShOk s) {mix : List Int} (hm : MixOk s mix) : zcv ⟨s, mix⟩ = some (mapM s mix) := by
 have hy := hs.yrs
 have hk : s.Years.Low + (yrsN s : Int) = s.Years.High + 1 := by unfold yrsN; omega
 have hk2 : yrsN s < 1000000 := by unfold yrsN; omega
 unfold zcv
 rw [zaia hs hm]
 simp only [Option.bind_some, zpp hs hm (yrsN s) 1000000 _ _ hk2 hy.1 hk, zql hs hm (yrsN s) 1000000 _ _ hk2 hy.1 hk, zpq hs hm (yrsN s) 1000000 _ _ hk2 hy.1 hk, lbind]
 rfl
theorem zqr {s : Gs} {mix : List Int} (hs : ShOk s) (p : P3) {y : Int} (hy : s.Years.Low ≤ y ∧ y ≤ s.Years.High) : mapGet q138 false (mapM s mix) ⟨p.i, y⟩ = canB s mix p y := by
 have hk : s.Years.Low + (yrsN s : Int) = s.Years.High + 1 := by have := hs.yrs; unfold yrsN; omega
 unfold mapM
 rw [zju, zju, zju]
 cases p <;> simp only [P3.i]
 ·rw [if_neg (by rintro ⟨h, _⟩; omega), if_neg (by rintro ⟨h, _⟩; omega), if_pos ⟨trivial, by omega, by omega⟩]
 ·rw [if_neg (by rintro ⟨h, _⟩; omega), if_pos ⟨trivial, by omega, by omega⟩]
 ·rw [if_pos ⟨trivial, by omega, by omega⟩]
def allC (s : Gs) (mix : List Int) (y : Int) : Bool := canB s mix .p0 y && (canB s mix .p1 y && canB s mix .p2 y)
def yL (A : Int → Bool) : Nat → Int → List Int
 | 0, _ => []
 | k + 1, c => cond (A c) (c :: yL A k (c + 1)) (yL A k (c + 1))
theorem zakp {A : Int → Bool} {y : Int} : ∀ (k : Nat) (c : Int), y ∈ yL A k c ↔ c ≤ y ∧ y < c + k ∧ A y = true
 | 0, c => by simp only [yL, List.not_mem_nil, false_iff]; omega
 | k + 1, c => by
  simp only [yL]
  cases h : A c with
  | true =>
   simp only [cond_true, List.mem_cons, zakp k (c + 1)]
   constructor
   ·rintro (rfl | ⟨h1, h2, h3⟩)
    ·exact ⟨by omega, by omega, h⟩
    ·exact ⟨by omega, by omega, h3⟩
   ·rintro ⟨h1, h2, h3⟩
    by_cases e : y = c
    ·exact .inl e
    ·exact .inr ⟨by omega, by omega, h3⟩
  | false =>
   simp only [cond_false, zakp k (c + 1)]
   constructor
   ·rintro ⟨h1, h2, h3⟩
    exact ⟨by omega, by omega, h3⟩
   ·rintro ⟨h1, h2, h3⟩
    by_cases e : y = c
    ·subst e; rw [h] at h3; cases h3
    ·exact ⟨by omega, by omega, h3⟩
theorem zadw {s : Gs} (hs : ShOk s) {mix : List Int} : ∀ (k fuel : Nat) (c : Int) (acc : List Int), k < fuel → s.Years.Low ≤ c → c + k = s.Years.High + 1 → acc.length + k ≤ 1000 → zat ⟨s, mix⟩ (mapM s mix) fuel acc c = some (.go (acc ++ yL (allC s mix) k c, c + k))
 | 0, fuel + 1, c, acc, _, h0, hc, _ => by
  simp only [zat]
  rw [decide_eq_false (by show ¬ c ≤ s.Years.High; omega)]
  simp [yL]
 | k + 1, fuel + 1, c, acc, hf, h0, hc, hl => by
  have hyr := hs.yrs
  have ih := fun acc hl => zadw (mix := mix) hs k fuel (c + 1) acc (by omega) (by omega) (by omega) hl
  have g0 := zqr (mix := mix) hs .p0 (y := c) ⟨h0, by omega⟩
  have g1 := zqr (mix := mix) hs .p1 (y := c) ⟨h0, by omega⟩
  have g2 := zqr (mix := mix) hs .p2 (y := c) ⟨h0, by omega⟩
  simp only [P3.i] at g0 g1 g2
  have e6 : IntKind.i64.wrap (c + 1) = c + 1 := zcj (by omega) (by omega)
  have hr : roomOk 8 (List.length (acc ++ [c])) = true := by
   unfold roomOk
   simp only [List.length_append, List.length_cons, List.length_nil, decide_eq_true_eq]
   omega
  have i1 := ih (acc ++ [c]) (by simp only [List.length_append, List.length_cons, List.length_nil]; omega)
  have i2 := ih acc (by omega)
  simp only [zat]
  rw [decide_eq_true (show c ≤ s.Years.High by omega), g0, g1, g2, e6, hr, i1, i2]
  simp only [cond_true, yL, allC]
  rw [show c + 1 + (k : Int) = c + ((k + 1 : Nat) : Int) by omega]
  cases canB s mix .p0 c <;> cases canB s mix .p1 c <;> cases canB s mix .p2 c <;> simp
 | _ , 0, _, _, hf, _, _, _ => by omega
def yearsL (s : Gs) (mix : List Int) : List Int := yL (allC s mix) (yrsN s) s.Years.Low
theorem zakm {s : Gs} (hs : ShOk s) {mix : List Int} (hm : MixOk s mix) : zdw ⟨s, mix⟩ = some (yearsL s mix) := by
 have hy := hs.yrs
 have hk : s.Years.Low + (yrsN s : Int) = s.Years.High + 1 := by unfold yrsN; omega
 have hk2 : yrsN s ≤ 900 := by unfold yrsN; omega
 unfold zdw
 rw [zaal hs hm]
 simp only [Option.bind_some, zadw hs (yrsN s) 1000000 _ [] (by omega) (Int.le_refl _) hk (by simp only [List.length_nil]; omega), lbind]
 rfl
theorem zpj {s : Gs} (hs : ShOk s) {mix : List Int} (hm : MixOk s mix) : zcf ⟨s, mix⟩ = some (!(yearsL s mix).isEmpty) := by
 unfold zcf
 rw [zakm hs hm, Option.bind_some]
 cases yearsL s mix with
 | nil => rfl
 | cons a l =>
  rw [decide_eq_true (by show ((a :: l).length : Int) > 0; simp only [List.length_cons]; omega)]
  rfl
def wordI (s : Gs) (mix : List Int) : Int := cond (surelyB s mix) 3 (cond (!(yearsL s mix).isEmpty) 2 1)
theorem zaoi {s : Gs} (h : lenOk s.Tins = true) (mix : List Int) : zhu s mix = some (cond (sheetB s && mixB s mix) (wordI s mix, 0) (0, 2)) := by
 unfold zhu
 rw [zkx h]
 cases hb : sheetB s with
 | false => rfl
 | true =>
  have hs := ShOk.of hb
  simp only [Option.bind_some, cond_true, zajf hs, Bool.true_and]
  cases hx : mixB s mix with
  | false => rfl
  | true =>
   have hm := MixOk.of hx
   simp only [cond_true, zyc hs hm, zpj hs hm, Option.bind_some, wordI]
   cases surelyB s mix <;> cases (yearsL s mix).isEmpty <;> rfl
end Go.V
end
section
namespace Go.V
open Go Go.Proofs
def zex (xs : List Int) : Option (List Int) := cond (neB xs) (cond (roomOk 8 xs.length) (some xs) none) none
theorem zka (xs R : List Int) (h : zex xs = some R) : VPure Tryz.prog G0 140 [.sl (cellsL eI xs) xs.length false] (.own (cellsL eI R) R.length 1) := by
 unfold zex at h
 cases hn : neB xs with
 | false => rw [hn] at h; cases h
 | true =>
 cases hr : roomOk 8 xs.length with
 | false => rw [hn, hr] at h; cases h
 | true =>
 rw [hn, hr] at h
 simp only [cond_true, Option.some.injEq] at h
 subst h
 have hc : cellsL eI xs ≠ [] := by
  cases xs with
  | nil => cases hn
  | cons a l => intro hh; cases hh
 have hnil : ∀ (H : Nat → Option VObj) (x y : Operand), binV Tryz.prog H .eql 29 x y (.sl (cellsL eI xs) xs.length false) (.lit (.slice none 0 0)) = some (.lit (.bool false)) := fun H x y => zaec Tryz.underlying29 hc
 have hb : vbuildSlice Tryz.prog 29 0 [] = some ([], 1) := by kernel_rfl
 refine VPure.run mixed Tryz.call140 Tryz.func140 rfl (by simp [Tryz.ntmps140]; kernel_rfl) ?_
 simp only [vz, tyf, hnil, hb, List.map_nil, seval]
 refine zara (w := 1) (enc := eI) (xs := ([] : List Int)) (ys := xs) (el := some 3) (fun _ => rfl) lf29 ao29 Tryz.underlying29 rfl hn (by rw [List.nil_append]; exact hr) ?_
 simp only [vz, tyf, List.nil_append, seval]
 refine ⟨rfl, .ref 5 0 xs.length 1 xs.length, by simp [Tryz.results140, resV, resL, resV1, upd], (cellsL eI xs).length + 1, 5, _, cellsL eI xs, ⟨_, rfl⟩, by simp only [zac, zas, seval] <;> rfl, zir _ _ (eI_ok.treeL xs) (Nat.lt_succ_self _)⟩
def ExtOk (β y e : Nat) (mc : List VV) (mf : Nat) (ln lim : Nat) (may : List Int → Int → Option Bool) (I : Inv) (d : Nat) : Prop :=
 ∀ (p : List Int) (rest : List VV) (L : List (List Int)) (Fr : Nat → Prop) (H : Nat → Option VObj) (nx : Nat), p.length + d = ln → listsO may lim d p = some L → (∀ γ, Fr γ → γ < nx) → Fr y → Fr e → H y = some (.cells (some 184) [.yl β]) →
  H e = some (.cells (some 184) [.fn (.func 139) [] [.tp [.lit (.int .i64 ln)], .ptr y 0, .tp [.lit (.int .i64 lim)], .tp [.fn (.func mf) [] mc], .ptr e 0]]) →
  I (some (L.map (vx eI) ++ rest)) Fr H nx →
  VOpen Tryz.prog G0 139 [vx eI p, .tp [.lit (.int .i64 ln)], .ptr y 0, .tp [.lit (.int .i64 lim)], .tp [.fn (.func mf) [] mc], .ptr e 0] H nx
   (fun v H' nx' => ∃ b, v = .lit (.bool b) ∧ nx ≤ nx' ∧ (∀ γ, Fr γ → H' γ = H γ) ∧ I (if b then some rest else none) Fr H' nx') (fun _ _ _ => False)
theorem argsTm6 {a b c e f g : VV} : argsTm [a, b, c, e, f, g] = upd (upd (upd (upd (upd (upd (fun _ => .lit undef) 0 a) 1 b) 2 c) 3 e) 4 f) 5 g := by
 funext t; rcases t with _ | _ | _ | _ | _ | _ | t <;> simp [argsTm, upd]
theorem zaih {P : Program} {t e : Nat} {H : Nat → Option VObj} (hu : P.underlying t = some (.slice e)) : ∀ {p : List Int}, vlen P H t (vx eI p) = some (.lit (.int .i64 p.length))
 | [] => by simp [vlen, vx, hu, sls]
 | _ :: _ => by simp [vlen, vx, hu, sls]
theorem zahc : VPure Tryz.prog G0 140 [.lit (.slice none 0 0)] (.tree (.lit (.slice none 0 0))) := by
 have hnil : ∀ (H : Nat → Option VObj) (x y : Operand), binV Tryz.prog H .eql 29 x y (.lit (.slice none 0 0)) (.lit (.slice none 0 0)) = some (.lit (.bool true)) := fun H x y => by kernel_rfl
 refine VPure.run mixed Tryz.call140 Tryz.func140 rfl (by simp [Tryz.ntmps140]; kernel_rfl) ?_
 simp only [vz, tyf, hnil, seval, ua]
 exact ⟨rfl, .lit (.slice none 0 0), by simp [Tryz.results140, resV, resL, resV1, upd], 1, rfl⟩
theorem zasx {β y e : Nat} {mc : List VV} {mf ln lim : Nat} {may : List Int → Int → Option Bool} {I : Inv} (hst : Stable I) (hr : Rounds Tryz.prog G0 β I) (htm : treeL mc = true) (hln0 : 0 < ln) (hln : ln < 1000) (hlim : lim < 1000000)
  (hm : ∀ (p : List Int) (j : Int) (b : Bool), may p j = some b → VPure Tryz.prog G0 mf (.sl (cellsL eI p) p.length false :: .lit (.int .i64 j) :: mc) (.tree (.lit (.bool b)))) : ∀ d, ExtOk β y e mc mf ln lim may I d := by
 intro d
 induction d with
 | zero =>
  intro p rest L Fr H nx hd hL hF hFy hFe hy he hI
  simp only [listsO, Option.some.injEq] at hL
  subst hL
  refine VOpen.run mixed Tryz.call139 Tryz.func139 rfl (by simp [Tryz.ntmps139]; kernel_rfl) ?_
  have hl := fun H => zaih (P := Tryz.prog) (H := H) Tryz.underlying29 (p := p)
  have hq : ((p.length : Int) == (ln : Int)) = true := by rw [show p.length = ln from hd]; simp
  simp only [argsTm6, vz, tyf, seval, ua, hl, hq, hy, rg]
  have hI9 : I (some (vx eI p :: rest)) Fr H (nx + 9) := hst _ _ _ _ _ _ _ hI (fun _ _ _ => rfl) (by omega) (fun γ h => .inl h)
  refine (hr (vx eI p) rest Fr H (nx + 9) (fun γ h => by have := hF γ h; omega) hI9) (some none) _ _ _ rfl rfl ?_
  rintro b H' nx' ⟨h1, h2, h3⟩
  simp only [vz, tyf, seval, ua]
  exact zaw (x := .lit (.bool b)) (by simp [Tryz.results139, resV, resL, resV1, upd]) ⟨b, rfl, by omega, h2, h3⟩
 | succ d ih =>
  intro p rest L Fr H nx hd hL hF hFy hFe hy he hI
  rw [listsO] at hL
  refine VOpen.run mixed Tryz.call139 Tryz.func139 rfl (by simp [Tryz.ntmps139]; kernel_rfl) ?_
  have hl := fun H => zaih (P := Tryz.prog) (H := H) Tryz.underlying29 (p := p)
  have hq : ((p.length : Int) == (ln : Int)) = false := by rw [← hd]; simp; omega
  simp only [argsTm6, vz, tyf, seval, ua, hl, hq, hy, rg]
  obtain ⟨J, hJ⟩ : ∃ J : Nat → St → Prop, J = (fun m st => ∃ j : Nat, j + m = lim ∧ st.df = [] ∧ nx ≤ st.nx ∧ (∀ γ, Fr γ → st.H γ = H γ) ∧
   (∃ L, goL (listsO may lim d) may p (List.range' j m) = some L ∧ I (some (L.map (vx eI) ++ rest)) Fr st.H st.nx) ∧
   st.tm 0 = vx eI p ∧ st.tm 4 = .tp [.fn (.func mf) [] mc] ∧ st.tm 5 = .ptr e 0 ∧ st.tm 16 = .lit (.int .i64 lim) ∧ st.tm 17 = .lit (.int .i64 j)) := ⟨_, rfl⟩
  refine loopK mixed (by kernel_rfl) J lim (by rw [hJ]; refine ⟨0, by omega, rfl, ?_, fun _ _ => rfl, ⟨L, hL, hst _ _ _ _ _ _ _ hI (fun _ _ _ => rfl) ?_ (fun γ h => .inl h)⟩, ?_, ?_, ?_, ?_, ?_⟩ <;> first | rfl | (simp only; omega)) ?_
  rintro m ⟨tm, H1, nx1, df⟩ hinv
  rw [hJ] at hinv
  obtain ⟨j, hj, hdf, hn, hF1, ⟨L1, hL1, hI1⟩, e0, e4, e5, e16, e17⟩ := hinv
  simp only at hdf hn hF1 hI1 e0 e4 e5 e16 e17
  subst hdf
  cases m with
  | zero =>
   have hd1 : decide ((j : Int) < (lim : Int)) = false := by simp; omega
   simp only [vz, tyf, seval, ua, e16, e17, hd1]
   refine zaw (x := .lit (.bool true)) (by simp [Tryz.results139, resV, resL, resV1, upd]) ⟨true, rfl, by omega, hF1, ?_⟩
   simp only [List.range'_zero, goL, Option.some.injEq] at hL1
   subst hL1
   exact hst _ _ _ _ _ _ _ hI1 (fun _ _ _ => rfl) (by omega) (fun γ h => .inl h)
  | succ m =>
   have hd1 : decide ((j : Int) < (lim : Int)) = true := by simp; omega
   simp only [vz, tyf, seval, ua, e16, e17, hd1, e0, e4, e5]
   refine zlx (fun tm => tm 0 = vx eI p ∧ tm 4 = .tp [.fn (.func mf) [] mc] ∧ tm 5 = .ptr e 0 ∧ tm 8 = .lit (.int .i64 j) ∧ tm 16 = .lit (.int .i64 lim) ∧ tm 17 = .lit (.int .i64 j)) (by refine ⟨?_, ?_, ?_, ?_, ?_, ?_⟩ <;> simp only [ua, seval, e0, e4, e5, e16, e17]) ?_
   clear e0 e4 e5 e16 e17 tm
   rintro tm ⟨e0, e4, e5, e8, e16, e17⟩
   refine zyo mixed 11 rfl rfl rfl (by kernel_rfl) ?_
   rw [List.range'_succ] at hL1
   unfold goL at hL1
   rcases hmb : may p (j : Int) with _ | mb
   ·rw [hmb] at hL1; cases hL1
   rw [hmb, Option.bind_some] at hL1
   have hmay' : VPure Tryz.prog G0 mf (vx eI p :: .lit (.int .i64 j) :: mc) (.tree (.lit (.bool mb))) := VPure.weaken (by
    rintro c W vs ⟨u, us, rfl, h1, h2⟩
    exact ⟨u, us, rfl, zatc h1, h2⟩) (hm p j mb hmb)
   simp only [vz, tyf, seval, ua, e0, e4, e5, e8, e16, e17, rg]
   refine .inl ⟨by simp only [zhd, zaob eI_ok, zvj, htm, Bool.and_self], .tree _, hmay', ?_⟩
   have hw : IntKind.i64.wrap ((j : Int) + 1) = ((j + 1 : Nat) : Int) := by rw [IntWalk.i64_in _ (by omega)]; simp
   have he1 : H1 e = _ := (hF1 e hFe).trans he
   have hy1 : H1 y = _ := (hF1 y hFy).trans hy
   have hen : e < nx1 := Nat.lt_of_lt_of_le (hF e hFe) hn
   have hyn : y < nx1 := Nat.lt_of_lt_of_le (hF y hFy) hn
   cases mb with
   | false =>
    rw [cond_false] at hL1
    simp only [vz, tyf, seval, ua, e0, e4, e5, e8, e16, e17, rg, hw]
    rw [hJ]
    exact ⟨m, Nat.lt_succ_self _, j + 1, by omega, rfl, (by show nx ≤ nx1 + 19; omega), hF1, ⟨L1, hL1, hst _ _ _ _ _ _ _ hI1 (fun _ _ _ => rfl) (by show nx1 ≤ nx1 + 19; omega) (fun γ h => .inl h)⟩, by simp only [ua, seval, e0], by simp only [ua, seval, e4], by simp only [ua, seval, e5], by simp only [ua, seval, e16], by simp only [ua, seval]⟩
   | true =>
    rw [cond_true] at hL1
    rcases hLa : listsO may lim d (p ++ [(j : Int)]) with _ | La
    ·rw [hLa] at hL1; cases hL1
    rw [hLa, Option.bind_some] at hL1
    rcases hLr : goL (listsO may lim d) may p (List.range' (j + 1) m) with _ | Lr
    ·rw [hLr] at hL1; cases hL1
    rw [hLr, Option.bind_some, Option.some.injEq] at hL1
    subst hL1
    rw [List.map_append, List.append_assoc] at hI1
    have hv : vx eI (p ++ [(j : Int)]) = .sl (cellsL eI (p ++ [(j : Int)])) (p ++ [(j : Int)]).length false := zabb (by simp)
    have hroom : roomOk 8 (p ++ [(j : Int)]).length = true := by
     unfold roomOk
     simp only [List.length_append, List.length_cons, List.length_nil, decide_eq_true_eq]
     omega
    simp only [vz, tyf, seval, ua, e0, e4, e5, e8, e16, e17, rg, he1]
    rcases hpc : p with _ | ⟨p0, pt⟩
    ·subst hpc
     refine .inl ⟨rfl, .tree _, zahc, ?_⟩
     simp only [vz, tyf, seval, ua, e0, e4, e5, e8, e16, e17, rg, he1]
     have hroom1 : roomOk 8 ([] ++ [(j : Int)]).length = true := rfl
     refine zamr (w := 1) (enc := eI) (ys := [(j : Int)]) (el2 := some 3) (fun _ => rfl) lf29 ao29 Tryz.underlying29 (by simp only [ua, nm, seval]; rfl) (Nat.zero_lt_succ _) hroom1 ?_
     simp only [vz, tyf, seval, ua, nm, e0, e4, e5, e8, e16, e17, rg, he1]
     refine zel ⟨?_, ?_⟩
     ·simp only [zcs, zdp, zbi, zfr, and_true, true_and]
      repeat' (first | exact trivial | refine And.intro ?_ ?_ | rw [zbi] | rw [zej] | exact Or.inl (by decide +kernel) | exact Or.inl (by dsimp only; decide +kernel) | (refine Or.inr ⟨?_, ?_⟩ <;> simp; done) | (refine Or.inr ⟨?_, ?_⟩ <;> simp <;> omega) | (refine Or.inr ⟨?_, ?_⟩ <;> simp [VEff.wr] <;> omega))
     simp only [vz, tyf, seval, ua, e0, e4, e5, e8, e16, e17, rg, he1]
     refine kopen ?_
     rw [zrl]
     have hcell : (updH (updH H1 (nx1 + 12) (VObj.cells (some 3) [VV.lit (Value.int IntKind.i64 ↑j)])) (nx1 + 13) (VObj.cells (some 3) (cellsL eI ([] ++ [(j : Int)])))) (nx1 + 13) = some (.cells (some 3) (cellsL eI ([] ++ [(j : Int)]))) := by simp only [ua, seval]
     have hbig : ∀ γ, γ < nx1 → without (updH (updH H1 (nx1 + 12) (VObj.cells (some 3) [VV.lit (Value.int IntKind.i64 ↑j)])) (nx1 + 13) (VObj.cells (some 3) (cellsL eI ([] ++ [(j : Int)])))) (nx1 + 13) γ = H1 γ := by
      intro γ h
      simp only [updH, without]
      repeat rw [if_neg (by omega)]
     refine VOpen.mono (VOpen.freeze1 (γ := nx1 + 13) hcell (args' := [vx eI ([] ++ [(j : Int)]), .tp [.lit (.int .i64 ln)], .ptr y 0, .tp [.lit (.int .i64 lim)], .tp [.fn (.func mf) [] mc], .ptr e 0]) ⟨by rw [hv]; exact Frozen.own hcell (eI_ok.treeL _) (by rw [zcg (w := 1) (fun _ => rfl)]), FrozenL.same⟩ (ih ([] ++ [(j : Int)]) _ La Fr _ _ (by simp at hd ⊢; omega) hLa (fun γ h => by have := hF γ h; omega) hFy hFe ((hbig y hyn).trans hy1) ((hbig e hen).trans he1) (hst _ _ _ _ _ _ _ hI1 (fun γ h _ => hbig γ h) (by omega) (fun γ h => .inl h)))) ?_ (fun _ _ _ h => h.elim)
     rintro v H2 nx2 ⟨b, rfl, h1, h2, h3⟩
     have hF2 : ∀ γ, Fr γ → H2 γ = H γ := fun γ h => by rw [h2 γ h, hbig γ (Nat.lt_of_lt_of_le (hF γ h) hn), hF1 γ h]
     simp only [vz, tyf, seval, ua, e0, e4, e5, e8, e16, e17, rg, he1]
     cases b with
     | false =>
      simp only [vz, tyf, seval, ua, Bool.not_false]
      refine zaw (x := .lit (.bool false)) (by simp [Tryz.results139, resV, resL, resV1, upd]) ⟨false, rfl, by omega, hF2, ?_⟩
      exact hst _ _ _ _ _ _ _ h3 (fun _ _ _ => rfl) (by omega) (fun γ h => .inl h)
     | true =>
      simp only [vz, tyf, seval, ua, Bool.not_true, hw]
      simp only [if_true] at h3
      rw [hJ]
      exact ⟨m, Nat.lt_succ_self _, j + 1, by omega, rfl, (by show nx ≤ nx2 + 2; omega), hF2, ⟨Lr, hLr, hst _ _ _ _ _ _ _ h3 (fun _ _ _ => rfl) (by show nx2 ≤ nx2 + 2; omega) (fun γ h => .inl h)⟩, by simp only [ua, seval, e0], by simp only [ua, seval, e4], by simp only [ua, seval, e5], by simp only [ua, seval, e16], by simp only [ua, seval]⟩
    rw [← hpc]
    have hne : p ≠ [] := by rw [hpc]; simp
    have hvp : vx eI p = .sl (cellsL eI p) p.length false := zabb hne
    rw [hvp]
    have hcl : zex p = some p := by
     unfold zex
     have h1 : neB p = true := by rw [hpc]; rfl
     have h2 : roomOk 8 p.length = true := by
      unfold roomOk at hroom ⊢
      simp only [List.length_append, List.length_cons, List.length_nil, decide_eq_true_eq] at hroom ⊢
      omega
     rw [h1, h2]; rfl
    refine dkown (args0 := [.sl (cellsL eI p) p.length false]) (by first | (simp only [nrm, tynrm]; done) | (simp only [nrm, tynrm]; rfl) | rfl) (by simp only [tre, tytre, Bool.and_self]) (zka _ _ hcl) ?_
    simp only [vz, tyf, seval, ua, e0, e4, e5, e8, e16, e17, rg, he1]
    refine k_app (w := 1) (enc := eI) (xs := p) (ys := [(j : Int)]) (el := none) (el2 := some 3) (fun _ => rfl) lf29 ao29 Tryz.underlying29 (by simp only [ua, nm, seval]) (by simp only [ua, nm, seval]; rfl) (Nat.zero_lt_succ _) hroom ?_
    simp only [vz, tyf, seval, ua, nm, e0, e4, e5, e8, e16, e17, rg, he1]
    refine zel ⟨?_, ?_⟩
    ·simp only [zcs, zdp, zbi, zfr, and_true, true_and]
     repeat' (first | exact trivial | refine And.intro ?_ ?_ | rw [zbi] | rw [zej] | exact Or.inl (by decide +kernel) | exact Or.inl (by dsimp only; decide +kernel) | (refine Or.inr ⟨?_, ?_⟩ <;> simp; done) | (refine Or.inr ⟨?_, ?_⟩ <;> simp <;> omega) | (refine Or.inr ⟨?_, ?_⟩ <;> simp [VEff.wr] <;> omega))
    simp only [vz, tyf, seval, ua, e0, e4, e5, e8, e16, e17, rg, he1]
    refine kopen ?_
    rw [zrl]
    have hcell : (updH (without (updH (updH H1 (nx1 + 10) (VObj.cells none (cellsL eI p))) (nx1 + 12) (VObj.cells (some 3) [VV.lit (Value.int IntKind.i64 ↑j)])) (nx1 + 10)) (nx1 + 13) (VObj.cells (sameEl none 3) (cellsL eI (p ++ [(j : Int)])))) (nx1 + 13) = some (.cells (sameEl none 3) (cellsL eI (p ++ [(j : Int)]))) := by simp only [ua, seval]
    have hbig : ∀ γ, γ < nx1 → without (updH (without (updH (updH H1 (nx1 + 10) (VObj.cells none (cellsL eI p))) (nx1 + 12) (VObj.cells (some 3) [VV.lit (Value.int IntKind.i64 ↑j)])) (nx1 + 10)) (nx1 + 13) (VObj.cells (sameEl none 3) (cellsL eI (p ++ [(j : Int)])))) (nx1 + 13) γ = H1 γ := by
     intro γ h
     simp only [updH, without]
     repeat rw [if_neg (by omega)]
    refine VOpen.mono (VOpen.freeze1 (γ := nx1 + 13) hcell (args' := [vx eI (p ++ [(j : Int)]), .tp [.lit (.int .i64 ln)], .ptr y 0, .tp [.lit (.int .i64 lim)], .tp [.fn (.func mf) [] mc], .ptr e 0]) ⟨by rw [hv]; exact Frozen.own hcell (eI_ok.treeL _) (by rw [zcg (w := 1) (fun _ => rfl)]), FrozenL.same⟩ (ih (p ++ [(j : Int)]) _ La Fr _ _ (by simp; omega) hLa (fun γ h => by have := hF γ h; omega) hFy hFe ((hbig y hyn).trans hy1) ((hbig e hen).trans he1) (hst _ _ _ _ _ _ _ hI1 (fun γ h _ => hbig γ h) (by omega) (fun γ h => .inl h)))) ?_ (fun _ _ _ h => h.elim)
    rintro v H2 nx2 ⟨b, rfl, h1, h2, h3⟩
    have hF2 : ∀ γ, Fr γ → H2 γ = H γ := fun γ h => by rw [h2 γ h, hbig γ (Nat.lt_of_lt_of_le (hF γ h) hn), hF1 γ h]
    simp only [vz, tyf, seval, ua, e0, e4, e5, e8, e16, e17, rg, he1]
    cases b with
    | false =>
     simp only [vz, tyf, seval, ua, Bool.not_false]
     refine zaw (x := .lit (.bool false)) (by simp [Tryz.results139, resV, resL, resV1, upd]) ⟨false, rfl, by omega, hF2, ?_⟩
     exact hst _ _ _ _ _ _ _ h3 (fun _ _ _ => rfl) (by omega) (fun γ h => .inl h)
    | true =>
     simp only [vz, tyf, seval, ua, Bool.not_true, hw]
     simp only [if_true] at h3
     rw [hJ]
     exact ⟨m, Nat.lt_succ_self _, j + 1, by omega, rfl, (by show nx ≤ nx2 + 2; omega), hF2, ⟨Lr, hLr, hst _ _ _ _ _ _ _ h3 (fun _ _ _ => rfl) (by show nx2 ≤ nx2 + 2; omega) (fun γ h => .inl h)⟩, by simp only [ua, seval, e0], by simp only [ua, seval, e4], by simp only [ua, seval, e5], by simp only [ua, seval, e16], by simp only [ua, seval]⟩
theorem zsf {mc : List VV} {mf ln lim : Nat} {may : List Int → Int → Option Bool} {L : List (List Int)} (htm : treeL mc = true) (hln0 : 0 < ln) (hln : ln < 1000) (hlim : lim < 1000000)
  (hL : listsO may lim ln [] = some L) (hm : ∀ (p : List Int) (j : Int) (b : Bool), may p j = some b → VPure Tryz.prog G0 mf (.sl (cellsL eI p) p.length false :: .lit (.int .i64 j) :: mc) (.tree (.lit (.bool b)))) :
  Iter Tryz.prog G0 (.fn (.func 138) [] [.tp [.lit (.int .i64 ln)], .tp [.lit (.int .i64 lim)], .tp [.fn (.func mf) [] mc]]) (L.map sI) := by
 rw [← zarq (fun q hq hn => by have := zso _ _ _ hL q hq; rw [hn] at this; simp at this; omega)]
 refine ⟨138, [], _, rfl, fun β I hst hr H nx hβ hI => ?_⟩
 refine VOpen.run mixed Tryz.call138 Tryz.func138 rfl (by simp [Tryz.ntmps138]; kernel_rfl) ?_
 simp only [List.nil_append, List.cons_append, argsTm4, vz, tyf, seval, ua, rg]
 refine kopen ?_
 rw [zrl]
 refine VOpen.mono (zasx hst hr htm hln0 hln hlim hm ln [] [] L (fun γ => γ = nx + 0 ∨ γ = nx + 1) _ _ (by simp) hL (by rintro γ (rfl | rfl) <;> omega) (.inl rfl) (.inr rfl) (by simp [updH]) (by simp [updH]) ?_) ?_ (fun _ _ _ h => h.elim)
 ·rw [List.append_nil]
  refine hst _ _ _ _ _ _ _ hI ?_ (by omega) (by rintro γ (rfl | rfl) <;> right <;> omega)
  intro γ h _
  simp only [updH]
  repeat rw [if_neg (by omega)]
 rintro v H2 nx2 ⟨b, rfl, h1, h2, h3⟩
 simp only [vz, tyf, seval, ua]
 refine ziz (x := .tup []) (by simp [Tryz.results138, resV, resL]) ?_
 replace h3 := hst _ _ noFr _ _ _ _ h3 (fun _ _ _ => rfl) (Nat.le_refl _) (fun γ h => h.elim)
 cases b with
 | true => exact .inl h3
 | false => exact .inr h3
def zco (x0_before : List Int) (x1_next : Int) (x2_a2 : Int) (x3_a3 : Int) : Option (Bool) := Option.bind (zkg x0_before) (fun r1 => cond ((IntKind.i64.wrap ((IntKind.i64.wrap (x2_a2 - r1)) - x1_next)) == 0) (some true) (cond (decide ((IntKind.i64.wrap ((IntKind.i64.wrap (x2_a2 - r1)) - x1_next)) > 0)) (some (decide ((List.length x0_before : Int) < (IntKind.i64.wrap (x3_a3 - 1))))) (some false)))
theorem zmp (x0_before : List Int) (x1_next : Int) (x2_a2 : Int) (x3_a3 : Int) (R : Bool) (h : zco x0_before x1_next x2_a2 x3_a3 = some R) : VPure Tryz.prog G0 127 [.sl (cellsL eI x0_before) (List.length x0_before) false, .lit (.int .i64 x1_next), .tp ([.lit (.int .i64 x2_a2)]), .tp ([.lit (.int .i64 x3_a3)])] (.tree (.lit (.bool R))) := by
 refine VPure.runR mixed Tryz.call127 Tryz.func127 rfl (by simp [Tryz.ntmps127]; kernel_rfl) ?_
 obtain ⟨KF, h, kF, kN⟩ := zan h
 simp only [zco] at h
 simp only [vz, tyf, nm, seval]
 refine zfu (fun tm => tm 0 = .sl (cellsL eI x0_before) (List.length x0_before) false ∧ tm 1 = .lit (.int .i64 x1_next) ∧ tm 2 = .tp ([.lit (.int .i64 x2_a2)]) ∧ tm 3 = .tp ([.lit (.int .i64 x3_a3)]) ∧ True) (by refine ⟨?_, ?_, ?_, ?_, trivial⟩ <;> first | (simp only [ua, nm, seval] <;> rfl) | rfl) ?_
 rintro tm ⟨e2, e3, e4, e5, _⟩
 obtain ⟨r6, o7, h⟩ := optI h kN
 try simp only [hs] at h
 simp only [vz, tyf, e2, e3, e4, e5, nm, seval]
 refine dktA (zll _ _ o7) ?_
 refine zab (fun tm => tm 0 = .sl (cellsL eI x0_before) (List.length x0_before) false ∧ tm 1 = .lit (.int .i64 x1_next) ∧ tm 3 = .tp ([.lit (.int .i64 x3_a3)]) ∧ tm 8 = .lit (.int .i64 x2_a2) ∧ tm 10 = .lit (.int .i64 r6) ∧ True) (by refine ⟨e2, e3, e5, ?_, ?_, trivial⟩ <;> first | (simp only [ua, e2, e3, e4, e5, nm, seval] <;> rfl) | rfl) ?_
 rintro tm ⟨e8, e9, e10, e11, e12, _⟩
 cases d13 : ((IntKind.i64.wrap ((IntKind.i64.wrap (x2_a2 - r6)) - x1_next)) == 0)
 ·simp only [d13, hs] at h
  cases d14 : (decide ((IntKind.i64.wrap ((IntKind.i64.wrap (x2_a2 - r6)) - x1_next)) > 0))
  ·simp only [d14, hs] at h
   try simp only [vz, tyf, e8, e9, e10, e11, e12, d13, d14, nm, seval]
   obtain rfl := kF _ h
   exact zaa Tryz.results127 rfl
  simp only [d14, hs] at h
  try simp only [vz, tyf, e8, e9, e10, e11, e12, d13, d14, nm, seval]
  obtain rfl := kF _ h
  exact zaa Tryz.results127 rfl
 simp only [d13, hs] at h
 try simp only [vz, tyf, e8, e9, e10, e11, e12, d13, nm, seval]
 obtain rfl := kF _ h
 exact zaa Tryz.results127 rfl
theorem zaek {mc : List VV} {mf : Nat} {ln lim : Int} (htm : treeL mc = true) : VPure Tryz.prog G0 125 [.lit (.int .i64 ln), .lit (.int .i64 lim), .fn (.func mf) [] mc] (.tree (.fn (.func 138) [] [.tp [.lit (.int .i64 ln)], .tp [.lit (.int .i64 lim)], .tp [.fn (.func mf) [] mc]])) := by
 refine VPure.run mixed Tryz.call125 Tryz.func125 rfl (by simp [Tryz.ntmps125]; kernel_rfl) ?_
 simp only [vz, tyf, seval, ua, rg]
 refine ⟨rfl, .fn (.func 138) [] [.ptr 0 0, .ptr 1 0, .ptr 2 0], by simp [Tryz.results125, resV, resL, resV1, upd], 20, ?_⟩
 simp [sealV, sealL, VV.tree, treeL, updH, htm]
def mayC (t p : Int) : List VV := [.tp [.lit (.int .i64 p)], .tp [.lit (.int .i64 t)]]
theorem zwp {t p : Int} : treeL (mayC t p) = true := rfl
def itM (t p : Int) : VV := .fn (.func 138) [] [.tp [.lit (.int .i64 t)], .tp [.lit (.int .i64 (IntKind.i64.wrap (p + 1)))], .tp [.fn (.func 127) [] (mayC t p)]]
theorem zamj (t p : Int) : VPure Tryz.prog G0 110 [.lit (.int .i64 t), .lit (.int .i64 p)] (.tree (itM t p)) := by
 refine VPure.run mixed Tryz.call110 Tryz.func110 rfl (by simp [Tryz.ntmps110]; kernel_rfl) ?_
 simp only [vz, tyf, seval, ua, rg]
 refine kopen ?_
 rw [zrl]
 refine VOpen.mono (VOpen.freezeN [1, 0] ?_ (args' := [.lit (.int .i64 t), .lit (.int .i64 (IntKind.i64.wrap (p + 1))), .fn (.func 127) [] (mayC t p)]) ⟨.same, .same, Frozen.closure [(1, [.lit (.int .i64 p)]), (0, [.lit (.int .i64 t)])] 20 (by simp) ?_, trivial⟩ (VOpen.of_pure (zaek zwp) rfl)) ?_ (fun _ _ _ h => h.elim)
 ·intro γ hγ
  rcases List.mem_cons.1 hγ with rfl | hγ
  ·exact ⟨some 3, [.lit (.int .i64 p)], by simp [updH]⟩
  rw [List.mem_singleton.1 hγ]
  exact ⟨some 3, [.lit (.int .i64 t)], by simp [updH]⟩
 ·intro q hq
  rcases List.mem_cons.1 hq with rfl | hq
  ·exact ⟨⟨some 3, by simp [updH]⟩, by simp [lessN], rfl, by simp⟩
  rw [List.mem_singleton.1 hq]
  exact ⟨⟨some 3, by simp [updH]⟩, by simp [lessN], rfl, by simp⟩
 rintro v H2 nx2 ⟨rfl, rfl, rfl⟩
 simp only [vz, tyf, seval, ua]
 refine ⟨rfl, itM t p, by simp [Tryz.results110, resV, resL, resV1, upd]; rfl, 2, ?_⟩
 simp [sealV, itM, VV.tree, treeL, mayC]
def smallOk (n m : Int) : Bool := decide (0 < n) && (decide (n < 1000) && (decide (0 ≤ m) && decide (m < 999999)))
def zmb (t p : Int) : Option (List (List Int)) := cond (smallOk t p) (listsO (fun l j => zco l j p t) (p + 1).toNat t.toNat []) none
theorem zyx (t p : Int) (R : List (List Int)) (h : zmb t p = some R) : VPure Tryz.prog G0 110 [.lit (.int .i64 t), .lit (.int .i64 p)] (.tree (itM t p)) ∧ Iter Tryz.prog G0 (itM t p) (R.map sI) := by
 refine ⟨zamj t p, ?_⟩
 unfold zmb at h
 cases hs : smallOk t p with
 | false => rw [hs] at h; cases h
 | true =>
 rw [hs, cond_true] at h
 simp only [smallOk, Bool.and_eq_true, decide_eq_true_eq] at hs
 obtain ⟨h1, h2, h3, h4⟩ := hs
 obtain ⟨n, rfl⟩ : ∃ n : Nat, t = n := ⟨t.toNat, by omega⟩
 obtain ⟨m, rfl⟩ : ∃ m : Nat, p = m := ⟨p.toNat, by omega⟩
 have e1 : IntKind.i64.wrap ((m : Int) + 1) = ((m + 1 : Nat) : Int) := by rw [IntWalk.i64_in _ (by omega)]; simp
 have e2 : ((m : Int) + 1).toNat = m + 1 := by omega
 have e3 : ((n : Int)).toNat = n := by omega
 unfold itM
 rw [e2, e3] at h
 rw [e1]
 exact zsf zwp (by omega) (by omega) (by omega) h (fun l j b hb => zmp l j m n b hb)
end Go.V
end
