/- Part of a proof. -/
import Derived.Test.YtekhjalgmlflpaaGreatDoorTbm
set_option linter.all false
set_option maxRecDepth 4000
set_option maxHeartbeats 40000000
section
namespace Go.V
open Go Go.Proofs
def zbh (x0_s : Gs) (x1_a1 : List Int) (x2_a2 : Gu) (r3 : Ga × Int) (r4 : Ga × Int) : Nat → Int → Option (LOut (Bool) (Unit))
 | 0, c1_17 => some (.go ())
 | k1 + 1, c1_17 => cond (c1_17 == 0) (Option.bind (zbw x0_s c1_17 x2_a2.Years x2_a2.Fade.a0) (fun r18 => Option.bind (zek x1_a1 x2_a2 c1_17) (fun r19 => cond (decide (r18 < r3.1.a0.Low)) (some (.ret false)) (cond (decide (r18 > r3.1.a0.High)) (some (.ret false)) (cond (decide (r19 < r4.1.a0.Low)) (some (.ret false)) (cond (decide (r19 > r4.1.a0.High)) (some (.ret false)) (zbh x0_s x1_a1 x2_a2 r3 r4 k1 (c1_17 + 1)))))))) (cond (c1_17 == 1) (Option.bind (zbw x0_s c1_17 x2_a2.Years x2_a2.Fade.a1) (fun r20 => Option.bind (zek x1_a1 x2_a2 c1_17) (fun r21 => cond (decide (r20 < r3.1.a1.Low)) (some (.ret false)) (cond (decide (r20 > r3.1.a1.High)) (some (.ret false)) (cond (decide (r21 < r4.1.a1.Low)) (some (.ret false)) (cond (decide (r21 > r4.1.a1.High)) (some (.ret false)) (zbh x0_s x1_a1 x2_a2 r3 r4 k1 (c1_17 + 1)))))))) (cond (c1_17 == 2) (Option.bind (zbw x0_s c1_17 x2_a2.Years x2_a2.Fade.a2) (fun r22 => Option.bind (zek x1_a1 x2_a2 c1_17) (fun r23 => cond (decide (r22 < r3.1.a2.Low)) (some (.ret false)) (cond (decide (r22 > r3.1.a2.High)) (some (.ret false)) (cond (decide (r23 < r4.1.a2.Low)) (some (.ret false)) (cond (decide (r23 > r4.1.a2.High)) (some (.ret false)) (zbh x0_s x1_a1 x2_a2 r3 r4 k1 (c1_17 + 1)))))))) (none)))
def zbg (x0_s : Gs) (x1_a1 : List Int) (x2_a2 : Gu) (r3 : Ga × Int) (r4 : Ga × Int) : Nat → Int → Option (LOut (Bool) (Unit))
 | 0, c0_17 => some (.go ())
 | k0 + 1, c0_17 => cond (c0_17 == 0) (Option.bind (zbw x0_s c0_17 x2_a2.Years x2_a2.Fade.a0) (fun r9 => Option.bind (zek x1_a1 x2_a2 c0_17) (fun r10 => cond (decide (r9 < r3.1.a0.Low)) (some (.ret false)) (cond (decide (r9 > r3.1.a0.High)) (some (.ret false)) (cond (decide (r10 < r4.1.a0.Low)) (some (.ret false)) (cond (decide (r10 > r4.1.a0.High)) (some (.ret false)) (zbg x0_s x1_a1 x2_a2 r3 r4 k0 (c0_17 + 1)))))))) (cond (c0_17 == 1) (Option.bind (zbw x0_s c0_17 x2_a2.Years x2_a2.Fade.a1) (fun r11 => Option.bind (zek x1_a1 x2_a2 c0_17) (fun r12 => cond (decide (r11 < r3.1.a1.Low)) (some (.ret false)) (cond (decide (r11 > r3.1.a1.High)) (some (.ret false)) (cond (decide (r12 < r4.1.a1.Low)) (some (.ret false)) (cond (decide (r12 > r4.1.a1.High)) (some (.ret false)) (zbg x0_s x1_a1 x2_a2 r3 r4 k0 (c0_17 + 1)))))))) (cond (c0_17 == 2) (Option.bind (zbw x0_s c0_17 x2_a2.Years x2_a2.Fade.a2) (fun r13 => Option.bind (zek x1_a1 x2_a2 c0_17) (fun r14 => cond (decide (r13 < r3.1.a2.Low)) (some (.ret false)) (cond (decide (r13 > r3.1.a2.High)) (some (.ret false)) (cond (decide (r14 < r4.1.a2.Low)) (some (.ret false)) (cond (decide (r14 > r4.1.a2.High)) (some (.ret false)) (zbg x0_s x1_a1 x2_a2 r3 r4 k0 (c0_17 + 1)))))))) (none)))
def zgg (x0_s : Gs) (x1_a1 : List Int) (x2_a2 : Gu) : Option (Bool) := Option.bind (zgy x0_s x1_a1) (fun r1 => cond (r1) (cond (decide ((List.length x2_a2.Tins : Int) > 6)) (some true) (Option.bind (zgx x0_s x2_a2) (fun r2 => cond (r2) (Option.bind (zkb x0_s) (fun r3 => Option.bind (zii x0_s x1_a1) (fun r4 => Option.bind (zit x0_s x1_a1) (fun r5 => Option.bind (zhu x0_s x1_a1) (fun r6 => Option.bind (zif x0_s x1_a1 x2_a2) (fun r7 => cond (r3.2 != 0) (some false) (cond (r4.2 != 0) (some false) (cond (r5.2 != 0) (some false) (cond (r6.2 != 0) (cond (r6.2 != 5) (some false) (cond (r7.2 != 0) (some false) (Option.bind (zgp x0_s x1_a1 x2_a2) (fun r8 => cond (r7.1 != r8) (some false) (cond (decide (r5.1 < 1)) (some false) (cond (decide (r5.1 > 3)) (some false) (cond ((r5.1 == 1) != (r6.2 == 5)) (some false) (cond (boundOk 3) (lbind (zbg x0_s x1_a1 x2_a2 r3 r4 (Int.toNat (3 - 0)) 0) (fun r16 => some r16) (fun c15 => cond (r5.1 == 3) (cond (r7.1) (cond (r6.1.Low == x0_s.Years.Low && (r6.1.High == x0_s.Years.High)) (cond (r5.1 == 1) (some false) (cond (decide (x2_a2.Years ≥ r6.1.Low)) (cond (decide (x2_a2.Years ≤ r6.1.High)) (some true) (some false)) (some false))) (some false)) (some false)) (cond (r5.1 == 1) (cond (r7.1) (some false) (some true)) (cond (r7.1) (cond (decide (x2_a2.Years ≥ r6.1.Low)) (cond (decide (x2_a2.Years ≤ r6.1.High)) (some true) (some false)) (some false)) (some true)))) (fun _ _ => none)) none)))))))) (cond (r7.2 != 0) (some false) (Option.bind (zgp x0_s x1_a1 x2_a2) (fun r17 => cond (r7.1 != r17) (some false) (cond (decide (r5.1 < 1)) (some false) (cond (decide (r5.1 > 3)) (some false) (cond ((r5.1 == 1) != (r6.2 == 5)) (some false) (cond (boundOk 3) (lbind (zbh x0_s x1_a1 x2_a2 r3 r4 (Int.toNat (3 - 0)) 0) (fun r25 => some r25) (fun c24 => cond (r5.1 == 3) (cond (r7.1) (cond (r6.1.Low == x0_s.Years.Low && (r6.1.High == x0_s.Years.High)) (cond (r5.1 == 1) (some false) (cond (decide (x2_a2.Years ≥ r6.1.Low)) (cond (decide (x2_a2.Years ≤ r6.1.High)) (some true) (some false)) (some false))) (some false)) (some false)) (cond (r5.1 == 1) (cond (r7.1) (some false) (some true)) (cond (r7.1) (cond (decide (x2_a2.Years ≥ r6.1.Low)) (cond (decide (x2_a2.Years ≤ r6.1.High)) (some true) (some false)) (some false)) (some true)))) (fun _ _ => none)) none)))))))))))))))) (some true)))) (some true))
theorem zlt (x0_s : Gs) (x1_a1 : List Int) (x2_a2 : Gu) (R : Bool) (h : zgg x0_s x1_a1 x2_a2 = some R) : VPure Tryz.prog G0 6 [.agg (cGs x0_s), .sl (cellsL eI x1_a1) (List.length x1_a1) false, .agg (cGu x2_a2)] (.tree (.lit (.bool R))) := by
 refine VPure.runR mixed Tryz.call6 Tryz.func6 rfl (by simp [Tryz.ntmps6]; kernel_rfl) ?_
 obtain ⟨KF, h, kF, kN⟩ := zaj h
 simp only [zgg] at h
 obtain ⟨r26, o27, h⟩ := optI h kN
 try simp only [hs] at h
 simp only [vz, tyf, nm, seval]
 refine ktA (zpj _ _ _ o27) ?_
 refine zac (fun tm => tm 1 = .sl (cellsL eI x1_a1) (List.length x1_a1) false ∧ tm 3 = .ptr 0 0 ∧ tm 5 = .ptr 1 0 ∧ tm 22 = .lit (.bool r26) ∧ True) (by refine ⟨?_, ?_, ?_, ?_, trivial⟩ <;> first | (simp only [ua, nm, seval] <;> rfl) | rfl) ?_
 rintro tm ⟨e28, e29, e30, e31, _⟩
 cases d32 : (r26)
 ·simp only [d32, hs] at h
  simp only [vz, tyf, e28, e29, e30, e31, d32, nm, seval]
  refine ktree0 zbq ?_
  try simp only [vz, tyf, e28, e29, e30, e31, d32, nm, seval]
  obtain rfl := kF _ h
  exact zaa Tryz.results6 rfl
 simp only [d32, hs] at h
 cases d33 : (decide ((List.length x2_a2.Tins : Int) > 6))
 ·simp only [d33, hs] at h
  obtain ⟨r34, o35, h⟩ := optI h kN
  try simp only [hs] at h
  simp only [vz, tyf, e28, e29, e30, e31, d32, d33, nm, seval]
  refine ktA (zob _ _ _ o35) ?_
  refine zac (fun tm => tm 1 = .sl (cellsL eI x1_a1) (List.length x1_a1) false ∧ tm 3 = .ptr 0 0 ∧ tm 5 = .ptr 1 0 ∧ tm 30 = .lit (.bool false) ∧ tm 33 = .lit (.bool r34) ∧ True) (by refine ⟨e28, e29, e30, ?_, ?_, trivial⟩ <;> first | (simp only [ua, e28, e29, e30, e31, d32, d33, nm, seval] <;> rfl) | rfl) ?_
  rintro tm ⟨e36, e37, e38, e39, e40, _⟩
  cases d41 : (r34)
  ·simp only [d41, hs] at h
   simp only [vz, tyf, d32, d33, e36, e37, e38, e39, e40, d41, nm, seval]
   refine ktree0 zbq ?_
   try simp only [vz, tyf, d32, d33, e36, e37, e38, e39, e40, d41, nm, seval]
   obtain rfl := kF _ h
   exact zaa Tryz.results6 rfl
  simp only [d41, hs] at h
  obtain ⟨r42, o43, h⟩ := optI h kN
  try simp only [hs] at h
  simp only [vz, tyf, d32, d33, e36, e37, e38, e39, e40, d41, nm, seval]
  refine ktA (zuo _ _ o43) ?_
  refine zac (fun tm => tm 1 = .sl (cellsL eI x1_a1) (List.length x1_a1) false ∧ tm 3 = .ptr 0 0 ∧ tm 5 = .ptr 1 0 ∧ tm 39 = .tup [.agg (cGa r42.1), .lit (.int .i64 r42.2)] ∧ True) (by refine ⟨e36, e37, e38, ?_, trivial⟩ <;> first | (simp only [ua, d32, d33, e36, e37, e38, e39, e40, d41, nm, seval] <;> rfl) | rfl) ?_
  rintro tm ⟨e44, e45, e46, e47, _⟩
  obtain ⟨r48, o49, h⟩ := optI h kN
  try simp only [hs] at h
  simp only [vz, tyf, d32, d33, d41, e44, e45, e46, e47, nm, seval]
  refine ktA (zse _ _ _ o49) ?_
  refine zac (fun tm => tm 1 = .sl (cellsL eI x1_a1) (List.length x1_a1) false ∧ tm 3 = .ptr 0 0 ∧ tm 5 = .ptr 1 0 ∧ tm 7 = .ptr 24 0 ∧ tm 8 = .lit (.int .i64 r42.2) ∧ tm 45 = .tup [.agg (cGa r48.1), .lit (.int .i64 r48.2)] ∧ True) (by refine ⟨e44, e45, e46, ?_, ?_, ?_, trivial⟩ <;> first | (simp only [ua, d32, d33, d41, e44, e45, e46, e47, nm, seval] <;> rfl) | rfl) ?_
  rintro tm ⟨e50, e51, e52, e53, e54, e55, _⟩
  obtain ⟨r56, o57, h⟩ := optI h kN
  try simp only [hs] at h
  simp only [vz, tyf, d32, d33, d41, e50, e51, e52, e53, e54, e55, nm, seval]
  refine ktA (zsa _ _ _ o57) ?_
  refine zac (fun tm => tm 1 = .sl (cellsL eI x1_a1) (List.length x1_a1) false ∧ tm 3 = .ptr 0 0 ∧ tm 5 = .ptr 1 0 ∧ tm 7 = .ptr 24 0 ∧ tm 8 = .lit (.int .i64 r42.2) ∧ tm 9 = .ptr 33 0 ∧ tm 10 = .lit (.int .i64 r48.2) ∧ tm 51 = .tup [.lit (.int .i64 r56.1), .lit (.int .i64 r56.2)] ∧ True) (by refine ⟨e50, e51, e52, e53, e54, ?_, ?_, ?_, trivial⟩ <;> first | (simp only [ua, d32, d33, d41, e50, e51, e52, e53, e54, e55, nm, seval] <;> rfl) | rfl) ?_
  rintro tm ⟨e58, e59, e60, e61, e62, e63, e64, e65, _⟩
  obtain ⟨r66, o67, h⟩ := optI h kN
  try simp only [hs] at h
  simp only [vz, tyf, d32, d33, d41, e58, e59, e60, e61, e62, e63, e64, e65, nm, seval]
  refine ktA (zpt _ _ _ o67) ?_
  refine zac (fun tm => tm 1 = .sl (cellsL eI x1_a1) (List.length x1_a1) false ∧ tm 3 = .ptr 0 0 ∧ tm 5 = .ptr 1 0 ∧ tm 7 = .ptr 24 0 ∧ tm 8 = .lit (.int .i64 r42.2) ∧ tm 9 = .ptr 33 0 ∧ tm 10 = .lit (.int .i64 r48.2) ∧ tm 11 = .lit (.int .i64 r56.1) ∧ tm 12 = .lit (.int .i64 r56.2) ∧ tm 57 = .tup [.agg (cGSpan r66.1), .lit (.int .i64 r66.2)] ∧ True) (by refine ⟨e58, e59, e60, e61, e62, e63, e64, ?_, ?_, ?_, trivial⟩ <;> first | (simp only [ua, d32, d33, d41, e58, e59, e60, e61, e62, e63, e64, e65, nm, seval] <;> rfl) | rfl) ?_
  rintro tm ⟨e68, e69, e70, e71, e72, e73, e74, e75, e76, e77, _⟩
  obtain ⟨r78, o79, h⟩ := optI h kN
  try simp only [hs] at h
  simp only [vz, tyf, d32, d33, d41, e68, e69, e70, e71, e72, e73, e74, e75, e76, e77, nm, seval]
  refine ktA (zsx _ _ _ _ o79) ?_
  refine zac (fun tm => tm 1 = .sl (cellsL eI x1_a1) (List.length x1_a1) false ∧ tm 3 = .ptr 0 0 ∧ tm 5 = .ptr 1 0 ∧ tm 7 = .ptr 24 0 ∧ tm 8 = .lit (.int .i64 r42.2) ∧ tm 9 = .ptr 33 0 ∧ tm 10 = .lit (.int .i64 r48.2) ∧ tm 11 = .lit (.int .i64 r56.1) ∧ tm 12 = .lit (.int .i64 r56.2) ∧ tm 13 = .ptr 50 0 ∧ tm 14 = .lit (.int .i64 r66.2) ∧ tm 64 = .tup [.lit (.bool r78.1), .lit (.int .i64 r78.2)] ∧ True) (by refine ⟨e68, e69, e70, e71, e72, e73, e74, e75, e76, ?_, ?_, ?_, trivial⟩ <;> first | (simp only [ua, d32, d33, d41, e68, e69, e70, e71, e72, e73, e74, e75, e76, e77, nm, seval] <;> rfl) | rfl) ?_
  rintro tm ⟨e80, e81, e82, e83, e84, e85, e86, e87, e88, e89, e90, e91, _⟩
  cases d92 : (r42.2 != 0)
  ·simp only [d92, hs] at h
   cases d93 : (r48.2 != 0)
   ·simp only [d93, hs] at h
    cases d94 : (r56.2 != 0)
    ·simp only [d94, hs] at h
     cases d95 : (r66.2 != 0)
     ·simp only [d95, hs] at h
      have b96 := And.intro d32 (And.intro d33 (And.intro d41 (And.intro d92 (And.intro d93 (And.intro d94 d95)))))
      cases d97 : (r78.2 != 0)
      ·simp only [d97, hs] at h
       obtain ⟨r98, o99, h⟩ := optI h kN
       try simp only [hs] at h
       simp only [vz, tyf, b96, e80, e81, e82, e83, e84, e85, e86, e87, e88, e89, e90, e91, d97, nm, seval]
       refine ktA (zkx _ _ _ _ o99) ?_
       refine zac (fun tm => tm 1 = .sl (cellsL eI x1_a1) (List.length x1_a1) false ∧ tm 3 = .ptr 0 0 ∧ tm 5 = .ptr 1 0 ∧ tm 7 = .ptr 24 0 ∧ tm 9 = .ptr 33 0 ∧ tm 11 = .lit (.int .i64 r56.1) ∧ tm 13 = .ptr 50 0 ∧ tm 14 = .lit (.int .i64 r66.2) ∧ tm 15 = .lit (.bool r78.1) ∧ tm 89 = .lit (.bool false) ∧ tm 90 = .lit (.bool r78.1) ∧ tm 94 = .lit (.bool r98) ∧ True) (by refine ⟨e80, e81, e82, e83, e85, e87, e89, e90, ?_, ?_, ?_, ?_, trivial⟩ <;> first | (simp only [ua, b96, e80, e81, e82, e83, e84, e85, e86, e87, e88, e89, e90, e91, d97, nm, seval] <;> rfl) | rfl) ?_
       rintro tm ⟨e100, e101, e102, e103, e104, e105, e106, e107, e108, e109, e110, e111, _⟩
       cases d112 : (r78.1 != r98)
       ·simp only [d112, hs] at h
        cases d113 : (decide (r56.1 < 1))
        ·simp only [d113, hs] at h
         cases d114 : (decide (r56.1 > 3))
         ·simp only [d114, hs] at h
          cases d115 : ((r56.1 == 1) != (r66.2 == 5))
          ·simp only [d115, hs] at h
           cases g117 : (boundOk 3)
           ·simp only [g117, hs] at h
            exact absurd h kN
           simp only [g117, hs] at h
           simp only [vz, tyf, b96, d97, e100, e101, e102, e103, e104, e105, e106, e107, e108, e109, e110, e111, d112, d113, d114, d115, g117, nm, seval]
           obtain ⟨K116, h, kR116, kG116, kB116, kN116⟩ := zau h kN
           obtain ⟨f116, hf116, h⟩ := call2 h
           obtain ⟨I116, hI116⟩ : ∃ I : Nat → St → Prop, I = (fun m st => ∃ (p116 : Nat) (c116_17 : Int), p116 = m ∧ loOk c116_17 = true ∧ Int.toNat (3 - c116_17) = p116 ∧ st.df = [] ∧ 108 ≤ st.nx ∧ st.H 0 = some (.cells (some 28) (cGs x0_s)) ∧ st.H 1 = some (.cells (some 42) (cGu x2_a2)) ∧ st.H 24 = some (.cells (some 25) (cGa r42.1)) ∧ st.H 33 = some (.cells (some 25) (cGa r48.1)) ∧ st.H 50 = some (.cells (some 24) (cGSpan r66.1)) ∧ st.tm 1 = .sl (cellsL eI x1_a1) (List.length x1_a1) false ∧ st.tm 3 = .ptr 0 0 ∧ st.tm 5 = .ptr 1 0 ∧ st.tm 7 = .ptr 24 0 ∧ st.tm 9 = .ptr 33 0 ∧ st.tm 11 = .lit (.int .i64 r56.1) ∧ st.tm 13 = .ptr 50 0 ∧ st.tm 15 = .lit (.bool r78.1) ∧ st.tm 17 = .lit (.int .i64 c116_17) ∧ K116 (f116 p116 c116_17)) := ⟨_, rfl⟩
           refine loopK mixed (by kernel_rfl) I116 (Int.toNat (3 - 0)) (by rw [hI116]; refine ⟨Int.toNat (3 - 0), 0, rfl, (by rfl), rfl, rfl, (show 108 ≤ 108 by omega), ?_, ?_, ?_, ?_, ?_, e100, e101, e102, e103, e104, e105, e106, e108, ?_, h⟩ <;> first | (simp only [ua, b96, d97, e100, e101, e102, e103, e104, e105, e106, e107, e108, e109, e110, e111, d112, d113, d114, d115, nm, seval] <;> rfl) | rfl) ?_
           rintro m ⟨tm, H, nx116, df⟩ hinv
           rw [hI116] at hinv
           obtain ⟨p116, c116_17, rfl, hi116, hp116, hdf, hn116, H118, H119, H120, H121, H122, e123, e124, e125, e126, e127, e128, e129, e130, e131, h⟩ := hinv
           simp only at hdf hn116 H118 H119 H120 H121 H122 e123 e124 e125 e126 e127 e128 e129 e130 e131
           have n132 := zcf (m := 108) (b := nx116) (by omega)
           subst hdf hf116
           cases p116 with
           | zero =>
            have d133 : (decide (c116_17 < 3)) = false := zjo hp116
            simp only [zbg, zbh, hs, reduceCtorEq] at h
            replace h := kG116 _ h
            try dsimp only at h
            try simp only [hs] at h
            cases d134 : (r56.1 == 3)
            ·simp only [d134, hs] at h
             have b135 := And.intro b96 (And.intro d97 (And.intro d112 (And.intro d113 (And.intro d114 (And.intro d115 (And.intro g117 (And.intro n132 (And.intro H118 (And.intro H119 (And.intro H120 (And.intro H121 (And.intro H122 (And.intro d133 d134)))))))))))))
             cases d136 : (r56.1 == 1)
             ·simp only [d136, hs] at h
              have d137 := d115
              simp only [d136] at d137
              cases d138 : (r78.1)
              ·simp only [d138, hs] at h
               simp only [vz, tyf, b135, e123, e124, e125, e126, e127, e128, e129, e130, e131, d136, d137, d138, nm, seval]
               refine ktree0 zbq ?_
               try simp only [vz, tyf, b135, e123, e124, e125, e126, e127, e128, e129, e130, e131, d136, d137, d138, nm, seval]
               obtain rfl := kF _ h
               exact zaa Tryz.results6 rfl
              simp only [d138, hs] at h
              cases d139 : (decide (x2_a2.Years ≥ r66.1.Low))
              ·simp only [d139, hs] at h
               try simp only [vz, tyf, b135, e123, e124, e125, e126, e127, e128, e129, e130, e131, d136, d137, d138, d139, nm, seval]
               obtain rfl := kF _ h
               exact zaa Tryz.results6 rfl
              simp only [d139, hs] at h
              cases d140 : (decide (x2_a2.Years ≤ r66.1.High))
              ·simp only [d140, hs] at h
               try simp only [vz, tyf, b135, e123, e124, e125, e126, e127, e128, e129, e130, e131, d136, d137, d138, d139, d140, nm, seval]
               obtain rfl := kF _ h
               exact zaa Tryz.results6 rfl
              simp only [d140, hs] at h
              simp only [vz, tyf, b135, e123, e124, e125, e126, e127, e128, e129, e130, e131, d136, d137, d138, d139, d140, nm, seval]
              refine ktree0 zbq ?_
              try simp only [vz, tyf, b135, e123, e124, e125, e126, e127, e128, e129, e130, e131, d136, d137, d138, d139, d140, nm, seval]
              obtain rfl := kF _ h
              exact zaa Tryz.results6 rfl
             simp only [d136, hs] at h
             have d141 := d115
             simp only [d136] at d141
             cases d142 : (r78.1)
             ·simp only [d142, hs] at h
              simp only [vz, tyf, b135, e123, e124, e125, e126, e127, e128, e129, e130, e131, d136, d141, d142, nm, seval]
              refine ktree0 zbq ?_
              try simp only [vz, tyf, b135, e123, e124, e125, e126, e127, e128, e129, e130, e131, d136, d141, d142, nm, seval]
              obtain rfl := kF _ h
              exact zaa Tryz.results6 rfl
             simp only [d142, hs] at h
             try simp only [vz, tyf, b135, e123, e124, e125, e126, e127, e128, e129, e130, e131, d136, d141, d142, nm, seval]
             obtain rfl := kF _ h
             exact zaa Tryz.results6 rfl
            simp only [d134, hs] at h
            have b143 := And.intro b96 (And.intro d97 (And.intro d112 (And.intro d113 (And.intro d114 (And.intro d115 (And.intro g117 (And.intro n132 (And.intro H118 (And.intro H119 (And.intro H120 (And.intro H121 (And.intro H122 (And.intro d133 d134)))))))))))))
            cases d144 : (r78.1)
            ·simp only [d144, hs] at h
             try simp only [vz, tyf, b143, e123, e124, e125, e126, e127, e128, e129, e130, e131, d144, nm, seval]
             obtain rfl := kF _ h
             exact zaa Tryz.results6 rfl
            simp only [d144, hs] at h
            cases d145 : (r66.1.Low == x0_s.Years.Low && (r66.1.High == x0_s.Years.High))
            ·simp only [d145, hs] at h
             try simp only [vz, tyf, b143, e123, e124, e125, e126, e127, e128, e129, e130, e131, d144, d145, nm, seval]
             obtain rfl := kF _ h
             exact zaa Tryz.results6 rfl
            simp only [d145, hs] at h
            cases d146 : (r56.1 == 1)
            ·simp only [d146, hs] at h
             have d147 := d115
             simp only [d146] at d147
             cases d148 : (decide (x2_a2.Years ≥ r66.1.Low))
             ·simp only [d148, hs] at h
              try simp only [vz, tyf, b143, e123, e124, e125, e126, e127, e128, e129, e130, e131, d144, d145, d146, d147, d148, nm, seval]
              obtain rfl := kF _ h
              exact zaa Tryz.results6 rfl
             simp only [d148, hs] at h
             cases d149 : (decide (x2_a2.Years ≤ r66.1.High))
             ·simp only [d149, hs] at h
              have b150 := And.intro b143 (And.intro d144 (And.intro d145 (And.intro d146 (And.intro d147 (And.intro d148 d149)))))
              try simp only [vz, tyf, b150, e123, e124, e125, e126, e127, e128, e129, e130, e131, nm, seval]
              obtain rfl := kF _ h
              exact zaa Tryz.results6 rfl
             simp only [d149, hs] at h
             have b151 := And.intro b143 (And.intro d144 (And.intro d145 (And.intro d146 (And.intro d147 (And.intro d148 d149)))))
             simp only [vz, tyf, b151, e123, e124, e125, e126, e127, e128, e129, e130, e131, nm, seval]
             refine ktree0 zbq ?_
             try simp only [vz, tyf, b151, e123, e124, e125, e126, e127, e128, e129, e130, e131, nm, seval]
             obtain rfl := kF _ h
             exact zaa Tryz.results6 rfl
            simp only [d146, hs] at h
            have d152 := d115
            simp only [d146] at d152
            try simp only [vz, tyf, b143, e123, e124, e125, e126, e127, e128, e129, e130, e131, d144, d145, d146, d152, nm, seval]
            obtain rfl := kF _ h
            exact zaa Tryz.results6 rfl
           | succ p116 =>
            have d153 : (decide (c116_17 < 3)) = true := zada hp116
            have w154 := zos hi116 hp116 g117
            simp only [zbg, zbh, hs, reduceCtorEq] at h
            simp only [vz, tyf, b96, d97, d112, d113, d114, d115, g117, n132, e123, e124, e125, e126, e127, e128, e129, e130, e131, H118, H119, H120, H121, H122, d153, w154, nm, seval]
            refine zcq (fun tm => tm 1 = .sl (cellsL eI x1_a1) (List.length x1_a1) false ∧ tm 3 = .ptr 0 0 ∧ tm 5 = .ptr 1 0 ∧ tm 7 = .ptr 24 0 ∧ tm 9 = .ptr 33 0 ∧ tm 11 = .lit (.int .i64 r56.1) ∧ tm 13 = .ptr 50 0 ∧ tm 15 = .lit (.bool r78.1) ∧ tm 17 = .lit (.int .i64 c116_17) ∧ True) (by refine ⟨e123, e124, e125, e126, e127, e128, e129, e130, e131, trivial⟩ <;> first | (simp only [ua, b96, d97, d112, d113, d114, d115, n132, e123, e124, e125, e126, e127, e128, e129, e130, e131, H118, H119, H120, H121, H122, d153, w154, nm, seval] <;> rfl) | rfl) ?_
            rintro tm ⟨e155, e156, e157, e158, e159, e160, e161, e162, e163, _⟩
            have b164 := And.intro b96 (And.intro d97 (And.intro d112 (And.intro d113 (And.intro d114 (And.intro d115 (And.intro g117 (And.intro n132 (And.intro H118 (And.intro H119 (And.intro H120 (And.intro H121 (And.intro H122 (And.intro d153 w154)))))))))))))
            cases d165 : (c116_17 == 0)
            ·simp only [d165, hs] at h
             cases d166 : (c116_17 == 1)
             ·simp only [d166, hs] at h
              cases d167 : (c116_17 == 2)
              ·simp only [d167, hs] at h
               exact absurd h kN116
              simp only [d167, hs] at h
              obtain ⟨r168, o169, h⟩ := optI h kN116
              try simp only [hs] at h
              simp only [vz, tyf, b164, e155, e156, e157, e158, e159, e160, e161, e162, e163, d165, d166, d167, (zed d167), nm, seval]
              refine dktA (zcn _ _ _ _ _ o169) ?_
              refine zac (fun tm => tm 1 = .sl (cellsL eI x1_a1) (List.length x1_a1) false ∧ tm 3 = .ptr 0 0 ∧ tm 5 = .ptr 1 0 ∧ tm 7 = .ptr 24 0 ∧ tm 9 = .ptr 33 0 ∧ tm 11 = .lit (.int .i64 r56.1) ∧ tm 13 = .ptr 50 0 ∧ tm 15 = .lit (.bool r78.1) ∧ tm 17 = .lit (.int .i64 c116_17) ∧ tm 124 = .lit (.int .i64 r168) ∧ True) (by refine ⟨e155, e156, e157, e158, e159, e160, e161, e162, e163, ?_, trivial⟩ <;> first | (simp only [ua, b164, e155, e156, e157, e158, e159, e160, e161, e162, e163, d165, d166, d167, nm, seval] <;> rfl) | rfl) ?_
              rintro tm ⟨e170, e171, e172, e173, e174, e175, e176, e177, e178, e179, _⟩
              obtain ⟨r180, o181, h⟩ := optI h kN116
              try simp only [hs] at h
              simp only [vz, tyf, b164, d165, d166, d167, (zed d167), e170, e171, e172, e173, e174, e175, e176, e177, e178, e179, nm, seval]
              refine dktA (zem _ _ _ _ o181) ?_
              refine zac (fun tm => tm 1 = .sl (cellsL eI x1_a1) (List.length x1_a1) false ∧ tm 3 = .ptr 0 0 ∧ tm 5 = .ptr 1 0 ∧ tm 7 = .ptr 24 0 ∧ tm 9 = .ptr 33 0 ∧ tm 11 = .lit (.int .i64 r56.1) ∧ tm 13 = .ptr 50 0 ∧ tm 15 = .lit (.bool r78.1) ∧ tm 17 = .lit (.int .i64 c116_17) ∧ tm 124 = .lit (.int .i64 r168) ∧ tm 128 = .lit (.int .i64 r180) ∧ True) (by refine ⟨e170, e171, e172, e173, e174, e175, e176, e177, e178, e179, ?_, trivial⟩ <;> first | (simp only [ua, b164, d165, d166, d167, e170, e171, e172, e173, e174, e175, e176, e177, e178, e179, nm, seval] <;> rfl) | rfl) ?_
              rintro tm ⟨e182, e183, e184, e185, e186, e187, e188, e189, e190, e191, e192, _⟩
              cases d193 : (decide (r168 < r42.1.a2.Low))
              ·simp only [d193, hs] at h
               cases d194 : (decide (r168 > r42.1.a2.High))
               ·simp only [d194, hs] at h
                cases d195 : (decide (r180 < r48.1.a2.Low))
                ·simp only [d195, hs] at h
                 have b196 := And.intro b164 (And.intro d165 (And.intro d166 (And.intro d167 (And.intro d193 (And.intro d194 d195)))))
                 cases d197 : (decide (r180 > r48.1.a2.High))
                 ·simp only [d197, hs] at h
                  simp only [vz, tyf, b196, (zed d167), e182, e183, e184, e185, e186, e187, e188, e189, e190, e191, e192, (zfz d167), d197, nm, seval]
                  exact ⟨p116, Nat.lt_succ_self _, by rw [hI116]; refine ⟨p116, c116_17 + 1, rfl, zld hi116, zgb hp116, rfl, (show 108 ≤ nx116 + 50 by omega), ?_, ?_, ?_, ?_, ?_, e182, e183, e184, e185, e186, e187, e188, e189, ?_, h⟩ <;> first | (simp only [ua, b196, e182, e183, e184, e185, e186, e187, e188, e189, e190, e191, e192, d197, nm, seval] <;> rfl) | rfl⟩
                 simp only [d197, hs] at h
                 try simp only [vz, tyf, b196, (zed d167), e182, e183, e184, e185, e186, e187, e188, e189, e190, e191, e192, (zfz d167), d197, nm, seval]
                 replace h := kR116 _ h
                 try dsimp only at h
                 obtain rfl := kF _ h
                 exact zaa Tryz.results6 rfl
                simp only [d195, hs] at h
                have b198 := And.intro b164 (And.intro d165 (And.intro d166 (And.intro d167 (And.intro d193 (And.intro d194 d195)))))
                try simp only [vz, tyf, b198, (zed d167), e182, e183, e184, e185, e186, e187, e188, e189, e190, e191, e192, (zfz d167), nm, seval]
                replace h := kR116 _ h
                try dsimp only at h
                obtain rfl := kF _ h
                exact zaa Tryz.results6 rfl
               simp only [d194, hs] at h
               try simp only [vz, tyf, b164, d165, d166, d167, (zed d167), e182, e183, e184, e185, e186, e187, e188, e189, e190, e191, e192, (zfz d167), d193, d194, nm, seval]
               replace h := kR116 _ h
               try dsimp only at h
               obtain rfl := kF _ h
               exact zaa Tryz.results6 rfl
              simp only [d193, hs] at h
              try simp only [vz, tyf, b164, d165, d166, d167, (zed d167), e182, e183, e184, e185, e186, e187, e188, e189, e190, e191, e192, (zfz d167), d193, nm, seval]
              replace h := kR116 _ h
              try dsimp only at h
              obtain rfl := kF _ h
              exact zaa Tryz.results6 rfl
             simp only [d166, hs] at h
             obtain ⟨r199, o200, h⟩ := optI h kN116
             try simp only [hs] at h
             simp only [vz, tyf, b164, e155, e156, e157, e158, e159, e160, e161, e162, e163, d165, d166, (zee d166), nm, seval]
             refine dktA (zcn _ _ _ _ _ o200) ?_
             refine zac (fun tm => tm 1 = .sl (cellsL eI x1_a1) (List.length x1_a1) false ∧ tm 3 = .ptr 0 0 ∧ tm 5 = .ptr 1 0 ∧ tm 7 = .ptr 24 0 ∧ tm 9 = .ptr 33 0 ∧ tm 11 = .lit (.int .i64 r56.1) ∧ tm 13 = .ptr 50 0 ∧ tm 15 = .lit (.bool r78.1) ∧ tm 17 = .lit (.int .i64 c116_17) ∧ tm 124 = .lit (.int .i64 r199) ∧ True) (by refine ⟨e155, e156, e157, e158, e159, e160, e161, e162, e163, ?_, trivial⟩ <;> first | (simp only [ua, b164, e155, e156, e157, e158, e159, e160, e161, e162, e163, d165, d166, nm, seval] <;> rfl) | rfl) ?_
             rintro tm ⟨e201, e202, e203, e204, e205, e206, e207, e208, e209, e210, _⟩
             obtain ⟨r211, o212, h⟩ := optI h kN116
             try simp only [hs] at h
             simp only [vz, tyf, b164, d165, d166, (zee d166), e201, e202, e203, e204, e205, e206, e207, e208, e209, e210, nm, seval]
             refine dktA (zem _ _ _ _ o212) ?_
             refine zac (fun tm => tm 1 = .sl (cellsL eI x1_a1) (List.length x1_a1) false ∧ tm 3 = .ptr 0 0 ∧ tm 5 = .ptr 1 0 ∧ tm 7 = .ptr 24 0 ∧ tm 9 = .ptr 33 0 ∧ tm 11 = .lit (.int .i64 r56.1) ∧ tm 13 = .ptr 50 0 ∧ tm 15 = .lit (.bool r78.1) ∧ tm 17 = .lit (.int .i64 c116_17) ∧ tm 124 = .lit (.int .i64 r199) ∧ tm 128 = .lit (.int .i64 r211) ∧ True) (by refine ⟨e201, e202, e203, e204, e205, e206, e207, e208, e209, e210, ?_, trivial⟩ <;> first | (simp only [ua, b164, d165, d166, e201, e202, e203, e204, e205, e206, e207, e208, e209, e210, nm, seval] <;> rfl) | rfl) ?_
             rintro tm ⟨e213, e214, e215, e216, e217, e218, e219, e220, e221, e222, e223, _⟩
             cases d224 : (decide (r199 < r42.1.a1.Low))
             ·simp only [d224, hs] at h
              cases d225 : (decide (r199 > r42.1.a1.High))
              ·simp only [d225, hs] at h
               cases d226 : (decide (r211 < r48.1.a1.Low))
               ·simp only [d226, hs] at h
                cases d227 : (decide (r211 > r48.1.a1.High))
                ·simp only [d227, hs] at h
                 have b228 := And.intro b164 (And.intro d165 (And.intro d166 (And.intro d224 (And.intro d225 (And.intro d226 d227)))))
                 simp only [vz, tyf, b228, (zee d166), e213, e214, e215, e216, e217, e218, e219, e220, e221, e222, e223, (zga d166), nm, seval]
                 exact ⟨p116, Nat.lt_succ_self _, by rw [hI116]; refine ⟨p116, c116_17 + 1, rfl, zld hi116, zgb hp116, rfl, (show 108 ≤ nx116 + 50 by omega), ?_, ?_, ?_, ?_, ?_, e213, e214, e215, e216, e217, e218, e219, e220, ?_, h⟩ <;> first | (simp only [ua, b228, e213, e214, e215, e216, e217, e218, e219, e220, e221, e222, e223, nm, seval] <;> rfl) | rfl⟩
                simp only [d227, hs] at h
                have b229 := And.intro b164 (And.intro d165 (And.intro d166 (And.intro d224 (And.intro d225 (And.intro d226 d227)))))
                try simp only [vz, tyf, b229, (zee d166), e213, e214, e215, e216, e217, e218, e219, e220, e221, e222, e223, (zga d166), nm, seval]
                replace h := kR116 _ h
                try dsimp only at h
                obtain rfl := kF _ h
                exact zaa Tryz.results6 rfl
               simp only [d226, hs] at h
               try simp only [vz, tyf, b164, d165, d166, (zee d166), e213, e214, e215, e216, e217, e218, e219, e220, e221, e222, e223, (zga d166), d224, d225, d226, nm, seval]
               replace h := kR116 _ h
               try dsimp only at h
               obtain rfl := kF _ h
               exact zaa Tryz.results6 rfl
              simp only [d225, hs] at h
              try simp only [vz, tyf, b164, d165, d166, (zee d166), e213, e214, e215, e216, e217, e218, e219, e220, e221, e222, e223, (zga d166), d224, d225, nm, seval]
              replace h := kR116 _ h
              try dsimp only at h
              obtain rfl := kF _ h
              exact zaa Tryz.results6 rfl
             simp only [d224, hs] at h
             try simp only [vz, tyf, b164, d165, d166, (zee d166), e213, e214, e215, e216, e217, e218, e219, e220, e221, e222, e223, (zga d166), d224, nm, seval]
             replace h := kR116 _ h
             try dsimp only at h
             obtain rfl := kF _ h
             exact zaa Tryz.results6 rfl
            simp only [d165, hs] at h
            obtain ⟨r230, o231, h⟩ := optI h kN116
            try simp only [hs] at h
            simp only [vz, tyf, b164, e155, e156, e157, e158, e159, e160, e161, e162, e163, d165, (zea d165), nm, seval]
            refine dktA (zcn _ _ _ _ _ o231) ?_
            refine zac (fun tm => tm 1 = .sl (cellsL eI x1_a1) (List.length x1_a1) false ∧ tm 3 = .ptr 0 0 ∧ tm 5 = .ptr 1 0 ∧ tm 7 = .ptr 24 0 ∧ tm 9 = .ptr 33 0 ∧ tm 11 = .lit (.int .i64 r56.1) ∧ tm 13 = .ptr 50 0 ∧ tm 15 = .lit (.bool r78.1) ∧ tm 17 = .lit (.int .i64 c116_17) ∧ tm 124 = .lit (.int .i64 r230) ∧ True) (by refine ⟨e155, e156, e157, e158, e159, e160, e161, e162, e163, ?_, trivial⟩ <;> first | (simp only [ua, b164, e155, e156, e157, e158, e159, e160, e161, e162, e163, d165, nm, seval] <;> rfl) | rfl) ?_
            rintro tm ⟨e232, e233, e234, e235, e236, e237, e238, e239, e240, e241, _⟩
            obtain ⟨r242, o243, h⟩ := optI h kN116
            try simp only [hs] at h
            simp only [vz, tyf, b164, d165, (zea d165), e232, e233, e234, e235, e236, e237, e238, e239, e240, e241, nm, seval]
            refine dktA (zem _ _ _ _ o243) ?_
            refine zac (fun tm => tm 1 = .sl (cellsL eI x1_a1) (List.length x1_a1) false ∧ tm 3 = .ptr 0 0 ∧ tm 5 = .ptr 1 0 ∧ tm 7 = .ptr 24 0 ∧ tm 9 = .ptr 33 0 ∧ tm 11 = .lit (.int .i64 r56.1) ∧ tm 13 = .ptr 50 0 ∧ tm 15 = .lit (.bool r78.1) ∧ tm 17 = .lit (.int .i64 c116_17) ∧ tm 124 = .lit (.int .i64 r230) ∧ tm 128 = .lit (.int .i64 r242) ∧ True) (by refine ⟨e232, e233, e234, e235, e236, e237, e238, e239, e240, e241, ?_, trivial⟩ <;> first | (simp only [ua, b164, d165, e232, e233, e234, e235, e236, e237, e238, e239, e240, e241, nm, seval] <;> rfl) | rfl) ?_
            rintro tm ⟨e244, e245, e246, e247, e248, e249, e250, e251, e252, e253, e254, _⟩
            cases d255 : (decide (r230 < r42.1.a0.Low))
            ·simp only [d255, hs] at h
             cases d256 : (decide (r230 > r42.1.a0.High))
             ·simp only [d256, hs] at h
              cases d257 : (decide (r242 < r48.1.a0.Low))
              ·simp only [d257, hs] at h
               cases d258 : (decide (r242 > r48.1.a0.High))
               ·simp only [d258, hs] at h
                simp only [vz, tyf, b164, d165, (zea d165), e244, e245, e246, e247, e248, e249, e250, e251, e252, e253, e254, (zfy d165), d255, d256, d257, d258, nm, seval]
                exact ⟨p116, Nat.lt_succ_self _, by rw [hI116]; refine ⟨p116, c116_17 + 1, rfl, zld hi116, zgb hp116, rfl, (show 108 ≤ nx116 + 50 by omega), ?_, ?_, ?_, ?_, ?_, e244, e245, e246, e247, e248, e249, e250, e251, ?_, h⟩ <;> first | (simp only [ua, b164, d165, e244, e245, e246, e247, e248, e249, e250, e251, e252, e253, e254, d255, d256, d257, d258, nm, seval] <;> rfl) | rfl⟩
               simp only [d258, hs] at h
               try simp only [vz, tyf, b164, d165, (zea d165), e244, e245, e246, e247, e248, e249, e250, e251, e252, e253, e254, (zfy d165), d255, d256, d257, d258, nm, seval]
               replace h := kR116 _ h
               try dsimp only at h
               obtain rfl := kF _ h
               exact zaa Tryz.results6 rfl
              simp only [d257, hs] at h
              try simp only [vz, tyf, b164, d165, (zea d165), e244, e245, e246, e247, e248, e249, e250, e251, e252, e253, e254, (zfy d165), d255, d256, d257, nm, seval]
              replace h := kR116 _ h
              try dsimp only at h
              obtain rfl := kF _ h
              exact zaa Tryz.results6 rfl
             simp only [d256, hs] at h
             try simp only [vz, tyf, b164, d165, (zea d165), e244, e245, e246, e247, e248, e249, e250, e251, e252, e253, e254, (zfy d165), d255, d256, nm, seval]
             replace h := kR116 _ h
             try dsimp only at h
             obtain rfl := kF _ h
             exact zaa Tryz.results6 rfl
            simp only [d255, hs] at h
            try simp only [vz, tyf, b164, d165, (zea d165), e244, e245, e246, e247, e248, e249, e250, e251, e252, e253, e254, (zfy d165), d255, nm, seval]
            replace h := kR116 _ h
            try dsimp only at h
            obtain rfl := kF _ h
            exact zaa Tryz.results6 rfl
          simp only [d115, hs] at h
          try simp only [vz, tyf, b96, d97, e100, e101, e102, e103, e104, e105, e106, e107, e108, e109, e110, e111, d112, d113, d114, d115, nm, seval]
          obtain rfl := kF _ h
          exact zaa Tryz.results6 rfl
         simp only [d114, hs] at h
         try simp only [vz, tyf, b96, d97, e100, e101, e102, e103, e104, e105, e106, e107, e108, e109, e110, e111, d112, d113, d114, nm, seval]
         obtain rfl := kF _ h
         exact zaa Tryz.results6 rfl
        simp only [d113, hs] at h
        try simp only [vz, tyf, b96, d97, e100, e101, e102, e103, e104, e105, e106, e107, e108, e109, e110, e111, d112, d113, nm, seval]
        obtain rfl := kF _ h
        exact zaa Tryz.results6 rfl
       simp only [d112, hs] at h
       try simp only [vz, tyf, b96, d97, e100, e101, e102, e103, e104, e105, e106, e107, e108, e109, e110, e111, d112, nm, seval]
       obtain rfl := kF _ h
       exact zaa Tryz.results6 rfl
      simp only [d97, hs] at h
      try simp only [vz, tyf, b96, e80, e81, e82, e83, e84, e85, e86, e87, e88, e89, e90, e91, d97, nm, seval]
      obtain rfl := kF _ h
      exact zaa Tryz.results6 rfl
     simp only [d95, hs] at h
     have b259 := And.intro d32 (And.intro d33 (And.intro d41 (And.intro d92 (And.intro d93 (And.intro d94 d95)))))
     cases d260 : (r66.2 != 5)
     ·simp only [d260, hs] at h
      cases d261 : (r78.2 != 0)
      ·simp only [d261, hs] at h
       obtain ⟨r262, o263, h⟩ := optI h kN
       try simp only [hs] at h
       simp only [vz, tyf, b259, e80, e81, e82, e83, e84, e85, e86, e87, e88, e89, e90, e91, d260, d261, nm, seval]
       refine ktA (zkx _ _ _ _ o263) ?_
       refine zac (fun tm => tm 1 = .sl (cellsL eI x1_a1) (List.length x1_a1) false ∧ tm 3 = .ptr 0 0 ∧ tm 5 = .ptr 1 0 ∧ tm 7 = .ptr 24 0 ∧ tm 9 = .ptr 33 0 ∧ tm 11 = .lit (.int .i64 r56.1) ∧ tm 13 = .ptr 50 0 ∧ tm 14 = .lit (.int .i64 r66.2) ∧ tm 15 = .lit (.bool r78.1) ∧ tm 89 = .lit (.bool false) ∧ tm 90 = .lit (.bool r78.1) ∧ tm 94 = .lit (.bool r262) ∧ True) (by refine ⟨e80, e81, e82, e83, e85, e87, e89, e90, ?_, ?_, ?_, ?_, trivial⟩ <;> first | (simp only [ua, b259, e80, e81, e82, e83, e84, e85, e86, e87, e88, e89, e90, e91, d260, d261, nm, seval] <;> rfl) | rfl) ?_
       rintro tm ⟨e264, e265, e266, e267, e268, e269, e270, e271, e272, e273, e274, e275, _⟩
       cases d276 : (r78.1 != r262)
       ·simp only [d276, hs] at h
        cases d277 : (decide (r56.1 < 1))
        ·simp only [d277, hs] at h
         cases d278 : (decide (r56.1 > 3))
         ·simp only [d278, hs] at h
          cases d279 : ((r56.1 == 1) != (r66.2 == 5))
          ·simp only [d279, hs] at h
           have b280 := And.intro b259 (And.intro d260 (And.intro d261 (And.intro d276 (And.intro d277 (And.intro d278 d279)))))
           cases g282 : (boundOk 3)
           ·simp only [g282, hs] at h
            exact absurd h kN
           simp only [g282, hs] at h
           simp only [vz, tyf, b280, e264, e265, e266, e267, e268, e269, e270, e271, e272, e273, e274, e275, g282, nm, seval]
           obtain ⟨K281, h, kR281, kG281, kB281, kN281⟩ := zau h kN
           obtain ⟨f281, hf281, h⟩ := call2 h
           obtain ⟨I281, hI281⟩ : ∃ I : Nat → St → Prop, I = (fun m st => ∃ (p281 : Nat) (c281_17 : Int), p281 = m ∧ loOk c281_17 = true ∧ Int.toNat (3 - c281_17) = p281 ∧ st.df = [] ∧ 108 ≤ st.nx ∧ st.H 0 = some (.cells (some 28) (cGs x0_s)) ∧ st.H 1 = some (.cells (some 42) (cGu x2_a2)) ∧ st.H 24 = some (.cells (some 25) (cGa r42.1)) ∧ st.H 33 = some (.cells (some 25) (cGa r48.1)) ∧ st.H 50 = some (.cells (some 24) (cGSpan r66.1)) ∧ st.tm 1 = .sl (cellsL eI x1_a1) (List.length x1_a1) false ∧ st.tm 3 = .ptr 0 0 ∧ st.tm 5 = .ptr 1 0 ∧ st.tm 7 = .ptr 24 0 ∧ st.tm 9 = .ptr 33 0 ∧ st.tm 11 = .lit (.int .i64 r56.1) ∧ st.tm 13 = .ptr 50 0 ∧ st.tm 15 = .lit (.bool r78.1) ∧ st.tm 17 = .lit (.int .i64 c281_17) ∧ K281 (f281 p281 c281_17)) := ⟨_, rfl⟩
           refine loopK mixed (by kernel_rfl) I281 (Int.toNat (3 - 0)) (by rw [hI281]; refine ⟨Int.toNat (3 - 0), 0, rfl, (by rfl), rfl, rfl, (show 108 ≤ 108 by omega), ?_, ?_, ?_, ?_, ?_, e264, e265, e266, e267, e268, e269, e270, e272, ?_, h⟩ <;> first | (simp only [ua, b280, e264, e265, e266, e267, e268, e269, e270, e271, e272, e273, e274, e275, nm, seval] <;> rfl) | rfl) ?_
           rintro m ⟨tm, H, nx281, df⟩ hinv
           rw [hI281] at hinv
           obtain ⟨p281, c281_17, rfl, hi281, hp281, hdf, hn281, H283, H284, H285, H286, H287, e288, e289, e290, e291, e292, e293, e294, e295, e296, h⟩ := hinv
           simp only at hdf hn281 H283 H284 H285 H286 H287 e288 e289 e290 e291 e292 e293 e294 e295 e296
           have n297 := zcf (m := 108) (b := nx281) (by omega)
           subst hdf hf281
           cases p281 with
           | zero =>
            have d298 : (decide (c281_17 < 3)) = false := zjo hp281
            simp only [zbg, zbh, hs, reduceCtorEq] at h
            replace h := kG281 _ h
            try dsimp only at h
            try simp only [hs] at h
            cases d299 : (r56.1 == 3)
            ·simp only [d299, hs] at h
             have b300 := And.intro b280 (And.intro g282 (And.intro n297 (And.intro H283 (And.intro H284 (And.intro H285 (And.intro H286 (And.intro H287 (And.intro d298 d299))))))))
             cases d301 : (r56.1 == 1)
             ·simp only [d301, hs] at h
              have d302 := d279
              simp only [d301] at d302
              cases d303 : (r78.1)
              ·simp only [d303, hs] at h
               simp only [vz, tyf, b300, e288, e289, e290, e291, e292, e293, e294, e295, e296, d301, d302, d303, nm, seval]
               refine ktree0 zbq ?_
               try simp only [vz, tyf, b300, e288, e289, e290, e291, e292, e293, e294, e295, e296, d301, d302, d303, nm, seval]
               obtain rfl := kF _ h
               exact zaa Tryz.results6 rfl
              simp only [d303, hs] at h
              cases d304 : (decide (x2_a2.Years ≥ r66.1.Low))
              ·simp only [d304, hs] at h
               try simp only [vz, tyf, b300, e288, e289, e290, e291, e292, e293, e294, e295, e296, d301, d302, d303, d304, nm, seval]
               obtain rfl := kF _ h
               exact zaa Tryz.results6 rfl
              simp only [d304, hs] at h
              cases d305 : (decide (x2_a2.Years ≤ r66.1.High))
              ·simp only [d305, hs] at h
               try simp only [vz, tyf, b300, e288, e289, e290, e291, e292, e293, e294, e295, e296, d301, d302, d303, d304, d305, nm, seval]
               obtain rfl := kF _ h
               exact zaa Tryz.results6 rfl
              simp only [d305, hs] at h
              simp only [vz, tyf, b300, e288, e289, e290, e291, e292, e293, e294, e295, e296, d301, d302, d303, d304, d305, nm, seval]
              refine ktree0 zbq ?_
              try simp only [vz, tyf, b300, e288, e289, e290, e291, e292, e293, e294, e295, e296, d301, d302, d303, d304, d305, nm, seval]
              obtain rfl := kF _ h
              exact zaa Tryz.results6 rfl
             simp only [d301, hs] at h
             have d306 := d279
             simp only [d301] at d306
             cases d307 : (r78.1)
             ·simp only [d307, hs] at h
              simp only [vz, tyf, b300, e288, e289, e290, e291, e292, e293, e294, e295, e296, d301, d306, d307, nm, seval]
              refine ktree0 zbq ?_
              try simp only [vz, tyf, b300, e288, e289, e290, e291, e292, e293, e294, e295, e296, d301, d306, d307, nm, seval]
              obtain rfl := kF _ h
              exact zaa Tryz.results6 rfl
             simp only [d307, hs] at h
             try simp only [vz, tyf, b300, e288, e289, e290, e291, e292, e293, e294, e295, e296, d301, d306, d307, nm, seval]
             obtain rfl := kF _ h
             exact zaa Tryz.results6 rfl
            simp only [d299, hs] at h
            have b308 := And.intro b280 (And.intro g282 (And.intro n297 (And.intro H283 (And.intro H284 (And.intro H285 (And.intro H286 (And.intro H287 (And.intro d298 d299))))))))
            cases d309 : (r78.1)
            ·simp only [d309, hs] at h
             try simp only [vz, tyf, b308, e288, e289, e290, e291, e292, e293, e294, e295, e296, d309, nm, seval]
             obtain rfl := kF _ h
             exact zaa Tryz.results6 rfl
            simp only [d309, hs] at h
            cases d310 : (r66.1.Low == x0_s.Years.Low && (r66.1.High == x0_s.Years.High))
            ·simp only [d310, hs] at h
             try simp only [vz, tyf, b308, e288, e289, e290, e291, e292, e293, e294, e295, e296, d309, d310, nm, seval]
             obtain rfl := kF _ h
             exact zaa Tryz.results6 rfl
            simp only [d310, hs] at h
            cases d311 : (r56.1 == 1)
            ·simp only [d311, hs] at h
             have d312 := d279
             simp only [d311] at d312
             cases d313 : (decide (x2_a2.Years ≥ r66.1.Low))
             ·simp only [d313, hs] at h
              try simp only [vz, tyf, b308, e288, e289, e290, e291, e292, e293, e294, e295, e296, d309, d310, d311, d312, d313, nm, seval]
              obtain rfl := kF _ h
              exact zaa Tryz.results6 rfl
             simp only [d313, hs] at h
             cases d314 : (decide (x2_a2.Years ≤ r66.1.High))
             ·simp only [d314, hs] at h
              have b315 := And.intro b308 (And.intro d309 (And.intro d310 (And.intro d311 (And.intro d312 (And.intro d313 d314)))))
              try simp only [vz, tyf, b315, e288, e289, e290, e291, e292, e293, e294, e295, e296, nm, seval]
              obtain rfl := kF _ h
              exact zaa Tryz.results6 rfl
             simp only [d314, hs] at h
             have b316 := And.intro b308 (And.intro d309 (And.intro d310 (And.intro d311 (And.intro d312 (And.intro d313 d314)))))
             simp only [vz, tyf, b316, e288, e289, e290, e291, e292, e293, e294, e295, e296, nm, seval]
             refine ktree0 zbq ?_
             try simp only [vz, tyf, b316, e288, e289, e290, e291, e292, e293, e294, e295, e296, nm, seval]
             obtain rfl := kF _ h
             exact zaa Tryz.results6 rfl
            simp only [d311, hs] at h
            have d317 := d279
            simp only [d311] at d317
            try simp only [vz, tyf, b308, e288, e289, e290, e291, e292, e293, e294, e295, e296, d309, d310, d311, d317, nm, seval]
            obtain rfl := kF _ h
            exact zaa Tryz.results6 rfl
           | succ p281 =>
            have d318 : (decide (c281_17 < 3)) = true := zada hp281
            have w319 := zos hi281 hp281 g282
            simp only [zbg, zbh, hs, reduceCtorEq] at h
            simp only [vz, tyf, b280, g282, n297, e288, e289, e290, e291, e292, e293, e294, e295, e296, H283, H284, H285, H286, H287, d318, w319, nm, seval]
            refine zcq (fun tm => tm 1 = .sl (cellsL eI x1_a1) (List.length x1_a1) false ∧ tm 3 = .ptr 0 0 ∧ tm 5 = .ptr 1 0 ∧ tm 7 = .ptr 24 0 ∧ tm 9 = .ptr 33 0 ∧ tm 11 = .lit (.int .i64 r56.1) ∧ tm 13 = .ptr 50 0 ∧ tm 15 = .lit (.bool r78.1) ∧ tm 17 = .lit (.int .i64 c281_17) ∧ True) (by refine ⟨e288, e289, e290, e291, e292, e293, e294, e295, e296, trivial⟩ <;> first | (simp only [ua, b280, n297, e288, e289, e290, e291, e292, e293, e294, e295, e296, H283, H284, H285, H286, H287, d318, w319, nm, seval] <;> rfl) | rfl) ?_
            rintro tm ⟨e320, e321, e322, e323, e324, e325, e326, e327, e328, _⟩
            have b329 := And.intro b280 (And.intro g282 (And.intro n297 (And.intro H283 (And.intro H284 (And.intro H285 (And.intro H286 (And.intro H287 (And.intro d318 w319))))))))
            cases d330 : (c281_17 == 0)
            ·simp only [d330, hs] at h
             cases d331 : (c281_17 == 1)
             ·simp only [d331, hs] at h
              cases d332 : (c281_17 == 2)
              ·simp only [d332, hs] at h
               exact absurd h kN281
              simp only [d332, hs] at h
              obtain ⟨r333, o334, h⟩ := optI h kN281
              try simp only [hs] at h
              simp only [vz, tyf, b329, e320, e321, e322, e323, e324, e325, e326, e327, e328, d330, d331, d332, (zed d332), nm, seval]
              refine dktA (zcn _ _ _ _ _ o334) ?_
              refine zac (fun tm => tm 1 = .sl (cellsL eI x1_a1) (List.length x1_a1) false ∧ tm 3 = .ptr 0 0 ∧ tm 5 = .ptr 1 0 ∧ tm 7 = .ptr 24 0 ∧ tm 9 = .ptr 33 0 ∧ tm 11 = .lit (.int .i64 r56.1) ∧ tm 13 = .ptr 50 0 ∧ tm 15 = .lit (.bool r78.1) ∧ tm 17 = .lit (.int .i64 c281_17) ∧ tm 124 = .lit (.int .i64 r333) ∧ True) (by refine ⟨e320, e321, e322, e323, e324, e325, e326, e327, e328, ?_, trivial⟩ <;> first | (simp only [ua, b329, e320, e321, e322, e323, e324, e325, e326, e327, e328, d330, d331, d332, nm, seval] <;> rfl) | rfl) ?_
              rintro tm ⟨e335, e336, e337, e338, e339, e340, e341, e342, e343, e344, _⟩
              obtain ⟨r345, o346, h⟩ := optI h kN281
              try simp only [hs] at h
              simp only [vz, tyf, b329, d330, d331, d332, (zed d332), e335, e336, e337, e338, e339, e340, e341, e342, e343, e344, nm, seval]
              refine dktA (zem _ _ _ _ o346) ?_
              refine zac (fun tm => tm 1 = .sl (cellsL eI x1_a1) (List.length x1_a1) false ∧ tm 3 = .ptr 0 0 ∧ tm 5 = .ptr 1 0 ∧ tm 7 = .ptr 24 0 ∧ tm 9 = .ptr 33 0 ∧ tm 11 = .lit (.int .i64 r56.1) ∧ tm 13 = .ptr 50 0 ∧ tm 15 = .lit (.bool r78.1) ∧ tm 17 = .lit (.int .i64 c281_17) ∧ tm 124 = .lit (.int .i64 r333) ∧ tm 128 = .lit (.int .i64 r345) ∧ True) (by refine ⟨e335, e336, e337, e338, e339, e340, e341, e342, e343, e344, ?_, trivial⟩ <;> first | (simp only [ua, b329, d330, d331, d332, e335, e336, e337, e338, e339, e340, e341, e342, e343, e344, nm, seval] <;> rfl) | rfl) ?_
              rintro tm ⟨e347, e348, e349, e350, e351, e352, e353, e354, e355, e356, e357, _⟩
              cases d358 : (decide (r333 < r42.1.a2.Low))
              ·simp only [d358, hs] at h
               cases d359 : (decide (r333 > r42.1.a2.High))
               ·simp only [d359, hs] at h
                cases d360 : (decide (r345 < r48.1.a2.Low))
                ·simp only [d360, hs] at h
                 have b361 := And.intro b329 (And.intro d330 (And.intro d331 (And.intro d332 (And.intro d358 (And.intro d359 d360)))))
                 cases d362 : (decide (r345 > r48.1.a2.High))
                 ·simp only [d362, hs] at h
                  simp only [vz, tyf, b361, (zed d332), e347, e348, e349, e350, e351, e352, e353, e354, e355, e356, e357, (zfz d332), d362, nm, seval]
                  exact ⟨p281, Nat.lt_succ_self _, by rw [hI281]; refine ⟨p281, c281_17 + 1, rfl, zld hi281, zgb hp281, rfl, (show 108 ≤ nx281 + 50 by omega), ?_, ?_, ?_, ?_, ?_, e347, e348, e349, e350, e351, e352, e353, e354, ?_, h⟩ <;> first | (simp only [ua, b361, e347, e348, e349, e350, e351, e352, e353, e354, e355, e356, e357, d362, nm, seval] <;> rfl) | rfl⟩
                 simp only [d362, hs] at h
                 try simp only [vz, tyf, b361, (zed d332), e347, e348, e349, e350, e351, e352, e353, e354, e355, e356, e357, (zfz d332), d362, nm, seval]
                 replace h := kR281 _ h
                 try dsimp only at h
                 obtain rfl := kF _ h
                 exact zaa Tryz.results6 rfl
                simp only [d360, hs] at h
                have b363 := And.intro b329 (And.intro d330 (And.intro d331 (And.intro d332 (And.intro d358 (And.intro d359 d360)))))
                try simp only [vz, tyf, b363, (zed d332), e347, e348, e349, e350, e351, e352, e353, e354, e355, e356, e357, (zfz d332), nm, seval]
                replace h := kR281 _ h
                try dsimp only at h
                obtain rfl := kF _ h
                exact zaa Tryz.results6 rfl
               simp only [d359, hs] at h
               try simp only [vz, tyf, b329, d330, d331, d332, (zed d332), e347, e348, e349, e350, e351, e352, e353, e354, e355, e356, e357, (zfz d332), d358, d359, nm, seval]
               replace h := kR281 _ h
               try dsimp only at h
               obtain rfl := kF _ h
               exact zaa Tryz.results6 rfl
              simp only [d358, hs] at h
              try simp only [vz, tyf, b329, d330, d331, d332, (zed d332), e347, e348, e349, e350, e351, e352, e353, e354, e355, e356, e357, (zfz d332), d358, nm, seval]
              replace h := kR281 _ h
              try dsimp only at h
              obtain rfl := kF _ h
              exact zaa Tryz.results6 rfl
             simp only [d331, hs] at h
             obtain ⟨r364, o365, h⟩ := optI h kN281
             try simp only [hs] at h
             simp only [vz, tyf, b329, e320, e321, e322, e323, e324, e325, e326, e327, e328, d330, d331, (zee d331), nm, seval]
             refine dktA (zcn _ _ _ _ _ o365) ?_
             refine zac (fun tm => tm 1 = .sl (cellsL eI x1_a1) (List.length x1_a1) false ∧ tm 3 = .ptr 0 0 ∧ tm 5 = .ptr 1 0 ∧ tm 7 = .ptr 24 0 ∧ tm 9 = .ptr 33 0 ∧ tm 11 = .lit (.int .i64 r56.1) ∧ tm 13 = .ptr 50 0 ∧ tm 15 = .lit (.bool r78.1) ∧ tm 17 = .lit (.int .i64 c281_17) ∧ tm 124 = .lit (.int .i64 r364) ∧ True) (by refine ⟨e320, e321, e322, e323, e324, e325, e326, e327, e328, ?_, trivial⟩ <;> first | (simp only [ua, b329, e320, e321, e322, e323, e324, e325, e326, e327, e328, d330, d331, nm, seval] <;> rfl) | rfl) ?_
             rintro tm ⟨e366, e367, e368, e369, e370, e371, e372, e373, e374, e375, _⟩
             obtain ⟨r376, o377, h⟩ := optI h kN281
             try simp only [hs] at h
             simp only [vz, tyf, b329, d330, d331, (zee d331), e366, e367, e368, e369, e370, e371, e372, e373, e374, e375, nm, seval]
             refine dktA (zem _ _ _ _ o377) ?_
             refine zac (fun tm => tm 1 = .sl (cellsL eI x1_a1) (List.length x1_a1) false ∧ tm 3 = .ptr 0 0 ∧ tm 5 = .ptr 1 0 ∧ tm 7 = .ptr 24 0 ∧ tm 9 = .ptr 33 0 ∧ tm 11 = .lit (.int .i64 r56.1) ∧ tm 13 = .ptr 50 0 ∧ tm 15 = .lit (.bool r78.1) ∧ tm 17 = .lit (.int .i64 c281_17) ∧ tm 124 = .lit (.int .i64 r364) ∧ tm 128 = .lit (.int .i64 r376) ∧ True) (by refine ⟨e366, e367, e368, e369, e370, e371, e372, e373, e374, e375, ?_, trivial⟩ <;> first | (simp only [ua, b329, d330, d331, e366, e367, e368, e369, e370, e371, e372, e373, e374, e375, nm, seval] <;> rfl) | rfl) ?_
             rintro tm ⟨e378, e379, e380, e381, e382, e383, e384, e385, e386, e387, e388, _⟩
             cases d389 : (decide (r364 < r42.1.a1.Low))
             ·simp only [d389, hs] at h
              cases d390 : (decide (r364 > r42.1.a1.High))
              ·simp only [d390, hs] at h
               cases d391 : (decide (r376 < r48.1.a1.Low))
               ·simp only [d391, hs] at h
                cases d392 : (decide (r376 > r48.1.a1.High))
                ·simp only [d392, hs] at h
                 have b393 := And.intro b329 (And.intro d330 (And.intro d331 (And.intro d389 (And.intro d390 (And.intro d391 d392)))))
                 simp only [vz, tyf, b393, (zee d331), e378, e379, e380, e381, e382, e383, e384, e385, e386, e387, e388, (zga d331), nm, seval]
                 exact ⟨p281, Nat.lt_succ_self _, by rw [hI281]; refine ⟨p281, c281_17 + 1, rfl, zld hi281, zgb hp281, rfl, (show 108 ≤ nx281 + 50 by omega), ?_, ?_, ?_, ?_, ?_, e378, e379, e380, e381, e382, e383, e384, e385, ?_, h⟩ <;> first | (simp only [ua, b393, e378, e379, e380, e381, e382, e383, e384, e385, e386, e387, e388, nm, seval] <;> rfl) | rfl⟩
                simp only [d392, hs] at h
                have b394 := And.intro b329 (And.intro d330 (And.intro d331 (And.intro d389 (And.intro d390 (And.intro d391 d392)))))
                try simp only [vz, tyf, b394, (zee d331), e378, e379, e380, e381, e382, e383, e384, e385, e386, e387, e388, (zga d331), nm, seval]
                replace h := kR281 _ h
                try dsimp only at h
                obtain rfl := kF _ h
                exact zaa Tryz.results6 rfl
               simp only [d391, hs] at h
               try simp only [vz, tyf, b329, d330, d331, (zee d331), e378, e379, e380, e381, e382, e383, e384, e385, e386, e387, e388, (zga d331), d389, d390, d391, nm, seval]
               replace h := kR281 _ h
               try dsimp only at h
               obtain rfl := kF _ h
               exact zaa Tryz.results6 rfl
              simp only [d390, hs] at h
              try simp only [vz, tyf, b329, d330, d331, (zee d331), e378, e379, e380, e381, e382, e383, e384, e385, e386, e387, e388, (zga d331), d389, d390, nm, seval]
              replace h := kR281 _ h
              try dsimp only at h
              obtain rfl := kF _ h
              exact zaa Tryz.results6 rfl
             simp only [d389, hs] at h
             try simp only [vz, tyf, b329, d330, d331, (zee d331), e378, e379, e380, e381, e382, e383, e384, e385, e386, e387, e388, (zga d331), d389, nm, seval]
             replace h := kR281 _ h
             try dsimp only at h
             obtain rfl := kF _ h
             exact zaa Tryz.results6 rfl
            simp only [d330, hs] at h
            obtain ⟨r395, o396, h⟩ := optI h kN281
            try simp only [hs] at h
            simp only [vz, tyf, b329, e320, e321, e322, e323, e324, e325, e326, e327, e328, d330, (zea d330), nm, seval]
            refine dktA (zcn _ _ _ _ _ o396) ?_
            refine zac (fun tm => tm 1 = .sl (cellsL eI x1_a1) (List.length x1_a1) false ∧ tm 3 = .ptr 0 0 ∧ tm 5 = .ptr 1 0 ∧ tm 7 = .ptr 24 0 ∧ tm 9 = .ptr 33 0 ∧ tm 11 = .lit (.int .i64 r56.1) ∧ tm 13 = .ptr 50 0 ∧ tm 15 = .lit (.bool r78.1) ∧ tm 17 = .lit (.int .i64 c281_17) ∧ tm 124 = .lit (.int .i64 r395) ∧ True) (by refine ⟨e320, e321, e322, e323, e324, e325, e326, e327, e328, ?_, trivial⟩ <;> first | (simp only [ua, b329, e320, e321, e322, e323, e324, e325, e326, e327, e328, d330, nm, seval] <;> rfl) | rfl) ?_
            rintro tm ⟨e397, e398, e399, e400, e401, e402, e403, e404, e405, e406, _⟩
            obtain ⟨r407, o408, h⟩ := optI h kN281
            try simp only [hs] at h
            simp only [vz, tyf, b329, d330, (zea d330), e397, e398, e399, e400, e401, e402, e403, e404, e405, e406, nm, seval]
            refine dktA (zem _ _ _ _ o408) ?_
            refine zac (fun tm => tm 1 = .sl (cellsL eI x1_a1) (List.length x1_a1) false ∧ tm 3 = .ptr 0 0 ∧ tm 5 = .ptr 1 0 ∧ tm 7 = .ptr 24 0 ∧ tm 9 = .ptr 33 0 ∧ tm 11 = .lit (.int .i64 r56.1) ∧ tm 13 = .ptr 50 0 ∧ tm 15 = .lit (.bool r78.1) ∧ tm 17 = .lit (.int .i64 c281_17) ∧ tm 124 = .lit (.int .i64 r395) ∧ tm 128 = .lit (.int .i64 r407) ∧ True) (by refine ⟨e397, e398, e399, e400, e401, e402, e403, e404, e405, e406, ?_, trivial⟩ <;> first | (simp only [ua, b329, d330, e397, e398, e399, e400, e401, e402, e403, e404, e405, e406, nm, seval] <;> rfl) | rfl) ?_
            rintro tm ⟨e409, e410, e411, e412, e413, e414, e415, e416, e417, e418, e419, _⟩
            cases d420 : (decide (r395 < r42.1.a0.Low))
            ·simp only [d420, hs] at h
             cases d421 : (decide (r395 > r42.1.a0.High))
             ·simp only [d421, hs] at h
              cases d422 : (decide (r407 < r48.1.a0.Low))
              ·simp only [d422, hs] at h
               cases d423 : (decide (r407 > r48.1.a0.High))
               ·simp only [d423, hs] at h
                simp only [vz, tyf, b329, d330, (zea d330), e409, e410, e411, e412, e413, e414, e415, e416, e417, e418, e419, (zfy d330), d420, d421, d422, d423, nm, seval]
                exact ⟨p281, Nat.lt_succ_self _, by rw [hI281]; refine ⟨p281, c281_17 + 1, rfl, zld hi281, zgb hp281, rfl, (show 108 ≤ nx281 + 50 by omega), ?_, ?_, ?_, ?_, ?_, e409, e410, e411, e412, e413, e414, e415, e416, ?_, h⟩ <;> first | (simp only [ua, b329, d330, e409, e410, e411, e412, e413, e414, e415, e416, e417, e418, e419, d420, d421, d422, d423, nm, seval] <;> rfl) | rfl⟩
               simp only [d423, hs] at h
               try simp only [vz, tyf, b329, d330, (zea d330), e409, e410, e411, e412, e413, e414, e415, e416, e417, e418, e419, (zfy d330), d420, d421, d422, d423, nm, seval]
               replace h := kR281 _ h
               try dsimp only at h
               obtain rfl := kF _ h
               exact zaa Tryz.results6 rfl
              simp only [d422, hs] at h
              try simp only [vz, tyf, b329, d330, (zea d330), e409, e410, e411, e412, e413, e414, e415, e416, e417, e418, e419, (zfy d330), d420, d421, d422, nm, seval]
              replace h := kR281 _ h
              try dsimp only at h
              obtain rfl := kF _ h
              exact zaa Tryz.results6 rfl
             simp only [d421, hs] at h
             try simp only [vz, tyf, b329, d330, (zea d330), e409, e410, e411, e412, e413, e414, e415, e416, e417, e418, e419, (zfy d330), d420, d421, nm, seval]
             replace h := kR281 _ h
             try dsimp only at h
             obtain rfl := kF _ h
             exact zaa Tryz.results6 rfl
            simp only [d420, hs] at h
            try simp only [vz, tyf, b329, d330, (zea d330), e409, e410, e411, e412, e413, e414, e415, e416, e417, e418, e419, (zfy d330), d420, nm, seval]
            replace h := kR281 _ h
            try dsimp only at h
            obtain rfl := kF _ h
            exact zaa Tryz.results6 rfl
          simp only [d279, hs] at h
          have b424 := And.intro b259 (And.intro d260 (And.intro d261 (And.intro d276 (And.intro d277 (And.intro d278 d279)))))
          try simp only [vz, tyf, b424, e264, e265, e266, e267, e268, e269, e270, e271, e272, e273, e274, e275, nm, seval]
          obtain rfl := kF _ h
          exact zaa Tryz.results6 rfl
         simp only [d278, hs] at h
         try simp only [vz, tyf, b259, d260, d261, e264, e265, e266, e267, e268, e269, e270, e271, e272, e273, e274, e275, d276, d277, d278, nm, seval]
         obtain rfl := kF _ h
         exact zaa Tryz.results6 rfl
        simp only [d277, hs] at h
        try simp only [vz, tyf, b259, d260, d261, e264, e265, e266, e267, e268, e269, e270, e271, e272, e273, e274, e275, d276, d277, nm, seval]
        obtain rfl := kF _ h
        exact zaa Tryz.results6 rfl
       simp only [d276, hs] at h
       try simp only [vz, tyf, b259, d260, d261, e264, e265, e266, e267, e268, e269, e270, e271, e272, e273, e274, e275, d276, nm, seval]
       obtain rfl := kF _ h
       exact zaa Tryz.results6 rfl
      simp only [d261, hs] at h
      try simp only [vz, tyf, b259, e80, e81, e82, e83, e84, e85, e86, e87, e88, e89, e90, e91, d260, d261, nm, seval]
      obtain rfl := kF _ h
      exact zaa Tryz.results6 rfl
     simp only [d260, hs] at h
     try simp only [vz, tyf, b259, e80, e81, e82, e83, e84, e85, e86, e87, e88, e89, e90, e91, d260, nm, seval]
     obtain rfl := kF _ h
     exact zaa Tryz.results6 rfl
    simp only [d94, hs] at h
    try simp only [vz, tyf, d32, d33, d41, e80, e81, e82, e83, e84, e85, e86, e87, e88, e89, e90, e91, d92, d93, d94, nm, seval]
    obtain rfl := kF _ h
    exact zaa Tryz.results6 rfl
   simp only [d93, hs] at h
   try simp only [vz, tyf, d32, d33, d41, e80, e81, e82, e83, e84, e85, e86, e87, e88, e89, e90, e91, d92, d93, nm, seval]
   obtain rfl := kF _ h
   exact zaa Tryz.results6 rfl
  simp only [d92, hs] at h
  try simp only [vz, tyf, d32, d33, d41, e80, e81, e82, e83, e84, e85, e86, e87, e88, e89, e90, e91, d92, nm, seval]
  obtain rfl := kF _ h
  exact zaa Tryz.results6 rfl
 simp only [d33, hs] at h
 simp only [vz, tyf, e28, e29, e30, e31, d32, d33, nm, seval]
 refine ktree0 zbq ?_
 try simp only [vz, tyf, e28, e29, e30, e31, d32, d33, nm, seval]
 obtain rfl := kF _ h
 exact zaa Tryz.results6 rfl
end Go.V
end
section
namespace Go.V
open Go
theorem zro {A : Int → Bool} : ∀ (k : Nat) (c a : Int) (l : List Int), yL A k c = a :: l → ∀ y ∈ a :: l, a ≤ y ∧ y ≤ (a :: l).getLast (by simp)
 | 0, _, _, _, h, _, _ => by cases h
 | k + 1, c, a, l, h, y, hy => by
  rw [yL] at h
  cases hA : A c with
  | false =>
   rw [hA, cond_false] at h
   exact zro k (c + 1) a l h y hy
  | true =>
   rw [hA, cond_true] at h
   injection h with h1 h2
   subst h1
   cases l with
   | nil =>
    rw [List.mem_singleton] at hy
    subst hy
    exact ⟨Int.le_refl _, Int.le_refl _⟩
   | cons b l =>
    have hl0 : ((b :: l).getLast (by simp)) ∈ yL A k (c + 1) := by
     rw [h2]
     exact List.getLast_mem _
    have hl := (zacd k (c + 1)).1 hl0
    have hg : (c :: b :: l).getLast (by simp) = (b :: l).getLast (by simp) := List.getLast_cons (by simp)
    rcases List.mem_cons.1 hy with rfl | hy
    ·exact ⟨Int.le_refl _, by rw [hg]; omega⟩
    ·have ih := zro k (c + 1) b l h2 y hy
     rw [← h2, zacd] at hy
     exact ⟨by omega, by rw [hg]; exact ih.2⟩
theorem zalq {s : Gs} (h : lenOk s.Tins = true) {mix : List Int} (hm : lenOk mix = true) : ∃ b, zgy s mix = some b ∧ (b = true → ShOk s ∧ MixOk s mix) := by
 unfold zgy
 rw [show zhw s = some (decide ((List.length s.Tins : Int) ≤ 6)) from rfl, zagh h]
 cases decide ((List.length s.Tins : Int) ≤ 6) with
 | false => exact ⟨false, rfl, fun h => by cases h⟩
 | true =>
 cases decide ((List.length mix : Int) ≤ 6) with
 | false => exact ⟨false, rfl, fun h => by cases h⟩
 | true =>
 simp only [Option.bind_some, cond_true]
 cases hb : sheetB s with
 | false => exact ⟨false, rfl, fun h => by cases h⟩
 | true =>
  have hs := ShOk.of hb
  simp only [cond_true, zaqu hs hm, Option.bind_some]
  exact ⟨_, rfl, fun hx => ⟨hs, MixOk.of hx⟩⟩
theorem tt_l0 {s : Gs} (hs : ShOk s) {mix : List Int} (hm : MixOk s mix) {t : Gu} (ht : TrOk s t) (e1 e2 : Int) : zbg s mix t (aimS s, e1) (sumsS s mix, e2) 3 0 = some (.go ()) := by
 have s0 := zlr hs hm ht .p0
 have s1 := zlr hs hm ht .p1
 have s2 := zlr hs hm ht .p2
 have f0 := zjl hs ht .p0
 have f1 := zjl hs ht .p1
 have f2 := zjl hs ht .p2
 have a0 := zmw hs hm ht .p0
 have a1 := zmw hs hm ht .p1
 have a2 := zmw hs hm ht .p2
 have b0 := zww hs ht .p0
 have b1 := zww hs ht .p1
 have b2 := zww hs ht .p2
 simp only [P3.i, selI] at s0 s1 s2 f0 f1 f2
 have la0 := Int.not_lt.2 a0.1
 have ga0 := Int.not_lt.2 a0.2
 have la1 := Int.not_lt.2 a1.1
 have ga1 := Int.not_lt.2 a1.2
 have la2 := Int.not_lt.2 a2.1
 have ga2 := Int.not_lt.2 a2.2
 have lb0 := Int.not_lt.2 b0.1
 have gb0 := Int.not_lt.2 b0.2
 have lb1 := Int.not_lt.2 b1.1
 have gb1 := Int.not_lt.2 b1.2
 have lb2 := Int.not_lt.2 b2.1
 have gb2 := Int.not_lt.2 b2.2
 simp only [zbg, Int.reduceAdd, Int.reduceBEq, cond_true, cond_false, s0, s1, s2, f0, f1, f2, Option.bind_some, aimS, sumsS, gt_iff_lt, la0, ga0, la1, ga1, la2, ga2, lb0, gb0, lb1, gb1, lb2, gb2, decide_false]
theorem tt_l1 {s : Gs} (hs : ShOk s) {mix : List Int} (hm : MixOk s mix) {t : Gu} (ht : TrOk s t) (e1 e2 : Int) : zbh s mix t (aimS s, e1) (sumsS s mix, e2) 3 0 = some (.go ()) := by
 have s0 := zlr hs hm ht .p0
 have s1 := zlr hs hm ht .p1
 have s2 := zlr hs hm ht .p2
 have f0 := zjl hs ht .p0
 have f1 := zjl hs ht .p1
 have f2 := zjl hs ht .p2
 have a0 := zmw hs hm ht .p0
 have a1 := zmw hs hm ht .p1
 have a2 := zmw hs hm ht .p2
 have b0 := zww hs ht .p0
 have b1 := zww hs ht .p1
 have b2 := zww hs ht .p2
 simp only [P3.i, selI] at s0 s1 s2 f0 f1 f2
 have la0 := Int.not_lt.2 a0.1
 have ga0 := Int.not_lt.2 a0.2
 have la1 := Int.not_lt.2 a1.1
 have ga1 := Int.not_lt.2 a1.2
 have la2 := Int.not_lt.2 a2.1
 have ga2 := Int.not_lt.2 a2.2
 have lb0 := Int.not_lt.2 b0.1
 have gb0 := Int.not_lt.2 b0.2
 have lb1 := Int.not_lt.2 b1.1
 have gb1 := Int.not_lt.2 b1.2
 have lb2 := Int.not_lt.2 b2.1
 have gb2 := Int.not_lt.2 b2.2
 simp only [zbh, Int.reduceAdd, Int.reduceBEq, cond_true, cond_false, s0, s1, s2, f0, f1, f2, Option.bind_some, aimS, sumsS, gt_iff_lt, la0, ga0, la1, ga1, la2, ga2, lb0, gb0, lb1, gb1, lb2, gb2, decide_false]
theorem zul (s : Gs) (mix : List Int) (t : Gu) (h : lenOk s.Tins = true) (hm : lenOk mix = true) (ht : lenOk t.Tins = true) : zgg s mix t = some true := by
 unfold zgg
 obtain ⟨b, hb, hbo⟩ := zalq h hm
 rw [hb]
 cases b with
 | false => rfl
 | true =>
 obtain ⟨hs, hmx⟩ := hbo rfl
 cases decide ((List.length t.Tins : Int) > 6) with
 | true => rfl
 | false =>
 simp only [Option.bind_some, cond_true, cond_false, zahp s ht]
 cases hy : truthB s t with
 | false => rfl
 | true =>
 have hT := TrOk.of hy
 rw [zarv h, zanq h, zape h, zama h, zapy h mix ht, hs.ok, hmx.ok, hy]
 simp only [Option.bind_some, cond_true, Bool.and_self, bne_self_eq_false, cond_false, zalc hs hmx hT, show Int.toNat (3 - 0) = 3 from rfl, tt_l0 hs hmx hT, tt_l1 hs hmx hT, lbind, show boundOk 3 = true from rfl]
 have hk : s.Years.Low + (yrsN s : Int) = s.Years.High + 1 := by have := hs.yrs; unfold yrsN; omega
 have hmem : ∀ y, y ∈ yearsL s mix ↔ s.Years.Low ≤ y ∧ y < s.Years.Low + yrsN s ∧ allC s mix y = true := fun y => zacd _ _
 have h1 : surelyB s mix = true → ∀ y, s.Years.Low ≤ y ∧ y ≤ s.Years.High → y ∈ yearsL s mix := fun hsu y hyy => (hmem y).2 ⟨hyy.1, by omega, zafn hs hmx hsu hyy⟩
 have h2 : trueB s mix t = true → t.Years ∈ yearsL s mix := fun htr => (hmem _).2 ⟨hT.y.1, by have := hT.y; omega, zamf hs hmx hT htr⟩
 have h3 : surelyB s mix = true → trueB s mix t = true := by
  intro hsu
  rw [zml hs hmx] at hsu
  rw [zsr]
  intro p
  have a := zmw hs hmx hT p
  have b := zww hs hT p
  have c := hsu p
  have hP := hmx.s
  have m1 := Int.mul_le_mul_of_nonneg_left b.1 (show 0 ≤ sumL mix by omega)
  have m2 := Int.mul_le_mul_of_nonneg_left b.2 (show 0 ≤ sumL mix by omega)
  unfold mostI at c
  unfold absI
  split at c <;> split <;> omega
 unfold wordI
 rcases hY : yearsL s mix with _ | ⟨a, l⟩
 ·rw [hY] at h1 h2
  have hyr := hs.yrs
  have n1 : surelyB s mix = false := by
   cases hsu : surelyB s mix with
   | false => rfl
   | true => exact absurd (h1 hsu s.Years.Low ⟨Int.le_refl _, hyr.2.1⟩) (by simp)
  have n2 : trueB s mix t = false := by
   cases hsu : trueB s mix t with
   | false => rfl
   | true => exact absurd (h2 hsu) (by simp)
  rw [n1, n2]
  rfl
 ·rw [hY] at h1 h2
  have hbd := zro (yrsN s) s.Years.Low a l hY
  cases hsu : surelyB s mix with
  | true =>
   have hyr := hs.yrs
   have ia := hmem a
   have il := hmem ((a :: l).getLast (by simp))
   rw [hY] at ia il
   have ja := ia.1 (List.mem_cons_self ..)
   have jl := il.1 (List.getLast_mem _)
   have e1 := hbd _ (h1 hsu s.Years.Low ⟨Int.le_refl _, hyr.2.1⟩)
   have e2 := hbd _ (h1 hsu s.Years.High ⟨hyr.2.1, Int.le_refl _⟩)
   have q1 : a = s.Years.Low := by omega
   have q2 : (a :: l).getLast (by simp) = s.Years.High := by omega
   have hT2 := hT.y
   have e3 : decide (t.Years ≥ s.Years.Low) = true := by simp; omega
   have e4 : decide (t.Years ≤ s.Years.High) = true := by simp; omega
   rw [h3 hsu]
   subst q1
   simp only [spanY, q2, List.isEmpty_cons, Bool.not_false, cond_true, cond_false]
   simp [e3, e4, hT2.1, hT2.2]
  | false =>
   simp only [spanY, List.isEmpty_cons, Bool.not_false, cond_true, cond_false]
   cases htr : trueB s mix t with
   | false => rfl
   | true =>
    have e := hbd _ (h2 htr)
    simp [e.1, e.2]
end Go.V
end
