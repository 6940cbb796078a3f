/- Part of a proof: a logic of values by content, lifted functions, what follows. -/
import Derived.Test.YtekhjalgmlflpaaGreatDoorQbf
import Derived.Test.YtekhjalgmlflpaaGreatDoorQbe
import Derived.Test.YtekhjalgmlflpaaGreatDoorQbj
import Derived.Test.YtekhjalgmlflpaaGreatDoorQbi
import Derived.Test.YtekhjalgmlflpaaGreatDoorQbg
import Derived.Test.YtekhjalgmlflpaaGreatDoorQbh
set_option linter.all false
set_option maxRecDepth 4000
set_option maxHeartbeats 40000000
section
namespace Go.V
open Go Go.Proofs
def zei (x0_s : GTintSheet) : Nat → Int → Int → Int → Int → Int → Int → Int → Option (LOut (GA3GSpan) (Int × Int × Int × Int × Int × Int))
 | 0, c0_4, c0_o0, c0_o1, c0_o2, c0_o3, c0_o4, c0_o5 => some (.go (c0_o0, c0_o1, c0_o2, c0_o3, c0_o4, c0_o5))
 | k0 + 1, c0_4, c0_o0, c0_o1, c0_o2, c0_o3, c0_o4, c0_o5 => cond (c0_4 == 0) (Option.bind (zaw x0_s c0_4 x0_s.Years.High x0_s.Fade.a0.High) (fun r7 => Option.bind (zaw x0_s c0_4 x0_s.Years.Low x0_s.Fade.a0.Low) (fun r8 => zei x0_s k0 (c0_4 + 1) r7 r8 c0_o2 c0_o3 c0_o4 c0_o5))) (cond (c0_4 == 1) (Option.bind (zaw x0_s c0_4 x0_s.Years.High x0_s.Fade.a1.High) (fun r9 => Option.bind (zaw x0_s c0_4 x0_s.Years.Low x0_s.Fade.a1.Low) (fun r10 => zei x0_s k0 (c0_4 + 1) c0_o0 c0_o1 r9 r10 c0_o4 c0_o5))) (cond (c0_4 == 2) (Option.bind (zaw x0_s c0_4 x0_s.Years.High x0_s.Fade.a2.High) (fun r11 => Option.bind (zaw x0_s c0_4 x0_s.Years.Low x0_s.Fade.a2.Low) (fun r12 => zei x0_s k0 (c0_4 + 1) c0_o0 c0_o1 c0_o2 c0_o3 r11 r12))) (none)))
def zgz (x0_s : GTintSheet) : Option (GA3GSpan) := cond (boundOk 3) (lbind (zei x0_s (Int.toNat (3 - 0)) 0 0 0 0 0 0 0) (fun r14 => some r14) (fun c13 => some (GA3GSpan.mk (GSpan.mk c13.1 c13.2.1) (GSpan.mk c13.2.2.1 c13.2.2.2.1) (GSpan.mk c13.2.2.2.2.1 c13.2.2.2.2.2))) (fun _ _ => none)) none
theorem zse (x0_s : GTintSheet) (R : GA3GSpan) (h : zgz x0_s = some R) : VPure Tryz.prog G0 21 [.agg (cGTintSheet x0_s)] (.tree (.agg (cGA3GSpan R))) := by
 refine VPure.runR mixed Tryz.call21 Tryz.func21 rfl (by simp [Tryz.ntmps21]; kernel_rfl) ?_
 obtain ⟨KF, h, kF, kN⟩ := zak h
 simp only [zgz] at h
 cases g16 : (boundOk 3)
 ·simp only [g16, hs] at h
  exact absurd h kN
 simp only [g16, hs] at h
 simp only [vz, tyf, g16, nm, seval]
 obtain ⟨K15, h, kR15, kG15, kB15, kN15⟩ := zbc h kN
 obtain ⟨f15, hf15, h⟩ := call8 h
 obtain ⟨I15, hI15⟩ : ∃ I : Nat → St → Prop, I = (fun m st => ∃ (p15 : Nat) (c15_4 : Int) (c15_o0 : Int) (c15_o1 : Int) (c15_o2 : Int) (c15_o3 : Int) (c15_o4 : Int) (c15_o5 : Int), p15 = m ∧ loOk c15_4 = true ∧ Int.toNat (3 - c15_4) = p15 ∧ st.df = [] ∧ 4 ≤ st.nx ∧ st.H 0 = some (.cells (some 28) (cGTintSheet x0_s)) ∧ st.H 1 = some (.cells (some 25) ([.lit (.int .i64 0)] ++ [.lit (.int .i64 0)] ++ [.lit (.int .i64 0)] ++ [.lit (.int .i64 0)] ++ [.lit (.int .i64 0)] ++ [.lit (.int .i64 0)])) ∧ st.H 2 = some (.cells (some 25) ([.lit (.int .i64 c15_o0)] ++ [.lit (.int .i64 c15_o1)] ++ [.lit (.int .i64 c15_o2)] ++ [.lit (.int .i64 c15_o3)] ++ [.lit (.int .i64 c15_o4)] ++ [.lit (.int .i64 c15_o5)])) ∧ st.tm 1 = .ptr 0 0 ∧ st.tm 2 = .ptr 1 0 ∧ st.tm 3 = .ptr 2 0 ∧ st.tm 4 = .lit (.int .i64 c15_4) ∧ K15 (f15 p15 c15_4 c15_o0 c15_o1 c15_o2 c15_o3 c15_o4 c15_o5)) := ⟨_, rfl⟩
 refine loopK mixed (by kernel_rfl) I15 (Int.toNat (3 - 0)) (by rw [hI15]; refine ⟨Int.toNat (3 - 0), 0, 0, 0, 0, 0, 0, 0, rfl, (by rfl), rfl, rfl, (show 4 ≤ 4 by omega), ?_, ?_, ?_, ?_, ?_, ?_, ?_, h⟩ <;> first | (simp only [ua, nm, seval] <;> rfl) | rfl) ?_
 rintro m ⟨tm, H, nx15, df⟩ hinv
 rw [hI15] at hinv
 obtain ⟨p15, c15_4, c15_o0, c15_o1, c15_o2, c15_o3, c15_o4, c15_o5, rfl, hi15, hp15, hdf, hn15, H17, H18, H19, e20, e21, e22, e23, h⟩ := hinv
 simp only at hdf hn15 H17 H18 H19 e20 e21 e22 e23
 have n24 := zda (m := 4) (b := nx15) (by omega)
 subst hdf hf15
 cases p15 with
 | zero =>
  have d25 : (decide (c15_4 < 3)) = false := zkd hp15
  simp only [zei, hs, reduceCtorEq] at h
  replace h := kG15 _ h
  try dsimp only at h
  try simp only [hs] at h
  try simp only [vz, tyf, g16, n24, e20, e21, e22, e23, H17, H18, H19, d25, nm, seval]
  refine zaq (x := (.agg ([.lit (.int .i64 c15_o0)] ++ [.lit (.int .i64 c15_o1)] ++ [.lit (.int .i64 c15_o2)] ++ [.lit (.int .i64 c15_o3)] ++ [.lit (.int .i64 c15_o4)] ++ [.lit (.int .i64 c15_o5)]))) (by first | (simp only [Tryz.results21, resV, resL, resV1, zat, zbs, uw, cr, tyf, g16, n24, e20, e21, e22, e23, H17, H18, H19, d25, nm, seval] <;> rfl) | rfl) ?_
  obtain rfl := kF _ h
  refine zau ?_ ?_
  ·simp only [tre, tytre, Bool.and_self]
  ·first | (simp only [outV, uw, zae, cr, tyf, nrm, tynrm, g16, n24, e20, e21, e22, e23, H17, H18, H19, d25, nm, seval] <;> rfl) | rfl
 | succ p15 =>
  have d26 : (decide (c15_4 < 3)) = true := zaeg hp15
  have w27 := zns hi15 hp15 g16
  simp only [zei, hs, reduceCtorEq] at h
  simp only [vz, tyf, g16, n24, e20, e21, e22, e23, H17, H18, H19, d26, w27, nm, seval]
  refine zdc (fun tm => tm 1 = .ptr 0 0 ∧ tm 2 = .ptr 1 0 ∧ tm 3 = .ptr 2 0 ∧ tm 4 = .lit (.int .i64 c15_4) ∧ True) (by refine ⟨e20, e21, e22, e23, trivial⟩ <;> first | (simp only [ua, n24, e20, e21, e22, e23, H17, H18, H19, d26, w27, nm, seval] <;> rfl) | rfl) ?_
  rintro tm ⟨e28, e29, e30, e31, _⟩
  have b32 := And.intro g16 (And.intro n24 (And.intro H17 (And.intro H18 (And.intro H19 (And.intro d26 w27)))))
  cases d33 : (c15_4 == 0)
  ·simp only [d33, hs] at h
   cases d34 : (c15_4 == 1)
   ·simp only [d34, hs] at h
    cases d35 : (c15_4 == 2)
    ·simp only [d35, hs] at h
     exact absurd h kN15
    simp only [d35, hs] at h
    rcases o37 : (zaw x0_s c15_4 x0_s.Years.High x0_s.Fade.a2.High) with _ | r36
    ·simp only [o37, hs] at h
     exact absurd h kN15
    simp only [o37, hs] at h
    simp only [vz, tyf, b32, e28, e29, e30, e31, d33, d34, d35, (zib d35), nm, seval]
    refine dktree (args0 := [.agg (cGTintSheet x0_s), .lit (.int .i64 c15_4), .lit (.int .i64 x0_s.Years.High), .lit (.int .i64 x0_s.Fade.a2.High)]) (by first | (simp only [nrm, tynrm] <;> rfl) | rfl) (by simp only [tre, tytre, Bool.and_self]) (zco _ _ _ _ _ o37) ?_
    refine zac (fun tm => tm 1 = .ptr 0 0 ∧ tm 2 = .ptr 1 0 ∧ tm 3 = .ptr 2 0 ∧ tm 4 = .lit (.int .i64 c15_4) ∧ tm 9 = .lit (.int .i64 c15_4) ∧ tm 20 = .lit (.int .i64 r36) ∧ True) (by refine ⟨e28, e29, e30, e31, ?_, ?_, trivial⟩ <;> first | (simp only [ua, b32, e28, e29, e30, e31, d33, d34, d35, nm, seval] <;> rfl) | rfl) ?_
    rintro tm ⟨e38, e39, e40, e41, e42, e43, _⟩
    rcases o45 : (zaw x0_s c15_4 x0_s.Years.Low x0_s.Fade.a2.Low) with _ | r44
    ·simp only [o45, hs] at h
     exact absurd h kN15
    simp only [o45, hs] at h
    simp only [vz, tyf, b32, d33, d34, d35, (zib d35), e38, e39, e40, e41, e42, e43, nm, seval]
    refine dktree (args0 := [.agg (cGTintSheet x0_s), .lit (.int .i64 c15_4), .lit (.int .i64 x0_s.Years.Low), .lit (.int .i64 x0_s.Fade.a2.Low)]) (by first | (simp only [nrm, tynrm] <;> rfl) | rfl) (by simp only [tre, tytre, Bool.and_self]) (zco _ _ _ _ _ o45) ?_
    refine zac (fun tm => tm 1 = .ptr 0 0 ∧ tm 2 = .ptr 1 0 ∧ tm 3 = .ptr 2 0 ∧ tm 4 = .lit (.int .i64 c15_4) ∧ tm 9 = .lit (.int .i64 c15_4) ∧ tm 20 = .lit (.int .i64 r36) ∧ tm 31 = .lit (.int .i64 r44) ∧ True) (by refine ⟨e38, e39, e40, e41, e42, e43, ?_, trivial⟩ <;> first | (simp only [ua, b32, d33, d34, d35, e38, e39, e40, e41, e42, e43, nm, seval] <;> rfl) | rfl) ?_
    rintro tm ⟨e46, e47, e48, e49, e50, e51, e52, _⟩
    simp only [vz, tyf, b32, d33, d34, d35, (zib d35), e46, e47, e48, e49, e50, e51, e52, nm, seval]
    refine zcr ⟨?_, ?_⟩
    ·simp only [zbj, zbu, zai, zdl, and_true, true_and]
     repeat' (first | exact trivial | refine And.intro ?_ ?_ | rw [zai] | rw [zcp] | exact Or.inl (by decide +kernel) | exact Or.inl (by dsimp only; decide +kernel) | (refine Or.inr ⟨?_, ?_⟩ <;> simp; done) | (refine Or.inr ⟨?_, ?_⟩ <;> simp <;> omega) | (refine Or.inr ⟨?_, ?_⟩ <;> simp [VEff.wr] <;> omega))
    simp only [vz, tyf, b32, d33, d34, d35, (zib d35), e46, e47, e48, e49, e50, e51, e52, nm, seval]
    exact ⟨p15, Nat.lt_succ_self _, by rw [hI15]; refine ⟨p15, c15_4 + 1, c15_o0, c15_o1, c15_o2, c15_o3, r36, r44, rfl, zmj hi15, zgg hp15, rfl, (show 4 ≤ nx15 + 31 by omega), ?_, ?_, ?_, e46, e47, e48, ?_, h⟩ <;> first | (simp only [ua, b32, d33, d34, d35, e46, e47, e48, e49, e50, e51, e52, nm, seval] <;> rfl) | rfl⟩
   simp only [d34, hs] at h
   rcases o54 : (zaw x0_s c15_4 x0_s.Years.High x0_s.Fade.a1.High) with _ | r53
   ·simp only [o54, hs] at h
    exact absurd h kN15
   simp only [o54, hs] at h
   simp only [vz, tyf, b32, e28, e29, e30, e31, d33, d34, (zic d34), nm, seval]
   refine dktree (args0 := [.agg (cGTintSheet x0_s), .lit (.int .i64 c15_4), .lit (.int .i64 x0_s.Years.High), .lit (.int .i64 x0_s.Fade.a1.High)]) (by first | (simp only [nrm, tynrm] <;> rfl) | rfl) (by simp only [tre, tytre, Bool.and_self]) (zco _ _ _ _ _ o54) ?_
   refine zac (fun tm => tm 1 = .ptr 0 0 ∧ tm 2 = .ptr 1 0 ∧ tm 3 = .ptr 2 0 ∧ tm 4 = .lit (.int .i64 c15_4) ∧ tm 9 = .lit (.int .i64 c15_4) ∧ tm 20 = .lit (.int .i64 r53) ∧ True) (by refine ⟨e28, e29, e30, e31, ?_, ?_, trivial⟩ <;> first | (simp only [ua, b32, e28, e29, e30, e31, d33, d34, nm, seval] <;> rfl) | rfl) ?_
   rintro tm ⟨e55, e56, e57, e58, e59, e60, _⟩
   rcases o62 : (zaw x0_s c15_4 x0_s.Years.Low x0_s.Fade.a1.Low) with _ | r61
   ·simp only [o62, hs] at h
    exact absurd h kN15
   simp only [o62, hs] at h
   simp only [vz, tyf, b32, d33, d34, (zic d34), e55, e56, e57, e58, e59, e60, nm, seval]
   refine dktree (args0 := [.agg (cGTintSheet x0_s), .lit (.int .i64 c15_4), .lit (.int .i64 x0_s.Years.Low), .lit (.int .i64 x0_s.Fade.a1.Low)]) (by first | (simp only [nrm, tynrm] <;> rfl) | rfl) (by simp only [tre, tytre, Bool.and_self]) (zco _ _ _ _ _ o62) ?_
   refine zac (fun tm => tm 1 = .ptr 0 0 ∧ tm 2 = .ptr 1 0 ∧ tm 3 = .ptr 2 0 ∧ tm 4 = .lit (.int .i64 c15_4) ∧ tm 9 = .lit (.int .i64 c15_4) ∧ tm 20 = .lit (.int .i64 r53) ∧ tm 31 = .lit (.int .i64 r61) ∧ True) (by refine ⟨e55, e56, e57, e58, e59, e60, ?_, trivial⟩ <;> first | (simp only [ua, b32, d33, d34, e55, e56, e57, e58, e59, e60, nm, seval] <;> rfl) | rfl) ?_
   rintro tm ⟨e63, e64, e65, e66, e67, e68, e69, _⟩
   simp only [vz, tyf, b32, d33, d34, (zic d34), e63, e64, e65, e66, e67, e68, e69, nm, seval]
   refine zcr ⟨?_, ?_⟩
   ·simp only [zbj, zbu, zai, zdl, and_true, true_and]
    repeat' (first | exact trivial | refine And.intro ?_ ?_ | rw [zai] | rw [zcp] | exact Or.inl (by decide +kernel) | exact Or.inl (by dsimp only; decide +kernel) | (refine Or.inr ⟨?_, ?_⟩ <;> simp; done) | (refine Or.inr ⟨?_, ?_⟩ <;> simp <;> omega) | (refine Or.inr ⟨?_, ?_⟩ <;> simp [VEff.wr] <;> omega))
   simp only [vz, tyf, b32, d33, d34, (zic d34), e63, e64, e65, e66, e67, e68, e69, nm, seval]
   exact ⟨p15, Nat.lt_succ_self _, by rw [hI15]; refine ⟨p15, c15_4 + 1, c15_o0, c15_o1, r53, r61, c15_o4, c15_o5, rfl, zmj hi15, zgg hp15, rfl, (show 4 ≤ nx15 + 31 by omega), ?_, ?_, ?_, e63, e64, e65, ?_, h⟩ <;> first | (simp only [ua, b32, d33, d34, e63, e64, e65, e66, e67, e68, e69, nm, seval] <;> rfl) | rfl⟩
  simp only [d33, hs] at h
  rcases o71 : (zaw x0_s c15_4 x0_s.Years.High x0_s.Fade.a0.High) with _ | r70
  ·simp only [o71, hs] at h
   exact absurd h kN15
  simp only [o71, hs] at h
  simp only [vz, tyf, b32, e28, e29, e30, e31, d33, (zhz d33), nm, seval]
  refine dktree (args0 := [.agg (cGTintSheet x0_s), .lit (.int .i64 c15_4), .lit (.int .i64 x0_s.Years.High), .lit (.int .i64 x0_s.Fade.a0.High)]) (by first | (simp only [nrm, tynrm] <;> rfl) | rfl) (by simp only [tre, tytre, Bool.and_self]) (zco _ _ _ _ _ o71) ?_
  refine zac (fun tm => tm 1 = .ptr 0 0 ∧ tm 2 = .ptr 1 0 ∧ tm 3 = .ptr 2 0 ∧ tm 4 = .lit (.int .i64 c15_4) ∧ tm 9 = .lit (.int .i64 c15_4) ∧ tm 20 = .lit (.int .i64 r70) ∧ True) (by refine ⟨e28, e29, e30, e31, ?_, ?_, trivial⟩ <;> first | (simp only [ua, b32, e28, e29, e30, e31, d33, nm, seval] <;> rfl) | rfl) ?_
  rintro tm ⟨e72, e73, e74, e75, e76, e77, _⟩
  rcases o79 : (zaw x0_s c15_4 x0_s.Years.Low x0_s.Fade.a0.Low) with _ | r78
  ·simp only [o79, hs] at h
   exact absurd h kN15
  simp only [o79, hs] at h
  simp only [vz, tyf, b32, d33, (zhz d33), e72, e73, e74, e75, e76, e77, nm, seval]
  refine dktree (args0 := [.agg (cGTintSheet x0_s), .lit (.int .i64 c15_4), .lit (.int .i64 x0_s.Years.Low), .lit (.int .i64 x0_s.Fade.a0.Low)]) (by first | (simp only [nrm, tynrm] <;> rfl) | rfl) (by simp only [tre, tytre, Bool.and_self]) (zco _ _ _ _ _ o79) ?_
  refine zac (fun tm => tm 1 = .ptr 0 0 ∧ tm 2 = .ptr 1 0 ∧ tm 3 = .ptr 2 0 ∧ tm 4 = .lit (.int .i64 c15_4) ∧ tm 9 = .lit (.int .i64 c15_4) ∧ tm 20 = .lit (.int .i64 r70) ∧ tm 31 = .lit (.int .i64 r78) ∧ True) (by refine ⟨e72, e73, e74, e75, e76, e77, ?_, trivial⟩ <;> first | (simp only [ua, b32, d33, e72, e73, e74, e75, e76, e77, nm, seval] <;> rfl) | rfl) ?_
  rintro tm ⟨e80, e81, e82, e83, e84, e85, e86, _⟩
  simp only [vz, tyf, b32, d33, (zhz d33), e80, e81, e82, e83, e84, e85, e86, nm, seval]
  refine zcr ⟨?_, ?_⟩
  ·simp only [zbj, zbu, zai, zdl, and_true, true_and]
   repeat' (first | exact trivial | refine And.intro ?_ ?_ | rw [zai] | rw [zcp] | exact Or.inl (by decide +kernel) | exact Or.inl (by dsimp only; decide +kernel) | (refine Or.inr ⟨?_, ?_⟩ <;> simp; done) | (refine Or.inr ⟨?_, ?_⟩ <;> simp <;> omega) | (refine Or.inr ⟨?_, ?_⟩ <;> simp [VEff.wr] <;> omega))
  simp only [vz, tyf, b32, d33, (zhz d33), e80, e81, e82, e83, e84, e85, e86, nm, seval]
  exact ⟨p15, Nat.lt_succ_self _, by rw [hI15]; refine ⟨p15, c15_4 + 1, r70, r78, c15_o2, c15_o3, c15_o4, c15_o5, rfl, zmj hi15, zgg hp15, rfl, (show 4 ≤ nx15 + 31 by omega), ?_, ?_, ?_, e80, e81, e82, ?_, h⟩ <;> first | (simp only [ua, b32, d33, e80, e81, e82, e83, e84, e85, e86, nm, seval] <;> rfl) | rfl⟩
end Go.V
end
section
namespace Go.V
open Go Go.Proofs
def zeg (x0_s : GTintSheet) : Option (Bool) := some (decide ((List.length x0_s.Tins : Int) ≤ 6))
theorem zjo (x0_s : GTintSheet) (R : Bool) (h : zeg x0_s = some R) : VPure Tryz.prog G0 15 [.agg (cGTintSheet x0_s)] (.tree (.lit (.bool R))) := by
 refine VPure.runR mixed Tryz.call15 Tryz.func15 rfl (by simp [Tryz.ntmps15]; kernel_rfl) ?_
 obtain ⟨KF, h, kF, kN⟩ := zak h
 simp only [zeg] at h
 try simp only [vz, tyf, nm, seval]
 obtain rfl := kF _ h
 exact zab Tryz.results15 rfl
end Go.V
end
section
namespace Go.V
open Go Go.Proofs
end Go.V
end
section
namespace Go.V
open Go
inductive P3 where
 | p0
 | p1
 | p2
def P3.i : P3 → Int
 | .p0 => 0
 | .p1 => 1
 | .p2 => 2
def selS (c : GA3GSpan) : P3 → GSpan
 | .p0 => c.a0
 | .p1 => c.a1
 | .p2 => c.a2
def selI (c : GA3Int) : P3 → Int
 | .p0 => c.a0
 | .p1 => c.a1
 | .p2 => c.a2
theorem zkh (a n b : Int) : zas a n b = some (inB a b n) := csome _ _
theorem zur (n a b : Int) : zav n a b = some (inB a b n) := csome _ _
def spB (m : Int) (x : GSpan) : Bool := decide (0 ≤ x.Low) && (decide (x.Low ≤ x.High) && decide (x.High ≤ m))
theorem zabj {m : Int} {x : GSpan} : spB m x = true ↔ 0 ≤ x.Low ∧ x.Low ≤ x.High ∧ x.High ≤ m := by simp [spB]
theorem zya (x : GSpan) (m : Int) : zdj 0 x m = some (spB m x) := by
 unfold zdj spB
 cases decide (0 ≤ x.Low) <;> cases decide (x.Low ≤ x.High) <;> rfl
theorem zsj (x : GSpan) (m : Int) : zbo x m = some (spB m x) := by
 unfold zbo
 simp only [zur, Option.bind_some]
 rw [csome]
 congr 1
 rw [Bool.eq_iff_iff]
 simp only [Bool.and_eq_true, zkq, zabj]
 omega
theorem ztr (a b : Int) : ∀ (p : List Int) (c : Int), zde a b p c = goB (p.all (inB a b))
 | [], _ => rfl
 | e :: p, c => by
  simp only [zde, zkh, Option.bind_some, ztr a b p, List.all_cons, zjr]
theorem zua (a b : Int) {x : List Int} (h : lenOk x = true) : zcz a x b = some (x.all (inB a b)) := by
 unfold zcz
 rw [h, ztr, zjc]
 cases x.all (inB a b) <;> rfl
theorem zqj (b : Int) : ∀ (p : List GSpan) (c : Int), zcw 0 b p c = goB (p.all (spB b))
 | [], _ => rfl
 | e :: p, c => by
  simp only [zcw, zya, Option.bind_some, zqj b p, List.all_cons, zjr]
theorem zqz (b : Int) {x : List GSpan} (h : lenOk x = true) : zch 0 x b = some (x.all (spB b)) := by
 unfold zch
 rw [h, zqj, zjc]
 cases x.all (spB b) <;> rfl
def tinB (t : GTintTin) : Bool := spB 99 t.Pigments.a0 && (spB 99 t.Pigments.a1 && spB 99 t.Pigments.a2)
def sheetB (s : GTintSheet) : Bool := (inB 0 99 s.Old.a0 && (inB 0 99 s.Old.a1 && inB 0 99 s.Old.a2)) && ((spB 9 s.Fade.a0 && (spB 9 s.Fade.a1 && spB 9 s.Fade.a2)) && (spB 20 s.Years && (inB 1 20 s.Off && (inB 1 4 s.Tins.length && s.Tins.all tinB))))
theorem zup : ∀ (p : List GTintTin) (c : Int), zdr p c = goB (p.all tinB)
 | [], _ => rfl
 | e :: p, c => by
  have h : zch 0 [e.Pigments.a0, e.Pigments.a1, e.Pigments.a2] 99 = some (tinB e) := by
   rw [zqz 99 (zhg (by simp only [List.length_cons, List.length_nil]; decide))]
   simp only [List.all_cons, List.all_nil, Bool.and_true]
   rfl
  simp only [zdr, h, Option.bind_some, zup p, List.all_cons, zjr]
theorem zls {s : GTintSheet} (h : lenOk s.Tins = true) : zap s = some (sheetB s) := by
 unfold zap zfw
 rw [zua 0 99 (zhg (by simp only [List.length_cons, List.length_nil]; decide)), zqz 9 (zhg (by simp only [List.length_cons, List.length_nil]; decide)), zya, zkh, zkh, h, zup, zjc]
 simp only [List.all_cons, List.all_nil, Bool.and_true, Option.bind_some, sheetB]
 cases (inB 0 99 s.Old.a0 && (inB 0 99 s.Old.a1 && inB 0 99 s.Old.a2)) <;> cases (spB 9 s.Fade.a0 && (spB 9 s.Fade.a1 && spB 9 s.Fade.a2)) <;> cases spB 20 s.Years <;> cases inB 1 20 s.Off <;> cases inB 1 4 (s.Tins.length : Int) <;> cases s.Tins.all tinB <;> rfl
theorem zyl : ∀ (p : List GTintTin) (c : Int), zcc p c = goB (p.all fun t => spB 99 t.Pigments.a0)
 | [], _ => rfl
 | e :: p, c => by simp only [zcc, zsj, Option.bind_some, zyl p, List.all_cons, zjr]
theorem zxl : ∀ (p : List GTintTin) (c : Int), zca p c = goB (p.all fun t => spB 99 t.Pigments.a1)
 | [], _ => rfl
 | e :: p, c => by simp only [zca, zsj, Option.bind_some, zxl p, List.all_cons, zjr]
theorem zxb : ∀ (p : List GTintTin) (c : Int), zcd p c = goB (p.all fun t => spB 99 t.Pigments.a2)
 | [], _ => rfl
 | e :: p, c => by simp only [zcd, zsj, Option.bind_some, zxb p, List.all_cons, zjr]
theorem zaio : ∀ (p : List GTintTin), p.all tinB = ((p.all fun t => spB 99 t.Pigments.a0) && ((p.all fun t => spB 99 t.Pigments.a1) && (p.all fun t => spB 99 t.Pigments.a2)))
 | [] => rfl
 | e :: p => by
  simp only [List.all_cons, zaio p, tinB]
  cases spB 99 e.Pigments.a0 <;> cases spB 99 e.Pigments.a1 <;> cases spB 99 e.Pigments.a2 <;> simp
theorem zxw {s : GTintSheet} (h : lenOk s.Tins = true) : zee s = some (sheetB s) := by
 unfold zee zij sheetB
 rw [zaio, show Int.toNat (3 - 0) = 3 from rfl, show boundOk 3 = true from rfl]
 simp only [zdm, h, zyl, zxl, zxb, zjc, zsj, zur, Option.bind_some, Int.reduceAdd, Int.reduceBEq, cond_true, cond_false]
 cases inB 0 99 s.Old.a0 <;> cases inB 0 99 s.Old.a1 <;> cases inB 0 99 s.Old.a2 <;> cases spB 9 s.Fade.a0 <;> cases spB 9 s.Fade.a1 <;> cases spB 9 s.Fade.a2 <;> simp only [cond_true, cond_false, Bool.false_and, Bool.true_and, Bool.and_false, lbind] <;> first | (cases spB 20 s.Years <;> cases inB 1 20 s.Off <;> cases inB 1 4 (s.Tins.length : Int) <;> rfl) | (cases spB 20 s.Years <;> cases inB 1 20 s.Off <;> cases inB 1 4 (s.Tins.length : Int) <;> cases (s.Tins.all fun t => spB 99 t.Pigments.a0) <;> first | rfl | (cases (s.Tins.all fun t => spB 99 t.Pigments.a1) <;> first | rfl | (cases (s.Tins.all fun t => spB 99 t.Pigments.a2) <;> rfl)))
structure ShOk (s : GTintSheet) : Prop where
 old : ∀ p, 0 ≤ selI s.Old p ∧ selI s.Old p ≤ 99
 fade : ∀ p, 0 ≤ (selS s.Fade p).Low ∧ (selS s.Fade p).Low ≤ (selS s.Fade p).High ∧ (selS s.Fade p).High ≤ 9
 yrs : 0 ≤ s.Years.Low ∧ s.Years.Low ≤ s.Years.High ∧ s.Years.High ≤ 20
 off : 1 ≤ s.Off ∧ s.Off ≤ 20
 n : 1 ≤ s.Tins.length ∧ s.Tins.length ≤ 4
 tin : ∀ t ∈ s.Tins, ∀ p, 0 ≤ (selS t.Pigments p).Low ∧ (selS t.Pigments p).Low ≤ (selS t.Pigments p).High ∧ (selS t.Pigments p).High ≤ 99
theorem ShOk.of {s : GTintSheet} (h : sheetB s = true) : ShOk s := by
 simp only [sheetB, Bool.and_eq_true, List.all_eq_true, tinB, zkq, zabj] at h
 obtain ⟨⟨h1, h2, h3⟩, ⟨h4, h5, h6⟩, h7, h8, h9, h10⟩ := h
 refine ⟨fun p => ?_, fun p => ?_, h7, h8, by omega, fun t ht p => ?_⟩
 ·cases p <;> assumption
 ·cases p <;> assumption
 ·obtain ⟨a, b, c⟩ := h10 t ht
  cases p <;> assumption
theorem ShOk.ok {s : GTintSheet} (h : ShOk s) : sheetB s = true := by
 simp only [sheetB, Bool.and_eq_true, List.all_eq_true, tinB, zkq, zabj]
 exact ⟨⟨h.old .p0, h.old .p1, h.old .p2⟩, ⟨h.fade .p0, h.fade .p1, h.fade .p2⟩, h.yrs, h.off, by have := h.n; omega, fun t ht => ⟨h.tin t ht .p0, h.tin t ht .p1, h.tin t ht .p2⟩⟩
def sumL : List Int → Int
 | [] => 0
 | e :: l => e + sumL l
theorem zaqz : ∀ {l : List Int}, (∀ e ∈ l, 0 ≤ e ∧ e ≤ 8) → 0 ≤ sumL l ∧ sumL l ≤ 8 * l.length
 | [], _ => by simp [sumL]
 | e :: l, h => by
  have h1 := h e (List.mem_cons_self ..)
  have h2 := zaqz fun x hx => h x (List.mem_cons_of_mem _ hx)
  simp only [sumL, List.length_cons]
  omega
theorem zacy : ∀ (l : List Int) (c acc : Int), (∀ e ∈ l, 0 ≤ e ∧ e ≤ 8) → 0 ≤ acc → acc + 8 * l.length ≤ 1000000 → zgf l c acc = some (.go (acc + sumL l))
 | [], c, acc, _, _, _ => by simp [zgf, sumL]
 | e :: l, c, acc, h, h0, hb => by
  have h1 := h e (List.mem_cons_self ..)
  simp only [List.length_cons] at hb
  simp only [zgf]
  rw [zek (by omega) (by omega), zacy l _ _ (fun x hx => h x (List.mem_cons_of_mem _ hx)) (by omega) (by omega)]
  simp only [sumL, Int.add_assoc]
theorem zads {l : List Int} (h : ∀ e ∈ l, 0 ≤ e ∧ e ≤ 8) (hl : l.length ≤ 1000) : zhy l = some (sumL l) := by
 unfold zhy
 rw [zhg (by omega), zacy l 0 0 h (by omega) (by omega)]
 simp [lbind]
theorem zwt : ∀ (l : List Int) (c acc : Int), (∀ e ∈ l, 0 ≤ e ∧ e ≤ 8) → 0 ≤ acc → acc + 8 * l.length ≤ 1000000 → zdo l c acc = some (.go (acc + sumL l))
 | [], c, acc, _, _, _ => by simp [zdo, sumL]
 | e :: l, c, acc, h, h0, hb => by
  have h1 := h e (List.mem_cons_self ..)
  simp only [List.length_cons] at hb
  simp only [zdo]
  rw [zek (by omega) (by omega), zwt l _ _ (fun x hx => h x (List.mem_cons_of_mem _ hx)) (by omega) (by omega)]
  simp only [sumL, Int.add_assoc]
theorem zyx {l : List Int} (h : ∀ e ∈ l, 0 ≤ e ∧ e ≤ 8) (hl : l.length ≤ 1000) : zef l = some (sumL l) := by
 unfold zef
 rw [zhg (by omega), zwt l 0 0 h (by omega) (by omega)]
 simp [lbind]
def mixB (s : GTintSheet) (mix : List Int) : Bool := decide (mix.length = s.Tins.length) && (mix.all (inB 0 8) && inB 1 8 (sumL mix))
theorem lenB (a b : Nat) : ((a : Int) == (b : Int)) = decide (a = b) := by
 by_cases h : a = b
 ·simp [h]
 ·rw [decide_eq_false h]; exact beq_false_of_ne (by omega)
theorem zadk {s : GTintSheet} (hs : ShOk s) (mix : List Int) : zck s mix = some (mixB s mix) := by
 unfold zck mixB
 rw [lenB]
 by_cases h : mix.length = s.Tins.length
 ·have hl : mix.length ≤ 1000 := by have := hs.n; omega
  rw [decide_eq_true h, zua _ _ (zhg (by omega))]
  simp only [cond_true, Option.bind_some, Bool.true_and]
  cases ha : mix.all (inB 0 8) with
  | false => rfl
  | true =>
   have hb : ∀ e ∈ mix, 0 ≤ e ∧ e ≤ 8 := by
    intro e he
    rw [List.all_eq_true] at ha
    exact zkq.1 (ha e he)
   rw [zads hb hl]
   simp only [cond_true, Option.bind_some, zkh, Bool.true_and]
 ·rw [decide_eq_false h]
  rfl
theorem zais : ∀ (p : List Int) (c : Int), zfb p c = goB (p.all (inB 0 8))
 | [], _ => rfl
 | e :: p, c => by
  simp only [zfb, zur, Option.bind_some, zais p, List.all_cons, zjr]
theorem zaiu {s : GTintSheet} (hs : ShOk s) {mix : List Int} (hm : lenOk mix = true) : zfr s mix = some (mixB s mix) := by
 unfold zfr mixB
 rw [lenB, hm, zais, zjc]
 by_cases h : mix.length = s.Tins.length
 ·have hl : mix.length ≤ 1000 := by have := hs.n; omega
  rw [decide_eq_true h]
  simp only [cond_true, Option.bind_some, Bool.true_and]
  cases ha : mix.all (inB 0 8) with
  | false => rfl
  | true =>
   have hb : ∀ e ∈ mix, 0 ≤ e ∧ e ≤ 8 := by
    intro e he
    rw [List.all_eq_true] at ha
    exact zkq.1 (ha e he)
   rw [zyx hb hl]
   simp only [cond_true, Option.bind_some, zur, Bool.true_and]
 ·rw [decide_eq_false h]
  cases mix.all (inB 0 8) <;> rfl
structure MixOk (s : GTintSheet) (mix : List Int) : Prop where
 n : mix.length = s.Tins.length
 b : ∀ e ∈ mix, 0 ≤ e ∧ e ≤ 8
 s : 1 ≤ sumL mix ∧ sumL mix ≤ 8
theorem MixOk.of {s : GTintSheet} {mix : List Int} (h : mixB s mix = true) : MixOk s mix := by
 simp only [mixB, Bool.and_eq_true, List.all_eq_true, zkq, decide_eq_true_eq] at h
 exact ⟨h.1, h.2.1, h.2.2⟩
theorem MixOk.ok {s : GTintSheet} {mix : List Int} (h : MixOk s mix) : mixB s mix = true := by
 simp only [mixB, Bool.and_eq_true, List.all_eq_true, zkq, decide_eq_true_eq]
 exact ⟨h.n, h.b, h.s⟩
end Go.V
end
section
namespace Go.V
open Go
def dot {α : Type} (f : α → Int) : List Int → List α → Int
 | m :: ms, t :: ts => m * f t + dot f ms ts
 | _, _ => 0
theorem dot_b {α : Type} {f : α → Int} : ∀ (ms : List Int) (ts : List α), (∀ e ∈ ms, 0 ≤ e ∧ e ≤ 8) → (∀ t ∈ ts, 0 ≤ f t ∧ f t ≤ 99) → 0 ≤ dot f ms ts ∧ dot f ms ts ≤ 99 * sumL ms
 | [], _, _, _ => by simp [dot, sumL]
 | e :: ms, [], h, _ => by
  have := (zaqz h).1
  simp only [dot]
  omega
 | e :: ms, t :: ts, h, h2 => by
  have h1 := h e (List.mem_cons_self ..)
  have h3 := h2 t (List.mem_cons_self ..)
  have ih := dot_b ms ts (fun x hx => h x (List.mem_cons_of_mem _ hx)) (fun x hx => h2 x (List.mem_cons_of_mem _ hx))
  have h4 := mulR h1.1 (Int.le_refl e) h3.1 h3.2
  simp only [dot, sumL]
  omega
theorem zael {α β : Type} {f : α → Int} {g : β → Int} : ∀ (ms : List Int) (ts : List α) (us : List β), ts.length = us.length → (∀ e ∈ ms, 0 ≤ e ∧ e ≤ 8) → (∀ (i : Nat) t u, ts[i]? = some t → us[i]? = some u → f t ≤ g u) → dot f ms ts ≤ dot g ms us
 | [], _, _, _, _, _ => by simp [dot]
 | e :: ms, [], [], _, _, _ => by simp [dot]
 | e :: ms, t :: ts, u :: us, hl, h, h2 => by
  have h1 := h e (List.mem_cons_self ..)
  have h3 := h2 0 t u rfl rfl
  have ih := zael ms ts us (by simpa using hl) (fun x hx => h x (List.mem_cons_of_mem _ hx)) (fun i a b ha hb => h2 (i + 1) a b (by simpa using ha) (by simpa using hb))
  have h4 := Int.mul_le_mul_of_nonneg_left h3 h1.1
  simp only [dot]
  omega
 | _ :: _, [], _ :: _, hl, _, _ => by simp at hl
 | _ :: _, _ :: _, [], hl, _, _ => by simp at hl
def lowT (p : P3) (t : GTintTin) : Int := (selS t.Pigments p).Low
def highT (p : P3) (t : GTintTin) : Int := (selS t.Pigments p).High
theorem zacq (x : Gtintmixed) (p : P3) : ∀ (ms : List Int) (ts : List GTintTin) (c acc : Int), 0 ≤ c → List.drop c.toNat x.TintSheet.Tins = ts → ms.length ≤ ts.length → (∀ e ∈ ms, 0 ≤ e ∧ e ≤ 8) → (∀ t ∈ ts, 0 ≤ lowT p t ∧ lowT p t ≤ 99) → 0 ≤ acc → acc + 792 * ms.length ≤ 1000000 →
  zbh x p.i ms c acc = some (.go (acc + dot (lowT p) ms ts))
 | [], ts, c, acc, _, _, _, _, _, _, _ => by simp [zbh, dot]
 | e :: ms, [], _, _, _, _, hl, _, _, _, _ => by simp at hl
 | e :: ms, t :: ts, c, acc, h0, hd, hl, h, h2, ha, hb => by
  have h1 := h e (List.mem_cons_self ..)
  have h3 := h2 t (List.mem_cons_self ..)
  have h4 := mulR h1.1 h1.2 h3.1 h3.2
  simp only [List.length_cons] at hb hl
  have ih := zacq x p ms ts (c + 1) (acc + e * lowT p t) (by omega) (zay h0 hd) (by omega) (fun x hx => h x (List.mem_cons_of_mem _ hx)) (fun x hx => h2 x (List.mem_cons_of_mem _ hx)) (by omega) (by omega)
  simp only [zbh, zaj h0 hd, Option.bind_some]
  have hw : IntKind.i64.wrap (acc + IntKind.i64.wrap (e * lowT p t)) = acc + e * lowT p t := by rw [zek (n := e * lowT p t) (by omega) (by omega), zek (by omega) (by omega)]
  have hg : acc + e * lowT p t + dot (lowT p) ms ts = acc + dot (lowT p) (e :: ms) (t :: ts) := by simp only [dot]; omega
  rw [hg] at ih
  cases p <;> simp only [P3.i, Int.reduceBEq, cond_true, cond_false] <;> simp only [lowT, selS] at hw <;> rw [hw] <;> exact ih
theorem zql (x : Gtintmixed) (p : P3) : ∀ (ms : List Int) (ts : List GTintTin) (c acc : Int), 0 ≤ c → List.drop c.toNat x.TintSheet.Tins = ts → ms.length ≤ ts.length → (∀ e ∈ ms, 0 ≤ e ∧ e ≤ 8) → (∀ t ∈ ts, 0 ≤ highT p t ∧ highT p t ≤ 99) → 0 ≤ acc → acc + 792 * ms.length ≤ 1000000 →
  zaz x p.i ms c acc = some (.go (acc + dot (highT p) ms ts))
 | [], ts, c, acc, _, _, _, _, _, _, _ => by simp [zaz, dot]
 | e :: ms, [], _, _, _, _, hl, _, _, _, _ => by simp at hl
 | e :: ms, t :: ts, c, acc, h0, hd, hl, h, h2, ha, hb => by
  have h1 := h e (List.mem_cons_self ..)
  have h3 := h2 t (List.mem_cons_self ..)
  have h4 := mulR h1.1 h1.2 h3.1 h3.2
  simp only [List.length_cons] at hb hl
  have ih := zql x p ms ts (c + 1) (acc + e * highT p t) (by omega) (zay h0 hd) (by omega) (fun x hx => h x (List.mem_cons_of_mem _ hx)) (fun x hx => h2 x (List.mem_cons_of_mem _ hx)) (by omega) (by omega)
  simp only [zaz, zaj h0 hd, Option.bind_some]
  have hw : IntKind.i64.wrap (acc + IntKind.i64.wrap (e * highT p t)) = acc + e * highT p t := by rw [zek (n := e * highT p t) (by omega) (by omega), zek (by omega) (by omega)]
  have hg : acc + e * highT p t + dot (highT p) ms ts = acc + dot (highT p) (e :: ms) (t :: ts) := by simp only [dot]; omega
  rw [hg] at ih
  cases p <;> simp only [P3.i, Int.reduceBEq, cond_true, cond_false] <;> simp only [highT, selS] at hw <;> rw [hw] <;> exact ih
theorem ShOk.low {s : GTintSheet} (h : ShOk s) (p : P3) : ∀ t ∈ s.Tins, 0 ≤ lowT p t ∧ lowT p t ≤ 99 := fun t ht => by
 have := h.tin t ht p
 unfold lowT
 omega
theorem ShOk.high {s : GTintSheet} (h : ShOk s) (p : P3) : ∀ t ∈ s.Tins, 0 ≤ highT p t ∧ highT p t ≤ 99 := fun t ht => by
 have := h.tin t ht p
 unfold highT
 omega
def sumsP (s : GTintSheet) (mix : List Int) (p : P3) : GSpan := ⟨dot (lowT p) mix s.Tins, dot (highT p) mix s.Tins⟩
def sumsS (s : GTintSheet) (mix : List Int) : GA3GSpan := ⟨sumsP s mix .p0, sumsP s mix .p1, sumsP s mix .p2⟩
theorem zux {s : GTintSheet} (hs : ShOk s) {mix : List Int} (hm : MixOk s mix) (p : P3) : zbl ⟨s, mix⟩ p.i = some (dot (lowT p) mix s.Tins) := by
 have hl := hs.n
 have hn := hm.n
 unfold zbl
 rw [zhg (by show mix.length < _; omega)]
 have := zacq ⟨s, mix⟩ p mix s.Tins 0 0 (Int.le_refl _) rfl (by omega) hm.b (hs.low p) (Int.le_refl _) (by omega)
 simp only [cond_true]
 rw [this]
 simp [lbind]
theorem zmd {s : GTintSheet} (hs : ShOk s) {mix : List Int} (hm : MixOk s mix) (p : P3) : zbd ⟨s, mix⟩ p.i = some (dot (highT p) mix s.Tins) := by
 have hl := hs.n
 have hn := hm.n
 unfold zbd
 rw [zhg (by show mix.length < _; omega)]
 have := zql ⟨s, mix⟩ p mix s.Tins 0 0 (Int.le_refl _) rfl (by omega) hm.b (hs.high p) (Int.le_refl _) (by omega)
 simp only [cond_true]
 rw [this]
 simp [lbind]
theorem zail {s : GTintSheet} (hs : ShOk s) {mix : List Int} (hm : MixOk s mix) : zct ⟨s, mix⟩ = some (sumsS s mix) := by
 unfold zct
 have a0 := zux hs hm .p0
 have a1 := zux hs hm .p1
 have a2 := zux hs hm .p2
 have b0 := zmd hs hm .p0
 have b1 := zmd hs hm .p1
 have b2 := zmd hs hm .p2
 simp only [P3.i] at a0 a1 a2 b0 b1 b2
 rw [a0, a1, a2, b0, b1, b2]
 rfl
theorem zajc {s : GTintSheet} (hs : ShOk s) {mix : List Int} (hm : MixOk s mix) : zbm ⟨s, mix⟩ = some (sumL mix) := by
 have hl := hs.n
 have hn := hm.n
 unfold zbm
 rw [zads hm.b (by omega)]
 rfl
def leftI (old y f : Int) : Int := if 0 < old - y * f then old - y * f else 0
theorem zabo {old y f : Int} (h1 : 0 ≤ old ∧ old ≤ 99) (h2 : 0 ≤ y ∧ y ≤ 20) (h3 : 0 ≤ f ∧ f ≤ 9) : zbv old y f = some (leftI old y f) := by
 have := mulR h2.1 h2.2 h3.1 h3.2
 unfold zbv leftI
 rw [zek (n := y * f) (by omega) (by omega), zek (by omega) (by omega)]
theorem zaic {old y f : Int} (h1 : 0 ≤ old ∧ old ≤ 99) (h2 : 0 ≤ y) (h3 : 0 ≤ f) : 0 ≤ leftI old y f ∧ leftI old y f ≤ old := by
 have := Int.mul_nonneg h2 h3
 unfold leftI
 split <;> omega
theorem zabi {old y f y' f' : Int} (h2 : 0 ≤ y) (h : y ≤ y') (h3 : 0 ≤ f) (h' : f ≤ f') : leftI old y' f' ≤ leftI old y f := by
 have h4 : y * f ≤ y' * f' := Int.mul_le_mul h h' h3 (by omega)
 unfold leftI
 split <;> split <;> omega
def aimP (s : GTintSheet) (p : P3) : GSpan := ⟨leftI (selI s.Old p) s.Years.High (selS s.Fade p).High, leftI (selI s.Old p) s.Years.Low (selS s.Fade p).Low⟩
def aimS (s : GTintSheet) : GA3GSpan := ⟨aimP s .p0, aimP s .p1, aimP s .p2⟩
theorem zvu {s : GTintSheet} (hs : ShOk s) (p : P3) : zbv (selI s.Old p) s.Years.High (selS s.Fade p).High = some (aimP s p).Low := by
 have h1 := hs.old p
 have h2 := hs.yrs
 have h3 := hs.fade p
 exact zabo h1 (by omega) (by omega)
theorem zsb {s : GTintSheet} (hs : ShOk s) (p : P3) : zbv (selI s.Old p) s.Years.Low (selS s.Fade p).Low = some (aimP s p).High := by
 have h1 := hs.old p
 have h2 := hs.yrs
 have h3 := hs.fade p
 exact zabo h1 (by omega) (by omega)
theorem zapf {s : GTintSheet} (hs : ShOk s) : zdt s = some (aimS s) := by
 have a0 := zvu hs .p0
 have a1 := zvu hs .p1
 have a2 := zvu hs .p2
 have b0 := zsb hs .p0
 have b1 := zsb hs .p1
 have b2 := zsb hs .p2
 simp only [selI, selS] at a0 a1 a2 b0 b1 b2
 unfold zdt
 rw [a0, a1, a2, b0, b1, b2]
 rfl
theorem zaqc {s : GTintSheet} (hs : ShOk s) (p : P3) : 0 ≤ (aimP s p).Low ∧ (aimP s p).Low ≤ (aimP s p).High ∧ (aimP s p).High ≤ 99 := by
 have h1 := hs.old p
 have h2 := hs.yrs
 have h3 := hs.fade p
 have h4 := zaic (y := s.Years.High) (f := (selS s.Fade p).High) h1 (by omega) (by omega)
 have h5 := zaic (y := s.Years.Low) (f := (selS s.Fade p).Low) h1 (by omega) (by omega)
 have h6 := zabi (old := selI s.Old p) (y := s.Years.Low) (y' := s.Years.High) (f := (selS s.Fade p).Low) (f' := (selS s.Fade p).High) (by omega) (by omega) (by omega) (by omega)
 unfold aimP
 simp only
 omega
theorem zkx {s : GTintSheet} (hs : ShOk s) (p : P3) {y f : Int} (h2 : 0 ≤ y ∧ y ≤ 20) (h3 : 0 ≤ f ∧ f ≤ 9) : zaw s p.i y f = some (leftI (selI s.Old p) y f) := by
 have h1 := hs.old p
 have h := zabo h1 h2 h3
 unfold zbv at h
 unfold zaw
 cases p <;> simp only [P3.i, Int.reduceBEq, cond_true, cond_false] <;> exact h
theorem zaoa {s : GTintSheet} (hs : ShOk s) : zgz s = some (aimS s) := by
 have hy := hs.yrs
 have f0 := hs.fade .p0
 have f1 := hs.fade .p1
 have f2 := hs.fade .p2
 simp only [selS] at f0 f1 f2
 have a0 := zkx hs .p0 (y := s.Years.High) (f := s.Fade.a0.High) (by omega) (by omega)
 have a1 := zkx hs .p1 (y := s.Years.High) (f := s.Fade.a1.High) (by omega) (by omega)
 have a2 := zkx hs .p2 (y := s.Years.High) (f := s.Fade.a2.High) (by omega) (by omega)
 have b0 := zkx hs .p0 (y := s.Years.Low) (f := s.Fade.a0.Low) (by omega) (by omega)
 have b1 := zkx hs .p1 (y := s.Years.Low) (f := s.Fade.a1.Low) (by omega) (by omega)
 have b2 := zkx hs .p2 (y := s.Years.Low) (f := s.Fade.a2.Low) (by omega) (by omega)
 simp only [P3.i] at a0 a1 a2 b0 b1 b2
 unfold zgz
 rw [show Int.toNat (3 - 0) = 3 from rfl, show boundOk 3 = true from rfl]
 simp only [zei, Int.reduceAdd, Int.reduceBEq, cond_true, cond_false, a0, a1, a2, b0, b1, b2, Option.bind_some, lbind]
 rfl
theorem zrn (s : GTintSheet) (p : P3) : ∀ (ms : List Int) (ts : List GTintTin) (c o0 o1 o2 o3 o4 o5 : Int) (A : Int × Int), 0 ≤ c → List.drop c.toNat s.Tins = ts → ms.length ≤ ts.length → (∀ e ∈ ms, 0 ≤ e ∧ e ≤ 8) → (∀ t ∈ ts, 0 ≤ lowT p t ∧ lowT p t ≤ 99) → (∀ t ∈ ts, 0 ≤ highT p t ∧ highT p t ≤ 99) →
  A = (match p with | .p0 => (o0, o1) | .p1 => (o2, o3) | .p2 => (o4, o5)) → 0 ≤ A.1 → 0 ≤ A.2 → A.1 + 792 * ms.length ≤ 1000000 → A.2 + 792 * ms.length ≤ 1000000 →
  zcy s p.i ms c o0 o1 o2 o3 o4 o5 = some (.go (match p with
   | .p0 => (o0 + dot (lowT p) ms ts, o1 + dot (highT p) ms ts, o2, o3, o4, o5)
   | .p1 => (o0, o1, o2 + dot (lowT p) ms ts, o3 + dot (highT p) ms ts, o4, o5)
   | .p2 => (o0, o1, o2, o3, o4 + dot (lowT p) ms ts, o5 + dot (highT p) ms ts)))
 | [], ts, c, o0, o1, o2, o3, o4, o5, A, _, _, _, _, _, _, _, _, _, _, _ => by cases p <;> simp [zcy, dot]
 | e :: ms, [], _, _, _, _, _, _, _, _, _, _, hl, _, _, _, _, _, _, _, _ => by simp at hl
 | e :: ms, t :: ts, c, o0, o1, o2, o3, o4, o5, A, h0, hd, hl, h, h2, h2', hA, ha, ha', hb, hb' => by
  have h1 := h e (List.mem_cons_self ..)
  have h3 := h2 t (List.mem_cons_self ..)
  have h3' := h2' t (List.mem_cons_self ..)
  have h4 := mulR h1.1 h1.2 h3.1 h3.2
  have h4' := mulR h1.1 h1.2 h3'.1 h3'.2
  simp only [List.length_cons] at hb hb' hl
  simp only [zcy, zaj h0 hd, Option.bind_some]
  have ih := fun o0 o1 o2 o3 o4 o5 A => zrn s p ms ts (c + 1) o0 o1 o2 o3 o4 o5 A (by omega) (zay h0 hd) (by omega) (fun x hx => h x (List.mem_cons_of_mem _ hx)) (fun x hx => h2 x (List.mem_cons_of_mem _ hx)) (fun x hx => h2' x (List.mem_cons_of_mem _ hx))
  have hw : IntKind.i64.wrap (A.1 + IntKind.i64.wrap (e * lowT p t)) = A.1 + e * lowT p t := by rw [zek (n := e * lowT p t) (by omega) (by omega), zek (by omega) (by omega)]
  have hw' : IntKind.i64.wrap (A.2 + IntKind.i64.wrap (e * highT p t)) = A.2 + e * highT p t := by rw [zek (n := e * highT p t) (by omega) (by omega), zek (by omega) (by omega)]
  cases p <;> simp only at hA <;> subst hA <;> simp only [P3.i, Int.reduceBEq, cond_true, cond_false] <;> simp only [lowT, highT, selS] at hw hw' ha ha' hb hb' h4 h4' <;> rw [hw, hw']
  ·have := ih (o0 + e * t.Pigments.a0.Low) (o1 + e * t.Pigments.a0.High) o2 o3 o4 o5 _ rfl (by simp only; omega) (by simp only; omega) (by simp only; omega) (by simp only; omega)
   simp only [P3.i] at this
   rw [this]
   simp only [dot, lowT, highT, selS, Int.add_assoc]
  ·have := ih o0 o1 (o2 + e * t.Pigments.a1.Low) (o3 + e * t.Pigments.a1.High) o4 o5 _ rfl (by simp only; omega) (by simp only; omega) (by simp only; omega) (by simp only; omega)
   simp only [P3.i] at this
   rw [this]
   simp only [dot, lowT, highT, selS, Int.add_assoc]
  ·have := ih o0 o1 o2 o3 (o4 + e * t.Pigments.a2.Low) (o5 + e * t.Pigments.a2.High) _ rfl (by simp only; omega) (by simp only; omega) (by simp only; omega) (by simp only; omega)
   simp only [P3.i] at this
   rw [this]
   simp only [dot, lowT, highT, selS, Int.add_assoc]
theorem zajn {s : GTintSheet} (hs : ShOk s) {mix : List Int} (hm : MixOk s mix) : zgh s mix = some (sumsS s mix) := by
 have hl := hs.n
 have hn := hm.n
 have e0 := zrn s .p0 mix s.Tins 0 0 0 0 0 0 0 (0, 0) (Int.le_refl _) rfl (by omega) hm.b (hs.low _) (hs.high _) rfl (Int.le_refl _) (Int.le_refl _) (by simp only; omega) (by simp only; omega)
 have e1 := fun a b => zrn s .p1 mix s.Tins 0 a b 0 0 0 0 (0, 0) (Int.le_refl _) rfl (by omega) hm.b (hs.low _) (hs.high _) rfl (Int.le_refl _) (Int.le_refl _) (by simp only; omega) (by simp only; omega)
 have e2 := fun a b c d => zrn s .p2 mix s.Tins 0 a b c d 0 0 (0, 0) (Int.le_refl _) rfl (by omega) hm.b (hs.low _) (hs.high _) rfl (Int.le_refl _) (Int.le_refl _) (by simp only; omega) (by simp only; omega)
 simp only [P3.i] at e0 e1 e2
 unfold zgh
 rw [show Int.toNat (3 - 0) = 3 from rfl, show boundOk 3 = true from rfl]
 simp only [zfi, zhg (show mix.length < 9223372036854775808 by omega), Int.reduceAdd, cond_true, e0, e1, e2, lbind, Int.zero_add]
 rfl
end Go.V
end
section
namespace Go.V
open Go Go.Proofs
def zdq (x0_n : Int) : Option (GSpan) := some (GSpan.mk x0_n x0_n)
theorem zgk (x0_n : Int) (R : GSpan) (h : zdq x0_n = some R) : VPure Tryz.prog G0 99 [.lit (.int .i64 x0_n)] (.tree (.agg (cGSpan R))) := by
 refine VPure.runR mixed Tryz.call99 Tryz.func99 rfl (by simp [Tryz.ntmps99]; kernel_rfl) ?_
 obtain ⟨KF, h, kF, kN⟩ := zak h
 simp only [zdq] at h
 try simp only [vz, tyf, nm, seval]
 refine zaq (x := (.agg ([.lit (.int .i64 x0_n)] ++ [.lit (.int .i64 x0_n)]))) (by first | (simp only [Tryz.results99, resV, resL, resV1, zat, zbs, uw, cr, tyf, nm, seval] <;> rfl) | rfl) ?_
 obtain rfl := kF _ h
 refine zau ?_ ?_
 ·simp only [tre, tytre, Bool.and_self]
 ·first | (simp only [outV, uw, zae, cr, tyf, nrm, tynrm, nm, seval] <;> rfl) | rfl
end Go.V
end
section
namespace Go.V
open Go Go.Proofs
def zdk (x0_numbers : GA3Int) : Option (GA3GSpan) := Option.bind (zdq x0_numbers.a0) (fun r1 => Option.bind (zdq x0_numbers.a1) (fun r2 => Option.bind (zdq x0_numbers.a2) (fun r3 => some (GA3GSpan.mk r1 r2 r3))))
theorem zgc (x0_numbers : GA3Int) (R : GA3GSpan) (h : zdk x0_numbers = some R) : VPure Tryz.prog G0 100 [.agg (cGA3Int x0_numbers)] (.tree (.agg (cGA3GSpan R))) := by
 refine VPure.runR mixed Tryz.call100 Tryz.func100 rfl (by simp [Tryz.ntmps100]; kernel_rfl) ?_
 obtain ⟨KF, h, kF, kN⟩ := zak h
 simp only [zdk] at h
 simp only [vz, tyf, nm, seval]
 refine zgo mixed (by kernel_rfl) 4 ?_
 rcases o5 : (zdq x0_numbers.a0) with _ | r4
 ·simp only [o5, hs] at h
  exact absurd h kN
 simp only [o5, hs] at h
 simp only [vz, tyf, nm, seval]
 refine ktree (args0 := [.lit (.int .i64 x0_numbers.a0)]) (by first | (simp only [nrm, tynrm] <;> rfl) | rfl) (by simp only [tre, tytre, Bool.and_self]) (zgk _ _ o5) ?_
 refine zac (fun tm => tm 2 = .ptr 1 0 ∧ tm 3 = .ptr 2 0 ∧ tm 6 = .agg (cGA3Int x0_numbers) ∧ tm 7 = .lit (.int .i64 0) ∧ tm 11 = .lit (.int .i64 0) ∧ tm 13 = .agg (cGSpan r4) ∧ True) (by refine ⟨?_, ?_, ?_, ?_, ?_, ?_, trivial⟩ <;> first | (simp only [ua, nm, seval] <;> rfl) | rfl) ?_
 rintro tm ⟨e6, e7, e8, e9, e10, e11, _⟩
 rcases o13 : (zdq x0_numbers.a1) with _ | r12
 ·simp only [o13, hs] at h
  exact absurd h kN
 simp only [o13, hs] at h
 simp only [vz, tyf, e6, e7, e8, e9, e10, e11, nm, seval]
 refine ktree (args0 := [.lit (.int .i64 x0_numbers.a1)]) (by first | (simp only [nrm, tynrm] <;> rfl) | rfl) (by simp only [tre, tytre, Bool.and_self]) (zgk _ _ o13) ?_
 refine zac (fun tm => tm 2 = .ptr 1 0 ∧ tm 3 = .ptr 2 0 ∧ tm 6 = .agg (cGA3Int x0_numbers) ∧ tm 7 = .lit (.int .i64 1) ∧ tm 11 = .lit (.int .i64 1) ∧ tm 13 = .agg (cGSpan r12) ∧ True) (by refine ⟨e6, e7, e8, ?_, ?_, ?_, trivial⟩ <;> first | (simp only [ua, e6, e7, e8, e9, e10, e11, nm, seval] <;> rfl) | rfl) ?_
 rintro tm ⟨e14, e15, e16, e17, e18, e19, _⟩
 rcases o21 : (zdq x0_numbers.a2) with _ | r20
 ·simp only [o21, hs] at h
  exact absurd h kN
 simp only [o21, hs] at h
 simp only [vz, tyf, e14, e15, e16, e17, e18, e19, nm, seval]
 refine ktree (args0 := [.lit (.int .i64 x0_numbers.a2)]) (by first | (simp only [nrm, tynrm] <;> rfl) | rfl) (by simp only [tre, tytre, Bool.and_self]) (zgk _ _ o21) ?_
 refine zac (fun tm => tm 2 = .ptr 1 0 ∧ tm 3 = .ptr 2 0 ∧ tm 6 = .agg (cGA3Int x0_numbers) ∧ tm 7 = .lit (.int .i64 2) ∧ tm 11 = .lit (.int .i64 2) ∧ tm 13 = .agg (cGSpan r20) ∧ True) (by refine ⟨e14, e15, e16, ?_, ?_, ?_, trivial⟩ <;> first | (simp only [ua, e14, e15, e16, e17, e18, e19, nm, seval] <;> rfl) | rfl) ?_
 rintro tm ⟨e22, e23, e24, e25, e26, e27, _⟩
 try simp only [vz, tyf, e22, e23, e24, e25, e26, e27, nm, seval]
 refine zaq (x := (.agg ((cGSpan r4) ++ (cGSpan r12) ++ (cGSpan r20)))) (by first | (simp only [Tryz.results100, resV, resL, resV1, zat, zbs, uw, cr, tyf, e22, e23, e24, e25, e26, e27, nm, seval] <;> rfl) | rfl) ?_
 obtain rfl := kF _ h
 refine zau ?_ ?_
 ·simp only [tre, tytre, Bool.and_self]
 ·first | (simp only [outV, uw, zae, cr, tyf, nrm, tynrm, e22, e23, e24, e25, e26, e27, nm, seval] <;> rfl) | rfl
end Go.V
end
