/- Part of a proof: a logic of values by content, lifted functions, what follows. -/
import Derived.Test.YtekhjalgmlflpaaGreatDoorQbf
import Derived.Test.YtekhjalgmlflpaaGreatDoorQbe
import Derived.Test.YtekhjalgmlflpaaGreatDoorQbg
set_option linter.all false
set_option maxRecDepth 4000
set_option maxHeartbeats 40000000
section
namespace Go.V
open Go Go.Proofs
def zaz (x0_x : Gtintmixed) (x1_pigment : Int) : List Int → Int → Int → Option (LOut (Int) (Int))
 | [], c0_11, c0_5 => some (.go c0_5)
 | e0 :: p0, c0_11, c0_5 => Option.bind (getI x0_x.TintSheet.Tins c0_11) (fun x1 => cond (x1_pigment == 0) (zaz x0_x x1_pigment p0 (c0_11 + 1) (IntKind.i64.wrap (c0_5 + (IntKind.i64.wrap (e0 * x1.Pigments.a0.High))))) (cond (x1_pigment == 1) (zaz x0_x x1_pigment p0 (c0_11 + 1) (IntKind.i64.wrap (c0_5 + (IntKind.i64.wrap (e0 * x1.Pigments.a1.High))))) (cond (x1_pigment == 2) (zaz x0_x x1_pigment p0 (c0_11 + 1) (IntKind.i64.wrap (c0_5 + (IntKind.i64.wrap (e0 * x1.Pigments.a2.High))))) (none))))
def zbd (x0_x : Gtintmixed) (x1_pigment : Int) : Option (Int) := cond (lenOk x0_x.mix) (lbind (zaz x0_x x1_pigment x0_x.mix 0 0) (fun r3 => some r3) (fun c2 => some c2) (fun _ _ => none)) none
theorem zej (x0_x : Gtintmixed) (x1_pigment : Int) (R : Int) (h : zbd x0_x x1_pigment = some R) : VPure Tryz.prog G0 97 [.agg (cGtintmixed x0_x), .lit (.int .i64 x1_pigment)] (.tree (.lit (.int .i64 R))) := by
 refine VPure.runR mixed Tryz.call97 Tryz.func97 rfl (by simp [Tryz.ntmps97]; kernel_rfl) ?_
 obtain ⟨KF, h, kF, kN⟩ := zak h
 simp only [zbd] at h
 cases g5 : (lenOk x0_x.mix)
 ·simp only [g5, hs] at h
  exact absurd h kN
 simp only [g5, hs] at h
 simp only [vz, tyf, g5, nm, seval]
 obtain ⟨K4, h, kR4, kG4, kB4, kN4⟩ := zbc h kN
 obtain ⟨f4, hf4, h⟩ := call3 h
 obtain ⟨I4, hI4⟩ : ∃ I : Nat → St → Prop, I = (fun m st => ∃ (p4 : List Int) (c4_11 : Int) (c4_5 : Int), m = List.length p4 ∧ 0 ≤ c4_11 ∧ List.drop (Int.toNat c4_11) x0_x.mix = p4 ∧ st.df = [] ∧ 7 ≤ st.nx ∧ st.H 0 = some (.cells (some 89) (cGtintmixed x0_x)) ∧ st.tm 1 = .lit (.int .i64 x1_pigment) ∧ st.tm 2 = .ptr 0 0 ∧ st.tm 9 = .sl (cellsL eI x0_x.mix) (List.length x0_x.mix) false ∧ st.tm 10 = .lit (.int .i64 (List.length x0_x.mix : Int)) ∧ st.tm 5 = .lit (.int .i64 c4_5) ∧ st.tm 11 = .lit (.int .i64 c4_11) ∧ K4 (f4 p4 c4_11 c4_5)) := ⟨_, rfl⟩
 refine loopK mixed (by kernel_rfl) I4 (List.length x0_x.mix) (by rw [hI4]; refine ⟨x0_x.mix, 0, 0, rfl, Int.le_refl _, rfl, rfl, (show 7 ≤ 7 by omega), ?_, ?_, ?_, ?_, ?_, ?_, ?_, h⟩ <;> first | (simp only [ua, nm, seval] <;> rfl) | rfl) ?_
 rintro m ⟨tm, H, nx4, df⟩ hinv
 rw [hI4] at hinv
 obtain ⟨p4, c4_11, c4_5, rfl, hi4, hp4, hdf, hn4, H6, e7, e8, e9, e10, e11, e12, h⟩ := hinv
 simp only at hdf hn4 H6 e7 e8 e9 e10 e11 e12
 have n13 := zda (m := 7) (b := nx4) (by omega)
 subst hdf hf4
 cases p4 with
 | nil =>
  have d14 : (decide (c4_11 < (List.length x0_x.mix : Int))) = false := zam hi4 hp4
  simp only [zaz, hs, reduceCtorEq] at h
  replace h := kG4 _ h
  try dsimp only at h
  try simp only [hs] at h
  try simp only [vz, tyf, g5, n13, e7, e8, e9, e10, e11, e12, H6, d14, nm, seval]
  refine zaq (x := (.lit (.int .i64 c4_5))) (by first | (simp only [Tryz.results97, resV, resL, resV1, zat, zbs, uw, cr, tyf, g5, n13, H6, d14, nm, seval] <;> rfl) | rfl) ?_
  obtain rfl := kF _ h
  refine zau ?_ ?_
  ·simp only [tre, tytre, Bool.and_self]
  ·first | (simp only [outV, uw, zae, cr, tyf, nrm, tynrm, g5, n13, e7, e8, e9, e10, e11, e12, H6, d14, nm, seval] <;> rfl) | rfl
 | cons e4 p4 =>
  have d15 : (decide (c4_11 < (List.length x0_x.mix : Int))) = true := zbp hi4 hp4
  have o17 := zaj hi4 hp4
  have w16 := zcm hi4 hp4 g5
  simp only [zaz, hs, reduceCtorEq] at h
  rcases o19 : (getI x0_x.TintSheet.Tins c4_11) with _ | x18
  ·simp only [o19, hs] at h
   exact absurd h kN4
  simp only [o19, hs] at h
  cases d20 : (x1_pigment == 0)
  ·simp only [d20, hs] at h
   cases d21 : (x1_pigment == 1)
   ·simp only [d21, hs] at h
    have b22 := And.intro g5 (And.intro n13 (And.intro H6 (And.intro d15 (And.intro w16 (And.intro d20 d21)))))
    cases d23 : (x1_pigment == 2)
    ·simp only [d23, hs] at h
     exact absurd h kN4
    simp only [d23, hs] at h
    simp only [vz, tyf, b22, e7, e8, e9, e10, e11, e12, (ix29 o17), (ix26 o19), d23, (zmy d23), nm, seval]
    exact ⟨List.length p4, Nat.lt_succ_self _, by rw [hI4]; refine ⟨p4, c4_11 + 1, IntKind.i64.wrap (c4_5 + (IntKind.i64.wrap (e4 * x18.Pigments.a2.High))), rfl, Int.le_trans hi4 (Int.le_add_one (Int.le_refl _)), zay hi4 hp4, rfl, (show 7 ≤ nx4 + 23 by omega), ?_, e7, e8, e9, e10, ?_, ?_, h⟩ <;> first | (simp only [ua, b22, e7, e8, e9, e10, e11, e12, d23, nm, seval] <;> rfl) | rfl⟩
   simp only [d21, hs] at h
   have b24 := And.intro g5 (And.intro n13 (And.intro H6 (And.intro d15 (And.intro w16 (And.intro d20 d21)))))
   simp only [vz, tyf, b24, e7, e8, e9, e10, e11, e12, (ix29 o17), (ix26 o19), (zmz d21), nm, seval]
   exact ⟨List.length p4, Nat.lt_succ_self _, by rw [hI4]; refine ⟨p4, c4_11 + 1, IntKind.i64.wrap (c4_5 + (IntKind.i64.wrap (e4 * x18.Pigments.a1.High))), rfl, Int.le_trans hi4 (Int.le_add_one (Int.le_refl _)), zay hi4 hp4, rfl, (show 7 ≤ nx4 + 23 by omega), ?_, e7, e8, e9, e10, ?_, ?_, h⟩ <;> first | (simp only [ua, b24, e7, e8, e9, e10, e11, e12, nm, seval] <;> rfl) | rfl⟩
  simp only [d20, hs] at h
  simp only [vz, tyf, g5, n13, e7, e8, e9, e10, e11, e12, H6, d15, (ix29 o17), w16, (ix26 o19), d20, (znc d20), nm, seval]
  exact ⟨List.length p4, Nat.lt_succ_self _, by rw [hI4]; refine ⟨p4, c4_11 + 1, IntKind.i64.wrap (c4_5 + (IntKind.i64.wrap (e4 * x18.Pigments.a0.High))), rfl, Int.le_trans hi4 (Int.le_add_one (Int.le_refl _)), zay hi4 hp4, rfl, (show 7 ≤ nx4 + 23 by omega), ?_, e7, e8, e9, e10, ?_, ?_, h⟩ <;> first | (simp only [ua, n13, e7, e8, e9, e10, e11, e12, H6, d15, w16, d20, nm, seval] <;> rfl) | rfl⟩
end Go.V
end
section
namespace Go.V
open Go Go.Proofs
def zct (x0_x : Gtintmixed) : Option (GA3GSpan) := Option.bind (zbl x0_x 0) (fun r1 => Option.bind (zbd x0_x 0) (fun r2 => Option.bind (zbl x0_x 1) (fun r3 => Option.bind (zbd x0_x 1) (fun r4 => Option.bind (zbl x0_x 2) (fun r5 => Option.bind (zbd x0_x 2) (fun r6 => some (GA3GSpan.mk (GSpan.mk r1 r2) (GSpan.mk r3 r4) (GSpan.mk r5 r6))))))))
theorem zhj (x0_x : Gtintmixed) (R : GA3GSpan) (h : zct x0_x = some R) : VPure Tryz.prog G0 63 [.agg (cGtintmixed x0_x)] (.tree (.agg (cGA3GSpan R))) := by
 refine VPure.runR mixed Tryz.call63 Tryz.func63 rfl (by simp [Tryz.ntmps63]; kernel_rfl) ?_
 obtain ⟨KF, h, kF, kN⟩ := zak h
 simp only [zct] at h
 simp only [vz, tyf, nm, seval]
 refine zgo mixed (by kernel_rfl) 4 ?_
 simp only [vz, tyf, nm, seval]
 refine zdc (fun tm => tm 2 = .ptr 1 0 ∧ tm 3 = .ptr 7 0 ∧ tm 4 = .ptr 9 0 ∧ tm 5 = .lit (.int .i64 0) ∧ tm 11 = .lit (.int .i64 0) ∧ True) (by refine ⟨?_, ?_, ?_, ?_, ?_, trivial⟩ <;> first | (simp only [ua, nm, seval] <;> rfl) | rfl) ?_
 rintro tm ⟨e7, e8, e9, e10, e11, _⟩
 rcases o13 : (zbl x0_x 0) with _ | r12
 ·simp only [o13, hs] at h
  exact absurd h kN
 simp only [o13, hs] at h
 simp only [vz, tyf, e7, e8, e9, e10, e11, nm, seval]
 refine dktree (args0 := [.agg (cGtintmixed x0_x), .lit (.int .i64 0)]) (by first | (simp only [nrm, tynrm] <;> rfl) | rfl) (by simp only [tre, tytre, Bool.and_self]) (zfd _ _ _ o13) ?_
 refine zac (fun tm => tm 2 = .ptr 1 0 ∧ tm 3 = .ptr 7 0 ∧ tm 4 = .ptr 9 0 ∧ tm 5 = .lit (.int .i64 0) ∧ tm 11 = .lit (.int .i64 0) ∧ tm 14 = .lit (.int .i64 0) ∧ tm 18 = .lit (.int .i64 r12) ∧ True) (by refine ⟨e7, e8, e9, e10, e11, ?_, ?_, trivial⟩ <;> first | (simp only [ua, e7, e8, e9, e10, e11, nm, seval] <;> rfl) | rfl) ?_
 rintro tm ⟨e14, e15, e16, e17, e18, e19, e20, _⟩
 rcases o22 : (zbd x0_x 0) with _ | r21
 ·simp only [o22, hs] at h
  exact absurd h kN
 simp only [o22, hs] at h
 simp only [vz, tyf, e14, e15, e16, e17, e18, e19, e20, nm, seval]
 refine dktree (args0 := [.agg (cGtintmixed x0_x), .lit (.int .i64 0)]) (by first | (simp only [nrm, tynrm] <;> rfl) | rfl) (by simp only [tre, tytre, Bool.and_self]) (zej _ _ _ o22) ?_
 refine zac (fun tm => tm 2 = .ptr 1 0 ∧ tm 3 = .ptr 7 0 ∧ tm 4 = .ptr 9 0 ∧ tm 11 = .lit (.int .i64 0) ∧ tm 14 = .lit (.int .i64 0) ∧ tm 18 = .lit (.int .i64 r12) ∧ tm 22 = .lit (.int .i64 r21) ∧ True) (by refine ⟨e14, e15, e16, e18, e19, e20, ?_, trivial⟩ <;> first | (simp only [ua, e14, e15, e16, e17, e18, e19, e20, nm, seval] <;> rfl) | rfl) ?_
 rintro tm ⟨e23, e24, e25, e26, e27, e28, e29, _⟩
 simp only [vz, tyf, e23, e24, e25, e26, e27, e28, e29, nm, seval]
 refine zcr ⟨?_, ?_⟩
 ·simp only [zbj, zbu, zai, zdl, and_true, true_and]
  repeat' (first | exact trivial | refine And.intro ?_ ?_ | rw [zai] | rw [zcp] | exact Or.inl (by decide +kernel) | exact Or.inl (by dsimp only; decide +kernel) | (refine Or.inr ⟨?_, ?_⟩ <;> simp; done) | (refine Or.inr ⟨?_, ?_⟩ <;> simp <;> omega) | (refine Or.inr ⟨?_, ?_⟩ <;> simp [VEff.wr] <;> omega))
 simp only [vz, tyf, e23, e24, e25, e26, e27, e28, e29, nm, seval]
 refine zdc (fun tm => tm 2 = .ptr 1 0 ∧ tm 3 = .ptr 7 0 ∧ tm 4 = .ptr 9 0 ∧ tm 5 = .lit (.int .i64 1) ∧ tm 11 = .lit (.int .i64 1) ∧ True) (by refine ⟨e23, e24, e25, ?_, ?_, trivial⟩ <;> first | (simp only [ua, e23, e24, e25, e26, e27, e28, e29, nm, seval] <;> rfl) | rfl) ?_
 rintro tm ⟨e30, e31, e32, e33, e34, _⟩
 rcases o36 : (zbl x0_x 1) with _ | r35
 ·simp only [o36, hs] at h
  exact absurd h kN
 simp only [o36, hs] at h
 simp only [vz, tyf, e30, e31, e32, e33, e34, nm, seval]
 refine dktree (args0 := [.agg (cGtintmixed x0_x), .lit (.int .i64 1)]) (by first | (simp only [nrm, tynrm] <;> rfl) | rfl) (by simp only [tre, tytre, Bool.and_self]) (zfd _ _ _ o36) ?_
 refine zac (fun tm => tm 2 = .ptr 1 0 ∧ tm 3 = .ptr 7 0 ∧ tm 4 = .ptr 9 0 ∧ tm 5 = .lit (.int .i64 1) ∧ tm 11 = .lit (.int .i64 1) ∧ tm 14 = .lit (.int .i64 1) ∧ tm 18 = .lit (.int .i64 r35) ∧ True) (by refine ⟨e30, e31, e32, e33, e34, ?_, ?_, trivial⟩ <;> first | (simp only [ua, e30, e31, e32, e33, e34, nm, seval] <;> rfl) | rfl) ?_
 rintro tm ⟨e37, e38, e39, e40, e41, e42, e43, _⟩
 rcases o45 : (zbd x0_x 1) with _ | r44
 ·simp only [o45, hs] at h
  exact absurd h kN
 simp only [o45, hs] at h
 simp only [vz, tyf, e37, e38, e39, e40, e41, e42, e43, nm, seval]
 refine dktree (args0 := [.agg (cGtintmixed x0_x), .lit (.int .i64 1)]) (by first | (simp only [nrm, tynrm] <;> rfl) | rfl) (by simp only [tre, tytre, Bool.and_self]) (zej _ _ _ o45) ?_
 refine zac (fun tm => tm 2 = .ptr 1 0 ∧ tm 3 = .ptr 7 0 ∧ tm 4 = .ptr 9 0 ∧ tm 11 = .lit (.int .i64 1) ∧ tm 14 = .lit (.int .i64 1) ∧ tm 18 = .lit (.int .i64 r35) ∧ tm 22 = .lit (.int .i64 r44) ∧ True) (by refine ⟨e37, e38, e39, e41, e42, e43, ?_, trivial⟩ <;> first | (simp only [ua, e37, e38, e39, e40, e41, e42, e43, nm, seval] <;> rfl) | rfl) ?_
 rintro tm ⟨e46, e47, e48, e49, e50, e51, e52, _⟩
 simp only [vz, tyf, e46, e47, e48, e49, e50, e51, e52, nm, seval]
 refine zcr ⟨?_, ?_⟩
 ·simp only [zbj, zbu, zai, zdl, and_true, true_and]
  repeat' (first | exact trivial | refine And.intro ?_ ?_ | rw [zai] | rw [zcp] | exact Or.inl (by decide +kernel) | exact Or.inl (by dsimp only; decide +kernel) | (refine Or.inr ⟨?_, ?_⟩ <;> simp; done) | (refine Or.inr ⟨?_, ?_⟩ <;> simp <;> omega) | (refine Or.inr ⟨?_, ?_⟩ <;> simp [VEff.wr] <;> omega))
 simp only [vz, tyf, e46, e47, e48, e49, e50, e51, e52, nm, seval]
 refine zdc (fun tm => tm 2 = .ptr 1 0 ∧ tm 3 = .ptr 7 0 ∧ tm 4 = .ptr 9 0 ∧ tm 5 = .lit (.int .i64 2) ∧ tm 11 = .lit (.int .i64 2) ∧ True) (by refine ⟨e46, e47, e48, ?_, ?_, trivial⟩ <;> first | (simp only [ua, e46, e47, e48, e49, e50, e51, e52, nm, seval] <;> rfl) | rfl) ?_
 rintro tm ⟨e53, e54, e55, e56, e57, _⟩
 rcases o59 : (zbl x0_x 2) with _ | r58
 ·simp only [o59, hs] at h
  exact absurd h kN
 simp only [o59, hs] at h
 simp only [vz, tyf, e53, e54, e55, e56, e57, nm, seval]
 refine dktree (args0 := [.agg (cGtintmixed x0_x), .lit (.int .i64 2)]) (by first | (simp only [nrm, tynrm] <;> rfl) | rfl) (by simp only [tre, tytre, Bool.and_self]) (zfd _ _ _ o59) ?_
 refine zac (fun tm => tm 2 = .ptr 1 0 ∧ tm 3 = .ptr 7 0 ∧ tm 4 = .ptr 9 0 ∧ tm 5 = .lit (.int .i64 2) ∧ tm 11 = .lit (.int .i64 2) ∧ tm 14 = .lit (.int .i64 2) ∧ tm 18 = .lit (.int .i64 r58) ∧ True) (by refine ⟨e53, e54, e55, e56, e57, ?_, ?_, trivial⟩ <;> first | (simp only [ua, e53, e54, e55, e56, e57, nm, seval] <;> rfl) | rfl) ?_
 rintro tm ⟨e60, e61, e62, e63, e64, e65, e66, _⟩
 rcases o68 : (zbd x0_x 2) with _ | r67
 ·simp only [o68, hs] at h
  exact absurd h kN
 simp only [o68, hs] at h
 simp only [vz, tyf, e60, e61, e62, e63, e64, e65, e66, nm, seval]
 refine dktree (args0 := [.agg (cGtintmixed x0_x), .lit (.int .i64 2)]) (by first | (simp only [nrm, tynrm] <;> rfl) | rfl) (by simp only [tre, tytre, Bool.and_self]) (zej _ _ _ o68) ?_
 refine zac (fun tm => tm 2 = .ptr 1 0 ∧ tm 3 = .ptr 7 0 ∧ tm 4 = .ptr 9 0 ∧ tm 11 = .lit (.int .i64 2) ∧ tm 14 = .lit (.int .i64 2) ∧ tm 18 = .lit (.int .i64 r58) ∧ tm 22 = .lit (.int .i64 r67) ∧ True) (by refine ⟨e60, e61, e62, e64, e65, e66, ?_, trivial⟩ <;> first | (simp only [ua, e60, e61, e62, e63, e64, e65, e66, nm, seval] <;> rfl) | rfl) ?_
 rintro tm ⟨e69, e70, e71, e72, e73, e74, e75, _⟩
 simp only [vz, tyf, e69, e70, e71, e72, e73, e74, e75, nm, seval]
 refine zcr ⟨?_, ?_⟩
 ·simp only [zbj, zbu, zai, zdl, and_true, true_and]
  repeat' (first | exact trivial | refine And.intro ?_ ?_ | rw [zai] | rw [zcp] | exact Or.inl (by decide +kernel) | exact Or.inl (by dsimp only; decide +kernel) | (refine Or.inr ⟨?_, ?_⟩ <;> simp; done) | (refine Or.inr ⟨?_, ?_⟩ <;> simp <;> omega) | (refine Or.inr ⟨?_, ?_⟩ <;> simp [VEff.wr] <;> omega))
 try simp only [vz, tyf, e69, e70, e71, e72, e73, e74, e75, nm, seval]
 refine zaq (x := (.agg ([.lit (.int .i64 r12)] ++ [.lit (.int .i64 r21)] ++ [.lit (.int .i64 r35)] ++ [.lit (.int .i64 r44)] ++ [.lit (.int .i64 r58)] ++ [.lit (.int .i64 r67)]))) (by first | (simp only [Tryz.results63, resV, resL, resV1, zat, zbs, uw, cr, tyf, e69, e70, e71, e72, e73, e74, e75, nm, seval] <;> rfl) | rfl) ?_
 obtain rfl := kF _ h
 refine zau ?_ ?_
 ·simp only [tre, tytre, Bool.and_self]
 ·first | (simp only [outV, uw, zae, cr, tyf, nrm, tynrm, e69, e70, e71, e72, e73, e74, e75, nm, seval] <;> rfl) | rfl
end Go.V
end
section
namespace Go.V
open Go Go.Proofs
def zhd (x0_s : GTintSheet) (x1_mix : List Int) : Option (GA3GSpan × Int) := Option.bind (zap x0_s) (fun r1 => cond (r1) (Option.bind (zck x0_s x1_mix) (fun r2 => cond (r2) (Option.bind (zct (Gtintmixed.mk x0_s x1_mix)) (fun r3 => some (r3, 0))) (some ((GA3GSpan.mk (GSpan.mk 0 0) (GSpan.mk 0 0) (GSpan.mk 0 0)), 2)))) (some ((GA3GSpan.mk (GSpan.mk 0 0) (GSpan.mk 0 0) (GSpan.mk 0 0)), 2)))
theorem zrs (x0_s : GTintSheet) (x1_mix : List Int) (R : GA3GSpan × Int) (h : zhd x0_s x1_mix = some R) : VPure Tryz.prog G0 19 [.agg (cGTintSheet x0_s), .sl (cellsL eI x1_mix) (List.length x1_mix) false] (.tree (.tup [.agg (cGA3GSpan R.1), .lit (.int .i64 R.2)])) := by
 refine VPure.runR mixed Tryz.call19 Tryz.func19 rfl (by simp [Tryz.ntmps19]; kernel_rfl) ?_
 obtain ⟨KF, h, kF, kN⟩ := zak h
 simp only [zhd] at h
 rcases o5 : (zap x0_s) with _ | r4
 ·simp only [o5, hs] at h
  exact absurd h kN
 simp only [o5, hs] at h
 simp only [vz, tyf, nm, seval]
 refine ktree (args0 := [.agg (cGTintSheet x0_s)]) (by first | (simp only [nrm, tynrm] <;> rfl) | rfl) (by simp only [tre, tytre, Bool.and_self]) (zcg _ _ o5) ?_
 refine zac (fun tm => tm 1 = .sl (cellsL eI x1_mix) (List.length x1_mix) false ∧ tm 2 = .ptr 0 0 ∧ tm 4 = .ptr 1 0 ∧ tm 7 = .lit (.bool r4) ∧ True) (by refine ⟨?_, ?_, ?_, ?_, trivial⟩ <;> first | (simp only [ua, nm, seval] <;> rfl) | rfl) ?_
 rintro tm ⟨e6, e7, e8, e9, _⟩
 cases d10 : (r4)
 ·simp only [d10, hs] at h
  try simp only [vz, tyf, e6, e7, e8, e9, d10, nm, seval]
  refine zaq (x := (.tup [.agg ([.lit (.int .i64 0)] ++ [.lit (.int .i64 0)] ++ [.lit (.int .i64 0)] ++ [.lit (.int .i64 0)] ++ [.lit (.int .i64 0)] ++ [.lit (.int .i64 0)]), .lit (.int .i64 2)])) (by first | (simp only [Tryz.results19, resV, resL, resV1, zat, zbs, uw, cr, tyf, e6, e7, e8, e9, d10, nm, seval] <;> rfl) | rfl) ?_
  obtain rfl := kF _ h
  refine zau ?_ ?_
  ·simp only [tre, tytre, Bool.and_self]
  ·first | (simp only [outV, uw, zae, cr, tyf, nrm, tynrm, e6, e7, e8, e9, d10, nm, seval] <;> rfl) | rfl
 simp only [d10, hs] at h
 rcases o12 : (zck x0_s x1_mix) with _ | r11
 ·simp only [o12, hs] at h
  exact absurd h kN
 simp only [o12, hs] at h
 simp only [vz, tyf, e6, e7, e8, e9, d10, nm, seval]
 refine ktree (args0 := [.agg (cGTintSheet x0_s), .sl (cellsL eI x1_mix) (List.length x1_mix) false]) (by first | (simp only [nrm, tynrm] <;> rfl) | rfl) (by simp only [tre, tytre, Bool.and_self]) (zgu _ _ _ o12) ?_
 refine zac (fun tm => tm 1 = .sl (cellsL eI x1_mix) (List.length x1_mix) false ∧ tm 2 = .ptr 0 0 ∧ tm 4 = .ptr 1 0 ∧ tm 9 = .lit (.bool false) ∧ tm 12 = .lit (.bool r11) ∧ True) (by refine ⟨e6, e7, e8, ?_, ?_, trivial⟩ <;> first | (simp only [ua, e6, e7, e8, e9, d10, nm, seval] <;> rfl) | rfl) ?_
 rintro tm ⟨e13, e14, e15, e16, e17, _⟩
 cases d18 : (r11)
 ·simp only [d18, hs] at h
  try simp only [vz, tyf, d10, e13, e14, e15, e16, e17, d18, nm, seval]
  refine zaq (x := (.tup [.agg ([.lit (.int .i64 0)] ++ [.lit (.int .i64 0)] ++ [.lit (.int .i64 0)] ++ [.lit (.int .i64 0)] ++ [.lit (.int .i64 0)] ++ [.lit (.int .i64 0)]), .lit (.int .i64 2)])) (by first | (simp only [Tryz.results19, resV, resL, resV1, zat, zbs, uw, cr, tyf, d10, e13, e14, e15, e16, e17, d18, nm, seval] <;> rfl) | rfl) ?_
  obtain rfl := kF _ h
  refine zau ?_ ?_
  ·simp only [tre, tytre, Bool.and_self]
  ·first | (simp only [outV, uw, zae, cr, tyf, nrm, tynrm, d10, e13, e14, e15, e16, e17, d18, nm, seval] <;> rfl) | rfl
 simp only [d18, hs] at h
 rcases o20 : (zct (Gtintmixed.mk x0_s x1_mix)) with _ | r19
 ·simp only [o20, hs] at h
  exact absurd h kN
 simp only [o20, hs] at h
 simp only [vz, tyf, d10, e13, e14, e15, e16, e17, d18, nm, seval]
 refine ktree (args0 := [.agg (cGtintmixed (Gtintmixed.mk x0_s x1_mix))]) (by first | (simp only [nrm, tynrm] <;> rfl) | rfl) (by simp only [tre, tytre, Bool.and_self]) (zhj _ _ o20) ?_
 refine zac (fun tm => tm 4 = .ptr 1 0 ∧ tm 19 = .agg (cGA3GSpan r19) ∧ True) (by refine ⟨e15, ?_, trivial⟩ <;> first | (simp only [ua, d10, e13, e14, e15, e16, e17, d18, nm, seval] <;> rfl) | rfl) ?_
 rintro tm ⟨e21, e22, _⟩
 try simp only [vz, tyf, d10, d18, e21, e22, nm, seval]
 refine zaq (x := (.tup [.agg (cGA3GSpan r19), .lit (.int .i64 0)])) (by first | (simp only [Tryz.results19, resV, resL, resV1, zat, zbs, uw, cr, tyf, d10, d18, e21, e22, nm, seval] <;> rfl) | rfl) ?_
 obtain rfl := kF _ h
 refine zau ?_ ?_
 ·simp only [tre, tytre, Bool.and_self]
 ·first | (simp only [outV, uw, zae, cr, tyf, nrm, tynrm, d10, d18, e21, e22, nm, seval] <;> rfl) | rfl
end Go.V
end
section
namespace Go.V
open Go Go.Proofs
def zbv (x0_old : Int) (x1_years : Int) (x2_fade : Int) : Option (Int) := some (if 0 < (IntKind.i64.wrap (x0_old - (IntKind.i64.wrap (x1_years * x2_fade)))) then (IntKind.i64.wrap (x0_old - (IntKind.i64.wrap (x1_years * x2_fade)))) else 0)
theorem zez (x0_old : Int) (x1_years : Int) (x2_fade : Int) (R : Int) (h : zbv x0_old x1_years x2_fade = some R) : VPure Tryz.prog G0 94 [.lit (.int .i64 x0_old), .lit (.int .i64 x1_years), .lit (.int .i64 x2_fade)] (.tree (.lit (.int .i64 R))) := by
 refine VPure.runR mixed Tryz.call94 Tryz.func94 rfl (by simp [Tryz.ntmps94]; kernel_rfl) ?_
 obtain ⟨KF, h, kF, kN⟩ := zak h
 simp only [zbv] at h
 try simp only [vz, tyf, nm, seval]
 refine zaq (x := (.lit (.int .i64 (if 0 < (IntKind.i64.wrap (x0_old - (IntKind.i64.wrap (x1_years * x2_fade)))) then (IntKind.i64.wrap (x0_old - (IntKind.i64.wrap (x1_years * x2_fade)))) else 0)))) (by first | (simp only [Tryz.results94, resV, resL, resV1, zat, zbs, uw, cr, tyf, nm, seval] <;> rfl) | rfl) ?_
 obtain rfl := kF _ h
 refine zau ?_ ?_
 ·simp only [tre, tytre, Bool.and_self]
 ·first | (simp only [outV, uw, zae, cr, tyf, nrm, tynrm, nm, seval] <;> rfl) | rfl
end Go.V
end
section
namespace Go.V
open Go Go.Proofs
def zdt (x0_s : GTintSheet) : Option (GA3GSpan) := Option.bind (zbv x0_s.Old.a0 x0_s.Years.High x0_s.Fade.a0.High) (fun r1 => Option.bind (zbv x0_s.Old.a0 x0_s.Years.Low x0_s.Fade.a0.Low) (fun r2 => Option.bind (zbv x0_s.Old.a1 x0_s.Years.High x0_s.Fade.a1.High) (fun r3 => Option.bind (zbv x0_s.Old.a1 x0_s.Years.Low x0_s.Fade.a1.Low) (fun r4 => Option.bind (zbv x0_s.Old.a2 x0_s.Years.High x0_s.Fade.a2.High) (fun r5 => Option.bind (zbv x0_s.Old.a2 x0_s.Years.Low x0_s.Fade.a2.Low) (fun r6 => some (GA3GSpan.mk (GSpan.mk r1 r2) (GSpan.mk r3 r4) (GSpan.mk r5 r6))))))))
theorem zgq (x0_s : GTintSheet) (R : GA3GSpan) (h : zdt x0_s = some R) : VPure Tryz.prog G0 61 [.agg (cGTintSheet x0_s)] (.tree (.agg (cGA3GSpan R))) := by
 refine VPure.runR mixed Tryz.call61 Tryz.func61 rfl (by simp [Tryz.ntmps61]; kernel_rfl) ?_
 obtain ⟨KF, h, kF, kN⟩ := zak h
 simp only [zdt] at h
 simp only [vz, tyf, nm, seval]
 refine zgo mixed (by kernel_rfl) 4 ?_
 simp only [vz, tyf, nm, seval]
 refine zdc (fun tm => tm 1 = .ptr 0 0 ∧ tm 2 = .ptr 1 0 ∧ tm 3 = .ptr 2 0 ∧ tm 4 = .lit (.int .i64 0) ∧ tm 5 = .lit (.int .i64 x0_s.Old.a0) ∧ tm 6 = .ptr 15 0 ∧ tm 8 = .agg (cGA3Int x0_s.Old) ∧ tm 9 = .lit (.int .i64 0) ∧ True) (by refine ⟨?_, ?_, ?_, ?_, ?_, ?_, ?_, ?_, trivial⟩ <;> first | (simp only [ua, nm, seval] <;> rfl) | rfl) ?_
 rintro tm ⟨e7, e8, e9, e10, e11, e12, e13, e14, _⟩
 rcases o16 : (zbv x0_s.Old.a0 x0_s.Years.High x0_s.Fade.a0.High) with _ | r15
 ·simp only [o16, hs] at h
  exact absurd h kN
 simp only [o16, hs] at h
 simp only [vz, tyf, e7, e8, e9, e10, e11, e12, e13, e14, nm, seval]
 refine dktree (args0 := [.lit (.int .i64 x0_s.Old.a0), .lit (.int .i64 x0_s.Years.High), .lit (.int .i64 x0_s.Fade.a0.High)]) (by first | (simp only [nrm, tynrm] <;> rfl) | rfl) (by simp only [tre, tytre, Bool.and_self]) (zez _ _ _ _ o16) ?_
 refine zac (fun tm => tm 1 = .ptr 0 0 ∧ tm 2 = .ptr 1 0 ∧ tm 3 = .ptr 2 0 ∧ tm 5 = .lit (.int .i64 x0_s.Old.a0) ∧ tm 6 = .ptr 15 0 ∧ tm 8 = .agg (cGA3Int x0_s.Old) ∧ tm 9 = .lit (.int .i64 0) ∧ tm 17 = .lit (.int .i64 0) ∧ tm 24 = .lit (.int .i64 r15) ∧ True) (by refine ⟨e7, e8, e9, e11, e12, e13, e14, ?_, ?_, trivial⟩ <;> first | (simp only [ua, e7, e8, e9, e10, e11, e12, e13, e14, nm, seval] <;> rfl) | rfl) ?_
 rintro tm ⟨e17, e18, e19, e20, e21, e22, e23, e24, e25, _⟩
 rcases o27 : (zbv x0_s.Old.a0 x0_s.Years.Low x0_s.Fade.a0.Low) with _ | r26
 ·simp only [o27, hs] at h
  exact absurd h kN
 simp only [o27, hs] at h
 simp only [vz, tyf, e17, e18, e19, e20, e21, e22, e23, e24, e25, nm, seval]
 refine dktree (args0 := [.lit (.int .i64 x0_s.Old.a0), .lit (.int .i64 x0_s.Years.Low), .lit (.int .i64 x0_s.Fade.a0.Low)]) (by first | (simp only [nrm, tynrm] <;> rfl) | rfl) (by simp only [tre, tytre, Bool.and_self]) (zez _ _ _ _ o27) ?_
 refine zac (fun tm => tm 1 = .ptr 0 0 ∧ tm 2 = .ptr 1 0 ∧ tm 3 = .ptr 2 0 ∧ tm 8 = .agg (cGA3Int x0_s.Old) ∧ tm 9 = .lit (.int .i64 0) ∧ tm 17 = .lit (.int .i64 0) ∧ tm 24 = .lit (.int .i64 r15) ∧ tm 31 = .lit (.int .i64 r26) ∧ True) (by refine ⟨e17, e18, e19, e22, e23, e24, e25, ?_, trivial⟩ <;> first | (simp only [ua, e17, e18, e19, e20, e21, e22, e23, e24, e25, nm, seval] <;> rfl) | rfl) ?_
 rintro tm ⟨e28, e29, e30, e31, e32, e33, e34, e35, _⟩
 simp only [vz, tyf, e28, e29, e30, e31, e32, e33, e34, e35, nm, seval]
 refine zcr ⟨?_, ?_⟩
 ·simp only [zbj, zbu, zai, zdl, and_true, true_and]
  repeat' (first | exact trivial | refine And.intro ?_ ?_ | rw [zai] | rw [zcp] | exact Or.inl (by decide +kernel) | exact Or.inl (by dsimp only; decide +kernel) | (refine Or.inr ⟨?_, ?_⟩ <;> simp; done) | (refine Or.inr ⟨?_, ?_⟩ <;> simp <;> omega) | (refine Or.inr ⟨?_, ?_⟩ <;> simp [VEff.wr] <;> omega))
 simp only [vz, tyf, e28, e29, e30, e31, e32, e33, e34, e35, nm, seval]
 refine zdc (fun tm => tm 1 = .ptr 0 0 ∧ tm 2 = .ptr 1 0 ∧ tm 3 = .ptr 2 0 ∧ tm 4 = .lit (.int .i64 1) ∧ tm 5 = .lit (.int .i64 x0_s.Old.a1) ∧ tm 6 = .ptr 46 0 ∧ tm 8 = .agg (cGA3Int x0_s.Old) ∧ tm 9 = .lit (.int .i64 1) ∧ True) (by refine ⟨e28, e29, e30, ?_, ?_, ?_, e31, ?_, trivial⟩ <;> first | (simp only [ua, e28, e29, e30, e31, e32, e33, e34, e35, nm, seval] <;> rfl) | rfl) ?_
 rintro tm ⟨e36, e37, e38, e39, e40, e41, e42, e43, _⟩
 rcases o45 : (zbv x0_s.Old.a1 x0_s.Years.High x0_s.Fade.a1.High) with _ | r44
 ·simp only [o45, hs] at h
  exact absurd h kN
 simp only [o45, hs] at h
 simp only [vz, tyf, e36, e37, e38, e39, e40, e41, e42, e43, nm, seval]
 refine dktree (args0 := [.lit (.int .i64 x0_s.Old.a1), .lit (.int .i64 x0_s.Years.High), .lit (.int .i64 x0_s.Fade.a1.High)]) (by first | (simp only [nrm, tynrm] <;> rfl) | rfl) (by simp only [tre, tytre, Bool.and_self]) (zez _ _ _ _ o45) ?_
 refine zac (fun tm => tm 1 = .ptr 0 0 ∧ tm 2 = .ptr 1 0 ∧ tm 3 = .ptr 2 0 ∧ tm 5 = .lit (.int .i64 x0_s.Old.a1) ∧ tm 6 = .ptr 46 0 ∧ tm 8 = .agg (cGA3Int x0_s.Old) ∧ tm 9 = .lit (.int .i64 1) ∧ tm 17 = .lit (.int .i64 1) ∧ tm 24 = .lit (.int .i64 r44) ∧ True) (by refine ⟨e36, e37, e38, e40, e41, e42, e43, ?_, ?_, trivial⟩ <;> first | (simp only [ua, e36, e37, e38, e39, e40, e41, e42, e43, nm, seval] <;> rfl) | rfl) ?_
 rintro tm ⟨e46, e47, e48, e49, e50, e51, e52, e53, e54, _⟩
 rcases o56 : (zbv x0_s.Old.a1 x0_s.Years.Low x0_s.Fade.a1.Low) with _ | r55
 ·simp only [o56, hs] at h
  exact absurd h kN
 simp only [o56, hs] at h
 simp only [vz, tyf, e46, e47, e48, e49, e50, e51, e52, e53, e54, nm, seval]
 refine dktree (args0 := [.lit (.int .i64 x0_s.Old.a1), .lit (.int .i64 x0_s.Years.Low), .lit (.int .i64 x0_s.Fade.a1.Low)]) (by first | (simp only [nrm, tynrm] <;> rfl) | rfl) (by simp only [tre, tytre, Bool.and_self]) (zez _ _ _ _ o56) ?_
 refine zac (fun tm => tm 1 = .ptr 0 0 ∧ tm 2 = .ptr 1 0 ∧ tm 3 = .ptr 2 0 ∧ tm 8 = .agg (cGA3Int x0_s.Old) ∧ tm 9 = .lit (.int .i64 1) ∧ tm 17 = .lit (.int .i64 1) ∧ tm 24 = .lit (.int .i64 r44) ∧ tm 31 = .lit (.int .i64 r55) ∧ True) (by refine ⟨e46, e47, e48, e51, e52, e53, e54, ?_, trivial⟩ <;> first | (simp only [ua, e46, e47, e48, e49, e50, e51, e52, e53, e54, nm, seval] <;> rfl) | rfl) ?_
 rintro tm ⟨e57, e58, e59, e60, e61, e62, e63, e64, _⟩
 simp only [vz, tyf, e57, e58, e59, e60, e61, e62, e63, e64, nm, seval]
 refine zcr ⟨?_, ?_⟩
 ·simp only [zbj, zbu, zai, zdl, and_true, true_and]
  repeat' (first | exact trivial | refine And.intro ?_ ?_ | rw [zai] | rw [zcp] | exact Or.inl (by decide +kernel) | exact Or.inl (by dsimp only; decide +kernel) | (refine Or.inr ⟨?_, ?_⟩ <;> simp; done) | (refine Or.inr ⟨?_, ?_⟩ <;> simp <;> omega) | (refine Or.inr ⟨?_, ?_⟩ <;> simp [VEff.wr] <;> omega))
 simp only [vz, tyf, e57, e58, e59, e60, e61, e62, e63, e64, nm, seval]
 refine zdc (fun tm => tm 1 = .ptr 0 0 ∧ tm 2 = .ptr 1 0 ∧ tm 3 = .ptr 2 0 ∧ tm 4 = .lit (.int .i64 2) ∧ tm 5 = .lit (.int .i64 x0_s.Old.a2) ∧ tm 6 = .ptr 77 0 ∧ tm 8 = .agg (cGA3Int x0_s.Old) ∧ tm 9 = .lit (.int .i64 2) ∧ True) (by refine ⟨e57, e58, e59, ?_, ?_, ?_, e60, ?_, trivial⟩ <;> first | (simp only [ua, e57, e58, e59, e60, e61, e62, e63, e64, nm, seval] <;> rfl) | rfl) ?_
 rintro tm ⟨e65, e66, e67, e68, e69, e70, e71, e72, _⟩
 rcases o74 : (zbv x0_s.Old.a2 x0_s.Years.High x0_s.Fade.a2.High) with _ | r73
 ·simp only [o74, hs] at h
  exact absurd h kN
 simp only [o74, hs] at h
 simp only [vz, tyf, e65, e66, e67, e68, e69, e70, e71, e72, nm, seval]
 refine dktree (args0 := [.lit (.int .i64 x0_s.Old.a2), .lit (.int .i64 x0_s.Years.High), .lit (.int .i64 x0_s.Fade.a2.High)]) (by first | (simp only [nrm, tynrm] <;> rfl) | rfl) (by simp only [tre, tytre, Bool.and_self]) (zez _ _ _ _ o74) ?_
 refine zac (fun tm => tm 1 = .ptr 0 0 ∧ tm 2 = .ptr 1 0 ∧ tm 3 = .ptr 2 0 ∧ tm 5 = .lit (.int .i64 x0_s.Old.a2) ∧ tm 6 = .ptr 77 0 ∧ tm 8 = .agg (cGA3Int x0_s.Old) ∧ tm 9 = .lit (.int .i64 2) ∧ tm 17 = .lit (.int .i64 2) ∧ tm 24 = .lit (.int .i64 r73) ∧ True) (by refine ⟨e65, e66, e67, e69, e70, e71, e72, ?_, ?_, trivial⟩ <;> first | (simp only [ua, e65, e66, e67, e68, e69, e70, e71, e72, nm, seval] <;> rfl) | rfl) ?_
 rintro tm ⟨e75, e76, e77, e78, e79, e80, e81, e82, e83, _⟩
 rcases o85 : (zbv x0_s.Old.a2 x0_s.Years.Low x0_s.Fade.a2.Low) with _ | r84
 ·simp only [o85, hs] at h
  exact absurd h kN
 simp only [o85, hs] at h
 simp only [vz, tyf, e75, e76, e77, e78, e79, e80, e81, e82, e83, nm, seval]
 refine dktree (args0 := [.lit (.int .i64 x0_s.Old.a2), .lit (.int .i64 x0_s.Years.Low), .lit (.int .i64 x0_s.Fade.a2.Low)]) (by first | (simp only [nrm, tynrm] <;> rfl) | rfl) (by simp only [tre, tytre, Bool.and_self]) (zez _ _ _ _ o85) ?_
 refine zac (fun tm => tm 1 = .ptr 0 0 ∧ tm 2 = .ptr 1 0 ∧ tm 3 = .ptr 2 0 ∧ tm 8 = .agg (cGA3Int x0_s.Old) ∧ tm 9 = .lit (.int .i64 2) ∧ tm 17 = .lit (.int .i64 2) ∧ tm 24 = .lit (.int .i64 r73) ∧ tm 31 = .lit (.int .i64 r84) ∧ True) (by refine ⟨e75, e76, e77, e80, e81, e82, e83, ?_, trivial⟩ <;> first | (simp only [ua, e75, e76, e77, e78, e79, e80, e81, e82, e83, nm, seval] <;> rfl) | rfl) ?_
 rintro tm ⟨e86, e87, e88, e89, e90, e91, e92, e93, _⟩
 simp only [vz, tyf, e86, e87, e88, e89, e90, e91, e92, e93, nm, seval]
 refine zcr ⟨?_, ?_⟩
 ·simp only [zbj, zbu, zai, zdl, and_true, true_and]
  repeat' (first | exact trivial | refine And.intro ?_ ?_ | rw [zai] | rw [zcp] | exact Or.inl (by decide +kernel) | exact Or.inl (by dsimp only; decide +kernel) | (refine Or.inr ⟨?_, ?_⟩ <;> simp; done) | (refine Or.inr ⟨?_, ?_⟩ <;> simp <;> omega) | (refine Or.inr ⟨?_, ?_⟩ <;> simp [VEff.wr] <;> omega))
 try simp only [vz, tyf, e86, e87, e88, e89, e90, e91, e92, e93, nm, seval]
 refine zaq (x := (.agg ([.lit (.int .i64 r15)] ++ [.lit (.int .i64 r26)] ++ [.lit (.int .i64 r44)] ++ [.lit (.int .i64 r55)] ++ [.lit (.int .i64 r73)] ++ [.lit (.int .i64 r84)]))) (by first | (simp only [Tryz.results61, resV, resL, resV1, zat, zbs, uw, cr, tyf, e86, e87, e88, e89, e90, e91, e92, e93, nm, seval] <;> rfl) | rfl) ?_
 obtain rfl := kF _ h
 refine zau ?_ ?_
 ·simp only [tre, tytre, Bool.and_self]
 ·first | (simp only [outV, uw, zae, cr, tyf, nrm, tynrm, e86, e87, e88, e89, e90, e91, e92, e93, nm, seval] <;> rfl) | rfl
end Go.V
end
section
namespace Go.V
open Go Go.Proofs
def zio (x0_s : GTintSheet) : Option (GA3GSpan × Int) := Option.bind (zap x0_s) (fun r1 => cond (r1) (Option.bind (zdt x0_s) (fun r2 => some (r2, 0))) (some ((GA3GSpan.mk (GSpan.mk 0 0) (GSpan.mk 0 0) (GSpan.mk 0 0)), 2)))
theorem ztt (x0_s : GTintSheet) (R : GA3GSpan × Int) (h : zio x0_s = some R) : VPure Tryz.prog G0 18 [.agg (cGTintSheet x0_s)] (.tree (.tup [.agg (cGA3GSpan R.1), .lit (.int .i64 R.2)])) := by
 refine VPure.runR mixed Tryz.call18 Tryz.func18 rfl (by simp [Tryz.ntmps18]; kernel_rfl) ?_
 obtain ⟨KF, h, kF, kN⟩ := zak h
 simp only [zio] at h
 rcases o4 : (zap x0_s) with _ | r3
 ·simp only [o4, hs] at h
  exact absurd h kN
 simp only [o4, hs] at h
 simp only [vz, tyf, nm, seval]
 refine ktree (args0 := [.agg (cGTintSheet x0_s)]) (by first | (simp only [nrm, tynrm] <;> rfl) | rfl) (by simp only [tre, tytre, Bool.and_self]) (zcg _ _ o4) ?_
 refine zac (fun tm => tm 1 = .ptr 0 0 ∧ tm 2 = .ptr 1 0 ∧ tm 5 = .lit (.bool r3) ∧ True) (by refine ⟨?_, ?_, ?_, trivial⟩ <;> first | (simp only [ua, nm, seval] <;> rfl) | rfl) ?_
 rintro tm ⟨e5, e6, e7, _⟩
 cases d8 : (r3)
 ·simp only [d8, hs] at h
  try simp only [vz, tyf, e5, e6, e7, d8, nm, seval]
  refine zaq (x := (.tup [.agg ([.lit (.int .i64 0)] ++ [.lit (.int .i64 0)] ++ [.lit (.int .i64 0)] ++ [.lit (.int .i64 0)] ++ [.lit (.int .i64 0)] ++ [.lit (.int .i64 0)]), .lit (.int .i64 2)])) (by first | (simp only [Tryz.results18, resV, resL, resV1, zat, zbs, uw, cr, tyf, e5, e6, e7, d8, nm, seval] <;> rfl) | rfl) ?_
  obtain rfl := kF _ h
  refine zau ?_ ?_
  ·simp only [tre, tytre, Bool.and_self]
  ·first | (simp only [outV, uw, zae, cr, tyf, nrm, tynrm, e5, e6, e7, d8, nm, seval] <;> rfl) | rfl
 simp only [d8, hs] at h
 rcases o10 : (zdt x0_s) with _ | r9
 ·simp only [o10, hs] at h
  exact absurd h kN
 simp only [o10, hs] at h
 simp only [vz, tyf, e5, e6, e7, d8, nm, seval]
 refine ktree (args0 := [.agg (cGTintSheet x0_s)]) (by first | (simp only [nrm, tynrm] <;> rfl) | rfl) (by simp only [tre, tytre, Bool.and_self]) (zgq _ _ o10) ?_
 refine zac (fun tm => tm 2 = .ptr 1 0 ∧ tm 9 = .agg (cGA3GSpan r9) ∧ True) (by refine ⟨e6, ?_, trivial⟩ <;> first | (simp only [ua, e5, e6, e7, d8, nm, seval] <;> rfl) | rfl) ?_
 rintro tm ⟨e11, e12, _⟩
 try simp only [vz, tyf, d8, e11, e12, nm, seval]
 refine zaq (x := (.tup [.agg (cGA3GSpan r9), .lit (.int .i64 0)])) (by first | (simp only [Tryz.results18, resV, resL, resV1, zat, zbs, uw, cr, tyf, d8, e11, e12, nm, seval] <;> rfl) | rfl) ?_
 obtain rfl := kF _ h
 refine zau ?_ ?_
 ·simp only [tre, tytre, Bool.and_self]
 ·first | (simp only [outV, uw, zae, cr, tyf, nrm, tynrm, d8, e11, e12, nm, seval] <;> rfl) | rfl
end Go.V
end
section
namespace Go.V
open Go Go.Proofs
def zbm (x0_x : Gtintmixed) : Option (Int) := Option.bind (zhy x0_x.mix) (fun r1 => some r1)
theorem zfe (x0_x : Gtintmixed) (R : Int) (h : zbm x0_x = some R) : VPure Tryz.prog G0 128 [.agg (cGtintmixed x0_x)] (.tree (.lit (.int .i64 R))) := by
 refine VPure.runR mixed Tryz.call128 Tryz.func128 rfl (by simp [Tryz.ntmps128]; kernel_rfl) ?_
 obtain ⟨KF, h, kF, kN⟩ := zak h
 simp only [zbm] at h
 rcases o3 : (zhy x0_x.mix) with _ | r2
 ·simp only [o3, hs] at h
  exact absurd h kN
 simp only [o3, hs] at h
 simp only [vz, tyf, nm, seval]
 refine ktree (args0 := [.sl (cellsL eI x0_x.mix) (List.length x0_x.mix) false]) (by first | (simp only [nrm, tynrm] <;> rfl) | rfl) (by simp only [tre, tytre, Bool.and_self]) (zmh _ _ o3) ?_
 refine zac (fun tm => tm 5 = .lit (.int .i64 r2) ∧ True) (by refine ⟨?_, trivial⟩ <;> first | (simp only [ua, nm, seval] <;> rfl) | rfl) ?_
 rintro tm ⟨e4, _⟩
 try simp only [vz, tyf, e4, nm, seval]
 refine zaq (x := (.lit (.int .i64 r2))) (by first | (simp only [Tryz.results128, resV, resL, resV1, zat, zbs, uw, cr, tyf, nm, seval] <;> rfl) | rfl) ?_
 obtain rfl := kF _ h
 refine zau ?_ ?_
 ·simp only [tre, tytre, Bool.and_self]
 ·first | (simp only [outV, uw, zae, cr, tyf, nrm, tynrm, e4, nm, seval] <;> rfl) | rfl
end Go.V
end
section
namespace Go.V
open Go Go.Proofs
def zav (x0_n : Int) (x1_low : Int) (x2_high : Int) : Option (Bool) := cond (decide (x0_n ≥ x1_low)) (some (decide (x0_n ≤ x2_high))) (some false)
theorem zbn (x0_n : Int) (x1_low : Int) (x2_high : Int) (R : Bool) (h : zav x0_n x1_low x2_high = some R) : VPure Tryz.prog G0 65 [.lit (.int .i64 x0_n), .lit (.int .i64 x1_low), .lit (.int .i64 x2_high)] (.tree (.lit (.bool R))) := by
 refine VPure.runR mixed Tryz.call65 Tryz.func65 rfl (by simp [Tryz.ntmps65]; kernel_rfl) ?_
 obtain ⟨KF, h, kF, kN⟩ := zak h
 simp only [zav] at h
 cases d1 : (decide (x0_n ≥ x1_low))
 ·simp only [d1, hs] at h
  try simp only [vz, tyf, d1, nm, seval]
  obtain rfl := kF _ h
  exact zab Tryz.results65 rfl
 simp only [d1, hs] at h
 try simp only [vz, tyf, d1, nm, seval]
 obtain rfl := kF _ h
 exact zab Tryz.results65 rfl
end Go.V
end
section
namespace Go.V
open Go Go.Proofs
def zbo (x0_s : GSpan) (x1_most : Int) : Option (Bool) := Option.bind (zav x0_s.Low 0 x1_most) (fun r1 => cond (r1) (Option.bind (zav x0_s.High x0_s.Low x1_most) (fun r2 => some r2)) (some false))
theorem zdx (x0_s : GSpan) (x1_most : Int) (R : Bool) (h : zbo x0_s x1_most = some R) : VPure Tryz.prog G0 64 [.agg (cGSpan x0_s), .lit (.int .i64 x1_most)] (.tree (.lit (.bool R))) := by
 refine VPure.runR mixed Tryz.call64 Tryz.func64 rfl (by simp [Tryz.ntmps64]; kernel_rfl) ?_
 obtain ⟨KF, h, kF, kN⟩ := zak h
 simp only [zbo] at h
 rcases o4 : (zav x0_s.Low 0 x1_most) with _ | r3
 ·simp only [o4, hs] at h
  exact absurd h kN
 simp only [o4, hs] at h
 simp only [vz, tyf, nm, seval]
 refine ktree (args0 := [.lit (.int .i64 x0_s.Low), .lit (.int .i64 0), .lit (.int .i64 x1_most)]) (by first | (simp only [nrm, tynrm] <;> rfl) | rfl) (by simp only [tre, tytre, Bool.and_self]) (zbn _ _ _ _ o4) ?_
 refine zac (fun tm => tm 1 = .lit (.int .i64 x1_most) ∧ tm 2 = .ptr 0 0 ∧ tm 8 = .lit (.bool r3) ∧ True) (by refine ⟨?_, ?_, ?_, trivial⟩ <;> first | (simp only [ua, nm, seval] <;> rfl) | rfl) ?_
 rintro tm ⟨e5, e6, e7, _⟩
 cases d8 : (r3)
 ·simp only [d8, hs] at h
  try simp only [vz, tyf, e5, e6, e7, d8, nm, seval]
  obtain rfl := kF _ h
  exact zab Tryz.results64 rfl
 simp only [d8, hs] at h
 rcases o10 : (zav x0_s.High x0_s.Low x1_most) with _ | r9
 ·simp only [o10, hs] at h
  exact absurd h kN
 simp only [o10, hs] at h
 simp only [vz, tyf, e5, e6, e7, d8, nm, seval]
 refine ktree (args0 := [.lit (.int .i64 x0_s.High), .lit (.int .i64 x0_s.Low), .lit (.int .i64 x1_most)]) (by first | (simp only [nrm, tynrm] <;> rfl) | rfl) (by simp only [tre, tytre, Bool.and_self]) (zbn _ _ _ _ o10) ?_
 refine zac (fun tm => tm 9 = .lit (.bool true) ∧ tm 15 = .lit (.bool r9) ∧ True) (by refine ⟨?_, ?_, trivial⟩ <;> first | (simp only [ua, e5, e6, e7, d8, nm, seval] <;> rfl) | rfl) ?_
 rintro tm ⟨e11, e12, _⟩
 try simp only [vz, tyf, d8, e11, e12, nm, seval]
 obtain rfl := kF _ h
 exact zab Tryz.results64 rfl
end Go.V
end
section
namespace Go.V
open Go Go.Proofs
def zij (x0_n : Int) : Option (Bool) := Option.bind (zav x0_n 1 20) (fun r1 => some r1)
theorem zsg (x0_n : Int) (R : Bool) (h : zij x0_n = some R) : VPure Tryz.prog G0 52 [.lit (.int .i64 x0_n)] (.tree (.lit (.bool R))) := by
 refine VPure.runR mixed Tryz.call52 Tryz.func52 rfl (by simp [Tryz.ntmps52]; kernel_rfl) ?_
 obtain ⟨KF, h, kF, kN⟩ := zak h
 simp only [zij] at h
 rcases o3 : (zav x0_n 1 20) with _ | r2
 ·simp only [o3, hs] at h
  exact absurd h kN
 simp only [o3, hs] at h
 simp only [vz, tyf, nm, seval]
 refine ktree (args0 := [.lit (.int .i64 x0_n), .lit (.int .i64 1), .lit (.int .i64 20)]) (by first | (simp only [nrm, tynrm] <;> rfl) | rfl) (by simp only [tre, tytre, Bool.and_self]) (zbn _ _ _ _ o3) ?_
 refine zac (fun tm => tm 4 = .lit (.bool r2) ∧ True) (by refine ⟨?_, trivial⟩ <;> first | (simp only [ua, nm, seval] <;> rfl) | rfl) ?_
 rintro tm ⟨e4, _⟩
 try simp only [vz, tyf, e4, nm, seval]
 obtain rfl := kF _ h
 exact zab Tryz.results52 rfl
end Go.V
end
