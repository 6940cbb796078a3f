/- Part of a proof: a logic of values by content, lifted functions, what follows. -/
import Derived.Test.YtekhjalgmlflpaaGreatDoorQbf
import Derived.Test.YtekhjalgmlflpaaGreatDoorQbl
import Derived.Test.YtekhjalgmlflpaaGreatDoorQbj
import Derived.Test.YtekhjalgmlflpaaGreatDoorQbi
import Derived.Test.YtekhjalgmlflpaaGreatDoorQbk
import Derived.Test.YtekhjalgmlflpaaGreatDoorQbe
import Derived.Test.YtekhjalgmlflpaaGreatDoorQbg
import Derived.Test.YtekhjalgmlflpaaGreatDoorQay
import Derived.Test.YtekhjalgmlflpaaGreatDoorProg
set_option linter.all false
set_option maxRecDepth 4000
set_option maxHeartbeats 40000000
section
namespace Go.V
open Go Go.Proofs
def zdy (x0_s : GTintSheet) (x1_mix : List Int) (x2_t : GTintTruth) : Nat → Int → Option (LOut (Bool) (Unit))
 | 0, c0_7 => some (.go ())
 | k0 + 1, c0_7 => Option.bind (zhc x1_mix x2_t c0_7) (fun r1 => Option.bind (zef x1_mix) (fun r2 => cond (c0_7 == 0) (Option.bind (zaw x0_s c0_7 x2_t.Years x2_t.Fade.a0) (fun r3 => cond (decide ((if (IntKind.i64.wrap (r1 - (IntKind.i64.wrap (r2 * r3)))) < (IntKind.i64.wrap (-(IntKind.i64.wrap (r1 - (IntKind.i64.wrap (r2 * r3)))))) then (IntKind.i64.wrap (-(IntKind.i64.wrap (r1 - (IntKind.i64.wrap (r2 * r3)))))) else (IntKind.i64.wrap (r1 - (IntKind.i64.wrap (r2 * r3))))) > (IntKind.i64.wrap (r2 * x0_s.Off)))) (some (.ret false)) (zdy x0_s x1_mix x2_t k0 (c0_7 + 1)))) (cond (c0_7 == 1) (Option.bind (zaw x0_s c0_7 x2_t.Years x2_t.Fade.a1) (fun r4 => cond (decide ((if (IntKind.i64.wrap (r1 - (IntKind.i64.wrap (r2 * r4)))) < (IntKind.i64.wrap (-(IntKind.i64.wrap (r1 - (IntKind.i64.wrap (r2 * r4)))))) then (IntKind.i64.wrap (-(IntKind.i64.wrap (r1 - (IntKind.i64.wrap (r2 * r4)))))) else (IntKind.i64.wrap (r1 - (IntKind.i64.wrap (r2 * r4))))) > (IntKind.i64.wrap (r2 * x0_s.Off)))) (some (.ret false)) (zdy x0_s x1_mix x2_t k0 (c0_7 + 1)))) (cond (c0_7 == 2) (Option.bind (zaw x0_s c0_7 x2_t.Years x2_t.Fade.a2) (fun r5 => cond (decide ((if (IntKind.i64.wrap (r1 - (IntKind.i64.wrap (r2 * r5)))) < (IntKind.i64.wrap (-(IntKind.i64.wrap (r1 - (IntKind.i64.wrap (r2 * r5)))))) then (IntKind.i64.wrap (-(IntKind.i64.wrap (r1 - (IntKind.i64.wrap (r2 * r5)))))) else (IntKind.i64.wrap (r1 - (IntKind.i64.wrap (r2 * r5))))) > (IntKind.i64.wrap (r2 * x0_s.Off)))) (some (.ret false)) (zdy x0_s x1_mix x2_t k0 (c0_7 + 1)))) (none)))))
def zgd (x0_s : GTintSheet) (x1_mix : List Int) (x2_t : GTintTruth) : Option (Bool) := cond (boundOk 3) (lbind (zdy x0_s x1_mix x2_t (Int.toNat (3 - 0)) 0) (fun r7 => some r7) (fun c6 => some true) (fun _ _ => none)) none
theorem zpm (x0_s : GTintSheet) (x1_mix : List Int) (x2_t : GTintTruth) (R : Bool) (h : zgd x0_s x1_mix x2_t = some R) : VPure Tryz.prog G0 26 [.agg (cGTintSheet x0_s), .sl (cellsL eI x1_mix) (List.length x1_mix) false, .agg (cGTintTruth x2_t)] (.tree (.lit (.bool R))) := by
 refine VPure.runR mixed Tryz.call26 Tryz.func26 rfl (by simp [Tryz.ntmps26]; kernel_rfl) ?_
 obtain ⟨KF, h, kF, kN⟩ := zak h
 simp only [zgd] at h
 cases g9 : (boundOk 3)
 ·simp only [g9, hs] at h
  exact absurd h kN
 simp only [g9, hs] at h
 simp only [vz, qr, tyf, g9, nm, seval]
 obtain ⟨K8, h, kR8, kG8, kB8, kN8⟩ := zbc h kN
 obtain ⟨f8, hf8, h⟩ := call2 h
 obtain ⟨I8, hI8⟩ : ∃ I : Nat → St → Prop, I = (fun m st => ∃ (p8 : Nat) (c8_7 : Int), p8 = m ∧ loOk c8_7 = true ∧ Int.toNat (3 - c8_7) = p8 ∧ st.df = [] ∧ 4 ≤ st.nx ∧ st.H 0 = some (.cells (some 28) (cGTintSheet x0_s)) ∧ st.H 1 = some (.cells (some 42) (cGTintTruth x2_t)) ∧ st.tm 1 = .sl (cellsL eI x1_mix) (List.length x1_mix) false ∧ st.tm 3 = .ptr 0 0 ∧ st.tm 5 = .ptr 1 0 ∧ st.tm 7 = .lit (.int .i64 c8_7) ∧ K8 (f8 p8 c8_7)) := ⟨_, rfl⟩
 refine loopK mixed (by kernel_rfl) I8 (Int.toNat (3 - 0)) (by rw [hI8]; refine ⟨Int.toNat (3 - 0), 0, rfl, (by rfl), rfl, rfl, (show 4 ≤ 4 by omega), ?_, ?_, ?_, ?_, ?_, ?_, h⟩ <;> first | (simp only [ua, nm, seval] <;> rfl) | rfl) ?_
 rintro m ⟨tm, H, nx8, df⟩ hinv
 rw [hI8] at hinv
 obtain ⟨p8, c8_7, rfl, hi8, hp8, hdf, hn8, H10, H11, e12, e13, e14, e15, h⟩ := hinv
 simp only at hdf hn8 H10 H11 e12 e13 e14 e15
 have n16 := zda (m := 4) (b := nx8) (by omega)
 subst hdf hf8
 cases p8 with
 | zero =>
  have d17 : (decide (c8_7 < 3)) = false := zkd hp8
  simp only [zdy, hs, reduceCtorEq] at h
  replace h := kG8 _ h
  try dsimp only at h
  try simp only [hs] at h
  try simp only [vz, qr, tyf, g9, n16, e12, e13, e14, e15, H10, H11, d17, nm, seval]
  obtain rfl := kF _ h
  exact zab Tryz.results26 rfl
 | succ p8 =>
  have d18 : (decide (c8_7 < 3)) = true := zaeg hp8
  have w19 := zns hi8 hp8 g9
  simp only [zdy, hs, reduceCtorEq] at h
  simp only [vz, qr, tyf, g9, n16, e12, e13, e14, e15, H10, H11, d18, w19, nm, seval]
  refine zcq (fun tm => tm 1 = .sl (cellsL eI x1_mix) (List.length x1_mix) false ∧ tm 3 = .ptr 0 0 ∧ tm 5 = .ptr 1 0 ∧ tm 7 = .lit (.int .i64 c8_7) ∧ True) (by refine ⟨e12, e13, e14, e15, trivial⟩ <;> first | (simp only [ua, n16, e12, e13, e14, e15, H10, H11, d18, w19, nm, seval] <;> rfl) | rfl) ?_
  rintro tm ⟨e20, e21, e22, e23, _⟩
  rcases o25 : (zhc x1_mix x2_t c8_7) with _ | r24
  ·simp only [o25, hs] at h
   exact absurd h kN8
  simp only [o25, hs] at h
  simp only [vz, qr, tyf, g9, n16, H10, H11, d18, w19, e20, e21, e22, e23, nm, seval]
  refine dktree (args0 := [.sl (cellsL eI x1_mix) (List.length x1_mix) false, .agg (cGTintTruth x2_t), .lit (.int .i64 c8_7)]) (by first | (simp only [nrm, tynrm] <;> rfl) | rfl) (by simp only [tre, tytre, Bool.and_self]) (zsk _ _ _ _ o25) ?_
  refine zac (fun tm => tm 1 = .sl (cellsL eI x1_mix) (List.length x1_mix) false ∧ tm 3 = .ptr 0 0 ∧ tm 5 = .ptr 1 0 ∧ tm 7 = .lit (.int .i64 c8_7) ∧ tm 16 = .lit (.int .i64 r24) ∧ True) (by refine ⟨e20, e21, e22, e23, ?_, trivial⟩ <;> first | (simp only [ua, n16, H10, H11, d18, w19, e20, e21, e22, e23, nm, seval] <;> rfl) | rfl) ?_
  rintro tm ⟨e26, e27, e28, e29, e30, _⟩
  rcases o32 : (zef x1_mix) with _ | r31
  ·simp only [o32, hs] at h
   exact absurd h kN8
  simp only [o32, hs] at h
  simp only [vz, qr, tyf, g9, n16, H10, H11, d18, w19, e26, e27, e28, e29, e30, nm, seval]
  refine dktree (args0 := [.sl (cellsL eI x1_mix) (List.length x1_mix) false]) (by first | (simp only [nrm, tynrm] <;> rfl) | rfl) (by simp only [tre, tytre, Bool.and_self]) (zev _ _ o32) ?_
  refine zac (fun tm => tm 1 = .sl (cellsL eI x1_mix) (List.length x1_mix) false ∧ tm 3 = .ptr 0 0 ∧ tm 5 = .ptr 1 0 ∧ tm 7 = .lit (.int .i64 c8_7) ∧ tm 16 = .lit (.int .i64 r24) ∧ tm 18 = .lit (.int .i64 r31) ∧ True) (by refine ⟨e26, e27, e28, e29, e30, ?_, trivial⟩ <;> first | (simp only [ua, n16, H10, H11, d18, w19, e26, e27, e28, e29, e30, nm, seval] <;> rfl) | rfl) ?_
  rintro tm ⟨e33, e34, e35, e36, e37, e38, _⟩
  cases d39 : (c8_7 == 0)
  ·simp only [d39, hs] at h
   have b40 := And.intro g9 (And.intro n16 (And.intro H10 (And.intro H11 (And.intro d18 (And.intro w19 d39)))))
   cases d41 : (c8_7 == 1)
   ·simp only [d41, hs] at h
    cases d42 : (c8_7 == 2)
    ·simp only [d42, hs] at h
     exact absurd h kN8
    simp only [d42, hs] at h
    rcases o44 : (zaw x0_s c8_7 x2_t.Years x2_t.Fade.a2) with _ | r43
    ·simp only [o44, hs] at h
     exact absurd h kN8
    simp only [o44, hs] at h
    simp only [vz, qr, tyf, b40, e33, e34, e35, e36, e37, e38, d41, d42, (zgt d42), nm, seval]
    refine dktree (args0 := [.agg (cGTintSheet x0_s), .lit (.int .i64 c8_7), .lit (.int .i64 x2_t.Years), .lit (.int .i64 x2_t.Fade.a2)]) (by first | (simp only [nrm, tynrm] <;> rfl) | rfl) (by simp only [tre, tytre, Bool.and_self]) (zco _ _ _ _ _ o44) ?_
    refine zac (fun tm => tm 1 = .sl (cellsL eI x1_mix) (List.length x1_mix) false ∧ tm 3 = .ptr 0 0 ∧ tm 5 = .ptr 1 0 ∧ tm 7 = .lit (.int .i64 c8_7) ∧ tm 16 = .lit (.int .i64 r24) ∧ tm 18 = .lit (.int .i64 r31) ∧ tm 27 = .lit (.int .i64 r43) ∧ True) (by refine ⟨e33, e34, e35, e36, e37, e38, ?_, trivial⟩ <;> first | (simp only [ua, b40, e33, e34, e35, e36, e37, e38, d41, d42, nm, seval] <;> rfl) | rfl) ?_
    rintro tm ⟨e45, e46, e47, e48, e49, e50, e51, _⟩
    simp only [vz, qr, tyf, b40, d41, d42, (zgt d42), e45, e46, e47, e48, e49, e50, e51, nm, seval]
    refine zcq (fun tm => tm 1 = .sl (cellsL eI x1_mix) (List.length x1_mix) false ∧ tm 3 = .ptr 0 0 ∧ tm 5 = .ptr 1 0 ∧ tm 7 = .lit (.int .i64 c8_7) ∧ tm 8 = .lit (.int .i64 (IntKind.i64.wrap (r24 - (IntKind.i64.wrap (r31 * r43))))) ∧ True) (by refine ⟨e45, e46, e47, e48, ?_, trivial⟩ <;> first | (simp only [ua, b40, d41, d42, e45, e46, e47, e48, e49, e50, e51, nm, seval] <;> rfl) | rfl) ?_
    rintro tm ⟨e52, e53, e54, e55, e56, _⟩
    simp only [vz, qr, tyf, b40, d41, d42, (zgt d42), e52, e53, e54, e55, e56, nm, seval]
    refine dktree (args0 := [.sl (cellsL eI x1_mix) (List.length x1_mix) false]) (by first | (simp only [nrm, tynrm] <;> rfl) | rfl) (by simp only [tre, tytre, Bool.and_self]) (zev _ _ o32) ?_
    refine zac (fun tm => tm 1 = .sl (cellsL eI x1_mix) (List.length x1_mix) false ∧ tm 3 = .ptr 0 0 ∧ tm 5 = .ptr 1 0 ∧ tm 7 = .lit (.int .i64 c8_7) ∧ tm 33 = .lit (.int .i64 (if (IntKind.i64.wrap (r24 - (IntKind.i64.wrap (r31 * r43)))) < (IntKind.i64.wrap (-(IntKind.i64.wrap (r24 - (IntKind.i64.wrap (r31 * r43)))))) then (IntKind.i64.wrap (-(IntKind.i64.wrap (r24 - (IntKind.i64.wrap (r31 * r43)))))) else (IntKind.i64.wrap (r24 - (IntKind.i64.wrap (r31 * r43)))))) ∧ tm 35 = .lit (.int .i64 r31) ∧ True) (by refine ⟨e52, e53, e54, e55, ?_, ?_, trivial⟩ <;> first | (simp only [ua, b40, d41, d42, e52, e53, e54, e55, e56, nm, seval] <;> rfl) | rfl) ?_
    rintro tm ⟨e57, e58, e59, e60, e61, e62, _⟩
    cases d63 : (decide ((if (IntKind.i64.wrap (r24 - (IntKind.i64.wrap (r31 * r43)))) < (IntKind.i64.wrap (-(IntKind.i64.wrap (r24 - (IntKind.i64.wrap (r31 * r43)))))) then (IntKind.i64.wrap (-(IntKind.i64.wrap (r24 - (IntKind.i64.wrap (r31 * r43)))))) else (IntKind.i64.wrap (r24 - (IntKind.i64.wrap (r31 * r43))))) > (IntKind.i64.wrap (r31 * x0_s.Off))))
    ·simp only [d63, hs] at h
     simp only [vz, qr, tyf, b40, d41, d42, (zgt d42), e57, e58, e59, e60, e61, e62, d63, nm, seval]
     exact ⟨p8, Nat.lt_succ_self _, by rw [hI8]; refine ⟨p8, c8_7 + 1, rfl, zmj hi8, zgg hp8, rfl, (show 4 ≤ nx8 + 33 by omega), ?_, ?_, e57, e58, e59, ?_, h⟩ <;> first | (simp only [ua, b40, d41, d42, e57, e58, e59, e60, e61, e62, d63, nm, seval] <;> rfl) | rfl⟩
    simp only [d63, hs] at h
    try simp only [vz, qr, tyf, b40, d41, d42, (zgt d42), e57, e58, e59, e60, e61, e62, d63, nm, seval]
    replace h := kR8 _ h
    try dsimp only at h
    obtain rfl := kF _ h
    exact zab Tryz.results26 rfl
   simp only [d41, hs] at h
   rcases o65 : (zaw x0_s c8_7 x2_t.Years x2_t.Fade.a1) with _ | r64
   ·simp only [o65, hs] at h
    exact absurd h kN8
   simp only [o65, hs] at h
   simp only [vz, qr, tyf, b40, e33, e34, e35, e36, e37, e38, d41, (zgs d41), nm, seval]
   refine dktree (args0 := [.agg (cGTintSheet x0_s), .lit (.int .i64 c8_7), .lit (.int .i64 x2_t.Years), .lit (.int .i64 x2_t.Fade.a1)]) (by first | (simp only [nrm, tynrm] <;> rfl) | rfl) (by simp only [tre, tytre, Bool.and_self]) (zco _ _ _ _ _ o65) ?_
   refine zac (fun tm => tm 1 = .sl (cellsL eI x1_mix) (List.length x1_mix) false ∧ tm 3 = .ptr 0 0 ∧ tm 5 = .ptr 1 0 ∧ tm 7 = .lit (.int .i64 c8_7) ∧ tm 16 = .lit (.int .i64 r24) ∧ tm 18 = .lit (.int .i64 r31) ∧ tm 27 = .lit (.int .i64 r64) ∧ True) (by refine ⟨e33, e34, e35, e36, e37, e38, ?_, trivial⟩ <;> first | (simp only [ua, b40, e33, e34, e35, e36, e37, e38, d41, nm, seval] <;> rfl) | rfl) ?_
   rintro tm ⟨e66, e67, e68, e69, e70, e71, e72, _⟩
   simp only [vz, qr, tyf, b40, d41, (zgs d41), e66, e67, e68, e69, e70, e71, e72, nm, seval]
   refine zcq (fun tm => tm 1 = .sl (cellsL eI x1_mix) (List.length x1_mix) false ∧ tm 3 = .ptr 0 0 ∧ tm 5 = .ptr 1 0 ∧ tm 7 = .lit (.int .i64 c8_7) ∧ tm 8 = .lit (.int .i64 (IntKind.i64.wrap (r24 - (IntKind.i64.wrap (r31 * r64))))) ∧ True) (by refine ⟨e66, e67, e68, e69, ?_, trivial⟩ <;> first | (simp only [ua, b40, d41, e66, e67, e68, e69, e70, e71, e72, nm, seval] <;> rfl) | rfl) ?_
   rintro tm ⟨e73, e74, e75, e76, e77, _⟩
   simp only [vz, qr, tyf, b40, d41, (zgs d41), e73, e74, e75, e76, e77, nm, seval]
   refine dktree (args0 := [.sl (cellsL eI x1_mix) (List.length x1_mix) false]) (by first | (simp only [nrm, tynrm] <;> rfl) | rfl) (by simp only [tre, tytre, Bool.and_self]) (zev _ _ o32) ?_
   refine zac (fun tm => tm 1 = .sl (cellsL eI x1_mix) (List.length x1_mix) false ∧ tm 3 = .ptr 0 0 ∧ tm 5 = .ptr 1 0 ∧ tm 7 = .lit (.int .i64 c8_7) ∧ tm 33 = .lit (.int .i64 (if (IntKind.i64.wrap (r24 - (IntKind.i64.wrap (r31 * r64)))) < (IntKind.i64.wrap (-(IntKind.i64.wrap (r24 - (IntKind.i64.wrap (r31 * r64)))))) then (IntKind.i64.wrap (-(IntKind.i64.wrap (r24 - (IntKind.i64.wrap (r31 * r64)))))) else (IntKind.i64.wrap (r24 - (IntKind.i64.wrap (r31 * r64)))))) ∧ tm 35 = .lit (.int .i64 r31) ∧ True) (by refine ⟨e73, e74, e75, e76, ?_, ?_, trivial⟩ <;> first | (simp only [ua, b40, d41, e73, e74, e75, e76, e77, nm, seval] <;> rfl) | rfl) ?_
   rintro tm ⟨e78, e79, e80, e81, e82, e83, _⟩
   cases d84 : (decide ((if (IntKind.i64.wrap (r24 - (IntKind.i64.wrap (r31 * r64)))) < (IntKind.i64.wrap (-(IntKind.i64.wrap (r24 - (IntKind.i64.wrap (r31 * r64)))))) then (IntKind.i64.wrap (-(IntKind.i64.wrap (r24 - (IntKind.i64.wrap (r31 * r64)))))) else (IntKind.i64.wrap (r24 - (IntKind.i64.wrap (r31 * r64))))) > (IntKind.i64.wrap (r31 * x0_s.Off))))
   ·simp only [d84, hs] at h
    simp only [vz, qr, tyf, b40, d41, (zgs d41), e78, e79, e80, e81, e82, e83, d84, nm, seval]
    exact ⟨p8, Nat.lt_succ_self _, by rw [hI8]; refine ⟨p8, c8_7 + 1, rfl, zmj hi8, zgg hp8, rfl, (show 4 ≤ nx8 + 33 by omega), ?_, ?_, e78, e79, e80, ?_, h⟩ <;> first | (simp only [ua, b40, d41, e78, e79, e80, e81, e82, e83, d84, nm, seval] <;> rfl) | rfl⟩
   simp only [d84, hs] at h
   try simp only [vz, qr, tyf, b40, d41, (zgs d41), e78, e79, e80, e81, e82, e83, d84, nm, seval]
   replace h := kR8 _ h
   try dsimp only at h
   obtain rfl := kF _ h
   exact zab Tryz.results26 rfl
  simp only [d39, hs] at h
  have b85 := And.intro g9 (And.intro n16 (And.intro H10 (And.intro H11 (And.intro d18 (And.intro w19 d39)))))
  rcases o87 : (zaw x0_s c8_7 x2_t.Years x2_t.Fade.a0) with _ | r86
  ·simp only [o87, hs] at h
   exact absurd h kN8
  simp only [o87, hs] at h
  simp only [vz, qr, tyf, b85, e33, e34, e35, e36, e37, e38, (zgr d39), nm, seval]
  refine dktree (args0 := [.agg (cGTintSheet x0_s), .lit (.int .i64 c8_7), .lit (.int .i64 x2_t.Years), .lit (.int .i64 x2_t.Fade.a0)]) (by first | (simp only [nrm, tynrm] <;> rfl) | rfl) (by simp only [tre, tytre, Bool.and_self]) (zco _ _ _ _ _ o87) ?_
  refine zac (fun tm => tm 1 = .sl (cellsL eI x1_mix) (List.length x1_mix) false ∧ tm 3 = .ptr 0 0 ∧ tm 5 = .ptr 1 0 ∧ tm 7 = .lit (.int .i64 c8_7) ∧ tm 16 = .lit (.int .i64 r24) ∧ tm 18 = .lit (.int .i64 r31) ∧ tm 27 = .lit (.int .i64 r86) ∧ True) (by refine ⟨e33, e34, e35, e36, e37, e38, ?_, trivial⟩ <;> first | (simp only [ua, b85, e33, e34, e35, e36, e37, e38, nm, seval] <;> rfl) | rfl) ?_
  rintro tm ⟨e88, e89, e90, e91, e92, e93, e94, _⟩
  simp only [vz, qr, tyf, b85, (zgr d39), e88, e89, e90, e91, e92, e93, e94, nm, seval]
  refine zcq (fun tm => tm 1 = .sl (cellsL eI x1_mix) (List.length x1_mix) false ∧ tm 3 = .ptr 0 0 ∧ tm 5 = .ptr 1 0 ∧ tm 7 = .lit (.int .i64 c8_7) ∧ tm 8 = .lit (.int .i64 (IntKind.i64.wrap (r24 - (IntKind.i64.wrap (r31 * r86))))) ∧ True) (by refine ⟨e88, e89, e90, e91, ?_, trivial⟩ <;> first | (simp only [ua, b85, e88, e89, e90, e91, e92, e93, e94, nm, seval] <;> rfl) | rfl) ?_
  rintro tm ⟨e95, e96, e97, e98, e99, _⟩
  simp only [vz, qr, tyf, b85, (zgr d39), e95, e96, e97, e98, e99, nm, seval]
  refine dktree (args0 := [.sl (cellsL eI x1_mix) (List.length x1_mix) false]) (by first | (simp only [nrm, tynrm] <;> rfl) | rfl) (by simp only [tre, tytre, Bool.and_self]) (zev _ _ o32) ?_
  refine zac (fun tm => tm 1 = .sl (cellsL eI x1_mix) (List.length x1_mix) false ∧ tm 3 = .ptr 0 0 ∧ tm 5 = .ptr 1 0 ∧ tm 7 = .lit (.int .i64 c8_7) ∧ tm 33 = .lit (.int .i64 (if (IntKind.i64.wrap (r24 - (IntKind.i64.wrap (r31 * r86)))) < (IntKind.i64.wrap (-(IntKind.i64.wrap (r24 - (IntKind.i64.wrap (r31 * r86)))))) then (IntKind.i64.wrap (-(IntKind.i64.wrap (r24 - (IntKind.i64.wrap (r31 * r86)))))) else (IntKind.i64.wrap (r24 - (IntKind.i64.wrap (r31 * r86)))))) ∧ tm 35 = .lit (.int .i64 r31) ∧ True) (by refine ⟨e95, e96, e97, e98, ?_, ?_, trivial⟩ <;> first | (simp only [ua, b85, e95, e96, e97, e98, e99, nm, seval] <;> rfl) | rfl) ?_
  rintro tm ⟨e100, e101, e102, e103, e104, e105, _⟩
  cases d106 : (decide ((if (IntKind.i64.wrap (r24 - (IntKind.i64.wrap (r31 * r86)))) < (IntKind.i64.wrap (-(IntKind.i64.wrap (r24 - (IntKind.i64.wrap (r31 * r86)))))) then (IntKind.i64.wrap (-(IntKind.i64.wrap (r24 - (IntKind.i64.wrap (r31 * r86)))))) else (IntKind.i64.wrap (r24 - (IntKind.i64.wrap (r31 * r86))))) > (IntKind.i64.wrap (r31 * x0_s.Off))))
  ·simp only [d106, hs] at h
   simp only [vz, qr, tyf, b85, (zgr d39), e100, e101, e102, e103, e104, e105, d106, nm, seval]
   exact ⟨p8, Nat.lt_succ_self _, by rw [hI8]; refine ⟨p8, c8_7 + 1, rfl, zmj hi8, zgg hp8, rfl, (show 4 ≤ nx8 + 33 by omega), ?_, ?_, e100, e101, e102, ?_, h⟩ <;> first | (simp only [ua, b85, e100, e101, e102, e103, e104, e105, d106, nm, seval] <;> rfl) | rfl⟩
  simp only [d106, hs] at h
  try simp only [vz, qr, tyf, b85, (zgr d39), e100, e101, e102, e103, e104, e105, d106, nm, seval]
  replace h := kR8 _ h
  try dsimp only at h
  obtain rfl := kF _ h
  exact zab Tryz.results26 rfl
end Go.V
end
section
namespace Go.V
open Go Go.Proofs
end Go.V
end
section
namespace Go.V
open Go
def withinB (c : GA3GSpan) (n : GA3Int) : Bool := inB c.a0.Low c.a0.High n.a0 && (inB c.a1.Low c.a1.High n.a1 && inB c.a2.Low c.a2.High n.a2)
theorem zow (c : GA3GSpan) (n : GA3Int) : zdb c n = some (withinB c n) := by
 unfold zdb withinB
 simp only [zkh, Option.bind_some]
 cases inB c.a0.Low c.a0.High n.a0 <;> cases inB c.a1.Low c.a1.High n.a1 <;> cases inB c.a2.Low c.a2.High n.a2 <;> rfl
def zipB (f : GA3GSpan → GA3Int → Bool) : List GA3Int → List GTintTin → Bool
 | a :: qs, t :: ts => f t.Pigments a && zipB f qs ts
 | [], [] => true
 | _, _ => false
theorem ztu (s : GTintSheet) : ∀ (p : List GA3Int) (ts : List GTintTin) (c : Int), 0 ≤ c → List.drop c.toNat s.Tins = ts → p.length = ts.length → zdd s p c = goB (zipB withinB p ts)
 | [], [], _, _, _, _ => rfl
 | a :: p, t :: ts, c, h0, h, hl => by
  simp only [zdd, zaj h0 h, Option.bind_some, zow, zipB, zjr]
  rw [ztu s p ts (c + 1) (by omega) (zay h0 h) (by simpa using hl)]
 | [], _ :: _, _, _, _, hl => by simp at hl
 | _ :: _, [], _, _, _, hl => by simp at hl
def cmpB (p : P3) (c : GA3GSpan) (n : GA3Int) : Bool := inB (selS c p).Low (selS c p).High (selI n p)
theorem zxo : ∀ (p : List GA3Int) (ts : List GTintTin), zipB withinB p ts = (zipB (cmpB .p0) p ts && (zipB (cmpB .p1) p ts && zipB (cmpB .p2) p ts))
 | [], [] => rfl
 | a :: p, t :: ts => by
  simp only [zipB, zxo p ts, withinB, cmpB, selS, selI]
  cases inB t.Pigments.a0.Low t.Pigments.a0.High a.a0 <;> cases inB t.Pigments.a1.Low t.Pigments.a1.High a.a1 <;> cases inB t.Pigments.a2.Low t.Pigments.a2.High a.a2 <;> simp
 | [], _ :: _ => rfl
 | _ :: _, [] => rfl
theorem zye (s : GTintSheet) : ∀ (p : List GA3Int) (ts : List GTintTin) (c : Int), 0 ≤ c → List.drop c.toNat s.Tins = ts → p.length = ts.length → zcf s p c = goB (zipB (cmpB .p0) p ts)
 | [], [], _, _, _, _ => rfl
 | a :: p, t :: ts, c, h0, h, hl => by
  simp only [zcf, zaj h0 h, Option.bind_some, zur, zipB, cmpB, selS, selI, zjr]
  rw [zye s p ts (c + 1) (by omega) (zay h0 h) (by simpa using hl)]
 | [], _ :: _, _, _, _, hl => by simp at hl
 | _ :: _, [], _, _, _, hl => by simp at hl
theorem zyu (s : GTintSheet) : ∀ (p : List GA3Int) (ts : List GTintTin) (c : Int), 0 ≤ c → List.drop c.toNat s.Tins = ts → p.length = ts.length → zcb s p c = goB (zipB (cmpB .p1) p ts)
 | [], [], _, _, _, _ => rfl
 | a :: p, t :: ts, c, h0, h, hl => by
  simp only [zcb, zaj h0 h, Option.bind_some, zur, zipB, cmpB, selS, selI, zjr]
  rw [zyu s p ts (c + 1) (by omega) (zay h0 h) (by simpa using hl)]
 | [], _ :: _, _, _, _, hl => by simp at hl
 | _ :: _, [], _, _, _, hl => by simp at hl
theorem zyw (s : GTintSheet) : ∀ (p : List GA3Int) (ts : List GTintTin) (c : Int), 0 ≤ c → List.drop c.toNat s.Tins = ts → p.length = ts.length → zce s p c = goB (zipB (cmpB .p2) p ts)
 | [], [], _, _, _, _ => rfl
 | a :: p, t :: ts, c, h0, h, hl => by
  simp only [zce, zaj h0 h, Option.bind_some, zur, zipB, cmpB, selS, selI, zjr]
  rw [zyw s p ts (c + 1) (by omega) (zay h0 h) (by simpa using hl)]
 | [], _ :: _, _, _, _, hl => by simp at hl
 | _ :: _, [], _, _, _, hl => by simp at hl
def truthB (s : GTintSheet) (t : GTintTruth) : Bool := decide (t.Tins.length = s.Tins.length) && (inB s.Years.Low s.Years.High t.Years && (withinB s.Fade t.Fade && zipB withinB t.Tins s.Tins))
theorem zabf (s : GTintSheet) {t : GTintTruth} (hl : lenOk t.Tins = true) : zec s t = some (truthB s t) := by
 unfold zec truthB
 simp only [bne, lenB, cnot]
 by_cases h : t.Tins.length = s.Tins.length
 ·rw [decide_eq_true h, zkh, zow, hl, ztu s t.Tins s.Tins 0 (Int.le_refl _) rfl h, zjc]
  simp only [cond_true, Option.bind_some, Bool.true_and]
  cases inB s.Years.Low s.Years.High t.Years <;> cases withinB s.Fade t.Fade <;> cases zipB withinB t.Tins s.Tins <;> rfl
 ·rw [decide_eq_false h]
  rfl
theorem zafs (s : GTintSheet) {t : GTintTruth} (hl : lenOk t.Tins = true) : zfq s t = some (truthB s t) := by
 unfold zfq truthB
 simp only [bne, lenB, cnot]
 by_cases h : t.Tins.length = s.Tins.length
 ·rw [decide_eq_true h, zxo, show Int.toNat (3 - 0) = 3 from rfl, show boundOk 3 = true from rfl]
  simp only [zdp, hl, zye s t.Tins s.Tins 0 (Int.le_refl _) rfl h, zyu s t.Tins s.Tins 0 (Int.le_refl _) rfl h, zyw s t.Tins s.Tins 0 (Int.le_refl _) rfl h, zjc, zur, Option.bind_some, Int.reduceAdd, Int.reduceBEq, cond_true, cond_false, Bool.true_and, withinB]
  cases inB s.Years.Low s.Years.High t.Years <;> cases inB s.Fade.a0.Low s.Fade.a0.High t.Fade.a0 <;> cases inB s.Fade.a1.Low s.Fade.a1.High t.Fade.a1 <;> cases inB s.Fade.a2.Low s.Fade.a2.High t.Fade.a2 <;> simp only [cond_true, cond_false, Bool.false_and, Bool.true_and, Bool.and_false, lbind] <;> first | rfl | (cases zipB (cmpB .p0) t.Tins s.Tins <;> first | rfl | (cases zipB (cmpB .p1) t.Tins s.Tins <;> first | rfl | (cases zipB (cmpB .p2) t.Tins s.Tins <;> rfl)))
 ·rw [decide_eq_false h]
  rfl
theorem zair {f : GA3GSpan → GA3Int → Bool} : ∀ {p : List GA3Int} {ts : List GTintTin}, zipB f p ts = true → ∀ (i : Nat) a t, p[i]? = some a → ts[i]? = some t → f t.Pigments a = true
 | [], _, _, _, _, _, h, _ => by simp at h
 | _ :: _, [], h, _, _, _, _, _ => by cases h
 | a :: p, t :: ts, h, i, a', t', ha, ht => by
  simp only [zipB, Bool.and_eq_true] at h
  cases i with
  | zero =>
   simp only [List.getElem?_cons_zero, Option.some.injEq] at ha ht
   subst ha ht
   exact h.1
  | succ i => exact zair h.2 i a' t' (by simpa using ha) (by simpa using ht)
structure TrOk (s : GTintSheet) (t : GTintTruth) : Prop where
 n : t.Tins.length = s.Tins.length
 y : s.Years.Low ≤ t.Years ∧ t.Years ≤ s.Years.High
 fade : ∀ p, (selS s.Fade p).Low ≤ selI t.Fade p ∧ selI t.Fade p ≤ (selS s.Fade p).High
 tin : ∀ (i : Nat) a c, t.Tins[i]? = some a → s.Tins[i]? = some c → ∀ p, lowT p c ≤ selI a p ∧ selI a p ≤ highT p c
theorem TrOk.of {s : GTintSheet} {t : GTintTruth} (h : truthB s t = true) : TrOk s t := by
 simp only [truthB, Bool.and_eq_true, decide_eq_true_eq, zkq] at h
 obtain ⟨h1, h2, h3, h4⟩ := h
 simp only [withinB, Bool.and_eq_true, zkq] at h3
 refine ⟨h1, h2, fun p => ?_, fun i a c ha hc p => ?_⟩
 ·cases p
  ·exact h3.1
  ·exact h3.2.1
  ·exact h3.2.2
 ·have := zair h4 i a c ha hc
  simp only [withinB, Bool.and_eq_true, zkq] at this
  cases p
  ·exact this.1
  ·exact this.2.1
  ·exact this.2.2
def alo (n : Int) : GSpan := ⟨n, n⟩
def al3 (n : GA3Int) : GA3GSpan := ⟨alo n.a0, alo n.a1, alo n.a2⟩
def tinK (a : GA3Int) : GTintTin := ⟨al3 a⟩
def knS (s : GTintSheet) (t : GTintTruth) : GTintSheet := ⟨s.Old, al3 t.Fade, alo t.Years, s.Off, t.Tins.map tinK⟩
theorem zqs (n : GA3Int) : zdk n = some (al3 n) := rfl
theorem zaci : ∀ (p : List GA3Int) (c : Int) (acc : List GTintTin), acc.length + p.length ≤ 1000 → zcx p c acc = some (.go (acc ++ p.map tinK))
 | [], c, acc, _ => by simp [zcx]
 | a :: p, c, acc, h => by
  simp only [List.length_cons] at h
  have hr : roomOk 48 (List.length (acc ++ [GTintTin.mk (al3 a)])) = true := by
   unfold roomOk
   simp only [List.length_append, List.length_cons, List.length_nil, decide_eq_true_eq]
   omega
  simp only [zcx, zqs, Option.bind_some, hr, cond_true]
  rw [zaci p (c + 1) _ (by simp only [List.length_append, List.length_cons, List.length_nil]; omega)]
  simp [tinK]
theorem zaky {s : GTintSheet} (hs : ShOk s) {t : GTintTruth} (ht : TrOk s t) : zga s t = some (knS s t) := by
 have h1 := hs.n
 have h2 := ht.n
 unfold zga
 rw [show zdq t.Years = some (alo t.Years) from rfl, zqs, zhg (by omega), zaci t.Tins 0 [] (by simp only [List.length_nil]; omega)]
 simp [lbind, knS]
theorem zvl (n : GA3Int) (p : P3) : selS (al3 n) p = alo (selI n p) := by cases p <;> rfl
theorem knOk {s : GTintSheet} (hs : ShOk s) {t : GTintTruth} (ht : TrOk s t) : ShOk (knS s t) := by
 refine ⟨hs.old, fun p => ?_, ?_, hs.off, ?_, fun x hx p => ?_⟩
 ·have h1 := hs.fade p
  have h2 := ht.fade p
  show 0 ≤ (selS (al3 t.Fade) p).Low ∧ (selS (al3 t.Fade) p).Low ≤ (selS (al3 t.Fade) p).High ∧ (selS (al3 t.Fade) p).High ≤ 9
  rw [zvl]
  simp only [alo]
  omega
 ·have h1 := hs.yrs
  have h2 := ht.y
  show 0 ≤ t.Years ∧ t.Years ≤ t.Years ∧ t.Years ≤ 20
  omega
 ·have h1 := hs.n
  have h2 := ht.n
  show 1 ≤ (t.Tins.map tinK).length ∧ (t.Tins.map tinK).length ≤ 4
  rw [List.length_map]
  omega
 ·obtain ⟨a, ha, rfl⟩ := List.mem_map.1 (show x ∈ t.Tins.map tinK from hx)
  obtain ⟨i, hi⟩ := List.mem_iff_getElem?.1 ha
  have hlt := (List.getElem?_eq_some_iff.1 hi).1
  obtain ⟨c, hc⟩ : ∃ c, s.Tins[i]? = some c := ⟨_, List.getElem?_eq_getElem (by rw [← ht.n]; exact hlt)⟩
  have h1 := ht.tin i a c hi hc p
  have h2 := hs.tin c (List.mem_of_getElem? hc) p
  show 0 ≤ (selS (al3 a) p).Low ∧ (selS (al3 a) p).Low ≤ (selS (al3 a) p).High ∧ (selS (al3 a) p).High ≤ 99
  rw [zvl]
  simp only [alo, lowT, highT] at h1 ⊢
  omega
theorem knMix {s : GTintSheet} {t : GTintTruth} (ht : TrOk s t) {mix : List Int} (hm : MixOk s mix) : MixOk (knS s t) mix := by
 refine ⟨?_, hm.b, hm.s⟩
 show mix.length = (t.Tins.map tinK).length
 rw [List.length_map, hm.n, ht.n]
theorem zacd {α β : Type} (g : α → β) (f : β → Int) : ∀ (ms : List Int) (ts : List α), dot f ms (ts.map g) = dot (fun a => f (g a)) ms ts
 | [], _ => by simp [dot]
 | _ :: _, [] => rfl
 | m :: ms, t :: ts => by simp only [List.map_cons, dot, zacd g f ms ts]
def sumT (mix : List Int) (t : GTintTruth) (p : P3) : Int := dot (fun a => selI a p) mix t.Tins
def fadT (s : GTintSheet) (t : GTintTruth) (p : P3) : Int := leftI (selI s.Old p) t.Years (selI t.Fade p)
theorem zabk {s : GTintSheet} {t : GTintTruth} {mix : List Int} (p : P3) : sumsP (knS s t) mix p = alo (sumT mix t p) := by
 have e1 : (fun a => lowT p (tinK a)) = fun a => selI a p := by
  funext a
  cases p <;> rfl
 have e2 : (fun a => highT p (tinK a)) = fun a => selI a p := by
  funext a
  cases p <;> rfl
 show GSpan.mk (dot (lowT p) mix (t.Tins.map tinK)) (dot (highT p) mix (t.Tins.map tinK)) = _
 rw [zacd, zacd, e1, e2]
 rfl
theorem zaiz {s : GTintSheet} {t : GTintTruth} (p : P3) : aimP (knS s t) p = alo (fadT s t p) := by
 show GSpan.mk (leftI (selI s.Old p) t.Years (selS (al3 t.Fade) p).High) (leftI (selI s.Old p) t.Years (selS (al3 t.Fade) p).Low) = _
 rw [zvl]
 rfl
def mostI (s : GTintSheet) (mix : List Int) (p : P3) : Int :=
 if (sumsP s mix p).High - sumL mix * (aimP s p).Low < sumL mix * (aimP s p).High - (sumsP s mix p).Low then sumL mix * (aimP s p).High - (sumsP s mix p).Low else (sumsP s mix p).High - sumL mix * (aimP s p).Low
def farI (s : GTintSheet) (mix : List Int) (p : P3) : Int := Int.tdiv (mostI s mix p + sumL mix - 1) (sumL mix)
theorem zaeh {s : GTintSheet} (hs : ShOk s) {mix : List Int} (hm : MixOk s mix) (p : P3) : 0 ≤ (sumsP s mix p).Low ∧ (sumsP s mix p).Low ≤ (sumsP s mix p).High ∧ (sumsP s mix p).High ≤ 792 := by
 have h1 := dot_b mix s.Tins hm.b (hs.low p)
 have h2 := dot_b mix s.Tins hm.b (hs.high p)
 have h3 := zael (f := lowT p) (g := highT p) mix s.Tins s.Tins rfl hm.b (fun i t u ht hu => by
  rw [ht] at hu
  cases hu
  have := hs.tin t (List.mem_of_getElem? ht) p
  unfold lowT highT
  omega)
 have h4 := hm.s
 unfold sumsP
 simp only
 omega
theorem zaeq {s : GTintSheet} (hs : ShOk s) {mix : List Int} (hm : MixOk s mix) (p : P3) : 0 ≤ mostI s mix p ∧ mostI s mix p ≤ 800 ∧ 0 ≤ sumL mix * (aimP s p).Low ∧ sumL mix * (aimP s p).Low ≤ sumL mix * (aimP s p).High ∧ sumL mix * (aimP s p).High ≤ 792 := by
 have h1 := zaeh hs hm p
 have h2 := zaqc hs p
 have h3 := hm.s
 have h4 := mulR (a := sumL mix) (A := 8) (by omega) h3.2 h2.1 (show (aimP s p).Low ≤ 99 by omega)
 have h5 := mulR (a := sumL mix) (A := 8) (by omega) h3.2 (show 0 ≤ (aimP s p).High by omega) h2.2.2
 have h6 := Int.mul_le_mul_of_nonneg_left h2.2.1 (show 0 ≤ sumL mix by omega)
 unfold mostI
 split <;> omega
theorem zaif {s : GTintSheet} (hs : ShOk s) {mix : List Int} (hm : MixOk s mix) (p : P3) (k : Int) : farI s mix p ≤ k ↔ mostI s mix p ≤ k * sumL mix := by
 have h1 := (zaeq hs hm p).1
 have h3 := hm.s
 unfold farI
 rw [Int.tdiv_eq_ediv_of_nonneg (by omega)]
 have h2 := Int.ediv_lt_iff_lt_mul (a := mostI s mix p + sumL mix - 1) (b := k + 1) (c := sumL mix) (by omega)
 rw [Int.add_mul, Int.one_mul] at h2
 omega
theorem zast {s : GTintSheet} (hs : ShOk s) {mix : List Int} (hm : MixOk s mix) (p : P3) : 0 ≤ farI s mix p ∧ farI s mix p ≤ 800 := by
 have h1 := zaeq hs hm p
 have h3 := hm.s
 refine ⟨?_, (zaif hs hm p 800).2 (by omega)⟩
 unfold farI
 rw [Int.tdiv_eq_ediv_of_nonneg (by omega)]
 exact Int.ediv_nonneg (by omega) (by omega)
theorem zavj {s : GTintSheet} (hs : ShOk s) {mix : List Int} (hm : MixOk s mix) (p : P3) : zar ⟨s, mix⟩ p.i = some (farI s mix p) := by
 have h1 := zaeh hs hm p
 have h2 := zaeq hs hm p
 have h3 := hm.s
 have h4 := zast hs hm p
 have hne : (sumL mix != 0) = true := by simp; omega
 have e1 : IntKind.i64.wrap (sumL mix * (aimP s p).Low) = sumL mix * (aimP s p).Low := zek (by omega) (by omega)
 have e2 : IntKind.i64.wrap (sumL mix * (aimP s p).High) = sumL mix * (aimP s p).High := zek (by omega) (by omega)
 have e3 : IntKind.i64.wrap ((sumsP s mix p).High - sumL mix * (aimP s p).Low) = (sumsP s mix p).High - sumL mix * (aimP s p).Low := zek (by omega) (by omega)
 have e4 : IntKind.i64.wrap (sumL mix * (aimP s p).High - (sumsP s mix p).Low) = sumL mix * (aimP s p).High - (sumsP s mix p).Low := zek (by omega) (by omega)
 have e5 : IntKind.i64.wrap (mostI s mix p + sumL mix) = mostI s mix p + sumL mix := zek (by omega) (by omega)
 have e6 : IntKind.i64.wrap (mostI s mix p + sumL mix - 1) = mostI s mix p + sumL mix - 1 := zek (by omega) (by omega)
 have e7 : IntKind.i64.wrap (farI s mix p) = farI s mix p := zek (by omega) (by omega)
 have key : some (IntKind.i64.wrap (Int.tdiv (IntKind.i64.wrap ((IntKind.i64.wrap ((if (IntKind.i64.wrap ((sumsP s mix p).High - (IntKind.i64.wrap (sumL mix * (aimP s p).Low)))) < (IntKind.i64.wrap ((IntKind.i64.wrap (sumL mix * (aimP s p).High)) - (sumsP s mix p).Low)) then (IntKind.i64.wrap ((IntKind.i64.wrap (sumL mix * (aimP s p).High)) - (sumsP s mix p).Low)) else (IntKind.i64.wrap ((sumsP s mix p).High - (IntKind.i64.wrap (sumL mix * (aimP s p).Low))))) + sumL mix)) - 1)) (sumL mix))) = some (farI s mix p) := by
  rw [e1, e2, e3, e4]
  show some (IntKind.i64.wrap (Int.tdiv (IntKind.i64.wrap ((IntKind.i64.wrap (mostI s mix p + sumL mix)) - 1)) (sumL mix))) = _
  rw [e5, e6]
  exact congrArg some e7
 unfold zar
 rw [zail hs hm, zapf hs, zajc hs hm]
 simp only [Option.bind_some, hne, cond_true]
 cases p <;> simp only [P3.i, Int.reduceBEq, cond_true, cond_false] <;> exact key
def surelyB (s : GTintSheet) (mix : List Int) : Bool := decide (farI s mix .p0 ≤ s.Off) && (decide (farI s mix .p1 ≤ s.Off) && decide (farI s mix .p2 ≤ s.Off))
theorem zaas {s : GTintSheet} (hs : ShOk s) {mix : List Int} (hm : MixOk s mix) (p : P3) : zba ⟨s, mix⟩ p.i = some (cond (decide (farI s mix p ≤ s.Off)) (.inl ()) (.inr ())) := by
 unfold zba
 rw [zavj hs hm p]
 simp only [Option.bind_some]
 by_cases h : farI s mix p ≤ s.Off
 ·rw [decide_eq_true h, decide_eq_false (by show ¬ farI s mix p > s.Off; omega)]; rfl
 ·rw [decide_eq_false h, decide_eq_true (by show farI s mix p > s.Off; omega)]; rfl
theorem zafy {s : GTintSheet} (hs : ShOk s) {mix : List Int} (hm : MixOk s mix) : zbf ⟨s, mix⟩ = some (surelyB s mix) := by
 have m0 := zaas hs hm .p0
 have m1 := zaas hs hm .p1
 have m2 := zaas hs hm .p2
 simp only [P3.i] at m0 m1 m2
 unfold zbf surelyB
 rw [m0, m1, m2]
 cases decide (farI s mix .p0 ≤ s.Off) <;> cases decide (farI s mix .p1 ≤ s.Off) <;> cases decide (farI s mix .p2 ≤ s.Off) <;> rfl
theorem zzp {s : GTintSheet} (hs : ShOk s) {mix : List Int} (hm : MixOk s mix) : surelyB s mix = true ↔ ∀ p, mostI s mix p ≤ s.Off * sumL mix := by
 simp only [surelyB, Bool.and_eq_true, decide_eq_true_eq, zaif hs hm]
 constructor
 ·rintro ⟨a, b, c⟩ p
  cases p <;> assumption
 ·intro h
  exact ⟨h .p0, h .p1, h .p2⟩
def absI (n : Int) : Int := if n < -n then -n else n
def trueB (s : GTintSheet) (mix : List Int) (t : GTintTruth) : Bool := decide (absI (sumT mix t .p0 - sumL mix * fadT s t .p0) ≤ sumL mix * s.Off) && (decide (absI (sumT mix t .p1 - sumL mix * fadT s t .p1) ≤ sumL mix * s.Off) && decide (absI (sumT mix t .p2 - sumL mix * fadT s t .p2) ≤ sumL mix * s.Off))
theorem zahb {s : GTintSheet} {mix : List Int} {t : GTintTruth} : trueB s mix t = true ↔ ∀ p, absI (sumT mix t p - sumL mix * fadT s t p) ≤ s.Off * sumL mix := by
 simp only [trueB, Bool.and_eq_true, decide_eq_true_eq, Int.mul_comm (sumL mix) s.Off]
 constructor
 ·rintro ⟨a, b, c⟩ p
  cases p <;> assumption
 ·intro h
  exact ⟨h .p0, h .p1, h .p2⟩
theorem zapo {s : GTintSheet} {mix : List Int} {t : GTintTruth} (p : P3) : mostI (knS s t) mix p = absI (sumT mix t p - sumL mix * fadT s t p) := by
 unfold mostI absI
 rw [zabk, zaiz]
 simp only [alo]
 have key : ∀ a b : Int, (if a - b < b - a then b - a else a - b) = (if a - b < -(a - b) then -(a - b) else a - b) := by
  intro a b
  by_cases h : a - b < b - a
  ·rw [if_pos h, if_pos (by omega)]
   omega
  ·rw [if_neg h, if_neg (by omega)]
 exact key _ _
theorem zagy {s : GTintSheet} (hs : ShOk s) {mix : List Int} (hm : MixOk s mix) {t : GTintTruth} (ht : TrOk s t) : surelyB (knS s t) mix = trueB s mix t := by
 rw [Bool.eq_iff_iff, zzp (knOk hs ht) (knMix ht hm), zahb]
 simp only [zapo]
 rfl
theorem zark {s : GTintSheet} (hs : ShOk s) {mix : List Int} (hm : MixOk s mix) {t : GTintTruth} (ht : TrOk s t) (p : P3) : 0 ≤ sumT mix t p ∧ sumT mix t p ≤ 792 := by
 have := zaeh (knOk hs ht) (knMix ht hm) p
 rw [zabk] at this
 simp only [alo] at this
 omega
theorem zarq {s : GTintSheet} (hs : ShOk s) {t : GTintTruth} (ht : TrOk s t) (p : P3) : 0 ≤ fadT s t p ∧ fadT s t p ≤ 99 := by
 have := zaqc (knOk hs ht) p
 rw [zaiz] at this
 simp only [alo] at this
 omega
end Go.V
end
section
namespace Go.V
open Go Go.Proofs
def zge (x0_s : GTintSheet) : Option (Int) := Option.bind (zap x0_s) (fun r1 => cond (r1) (some 0) (some 2))
theorem zpq (x0_s : GTintSheet) (R : Int) (h : zge x0_s = some R) : VPure Tryz.prog G0 17 [.agg (cGTintSheet x0_s)] (.tree (.lit (.int .i64 R))) := by
 refine VPure.runR mixed Tryz.call17 Tryz.func17 rfl (by simp [Tryz.ntmps17]; kernel_rfl) ?_
 obtain ⟨KF, h, kF, kN⟩ := zak h
 simp only [zge] at h
 rcases o3 : (zap x0_s) with _ | r2
 ·simp only [o3, hs] at h
  exact absurd h kN
 simp only [o3, hs] at h
 simp only [vz, tyf, nm, seval]
 refine ktree (args0 := [.agg (cGTintSheet x0_s)]) (by first | (simp only [nrm, tynrm] <;> rfl) | rfl) (by simp only [tre, tytre, Bool.and_self]) (zcg _ _ o3) ?_
 refine zac (fun tm => tm 4 = .lit (.bool r2) ∧ True) (by refine ⟨?_, trivial⟩ <;> first | (simp only [ua, nm, seval] <;> rfl) | rfl) ?_
 rintro tm ⟨e4, _⟩
 cases d5 : (r2)
 ·simp only [d5, hs] at h
  try simp only [vz, tyf, e4, d5, nm, seval]
  refine zaq (x := (.lit (.int .i64 2))) (by first | (simp only [Tryz.results17, resV, resL, resV1, zat, zbs, uw, cr, tyf, d5, nm, seval] <;> rfl) | rfl) ?_
  obtain rfl := kF _ h
  refine zau ?_ ?_
  ·simp only [tre, tytre, Bool.and_self]
  ·first | (simp only [outV, uw, zae, cr, tyf, nrm, tynrm, e4, d5, nm, seval] <;> rfl) | rfl
 simp only [d5, hs] at h
 try simp only [vz, tyf, e4, d5, nm, seval]
 refine zaq (x := (.lit (.int .i64 0))) (by first | (simp only [Tryz.results17, resV, resL, resV1, zat, zbs, uw, cr, tyf, d5, nm, seval] <;> rfl) | rfl) ?_
 obtain rfl := kF _ h
 refine zau ?_ ?_
 ·simp only [tre, tytre, Bool.and_self]
 ·first | (simp only [outV, uw, zae, cr, tyf, nrm, tynrm, e4, d5, nm, seval] <;> rfl) | rfl
end Go.V
end
section
namespace Go.V
open Go Go.Proofs
theorem hmix : Tryz.prog.follows .mixedOrders = true := by kernel_rfl
def kA : VV := (Go.V.VV.agg [(Go.V.VV.lit (Go.Value.int Go.IntKind.i64 (Int.ofNat 60))), (Go.V.VV.lit (Go.Value.int Go.IntKind.i64 (Int.ofNat 40))), (Go.V.VV.lit (Go.Value.int Go.IntKind.i64 (Int.ofNat 20))), (Go.V.VV.lit (Go.Value.int Go.IntKind.i64 (Int.ofNat 1))), (Go.V.VV.lit (Go.Value.int Go.IntKind.i64 (Int.ofNat 2))), (Go.V.VV.lit (Go.Value.int Go.IntKind.i64 (Int.ofNat 1))), (Go.V.VV.lit (Go.Value.int Go.IntKind.i64 (Int.ofNat 1))), (Go.V.VV.lit (Go.Value.int Go.IntKind.i64 (Int.ofNat 0))), (Go.V.VV.lit (Go.Value.int Go.IntKind.i64 (Int.ofNat 0))), (Go.V.VV.lit (Go.Value.int Go.IntKind.i64 (Int.ofNat 5))), (Go.V.VV.lit (Go.Value.int Go.IntKind.i64 (Int.ofNat 5))), (Go.V.VV.lit (Go.Value.int Go.IntKind.i64 (Int.ofNat 5))), (Go.V.VV.sl [(Go.V.VV.lit (Go.Value.int Go.IntKind.i64 (Int.ofNat 80))), (Go.V.VV.lit (Go.Value.int Go.IntKind.i64 (Int.ofNat 82))), (Go.V.VV.lit (Go.Value.int Go.IntKind.i64 (Int.ofNat 20))), (Go.V.VV.lit (Go.Value.int Go.IntKind.i64 (Int.ofNat 20))), (Go.V.VV.lit (Go.Value.int Go.IntKind.i64 (Int.ofNat 0))), (Go.V.VV.lit (Go.Value.int Go.IntKind.i64 (Int.ofNat 2))), (Go.V.VV.lit (Go.Value.int Go.IntKind.i64 (Int.ofNat 20))), (Go.V.VV.lit (Go.Value.int Go.IntKind.i64 (Int.ofNat 22))), (Go.V.VV.lit (Go.Value.int Go.IntKind.i64 (Int.ofNat 60))), (Go.V.VV.lit (Go.Value.int Go.IntKind.i64 (Int.ofNat 60))), (Go.V.VV.lit (Go.Value.int Go.IntKind.i64 (Int.ofNat 40))), (Go.V.VV.lit (Go.Value.int Go.IntKind.i64 (Int.ofNat 40))), (Go.V.VV.lit (Go.Value.int Go.IntKind.i64 (Int.ofNat 50))), (Go.V.VV.lit (Go.Value.int Go.IntKind.i64 (Int.ofNat 50))), (Go.V.VV.lit (Go.Value.int Go.IntKind.i64 (Int.ofNat 10))), (Go.V.VV.lit (Go.Value.int Go.IntKind.i64 (Int.ofNat 12))), (Go.V.VV.lit (Go.Value.int Go.IntKind.i64 (Int.ofNat 30))), (Go.V.VV.lit (Go.Value.int Go.IntKind.i64 (Int.ofNat 30)))] 3 Bool.false)])
def kB : VV := (Go.V.VV.agg [(Go.V.VV.lit (Go.Value.int Go.IntKind.i64 (Int.ofNat 60))), (Go.V.VV.lit (Go.Value.int Go.IntKind.i64 (Int.ofNat 40))), (Go.V.VV.lit (Go.Value.int Go.IntKind.i64 (Int.ofNat 20))), (Go.V.VV.lit (Go.Value.int Go.IntKind.i64 (Int.ofNat 1))), (Go.V.VV.lit (Go.Value.int Go.IntKind.i64 (Int.ofNat 2))), (Go.V.VV.lit (Go.Value.int Go.IntKind.i64 (Int.ofNat 1))), (Go.V.VV.lit (Go.Value.int Go.IntKind.i64 (Int.ofNat 1))), (Go.V.VV.lit (Go.Value.int Go.IntKind.i64 (Int.ofNat 0))), (Go.V.VV.lit (Go.Value.int Go.IntKind.i64 (Int.ofNat 0))), (Go.V.VV.lit (Go.Value.int Go.IntKind.i64 (Int.ofNat 5))), (Go.V.VV.lit (Go.Value.int Go.IntKind.i64 (Int.ofNat 5))), (Go.V.VV.lit (Go.Value.int Go.IntKind.i64 (Int.ofNat 5))), (Go.V.VV.sl [(Go.V.VV.lit (Go.Value.int Go.IntKind.i64 (Int.ofNat 20))), (Go.V.VV.lit (Go.Value.int Go.IntKind.i64 (Int.ofNat 22))), (Go.V.VV.lit (Go.Value.int Go.IntKind.i64 (Int.ofNat 60))), (Go.V.VV.lit (Go.Value.int Go.IntKind.i64 (Int.ofNat 60))), (Go.V.VV.lit (Go.Value.int Go.IntKind.i64 (Int.ofNat 40))), (Go.V.VV.lit (Go.Value.int Go.IntKind.i64 (Int.ofNat 40))), (Go.V.VV.lit (Go.Value.int Go.IntKind.i64 (Int.ofNat 50))), (Go.V.VV.lit (Go.Value.int Go.IntKind.i64 (Int.ofNat 50))), (Go.V.VV.lit (Go.Value.int Go.IntKind.i64 (Int.ofNat 10))), (Go.V.VV.lit (Go.Value.int Go.IntKind.i64 (Int.ofNat 12))), (Go.V.VV.lit (Go.Value.int Go.IntKind.i64 (Int.ofNat 30))), (Go.V.VV.lit (Go.Value.int Go.IntKind.i64 (Int.ofNat 30)))] 2 Bool.false)])
def kD : VV := (Go.V.VV.agg [(Go.V.VV.lit (Go.Value.int Go.IntKind.i64 (Int.ofNat 60))), (Go.V.VV.lit (Go.Value.int Go.IntKind.i64 (Int.ofNat 40))), (Go.V.VV.lit (Go.Value.int Go.IntKind.i64 (Int.ofNat 20))), (Go.V.VV.lit (Go.Value.int Go.IntKind.i64 (Int.ofNat 1))), (Go.V.VV.lit (Go.Value.int Go.IntKind.i64 (Int.ofNat 2))), (Go.V.VV.lit (Go.Value.int Go.IntKind.i64 (Int.ofNat 1))), (Go.V.VV.lit (Go.Value.int Go.IntKind.i64 (Int.ofNat 1))), (Go.V.VV.lit (Go.Value.int Go.IntKind.i64 (Int.ofNat 0))), (Go.V.VV.lit (Go.Value.int Go.IntKind.i64 (Int.ofNat 0))), (Go.V.VV.lit (Go.Value.int Go.IntKind.i64 (Int.ofNat 2))), (Go.V.VV.lit (Go.Value.int Go.IntKind.i64 (Int.ofNat 9))), (Go.V.VV.lit (Go.Value.int Go.IntKind.i64 (Int.ofNat 5))), (Go.V.VV.sl [(Go.V.VV.lit (Go.Value.int Go.IntKind.i64 (Int.ofNat 80))), (Go.V.VV.lit (Go.Value.int Go.IntKind.i64 (Int.ofNat 82))), (Go.V.VV.lit (Go.Value.int Go.IntKind.i64 (Int.ofNat 20))), (Go.V.VV.lit (Go.Value.int Go.IntKind.i64 (Int.ofNat 20))), (Go.V.VV.lit (Go.Value.int Go.IntKind.i64 (Int.ofNat 0))), (Go.V.VV.lit (Go.Value.int Go.IntKind.i64 (Int.ofNat 2))), (Go.V.VV.lit (Go.Value.int Go.IntKind.i64 (Int.ofNat 20))), (Go.V.VV.lit (Go.Value.int Go.IntKind.i64 (Int.ofNat 22))), (Go.V.VV.lit (Go.Value.int Go.IntKind.i64 (Int.ofNat 60))), (Go.V.VV.lit (Go.Value.int Go.IntKind.i64 (Int.ofNat 60))), (Go.V.VV.lit (Go.Value.int Go.IntKind.i64 (Int.ofNat 40))), (Go.V.VV.lit (Go.Value.int Go.IntKind.i64 (Int.ofNat 40))), (Go.V.VV.lit (Go.Value.int Go.IntKind.i64 (Int.ofNat 50))), (Go.V.VV.lit (Go.Value.int Go.IntKind.i64 (Int.ofNat 50))), (Go.V.VV.lit (Go.Value.int Go.IntKind.i64 (Int.ofNat 10))), (Go.V.VV.lit (Go.Value.int Go.IntKind.i64 (Int.ofNat 12))), (Go.V.VV.lit (Go.Value.int Go.IntKind.i64 (Int.ofNat 30))), (Go.V.VV.lit (Go.Value.int Go.IntKind.i64 (Int.ofNat 30)))] 3 Bool.false)])
def kAim : VV := (Go.V.VV.tup [(Go.V.VV.agg [(Go.V.VV.lit (Go.Value.int Go.IntKind.i64 (Int.ofNat 42))), (Go.V.VV.lit (Go.Value.int Go.IntKind.i64 (Int.ofNat 58))), (Go.V.VV.lit (Go.Value.int Go.IntKind.i64 (Int.ofNat 31))), (Go.V.VV.lit (Go.Value.int Go.IntKind.i64 (Int.ofNat 38))), (Go.V.VV.lit (Go.Value.int Go.IntKind.i64 (Int.ofNat 20))), (Go.V.VV.lit (Go.Value.int Go.IntKind.i64 (Int.ofNat 20)))]), (Go.V.VV.lit (Go.Value.int Go.IntKind.i64 (Int.ofNat 0)))])
def kSums : VV := (Go.V.VV.tup [(Go.V.VV.agg [(Go.V.VV.lit (Go.Value.int Go.IntKind.i64 (Int.ofNat 100))), (Go.V.VV.lit (Go.Value.int Go.IntKind.i64 (Int.ofNat 104))), (Go.V.VV.lit (Go.Value.int Go.IntKind.i64 (Int.ofNat 80))), (Go.V.VV.lit (Go.Value.int Go.IntKind.i64 (Int.ofNat 80))), (Go.V.VV.lit (Go.Value.int Go.IntKind.i64 (Int.ofNat 40))), (Go.V.VV.lit (Go.Value.int Go.IntKind.i64 (Int.ofNat 42)))]), (Go.V.VV.lit (Go.Value.int Go.IntKind.i64 (Int.ofNat 0)))])
def kTrue : VV := (Go.V.VV.tup [(Go.V.VV.lit (Go.Value.bool Bool.true)), (Go.V.VV.lit (Go.Value.int Go.IntKind.i64 (Int.ofNat 0)))])
def kWord : VV := (Go.V.VV.tup [(Go.V.VV.lit (Go.Value.int Go.IntKind.i64 (Int.ofNat 2))), (Go.V.VV.lit (Go.Value.int Go.IntKind.i64 (Int.ofNat 0)))])
def kYears : VV := (Go.V.VV.tup [(Go.V.VV.agg [(Go.V.VV.lit (Go.Value.int Go.IntKind.i64 (Int.ofNat 2))), (Go.V.VV.lit (Go.Value.int Go.IntKind.i64 (Int.ofNat 5)))]), (Go.V.VV.lit (Go.Value.int Go.IntKind.i64 (Int.ofNat 0)))])
def kRead : VV := (Go.V.VV.tup [(Go.V.VV.agg [(Go.V.VV.lit (Go.Value.int Go.IntKind.i64 (Int.ofNat 1))), (Go.V.VV.lit (Go.Value.int Go.IntKind.i64 (Int.ofNat 2))), (Go.V.VV.lit (Go.Value.int Go.IntKind.i64 (Int.ofNat 3))), (Go.V.VV.lit (Go.Value.int Go.IntKind.i64 (Int.ofNat 0))), (Go.V.VV.lit (Go.Value.int Go.IntKind.i64 (Int.ofNat 0))), (Go.V.VV.lit (Go.Value.int Go.IntKind.i64 (Int.ofNat 0))), (Go.V.VV.lit (Go.Value.int Go.IntKind.i64 (Int.ofNat 0))), (Go.V.VV.lit (Go.Value.int Go.IntKind.i64 (Int.ofNat 0))), (Go.V.VV.lit (Go.Value.int Go.IntKind.i64 (Int.ofNat 0))), (Go.V.VV.lit (Go.Value.int Go.IntKind.i64 (Int.ofNat 0))), (Go.V.VV.lit (Go.Value.int Go.IntKind.i64 (Int.ofNat 0))), (Go.V.VV.lit (Go.Value.int Go.IntKind.i64 (Int.ofNat 1))), (Go.V.VV.sl [(Go.V.VV.lit (Go.Value.int Go.IntKind.i64 (Int.ofNat 1))), (Go.V.VV.lit (Go.Value.int Go.IntKind.i64 (Int.ofNat 1))), (Go.V.VV.lit (Go.Value.int Go.IntKind.i64 (Int.ofNat 2))), (Go.V.VV.lit (Go.Value.int Go.IntKind.i64 (Int.ofNat 2))), (Go.V.VV.lit (Go.Value.int Go.IntKind.i64 (Int.ofNat 3))), (Go.V.VV.lit (Go.Value.int Go.IntKind.i64 (Int.ofNat 3)))] 1 Bool.false)]), (Go.V.VV.lit (Go.Value.int Go.IntKind.i64 (Int.ofNat 0)))])
def kCount : VV := .tup [.lit (.int .i64 9), .lit (.int .i64 0)]
def kNear : VV := .tup [.sl [.lit (.int .i64 1), .lit (.int .i64 1), .lit (.int .i64 0)] 3 false, .lit (.int .i64 5), .lit (.int .i64 0)]
def kNeeds : VV := .tup [.sl [.lit (.int .i64 0), .lit (.int .i64 1)] 2 false, .lit (.int .i64 0)]
def kProof : VV := .tup [.agg [.lit (.int .i64 0), .lit (.int .i64 0), .lit (.int .i64 (-2))], .lit (.int .i64 0)]
def kFirst : VV := .tup [.sl [.lit (.int .i64 1), .lit (.int .i64 1), .lit (.int .i64 0)] 3 false, .lit (.int .i64 0)]
def kMay : VV := .tup [.sl [.lit (.int .i64 1), .lit (.int .i64 1), .lit (.int .i64 0)] 3 false, .lit (.int .i64 0)]
end Go.V
end
section
namespace Go.V
open Go Go.Proofs
theorem pA : VPure Tryz.prog G0 54 [] (.tree kA) := VPure.closedB hmix 1000 (by kernel_rfl)
theorem pB : VPure Tryz.prog G0 56 [] (.tree kB) := VPure.closedB hmix 1000 (by kernel_rfl)
theorem pD : VPure Tryz.prog G0 53 [] (.tree kD) := VPure.closedB hmix 1000 (by kernel_rfl)
theorem pAim : VPure Tryz.prog G0 18 [kD] (.tree kAim) := VPure.closedB hmix 1000 (by kernel_rfl)
theorem pSums : VPure Tryz.prog G0 19 [kA, .sl [.lit (.int .i64 (1)), .lit (.int .i64 (1)), .lit (.int .i64 (0))] 3 false] (.tree kSums) := VPure.closedB hmix 1000 (by kernel_rfl)
theorem pWord : VPure Tryz.prog G0 27 [kA, .sl [.lit (.int .i64 (3)), .lit (.int .i64 (2)), .lit (.int .i64 (0))] 3 false] (.tree kWord) := VPure.closedB hmix 1000 (by kernel_rfl)
end Go.V
end
section
namespace Go.V
open Go Go.Proofs
theorem pTrue : VPure Tryz.prog G0 24 [kA, .sl [.lit (.int .i64 (1)), .lit (.int .i64 (1)), .lit (.int .i64 (0))] 3 false, .agg [.sl [.lit (.int .i64 80),.lit (.int .i64 20),.lit (.int .i64 0),.lit (.int .i64 20),.lit (.int .i64 60),.lit (.int .i64 40),.lit (.int .i64 50),.lit (.int .i64 10),.lit (.int .i64 30)] 3 false,.lit (.int .i64 5),.lit (.int .i64 2),.lit (.int .i64 1),.lit (.int .i64 0)]] (.tree kTrue) := VPure.closedB hmix 1000 (by kernel_rfl)
theorem pYears : VPure Tryz.prog G0 28 [kD, .sl [.lit (.int .i64 (1)), .lit (.int .i64 (1)), .lit (.int .i64 (0))] 3 false] (.tree kYears) := VPure.closedB hmix 1000 (by kernel_rfl)
end Go.V
end
section
namespace Go.V
open Go Go.Proofs
theorem pRead : VPure Tryz.prog G0 57 [.lit (.string ⟨⟨[98, 111, 97, 114, 100, 32, 49, 32, 50, 32, 51, 32, 48, 32, 48, 32, 49, 10, 102, 97, 100, 101, 32, 48, 32, 48, 32, 48, 32, 48, 32, 48, 32, 48, 10, 116, 105, 110, 32, 49, 32, 49, 32, 50, 32, 50, 32, 51, 32, 51, 10, 101, 110, 100, 32, 49, 54, 52, 10]⟩⟩)] (.tree kRead) := VPure.closedB hmix 1000 (by kernel_rfl)
end Go.V
end
section
namespace Go.V
open Go Go.Proofs
def zfa (xs : List Int) : Option (List Int) := cond (neB xs) (cond (roomOk 8 xs.length) (some xs) none) none
theorem zkp (xs R : List Int) (h : zfa xs = some R) : VPure Tryz.prog G0 140 [.sl (cellsL eI xs) xs.length false] (.own (cellsL eI R) R.length 1) := by
 unfold zfa at h
 cases hn : neB xs with
 | false => rw [hn] at h; cases h
 | true =>
 cases hr : roomOk 8 xs.length with
 | false => rw [hn, hr] at h; cases h
 | true =>
 rw [hn, hr] at h
 simp only [cond_true, Option.some.injEq] at h
 subst h
 have hc : cellsL eI xs ≠ [] := by
  cases xs with
  | nil => cases hn
  | cons a l => intro hh; cases hh
 have hnil : ∀ (H : Nat → Option VObj) (x y : Operand), binV Tryz.prog H .eql 29 x y (.sl (cellsL eI xs) xs.length false) (.lit (.slice none 0 0)) = some (.lit (.bool false)) := fun H x y => zacp Tryz.underlying29 hc
 have hb : vbuildSlice Tryz.prog 29 0 [] = some ([], 1) := by kernel_rfl
 refine VPure.run mixed Tryz.call140 Tryz.func140 rfl (by simp [Tryz.ntmps140]; kernel_rfl) ?_
 simp only [vz, tyf, hnil, hb, List.map_nil, seval]
 refine zarj (w := 1) (enc := eI) (xs := ([] : List Int)) (ys := xs) (el := some 3) (fun _ => rfl) lf29 ao29 Tryz.underlying29 rfl hn (by rw [List.nil_append]; exact hr) ?_
 simp only [vz, tyf, List.nil_append, seval]
 refine ⟨rfl, .ref 5 0 xs.length 1 xs.length, by simp [Tryz.results140, resV, resL, resV1, upd], (cellsL eI xs).length + 1, 5, _, cellsL eI xs, ⟨_, rfl⟩, by simp only [zaa, zao, seval] <;> rfl, ziz _ _ (eI_ok.treeL xs) (Nat.lt_succ_self _)⟩
end Go.V
end
section
set_option linter.unusedVariables false
namespace Go.V
open Go
section
variable {P : Program} {G : Glob} {ops : Array Oper} {base : Nat} {Q : VExit → St → Prop} {n : Nat}
end
end Go.V
namespace Go.V
open Go
section
variable {P : Program} {G : Glob} {ops : Array Oper} {base : Nat} {Q : VExit → St → Prop} {n : Nat}
end
section
variable {P : Program} {G : Glob} {ops : Array Oper} {base : Nat} {Q : VExit → St → Prop} {n : Nat} {i m b : Nat} {o : Oper} {l l2 : List Oper} {mk mE mL : List Bool} {tr : Tr} {K : Tr → St → Prop} {tm : Nat → VV} {H : Nat → Option VObj} {nx : Nat} {df : List VDef} {st : St} {rest : List (List Bool × Nat)}
end
end Go.V
namespace Go.V
set_option linter.defProp false
end Go.V
end
section
set_option linter.unusedVariables false
namespace Go.V
open Go
def gone (H H' : Nat → Option VObj) : Nat → Option VObj := fun β => if (H' β).isSome then none else H β
theorem SubHeap.gone (H H' : Nat → Option VObj) : SubHeap (gone H H') H := fun x o h => by
 unfold Go.V.gone at h
 split at h
 ·cases h
 ·exact h
def Frozen (H H' : Nat → Option VObj) (x y : VV) : Prop := y = x ∨ y = .any ∨ ∃ n, sealV (gone H H') n x = some y
def FrozenL (H H' : Nat → Option VObj) : List VV → List VV → Prop
 | [], [] => True
 | x :: xs, y :: ys => Frozen H H' x y ∧ FrozenL H H' xs ys
 | _, _ => False
def FrozenO (H H' : Nat → Option VObj) (o o' : VObj) : Prop := o' = o ∨ ∃ el cs cs', o = .cells el cs ∧ o' = .cells el cs' ∧ FrozenL H H' cs cs'
def Ctx.frz (c : Ctx) (H' : Nat → Option VObj) : Ctx := { c with H := H', A := fun b => c.A b ∨ ∃ β, c.live β ∧ (H' β).isSome = false ∧ c.φ β = b }
section
variable {c : Ctx} {W : World} {H' : Nat → Option VObj}
theorem zil (hl : ∀ β, (H' β).isSome = true → c.live β) : Abides c W (c.frz H') W := ⟨fun _ h => .inl h, fun _ _ => rfl, fun _ h => h, fun β _ h => hl β h, fun _ _ _ => rfl, fun _ _ _ => rfl⟩
theorem zwy (hl : ∀ β, (H' β).isSome = true → c.live β) : Ext c W (c.frz H') W where
 A _ h := .inl h
 newA b h := h.imp id fun ⟨β, h1, _, e⟩ => .inr ⟨β, h1, e⟩
 used _ h := h
 live β _ h := hl β h
 φ _ _ _ := rfl
 room _ _ _ := rfl
 keep _ _ _ := rfl
 old x h _ := ⟨x, hl x h, rfl⟩
 size := Nat.le_refl _
 os := rfl
 tape := rfl
 output := rfl
theorem zst (s : Sim c W) (hl : ∀ β, (H' β).isSome = true → c.live β) {x y : VV} {v : Value} (h : Frozen c.H H' x y) (hr : Rep c W x v) : Rep (c.frz H') W y v := by
 rcases h with rfl | rfl | ⟨n, hn⟩
 ·exact Rep.abides (zil hl) _ hr
 ·unfold Rep; trivial
 ·have h1 := (zjf s (SubHeap.gone c.H H') n).1 x v y hn hr
  refine Rep.abides (zdf fun b hb => ?_) _ h1
  rcases hb with hb | ⟨β, hβ, e⟩
  ·exact .inl hb
  ·refine .inr ⟨β, ?_, ?_, e⟩
   ·unfold Go.V.gone at hβ
    split at hβ
    ·cases hβ
    ·exact hβ
   ·cases h0 : (H' β).isSome with
    | false => rfl
    | true => unfold Go.V.gone at hβ; rw [h0] at hβ; cases hβ
theorem zih (s : Sim c W) (hl : ∀ β, (H' β).isSome = true → c.live β) : ∀ {xs ys : List VV} {l : List Value}, FrozenL c.H H' xs ys → RepL c W xs l → RepL (c.frz H') W ys l
 | [], [], _, _, h => h
 | _ :: _, _ :: _, _, ⟨h1, h2⟩, ⟨u, us, e, r1, r2⟩ => ⟨u, us, e, zst s hl h1 r1, zih s hl h2 r2⟩
 | [], _ :: _, _, h, _ => h.elim
 | _ :: _, [], _, h, _ => h.elim
theorem FrozenL.length {H H' : Nat → Option VObj} : ∀ {xs ys : List VV}, FrozenL H H' xs ys → ys.length = xs.length
 | [], [], _ => rfl
 | _ :: _, _ :: _, h => by simp [FrozenL.length h.2]
 | [], _ :: _, h => h.elim
 | _ :: _, [], h => h.elim
theorem Sim.frz (s : Sim c W) (ho : ∀ β o', H' β = some o' → ∃ o, c.H β = some o ∧ FrozenO c.H H' o o') (hloop : ∀ x st pe tm ps asg bo df, H' x = some (.loop st pe tm ps asg bo df) → isDef H' df) : Sim (c.frz H') W := by
 have hl : ∀ β, (H' β).isSome = true → c.live β := by
  intro β h
  obtain ⟨o', h'⟩ := Option.isSome_iff_exists.1 h
  obtain ⟨o, h1, _⟩ := ho β o' h'
  simp [Ctx.live, h1]
 have ab : Abides c W (c.frz H') W := zil hl
 refine ⟨fun x h => s.used x (hl x h), fun x ox hx => ?_, fun x h => s.lt x (hl x h), fun x h => ?_, fun x y hx hy e => s.inj x y (hl x hx) (hl y hy) e, fun b hb => ?_⟩
 ·have hx0 : H' x = some ox := hx
  obtain ⟨o, h1, hf⟩ := ho x ox hx0
  rcases hf with rfl | ⟨el, cs, cs', rfl, rfl, hcs⟩
  ·refine (s.obj x _ h1).abides ab (s.used x (hl x (by simp [hx0]))) (by simp [Ctx.live, Ctx.frz, hx0]) rfl ?_
   intro st pe tm ps asg bo df e'
   subst e'
   exact hloop x st pe tm ps asg bo df hx0
  ·obtain ⟨arr, e, a1, a2, a3, a4, a5⟩ := s.obj x _ h1
   exact ⟨arr, e, a1, a2, by rw [hcs.length]; exact a3, by rw [hcs.length]; exact zih s hl hcs a4, a5⟩
 ·rintro (hA | ⟨β, h1, hn, e⟩)
  ·exact s.notA x (hl x h) hA
  ·have := s.inj β x h1 (hl x h) e
   subst this
   have h' : (H' β).isSome = true := h
   rw [h'] at hn; cases hn
 ·rcases hb with hA | ⟨β, h1, _, e⟩
  ·exact s.ltA b hA
  ·rw [← e]; exact s.lt β h1
end
theorem VWp.freeze {P : Program} {G : Glob} {n : Nat} {code : Code} {Q : VExit → St → Prop} {st : St} (H' : Nat → Option VObj) (tm' : Nat → VV) (ho : ∀ β o', H' β = some o' → ∃ o, st.H β = some o ∧ FrozenO st.H H' o o') (hloop : ∀ x s pe tm ps asg bo df, H' x = some (.loop s pe tm ps asg bo df) → isDef H' df)
  (htm : ∀ t, Frozen st.H H' (st.tm t) (tm' t)) (h : VWp P G n code Q ⟨tm', H', st.nx, st.df⟩) : VWp P G n code Q st := by
 intro ro c W a hro s hr hsz
 have ho' : ∀ β o', H' β = some o' → ∃ o, c.H β = some o ∧ FrozenO c.H H' o o' := by rw [hr.H]; exact ho
 have hl : ∀ β, (H' β).isSome = true → c.live β := by
  intro β h
  obtain ⟨o', h'⟩ := Option.isSome_iff_exists.1 h
  obtain ⟨o, h1, _⟩ := ho' β o' h'
  simp [Ctx.live, h1]
 have he : Ext c W (c.frz H') W := zwy hl
 have ab : Abides c W (c.frz H') W := zil hl
 refine wpIn_mono (h ro (c.frz H') W a (hro.ext he) (s.frz ho' hloop) ⟨rfl, fun t => ?_, hr.nx, hr.df.abides ab, hr.G.abides ab⟩ hsz) fun _ _ _ hl => hl.of_ext he (fun β hb => .inl hb) (Nat.le_refl _)
 exact zst s hl (by rw [hr.H]; exact htm t) (hr.tm t)
end Go.V
end
