/- Part of a proof. -/
import Derived.Test.YtekhjalgmlflpaaGreatDoorWbj
set_option linter.all false
set_option maxRecDepth 4000
set_option maxHeartbeats 40000000
section
namespace Go.V
open Go Go.Proofs
def zhw (x0_s : Gs) (x1_mix : List Int) : Option (Int × Int) := Option.bind (zbl x0_s) (fun r1 => cond (r1) (Option.bind (zdi x0_s x1_mix) (fun r2 => cond (r2) (Option.bind (zbn (Gm.mk x0_s x1_mix)) (fun r3 => cond (r3) (some (3, 0)) (Option.bind (zdd (Gm.mk x0_s x1_mix)) (fun r4 => cond (r4) (some (2, 0)) (some (1, 0)))))) (some (0, 2)))) (some (0, 2)))
theorem zrb (x0_s : Gs) (x1_mix : List Int) (R : Int × Int) (h : zhw x0_s x1_mix = some R) : VPure Tryz.prog G0 27 [.agg (cGs x0_s), .sl (cellsL eI x1_mix) (List.length x1_mix) false] (.tree (.tup [.lit (.int .i64 R.1), .lit (.int .i64 R.2)])) := by
 refine VPure.runR mixed Tryz.call27 Tryz.func27 rfl (by simp [Tryz.ntmps27]; kernel_rfl) ?_
 obtain ⟨KF, h, kF, kN⟩ := zan h
 simp only [zhw] at h
 obtain ⟨r5, o6, h⟩ := optI h kN
 try simp only [hs] at h
 simp only [vz, tyf, nm, seval]
 refine ktA (zcz _ _ o6) ?_
 refine zab (fun tm => tm 1 = .sl (cellsL eI x1_mix) (List.length x1_mix) false ∧ tm 2 = .ptr 0 0 ∧ tm 8 = .lit (.bool r5) ∧ True) (by refine ⟨?_, ?_, ?_, trivial⟩ <;> first | (simp only [ua, nm, seval] <;> rfl) | rfl) ?_
 rintro tm ⟨e7, e8, e9, _⟩
 cases d10 : (r5)
 ·simp only [d10, hs] at h
  try simp only [vz, tyf, e7, e8, e9, d10, nm, seval]
  refine zat (x := (.tup [.lit (.int .i64 0), .lit (.int .i64 2)])) (by first | (simp only [Tryz.results27, resV, resL, resV1, zau, zbo, uw, cr, tyf, d10, nm, seval] <;> rfl) | rfl) ?_
  obtain rfl := kF _ h
  refine zaw ?_ ?_
  ·simp only [tre, tytre, Bool.and_self]
  ·first | (simp only [outV, uw, zaf, cr, tyf, nrm, tynrm, e7, e8, e9, d10, nm, seval] <;> rfl) | rfl
 simp only [d10, hs] at h
 obtain ⟨r11, o12, h⟩ := optI h kN
 try simp only [hs] at h
 simp only [vz, tyf, e7, e8, e9, d10, nm, seval]
 refine ktA (zgn _ _ _ o12) ?_
 refine zab (fun tm => tm 1 = .sl (cellsL eI x1_mix) (List.length x1_mix) false ∧ tm 2 = .ptr 0 0 ∧ tm 10 = .lit (.bool false) ∧ tm 13 = .lit (.bool r11) ∧ True) (by refine ⟨e7, e8, ?_, ?_, trivial⟩ <;> first | (simp only [ua, e7, e8, e9, d10, nm, seval] <;> rfl) | rfl) ?_
 rintro tm ⟨e13, e14, e15, e16, _⟩
 cases d17 : (r11)
 ·simp only [d17, hs] at h
  try simp only [vz, tyf, d10, e13, e14, e15, e16, d17, nm, seval]
  refine zat (x := (.tup [.lit (.int .i64 0), .lit (.int .i64 2)])) (by first | (simp only [Tryz.results27, resV, resL, resV1, zau, zbo, uw, cr, tyf, d10, d17, nm, seval] <;> rfl) | rfl) ?_
  obtain rfl := kF _ h
  refine zaw ?_ ?_
  ·simp only [tre, tytre, Bool.and_self]
  ·first | (simp only [outV, uw, zaf, cr, tyf, nrm, tynrm, d10, e13, e14, e15, e16, d17, nm, seval] <;> rfl) | rfl
 simp only [d17, hs] at h
 obtain ⟨r18, o19, h⟩ := optI h kN
 try simp only [hs] at h
 simp only [vz, tyf, d10, e13, e14, e15, e16, d17, nm, seval]
 refine ktA (zer _ _ o19) ?_
 refine zab (fun tm => tm 6 = .ptr 15 0 ∧ tm 21 = .lit (.bool r18) ∧ True) (by refine ⟨?_, ?_, trivial⟩ <;> first | (simp only [ua, d10, e13, e14, e15, e16, d17, nm, seval] <;> rfl) | rfl) ?_
 rintro tm ⟨e20, e21, _⟩
 cases d22 : (r18)
 ·simp only [d22, hs] at h
  obtain ⟨r23, o24, h⟩ := optI h kN
  try simp only [hs] at h
  simp only [vz, tyf, d10, d17, e20, e21, d22, nm, seval]
  refine ktA (zjb _ _ o24) ?_
  refine zab (fun tm => tm 24 = .lit (.bool r23) ∧ True) (by refine ⟨?_, trivial⟩ <;> first | (simp only [ua, d10, d17, e20, e21, d22, nm, seval] <;> rfl) | rfl) ?_
  rintro tm ⟨e25, _⟩
  cases d26 : (r23)
  ·simp only [d26, hs] at h
   try simp only [vz, tyf, d10, d17, d22, e25, d26, nm, seval]
   refine zat (x := (.tup [.lit (.int .i64 1), .lit (.int .i64 0)])) (by first | (simp only [Tryz.results27, resV, resL, resV1, zau, zbo, uw, cr, tyf, d10, d17, d22, d26, nm, seval] <;> rfl) | rfl) ?_
   obtain rfl := kF _ h
   refine zaw ?_ ?_
   ·simp only [tre, tytre, Bool.and_self]
   ·first | (simp only [outV, uw, zaf, cr, tyf, nrm, tynrm, d10, d17, d22, e25, d26, nm, seval] <;> rfl) | rfl
  simp only [d26, hs] at h
  try simp only [vz, tyf, d10, d17, d22, e25, d26, nm, seval]
  refine zat (x := (.tup [.lit (.int .i64 2), .lit (.int .i64 0)])) (by first | (simp only [Tryz.results27, resV, resL, resV1, zau, zbo, uw, cr, tyf, d10, d17, d22, d26, nm, seval] <;> rfl) | rfl) ?_
  obtain rfl := kF _ h
  refine zaw ?_ ?_
  ·simp only [tre, tytre, Bool.and_self]
  ·first | (simp only [outV, uw, zaf, cr, tyf, nrm, tynrm, d10, d17, d22, e25, d26, nm, seval] <;> rfl) | rfl
 simp only [d22, hs] at h
 try simp only [vz, tyf, d10, d17, e20, e21, d22, nm, seval]
 refine zat (x := (.tup [.lit (.int .i64 3), .lit (.int .i64 0)])) (by first | (simp only [Tryz.results27, resV, resL, resV1, zau, zbo, uw, cr, tyf, d10, d17, d22, nm, seval] <;> rfl) | rfl) ?_
 obtain rfl := kF _ h
 refine zaw ?_ ?_
 ·simp only [tre, tytre, Bool.and_self]
 ·first | (simp only [outV, uw, zaf, cr, tyf, nrm, tynrm, d10, d17, e20, e21, d22, nm, seval] <;> rfl) | rfl
end Go.V
end
section
namespace Go.V
open Go Go.Proofs
def zhi (x0_s : Gs) (x1_mix : List Int) : Option (GSpan × Int) := Option.bind (zbl x0_s) (fun r1 => cond (r1) (Option.bind (zdi x0_s x1_mix) (fun r2 => cond (r2) (Option.bind (zdj (Gm.mk x0_s x1_mix)) (fun r3 => cond ((List.length r3 : Int) == 0) (some ((GSpan.mk 0 0), 5)) (Option.bind (getI r3 0) (fun x4 => Option.bind (getI r3 (IntKind.i64.wrap ((List.length r3 : Int) - 1))) (fun x5 => some ((GSpan.mk x4 x5), 0)))))) (some ((GSpan.mk 0 0), 2)))) (some ((GSpan.mk 0 0), 2)))
theorem zpq (x0_s : Gs) (x1_mix : List Int) (R : GSpan × Int) (h : zhi x0_s x1_mix = some R) : VPure Tryz.prog G0 28 [.agg (cGs x0_s), .sl (cellsL eI x1_mix) (List.length x1_mix) false] (.tree (.tup [.agg (cGSpan R.1), .lit (.int .i64 R.2)])) := by
 refine VPure.runR mixed Tryz.call28 Tryz.func28 rfl (by simp [Tryz.ntmps28]; kernel_rfl) ?_
 obtain ⟨KF, h, kF, kN⟩ := zan h
 simp only [zhi] at h
 obtain ⟨r6, o7, h⟩ := optI h kN
 try simp only [hs] at h
 simp only [vz, tyf, nm, seval]
 refine ktA (zcz _ _ o7) ?_
 refine zab (fun tm => tm 1 = .sl (cellsL eI x1_mix) (List.length x1_mix) false ∧ tm 2 = .ptr 0 0 ∧ tm 4 = .ptr 1 0 ∧ tm 8 = .lit (.bool r6) ∧ True) (by refine ⟨?_, ?_, ?_, ?_, trivial⟩ <;> first | (simp only [ua, nm, seval] <;> rfl) | rfl) ?_
 rintro tm ⟨e8, e9, e10, e11, _⟩
 cases d12 : (r6)
 ·simp only [d12, hs] at h
  try simp only [vz, tyf, e8, e9, e10, e11, d12, nm, seval]
  refine zat (x := (.tup [.agg ([.lit (.int .i64 0)] ++ [.lit (.int .i64 0)]), .lit (.int .i64 2)])) (by first | (simp only [Tryz.results28, resV, resL, resV1, zau, zbo, uw, cr, tyf, e8, e9, e10, e11, d12, nm, seval] <;> rfl) | rfl) ?_
  obtain rfl := kF _ h
  refine zaw ?_ ?_
  ·simp only [tre, tytre, Bool.and_self]
  ·first | (simp only [outV, uw, zaf, cr, tyf, nrm, tynrm, e8, e9, e10, e11, d12, nm, seval] <;> rfl) | rfl
 simp only [d12, hs] at h
 obtain ⟨r13, o14, h⟩ := optI h kN
 try simp only [hs] at h
 simp only [vz, tyf, e8, e9, e10, e11, d12, nm, seval]
 refine ktA (zgn _ _ _ o14) ?_
 refine zab (fun tm => tm 1 = .sl (cellsL eI x1_mix) (List.length x1_mix) false ∧ tm 2 = .ptr 0 0 ∧ tm 4 = .ptr 1 0 ∧ tm 10 = .lit (.bool false) ∧ tm 13 = .lit (.bool r13) ∧ True) (by refine ⟨e8, e9, e10, ?_, ?_, trivial⟩ <;> first | (simp only [ua, e8, e9, e10, e11, d12, nm, seval] <;> rfl) | rfl) ?_
 rintro tm ⟨e15, e16, e17, e18, e19, _⟩
 cases d20 : (r13)
 ·simp only [d20, hs] at h
  try simp only [vz, tyf, d12, e15, e16, e17, e18, e19, d20, nm, seval]
  refine zat (x := (.tup [.agg ([.lit (.int .i64 0)] ++ [.lit (.int .i64 0)]), .lit (.int .i64 2)])) (by first | (simp only [Tryz.results28, resV, resL, resV1, zau, zbo, uw, cr, tyf, d12, e15, e16, e17, e18, e19, d20, nm, seval] <;> rfl) | rfl) ?_
  obtain rfl := kF _ h
  refine zaw ?_ ?_
  ·simp only [tre, tytre, Bool.and_self]
  ·first | (simp only [outV, uw, zaf, cr, tyf, nrm, tynrm, d12, e15, e16, e17, e18, e19, d20, nm, seval] <;> rfl) | rfl
 simp only [d20, hs] at h
 obtain ⟨r21, o22, h⟩ := optI h kN
 try simp only [hs] at h
 simp only [vz, tyf, d12, e15, e16, e17, e18, e19, d20, nm, seval]
 refine ktA (zgo _ _ o22) ?_
 refine zab (fun tm => tm 4 = .ptr 1 0 ∧ tm 20 = .sl (cellsL eI r21) (List.length r21) false ∧ True) (by refine ⟨e17, ?_, trivial⟩ <;> first | (simp only [ua, d12, e15, e16, e17, e18, e19, d20, nm, seval] <;> rfl) | rfl) ?_
 rintro tm ⟨e23, e24, _⟩
 cases d25 : ((List.length r21 : Int) == 0)
 ·simp only [d25, hs] at h
  simp only [vz, tyf, d12, d20, e23, e24, d25, nm, seval]
  refine zcv (fun tm => tm 4 = .ptr 1 0 ∧ tm 6 = .sl (cellsL eI r21) (List.length r21) false ∧ True) (by refine ⟨e23, ?_, trivial⟩ <;> first | (simp only [ua, d12, d20, e23, e24, d25, nm, seval] <;> rfl) | rfl) ?_
  rintro tm ⟨e26, e27, _⟩
  obtain ⟨x28, o29, h⟩ := optI h kN
  try simp only [hs] at h
  obtain ⟨x30, o31, h⟩ := optI h kN
  try simp only [hs] at h
  simp only [vz, tyf, d12, d20, d25, e26, e27, (ix29 o29), (ix29 o31), nm, seval]
  refine zcg ⟨?_, ?_⟩
  ·simp only [zbc, zbm, zai, zda, and_true, true_and]
   repeat' (first | exact trivial | refine And.intro ?_ ?_ | rw [zai] | rw [zce] | exact Or.inl (by decide +kernel) | exact Or.inl (by dsimp only; decide +kernel) | (refine Or.inr ⟨?_, ?_⟩ <;> simp; done) | (refine Or.inr ⟨?_, ?_⟩ <;> simp <;> omega) | (refine Or.inr ⟨?_, ?_⟩ <;> simp [VEff.wr] <;> omega))
  try simp only [vz, tyf, d12, d20, d25, e26, e27, (ix29 o29), (ix29 o31), nm, seval]
  refine zat (x := (.tup [.agg ([.lit (.int .i64 x28)] ++ [.lit (.int .i64 x30)]), .lit (.int .i64 0)])) (by first | (simp only [Tryz.results28, resV, resL, resV1, zau, zbo, uw, cr, tyf, d12, d20, d25, e26, e27, (ix29 o29), (ix29 o31), nm, seval] <;> rfl) | rfl) ?_
  obtain rfl := kF _ h
  refine zaw ?_ ?_
  ·simp only [tre, tytre, Bool.and_self]
  ·first | (simp only [outV, uw, zaf, cr, tyf, nrm, tynrm, d12, d20, d25, e26, e27, (ix29 o29), (ix29 o31), nm, seval] <;> rfl) | rfl
 simp only [d25, hs] at h
 try simp only [vz, tyf, d12, d20, e23, e24, d25, nm, seval]
 refine zat (x := (.tup [.agg ([.lit (.int .i64 0)] ++ [.lit (.int .i64 0)]), .lit (.int .i64 5)])) (by first | (simp only [Tryz.results28, resV, resL, resV1, zau, zbo, uw, cr, tyf, d12, d20, e23, e24, d25, nm, seval] <;> rfl) | rfl) ?_
 obtain rfl := kF _ h
 refine zaw ?_ ?_
 ·simp only [tre, tytre, Bool.and_self]
 ·first | (simp only [outV, uw, zaf, cr, tyf, nrm, tynrm, d12, d20, e23, e24, d25, nm, seval] <;> rfl) | rfl
end Go.V
end
section
namespace Go.V
open Go Go.Proofs
def zcf (x0_s : Gs) (x2_p : Int) (x3_years : Int) (r1 : Ga) (r10 : Int) : Nat → Int → Option (LOut (Bool) (Int))
 | 0, _ => none
 | k2 + 1, c2_11 => cond (decide (c2_11 ≤ x0_s.Fade.a2.High)) (Option.bind (zci x0_s x2_p x3_years c2_11) (fun r11 => cond (decide (r1.a2.Low ≤ (IntKind.i64.wrap ((IntKind.i64.wrap (r10 * r11)) + (IntKind.i64.wrap (r10 * x0_s.Off)))))) (cond (decide (r1.a2.High ≥ (IntKind.i64.wrap ((IntKind.i64.wrap (r10 * r11)) - (IntKind.i64.wrap (r10 * x0_s.Off)))))) (some (.ret true)) (zcf x0_s x2_p x3_years r1 r10 k2 (IntKind.i64.wrap (c2_11 + 1)))) (zcf x0_s x2_p x3_years r1 r10 k2 (IntKind.i64.wrap (c2_11 + 1))))) (some (.go c2_11))
def zcc (x0_s : Gs) (x2_p : Int) (x3_years : Int) (r1 : Ga) (r6 : Int) : Nat → Int → Option (LOut (Bool) (Int))
 | 0, _ => none
 | k1 + 1, c1_11 => cond (decide (c1_11 ≤ x0_s.Fade.a1.High)) (Option.bind (zci x0_s x2_p x3_years c1_11) (fun r7 => cond (decide (r1.a1.Low ≤ (IntKind.i64.wrap ((IntKind.i64.wrap (r6 * r7)) + (IntKind.i64.wrap (r6 * x0_s.Off)))))) (cond (decide (r1.a1.High ≥ (IntKind.i64.wrap ((IntKind.i64.wrap (r6 * r7)) - (IntKind.i64.wrap (r6 * x0_s.Off)))))) (some (.ret true)) (zcc x0_s x2_p x3_years r1 r6 k1 (IntKind.i64.wrap (c1_11 + 1)))) (zcc x0_s x2_p x3_years r1 r6 k1 (IntKind.i64.wrap (c1_11 + 1))))) (some (.go c1_11))
def zcd (x0_s : Gs) (x2_p : Int) (x3_years : Int) (r1 : Ga) (r2 : Int) : Nat → Int → Option (LOut (Bool) (Int))
 | 0, _ => none
 | k0 + 1, c0_11 => cond (decide (c0_11 ≤ x0_s.Fade.a0.High)) (Option.bind (zci x0_s x2_p x3_years c0_11) (fun r3 => cond (decide (r1.a0.Low ≤ (IntKind.i64.wrap ((IntKind.i64.wrap (r2 * r3)) + (IntKind.i64.wrap (r2 * x0_s.Off)))))) (cond (decide (r1.a0.High ≥ (IntKind.i64.wrap ((IntKind.i64.wrap (r2 * r3)) - (IntKind.i64.wrap (r2 * x0_s.Off)))))) (some (.ret true)) (zcd x0_s x2_p x3_years r1 r2 k0 (IntKind.i64.wrap (c0_11 + 1)))) (zcd x0_s x2_p x3_years r1 r2 k0 (IntKind.i64.wrap (c0_11 + 1))))) (some (.go c0_11))
def zga (x0_s : Gs) (x1_mix : List Int) (x2_p : Int) (x3_years : Int) : Option (Bool) := Option.bind (zfz x0_s x1_mix) (fun r1 => cond (x2_p == 0) (Option.bind (zdw x1_mix) (fun r2 => lbind (zcd x0_s x2_p x3_years r1 r2 1000000 x0_s.Fade.a0.Low) (fun r5 => some r5) (fun c4 => some false) (fun _ _ => none))) (cond (x2_p == 1) (Option.bind (zdw x1_mix) (fun r6 => lbind (zcc x0_s x2_p x3_years r1 r6 1000000 x0_s.Fade.a1.Low) (fun r9 => some r9) (fun c8 => some false) (fun _ _ => none))) (cond (x2_p == 2) (Option.bind (zdw x1_mix) (fun r10 => lbind (zcf x0_s x2_p x3_years r1 r10 1000000 x0_s.Fade.a2.Low) (fun r13 => some r13) (fun c12 => some false) (fun _ _ => none))) (none))))
theorem ziv (x0_s : Gs) (x1_mix : List Int) (x2_p : Int) (x3_years : Int) (R : Bool) (h : zga x0_s x1_mix x2_p x3_years = some R) : VPure Tryz.prog G0 71 [.agg (cGs x0_s), .sl (cellsL eI x1_mix) (List.length x1_mix) false, .lit (.int .i64 x2_p), .lit (.int .i64 x3_years)] (.tree (.lit (.bool R))) := by
 refine VPure.runR mixed Tryz.call71 Tryz.func71 rfl (by simp [Tryz.ntmps71]; kernel_rfl) ?_
 obtain ⟨KF, h, kF, kN⟩ := zan h
 simp only [zga] at h
 simp only [vz, tyf, nm, seval]
 refine zcv (fun tm => tm 1 = .sl (cellsL eI x1_mix) (List.length x1_mix) false ∧ tm 2 = .lit (.int .i64 x2_p) ∧ tm 3 = .lit (.int .i64 x3_years) ∧ tm 4 = .ptr 0 0 ∧ True) (by refine ⟨?_, ?_, ?_, ?_, trivial⟩ <;> first | (simp only [ua, nm, seval] <;> rfl) | rfl) ?_
 rintro tm ⟨e14, e15, e16, e17, _⟩
 obtain ⟨r18, o19, h⟩ := optI h kN
 try simp only [hs] at h
 simp only [vz, tyf, e14, e15, e16, e17, nm, seval]
 refine dktA (zkm _ _ _ o19) ?_
 refine zab (fun tm => tm 1 = .sl (cellsL eI x1_mix) (List.length x1_mix) false ∧ tm 2 = .lit (.int .i64 x2_p) ∧ tm 3 = .lit (.int .i64 x3_years) ∧ tm 4 = .ptr 0 0 ∧ tm 15 = .agg (cGa r18) ∧ True) (by refine ⟨e14, e15, e16, e17, ?_, trivial⟩ <;> first | (simp only [ua, e14, e15, e16, e17, nm, seval] <;> rfl) | rfl) ?_
 rintro tm ⟨e20, e21, e22, e23, e24, _⟩
 cases d25 : (x2_p == 0)
 ·simp only [d25, hs] at h
  cases d26 : (x2_p == 1)
  ·simp only [d26, hs] at h
   cases d27 : (x2_p == 2)
   ·simp only [d27, hs] at h
    exact absurd h kN
   simp only [d27, hs] at h
   obtain ⟨r28, o29, h⟩ := optI h kN
   try simp only [hs] at h
   simp only [vz, tyf, e20, e21, e22, e23, e24, d25, d26, d27, (zld d27), nm, seval]
   refine dktA (zew _ _ o29) ?_
   refine zab (fun tm => tm 2 = .lit (.int .i64 x2_p) ∧ tm 3 = .lit (.int .i64 x3_years) ∧ tm 4 = .ptr 0 0 ∧ tm 17 = .agg (cGSpan r18.a2) ∧ tm 19 = .lit (.int .i64 r28) ∧ True) (by refine ⟨e21, e22, e23, ?_, ?_, trivial⟩ <;> first | (simp only [ua, e20, e21, e22, e23, e24, d25, d26, d27, nm, seval] <;> rfl) | rfl) ?_
   rintro tm ⟨e30, e31, e32, e33, e34, _⟩
   simp only [vz, tyf, d25, d26, d27, (zld d27), e30, e31, e32, e33, e34, nm, seval]
   refine zcg ⟨?_, ?_⟩
   ·simp only [zbc, zbm, zai, zda, and_true, true_and]
    repeat' (first | exact trivial | refine And.intro ?_ ?_ | rw [zai] | rw [zce] | exact Or.inl (by decide +kernel) | exact Or.inl (by dsimp only; decide +kernel) | (refine Or.inr ⟨?_, ?_⟩ <;> simp; done) | (refine Or.inr ⟨?_, ?_⟩ <;> simp <;> omega) | (refine Or.inr ⟨?_, ?_⟩ <;> simp [VEff.wr] <;> omega))
   simp only [vz, tyf, d25, d26, d27, (zld d27), e30, e31, e32, e33, e34, (zgk d27), nm, seval]
   obtain ⟨K35, h, kR35, kG35, kB35, kN35⟩ := zax h kN
   obtain ⟨f35, hf35, h⟩ := call2 h
   obtain ⟨I35, hI35⟩ : ∃ I : Nat → St → Prop, I = (fun m st => ∃ (p35 : Nat) (c35_11 : Int), p35 = m ∧ st.df = [] ∧ 18 ≤ st.nx ∧ st.H 0 = some (.cells (some 28) (cGs x0_s)) ∧ st.H 9 = some (.cells (some 24) (cGSpan r18.a2)) ∧ st.tm 2 = .lit (.int .i64 x2_p) ∧ st.tm 3 = .lit (.int .i64 x3_years) ∧ st.tm 4 = .ptr 0 0 ∧ st.tm 9 = .ptr 9 0 ∧ st.tm 10 = .lit (.int .i64 r28) ∧ st.tm 11 = .lit (.int .i64 c35_11) ∧ K35 (f35 p35 c35_11)) := ⟨_, rfl⟩
   refine loopK mixed (by kernel_rfl) I35 1000000 (by rw [hI35]; refine ⟨1000000, x0_s.Fade.a2.Low, rfl, rfl, (show 18 ≤ 18 by omega), ?_, ?_, e30, e31, e32, ?_, ?_, ?_, h⟩ <;> first | (simp only [ua, d25, d26, d27, e30, e31, e32, e33, e34, nm, seval] <;> rfl) | rfl) ?_
   rintro m ⟨tm, H, nx35, df⟩ hinv
   rw [hI35] at hinv
   obtain ⟨p35, c35_11, rfl, hdf, hn35, H36, H37, e38, e39, e40, e41, e42, e43, h⟩ := hinv
   simp only at hdf hn35 H36 H37 e38 e39 e40 e41 e42 e43
   have n44 := zcl (m := 18) (b := nx35) (by omega)
   subst hdf hf35
   cases p35 with
   | zero =>
    simp only [zcd, zcc, zcf, hs, reduceCtorEq] at h
    exact absurd h kN35
   | succ p35 =>
    simp only [zcd, zcc, zcf, hs, reduceCtorEq] at h
    cases d45 : (decide (c35_11 ≤ x0_s.Fade.a2.High))
    ·simp only [d45, hs] at h
     have b46 := And.intro d25 (And.intro d26 (And.intro d27 (And.intro n44 (And.intro H36 (And.intro H37 d45)))))
     replace h := kG35 _ h
     try dsimp only at h
     try simp only [hs] at h
     try simp only [vz, tyf, b46, (zld d27), (zgk d27), e38, e39, e40, e41, e42, e43, nm, seval]
     obtain rfl := kF _ h
     exact zac Tryz.results71 rfl
    simp only [d45, hs] at h
    have b47 := And.intro d25 (And.intro d26 (And.intro d27 (And.intro n44 (And.intro H36 (And.intro H37 d45)))))
    obtain ⟨r48, o49, h⟩ := optI h kN35
    try simp only [hs] at h
    simp only [vz, tyf, b47, (zld d27), (zgk d27), e38, e39, e40, e41, e42, e43, nm, seval]
    refine ktA (zcm _ _ _ _ _ o49) ?_
    refine zab (fun tm => tm 2 = .lit (.int .i64 x2_p) ∧ tm 3 = .lit (.int .i64 x3_years) ∧ tm 4 = .ptr 0 0 ∧ tm 9 = .ptr 9 0 ∧ tm 10 = .lit (.int .i64 r28) ∧ tm 11 = .lit (.int .i64 c35_11) ∧ tm 34 = .lit (.int .i64 r28) ∧ tm 39 = .lit (.int .i64 r48) ∧ True) (by refine ⟨e38, e39, e40, e41, e42, e43, ?_, ?_, trivial⟩ <;> first | (simp only [ua, b47, e38, e39, e40, e41, e42, e43, nm, seval] <;> rfl) | rfl) ?_
    rintro tm ⟨e50, e51, e52, e53, e54, e55, e56, e57, _⟩
    cases d58 : (decide (r18.a2.Low ≤ (IntKind.i64.wrap ((IntKind.i64.wrap (r28 * r48)) + (IntKind.i64.wrap (r28 * x0_s.Off))))))
    ·simp only [d58, hs] at h
     simp only [vz, tyf, b47, (zld d27), (zgk d27), e50, e51, e52, e53, e54, e55, e56, e57, d58, nm, seval]
     exact ⟨p35, Nat.lt_succ_self _, by rw [hI35]; refine ⟨p35, IntKind.i64.wrap (c35_11 + 1), rfl, rfl, (show 18 ≤ nx35 + 38 by omega), ?_, ?_, e50, e51, e52, e53, e54, ?_, h⟩ <;> first | (simp only [ua, b47, e50, e51, e52, e53, e54, e55, e56, e57, d58, nm, seval] <;> rfl) | rfl⟩
    simp only [d58, hs] at h
    cases d59 : (decide (r18.a2.High ≥ (IntKind.i64.wrap ((IntKind.i64.wrap (r28 * r48)) - (IntKind.i64.wrap (r28 * x0_s.Off))))))
    ·simp only [d59, hs] at h
     simp only [vz, tyf, b47, (zld d27), (zgk d27), e50, e51, e52, e53, e54, e55, e56, e57, d58, d59, nm, seval]
     exact ⟨p35, Nat.lt_succ_self _, by rw [hI35]; refine ⟨p35, IntKind.i64.wrap (c35_11 + 1), rfl, rfl, (show 18 ≤ nx35 + 38 by omega), ?_, ?_, e50, e51, e52, e53, e54, ?_, h⟩ <;> first | (simp only [ua, b47, e50, e51, e52, e53, e54, e55, e56, e57, d58, d59, nm, seval] <;> rfl) | rfl⟩
    simp only [d59, hs] at h
    try simp only [vz, tyf, b47, (zld d27), (zgk d27), e50, e51, e52, e53, e54, e55, e56, e57, d58, d59, nm, seval]
    replace h := kR35 _ h
    try dsimp only at h
    obtain rfl := kF _ h
    exact zac Tryz.results71 rfl
  simp only [d26, hs] at h
  obtain ⟨r60, o61, h⟩ := optI h kN
  try simp only [hs] at h
  simp only [vz, tyf, e20, e21, e22, e23, e24, d25, d26, (zln d26), nm, seval]
  refine dktA (zew _ _ o61) ?_
  refine zab (fun tm => tm 2 = .lit (.int .i64 x2_p) ∧ tm 3 = .lit (.int .i64 x3_years) ∧ tm 4 = .ptr 0 0 ∧ tm 17 = .agg (cGSpan r18.a1) ∧ tm 19 = .lit (.int .i64 r60) ∧ True) (by refine ⟨e21, e22, e23, ?_, ?_, trivial⟩ <;> first | (simp only [ua, e20, e21, e22, e23, e24, d25, d26, nm, seval] <;> rfl) | rfl) ?_
  rintro tm ⟨e62, e63, e64, e65, e66, _⟩
  simp only [vz, tyf, d25, d26, (zln d26), e62, e63, e64, e65, e66, nm, seval]
  refine zcg ⟨?_, ?_⟩
  ·simp only [zbc, zbm, zai, zda, and_true, true_and]
   repeat' (first | exact trivial | refine And.intro ?_ ?_ | rw [zai] | rw [zce] | exact Or.inl (by decide +kernel) | exact Or.inl (by dsimp only; decide +kernel) | (refine Or.inr ⟨?_, ?_⟩ <;> simp; done) | (refine Or.inr ⟨?_, ?_⟩ <;> simp <;> omega) | (refine Or.inr ⟨?_, ?_⟩ <;> simp [VEff.wr] <;> omega))
  simp only [vz, tyf, d25, d26, (zln d26), e62, e63, e64, e65, e66, (zgl d26), nm, seval]
  obtain ⟨K67, h, kR67, kG67, kB67, kN67⟩ := zax h kN
  obtain ⟨f67, hf67, h⟩ := call2 h
  obtain ⟨I67, hI67⟩ : ∃ I : Nat → St → Prop, I = (fun m st => ∃ (p67 : Nat) (c67_11 : Int), p67 = m ∧ st.df = [] ∧ 18 ≤ st.nx ∧ st.H 0 = some (.cells (some 28) (cGs x0_s)) ∧ st.H 9 = some (.cells (some 24) (cGSpan r18.a1)) ∧ st.tm 2 = .lit (.int .i64 x2_p) ∧ st.tm 3 = .lit (.int .i64 x3_years) ∧ st.tm 4 = .ptr 0 0 ∧ st.tm 9 = .ptr 9 0 ∧ st.tm 10 = .lit (.int .i64 r60) ∧ st.tm 11 = .lit (.int .i64 c67_11) ∧ K67 (f67 p67 c67_11)) := ⟨_, rfl⟩
  refine loopK mixed (by kernel_rfl) I67 1000000 (by rw [hI67]; refine ⟨1000000, x0_s.Fade.a1.Low, rfl, rfl, (show 18 ≤ 18 by omega), ?_, ?_, e62, e63, e64, ?_, ?_, ?_, h⟩ <;> first | (simp only [ua, d25, d26, e62, e63, e64, e65, e66, nm, seval] <;> rfl) | rfl) ?_
  rintro m ⟨tm, H, nx67, df⟩ hinv
  rw [hI67] at hinv
  obtain ⟨p67, c67_11, rfl, hdf, hn67, H68, H69, e70, e71, e72, e73, e74, e75, h⟩ := hinv
  simp only at hdf hn67 H68 H69 e70 e71 e72 e73 e74 e75
  have n76 := zcl (m := 18) (b := nx67) (by omega)
  subst hdf hf67
  cases p67 with
  | zero =>
   simp only [zcd, zcc, zcf, hs, reduceCtorEq] at h
   exact absurd h kN67
  | succ p67 =>
   simp only [zcd, zcc, zcf, hs, reduceCtorEq] at h
   cases d77 : (decide (c67_11 ≤ x0_s.Fade.a1.High))
   ·simp only [d77, hs] at h
    replace h := kG67 _ h
    try dsimp only at h
    try simp only [hs] at h
    try simp only [vz, tyf, d25, d26, (zln d26), (zgl d26), n76, e70, e71, e72, e73, e74, e75, H68, H69, d77, nm, seval]
    obtain rfl := kF _ h
    exact zac Tryz.results71 rfl
   simp only [d77, hs] at h
   obtain ⟨r78, o79, h⟩ := optI h kN67
   try simp only [hs] at h
   simp only [vz, tyf, d25, d26, (zln d26), (zgl d26), n76, e70, e71, e72, e73, e74, e75, H68, H69, d77, nm, seval]
   refine ktA (zcm _ _ _ _ _ o79) ?_
   refine zab (fun tm => tm 2 = .lit (.int .i64 x2_p) ∧ tm 3 = .lit (.int .i64 x3_years) ∧ tm 4 = .ptr 0 0 ∧ tm 9 = .ptr 9 0 ∧ tm 10 = .lit (.int .i64 r60) ∧ tm 11 = .lit (.int .i64 c67_11) ∧ tm 34 = .lit (.int .i64 r60) ∧ tm 39 = .lit (.int .i64 r78) ∧ True) (by refine ⟨e70, e71, e72, e73, e74, e75, ?_, ?_, trivial⟩ <;> first | (simp only [ua, d25, d26, n76, e70, e71, e72, e73, e74, e75, H68, H69, d77, nm, seval] <;> rfl) | rfl) ?_
   rintro tm ⟨e80, e81, e82, e83, e84, e85, e86, e87, _⟩
   cases d88 : (decide (r18.a1.Low ≤ (IntKind.i64.wrap ((IntKind.i64.wrap (r60 * r78)) + (IntKind.i64.wrap (r60 * x0_s.Off))))))
   ·simp only [d88, hs] at h
    have b89 := And.intro d25 (And.intro d26 (And.intro n76 (And.intro H68 (And.intro H69 (And.intro d77 d88)))))
    simp only [vz, tyf, b89, (zln d26), (zgl d26), e80, e81, e82, e83, e84, e85, e86, e87, nm, seval]
    exact ⟨p67, Nat.lt_succ_self _, by rw [hI67]; refine ⟨p67, IntKind.i64.wrap (c67_11 + 1), rfl, rfl, (show 18 ≤ nx67 + 38 by omega), ?_, ?_, e80, e81, e82, e83, e84, ?_, h⟩ <;> first | (simp only [ua, b89, e80, e81, e82, e83, e84, e85, e86, e87, nm, seval] <;> rfl) | rfl⟩
   simp only [d88, hs] at h
   have b90 := And.intro d25 (And.intro d26 (And.intro n76 (And.intro H68 (And.intro H69 (And.intro d77 d88)))))
   cases d91 : (decide (r18.a1.High ≥ (IntKind.i64.wrap ((IntKind.i64.wrap (r60 * r78)) - (IntKind.i64.wrap (r60 * x0_s.Off))))))
   ·simp only [d91, hs] at h
    simp only [vz, tyf, b90, (zln d26), (zgl d26), e80, e81, e82, e83, e84, e85, e86, e87, d91, nm, seval]
    exact ⟨p67, Nat.lt_succ_self _, by rw [hI67]; refine ⟨p67, IntKind.i64.wrap (c67_11 + 1), rfl, rfl, (show 18 ≤ nx67 + 38 by omega), ?_, ?_, e80, e81, e82, e83, e84, ?_, h⟩ <;> first | (simp only [ua, b90, e80, e81, e82, e83, e84, e85, e86, e87, d91, nm, seval] <;> rfl) | rfl⟩
   simp only [d91, hs] at h
   try simp only [vz, tyf, b90, (zln d26), (zgl d26), e80, e81, e82, e83, e84, e85, e86, e87, d91, nm, seval]
   replace h := kR67 _ h
   try dsimp only at h
   obtain rfl := kF _ h
   exact zac Tryz.results71 rfl
 simp only [d25, hs] at h
 obtain ⟨r92, o93, h⟩ := optI h kN
 try simp only [hs] at h
 simp only [vz, tyf, e20, e21, e22, e23, e24, d25, (zls d25), nm, seval]
 refine dktA (zew _ _ o93) ?_
 refine zab (fun tm => tm 2 = .lit (.int .i64 x2_p) ∧ tm 3 = .lit (.int .i64 x3_years) ∧ tm 4 = .ptr 0 0 ∧ tm 17 = .agg (cGSpan r18.a0) ∧ tm 19 = .lit (.int .i64 r92) ∧ True) (by refine ⟨e21, e22, e23, ?_, ?_, trivial⟩ <;> first | (simp only [ua, e20, e21, e22, e23, e24, d25, nm, seval] <;> rfl) | rfl) ?_
 rintro tm ⟨e94, e95, e96, e97, e98, _⟩
 simp only [vz, tyf, d25, (zls d25), e94, e95, e96, e97, e98, nm, seval]
 refine zcg ⟨?_, ?_⟩
 ·simp only [zbc, zbm, zai, zda, and_true, true_and]
  repeat' (first | exact trivial | refine And.intro ?_ ?_ | rw [zai] | rw [zce] | exact Or.inl (by decide +kernel) | exact Or.inl (by dsimp only; decide +kernel) | (refine Or.inr ⟨?_, ?_⟩ <;> simp; done) | (refine Or.inr ⟨?_, ?_⟩ <;> simp <;> omega) | (refine Or.inr ⟨?_, ?_⟩ <;> simp [VEff.wr] <;> omega))
 simp only [vz, tyf, d25, (zls d25), e94, e95, e96, e97, e98, (zgm d25), nm, seval]
 obtain ⟨K99, h, kR99, kG99, kB99, kN99⟩ := zax h kN
 obtain ⟨f99, hf99, h⟩ := call2 h
 obtain ⟨I99, hI99⟩ : ∃ I : Nat → St → Prop, I = (fun m st => ∃ (p99 : Nat) (c99_11 : Int), p99 = m ∧ st.df = [] ∧ 18 ≤ st.nx ∧ st.H 0 = some (.cells (some 28) (cGs x0_s)) ∧ st.H 9 = some (.cells (some 24) (cGSpan r18.a0)) ∧ st.tm 2 = .lit (.int .i64 x2_p) ∧ st.tm 3 = .lit (.int .i64 x3_years) ∧ st.tm 4 = .ptr 0 0 ∧ st.tm 9 = .ptr 9 0 ∧ st.tm 10 = .lit (.int .i64 r92) ∧ st.tm 11 = .lit (.int .i64 c99_11) ∧ K99 (f99 p99 c99_11)) := ⟨_, rfl⟩
 refine loopK mixed (by kernel_rfl) I99 1000000 (by rw [hI99]; refine ⟨1000000, x0_s.Fade.a0.Low, rfl, rfl, (show 18 ≤ 18 by omega), ?_, ?_, e94, e95, e96, ?_, ?_, ?_, h⟩ <;> first | (simp only [ua, d25, e94, e95, e96, e97, e98, nm, seval] <;> rfl) | rfl) ?_
 rintro m ⟨tm, H, nx99, df⟩ hinv
 rw [hI99] at hinv
 obtain ⟨p99, c99_11, rfl, hdf, hn99, H100, H101, e102, e103, e104, e105, e106, e107, h⟩ := hinv
 simp only at hdf hn99 H100 H101 e102 e103 e104 e105 e106 e107
 have n108 := zcl (m := 18) (b := nx99) (by omega)
 subst hdf hf99
 cases p99 with
 | zero =>
  simp only [zcd, zcc, zcf, hs, reduceCtorEq] at h
  exact absurd h kN99
 | succ p99 =>
  simp only [zcd, zcc, zcf, hs, reduceCtorEq] at h
  cases d109 : (decide (c99_11 ≤ x0_s.Fade.a0.High))
  ·simp only [d109, hs] at h
   replace h := kG99 _ h
   try dsimp only at h
   try simp only [hs] at h
   try simp only [vz, tyf, d25, (zls d25), (zgm d25), n108, e102, e103, e104, e105, e106, e107, H100, H101, d109, nm, seval]
   obtain rfl := kF _ h
   exact zac Tryz.results71 rfl
  simp only [d109, hs] at h
  obtain ⟨r110, o111, h⟩ := optI h kN99
  try simp only [hs] at h
  simp only [vz, tyf, d25, (zls d25), (zgm d25), n108, e102, e103, e104, e105, e106, e107, H100, H101, d109, nm, seval]
  refine ktA (zcm _ _ _ _ _ o111) ?_
  refine zab (fun tm => tm 2 = .lit (.int .i64 x2_p) ∧ tm 3 = .lit (.int .i64 x3_years) ∧ tm 4 = .ptr 0 0 ∧ tm 9 = .ptr 9 0 ∧ tm 10 = .lit (.int .i64 r92) ∧ tm 11 = .lit (.int .i64 c99_11) ∧ tm 34 = .lit (.int .i64 r92) ∧ tm 39 = .lit (.int .i64 r110) ∧ True) (by refine ⟨e102, e103, e104, e105, e106, e107, ?_, ?_, trivial⟩ <;> first | (simp only [ua, d25, n108, e102, e103, e104, e105, e106, e107, H100, H101, d109, nm, seval] <;> rfl) | rfl) ?_
  rintro tm ⟨e112, e113, e114, e115, e116, e117, e118, e119, _⟩
  cases d120 : (decide (r18.a0.Low ≤ (IntKind.i64.wrap ((IntKind.i64.wrap (r92 * r110)) + (IntKind.i64.wrap (r92 * x0_s.Off))))))
  ·simp only [d120, hs] at h
   simp only [vz, tyf, d25, (zls d25), (zgm d25), n108, H100, H101, d109, e112, e113, e114, e115, e116, e117, e118, e119, d120, nm, seval]
   exact ⟨p99, Nat.lt_succ_self _, by rw [hI99]; refine ⟨p99, IntKind.i64.wrap (c99_11 + 1), rfl, rfl, (show 18 ≤ nx99 + 38 by omega), ?_, ?_, e112, e113, e114, e115, e116, ?_, h⟩ <;> first | (simp only [ua, d25, n108, H100, H101, d109, e112, e113, e114, e115, e116, e117, e118, e119, d120, nm, seval] <;> rfl) | rfl⟩
  simp only [d120, hs] at h
  cases d121 : (decide (r18.a0.High ≥ (IntKind.i64.wrap ((IntKind.i64.wrap (r92 * r110)) - (IntKind.i64.wrap (r92 * x0_s.Off))))))
  ·simp only [d121, hs] at h
   have b122 := And.intro d25 (And.intro n108 (And.intro H100 (And.intro H101 (And.intro d109 (And.intro d120 d121)))))
   simp only [vz, tyf, b122, (zls d25), (zgm d25), e112, e113, e114, e115, e116, e117, e118, e119, nm, seval]
   exact ⟨p99, Nat.lt_succ_self _, by rw [hI99]; refine ⟨p99, IntKind.i64.wrap (c99_11 + 1), rfl, rfl, (show 18 ≤ nx99 + 38 by omega), ?_, ?_, e112, e113, e114, e115, e116, ?_, h⟩ <;> first | (simp only [ua, b122, e112, e113, e114, e115, e116, e117, e118, e119, nm, seval] <;> rfl) | rfl⟩
  simp only [d121, hs] at h
  have b123 := And.intro d25 (And.intro n108 (And.intro H100 (And.intro H101 (And.intro d109 (And.intro d120 d121)))))
  try simp only [vz, tyf, b123, (zls d25), (zgm d25), e112, e113, e114, e115, e116, e117, e118, e119, nm, seval]
  replace h := kR99 _ h
  try dsimp only at h
  obtain rfl := kF _ h
  exact zac Tryz.results71 rfl
end Go.V
end
section
namespace Go.V
open Go Go.Proofs
def zbs (x0_s : Gs) (x1_mix : List Int) : Nat → Bool → Int → Int → Int → Option (LOut (GSpan × Bool) (Bool × Int × Int × Int))
 | 0, _, _, _, _ => none
 | k0 + 1, c0_7, c0_8, c0_o0, c0_o1 => cond (decide (c0_8 ≤ x0_s.Years.High)) (Option.bind (zga x0_s x1_mix 0 c0_8) (fun r4 => cond (r4) (Option.bind (zga x0_s x1_mix 1 c0_8) (fun r5 => cond (r5) (Option.bind (zga x0_s x1_mix 2 c0_8) (fun r6 => cond (r6) (cond (c0_7) (zbs x0_s x1_mix k0 true (IntKind.i64.wrap (c0_8 + 1)) c0_o0 c0_8) (zbs x0_s x1_mix k0 true (IntKind.i64.wrap (c0_8 + 1)) c0_8 c0_8)) (zbs x0_s x1_mix k0 c0_7 (IntKind.i64.wrap (c0_8 + 1)) c0_o0 c0_o1))) (zbs x0_s x1_mix k0 c0_7 (IntKind.i64.wrap (c0_8 + 1)) c0_o0 c0_o1))) (zbs x0_s x1_mix k0 c0_7 (IntKind.i64.wrap (c0_8 + 1)) c0_o0 c0_o1))) (some (.go (c0_7, c0_8, c0_o0, c0_o1)))
def zfn (x0_s : Gs) (x1_mix : List Int) : Option (GSpan × Bool) := lbind (zbs x0_s x1_mix 1000000 false x0_s.Years.Low 0 0) (fun r8 => some r8) (fun c7 => some ((GSpan.mk c7.2.2.1 c7.2.2.2), c7.1)) (fun _ _ => none)
theorem zjh (x0_s : Gs) (x1_mix : List Int) (R : GSpan × Bool) (h : zfn x0_s x1_mix = some R) : VPure Tryz.prog G0 29 [.agg (cGs x0_s), .sl (cellsL eI x1_mix) (List.length x1_mix) false] (.tree (.tup [.agg (cGSpan R.1), .lit (.bool R.2)])) := by
 refine VPure.runR mixed Tryz.call29 Tryz.func29 rfl (by simp [Tryz.ntmps29]; kernel_rfl) ?_
 obtain ⟨KF, h, kF, kN⟩ := zan h
 simp only [zfn] at h
 simp only [vz, tyf, nm, seval]
 obtain ⟨K9, h, kR9, kG9, kB9, kN9⟩ := zax h kN
 obtain ⟨f9, hf9, h⟩ := call5 h
 obtain ⟨I9, hI9⟩ : ∃ I : Nat → St → Prop, I = (fun m st => ∃ (p9 : Nat) (c9_7 : Bool) (c9_8 : Int) (c9_o0 : Int) (c9_o1 : Int), p9 = m ∧ st.df = [] ∧ 9 ≤ st.nx ∧ st.H 0 = some (.cells (some 28) (cGs x0_s)) ∧ st.H 1 = some (.cells (some 24) ([.lit (.int .i64 0)] ++ [.lit (.int .i64 0)])) ∧ st.H 3 = some (.cells (some 24) ([.lit (.int .i64 c9_o0)] ++ [.lit (.int .i64 c9_o1)])) ∧ st.tm 1 = .sl (cellsL eI x1_mix) (List.length x1_mix) false ∧ st.tm 2 = .ptr 0 0 ∧ st.tm 4 = .ptr 1 0 ∧ st.tm 6 = .ptr 3 0 ∧ st.tm 7 = .lit (.bool c9_7) ∧ st.tm 8 = .lit (.int .i64 c9_8) ∧ K9 (f9 p9 c9_7 c9_8 c9_o0 c9_o1)) := ⟨_, rfl⟩
 refine loopK mixed (by kernel_rfl) I9 1000000 (by rw [hI9]; refine ⟨1000000, false, x0_s.Years.Low, 0, 0, rfl, rfl, (show 9 ≤ 9 by omega), ?_, ?_, ?_, ?_, ?_, ?_, ?_, ?_, ?_, h⟩ <;> first | (simp only [ua, nm, seval] <;> rfl) | rfl) ?_
 rintro m ⟨tm, H, nx9, df⟩ hinv
 rw [hI9] at hinv
 obtain ⟨p9, c9_7, c9_8, c9_o0, c9_o1, rfl, hdf, hn9, H10, H11, H12, e13, e14, e15, e16, e17, e18, h⟩ := hinv
 simp only at hdf hn9 H10 H11 H12 e13 e14 e15 e16 e17 e18
 have n19 := zcl (m := 9) (b := nx9) (by omega)
 subst hdf hf9
 cases p9 with
 | zero =>
  simp only [zbs, hs, reduceCtorEq] at h
  exact absurd h kN9
 | succ p9 =>
  simp only [zbs, hs, reduceCtorEq] at h
  cases d20 : (decide (c9_8 ≤ x0_s.Years.High))
  ·simp only [d20, hs] at h
   replace h := kG9 _ h
   try dsimp only at h
   try simp only [hs] at h
   try simp only [vz, tyf, n19, e13, e14, e15, e16, e17, e18, H10, H11, H12, d20, nm, seval]
   refine zat (x := (.tup [.agg ([.lit (.int .i64 c9_o0)] ++ [.lit (.int .i64 c9_o1)]), .lit (.bool c9_7)])) (by first | (simp only [Tryz.results29, resV, resL, resV1, zau, zbo, uw, cr, tyf, n19, e13, e14, e15, e16, e17, e18, H10, H11, H12, d20, nm, seval] <;> rfl) | rfl) ?_
   obtain rfl := kF _ h
   refine zaw ?_ ?_
   ·simp only [tre, tytre, Bool.and_self]
   ·first | (simp only [outV, uw, zaf, cr, tyf, nrm, tynrm, n19, e13, e14, e15, e16, e17, e18, H10, H11, H12, d20, nm, seval] <;> rfl) | rfl
  simp only [d20, hs] at h
  obtain ⟨r21, o22, h⟩ := optI h kN9
  try simp only [hs] at h
  simp only [vz, tyf, n19, e13, e14, e15, e16, e17, e18, H10, H11, H12, d20, nm, seval]
  refine ktA (ziv _ _ _ _ _ o22) ?_
  refine zab (fun tm => tm 1 = .sl (cellsL eI x1_mix) (List.length x1_mix) false ∧ tm 2 = .ptr 0 0 ∧ tm 4 = .ptr 1 0 ∧ tm 6 = .ptr 3 0 ∧ tm 7 = .lit (.bool c9_7) ∧ tm 8 = .lit (.int .i64 c9_8) ∧ tm 22 = .lit (.bool r21) ∧ True) (by refine ⟨e13, e14, e15, e16, e17, e18, ?_, trivial⟩ <;> first | (simp only [ua, n19, e13, e14, e15, e16, e17, e18, H10, H11, H12, d20, nm, seval] <;> rfl) | rfl) ?_
  rintro tm ⟨e23, e24, e25, e26, e27, e28, e29, _⟩
  cases d30 : (r21)
  ·simp only [d30, hs] at h
   simp only [vz, tyf, n19, H10, H11, H12, d20, e23, e24, e25, e26, e27, e28, e29, d30, nm, seval]
   exact ⟨p9, Nat.lt_succ_self _, by rw [hI9]; refine ⟨p9, c9_7, IntKind.i64.wrap (c9_8 + 1), c9_o0, c9_o1, rfl, rfl, (show 9 ≤ nx9 + 24 by omega), ?_, ?_, ?_, e23, e24, e25, e26, e27, ?_, h⟩ <;> first | (simp only [ua, n19, H10, H11, H12, d20, e23, e24, e25, e26, e27, e28, e29, d30, nm, seval] <;> rfl) | rfl⟩
  simp only [d30, hs] at h
  obtain ⟨r31, o32, h⟩ := optI h kN9
  try simp only [hs] at h
  simp only [vz, tyf, n19, H10, H11, H12, d20, e23, e24, e25, e26, e27, e28, e29, d30, nm, seval]
  refine ktA (ziv _ _ _ _ _ o32) ?_
  refine zab (fun tm => tm 1 = .sl (cellsL eI x1_mix) (List.length x1_mix) false ∧ tm 2 = .ptr 0 0 ∧ tm 4 = .ptr 1 0 ∧ tm 6 = .ptr 3 0 ∧ tm 7 = .lit (.bool c9_7) ∧ tm 8 = .lit (.int .i64 c9_8) ∧ tm 23 = .lit (.bool true) ∧ tm 27 = .lit (.bool r31) ∧ True) (by refine ⟨e23, e24, e25, e26, e27, e28, ?_, ?_, trivial⟩ <;> first | (simp only [ua, n19, H10, H11, H12, d20, e23, e24, e25, e26, e27, e28, e29, d30, nm, seval] <;> rfl) | rfl) ?_
  rintro tm ⟨e33, e34, e35, e36, e37, e38, e39, e40, _⟩
  cases d41 : (r31)
  ·simp only [d41, hs] at h
   have b42 := And.intro n19 (And.intro H10 (And.intro H11 (And.intro H12 (And.intro d20 (And.intro d30 d41)))))
   simp only [vz, tyf, b42, e33, e34, e35, e36, e37, e38, e39, e40, nm, seval]
   exact ⟨p9, Nat.lt_succ_self _, by rw [hI9]; refine ⟨p9, c9_7, IntKind.i64.wrap (c9_8 + 1), c9_o0, c9_o1, rfl, rfl, (show 9 ≤ nx9 + 24 by omega), ?_, ?_, ?_, e33, e34, e35, e36, e37, ?_, h⟩ <;> first | (simp only [ua, b42, e33, e34, e35, e36, e37, e38, e39, e40, nm, seval] <;> rfl) | rfl⟩
  simp only [d41, hs] at h
  have b43 := And.intro n19 (And.intro H10 (And.intro H11 (And.intro H12 (And.intro d20 (And.intro d30 d41)))))
  obtain ⟨r44, o45, h⟩ := optI h kN9
  try simp only [hs] at h
  simp only [vz, tyf, b43, e33, e34, e35, e36, e37, e38, e39, e40, nm, seval]
  refine ktA (ziv _ _ _ _ _ o45) ?_
  refine zab (fun tm => tm 1 = .sl (cellsL eI x1_mix) (List.length x1_mix) false ∧ tm 2 = .ptr 0 0 ∧ tm 4 = .ptr 1 0 ∧ tm 6 = .ptr 3 0 ∧ tm 7 = .lit (.bool c9_7) ∧ tm 8 = .lit (.int .i64 c9_8) ∧ tm 29 = .lit (.bool true) ∧ tm 33 = .lit (.bool r44) ∧ True) (by refine ⟨e33, e34, e35, e36, e37, e38, ?_, ?_, trivial⟩ <;> first | (simp only [ua, b43, e33, e34, e35, e36, e37, e38, e39, e40, nm, seval] <;> rfl) | rfl) ?_
  rintro tm ⟨e46, e47, e48, e49, e50, e51, e52, e53, _⟩
  cases d54 : (r44)
  ·simp only [d54, hs] at h
   simp only [vz, tyf, b43, e46, e47, e48, e49, e50, e51, e52, e53, d54, nm, seval]
   exact ⟨p9, Nat.lt_succ_self _, by rw [hI9]; refine ⟨p9, c9_7, IntKind.i64.wrap (c9_8 + 1), c9_o0, c9_o1, rfl, rfl, (show 9 ≤ nx9 + 24 by omega), ?_, ?_, ?_, e46, e47, e48, e49, e50, ?_, h⟩ <;> first | (simp only [ua, b43, e46, e47, e48, e49, e50, e51, e52, e53, d54, nm, seval] <;> rfl) | rfl⟩
  simp only [d54, hs] at h
  cases d55 : (c9_7)
  ·simp only [d55, hs] at h
   simp only [vz, tyf, b43, e46, e47, e48, e49, e50, e51, e52, e53, d54, d55, nm, seval]
   exact ⟨p9, Nat.lt_succ_self _, by rw [hI9]; refine ⟨p9, true, IntKind.i64.wrap (c9_8 + 1), c9_8, c9_8, rfl, rfl, (show 9 ≤ nx9 + 33 by omega), ?_, ?_, ?_, e46, e47, e48, e49, ?_, ?_, h⟩ <;> first | (simp only [ua, b43, e46, e47, e48, e49, e50, e51, e52, e53, d54, d55, nm, seval] <;> rfl) | rfl⟩
  simp only [d55, hs] at h
  simp only [vz, tyf, b43, e46, e47, e48, e49, e50, e51, e52, e53, d54, d55, nm, seval]
  exact ⟨p9, Nat.lt_succ_self _, by rw [hI9]; refine ⟨p9, true, IntKind.i64.wrap (c9_8 + 1), c9_o0, c9_8, rfl, rfl, (show 9 ≤ nx9 + 30 by omega), ?_, ?_, ?_, e46, e47, e48, e49, ?_, ?_, h⟩ <;> first | (simp only [ua, b43, e46, e47, e48, e49, e50, e51, e52, e53, d54, d55, nm, seval] <;> rfl) | rfl⟩
end Go.V
end
section
namespace Go.V
open Go Go.Proofs
def zgc (x0_s : Gs) (x1_mix : List Int) : Option (Int) := Option.bind (zfq x0_s x1_mix) (fun r1 => cond (decide (r1 ≤ x0_s.Off)) (some 3) (Option.bind (zfn x0_s x1_mix) (fun r2 => cond (r2.2) (some 2) (some 1))))
theorem zkn (x0_s : Gs) (x1_mix : List Int) (R : Int) (h : zgc x0_s x1_mix = some R) : VPure Tryz.prog G0 30 [.agg (cGs x0_s), .sl (cellsL eI x1_mix) (List.length x1_mix) false] (.tree (.lit (.int .i64 R))) := by
 refine VPure.runR mixed Tryz.call30 Tryz.func30 rfl (by simp [Tryz.ntmps30]; kernel_rfl) ?_
 obtain ⟨KF, h, kF, kN⟩ := zan h
 simp only [zgc] at h
 simp only [vz, tyf, nm, seval]
 refine zgf (fun tm => tm 1 = .sl (cellsL eI x1_mix) (List.length x1_mix) false ∧ tm 2 = .ptr 0 0 ∧ True) (by refine ⟨?_, ?_, trivial⟩ <;> first | (simp only [ua, nm, seval] <;> rfl) | rfl) ?_
 rintro tm ⟨e3, e4, _⟩
 obtain ⟨r5, o6, h⟩ := optI h kN
 try simp only [hs] at h
 simp only [vz, tyf, e3, e4, nm, seval]
 refine dktA (zmz _ _ _ o6) ?_
 refine zab (fun tm => tm 1 = .sl (cellsL eI x1_mix) (List.length x1_mix) false ∧ tm 2 = .ptr 0 0 ∧ tm 9 = .lit (.int .i64 r5) ∧ True) (by refine ⟨e3, e4, ?_, trivial⟩ <;> first | (simp only [ua, e3, e4, nm, seval] <;> rfl) | rfl) ?_
 rintro tm ⟨e7, e8, e9, _⟩
 cases d10 : (decide (r5 ≤ x0_s.Off))
 ·simp only [d10, hs] at h
  obtain ⟨r11, o12, h⟩ := optI h kN
  try simp only [hs] at h
  simp only [vz, tyf, e7, e8, e9, d10, nm, seval]
  refine ktA (zjh _ _ _ o12) ?_
  refine zab (fun tm => tm 16 = .tup [.agg (cGSpan r11.1), .lit (.bool r11.2)] ∧ True) (by refine ⟨?_, trivial⟩ <;> first | (simp only [ua, e7, e8, e9, d10, nm, seval] <;> rfl) | rfl) ?_
  rintro tm ⟨e13, _⟩
  cases d14 : (r11.2)
  ·simp only [d14, hs] at h
   try simp only [vz, tyf, d10, e13, d14, nm, seval]
   refine zat (x := (.lit (.int .i64 1))) (by first | (simp only [Tryz.results30, resV, resL, resV1, zau, zbo, uw, cr, tyf, d10, d14, nm, seval] <;> rfl) | rfl) ?_
   obtain rfl := kF _ h
   refine zaw ?_ ?_
   ·simp only [tre, tytre, Bool.and_self]
   ·first | (simp only [outV, uw, zaf, cr, tyf, nrm, tynrm, d10, e13, d14, nm, seval] <;> rfl) | rfl
  simp only [d14, hs] at h
  try simp only [vz, tyf, d10, e13, d14, nm, seval]
  refine zat (x := (.lit (.int .i64 2))) (by first | (simp only [Tryz.results30, resV, resL, resV1, zau, zbo, uw, cr, tyf, d10, d14, nm, seval] <;> rfl) | rfl) ?_
  obtain rfl := kF _ h
  refine zaw ?_ ?_
  ·simp only [tre, tytre, Bool.and_self]
  ·first | (simp only [outV, uw, zaf, cr, tyf, nrm, tynrm, d10, e13, d14, nm, seval] <;> rfl) | rfl
 simp only [d10, hs] at h
 try simp only [vz, tyf, e7, e8, e9, d10, nm, seval]
 refine zat (x := (.lit (.int .i64 3))) (by first | (simp only [Tryz.results30, resV, resL, resV1, zau, zbo, uw, cr, tyf, d10, nm, seval] <;> rfl) | rfl) ?_
 obtain rfl := kF _ h
 refine zaw ?_ ?_
 ·simp only [tre, tytre, Bool.and_self]
 ·first | (simp only [outV, uw, zaf, cr, tyf, nrm, tynrm, e7, e8, e9, d10, nm, seval] <;> rfl) | rfl
end Go.V
end
section
namespace Go.V
open Go
def anyR (T : Int → Bool) : Nat → Int → Bool
 | 0, _ => false
 | k + 1, c => T c || anyR T k (c + 1)
def canT (s : Gs) (mix : List Int) (p : P3) (y f : Int) : Bool := decide (sumL mix * leftI (selI s.Old p) y f - sumL mix * s.Off ≤ (sumsP s mix p).High) && decide ((sumsP s mix p).Low ≤ sumL mix * leftI (selI s.Old p) y f + sumL mix * s.Off)
theorem can_b {s : Gs} (hs : ShOk s) {mix : List Int} (hm : MixOk s mix) (p : P3) {y f : Int} (hy : 0 ≤ y ∧ y ≤ 20) (hf : 0 ≤ f) : 0 ≤ sumL mix * leftI (selI s.Old p) y f ∧ sumL mix * leftI (selI s.Old p) y f ≤ 792 ∧ 0 ≤ sumL mix * s.Off ∧ sumL mix * s.Off ≤ 160 := by
 have h1 := hs.old p
 have h2 := zaeo (y := y) (f := f) h1 hy.1 hf
 have h3 := hm.s
 have h4 := hs.off
 have h5 := mulR (a := sumL mix) (A := 8) (by omega) h3.2 h2.1 (show leftI (selI s.Old p) y f ≤ 99 by omega)
 have h6 := mulR (a := sumL mix) (A := 8) (b := s.Off) (B := 20) (by omega) h3.2 (by omega) (by omega)
 omega
theorem zanh {s : Gs} (hs : ShOk s) {mix : List Int} (hm : MixOk s mix) {y : Int} (hy : 0 ≤ y ∧ y ≤ 20) : ∀ (k fuel : Nat) (c : Int), k < fuel → 0 ≤ c → c + k = s.Fade.a0.High + 1 → zag ⟨s, mix⟩ y (sumsP s mix .p0) (sumL mix) fuel c = cond (anyR (canT s mix .p0 y) k c) (some (.ret true)) (some (.go (c + k)))
 | 0, fuel + 1, c, _, h0, hc => by
  simp only [zag]
  rw [decide_eq_false (by show ¬ c ≤ s.Fade.a0.High; omega)]
  simp [anyR]
 | k + 1, fuel + 1, c, hf, h0, hc => by
  have hfd := hs.fade .p0
  simp only [selS] at hfd
  have ih := zanh hs hm hy k fuel (c + 1) (by omega) (by omega) (by omega)
  have e1 := zqm (hs.old .p0) hy (show 0 ≤ c ∧ c ≤ 9 by omega)
  simp only [selI] at e1
  have hb := can_b hs hm .p0 hy (show 0 ≤ c by omega)
  simp only [selI] at hb
  have e2 : IntKind.i64.wrap (sumL mix * leftI s.Old.a0 y c) = sumL mix * leftI s.Old.a0 y c := zbk (by omega) (by omega)
  have e3 : IntKind.i64.wrap (sumL mix * s.Off) = sumL mix * s.Off := zbk (by omega) (by omega)
  have e4 : IntKind.i64.wrap (sumL mix * leftI s.Old.a0 y c - sumL mix * s.Off) = sumL mix * leftI s.Old.a0 y c - sumL mix * s.Off := zbk (by omega) (by omega)
  have e5 : IntKind.i64.wrap (sumL mix * leftI s.Old.a0 y c + sumL mix * s.Off) = sumL mix * leftI s.Old.a0 y c + sumL mix * s.Off := zbk (by omega) (by omega)
  have e6 : IntKind.i64.wrap (c + 1) = c + 1 := zbk (by omega) (by omega)
  have hT : canT s mix .p0 y c = (decide (sumL mix * leftI s.Old.a0 y c - sumL mix * s.Off ≤ (sumsP s mix .p0).High) && decide ((sumsP s mix .p0).Low ≤ sumL mix * leftI s.Old.a0 y c + sumL mix * s.Off)) := rfl
  simp only [zag]
  rw [decide_eq_true (show c ≤ s.Fade.a0.High by omega), e1]
  simp only [Option.bind_some, cond_true, e2, e3, e4, e5, e6, ih, anyR, hT]
  rw [show c + 1 + (k : Int) = c + ((k + 1 : Nat) : Int) by omega]
  cases decide (sumL mix * leftI s.Old.a0 y c - sumL mix * s.Off ≤ (sumsP s mix .p0).High) <;> cases decide ((sumsP s mix .p0).Low ≤ sumL mix * leftI s.Old.a0 y c + sumL mix * s.Off) <;> rfl
 | _ , 0, _, hf, _, _ => by omega
theorem zaji {s : Gs} (hs : ShOk s) {mix : List Int} (hm : MixOk s mix) {y : Int} (hy : 0 ≤ y ∧ y ≤ 20) : ∀ (k fuel : Nat) (c : Int), k < fuel → 0 ≤ c → c + k = s.Fade.a0.High + 1 → zcd s P3.p0.i y (sumsS s mix) (sumL mix) fuel c = cond (anyR (canT s mix .p0 y) k c) (some (.ret true)) (some (.go (c + k)))
 | 0, fuel + 1, c, _, h0, hc => by
  simp only [zcd]
  rw [decide_eq_false (by show ¬ c ≤ s.Fade.a0.High; omega)]
  simp [anyR]
 | k + 1, fuel + 1, c, hf, h0, hc => by
  have hfd := hs.fade .p0
  simp only [selS] at hfd
  have ih := zaji hs hm hy k fuel (c + 1) (by omega) (by omega) (by omega)
  have e1 := zin hs .p0 hy (show 0 ≤ c ∧ c ≤ 9 by omega)
  simp only [selI] at e1
  have hb := can_b hs hm .p0 hy (show 0 ≤ c by omega)
  simp only [selI] at hb
  have e2 : IntKind.i64.wrap (sumL mix * leftI s.Old.a0 y c) = sumL mix * leftI s.Old.a0 y c := zbk (by omega) (by omega)
  have e3 : IntKind.i64.wrap (sumL mix * s.Off) = sumL mix * s.Off := zbk (by omega) (by omega)
  have e4 : IntKind.i64.wrap (sumL mix * leftI s.Old.a0 y c - sumL mix * s.Off) = sumL mix * leftI s.Old.a0 y c - sumL mix * s.Off := zbk (by omega) (by omega)
  have e5 : IntKind.i64.wrap (sumL mix * leftI s.Old.a0 y c + sumL mix * s.Off) = sumL mix * leftI s.Old.a0 y c + sumL mix * s.Off := zbk (by omega) (by omega)
  have e6 : IntKind.i64.wrap (c + 1) = c + 1 := zbk (by omega) (by omega)
  have hT : canT s mix .p0 y c = (decide (sumL mix * leftI s.Old.a0 y c - sumL mix * s.Off ≤ (sumsP s mix .p0).High) && decide ((sumsP s mix .p0).Low ≤ sumL mix * leftI s.Old.a0 y c + sumL mix * s.Off)) := rfl
  have hS : (sumsS s mix).a0 = sumsP s mix .p0 := rfl
  simp only [zcd]
  rw [decide_eq_true (show c ≤ s.Fade.a0.High by omega), e1]
  simp only [Option.bind_some, cond_true, e2, e3, e4, e5, e6, ih, anyR, hT, hS, ge_iff_le]
  rw [show c + 1 + (k : Int) = c + ((k + 1 : Nat) : Int) by omega]
  cases decide (sumL mix * leftI s.Old.a0 y c - sumL mix * s.Off ≤ (sumsP s mix .p0).High) <;> cases decide ((sumsP s mix .p0).Low ≤ sumL mix * leftI s.Old.a0 y c + sumL mix * s.Off) <;> rfl
 | _ , 0, _, hf, _, _ => by omega
theorem zanm {s : Gs} (hs : ShOk s) {mix : List Int} (hm : MixOk s mix) {y : Int} (hy : 0 ≤ y ∧ y ≤ 20) : ∀ (k fuel : Nat) (c : Int), k < fuel → 0 ≤ c → c + k = s.Fade.a1.High + 1 → zah ⟨s, mix⟩ y (sumsP s mix .p1) (sumL mix) fuel c = cond (anyR (canT s mix .p1 y) k c) (some (.ret true)) (some (.go (c + k)))
 | 0, fuel + 1, c, _, h0, hc => by
  simp only [zah]
  rw [decide_eq_false (by show ¬ c ≤ s.Fade.a1.High; omega)]
  simp [anyR]
 | k + 1, fuel + 1, c, hf, h0, hc => by
  have hfd := hs.fade .p1
  simp only [selS] at hfd
  have ih := zanm hs hm hy k fuel (c + 1) (by omega) (by omega) (by omega)
  have e1 := zqm (hs.old .p1) hy (show 0 ≤ c ∧ c ≤ 9 by omega)
  simp only [selI] at e1
  have hb := can_b hs hm .p1 hy (show 0 ≤ c by omega)
  simp only [selI] at hb
  have e2 : IntKind.i64.wrap (sumL mix * leftI s.Old.a1 y c) = sumL mix * leftI s.Old.a1 y c := zbk (by omega) (by omega)
  have e3 : IntKind.i64.wrap (sumL mix * s.Off) = sumL mix * s.Off := zbk (by omega) (by omega)
  have e4 : IntKind.i64.wrap (sumL mix * leftI s.Old.a1 y c - sumL mix * s.Off) = sumL mix * leftI s.Old.a1 y c - sumL mix * s.Off := zbk (by omega) (by omega)
  have e5 : IntKind.i64.wrap (sumL mix * leftI s.Old.a1 y c + sumL mix * s.Off) = sumL mix * leftI s.Old.a1 y c + sumL mix * s.Off := zbk (by omega) (by omega)
  have e6 : IntKind.i64.wrap (c + 1) = c + 1 := zbk (by omega) (by omega)
  have hT : canT s mix .p1 y c = (decide (sumL mix * leftI s.Old.a1 y c - sumL mix * s.Off ≤ (sumsP s mix .p1).High) && decide ((sumsP s mix .p1).Low ≤ sumL mix * leftI s.Old.a1 y c + sumL mix * s.Off)) := rfl
  simp only [zah]
  rw [decide_eq_true (show c ≤ s.Fade.a1.High by omega), e1]
  simp only [Option.bind_some, cond_true, e2, e3, e4, e5, e6, ih, anyR, hT]
  rw [show c + 1 + (k : Int) = c + ((k + 1 : Nat) : Int) by omega]
  cases decide (sumL mix * leftI s.Old.a1 y c - sumL mix * s.Off ≤ (sumsP s mix .p1).High) <;> cases decide ((sumsP s mix .p1).Low ≤ sumL mix * leftI s.Old.a1 y c + sumL mix * s.Off) <;> rfl
 | _ , 0, _, hf, _, _ => by omega
theorem zaix {s : Gs} (hs : ShOk s) {mix : List Int} (hm : MixOk s mix) {y : Int} (hy : 0 ≤ y ∧ y ≤ 20) : ∀ (k fuel : Nat) (c : Int), k < fuel → 0 ≤ c → c + k = s.Fade.a1.High + 1 → zcc s P3.p1.i y (sumsS s mix) (sumL mix) fuel c = cond (anyR (canT s mix .p1 y) k c) (some (.ret true)) (some (.go (c + k)))
 | 0, fuel + 1, c, _, h0, hc => by
  simp only [zcc]
  rw [decide_eq_false (by show ¬ c ≤ s.Fade.a1.High; omega)]
  simp [anyR]
 | k + 1, fuel + 1, c, hf, h0, hc => by
  have hfd := hs.fade .p1
  simp only [selS] at hfd
  have ih := zaix hs hm hy k fuel (c + 1) (by omega) (by omega) (by omega)
  have e1 := zin hs .p1 hy (show 0 ≤ c ∧ c ≤ 9 by omega)
  simp only [selI] at e1
  have hb := can_b hs hm .p1 hy (show 0 ≤ c by omega)
  simp only [selI] at hb
  have e2 : IntKind.i64.wrap (sumL mix * leftI s.Old.a1 y c) = sumL mix * leftI s.Old.a1 y c := zbk (by omega) (by omega)
  have e3 : IntKind.i64.wrap (sumL mix * s.Off) = sumL mix * s.Off := zbk (by omega) (by omega)
  have e4 : IntKind.i64.wrap (sumL mix * leftI s.Old.a1 y c - sumL mix * s.Off) = sumL mix * leftI s.Old.a1 y c - sumL mix * s.Off := zbk (by omega) (by omega)
  have e5 : IntKind.i64.wrap (sumL mix * leftI s.Old.a1 y c + sumL mix * s.Off) = sumL mix * leftI s.Old.a1 y c + sumL mix * s.Off := zbk (by omega) (by omega)
  have e6 : IntKind.i64.wrap (c + 1) = c + 1 := zbk (by omega) (by omega)
  have hT : canT s mix .p1 y c = (decide (sumL mix * leftI s.Old.a1 y c - sumL mix * s.Off ≤ (sumsP s mix .p1).High) && decide ((sumsP s mix .p1).Low ≤ sumL mix * leftI s.Old.a1 y c + sumL mix * s.Off)) := rfl
  have hS : (sumsS s mix).a1 = sumsP s mix .p1 := rfl
  simp only [zcc]
  rw [decide_eq_true (show c ≤ s.Fade.a1.High by omega), e1]
  simp only [Option.bind_some, cond_true, e2, e3, e4, e5, e6, ih, anyR, hT, hS, ge_iff_le]
  rw [show c + 1 + (k : Int) = c + ((k + 1 : Nat) : Int) by omega]
  cases decide (sumL mix * leftI s.Old.a1 y c - sumL mix * s.Off ≤ (sumsP s mix .p1).High) <;> cases decide ((sumsP s mix .p1).Low ≤ sumL mix * leftI s.Old.a1 y c + sumL mix * s.Off) <;> rfl
 | _ , 0, _, hf, _, _ => by omega
theorem zaph {s : Gs} (hs : ShOk s) {mix : List Int} (hm : MixOk s mix) {y : Int} (hy : 0 ≤ y ∧ y ≤ 20) : ∀ (k fuel : Nat) (c : Int), k < fuel → 0 ≤ c → c + k = s.Fade.a2.High + 1 → zae ⟨s, mix⟩ y (sumsP s mix .p2) (sumL mix) fuel c = cond (anyR (canT s mix .p2 y) k c) (some (.ret true)) (some (.go (c + k)))
 | 0, fuel + 1, c, _, h0, hc => by
  simp only [zae]
  rw [decide_eq_false (by show ¬ c ≤ s.Fade.a2.High; omega)]
  simp [anyR]
 | k + 1, fuel + 1, c, hf, h0, hc => by
  have hfd := hs.fade .p2
  simp only [selS] at hfd
  have ih := zaph hs hm hy k fuel (c + 1) (by omega) (by omega) (by omega)
  have e1 := zqm (hs.old .p2) hy (show 0 ≤ c ∧ c ≤ 9 by omega)
  simp only [selI] at e1
  have hb := can_b hs hm .p2 hy (show 0 ≤ c by omega)
  simp only [selI] at hb
  have e2 : IntKind.i64.wrap (sumL mix * leftI s.Old.a2 y c) = sumL mix * leftI s.Old.a2 y c := zbk (by omega) (by omega)
  have e3 : IntKind.i64.wrap (sumL mix * s.Off) = sumL mix * s.Off := zbk (by omega) (by omega)
  have e4 : IntKind.i64.wrap (sumL mix * leftI s.Old.a2 y c - sumL mix * s.Off) = sumL mix * leftI s.Old.a2 y c - sumL mix * s.Off := zbk (by omega) (by omega)
  have e5 : IntKind.i64.wrap (sumL mix * leftI s.Old.a2 y c + sumL mix * s.Off) = sumL mix * leftI s.Old.a2 y c + sumL mix * s.Off := zbk (by omega) (by omega)
  have e6 : IntKind.i64.wrap (c + 1) = c + 1 := zbk (by omega) (by omega)
  have hT : canT s mix .p2 y c = (decide (sumL mix * leftI s.Old.a2 y c - sumL mix * s.Off ≤ (sumsP s mix .p2).High) && decide ((sumsP s mix .p2).Low ≤ sumL mix * leftI s.Old.a2 y c + sumL mix * s.Off)) := rfl
  simp only [zae]
  rw [decide_eq_true (show c ≤ s.Fade.a2.High by omega), e1]
  simp only [Option.bind_some, cond_true, e2, e3, e4, e5, e6, ih, anyR, hT]
  rw [show c + 1 + (k : Int) = c + ((k + 1 : Nat) : Int) by omega]
  cases decide (sumL mix * leftI s.Old.a2 y c - sumL mix * s.Off ≤ (sumsP s mix .p2).High) <;> cases decide ((sumsP s mix .p2).Low ≤ sumL mix * leftI s.Old.a2 y c + sumL mix * s.Off) <;> rfl
 | _ , 0, _, hf, _, _ => by omega
theorem zais {s : Gs} (hs : ShOk s) {mix : List Int} (hm : MixOk s mix) {y : Int} (hy : 0 ≤ y ∧ y ≤ 20) : ∀ (k fuel : Nat) (c : Int), k < fuel → 0 ≤ c → c + k = s.Fade.a2.High + 1 → zcf s P3.p2.i y (sumsS s mix) (sumL mix) fuel c = cond (anyR (canT s mix .p2 y) k c) (some (.ret true)) (some (.go (c + k)))
 | 0, fuel + 1, c, _, h0, hc => by
  simp only [zcf]
  rw [decide_eq_false (by show ¬ c ≤ s.Fade.a2.High; omega)]
  simp [anyR]
 | k + 1, fuel + 1, c, hf, h0, hc => by
  have hfd := hs.fade .p2
  simp only [selS] at hfd
  have ih := zais hs hm hy k fuel (c + 1) (by omega) (by omega) (by omega)
  have e1 := zin hs .p2 hy (show 0 ≤ c ∧ c ≤ 9 by omega)
  simp only [selI] at e1
  have hb := can_b hs hm .p2 hy (show 0 ≤ c by omega)
  simp only [selI] at hb
  have e2 : IntKind.i64.wrap (sumL mix * leftI s.Old.a2 y c) = sumL mix * leftI s.Old.a2 y c := zbk (by omega) (by omega)
  have e3 : IntKind.i64.wrap (sumL mix * s.Off) = sumL mix * s.Off := zbk (by omega) (by omega)
  have e4 : IntKind.i64.wrap (sumL mix * leftI s.Old.a2 y c - sumL mix * s.Off) = sumL mix * leftI s.Old.a2 y c - sumL mix * s.Off := zbk (by omega) (by omega)
  have e5 : IntKind.i64.wrap (sumL mix * leftI s.Old.a2 y c + sumL mix * s.Off) = sumL mix * leftI s.Old.a2 y c + sumL mix * s.Off := zbk (by omega) (by omega)
  have e6 : IntKind.i64.wrap (c + 1) = c + 1 := zbk (by omega) (by omega)
  have hT : canT s mix .p2 y c = (decide (sumL mix * leftI s.Old.a2 y c - sumL mix * s.Off ≤ (sumsP s mix .p2).High) && decide ((sumsP s mix .p2).Low ≤ sumL mix * leftI s.Old.a2 y c + sumL mix * s.Off)) := rfl
  have hS : (sumsS s mix).a2 = sumsP s mix .p2 := rfl
  simp only [zcf]
  rw [decide_eq_true (show c ≤ s.Fade.a2.High by omega), e1]
  simp only [Option.bind_some, cond_true, e2, e3, e4, e5, e6, ih, anyR, hT, hS, ge_iff_le]
  rw [show c + 1 + (k : Int) = c + ((k + 1 : Nat) : Int) by omega]
  cases decide (sumL mix * leftI s.Old.a2 y c - sumL mix * s.Off ≤ (sumsP s mix .p2).High) <;> cases decide ((sumsP s mix .p2).Low ≤ sumL mix * leftI s.Old.a2 y c + sumL mix * s.Off) <;> rfl
 | _ , 0, _, hf, _, _ => by omega
def canB (s : Gs) (mix : List Int) (p : P3) (y : Int) : Bool := anyR (canT s mix p y) ((selS s.Fade p).High + 1 - (selS s.Fade p).Low).toNat (selS s.Fade p).Low
theorem zly {s : Gs} (hs : ShOk s) {mix : List Int} (hm : MixOk s mix) (p : P3) {y : Int} (hy : 0 ≤ y ∧ y ≤ 20) : zbf ⟨s, mix⟩ y p.i (sumsP s mix p) = some (canB s mix p y) := by
 have f0 := hs.fade .p0
 have f1 := hs.fade .p1
 have f2 := hs.fade .p2
 simp only [selS] at f0 f1 f2
 unfold zbf canB
 rw [zwo hs hm]
 simp only [Option.bind_some]
 cases p <;> simp only [P3.i, Int.reduceBEq, cond_true, cond_false, selS]
 ·rw [zanh hs hm hy (s.Fade.a0.High + 1 - s.Fade.a0.Low).toNat 1000000 s.Fade.a0.Low (by omega) (by omega) (by omega)]
  cases anyR (canT s mix .p0 y) (s.Fade.a0.High + 1 - s.Fade.a0.Low).toNat s.Fade.a0.Low <;> rfl
 ·rw [zanm hs hm hy (s.Fade.a1.High + 1 - s.Fade.a1.Low).toNat 1000000 s.Fade.a1.Low (by omega) (by omega) (by omega)]
  cases anyR (canT s mix .p1 y) (s.Fade.a1.High + 1 - s.Fade.a1.Low).toNat s.Fade.a1.Low <;> rfl
 ·rw [zaph hs hm hy (s.Fade.a2.High + 1 - s.Fade.a2.Low).toNat 1000000 s.Fade.a2.Low (by omega) (by omega) (by omega)]
  cases anyR (canT s mix .p2 y) (s.Fade.a2.High + 1 - s.Fade.a2.Low).toNat s.Fade.a2.Low <;> rfl
theorem zacq {s : Gs} (hs : ShOk s) {mix : List Int} (hm : MixOk s mix) (p : P3) {y : Int} (hy : 0 ≤ y ∧ y ≤ 20) : zga s mix p.i y = some (canB s mix p y) := by
 have hl := hs.n
 have hn := hm.n
 have f0 := hs.fade .p0
 have f1 := hs.fade .p1
 have f2 := hs.fade .p2
 simp only [selS] at f0 f1 f2
 have r0 := zaji hs hm hy (s.Fade.a0.High + 1 - s.Fade.a0.Low).toNat 1000000 s.Fade.a0.Low (by omega) (by omega) (by omega)
 have r1 := zaix hs hm hy (s.Fade.a1.High + 1 - s.Fade.a1.Low).toNat 1000000 s.Fade.a1.Low (by omega) (by omega) (by omega)
 have r2 := zais hs hm hy (s.Fade.a2.High + 1 - s.Fade.a2.Low).toNat 1000000 s.Fade.a2.Low (by omega) (by omega) (by omega)
 simp only [P3.i] at r0 r1 r2
 unfold zga canB
 rw [zaee hs hm, zrs hm.b (by omega)]
 simp only [Option.bind_some]
 cases p <;> simp only [P3.i, Int.reduceBEq, cond_true, cond_false, selS]
 ·rw [r0]
  cases anyR (canT s mix .p0 y) (s.Fade.a0.High + 1 - s.Fade.a0.Low).toNat s.Fade.a0.Low <;> rfl
 ·rw [r1]
  cases anyR (canT s mix .p1 y) (s.Fade.a1.High + 1 - s.Fade.a1.Low).toNat s.Fade.a1.Low <;> rfl
 ·rw [r2]
  cases anyR (canT s mix .p2 y) (s.Fade.a2.High + 1 - s.Fade.a2.Low).toNat s.Fade.a2.Low <;> rfl
def fillM (p : Int) (T : Int → Bool) : Nat → Int → List (Gf × Bool) → List (Gf × Bool)
 | 0, _, m => m
 | k + 1, c, m => fillM p T k (c + 1) (mapSet q138 m ⟨p, c⟩ (T c))
theorem zvy (a b : Gf) : q138 a b = true ↔ a = b := by
 constructor
 ·exact hq138 a b
 ·rintro rfl
  simp [q138]
theorem zjx (p : Int) (T : Int → Bool) : ∀ (k : Nat) (c : Int) (m : List (Gf × Bool)) (p' y : Int), mapGet q138 false (fillM p T k c m) ⟨p', y⟩ = if p' = p ∧ c ≤ y ∧ y < c + k then T y else mapGet q138 false m ⟨p', y⟩
 | 0, c, m, p', y => by
  rw [if_neg (by rintro ⟨_, h1, h2⟩; omega)]
  rfl
 | k + 1, c, m, p', y => by
  rw [fillM, zjx p T k (c + 1), zaaw zvy]
  by_cases h1 : p' = p
  ·by_cases h2 : y = c
   ·subst h1 h2
    rw [if_neg (by rintro ⟨_, h1, _⟩; omega), if_pos (by simp [q138]), if_pos ⟨rfl, by omega, by omega⟩]
   ·have h3 : ¬ q138 ⟨p', y⟩ ⟨p, c⟩ = true := by
     rw [zvy]
     intro e
     exact h2 (congrArg Gf.years e)
    rw [if_neg h3]
    by_cases h4 : c + 1 ≤ y ∧ y < c + 1 + k
    ·rw [if_pos ⟨h1, h4⟩, if_pos ⟨h1, by omega, by omega⟩]
    ·rw [if_neg (fun h => h4 h.2), if_neg (fun h => h4 ⟨by omega, by omega⟩)]
  ·have h3 : ¬ q138 ⟨p', y⟩ ⟨p, c⟩ = true := by
    rw [zvy]
    intro e
    exact h1 (congrArg Gf.pigment e)
   rw [if_neg (fun h => h1 h.1), if_neg h3, if_neg (fun h => h1 h.1)]
theorem zqq {s : Gs} (hs : ShOk s) {mix : List Int} (hm : MixOk s mix) : ∀ (k fuel : Nat) (c : Int) (m : List (Gf × Bool)), k < fuel → 0 ≤ c → c + k = s.Years.High + 1 → zar ⟨s, mix⟩ (sumsS s mix) fuel c m = some (.go (c + k, fillM 0 (canB s mix .p0) k c m))
 | 0, fuel + 1, c, m, _, h0, hc => by
  simp only [zar]
  rw [decide_eq_false (by show ¬ c ≤ s.Years.High; omega)]
  simp [fillM]
 | k + 1, fuel + 1, c, m, hf, h0, hc => by
  have hyr := hs.yrs
  have ih := fun m => zqq hs hm k fuel (c + 1) m (by omega) (by omega) (by omega)
  have e1 := zly hs hm .p0 (show 0 ≤ c ∧ c ≤ 20 by omega)
  rw [show P3.p0.i = 0 from rfl] at e1
  have e6 : IntKind.i64.wrap (c + 1) = c + 1 := zbk (by omega) (by omega)
  simp only [zar]
  rw [decide_eq_true (show c ≤ s.Years.High by omega), show (sumsS s mix).a0 = sumsP s mix .p0 from rfl, e1]
  simp only [Option.bind_some, cond_true, e6, ih, fillM]
  rw [show c + 1 + (k : Int) = c + ((k + 1 : Nat) : Int) by omega]
 | _ , 0, _, _, hf, _, _ => by omega
theorem zqo {s : Gs} (hs : ShOk s) {mix : List Int} (hm : MixOk s mix) : ∀ (k fuel : Nat) (c : Int) (m : List (Gf × Bool)), k < fuel → 0 ≤ c → c + k = s.Years.High + 1 → zaq ⟨s, mix⟩ (sumsS s mix) fuel c m = some (.go (c + k, fillM 1 (canB s mix .p1) k c m))
 | 0, fuel + 1, c, m, _, h0, hc => by
  simp only [zaq]
  rw [decide_eq_false (by show ¬ c ≤ s.Years.High; omega)]
  simp [fillM]
 | k + 1, fuel + 1, c, m, hf, h0, hc => by
  have hyr := hs.yrs
  have ih := fun m => zqo hs hm k fuel (c + 1) m (by omega) (by omega) (by omega)
  have e1 := zly hs hm .p1 (show 0 ≤ c ∧ c ≤ 20 by omega)
  rw [show P3.p1.i = 1 from rfl] at e1
  have e6 : IntKind.i64.wrap (c + 1) = c + 1 := zbk (by omega) (by omega)
  simp only [zaq]
  rw [decide_eq_true (show c ≤ s.Years.High by omega), show (sumsS s mix).a1 = sumsP s mix .p1 from rfl, e1]
  simp only [Option.bind_some, cond_true, e6, ih, fillM]
  rw [show c + 1 + (k : Int) = c + ((k + 1 : Nat) : Int) by omega]
 | _ , 0, _, _, hf, _, _ => by omega
theorem zqb {s : Gs} (hs : ShOk s) {mix : List Int} (hm : MixOk s mix) : ∀ (k fuel : Nat) (c : Int) (m : List (Gf × Bool)), k < fuel → 0 ≤ c → c + k = s.Years.High + 1 → zap ⟨s, mix⟩ (sumsS s mix) fuel c m = some (.go (c + k, fillM 2 (canB s mix .p2) k c m))
 | 0, fuel + 1, c, m, _, h0, hc => by
  simp only [zap]
  rw [decide_eq_false (by show ¬ c ≤ s.Years.High; omega)]
  simp [fillM]
 | k + 1, fuel + 1, c, m, hf, h0, hc => by
  have hyr := hs.yrs
  have ih := fun m => zqb hs hm k fuel (c + 1) m (by omega) (by omega) (by omega)
  have e1 := zly hs hm .p2 (show 0 ≤ c ∧ c ≤ 20 by omega)
  rw [show P3.p2.i = 2 from rfl] at e1
  have e6 : IntKind.i64.wrap (c + 1) = c + 1 := zbk (by omega) (by omega)
  simp only [zap]
  rw [decide_eq_true (show c ≤ s.Years.High by omega), show (sumsS s mix).a2 = sumsP s mix .p2 from rfl, e1]
  simp only [Option.bind_some, cond_true, e6, ih, fillM]
  rw [show c + 1 + (k : Int) = c + ((k + 1 : Nat) : Int) by omega]
 | _ , 0, _, _, hf, _, _ => by omega
def yrsN (s : Gs) : Nat := (s.Years.High + 1 - s.Years.Low).toNat
def mapM (s : Gs) (mix : List Int) : List (Gf × Bool) := fillM 2 (canB s mix .p2) (yrsN s) s.Years.Low (fillM 1 (canB s mix .p1) (yrsN s) s.Years.Low (fillM 0 (canB s mix .p0) (yrsN s) s.Years.Low []))
theorem zaaa {s : Gs} (hs : ShOk s) {mix : List Int} (hm : MixOk s mix) : zde ⟨s, mix⟩ = some (mapM s mix) := by
 have hy := hs.yrs
 have hk : s.Years.Low + (yrsN s : Int) = s.Years.High + 1 := by unfold yrsN; omega
 have hk2 : yrsN s < 1000000 := by unfold yrsN; omega
 unfold zde
 rw [zads hs hm]
 simp only [Option.bind_some, zqq hs hm (yrsN s) 1000000 _ _ hk2 hy.1 hk, zqo hs hm (yrsN s) 1000000 _ _ hk2 hy.1 hk, zqb hs hm (yrsN s) 1000000 _ _ hk2 hy.1 hk, lbind]
 rfl
theorem zmaY {s : Gs} {mix : List Int} (hs : ShOk s) (p : P3) {y : Int} (hy : s.Years.Low ≤ y ∧ y ≤ s.Years.High) : mapGet q138 false (mapM s mix) ⟨p.i, y⟩ = canB s mix p y := by
 have hk : s.Years.Low + (yrsN s : Int) = s.Years.High + 1 := by have := hs.yrs; unfold yrsN; omega
 unfold mapM
 rw [zjx, zjx, zjx]
 cases p <;> simp only [P3.i]
 ·rw [if_neg (by rintro ⟨h, _⟩; omega), if_neg (by rintro ⟨h, _⟩; omega), if_pos ⟨trivial, by omega, by omega⟩]
 ·rw [if_neg (by rintro ⟨h, _⟩; omega), if_pos ⟨trivial, by omega, by omega⟩]
 ·rw [if_pos ⟨trivial, by omega, by omega⟩]
def allC (s : Gs) (mix : List Int) (y : Int) : Bool := canB s mix .p0 y && (canB s mix .p1 y && canB s mix .p2 y)
def yL (A : Int → Bool) : Nat → Int → List Int
 | 0, _ => []
 | k + 1, c => cond (A c) (c :: yL A k (c + 1)) (yL A k (c + 1))
theorem zann {A : Int → Bool} : ∀ (k : Nat) (c : Int), (yL A k c).length ≤ k
 | 0, _ => Nat.le_refl _
 | k + 1, c => by
  have := zann (A := A) k (c + 1)
  simp only [yL]
  cases A c
  ·simp only [cond_false]; omega
  ·simp only [cond_true, List.length_cons]; omega
theorem zadi {s : Gs} (hs : ShOk s) {mix : List Int} : ∀ (k fuel : Nat) (c : Int) (acc : List Int), k < fuel → s.Years.Low ≤ c → c + k = s.Years.High + 1 → acc.length + k ≤ 1000 → zav ⟨s, mix⟩ (mapM s mix) fuel acc c = some (.go (acc ++ yL (allC s mix) k c, c + k))
 | 0, fuel + 1, c, acc, _, h0, hc, _ => by
  simp only [zav]
  rw [decide_eq_false (by show ¬ c ≤ s.Years.High; omega)]
  simp [yL]
 | k + 1, fuel + 1, c, acc, hf, h0, hc, hl => by
  have hyr := hs.yrs
  have ih := fun acc hl => zadi (mix := mix) hs k fuel (c + 1) acc (by omega) (by omega) (by omega) hl
  have g0 := zmaY (mix := mix) hs .p0 (y := c) ⟨h0, by omega⟩
  have g1 := zmaY (mix := mix) hs .p1 (y := c) ⟨h0, by omega⟩
  have g2 := zmaY (mix := mix) hs .p2 (y := c) ⟨h0, by omega⟩
  simp only [P3.i] at g0 g1 g2
  have e6 : IntKind.i64.wrap (c + 1) = c + 1 := zbk (by omega) (by omega)
  have hr : roomOk 8 (List.length (acc ++ [c])) = true := by
   unfold roomOk
   simp only [List.length_append, List.length_cons, List.length_nil, decide_eq_true_eq]
   omega
  have i1 := ih (acc ++ [c]) (by simp only [List.length_append, List.length_cons, List.length_nil]; omega)
  have i2 := ih acc (by omega)
  simp only [zav]
  rw [decide_eq_true (show c ≤ s.Years.High by omega), g0, g1, g2, e6, hr, i1, i2]
  simp only [cond_true, yL, allC]
  rw [show c + 1 + (k : Int) = c + ((k + 1 : Nat) : Int) by omega]
  cases canB s mix .p0 c <;> cases canB s mix .p1 c <;> cases canB s mix .p2 c <;> simp
 | _ , 0, _, _, hf, _, _, _ => by omega
def yearsL (s : Gs) (mix : List Int) : List Int := yL (allC s mix) (yrsN s) s.Years.Low
theorem zadx {s : Gs} (hs : ShOk s) {mix : List Int} (hm : MixOk s mix) : zdj ⟨s, mix⟩ = some (yearsL s mix) := by
 have hy := hs.yrs
 have hk : s.Years.Low + (yrsN s : Int) = s.Years.High + 1 := by unfold yrsN; omega
 have hk2 : yrsN s ≤ 900 := by unfold yrsN; omega
 unfold zdj
 rw [zaaa hs hm]
 simp only [Option.bind_some, zadi hs (yrsN s) 1000000 _ [] (by omega) (Int.le_refl _) hk (by simp only [List.length_nil]; omega), lbind]
 rfl
theorem zaai {s : Gs} (hs : ShOk s) {mix : List Int} (hm : MixOk s mix) : zdd ⟨s, mix⟩ = some (!(yearsL s mix).isEmpty) := by
 unfold zdd
 rw [zadx hs hm, Option.bind_some]
 cases yearsL s mix with
 | nil => rfl
 | cons a l =>
  rw [decide_eq_true (by show ((a :: l).length : Int) > 0; simp only [List.length_cons]; omega)]
  rfl
def wordI (s : Gs) (mix : List Int) : Int := cond (surelyB s mix) 3 (cond (!(yearsL s mix).isEmpty) 2 1)
theorem zaob {s : Gs} (h : lenOk s.Tins = true) (mix : List Int) : zhw s mix = some (cond (sheetB s && mixB s mix) (wordI s mix, 0) (0, 2)) := by
 unfold zhw
 rw [ztm h]
 cases hb : sheetB s with
 | false => rfl
 | true =>
  have hs := ShOk.of hb
  simp only [Option.bind_some, cond_true, zace hs, Bool.true_and]
  cases hx : mixB s mix with
  | false => rfl
  | true =>
   have hm := MixOk.of hx
   simp only [cond_true, zagr hs hm, zaai hs hm, Option.bind_some, wordI]
   cases surelyB s mix <;> cases (yearsL s mix).isEmpty <;> rfl
def spanY : List Int → GSpan × Int
 | [] => (⟨0, 0⟩, 5)
 | a :: l => (⟨a, (a :: l).getLast (by simp)⟩, 0)
theorem zakq {s : Gs} (h : lenOk s.Tins = true) (mix : List Int) : zhi s mix = some (cond (sheetB s && mixB s mix) (spanY (yearsL s mix)) (⟨0, 0⟩, 2)) := by
 unfold zhi
 rw [ztm h]
 cases hb : sheetB s with
 | false => rfl
 | true =>
  have hs := ShOk.of hb
  simp only [Option.bind_some, cond_true, zace hs, Bool.true_and]
  cases hx : mixB s mix with
  | false => rfl
  | true =>
   have hm := MixOk.of hx
   have hy := hs.yrs
   have hlen : (yearsL s mix).length ≤ yrsN s := zann _ _
   have hk2 : yrsN s ≤ 900 := by unfold yrsN; omega
   simp only [cond_true, zadx hs hm, Option.bind_some]
   generalize yearsL s mix = Y at hlen
   cases Y with
   | nil => rfl
   | cons a l =>
    have e1 : (((a :: l).length : Int) == 0) = false := by rw [beq_eq_false_iff_ne, List.length_cons]; omega
    have e2 := zahq (xs := a :: l) (by simp) (by omega)
    rw [e1, e2, List.getLast?_eq_some_getLast (by simp), show getI (a :: l) 0 = some a from rfl]
    rfl
def ry (A : Int → Bool) : Nat → Int → Bool → Int → Int → Bool × Int × Int
 | 0, _, is, lo, hi => (is, lo, hi)
 | k + 1, c, is, lo, hi => cond (A c) (ry A k (c + 1) true (cond is lo c) c) (ry A k (c + 1) is lo hi)
theorem ry_eq (A : Int → Bool) : ∀ (k : Nat) (c : Int) (is : Bool) (lo hi : Int), ry A k c is lo hi = match yL A k c with
  | [] => (is, lo, hi)
  | a :: l => (true, cond is lo a, (a :: l).getLast (by simp))
 | 0, c, is, lo, hi => rfl
 | k + 1, c, is, lo, hi => by
  simp only [ry, yL]
  cases A c with
  | false => simp only [cond_false]; exact ry_eq A k (c + 1) is lo hi
  | true =>
   simp only [cond_true]
   rw [ry_eq A k (c + 1) true]
   cases yL A k (c + 1) with
   | nil => rfl
   | cons b l => simp [List.getLast_cons]
theorem zxl {s : Gs} (hs : ShOk s) {mix : List Int} (hm : MixOk s mix) : ∀ (k fuel : Nat) (c : Int) (is : Bool) (lo hi : Int), k < fuel → s.Years.Low ≤ c → c + k = s.Years.High + 1 → zbs s mix fuel is c lo hi = some (.go ((ry (allC s mix) k c is lo hi).1, c + k, (ry (allC s mix) k c is lo hi).2.1, (ry (allC s mix) k c is lo hi).2.2))
 | 0, fuel + 1, c, is, lo, hi, _, h0, hc => by
  simp only [zbs]
  rw [decide_eq_false (by show ¬ c ≤ s.Years.High; omega)]
  simp [ry]
 | k + 1, fuel + 1, c, is, lo, hi, hf, h0, hc => by
  have hyr := hs.yrs
  have ih := fun is lo hi => zxl hs hm k fuel (c + 1) is lo hi (by omega) (by omega) (by omega)
  have g0 := zacq hs hm .p0 (y := c) (by omega)
  have g1 := zacq hs hm .p1 (y := c) (by omega)
  have g2 := zacq hs hm .p2 (y := c) (by omega)
  simp only [P3.i] at g0 g1 g2
  have e6 : IntKind.i64.wrap (c + 1) = c + 1 := zbk (by omega) (by omega)
  simp only [zbs]
  rw [decide_eq_true (show c ≤ s.Years.High by omega), g0]
  simp only [Option.bind_some, cond_true, g1, g2, e6, ih, ry, allC]
  rw [show c + 1 + (k : Int) = c + ((k + 1 : Nat) : Int) by omega]
  cases canB s mix .p0 c <;> cases canB s mix .p1 c <;> cases canB s mix .p2 c <;> cases is <;> rfl
 | _ , 0, _, _, _, _, hf, _, _ => by omega
theorem zxx {s : Gs} (hs : ShOk s) {mix : List Int} (hm : MixOk s mix) : zfn s mix = some ((spanY (yearsL s mix)).1, !(yearsL s mix).isEmpty) := by
 have hy := hs.yrs
 have hk : s.Years.Low + (yrsN s : Int) = s.Years.High + 1 := by unfold yrsN; omega
 have hk2 : yrsN s ≤ 900 := by unfold yrsN; omega
 unfold zfn
 rw [zxl hs hm (yrsN s) 1000000 _ _ _ _ (by omega) (Int.le_refl _) hk, ry_eq]
 show lbind (some (.go _)) _ _ _ = _
 simp only [lbind, yearsL]
 cases yL (allC s mix) (yrsN s) s.Years.Low <;> rfl
def maxI (a b : Int) : Int := if a < b then b else a
def needI (s : Gs) (mix : List Int) : Int := maxI (maxI (maxI 0 (farI s mix .p0)) (farI s mix .p1)) (farI s mix .p2)
theorem zagw {s : Gs} (hs : ShOk s) {mix : List Int} (hm : MixOk s mix) : zfq s mix = some (needI s mix) := by
 have hl := hs.n
 have hn := hm.n
 have hne : (sumL mix != 0) = true := by have := hm.s; simp; omega
 have e : ∀ p, IntKind.i64.wrap (Int.tdiv (IntKind.i64.wrap ((IntKind.i64.wrap ((if (IntKind.i64.wrap ((sumsP s mix p).High - (IntKind.i64.wrap (sumL mix * (aimP s p).Low)))) < (IntKind.i64.wrap ((IntKind.i64.wrap (sumL mix * (aimP s p).High)) - (sumsP s mix p).Low)) then (IntKind.i64.wrap ((IntKind.i64.wrap (sumL mix * (aimP s p).High)) - (sumsP s mix p).Low)) else (IntKind.i64.wrap ((sumsP s mix p).High - (IntKind.i64.wrap (sumL mix * (aimP s p).Low))))) + sumL mix)) - 1)) (sumL mix)) = farI s mix p := by
  intro p
  have h := zard hs hm p
  unfold zbh at h
  rw [zads hs hm, zapu hs, zwo hs hm] at h
  simp only [Option.bind_some, hne, cond_true] at h
  cases p <;> simp only [P3.i, Int.reduceBEq, cond_true, cond_false, Option.some.injEq] at h <;> exact h
 have a0 := e .p0
 have a1 := e .p1
 have a2 := e .p2
 unfold zfq
 rw [zaqb hs, zaee hs hm, zrs hm.b (by omega)]
 simp only [Option.bind_some]
 rw [show Int.toNat (3 - 0) = 3 from rfl, show boundOk 3 = true from rfl]
 simp only [zdc, Int.reduceAdd, Int.reduceBEq, cond_true, cond_false, hne]
 simp only [show (sumsS s mix).a0 = sumsP s mix .p0 from rfl, show (sumsS s mix).a1 = sumsP s mix .p1 from rfl, show (sumsS s mix).a2 = sumsP s mix .p2 from rfl, show (aimS s).a0 = aimP s .p0 from rfl, show (aimS s).a1 = aimP s .p1 from rfl, show (aimS s).a2 = aimP s .p2 from rfl, a0, a1, a2, lbind]
 rfl
theorem zalo {s : Gs} {mix : List Int} {k : Int} (hk : 0 ≤ k) : needI s mix ≤ k ↔ ∀ p, farI s mix p ≤ k := by
 have h : ∀ a b : Int, maxI a b ≤ k ↔ a ≤ k ∧ b ≤ k := by
  intro a b
  unfold maxI
  split <;> omega
 unfold needI
 rw [h, h, h]
 constructor
 ·rintro ⟨⟨⟨_, a⟩, b⟩, c⟩ p
  cases p <;> assumption
 ·intro h
  exact ⟨⟨⟨hk, h .p0⟩, h .p1⟩, h .p2⟩
theorem zaao {s : Gs} (hs : ShOk s) {mix : List Int} : surelyB s mix = decide (needI s mix ≤ s.Off) := by
 rw [Bool.eq_iff_iff, decide_eq_true_eq, zalo (by have := hs.off; omega)]
 simp only [surelyB, Bool.and_eq_true, decide_eq_true_eq]
 constructor
 ·rintro ⟨a, b, c⟩ p
  cases p <;> assumption
 ·intro h
  exact ⟨h .p0, h .p1, h .p2⟩
theorem zajk {s : Gs} (hs : ShOk s) {mix : List Int} (hm : MixOk s mix) : zgc s mix = some (wordI s mix) := by
 unfold zgc wordI
 rw [zagw hs hm, zaao hs, zxx hs hm]
 simp only [Option.bind_some]
 cases decide (needI s mix ≤ s.Off) <;> cases (yearsL s mix).isEmpty <;> rfl
end Go.V
end
