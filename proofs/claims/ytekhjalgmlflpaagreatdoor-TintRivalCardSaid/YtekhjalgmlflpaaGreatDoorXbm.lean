/- Part of a proof. -/
import Derived.Test.YtekhjalgmlflpaaGreatDoorXbl
set_option linter.all false
set_option maxRecDepth 4000
set_option maxHeartbeats 40000000
section
namespace Go.V
open Go Go.Proofs
def zfh (x0_s : Gs) (x1_a1 : List Int) : Option (Bool) := Option.bind (zgk x0_s x1_a1) (fun r1 => cond (r1) (Option.bind (zga x0_s) (fun r2 => Option.bind (zjl x0_s) (fun r3 => Option.bind (zgc x0_s) (fun r4 => Option.bind (zav x0_s x1_a1) (fun r5 => cond (r5.2) (cond (r2.2 != 0) (cond (r2.2 != 5) (some false) (cond (r3.2 != 0) (cond (r3.2 != 5) (some false) (cond (r4.2 != 0) (some false) (cond (decide (r4.1 < 0)) (some false) (cond (decide (r4.1 > 494)) (some false) (cond ((decide (r4.1 > 0)) != (r2.2 == 0)) (some false) (cond (r2.2 == 0) (some false) (cond (r5.1 == 3) (some false) (cond (r5.1 != 1) (some false) (some true))))))))) (cond (r4.2 != 0) (some false) (cond (decide (r4.1 < 0)) (some false) (cond (decide (r4.1 > 494)) (some false) (cond ((decide (r4.1 > 0)) != (r2.2 == 0)) (some false) (cond (r2.2 == 0) (cond (r5.1 == 3) (some false) (cond (r5.1 != 1) (Option.bind (zbd x0_s r3.1) (fun r6 => cond (r6) (Option.bind (zav x0_s r3.1) (fun r7 => cond (r7.2) (cond (r7.1 == 1) (some false) (Option.bind (zal x1_a1 r3.1) (fun r8 => cond (r8) (some false) (some true)))) (some false))) (some false))) (Option.bind (zbd x0_s r3.1) (fun r9 => cond (r9) (Option.bind (zav x0_s r3.1) (fun r10 => cond (r10.2) (cond (r10.1 == 1) (some false) (some true)) (some false))) (some false))))) (cond (r5.1 == 3) (some false) (cond (r5.1 != 1) (Option.bind (zbd x0_s r3.1) (fun r11 => cond (r11) (Option.bind (zav x0_s r3.1) (fun r12 => cond (r12.2) (cond (r12.1 == 1) (some false) (Option.bind (zal x1_a1 r3.1) (fun r13 => cond (r13) (some false) (some true)))) (some false))) (some false))) (Option.bind (zbd x0_s r3.1) (fun r14 => cond (r14) (Option.bind (zav x0_s r3.1) (fun r15 => cond (r15.2) (cond (r15.1 == 1) (some false) (some true)) (some false))) (some false)))))))))))) (cond (r3.2 != 0) (cond (r3.2 != 5) (some false) (cond (r4.2 != 0) (some false) (cond (decide (r4.1 < 0)) (some false) (cond (decide (r4.1 > 494)) (some false) (cond ((decide (r4.1 > 0)) != (r2.2 == 0)) (some false) (cond (r2.2 == 0) (some false) (cond (r5.1 == 3) (cond (r5.1 != 1) (some false) (some true)) (cond (r5.1 != 1) (some false) (some true))))))))) (cond (r4.2 != 0) (some false) (cond (decide (r4.1 < 0)) (some false) (cond (decide (r4.1 > 494)) (some false) (cond ((decide (r4.1 > 0)) != (r2.2 == 0)) (some false) (cond (r2.2 == 0) (cond (r5.1 == 3) (cond (r5.1 != 1) (Option.bind (zbd x0_s r3.1) (fun r16 => cond (r16) (Option.bind (zav x0_s r3.1) (fun r17 => cond (r17.2) (cond (r17.1 == 1) (some false) (Option.bind (zal x1_a1 r3.1) (fun r18 => cond (r18) (some false) (Option.bind (zbd x0_s r2.1) (fun r19 => cond (r19) (Option.bind (zal r2.1 r3.1) (fun r20 => cond (r20) (some false) (Option.bind (zav x0_s r2.1) (fun r21 => cond (r21.2) (cond (r21.1 == 3) (cond (r5.1 != 3) (some true) (Option.bind (zal x1_a1 r2.1) (fun r22 => cond (r22) (some false) (Option.bind (zce x1_a1 r2.1) (fun r23 => cond (r23) (some true) (cond (decide (r4.1 > 1)) (some true) (some false))))))) (some false)) (some false))))) (some false)))))) (some false))) (some false))) (Option.bind (zbd x0_s r3.1) (fun r24 => cond (r24) (Option.bind (zav x0_s r3.1) (fun r25 => cond (r25.2) (cond (r25.1 == 1) (some false) (Option.bind (zbd x0_s r2.1) (fun r26 => cond (r26) (Option.bind (zal r2.1 r3.1) (fun r27 => cond (r27) (some false) (Option.bind (zav x0_s r2.1) (fun r28 => cond (r28.2) (cond (r28.1 == 3) (cond (r5.1 != 3) (some true) (Option.bind (zal x1_a1 r2.1) (fun r29 => cond (r29) (some false) (Option.bind (zce x1_a1 r2.1) (fun r30 => cond (r30) (some true) (cond (decide (r4.1 > 1)) (some true) (some false))))))) (some false)) (some false))))) (some false)))) (some false))) (some false)))) (cond (r5.1 != 1) (Option.bind (zbd x0_s r3.1) (fun r31 => cond (r31) (Option.bind (zav x0_s r3.1) (fun r32 => cond (r32.2) (cond (r32.1 == 1) (some false) (Option.bind (zal x1_a1 r3.1) (fun r33 => cond (r33) (some false) (Option.bind (zbd x0_s r2.1) (fun r34 => cond (r34) (Option.bind (zal r2.1 r3.1) (fun r35 => cond (r35) (some false) (Option.bind (zav x0_s r2.1) (fun r36 => cond (r36.2) (cond (r36.1 == 3) (cond (r5.1 != 3) (some true) (Option.bind (zal x1_a1 r2.1) (fun r37 => cond (r37) (some false) (Option.bind (zce x1_a1 r2.1) (fun r38 => cond (r38) (some true) (cond (decide (r4.1 > 1)) (some true) (some false))))))) (some false)) (some false))))) (some false)))))) (some false))) (some false))) (Option.bind (zbd x0_s r3.1) (fun r39 => cond (r39) (Option.bind (zav x0_s r3.1) (fun r40 => cond (r40.2) (cond (r40.1 == 1) (some false) (Option.bind (zbd x0_s r2.1) (fun r41 => cond (r41) (Option.bind (zal r2.1 r3.1) (fun r42 => cond (r42) (some false) (Option.bind (zav x0_s r2.1) (fun r43 => cond (r43.2) (cond (r43.1 == 3) (cond (r5.1 != 3) (some true) (Option.bind (zal x1_a1 r2.1) (fun r44 => cond (r44) (some false) (Option.bind (zce x1_a1 r2.1) (fun r45 => cond (r45) (some true) (cond (decide (r4.1 > 1)) (some true) (some false))))))) (some false)) (some false))))) (some false)))) (some false))) (some false))))) (cond (r5.1 == 3) (cond (r5.1 != 1) (Option.bind (zbd x0_s r3.1) (fun r46 => cond (r46) (Option.bind (zav x0_s r3.1) (fun r47 => cond (r47.2) (cond (r47.1 == 1) (some false) (Option.bind (zal x1_a1 r3.1) (fun r48 => cond (r48) (some false) (Option.bind (zbd x0_s r2.1) (fun r49 => cond (r49) (Option.bind (zal r2.1 r3.1) (fun r50 => cond (r50) (some false) (Option.bind (zav x0_s r2.1) (fun r51 => cond (r51.2) (cond (r51.1 == 3) (cond (r5.1 != 3) (some true) (Option.bind (zal x1_a1 r2.1) (fun r52 => cond (r52) (some false) (Option.bind (zce x1_a1 r2.1) (fun r53 => cond (r53) (some true) (cond (decide (r4.1 > 1)) (some true) (some false))))))) (some false)) (some false))))) (some false)))))) (some false))) (some false))) (Option.bind (zbd x0_s r3.1) (fun r54 => cond (r54) (Option.bind (zav x0_s r3.1) (fun r55 => cond (r55.2) (cond (r55.1 == 1) (some false) (Option.bind (zbd x0_s r2.1) (fun r56 => cond (r56) (Option.bind (zal r2.1 r3.1) (fun r57 => cond (r57) (some false) (Option.bind (zav x0_s r2.1) (fun r58 => cond (r58.2) (cond (r58.1 == 3) (cond (r5.1 != 3) (some true) (Option.bind (zal x1_a1 r2.1) (fun r59 => cond (r59) (some false) (Option.bind (zce x1_a1 r2.1) (fun r60 => cond (r60) (some true) (cond (decide (r4.1 > 1)) (some true) (some false))))))) (some false)) (some false))))) (some false)))) (some false))) (some false)))) (cond (r5.1 != 1) (Option.bind (zbd x0_s r3.1) (fun r61 => cond (r61) (Option.bind (zav x0_s r3.1) (fun r62 => cond (r62.2) (cond (r62.1 == 1) (some false) (Option.bind (zal x1_a1 r3.1) (fun r63 => cond (r63) (some false) (Option.bind (zbd x0_s r2.1) (fun r64 => cond (r64) (Option.bind (zal r2.1 r3.1) (fun r65 => cond (r65) (some false) (Option.bind (zav x0_s r2.1) (fun r66 => cond (r66.2) (cond (r66.1 == 3) (cond (r5.1 != 3) (some true) (Option.bind (zal x1_a1 r2.1) (fun r67 => cond (r67) (some false) (Option.bind (zce x1_a1 r2.1) (fun r68 => cond (r68) (some true) (cond (decide (r4.1 > 1)) (some true) (some false))))))) (some false)) (some false))))) (some false)))))) (some false))) (some false))) (Option.bind (zbd x0_s r3.1) (fun r69 => cond (r69) (Option.bind (zav x0_s r3.1) (fun r70 => cond (r70.2) (cond (r70.1 == 1) (some false) (Option.bind (zbd x0_s r2.1) (fun r71 => cond (r71) (Option.bind (zal r2.1 r3.1) (fun r72 => cond (r72) (some false) (Option.bind (zav x0_s r2.1) (fun r73 => cond (r73.2) (cond (r73.1 == 3) (cond (r5.1 != 3) (some true) (Option.bind (zal x1_a1 r2.1) (fun r74 => cond (r74) (some false) (Option.bind (zce x1_a1 r2.1) (fun r75 => cond (r75) (some true) (cond (decide (r4.1 > 1)) (some true) (some false))))))) (some false)) (some false))))) (some false)))) (some false))) (some false)))))))))))) (some false)))))) (some true))
theorem zkj (x0_s : Gs) (x1_a1 : List Int) (R : Bool) (h : zfh x0_s x1_a1 = some R) : VPure Tryz.prog G0 12 [.agg (cGs x0_s), .sl (cellsL eI x1_a1) (List.length x1_a1) false] (.tree (.lit (.bool R))) := by
 refine VPure.runR mixed Tryz.call12 Tryz.func12 rfl (by simp [Tryz.ntmps12]; kernel_rfl) ?_
 obtain ⟨KF, h, kF, kN⟩ := zan h
 simp only [zfh] at h
 obtain ⟨r76, o77, h⟩ := optI h kN
 try simp only [hs] at h
 simp only [vz, tyf, nm, seval]
 refine ktA (znv _ _ _ o77) ?_
 refine zab (fun tm => tm 1 = .sl (cellsL eI x1_a1) (List.length x1_a1) false ∧ tm 2 = .ptr 0 0 ∧ tm 19 = .lit (.bool r76) ∧ True) (by refine ⟨?_, ?_, ?_, trivial⟩ <;> first | (simp only [ua, nm, seval] <;> rfl) | rfl) ?_
 rintro tm ⟨e78, e79, e80, _⟩
 cases d81 : (r76)
 ·simp only [d81, hs] at h
  simp only [vz, tyf, e78, e79, e80, d81, nm, seval]
  refine ktree0 zad ?_
  try simp only [vz, tyf, e78, e79, e80, d81, nm, seval]
  obtain rfl := kF _ h
  exact zaa Tryz.results12 rfl
 simp only [d81, hs] at h
 obtain ⟨r82, o83, h⟩ := optI h kN
 try simp only [hs] at h
 simp only [vz, tyf, e78, e79, e80, d81, nm, seval]
 refine ktA (zke _ _ o83) ?_
 refine zab (fun tm => tm 1 = .sl (cellsL eI x1_a1) (List.length x1_a1) false ∧ tm 2 = .ptr 0 0 ∧ tm 24 = .tup [.sl (cellsL eI r82.1) (List.length r82.1) false, .lit (.int .i64 r82.2)] ∧ True) (by refine ⟨e78, e79, ?_, trivial⟩ <;> first | (simp only [ua, e78, e79, e80, d81, nm, seval] <;> rfl) | rfl) ?_
 rintro tm ⟨e84, e85, e86, _⟩
 obtain ⟨r87, o88, h⟩ := optI h kN
 try simp only [hs] at h
 simp only [vz, tyf, d81, e84, e85, e86, nm, seval]
 refine ktA (zsl _ _ o88) ?_
 refine zab (fun tm => tm 1 = .sl (cellsL eI x1_a1) (List.length x1_a1) false ∧ tm 2 = .ptr 0 0 ∧ tm 5 = .sl (cellsL eI r82.1) (List.length r82.1) false ∧ tm 6 = .lit (.int .i64 r82.2) ∧ tm 29 = .tup [.sl (cellsL eI r87.1) (List.length r87.1) false, .lit (.int .i64 r87.2)] ∧ True) (by refine ⟨e84, e85, ?_, ?_, ?_, trivial⟩ <;> first | (simp only [ua, d81, e84, e85, e86, nm, seval] <;> rfl) | rfl) ?_
 rintro tm ⟨e89, e90, e91, e92, e93, _⟩
 obtain ⟨r94, o95, h⟩ := optI h kN
 try simp only [hs] at h
 simp only [vz, tyf, d81, e89, e90, e91, e92, e93, nm, seval]
 refine ktA (zkc _ _ o95) ?_
 refine zab (fun tm => tm 1 = .sl (cellsL eI x1_a1) (List.length x1_a1) false ∧ tm 2 = .ptr 0 0 ∧ tm 5 = .sl (cellsL eI r82.1) (List.length r82.1) false ∧ tm 6 = .lit (.int .i64 r82.2) ∧ tm 7 = .sl (cellsL eI r87.1) (List.length r87.1) false ∧ tm 8 = .lit (.int .i64 r87.2) ∧ tm 34 = .tup [.lit (.int .i64 r94.1), .lit (.int .i64 r94.2)] ∧ True) (by refine ⟨e89, e90, e91, e92, ?_, ?_, ?_, trivial⟩ <;> first | (simp only [ua, d81, e89, e90, e91, e92, e93, nm, seval] <;> rfl) | rfl) ?_
 rintro tm ⟨e96, e97, e98, e99, e100, e101, e102, _⟩
 obtain ⟨r103, o104, h⟩ := optI h kN
 try simp only [hs] at h
 simp only [vz, tyf, d81, e96, e97, e98, e99, e100, e101, e102, nm, seval]
 refine ktA (zao _ _ _ o104) ?_
 refine zab (fun tm => tm 1 = .sl (cellsL eI x1_a1) (List.length x1_a1) false ∧ tm 2 = .ptr 0 0 ∧ tm 5 = .sl (cellsL eI r82.1) (List.length r82.1) false ∧ tm 6 = .lit (.int .i64 r82.2) ∧ tm 7 = .sl (cellsL eI r87.1) (List.length r87.1) false ∧ tm 8 = .lit (.int .i64 r87.2) ∧ tm 9 = .lit (.int .i64 r94.1) ∧ tm 10 = .lit (.int .i64 r94.2) ∧ tm 40 = .tup [.lit (.int .i64 r103.1), .lit (.bool r103.2)] ∧ True) (by refine ⟨e96, e97, e98, e99, e100, e101, ?_, ?_, ?_, trivial⟩ <;> first | (simp only [ua, d81, e96, e97, e98, e99, e100, e101, e102, nm, seval] <;> rfl) | rfl) ?_
 rintro tm ⟨e105, e106, e107, e108, e109, e110, e111, e112, e113, _⟩
 cases d114 : (r103.2)
 ·simp only [d114, hs] at h
  try simp only [vz, tyf, d81, e105, e106, e107, e108, e109, e110, e111, e112, e113, d114, nm, seval]
  obtain rfl := kF _ h
  exact zaa Tryz.results12 rfl
 simp only [d114, hs] at h
 cases d115 : (r82.2 != 0)
 ·simp only [d115, hs] at h
  cases d116 : (r87.2 != 0)
  ·simp only [d116, hs] at h
   cases d117 : (r94.2 != 0)
   ·simp only [d117, hs] at h
    cases d118 : (decide (r94.1 < 0))
    ·simp only [d118, hs] at h
     cases d119 : (decide (r94.1 > 494))
     ·simp only [d119, hs] at h
      have b120 := And.intro d81 (And.intro d114 (And.intro d115 (And.intro d116 (And.intro d117 (And.intro d118 d119)))))
      cases d121 : ((decide (r94.1 > 0)) != (r82.2 == 0))
      ·simp only [d121, hs] at h
       cases d122 : (r82.2 == 0)
       ·simp only [d122, hs] at h
        have d123 := d121
        simp only [d122] at d123
        cases d124 : (r103.1 == 3)
        ·simp only [d124, hs] at h
         cases d125 : (r103.1 != 1)
         ·simp only [d125, hs] at h
          obtain ⟨r126, o127, h⟩ := optI h kN
          try simp only [hs] at h
          simp only [vz, tyf, b120, e105, e106, e107, e108, e109, e110, e111, e112, e113, d121, d122, d123, d124, d125, nm, seval]
          refine ktA (zau _ _ _ o127) ?_
          refine zab (fun tm => tm 1 = .sl (cellsL eI x1_a1) (List.length x1_a1) false ∧ tm 2 = .ptr 0 0 ∧ tm 5 = .sl (cellsL eI r82.1) (List.length r82.1) false ∧ tm 6 = .lit (.int .i64 r82.2) ∧ tm 7 = .sl (cellsL eI r87.1) (List.length r87.1) false ∧ tm 9 = .lit (.int .i64 r94.1) ∧ tm 11 = .lit (.int .i64 r103.1) ∧ tm 109 = .lit (.bool r126) ∧ True) (by refine ⟨e105, e106, e107, e108, e109, e111, ?_, ?_, trivial⟩ <;> first | (simp only [ua, b120, e105, e106, e107, e108, e109, e110, e111, e112, e113, d121, d122, d123, d124, d125, nm, seval] <;> rfl) | rfl) ?_
          rintro tm ⟨e128, e129, e130, e131, e132, e133, e134, e135, _⟩
          cases d136 : (r126)
          ·simp only [d136, hs] at h
           have b137 := And.intro b120 (And.intro d121 (And.intro d122 (And.intro d123 (And.intro d124 (And.intro d125 d136)))))
           try simp only [vz, tyf, b137, e128, e129, e130, e131, e132, e133, e134, e135, nm, seval]
           obtain rfl := kF _ h
           exact zaa Tryz.results12 rfl
          simp only [d136, hs] at h
          have b138 := And.intro b120 (And.intro d121 (And.intro d122 (And.intro d123 (And.intro d124 (And.intro d125 d136)))))
          obtain ⟨r139, o140, h⟩ := optI h kN
          try simp only [hs] at h
          simp only [vz, tyf, b138, e128, e129, e130, e131, e132, e133, e134, e135, nm, seval]
          refine ktA (zao _ _ _ o140) ?_
          refine zab (fun tm => tm 1 = .sl (cellsL eI x1_a1) (List.length x1_a1) false ∧ tm 2 = .ptr 0 0 ∧ tm 5 = .sl (cellsL eI r82.1) (List.length r82.1) false ∧ tm 6 = .lit (.int .i64 r82.2) ∧ tm 7 = .sl (cellsL eI r87.1) (List.length r87.1) false ∧ tm 9 = .lit (.int .i64 r94.1) ∧ tm 11 = .lit (.int .i64 r103.1) ∧ tm 114 = .tup [.lit (.int .i64 r139.1), .lit (.bool r139.2)] ∧ True) (by refine ⟨e128, e129, e130, e131, e132, e133, e134, ?_, trivial⟩ <;> first | (simp only [ua, b138, e128, e129, e130, e131, e132, e133, e134, e135, nm, seval] <;> rfl) | rfl) ?_
          rintro tm ⟨e141, e142, e143, e144, e145, e146, e147, e148, _⟩
          cases d149 : (r139.2)
          ·simp only [d149, hs] at h
           try simp only [vz, tyf, b138, e141, e142, e143, e144, e145, e146, e147, e148, d149, nm, seval]
           obtain rfl := kF _ h
           exact zaa Tryz.results12 rfl
          simp only [d149, hs] at h
          cases d150 : (r139.1 == 1)
          ·simp only [d150, hs] at h
           obtain ⟨r151, o152, h⟩ := optI h kN
           try simp only [hs] at h
           simp only [vz, tyf, b138, e141, e142, e143, e144, e145, e146, e147, e148, d149, d150, nm, seval]
           refine ktA (zau _ _ _ o152) ?_
           refine zab (fun tm => tm 1 = .sl (cellsL eI x1_a1) (List.length x1_a1) false ∧ tm 2 = .ptr 0 0 ∧ tm 5 = .sl (cellsL eI r82.1) (List.length r82.1) false ∧ tm 7 = .sl (cellsL eI r87.1) (List.length r87.1) false ∧ tm 9 = .lit (.int .i64 r94.1) ∧ tm 11 = .lit (.int .i64 r103.1) ∧ tm 137 = .lit (.bool r151) ∧ True) (by refine ⟨e141, e142, e143, e145, e146, e147, ?_, trivial⟩ <;> first | (simp only [ua, b138, e141, e142, e143, e144, e145, e146, e147, e148, d149, d150, nm, seval] <;> rfl) | rfl) ?_
           rintro tm ⟨e153, e154, e155, e156, e157, e158, e159, _⟩
           cases d160 : (r151)
           ·simp only [d160, hs] at h
            try simp only [vz, tyf, b138, d149, d150, e153, e154, e155, e156, e157, e158, e159, d160, nm, seval]
            obtain rfl := kF _ h
            exact zaa Tryz.results12 rfl
           simp only [d160, hs] at h
           obtain ⟨r161, o162, h⟩ := optI h kN
           try simp only [hs] at h
           simp only [vz, tyf, b138, d149, d150, e153, e154, e155, e156, e157, e158, e159, d160, nm, seval]
           refine ktA (zai _ _ _ o162) ?_
           refine zab (fun tm => tm 1 = .sl (cellsL eI x1_a1) (List.length x1_a1) false ∧ tm 2 = .ptr 0 0 ∧ tm 5 = .sl (cellsL eI r82.1) (List.length r82.1) false ∧ tm 9 = .lit (.int .i64 r94.1) ∧ tm 11 = .lit (.int .i64 r103.1) ∧ tm 139 = .lit (.bool false) ∧ tm 142 = .lit (.bool r161) ∧ True) (by refine ⟨e153, e154, e155, e157, e158, ?_, ?_, trivial⟩ <;> first | (simp only [ua, b138, d149, d150, e153, e154, e155, e156, e157, e158, e159, d160, nm, seval] <;> rfl) | rfl) ?_
           rintro tm ⟨e163, e164, e165, e166, e167, e168, e169, _⟩
           cases d170 : (r161)
           ·simp only [d170, hs] at h
            obtain ⟨r171, o172, h⟩ := optI h kN
            try simp only [hs] at h
            simp only [vz, tyf, b138, d149, d150, d160, e163, e164, e165, e166, e167, e168, e169, d170, nm, seval]
            refine ktA (zao _ _ _ o172) ?_
            refine zab (fun tm => tm 1 = .sl (cellsL eI x1_a1) (List.length x1_a1) false ∧ tm 5 = .sl (cellsL eI r82.1) (List.length r82.1) false ∧ tm 9 = .lit (.int .i64 r94.1) ∧ tm 11 = .lit (.int .i64 r103.1) ∧ tm 147 = .tup [.lit (.int .i64 r171.1), .lit (.bool r171.2)] ∧ True) (by refine ⟨e163, e165, e166, e167, ?_, trivial⟩ <;> first | (simp only [ua, b138, d149, d150, d160, e163, e164, e165, e166, e167, e168, e169, d170, nm, seval] <;> rfl) | rfl) ?_
            rintro tm ⟨e173, e174, e175, e176, e177, _⟩
            cases d178 : (r171.2)
            ·simp only [d178, hs] at h
             try simp only [vz, tyf, b138, d149, d150, d160, d170, e173, e174, e175, e176, e177, d178, nm, seval]
             obtain rfl := kF _ h
             exact zaa Tryz.results12 rfl
            simp only [d178, hs] at h
            cases d179 : (r171.1 == 3)
            ·simp only [d179, hs] at h
             have b180 := And.intro b138 (And.intro d149 (And.intro d150 (And.intro d160 (And.intro d170 (And.intro d178 d179)))))
             try simp only [vz, tyf, b180, e173, e174, e175, e176, e177, nm, seval]
             obtain rfl := kF _ h
             exact zaa Tryz.results12 rfl
            simp only [d179, hs] at h
            have b181 := And.intro b138 (And.intro d149 (And.intro d150 (And.intro d160 (And.intro d170 (And.intro d178 d179)))))
            cases d182 : (r103.1 != 3)
            ·simp only [d182, hs] at h
             obtain ⟨r183, o184, h⟩ := optI h kN
             try simp only [hs] at h
             simp only [vz, tyf, b181, e173, e174, e175, e176, e177, d182, nm, seval]
             refine ktA (zai _ _ _ o184) ?_
             refine zab (fun tm => tm 1 = .sl (cellsL eI x1_a1) (List.length x1_a1) false ∧ tm 5 = .sl (cellsL eI r82.1) (List.length r82.1) false ∧ tm 9 = .lit (.int .i64 r94.1) ∧ tm 155 = .lit (.bool true) ∧ tm 158 = .lit (.bool false) ∧ tm 161 = .lit (.bool r183) ∧ True) (by refine ⟨e173, e174, e175, ?_, ?_, ?_, trivial⟩ <;> first | (simp only [ua, b181, e173, e174, e175, e176, e177, d182, nm, seval] <;> rfl) | rfl) ?_
             rintro tm ⟨e185, e186, e187, e188, e189, e190, _⟩
             cases d191 : (r183)
             ·simp only [d191, hs] at h
              obtain ⟨r192, o193, h⟩ := optI h kN
              try simp only [hs] at h
              simp only [vz, tyf, b181, d182, e185, e186, e187, e188, e189, e190, d191, nm, seval]
              refine ktA (zdc _ _ _ o193) ?_
              refine zab (fun tm => tm 9 = .lit (.int .i64 r94.1) ∧ tm 155 = .lit (.bool true) ∧ tm 158 = .lit (.bool false) ∧ tm 163 = .lit (.bool true) ∧ tm 166 = .lit (.bool r192) ∧ True) (by refine ⟨e187, e188, e189, ?_, ?_, trivial⟩ <;> first | (simp only [ua, b181, d182, e185, e186, e187, e188, e189, e190, d191, nm, seval] <;> rfl) | rfl) ?_
              rintro tm ⟨e194, e195, e196, e197, e198, _⟩
              cases d199 : (r192)
              ·simp only [d199, hs] at h
               cases d200 : (decide (r94.1 > 1))
               ·simp only [d200, hs] at h
                try simp only [vz, tyf, b181, d182, d191, e194, e195, e196, e197, e198, d199, d200, nm, seval]
                obtain rfl := kF _ h
                exact zaa Tryz.results12 rfl
               simp only [d200, hs] at h
               simp only [vz, tyf, b181, d182, d191, e194, e195, e196, e197, e198, d199, d200, nm, seval]
               refine ktree0 zad ?_
               try simp only [vz, tyf, b181, d182, d191, e194, e195, e196, e197, e198, d199, d200, nm, seval]
               obtain rfl := kF _ h
               exact zaa Tryz.results12 rfl
              simp only [d199, hs] at h
              simp only [vz, tyf, b181, d182, d191, e194, e195, e196, e197, e198, d199, nm, seval]
              refine ktree0 zad ?_
              try simp only [vz, tyf, b181, d182, d191, e194, e195, e196, e197, e198, d199, nm, seval]
              obtain rfl := kF _ h
              exact zaa Tryz.results12 rfl
             simp only [d191, hs] at h
             try simp only [vz, tyf, b181, d182, e185, e186, e187, e188, e189, e190, d191, nm, seval]
             obtain rfl := kF _ h
             exact zaa Tryz.results12 rfl
            simp only [d182, hs] at h
            simp only [vz, tyf, b181, e173, e174, e175, e176, e177, d182, nm, seval]
            refine ktree0 zad ?_
            try simp only [vz, tyf, b181, e173, e174, e175, e176, e177, d182, nm, seval]
            obtain rfl := kF _ h
            exact zaa Tryz.results12 rfl
           simp only [d170, hs] at h
           try simp only [vz, tyf, b138, d149, d150, d160, e163, e164, e165, e166, e167, e168, e169, d170, nm, seval]
           obtain rfl := kF _ h
           exact zaa Tryz.results12 rfl
          simp only [d150, hs] at h
          try simp only [vz, tyf, b138, e141, e142, e143, e144, e145, e146, e147, e148, d149, d150, nm, seval]
          obtain rfl := kF _ h
          exact zaa Tryz.results12 rfl
         simp only [d125, hs] at h
         obtain ⟨r201, o202, h⟩ := optI h kN
         try simp only [hs] at h
         simp only [vz, tyf, b120, e105, e106, e107, e108, e109, e110, e111, e112, e113, d121, d122, d123, d124, d125, nm, seval]
         refine ktA (zau _ _ _ o202) ?_
         refine zab (fun tm => tm 1 = .sl (cellsL eI x1_a1) (List.length x1_a1) false ∧ tm 2 = .ptr 0 0 ∧ tm 5 = .sl (cellsL eI r82.1) (List.length r82.1) false ∧ tm 6 = .lit (.int .i64 r82.2) ∧ tm 7 = .sl (cellsL eI r87.1) (List.length r87.1) false ∧ tm 9 = .lit (.int .i64 r94.1) ∧ tm 11 = .lit (.int .i64 r103.1) ∧ tm 109 = .lit (.bool r201) ∧ True) (by refine ⟨e105, e106, e107, e108, e109, e111, ?_, ?_, trivial⟩ <;> first | (simp only [ua, b120, e105, e106, e107, e108, e109, e110, e111, e112, e113, d121, d122, d123, d124, d125, nm, seval] <;> rfl) | rfl) ?_
         rintro tm ⟨e203, e204, e205, e206, e207, e208, e209, e210, _⟩
         cases d211 : (r201)
         ·simp only [d211, hs] at h
          have b212 := And.intro b120 (And.intro d121 (And.intro d122 (And.intro d123 (And.intro d124 (And.intro d125 d211)))))
          try simp only [vz, tyf, b212, e203, e204, e205, e206, e207, e208, e209, e210, nm, seval]
          obtain rfl := kF _ h
          exact zaa Tryz.results12 rfl
         simp only [d211, hs] at h
         have b213 := And.intro b120 (And.intro d121 (And.intro d122 (And.intro d123 (And.intro d124 (And.intro d125 d211)))))
         obtain ⟨r214, o215, h⟩ := optI h kN
         try simp only [hs] at h
         simp only [vz, tyf, b213, e203, e204, e205, e206, e207, e208, e209, e210, nm, seval]
         refine ktA (zao _ _ _ o215) ?_
         refine zab (fun tm => tm 1 = .sl (cellsL eI x1_a1) (List.length x1_a1) false ∧ tm 2 = .ptr 0 0 ∧ tm 5 = .sl (cellsL eI r82.1) (List.length r82.1) false ∧ tm 6 = .lit (.int .i64 r82.2) ∧ tm 7 = .sl (cellsL eI r87.1) (List.length r87.1) false ∧ tm 9 = .lit (.int .i64 r94.1) ∧ tm 11 = .lit (.int .i64 r103.1) ∧ tm 114 = .tup [.lit (.int .i64 r214.1), .lit (.bool r214.2)] ∧ True) (by refine ⟨e203, e204, e205, e206, e207, e208, e209, ?_, trivial⟩ <;> first | (simp only [ua, b213, e203, e204, e205, e206, e207, e208, e209, e210, nm, seval] <;> rfl) | rfl) ?_
         rintro tm ⟨e216, e217, e218, e219, e220, e221, e222, e223, _⟩
         cases d224 : (r214.2)
         ·simp only [d224, hs] at h
          try simp only [vz, tyf, b213, e216, e217, e218, e219, e220, e221, e222, e223, d224, nm, seval]
          obtain rfl := kF _ h
          exact zaa Tryz.results12 rfl
         simp only [d224, hs] at h
         cases d225 : (r214.1 == 1)
         ·simp only [d225, hs] at h
          obtain ⟨r226, o227, h⟩ := optI h kN
          try simp only [hs] at h
          simp only [vz, tyf, b213, e216, e217, e218, e219, e220, e221, e222, e223, d224, d225, nm, seval]
          refine ktA (zai _ _ _ o227) ?_
          refine zab (fun tm => tm 1 = .sl (cellsL eI x1_a1) (List.length x1_a1) false ∧ tm 2 = .ptr 0 0 ∧ tm 5 = .sl (cellsL eI r82.1) (List.length r82.1) false ∧ tm 6 = .lit (.int .i64 r82.2) ∧ tm 7 = .sl (cellsL eI r87.1) (List.length r87.1) false ∧ tm 9 = .lit (.int .i64 r94.1) ∧ tm 11 = .lit (.int .i64 r103.1) ∧ tm 123 = .lit (.bool false) ∧ tm 126 = .lit (.bool true) ∧ tm 129 = .lit (.bool r226) ∧ True) (by refine ⟨e216, e217, e218, e219, e220, e221, e222, ?_, ?_, ?_, trivial⟩ <;> first | (simp only [ua, b213, e216, e217, e218, e219, e220, e221, e222, e223, d224, d225, nm, seval] <;> rfl) | rfl) ?_
          rintro tm ⟨e228, e229, e230, e231, e232, e233, e234, e235, e236, e237, _⟩
          cases d238 : (r226)
          ·simp only [d238, hs] at h
           obtain ⟨r239, o240, h⟩ := optI h kN
           try simp only [hs] at h
           simp only [vz, tyf, b213, d224, d225, e228, e229, e230, e231, e232, e233, e234, e235, e236, e237, d238, nm, seval]
           refine ktA (zau _ _ _ o240) ?_
           refine zab (fun tm => tm 1 = .sl (cellsL eI x1_a1) (List.length x1_a1) false ∧ tm 2 = .ptr 0 0 ∧ tm 5 = .sl (cellsL eI r82.1) (List.length r82.1) false ∧ tm 7 = .sl (cellsL eI r87.1) (List.length r87.1) false ∧ tm 9 = .lit (.int .i64 r94.1) ∧ tm 11 = .lit (.int .i64 r103.1) ∧ tm 137 = .lit (.bool r239) ∧ True) (by refine ⟨e228, e229, e230, e232, e233, e234, ?_, trivial⟩ <;> first | (simp only [ua, b213, d224, d225, e228, e229, e230, e231, e232, e233, e234, e235, e236, e237, d238, nm, seval] <;> rfl) | rfl) ?_
           rintro tm ⟨e241, e242, e243, e244, e245, e246, e247, _⟩
           cases d248 : (r239)
           ·simp only [d248, hs] at h
            try simp only [vz, tyf, b213, d224, d225, d238, e241, e242, e243, e244, e245, e246, e247, d248, nm, seval]
            obtain rfl := kF _ h
            exact zaa Tryz.results12 rfl
           simp only [d248, hs] at h
           obtain ⟨r249, o250, h⟩ := optI h kN
           try simp only [hs] at h
           simp only [vz, tyf, b213, d224, d225, d238, e241, e242, e243, e244, e245, e246, e247, d248, nm, seval]
           refine ktA (zai _ _ _ o250) ?_
           refine zab (fun tm => tm 1 = .sl (cellsL eI x1_a1) (List.length x1_a1) false ∧ tm 2 = .ptr 0 0 ∧ tm 5 = .sl (cellsL eI r82.1) (List.length r82.1) false ∧ tm 9 = .lit (.int .i64 r94.1) ∧ tm 11 = .lit (.int .i64 r103.1) ∧ tm 139 = .lit (.bool false) ∧ tm 142 = .lit (.bool r249) ∧ True) (by refine ⟨e241, e242, e243, e245, e246, ?_, ?_, trivial⟩ <;> first | (simp only [ua, b213, d224, d225, d238, e241, e242, e243, e244, e245, e246, e247, d248, nm, seval] <;> rfl) | rfl) ?_
           rintro tm ⟨e251, e252, e253, e254, e255, e256, e257, _⟩
           cases d258 : (r249)
           ·simp only [d258, hs] at h
            obtain ⟨r259, o260, h⟩ := optI h kN
            try simp only [hs] at h
            simp only [vz, tyf, b213, d224, d225, d238, d248, e251, e252, e253, e254, e255, e256, e257, d258, nm, seval]
            refine ktA (zao _ _ _ o260) ?_
            refine zab (fun tm => tm 1 = .sl (cellsL eI x1_a1) (List.length x1_a1) false ∧ tm 5 = .sl (cellsL eI r82.1) (List.length r82.1) false ∧ tm 9 = .lit (.int .i64 r94.1) ∧ tm 11 = .lit (.int .i64 r103.1) ∧ tm 147 = .tup [.lit (.int .i64 r259.1), .lit (.bool r259.2)] ∧ True) (by refine ⟨e251, e253, e254, e255, ?_, trivial⟩ <;> first | (simp only [ua, b213, d224, d225, d238, d248, e251, e252, e253, e254, e255, e256, e257, d258, nm, seval] <;> rfl) | rfl) ?_
            rintro tm ⟨e261, e262, e263, e264, e265, _⟩
            cases d266 : (r259.2)
            ·simp only [d266, hs] at h
             have b267 := And.intro b213 (And.intro d224 (And.intro d225 (And.intro d238 (And.intro d248 (And.intro d258 d266)))))
             try simp only [vz, tyf, b267, e261, e262, e263, e264, e265, nm, seval]
             obtain rfl := kF _ h
             exact zaa Tryz.results12 rfl
            simp only [d266, hs] at h
            have b268 := And.intro b213 (And.intro d224 (And.intro d225 (And.intro d238 (And.intro d248 (And.intro d258 d266)))))
            cases d269 : (r259.1 == 3)
            ·simp only [d269, hs] at h
             try simp only [vz, tyf, b268, e261, e262, e263, e264, e265, d269, nm, seval]
             obtain rfl := kF _ h
             exact zaa Tryz.results12 rfl
            simp only [d269, hs] at h
            cases d270 : (r103.1 != 3)
            ·simp only [d270, hs] at h
             obtain ⟨r271, o272, h⟩ := optI h kN
             try simp only [hs] at h
             simp only [vz, tyf, b268, e261, e262, e263, e264, e265, d269, d270, nm, seval]
             refine ktA (zai _ _ _ o272) ?_
             refine zab (fun tm => tm 1 = .sl (cellsL eI x1_a1) (List.length x1_a1) false ∧ tm 5 = .sl (cellsL eI r82.1) (List.length r82.1) false ∧ tm 9 = .lit (.int .i64 r94.1) ∧ tm 155 = .lit (.bool true) ∧ tm 158 = .lit (.bool false) ∧ tm 161 = .lit (.bool r271) ∧ True) (by refine ⟨e261, e262, e263, ?_, ?_, ?_, trivial⟩ <;> first | (simp only [ua, b268, e261, e262, e263, e264, e265, d269, d270, nm, seval] <;> rfl) | rfl) ?_
             rintro tm ⟨e273, e274, e275, e276, e277, e278, _⟩
             cases d279 : (r271)
             ·simp only [d279, hs] at h
              obtain ⟨r280, o281, h⟩ := optI h kN
              try simp only [hs] at h
              simp only [vz, tyf, b268, d269, d270, e273, e274, e275, e276, e277, e278, d279, nm, seval]
              refine ktA (zdc _ _ _ o281) ?_
              refine zab (fun tm => tm 9 = .lit (.int .i64 r94.1) ∧ tm 155 = .lit (.bool true) ∧ tm 158 = .lit (.bool false) ∧ tm 163 = .lit (.bool true) ∧ tm 166 = .lit (.bool r280) ∧ True) (by refine ⟨e275, e276, e277, ?_, ?_, trivial⟩ <;> first | (simp only [ua, b268, d269, d270, e273, e274, e275, e276, e277, e278, d279, nm, seval] <;> rfl) | rfl) ?_
              rintro tm ⟨e282, e283, e284, e285, e286, _⟩
              cases d287 : (r280)
              ·simp only [d287, hs] at h
               cases d288 : (decide (r94.1 > 1))
               ·simp only [d288, hs] at h
                try simp only [vz, tyf, b268, d269, d270, d279, e282, e283, e284, e285, e286, d287, d288, nm, seval]
                obtain rfl := kF _ h
                exact zaa Tryz.results12 rfl
               simp only [d288, hs] at h
               simp only [vz, tyf, b268, d269, d270, d279, e282, e283, e284, e285, e286, d287, d288, nm, seval]
               refine ktree0 zad ?_
               try simp only [vz, tyf, b268, d269, d270, d279, e282, e283, e284, e285, e286, d287, d288, nm, seval]
               obtain rfl := kF _ h
               exact zaa Tryz.results12 rfl
              simp only [d287, hs] at h
              simp only [vz, tyf, b268, d269, d270, d279, e282, e283, e284, e285, e286, d287, nm, seval]
              refine ktree0 zad ?_
              try simp only [vz, tyf, b268, d269, d270, d279, e282, e283, e284, e285, e286, d287, nm, seval]
              obtain rfl := kF _ h
              exact zaa Tryz.results12 rfl
             simp only [d279, hs] at h
             try simp only [vz, tyf, b268, d269, d270, e273, e274, e275, e276, e277, e278, d279, nm, seval]
             obtain rfl := kF _ h
             exact zaa Tryz.results12 rfl
            simp only [d270, hs] at h
            simp only [vz, tyf, b268, e261, e262, e263, e264, e265, d269, d270, nm, seval]
            refine ktree0 zad ?_
            try simp only [vz, tyf, b268, e261, e262, e263, e264, e265, d269, d270, nm, seval]
            obtain rfl := kF _ h
            exact zaa Tryz.results12 rfl
           simp only [d258, hs] at h
           try simp only [vz, tyf, b213, d224, d225, d238, d248, e251, e252, e253, e254, e255, e256, e257, d258, nm, seval]
           obtain rfl := kF _ h
           exact zaa Tryz.results12 rfl
          simp only [d238, hs] at h
          try simp only [vz, tyf, b213, d224, d225, e228, e229, e230, e231, e232, e233, e234, e235, e236, e237, d238, nm, seval]
          obtain rfl := kF _ h
          exact zaa Tryz.results12 rfl
         simp only [d225, hs] at h
         try simp only [vz, tyf, b213, e216, e217, e218, e219, e220, e221, e222, e223, d224, d225, nm, seval]
         obtain rfl := kF _ h
         exact zaa Tryz.results12 rfl
        simp only [d124, hs] at h
        cases d289 : (r103.1 != 1)
        ·simp only [d289, hs] at h
         obtain ⟨r290, o291, h⟩ := optI h kN
         try simp only [hs] at h
         simp only [vz, tyf, b120, e105, e106, e107, e108, e109, e110, e111, e112, e113, d121, d122, d123, d124, d289, nm, seval]
         refine ktA (zau _ _ _ o291) ?_
         refine zab (fun tm => tm 1 = .sl (cellsL eI x1_a1) (List.length x1_a1) false ∧ tm 2 = .ptr 0 0 ∧ tm 5 = .sl (cellsL eI r82.1) (List.length r82.1) false ∧ tm 6 = .lit (.int .i64 r82.2) ∧ tm 7 = .sl (cellsL eI r87.1) (List.length r87.1) false ∧ tm 9 = .lit (.int .i64 r94.1) ∧ tm 11 = .lit (.int .i64 r103.1) ∧ tm 109 = .lit (.bool r290) ∧ True) (by refine ⟨e105, e106, e107, e108, e109, e111, ?_, ?_, trivial⟩ <;> first | (simp only [ua, b120, e105, e106, e107, e108, e109, e110, e111, e112, e113, d121, d122, d123, d124, d289, nm, seval] <;> rfl) | rfl) ?_
         rintro tm ⟨e292, e293, e294, e295, e296, e297, e298, e299, _⟩
         cases d300 : (r290)
         ·simp only [d300, hs] at h
          have b301 := And.intro b120 (And.intro d121 (And.intro d122 (And.intro d123 (And.intro d124 (And.intro d289 d300)))))
          try simp only [vz, tyf, b301, e292, e293, e294, e295, e296, e297, e298, e299, nm, seval]
          obtain rfl := kF _ h
          exact zaa Tryz.results12 rfl
         simp only [d300, hs] at h
         have b302 := And.intro b120 (And.intro d121 (And.intro d122 (And.intro d123 (And.intro d124 (And.intro d289 d300)))))
         obtain ⟨r303, o304, h⟩ := optI h kN
         try simp only [hs] at h
         simp only [vz, tyf, b302, e292, e293, e294, e295, e296, e297, e298, e299, nm, seval]
         refine ktA (zao _ _ _ o304) ?_
         refine zab (fun tm => tm 1 = .sl (cellsL eI x1_a1) (List.length x1_a1) false ∧ tm 2 = .ptr 0 0 ∧ tm 5 = .sl (cellsL eI r82.1) (List.length r82.1) false ∧ tm 6 = .lit (.int .i64 r82.2) ∧ tm 7 = .sl (cellsL eI r87.1) (List.length r87.1) false ∧ tm 9 = .lit (.int .i64 r94.1) ∧ tm 11 = .lit (.int .i64 r103.1) ∧ tm 114 = .tup [.lit (.int .i64 r303.1), .lit (.bool r303.2)] ∧ True) (by refine ⟨e292, e293, e294, e295, e296, e297, e298, ?_, trivial⟩ <;> first | (simp only [ua, b302, e292, e293, e294, e295, e296, e297, e298, e299, nm, seval] <;> rfl) | rfl) ?_
         rintro tm ⟨e305, e306, e307, e308, e309, e310, e311, e312, _⟩
         cases d313 : (r303.2)
         ·simp only [d313, hs] at h
          try simp only [vz, tyf, b302, e305, e306, e307, e308, e309, e310, e311, e312, d313, nm, seval]
          obtain rfl := kF _ h
          exact zaa Tryz.results12 rfl
         simp only [d313, hs] at h
         cases d314 : (r303.1 == 1)
         ·simp only [d314, hs] at h
          obtain ⟨r315, o316, h⟩ := optI h kN
          try simp only [hs] at h
          simp only [vz, tyf, b302, e305, e306, e307, e308, e309, e310, e311, e312, d313, d314, nm, seval]
          refine ktA (zau _ _ _ o316) ?_
          refine zab (fun tm => tm 1 = .sl (cellsL eI x1_a1) (List.length x1_a1) false ∧ tm 2 = .ptr 0 0 ∧ tm 5 = .sl (cellsL eI r82.1) (List.length r82.1) false ∧ tm 7 = .sl (cellsL eI r87.1) (List.length r87.1) false ∧ tm 9 = .lit (.int .i64 r94.1) ∧ tm 11 = .lit (.int .i64 r103.1) ∧ tm 137 = .lit (.bool r315) ∧ True) (by refine ⟨e305, e306, e307, e309, e310, e311, ?_, trivial⟩ <;> first | (simp only [ua, b302, e305, e306, e307, e308, e309, e310, e311, e312, d313, d314, nm, seval] <;> rfl) | rfl) ?_
          rintro tm ⟨e317, e318, e319, e320, e321, e322, e323, _⟩
          cases d324 : (r315)
          ·simp only [d324, hs] at h
           try simp only [vz, tyf, b302, d313, d314, e317, e318, e319, e320, e321, e322, e323, d324, nm, seval]
           obtain rfl := kF _ h
           exact zaa Tryz.results12 rfl
          simp only [d324, hs] at h
          obtain ⟨r325, o326, h⟩ := optI h kN
          try simp only [hs] at h
          simp only [vz, tyf, b302, d313, d314, e317, e318, e319, e320, e321, e322, e323, d324, nm, seval]
          refine ktA (zai _ _ _ o326) ?_
          refine zab (fun tm => tm 1 = .sl (cellsL eI x1_a1) (List.length x1_a1) false ∧ tm 2 = .ptr 0 0 ∧ tm 5 = .sl (cellsL eI r82.1) (List.length r82.1) false ∧ tm 9 = .lit (.int .i64 r94.1) ∧ tm 11 = .lit (.int .i64 r103.1) ∧ tm 139 = .lit (.bool false) ∧ tm 142 = .lit (.bool r325) ∧ True) (by refine ⟨e317, e318, e319, e321, e322, ?_, ?_, trivial⟩ <;> first | (simp only [ua, b302, d313, d314, e317, e318, e319, e320, e321, e322, e323, d324, nm, seval] <;> rfl) | rfl) ?_
          rintro tm ⟨e327, e328, e329, e330, e331, e332, e333, _⟩
          cases d334 : (r325)
          ·simp only [d334, hs] at h
           obtain ⟨r335, o336, h⟩ := optI h kN
           try simp only [hs] at h
           simp only [vz, tyf, b302, d313, d314, d324, e327, e328, e329, e330, e331, e332, e333, d334, nm, seval]
           refine ktA (zao _ _ _ o336) ?_
           refine zab (fun tm => tm 1 = .sl (cellsL eI x1_a1) (List.length x1_a1) false ∧ tm 5 = .sl (cellsL eI r82.1) (List.length r82.1) false ∧ tm 9 = .lit (.int .i64 r94.1) ∧ tm 11 = .lit (.int .i64 r103.1) ∧ tm 147 = .tup [.lit (.int .i64 r335.1), .lit (.bool r335.2)] ∧ True) (by refine ⟨e327, e329, e330, e331, ?_, trivial⟩ <;> first | (simp only [ua, b302, d313, d314, d324, e327, e328, e329, e330, e331, e332, e333, d334, nm, seval] <;> rfl) | rfl) ?_
           rintro tm ⟨e337, e338, e339, e340, e341, _⟩
           cases d342 : (r335.2)
           ·simp only [d342, hs] at h
            try simp only [vz, tyf, b302, d313, d314, d324, d334, e337, e338, e339, e340, e341, d342, nm, seval]
            obtain rfl := kF _ h
            exact zaa Tryz.results12 rfl
           simp only [d342, hs] at h
           cases d343 : (r335.1 == 3)
           ·simp only [d343, hs] at h
            have b344 := And.intro b302 (And.intro d313 (And.intro d314 (And.intro d324 (And.intro d334 (And.intro d342 d343)))))
            try simp only [vz, tyf, b344, e337, e338, e339, e340, e341, nm, seval]
            obtain rfl := kF _ h
            exact zaa Tryz.results12 rfl
           simp only [d343, hs] at h
           have b345 := And.intro b302 (And.intro d313 (And.intro d314 (And.intro d324 (And.intro d334 (And.intro d342 d343)))))
           cases d346 : (r103.1 != 3)
           ·simp only [d346, hs] at h
            obtain ⟨r347, o348, h⟩ := optI h kN
            try simp only [hs] at h
            simp only [vz, tyf, b345, e337, e338, e339, e340, e341, d346, nm, seval]
            refine ktA (zai _ _ _ o348) ?_
            refine zab (fun tm => tm 1 = .sl (cellsL eI x1_a1) (List.length x1_a1) false ∧ tm 5 = .sl (cellsL eI r82.1) (List.length r82.1) false ∧ tm 9 = .lit (.int .i64 r94.1) ∧ tm 155 = .lit (.bool true) ∧ tm 158 = .lit (.bool false) ∧ tm 161 = .lit (.bool r347) ∧ True) (by refine ⟨e337, e338, e339, ?_, ?_, ?_, trivial⟩ <;> first | (simp only [ua, b345, e337, e338, e339, e340, e341, d346, nm, seval] <;> rfl) | rfl) ?_
            rintro tm ⟨e349, e350, e351, e352, e353, e354, _⟩
            cases d355 : (r347)
            ·simp only [d355, hs] at h
             obtain ⟨r356, o357, h⟩ := optI h kN
             try simp only [hs] at h
             simp only [vz, tyf, b345, d346, e349, e350, e351, e352, e353, e354, d355, nm, seval]
             refine ktA (zdc _ _ _ o357) ?_
             refine zab (fun tm => tm 9 = .lit (.int .i64 r94.1) ∧ tm 155 = .lit (.bool true) ∧ tm 158 = .lit (.bool false) ∧ tm 163 = .lit (.bool true) ∧ tm 166 = .lit (.bool r356) ∧ True) (by refine ⟨e351, e352, e353, ?_, ?_, trivial⟩ <;> first | (simp only [ua, b345, d346, e349, e350, e351, e352, e353, e354, d355, nm, seval] <;> rfl) | rfl) ?_
             rintro tm ⟨e358, e359, e360, e361, e362, _⟩
             cases d363 : (r356)
             ·simp only [d363, hs] at h
              cases d364 : (decide (r94.1 > 1))
              ·simp only [d364, hs] at h
               try simp only [vz, tyf, b345, d346, d355, e358, e359, e360, e361, e362, d363, d364, nm, seval]
               obtain rfl := kF _ h
               exact zaa Tryz.results12 rfl
              simp only [d364, hs] at h
              simp only [vz, tyf, b345, d346, d355, e358, e359, e360, e361, e362, d363, d364, nm, seval]
              refine ktree0 zad ?_
              try simp only [vz, tyf, b345, d346, d355, e358, e359, e360, e361, e362, d363, d364, nm, seval]
              obtain rfl := kF _ h
              exact zaa Tryz.results12 rfl
             simp only [d363, hs] at h
             simp only [vz, tyf, b345, d346, d355, e358, e359, e360, e361, e362, d363, nm, seval]
             refine ktree0 zad ?_
             try simp only [vz, tyf, b345, d346, d355, e358, e359, e360, e361, e362, d363, nm, seval]
             obtain rfl := kF _ h
             exact zaa Tryz.results12 rfl
            simp only [d355, hs] at h
            try simp only [vz, tyf, b345, d346, e349, e350, e351, e352, e353, e354, d355, nm, seval]
            obtain rfl := kF _ h
            exact zaa Tryz.results12 rfl
           simp only [d346, hs] at h
           simp only [vz, tyf, b345, e337, e338, e339, e340, e341, d346, nm, seval]
           refine ktree0 zad ?_
           try simp only [vz, tyf, b345, e337, e338, e339, e340, e341, d346, nm, seval]
           obtain rfl := kF _ h
           exact zaa Tryz.results12 rfl
          simp only [d334, hs] at h
          try simp only [vz, tyf, b302, d313, d314, d324, e327, e328, e329, e330, e331, e332, e333, d334, nm, seval]
          obtain rfl := kF _ h
          exact zaa Tryz.results12 rfl
         simp only [d314, hs] at h
         try simp only [vz, tyf, b302, e305, e306, e307, e308, e309, e310, e311, e312, d313, d314, nm, seval]
         obtain rfl := kF _ h
         exact zaa Tryz.results12 rfl
        simp only [d289, hs] at h
        obtain ⟨r365, o366, h⟩ := optI h kN
        try simp only [hs] at h
        simp only [vz, tyf, b120, e105, e106, e107, e108, e109, e110, e111, e112, e113, d121, d122, d123, d124, d289, nm, seval]
        refine ktA (zau _ _ _ o366) ?_
        refine zab (fun tm => tm 1 = .sl (cellsL eI x1_a1) (List.length x1_a1) false ∧ tm 2 = .ptr 0 0 ∧ tm 5 = .sl (cellsL eI r82.1) (List.length r82.1) false ∧ tm 6 = .lit (.int .i64 r82.2) ∧ tm 7 = .sl (cellsL eI r87.1) (List.length r87.1) false ∧ tm 9 = .lit (.int .i64 r94.1) ∧ tm 11 = .lit (.int .i64 r103.1) ∧ tm 109 = .lit (.bool r365) ∧ True) (by refine ⟨e105, e106, e107, e108, e109, e111, ?_, ?_, trivial⟩ <;> first | (simp only [ua, b120, e105, e106, e107, e108, e109, e110, e111, e112, e113, d121, d122, d123, d124, d289, nm, seval] <;> rfl) | rfl) ?_
        rintro tm ⟨e367, e368, e369, e370, e371, e372, e373, e374, _⟩
        cases d375 : (r365)
        ·simp only [d375, hs] at h
         have b376 := And.intro b120 (And.intro d121 (And.intro d122 (And.intro d123 (And.intro d124 (And.intro d289 d375)))))
         try simp only [vz, tyf, b376, e367, e368, e369, e370, e371, e372, e373, e374, nm, seval]
         obtain rfl := kF _ h
         exact zaa Tryz.results12 rfl
        simp only [d375, hs] at h
        have b377 := And.intro b120 (And.intro d121 (And.intro d122 (And.intro d123 (And.intro d124 (And.intro d289 d375)))))
        obtain ⟨r378, o379, h⟩ := optI h kN
        try simp only [hs] at h
        simp only [vz, tyf, b377, e367, e368, e369, e370, e371, e372, e373, e374, nm, seval]
        refine ktA (zao _ _ _ o379) ?_
        refine zab (fun tm => tm 1 = .sl (cellsL eI x1_a1) (List.length x1_a1) false ∧ tm 2 = .ptr 0 0 ∧ tm 5 = .sl (cellsL eI r82.1) (List.length r82.1) false ∧ tm 6 = .lit (.int .i64 r82.2) ∧ tm 7 = .sl (cellsL eI r87.1) (List.length r87.1) false ∧ tm 9 = .lit (.int .i64 r94.1) ∧ tm 11 = .lit (.int .i64 r103.1) ∧ tm 114 = .tup [.lit (.int .i64 r378.1), .lit (.bool r378.2)] ∧ True) (by refine ⟨e367, e368, e369, e370, e371, e372, e373, ?_, trivial⟩ <;> first | (simp only [ua, b377, e367, e368, e369, e370, e371, e372, e373, e374, nm, seval] <;> rfl) | rfl) ?_
        rintro tm ⟨e380, e381, e382, e383, e384, e385, e386, e387, _⟩
        cases d388 : (r378.2)
        ·simp only [d388, hs] at h
         try simp only [vz, tyf, b377, e380, e381, e382, e383, e384, e385, e386, e387, d388, nm, seval]
         obtain rfl := kF _ h
         exact zaa Tryz.results12 rfl
        simp only [d388, hs] at h
        cases d389 : (r378.1 == 1)
        ·simp only [d389, hs] at h
         obtain ⟨r390, o391, h⟩ := optI h kN
         try simp only [hs] at h
         simp only [vz, tyf, b377, e380, e381, e382, e383, e384, e385, e386, e387, d388, d389, nm, seval]
         refine ktA (zai _ _ _ o391) ?_
         refine zab (fun tm => tm 1 = .sl (cellsL eI x1_a1) (List.length x1_a1) false ∧ tm 2 = .ptr 0 0 ∧ tm 5 = .sl (cellsL eI r82.1) (List.length r82.1) false ∧ tm 6 = .lit (.int .i64 r82.2) ∧ tm 7 = .sl (cellsL eI r87.1) (List.length r87.1) false ∧ tm 9 = .lit (.int .i64 r94.1) ∧ tm 11 = .lit (.int .i64 r103.1) ∧ tm 123 = .lit (.bool false) ∧ tm 126 = .lit (.bool true) ∧ tm 129 = .lit (.bool r390) ∧ True) (by refine ⟨e380, e381, e382, e383, e384, e385, e386, ?_, ?_, ?_, trivial⟩ <;> first | (simp only [ua, b377, e380, e381, e382, e383, e384, e385, e386, e387, d388, d389, nm, seval] <;> rfl) | rfl) ?_
         rintro tm ⟨e392, e393, e394, e395, e396, e397, e398, e399, e400, e401, _⟩
         cases d402 : (r390)
         ·simp only [d402, hs] at h
          obtain ⟨r403, o404, h⟩ := optI h kN
          try simp only [hs] at h
          simp only [vz, tyf, b377, d388, d389, e392, e393, e394, e395, e396, e397, e398, e399, e400, e401, d402, nm, seval]
          refine ktA (zau _ _ _ o404) ?_
          refine zab (fun tm => tm 1 = .sl (cellsL eI x1_a1) (List.length x1_a1) false ∧ tm 2 = .ptr 0 0 ∧ tm 5 = .sl (cellsL eI r82.1) (List.length r82.1) false ∧ tm 7 = .sl (cellsL eI r87.1) (List.length r87.1) false ∧ tm 9 = .lit (.int .i64 r94.1) ∧ tm 11 = .lit (.int .i64 r103.1) ∧ tm 137 = .lit (.bool r403) ∧ True) (by refine ⟨e392, e393, e394, e396, e397, e398, ?_, trivial⟩ <;> first | (simp only [ua, b377, d388, d389, e392, e393, e394, e395, e396, e397, e398, e399, e400, e401, d402, nm, seval] <;> rfl) | rfl) ?_
          rintro tm ⟨e405, e406, e407, e408, e409, e410, e411, _⟩
          cases d412 : (r403)
          ·simp only [d412, hs] at h
           try simp only [vz, tyf, b377, d388, d389, d402, e405, e406, e407, e408, e409, e410, e411, d412, nm, seval]
           obtain rfl := kF _ h
           exact zaa Tryz.results12 rfl
          simp only [d412, hs] at h
          obtain ⟨r413, o414, h⟩ := optI h kN
          try simp only [hs] at h
          simp only [vz, tyf, b377, d388, d389, d402, e405, e406, e407, e408, e409, e410, e411, d412, nm, seval]
          refine ktA (zai _ _ _ o414) ?_
          refine zab (fun tm => tm 1 = .sl (cellsL eI x1_a1) (List.length x1_a1) false ∧ tm 2 = .ptr 0 0 ∧ tm 5 = .sl (cellsL eI r82.1) (List.length r82.1) false ∧ tm 9 = .lit (.int .i64 r94.1) ∧ tm 11 = .lit (.int .i64 r103.1) ∧ tm 139 = .lit (.bool false) ∧ tm 142 = .lit (.bool r413) ∧ True) (by refine ⟨e405, e406, e407, e409, e410, ?_, ?_, trivial⟩ <;> first | (simp only [ua, b377, d388, d389, d402, e405, e406, e407, e408, e409, e410, e411, d412, nm, seval] <;> rfl) | rfl) ?_
          rintro tm ⟨e415, e416, e417, e418, e419, e420, e421, _⟩
          cases d422 : (r413)
          ·simp only [d422, hs] at h
           obtain ⟨r423, o424, h⟩ := optI h kN
           try simp only [hs] at h
           simp only [vz, tyf, b377, d388, d389, d402, d412, e415, e416, e417, e418, e419, e420, e421, d422, nm, seval]
           refine ktA (zao _ _ _ o424) ?_
           refine zab (fun tm => tm 1 = .sl (cellsL eI x1_a1) (List.length x1_a1) false ∧ tm 5 = .sl (cellsL eI r82.1) (List.length r82.1) false ∧ tm 9 = .lit (.int .i64 r94.1) ∧ tm 11 = .lit (.int .i64 r103.1) ∧ tm 147 = .tup [.lit (.int .i64 r423.1), .lit (.bool r423.2)] ∧ True) (by refine ⟨e415, e417, e418, e419, ?_, trivial⟩ <;> first | (simp only [ua, b377, d388, d389, d402, d412, e415, e416, e417, e418, e419, e420, e421, d422, nm, seval] <;> rfl) | rfl) ?_
           rintro tm ⟨e425, e426, e427, e428, e429, _⟩
           cases d430 : (r423.2)
           ·simp only [d430, hs] at h
            have b431 := And.intro b377 (And.intro d388 (And.intro d389 (And.intro d402 (And.intro d412 (And.intro d422 d430)))))
            try simp only [vz, tyf, b431, e425, e426, e427, e428, e429, nm, seval]
            obtain rfl := kF _ h
            exact zaa Tryz.results12 rfl
           simp only [d430, hs] at h
           have b432 := And.intro b377 (And.intro d388 (And.intro d389 (And.intro d402 (And.intro d412 (And.intro d422 d430)))))
           cases d433 : (r423.1 == 3)
           ·simp only [d433, hs] at h
            try simp only [vz, tyf, b432, e425, e426, e427, e428, e429, d433, nm, seval]
            obtain rfl := kF _ h
            exact zaa Tryz.results12 rfl
           simp only [d433, hs] at h
           cases d434 : (r103.1 != 3)
           ·simp only [d434, hs] at h
            obtain ⟨r435, o436, h⟩ := optI h kN
            try simp only [hs] at h
            simp only [vz, tyf, b432, e425, e426, e427, e428, e429, d433, d434, nm, seval]
            refine ktA (zai _ _ _ o436) ?_
            refine zab (fun tm => tm 1 = .sl (cellsL eI x1_a1) (List.length x1_a1) false ∧ tm 5 = .sl (cellsL eI r82.1) (List.length r82.1) false ∧ tm 9 = .lit (.int .i64 r94.1) ∧ tm 155 = .lit (.bool true) ∧ tm 158 = .lit (.bool false) ∧ tm 161 = .lit (.bool r435) ∧ True) (by refine ⟨e425, e426, e427, ?_, ?_, ?_, trivial⟩ <;> first | (simp only [ua, b432, e425, e426, e427, e428, e429, d433, d434, nm, seval] <;> rfl) | rfl) ?_
            rintro tm ⟨e437, e438, e439, e440, e441, e442, _⟩
            cases d443 : (r435)
            ·simp only [d443, hs] at h
             obtain ⟨r444, o445, h⟩ := optI h kN
             try simp only [hs] at h
             simp only [vz, tyf, b432, d433, d434, e437, e438, e439, e440, e441, e442, d443, nm, seval]
             refine ktA (zdc _ _ _ o445) ?_
             refine zab (fun tm => tm 9 = .lit (.int .i64 r94.1) ∧ tm 155 = .lit (.bool true) ∧ tm 158 = .lit (.bool false) ∧ tm 163 = .lit (.bool true) ∧ tm 166 = .lit (.bool r444) ∧ True) (by refine ⟨e439, e440, e441, ?_, ?_, trivial⟩ <;> first | (simp only [ua, b432, d433, d434, e437, e438, e439, e440, e441, e442, d443, nm, seval] <;> rfl) | rfl) ?_
             rintro tm ⟨e446, e447, e448, e449, e450, _⟩
             cases d451 : (r444)
             ·simp only [d451, hs] at h
              cases d452 : (decide (r94.1 > 1))
              ·simp only [d452, hs] at h
               try simp only [vz, tyf, b432, d433, d434, d443, e446, e447, e448, e449, e450, d451, d452, nm, seval]
               obtain rfl := kF _ h
               exact zaa Tryz.results12 rfl
              simp only [d452, hs] at h
              simp only [vz, tyf, b432, d433, d434, d443, e446, e447, e448, e449, e450, d451, d452, nm, seval]
              refine ktree0 zad ?_
              try simp only [vz, tyf, b432, d433, d434, d443, e446, e447, e448, e449, e450, d451, d452, nm, seval]
              obtain rfl := kF _ h
              exact zaa Tryz.results12 rfl
             simp only [d451, hs] at h
             simp only [vz, tyf, b432, d433, d434, d443, e446, e447, e448, e449, e450, d451, nm, seval]
             refine ktree0 zad ?_
             try simp only [vz, tyf, b432, d433, d434, d443, e446, e447, e448, e449, e450, d451, nm, seval]
             obtain rfl := kF _ h
             exact zaa Tryz.results12 rfl
            simp only [d443, hs] at h
            try simp only [vz, tyf, b432, d433, d434, e437, e438, e439, e440, e441, e442, d443, nm, seval]
            obtain rfl := kF _ h
            exact zaa Tryz.results12 rfl
           simp only [d434, hs] at h
           simp only [vz, tyf, b432, e425, e426, e427, e428, e429, d433, d434, nm, seval]
           refine ktree0 zad ?_
           try simp only [vz, tyf, b432, e425, e426, e427, e428, e429, d433, d434, nm, seval]
           obtain rfl := kF _ h
           exact zaa Tryz.results12 rfl
          simp only [d422, hs] at h
          try simp only [vz, tyf, b377, d388, d389, d402, d412, e415, e416, e417, e418, e419, e420, e421, d422, nm, seval]
          obtain rfl := kF _ h
          exact zaa Tryz.results12 rfl
         simp only [d402, hs] at h
         try simp only [vz, tyf, b377, d388, d389, e392, e393, e394, e395, e396, e397, e398, e399, e400, e401, d402, nm, seval]
         obtain rfl := kF _ h
         exact zaa Tryz.results12 rfl
        simp only [d389, hs] at h
        try simp only [vz, tyf, b377, e380, e381, e382, e383, e384, e385, e386, e387, d388, d389, nm, seval]
        obtain rfl := kF _ h
        exact zaa Tryz.results12 rfl
       simp only [d122, hs] at h
       have d453 := d121
       simp only [d122] at d453
       cases d454 : (r103.1 == 3)
       ·simp only [d454, hs] at h
        cases d455 : (r103.1 != 1)
        ·simp only [d455, hs] at h
         obtain ⟨r456, o457, h⟩ := optI h kN
         try simp only [hs] at h
         simp only [vz, tyf, b120, e105, e106, e107, e108, e109, e110, e111, e112, e113, d121, d122, d453, d454, d455, nm, seval]
         refine ktA (zau _ _ _ o457) ?_
         refine zab (fun tm => tm 1 = .sl (cellsL eI x1_a1) (List.length x1_a1) false ∧ tm 2 = .ptr 0 0 ∧ tm 5 = .sl (cellsL eI r82.1) (List.length r82.1) false ∧ tm 6 = .lit (.int .i64 r82.2) ∧ tm 7 = .sl (cellsL eI r87.1) (List.length r87.1) false ∧ tm 9 = .lit (.int .i64 r94.1) ∧ tm 11 = .lit (.int .i64 r103.1) ∧ tm 109 = .lit (.bool r456) ∧ True) (by refine ⟨e105, e106, e107, e108, e109, e111, ?_, ?_, trivial⟩ <;> first | (simp only [ua, b120, e105, e106, e107, e108, e109, e110, e111, e112, e113, d121, d122, d453, d454, d455, nm, seval] <;> rfl) | rfl) ?_
         rintro tm ⟨e458, e459, e460, e461, e462, e463, e464, e465, _⟩
         cases d466 : (r456)
         ·simp only [d466, hs] at h
          have b467 := And.intro b120 (And.intro d121 (And.intro d122 (And.intro d453 (And.intro d454 (And.intro d455 d466)))))
          try simp only [vz, tyf, b467, e458, e459, e460, e461, e462, e463, e464, e465, nm, seval]
          obtain rfl := kF _ h
          exact zaa Tryz.results12 rfl
         simp only [d466, hs] at h
         have b468 := And.intro b120 (And.intro d121 (And.intro d122 (And.intro d453 (And.intro d454 (And.intro d455 d466)))))
         obtain ⟨r469, o470, h⟩ := optI h kN
         try simp only [hs] at h
         simp only [vz, tyf, b468, e458, e459, e460, e461, e462, e463, e464, e465, nm, seval]
         refine ktA (zao _ _ _ o470) ?_
         refine zab (fun tm => tm 1 = .sl (cellsL eI x1_a1) (List.length x1_a1) false ∧ tm 2 = .ptr 0 0 ∧ tm 5 = .sl (cellsL eI r82.1) (List.length r82.1) false ∧ tm 6 = .lit (.int .i64 r82.2) ∧ tm 7 = .sl (cellsL eI r87.1) (List.length r87.1) false ∧ tm 9 = .lit (.int .i64 r94.1) ∧ tm 11 = .lit (.int .i64 r103.1) ∧ tm 114 = .tup [.lit (.int .i64 r469.1), .lit (.bool r469.2)] ∧ True) (by refine ⟨e458, e459, e460, e461, e462, e463, e464, ?_, trivial⟩ <;> first | (simp only [ua, b468, e458, e459, e460, e461, e462, e463, e464, e465, nm, seval] <;> rfl) | rfl) ?_
         rintro tm ⟨e471, e472, e473, e474, e475, e476, e477, e478, _⟩
         cases d479 : (r469.2)
         ·simp only [d479, hs] at h
          try simp only [vz, tyf, b468, e471, e472, e473, e474, e475, e476, e477, e478, d479, nm, seval]
          obtain rfl := kF _ h
          exact zaa Tryz.results12 rfl
         simp only [d479, hs] at h
         cases d480 : (r469.1 == 1)
         ·simp only [d480, hs] at h
          obtain ⟨r481, o482, h⟩ := optI h kN
          try simp only [hs] at h
          simp only [vz, tyf, b468, e471, e472, e473, e474, e475, e476, e477, e478, d479, d480, nm, seval]
          refine ktA (zau _ _ _ o482) ?_
          refine zab (fun tm => tm 1 = .sl (cellsL eI x1_a1) (List.length x1_a1) false ∧ tm 2 = .ptr 0 0 ∧ tm 5 = .sl (cellsL eI r82.1) (List.length r82.1) false ∧ tm 7 = .sl (cellsL eI r87.1) (List.length r87.1) false ∧ tm 9 = .lit (.int .i64 r94.1) ∧ tm 11 = .lit (.int .i64 r103.1) ∧ tm 137 = .lit (.bool r481) ∧ True) (by refine ⟨e471, e472, e473, e475, e476, e477, ?_, trivial⟩ <;> first | (simp only [ua, b468, e471, e472, e473, e474, e475, e476, e477, e478, d479, d480, nm, seval] <;> rfl) | rfl) ?_
          rintro tm ⟨e483, e484, e485, e486, e487, e488, e489, _⟩
          cases d490 : (r481)
          ·simp only [d490, hs] at h
           try simp only [vz, tyf, b468, d479, d480, e483, e484, e485, e486, e487, e488, e489, d490, nm, seval]
           obtain rfl := kF _ h
           exact zaa Tryz.results12 rfl
          simp only [d490, hs] at h
          obtain ⟨r491, o492, h⟩ := optI h kN
          try simp only [hs] at h
          simp only [vz, tyf, b468, d479, d480, e483, e484, e485, e486, e487, e488, e489, d490, nm, seval]
          refine ktA (zai _ _ _ o492) ?_
          refine zab (fun tm => tm 1 = .sl (cellsL eI x1_a1) (List.length x1_a1) false ∧ tm 2 = .ptr 0 0 ∧ tm 5 = .sl (cellsL eI r82.1) (List.length r82.1) false ∧ tm 9 = .lit (.int .i64 r94.1) ∧ tm 11 = .lit (.int .i64 r103.1) ∧ tm 139 = .lit (.bool false) ∧ tm 142 = .lit (.bool r491) ∧ True) (by refine ⟨e483, e484, e485, e487, e488, ?_, ?_, trivial⟩ <;> first | (simp only [ua, b468, d479, d480, e483, e484, e485, e486, e487, e488, e489, d490, nm, seval] <;> rfl) | rfl) ?_
          rintro tm ⟨e493, e494, e495, e496, e497, e498, e499, _⟩
          cases d500 : (r491)
          ·simp only [d500, hs] at h
           obtain ⟨r501, o502, h⟩ := optI h kN
           try simp only [hs] at h
           simp only [vz, tyf, b468, d479, d480, d490, e493, e494, e495, e496, e497, e498, e499, d500, nm, seval]
           refine ktA (zao _ _ _ o502) ?_
           refine zab (fun tm => tm 1 = .sl (cellsL eI x1_a1) (List.length x1_a1) false ∧ tm 5 = .sl (cellsL eI r82.1) (List.length r82.1) false ∧ tm 9 = .lit (.int .i64 r94.1) ∧ tm 11 = .lit (.int .i64 r103.1) ∧ tm 147 = .tup [.lit (.int .i64 r501.1), .lit (.bool r501.2)] ∧ True) (by refine ⟨e493, e495, e496, e497, ?_, trivial⟩ <;> first | (simp only [ua, b468, d479, d480, d490, e493, e494, e495, e496, e497, e498, e499, d500, nm, seval] <;> rfl) | rfl) ?_
           rintro tm ⟨e503, e504, e505, e506, e507, _⟩
           cases d508 : (r501.2)
           ·simp only [d508, hs] at h
            try simp only [vz, tyf, b468, d479, d480, d490, d500, e503, e504, e505, e506, e507, d508, nm, seval]
            obtain rfl := kF _ h
            exact zaa Tryz.results12 rfl
           simp only [d508, hs] at h
           cases d509 : (r501.1 == 3)
           ·simp only [d509, hs] at h
            have b510 := And.intro b468 (And.intro d479 (And.intro d480 (And.intro d490 (And.intro d500 (And.intro d508 d509)))))
            try simp only [vz, tyf, b510, e503, e504, e505, e506, e507, nm, seval]
            obtain rfl := kF _ h
            exact zaa Tryz.results12 rfl
           simp only [d509, hs] at h
           have b511 := And.intro b468 (And.intro d479 (And.intro d480 (And.intro d490 (And.intro d500 (And.intro d508 d509)))))
           cases d512 : (r103.1 != 3)
           ·simp only [d512, hs] at h
            obtain ⟨r513, o514, h⟩ := optI h kN
            try simp only [hs] at h
            simp only [vz, tyf, b511, e503, e504, e505, e506, e507, d512, nm, seval]
            refine ktA (zai _ _ _ o514) ?_
            refine zab (fun tm => tm 1 = .sl (cellsL eI x1_a1) (List.length x1_a1) false ∧ tm 5 = .sl (cellsL eI r82.1) (List.length r82.1) false ∧ tm 9 = .lit (.int .i64 r94.1) ∧ tm 155 = .lit (.bool true) ∧ tm 158 = .lit (.bool false) ∧ tm 161 = .lit (.bool r513) ∧ True) (by refine ⟨e503, e504, e505, ?_, ?_, ?_, trivial⟩ <;> first | (simp only [ua, b511, e503, e504, e505, e506, e507, d512, nm, seval] <;> rfl) | rfl) ?_
            rintro tm ⟨e515, e516, e517, e518, e519, e520, _⟩
            cases d521 : (r513)
            ·simp only [d521, hs] at h
             obtain ⟨r522, o523, h⟩ := optI h kN
             try simp only [hs] at h
             simp only [vz, tyf, b511, d512, e515, e516, e517, e518, e519, e520, d521, nm, seval]
             refine ktA (zdc _ _ _ o523) ?_
             refine zab (fun tm => tm 9 = .lit (.int .i64 r94.1) ∧ tm 155 = .lit (.bool true) ∧ tm 158 = .lit (.bool false) ∧ tm 163 = .lit (.bool true) ∧ tm 166 = .lit (.bool r522) ∧ True) (by refine ⟨e517, e518, e519, ?_, ?_, trivial⟩ <;> first | (simp only [ua, b511, d512, e515, e516, e517, e518, e519, e520, d521, nm, seval] <;> rfl) | rfl) ?_
             rintro tm ⟨e524, e525, e526, e527, e528, _⟩
             cases d529 : (r522)
             ·simp only [d529, hs] at h
              cases d530 : (decide (r94.1 > 1))
              ·simp only [d530, hs] at h
               try simp only [vz, tyf, b511, d512, d521, e524, e525, e526, e527, e528, d529, d530, nm, seval]
               obtain rfl := kF _ h
               exact zaa Tryz.results12 rfl
              simp only [d530, hs] at h
              simp only [vz, tyf, b511, d512, d521, e524, e525, e526, e527, e528, d529, d530, nm, seval]
              refine ktree0 zad ?_
              try simp only [vz, tyf, b511, d512, d521, e524, e525, e526, e527, e528, d529, d530, nm, seval]
              obtain rfl := kF _ h
              exact zaa Tryz.results12 rfl
             simp only [d529, hs] at h
             simp only [vz, tyf, b511, d512, d521, e524, e525, e526, e527, e528, d529, nm, seval]
             refine ktree0 zad ?_
             try simp only [vz, tyf, b511, d512, d521, e524, e525, e526, e527, e528, d529, nm, seval]
             obtain rfl := kF _ h
             exact zaa Tryz.results12 rfl
            simp only [d521, hs] at h
            try simp only [vz, tyf, b511, d512, e515, e516, e517, e518, e519, e520, d521, nm, seval]
            obtain rfl := kF _ h
            exact zaa Tryz.results12 rfl
           simp only [d512, hs] at h
           simp only [vz, tyf, b511, e503, e504, e505, e506, e507, d512, nm, seval]
           refine ktree0 zad ?_
           try simp only [vz, tyf, b511, e503, e504, e505, e506, e507, d512, nm, seval]
           obtain rfl := kF _ h
           exact zaa Tryz.results12 rfl
          simp only [d500, hs] at h
          try simp only [vz, tyf, b468, d479, d480, d490, e493, e494, e495, e496, e497, e498, e499, d500, nm, seval]
          obtain rfl := kF _ h
          exact zaa Tryz.results12 rfl
         simp only [d480, hs] at h
         try simp only [vz, tyf, b468, e471, e472, e473, e474, e475, e476, e477, e478, d479, d480, nm, seval]
         obtain rfl := kF _ h
         exact zaa Tryz.results12 rfl
        simp only [d455, hs] at h
        obtain ⟨r531, o532, h⟩ := optI h kN
        try simp only [hs] at h
        simp only [vz, tyf, b120, e105, e106, e107, e108, e109, e110, e111, e112, e113, d121, d122, d453, d454, d455, nm, seval]
        refine ktA (zau _ _ _ o532) ?_
        refine zab (fun tm => tm 1 = .sl (cellsL eI x1_a1) (List.length x1_a1) false ∧ tm 2 = .ptr 0 0 ∧ tm 5 = .sl (cellsL eI r82.1) (List.length r82.1) false ∧ tm 6 = .lit (.int .i64 r82.2) ∧ tm 7 = .sl (cellsL eI r87.1) (List.length r87.1) false ∧ tm 9 = .lit (.int .i64 r94.1) ∧ tm 11 = .lit (.int .i64 r103.1) ∧ tm 109 = .lit (.bool r531) ∧ True) (by refine ⟨e105, e106, e107, e108, e109, e111, ?_, ?_, trivial⟩ <;> first | (simp only [ua, b120, e105, e106, e107, e108, e109, e110, e111, e112, e113, d121, d122, d453, d454, d455, nm, seval] <;> rfl) | rfl) ?_
        rintro tm ⟨e533, e534, e535, e536, e537, e538, e539, e540, _⟩
        cases d541 : (r531)
        ·simp only [d541, hs] at h
         have b542 := And.intro b120 (And.intro d121 (And.intro d122 (And.intro d453 (And.intro d454 (And.intro d455 d541)))))
         try simp only [vz, tyf, b542, e533, e534, e535, e536, e537, e538, e539, e540, nm, seval]
         obtain rfl := kF _ h
         exact zaa Tryz.results12 rfl
        simp only [d541, hs] at h
        have b543 := And.intro b120 (And.intro d121 (And.intro d122 (And.intro d453 (And.intro d454 (And.intro d455 d541)))))
        obtain ⟨r544, o545, h⟩ := optI h kN
        try simp only [hs] at h
        simp only [vz, tyf, b543, e533, e534, e535, e536, e537, e538, e539, e540, nm, seval]
        refine ktA (zao _ _ _ o545) ?_
        refine zab (fun tm => tm 1 = .sl (cellsL eI x1_a1) (List.length x1_a1) false ∧ tm 2 = .ptr 0 0 ∧ tm 5 = .sl (cellsL eI r82.1) (List.length r82.1) false ∧ tm 6 = .lit (.int .i64 r82.2) ∧ tm 7 = .sl (cellsL eI r87.1) (List.length r87.1) false ∧ tm 9 = .lit (.int .i64 r94.1) ∧ tm 11 = .lit (.int .i64 r103.1) ∧ tm 114 = .tup [.lit (.int .i64 r544.1), .lit (.bool r544.2)] ∧ True) (by refine ⟨e533, e534, e535, e536, e537, e538, e539, ?_, trivial⟩ <;> first | (simp only [ua, b543, e533, e534, e535, e536, e537, e538, e539, e540, nm, seval] <;> rfl) | rfl) ?_
        rintro tm ⟨e546, e547, e548, e549, e550, e551, e552, e553, _⟩
        cases d554 : (r544.2)
        ·simp only [d554, hs] at h
         try simp only [vz, tyf, b543, e546, e547, e548, e549, e550, e551, e552, e553, d554, nm, seval]
         obtain rfl := kF _ h
         exact zaa Tryz.results12 rfl
        simp only [d554, hs] at h
        cases d555 : (r544.1 == 1)
        ·simp only [d555, hs] at h
         obtain ⟨r556, o557, h⟩ := optI h kN
         try simp only [hs] at h
         simp only [vz, tyf, b543, e546, e547, e548, e549, e550, e551, e552, e553, d554, d555, nm, seval]
         refine ktA (zai _ _ _ o557) ?_
         refine zab (fun tm => tm 1 = .sl (cellsL eI x1_a1) (List.length x1_a1) false ∧ tm 2 = .ptr 0 0 ∧ tm 5 = .sl (cellsL eI r82.1) (List.length r82.1) false ∧ tm 6 = .lit (.int .i64 r82.2) ∧ tm 7 = .sl (cellsL eI r87.1) (List.length r87.1) false ∧ tm 9 = .lit (.int .i64 r94.1) ∧ tm 11 = .lit (.int .i64 r103.1) ∧ tm 123 = .lit (.bool false) ∧ tm 126 = .lit (.bool true) ∧ tm 129 = .lit (.bool r556) ∧ True) (by refine ⟨e546, e547, e548, e549, e550, e551, e552, ?_, ?_, ?_, trivial⟩ <;> first | (simp only [ua, b543, e546, e547, e548, e549, e550, e551, e552, e553, d554, d555, nm, seval] <;> rfl) | rfl) ?_
         rintro tm ⟨e558, e559, e560, e561, e562, e563, e564, e565, e566, e567, _⟩
         cases d568 : (r556)
         ·simp only [d568, hs] at h
          obtain ⟨r569, o570, h⟩ := optI h kN
          try simp only [hs] at h
          simp only [vz, tyf, b543, d554, d555, e558, e559, e560, e561, e562, e563, e564, e565, e566, e567, d568, nm, seval]
          refine ktA (zau _ _ _ o570) ?_
          refine zab (fun tm => tm 1 = .sl (cellsL eI x1_a1) (List.length x1_a1) false ∧ tm 2 = .ptr 0 0 ∧ tm 5 = .sl (cellsL eI r82.1) (List.length r82.1) false ∧ tm 7 = .sl (cellsL eI r87.1) (List.length r87.1) false ∧ tm 9 = .lit (.int .i64 r94.1) ∧ tm 11 = .lit (.int .i64 r103.1) ∧ tm 137 = .lit (.bool r569) ∧ True) (by refine ⟨e558, e559, e560, e562, e563, e564, ?_, trivial⟩ <;> first | (simp only [ua, b543, d554, d555, e558, e559, e560, e561, e562, e563, e564, e565, e566, e567, d568, nm, seval] <;> rfl) | rfl) ?_
          rintro tm ⟨e571, e572, e573, e574, e575, e576, e577, _⟩
          cases d578 : (r569)
          ·simp only [d578, hs] at h
           try simp only [vz, tyf, b543, d554, d555, d568, e571, e572, e573, e574, e575, e576, e577, d578, nm, seval]
           obtain rfl := kF _ h
           exact zaa Tryz.results12 rfl
          simp only [d578, hs] at h
          obtain ⟨r579, o580, h⟩ := optI h kN
          try simp only [hs] at h
          simp only [vz, tyf, b543, d554, d555, d568, e571, e572, e573, e574, e575, e576, e577, d578, nm, seval]
          refine ktA (zai _ _ _ o580) ?_
          refine zab (fun tm => tm 1 = .sl (cellsL eI x1_a1) (List.length x1_a1) false ∧ tm 2 = .ptr 0 0 ∧ tm 5 = .sl (cellsL eI r82.1) (List.length r82.1) false ∧ tm 9 = .lit (.int .i64 r94.1) ∧ tm 11 = .lit (.int .i64 r103.1) ∧ tm 139 = .lit (.bool false) ∧ tm 142 = .lit (.bool r579) ∧ True) (by refine ⟨e571, e572, e573, e575, e576, ?_, ?_, trivial⟩ <;> first | (simp only [ua, b543, d554, d555, d568, e571, e572, e573, e574, e575, e576, e577, d578, nm, seval] <;> rfl) | rfl) ?_
          rintro tm ⟨e581, e582, e583, e584, e585, e586, e587, _⟩
          cases d588 : (r579)
          ·simp only [d588, hs] at h
           obtain ⟨r589, o590, h⟩ := optI h kN
           try simp only [hs] at h
           simp only [vz, tyf, b543, d554, d555, d568, d578, e581, e582, e583, e584, e585, e586, e587, d588, nm, seval]
           refine ktA (zao _ _ _ o590) ?_
           refine zab (fun tm => tm 1 = .sl (cellsL eI x1_a1) (List.length x1_a1) false ∧ tm 5 = .sl (cellsL eI r82.1) (List.length r82.1) false ∧ tm 9 = .lit (.int .i64 r94.1) ∧ tm 11 = .lit (.int .i64 r103.1) ∧ tm 147 = .tup [.lit (.int .i64 r589.1), .lit (.bool r589.2)] ∧ True) (by refine ⟨e581, e583, e584, e585, ?_, trivial⟩ <;> first | (simp only [ua, b543, d554, d555, d568, d578, e581, e582, e583, e584, e585, e586, e587, d588, nm, seval] <;> rfl) | rfl) ?_
           rintro tm ⟨e591, e592, e593, e594, e595, _⟩
           cases d596 : (r589.2)
           ·simp only [d596, hs] at h
            have b597 := And.intro b543 (And.intro d554 (And.intro d555 (And.intro d568 (And.intro d578 (And.intro d588 d596)))))
            try simp only [vz, tyf, b597, e591, e592, e593, e594, e595, nm, seval]
            obtain rfl := kF _ h
            exact zaa Tryz.results12 rfl
           simp only [d596, hs] at h
           have b598 := And.intro b543 (And.intro d554 (And.intro d555 (And.intro d568 (And.intro d578 (And.intro d588 d596)))))
           cases d599 : (r589.1 == 3)
           ·simp only [d599, hs] at h
            try simp only [vz, tyf, b598, e591, e592, e593, e594, e595, d599, nm, seval]
            obtain rfl := kF _ h
            exact zaa Tryz.results12 rfl
           simp only [d599, hs] at h
           cases d600 : (r103.1 != 3)
           ·simp only [d600, hs] at h
            obtain ⟨r601, o602, h⟩ := optI h kN
            try simp only [hs] at h
            simp only [vz, tyf, b598, e591, e592, e593, e594, e595, d599, d600, nm, seval]
            refine ktA (zai _ _ _ o602) ?_
            refine zab (fun tm => tm 1 = .sl (cellsL eI x1_a1) (List.length x1_a1) false ∧ tm 5 = .sl (cellsL eI r82.1) (List.length r82.1) false ∧ tm 9 = .lit (.int .i64 r94.1) ∧ tm 155 = .lit (.bool true) ∧ tm 158 = .lit (.bool false) ∧ tm 161 = .lit (.bool r601) ∧ True) (by refine ⟨e591, e592, e593, ?_, ?_, ?_, trivial⟩ <;> first | (simp only [ua, b598, e591, e592, e593, e594, e595, d599, d600, nm, seval] <;> rfl) | rfl) ?_
            rintro tm ⟨e603, e604, e605, e606, e607, e608, _⟩
            cases d609 : (r601)
            ·simp only [d609, hs] at h
             obtain ⟨r610, o611, h⟩ := optI h kN
             try simp only [hs] at h
             simp only [vz, tyf, b598, d599, d600, e603, e604, e605, e606, e607, e608, d609, nm, seval]
             refine ktA (zdc _ _ _ o611) ?_
             refine zab (fun tm => tm 9 = .lit (.int .i64 r94.1) ∧ tm 155 = .lit (.bool true) ∧ tm 158 = .lit (.bool false) ∧ tm 163 = .lit (.bool true) ∧ tm 166 = .lit (.bool r610) ∧ True) (by refine ⟨e605, e606, e607, ?_, ?_, trivial⟩ <;> first | (simp only [ua, b598, d599, d600, e603, e604, e605, e606, e607, e608, d609, nm, seval] <;> rfl) | rfl) ?_
             rintro tm ⟨e612, e613, e614, e615, e616, _⟩
             cases d617 : (r610)
             ·simp only [d617, hs] at h
              cases d618 : (decide (r94.1 > 1))
              ·simp only [d618, hs] at h
               try simp only [vz, tyf, b598, d599, d600, d609, e612, e613, e614, e615, e616, d617, d618, nm, seval]
               obtain rfl := kF _ h
               exact zaa Tryz.results12 rfl
              simp only [d618, hs] at h
              simp only [vz, tyf, b598, d599, d600, d609, e612, e613, e614, e615, e616, d617, d618, nm, seval]
              refine ktree0 zad ?_
              try simp only [vz, tyf, b598, d599, d600, d609, e612, e613, e614, e615, e616, d617, d618, nm, seval]
              obtain rfl := kF _ h
              exact zaa Tryz.results12 rfl
             simp only [d617, hs] at h
             simp only [vz, tyf, b598, d599, d600, d609, e612, e613, e614, e615, e616, d617, nm, seval]
             refine ktree0 zad ?_
             try simp only [vz, tyf, b598, d599, d600, d609, e612, e613, e614, e615, e616, d617, nm, seval]
             obtain rfl := kF _ h
             exact zaa Tryz.results12 rfl
            simp only [d609, hs] at h
            try simp only [vz, tyf, b598, d599, d600, e603, e604, e605, e606, e607, e608, d609, nm, seval]
            obtain rfl := kF _ h
            exact zaa Tryz.results12 rfl
           simp only [d600, hs] at h
           simp only [vz, tyf, b598, e591, e592, e593, e594, e595, d599, d600, nm, seval]
           refine ktree0 zad ?_
           try simp only [vz, tyf, b598, e591, e592, e593, e594, e595, d599, d600, nm, seval]
           obtain rfl := kF _ h
           exact zaa Tryz.results12 rfl
          simp only [d588, hs] at h
          try simp only [vz, tyf, b543, d554, d555, d568, d578, e581, e582, e583, e584, e585, e586, e587, d588, nm, seval]
          obtain rfl := kF _ h
          exact zaa Tryz.results12 rfl
         simp only [d568, hs] at h
         try simp only [vz, tyf, b543, d554, d555, e558, e559, e560, e561, e562, e563, e564, e565, e566, e567, d568, nm, seval]
         obtain rfl := kF _ h
         exact zaa Tryz.results12 rfl
        simp only [d555, hs] at h
        try simp only [vz, tyf, b543, e546, e547, e548, e549, e550, e551, e552, e553, d554, d555, nm, seval]
        obtain rfl := kF _ h
        exact zaa Tryz.results12 rfl
       simp only [d454, hs] at h
       cases d619 : (r103.1 != 1)
       ·simp only [d619, hs] at h
        obtain ⟨r620, o621, h⟩ := optI h kN
        try simp only [hs] at h
        simp only [vz, tyf, b120, e105, e106, e107, e108, e109, e110, e111, e112, e113, d121, d122, d453, d454, d619, nm, seval]
        refine ktA (zau _ _ _ o621) ?_
        refine zab (fun tm => tm 1 = .sl (cellsL eI x1_a1) (List.length x1_a1) false ∧ tm 2 = .ptr 0 0 ∧ tm 5 = .sl (cellsL eI r82.1) (List.length r82.1) false ∧ tm 6 = .lit (.int .i64 r82.2) ∧ tm 7 = .sl (cellsL eI r87.1) (List.length r87.1) false ∧ tm 9 = .lit (.int .i64 r94.1) ∧ tm 11 = .lit (.int .i64 r103.1) ∧ tm 109 = .lit (.bool r620) ∧ True) (by refine ⟨e105, e106, e107, e108, e109, e111, ?_, ?_, trivial⟩ <;> first | (simp only [ua, b120, e105, e106, e107, e108, e109, e110, e111, e112, e113, d121, d122, d453, d454, d619, nm, seval] <;> rfl) | rfl) ?_
        rintro tm ⟨e622, e623, e624, e625, e626, e627, e628, e629, _⟩
        cases d630 : (r620)
        ·simp only [d630, hs] at h
         have b631 := And.intro b120 (And.intro d121 (And.intro d122 (And.intro d453 (And.intro d454 (And.intro d619 d630)))))
         try simp only [vz, tyf, b631, e622, e623, e624, e625, e626, e627, e628, e629, nm, seval]
         obtain rfl := kF _ h
         exact zaa Tryz.results12 rfl
        simp only [d630, hs] at h
        have b632 := And.intro b120 (And.intro d121 (And.intro d122 (And.intro d453 (And.intro d454 (And.intro d619 d630)))))
        obtain ⟨r633, o634, h⟩ := optI h kN
        try simp only [hs] at h
        simp only [vz, tyf, b632, e622, e623, e624, e625, e626, e627, e628, e629, nm, seval]
        refine ktA (zao _ _ _ o634) ?_
        refine zab (fun tm => tm 1 = .sl (cellsL eI x1_a1) (List.length x1_a1) false ∧ tm 2 = .ptr 0 0 ∧ tm 5 = .sl (cellsL eI r82.1) (List.length r82.1) false ∧ tm 6 = .lit (.int .i64 r82.2) ∧ tm 7 = .sl (cellsL eI r87.1) (List.length r87.1) false ∧ tm 9 = .lit (.int .i64 r94.1) ∧ tm 11 = .lit (.int .i64 r103.1) ∧ tm 114 = .tup [.lit (.int .i64 r633.1), .lit (.bool r633.2)] ∧ True) (by refine ⟨e622, e623, e624, e625, e626, e627, e628, ?_, trivial⟩ <;> first | (simp only [ua, b632, e622, e623, e624, e625, e626, e627, e628, e629, nm, seval] <;> rfl) | rfl) ?_
        rintro tm ⟨e635, e636, e637, e638, e639, e640, e641, e642, _⟩
        cases d643 : (r633.2)
        ·simp only [d643, hs] at h
         try simp only [vz, tyf, b632, e635, e636, e637, e638, e639, e640, e641, e642, d643, nm, seval]
         obtain rfl := kF _ h
         exact zaa Tryz.results12 rfl
        simp only [d643, hs] at h
        cases d644 : (r633.1 == 1)
        ·simp only [d644, hs] at h
         obtain ⟨r645, o646, h⟩ := optI h kN
         try simp only [hs] at h
         simp only [vz, tyf, b632, e635, e636, e637, e638, e639, e640, e641, e642, d643, d644, nm, seval]
         refine ktA (zau _ _ _ o646) ?_
         refine zab (fun tm => tm 1 = .sl (cellsL eI x1_a1) (List.length x1_a1) false ∧ tm 2 = .ptr 0 0 ∧ tm 5 = .sl (cellsL eI r82.1) (List.length r82.1) false ∧ tm 7 = .sl (cellsL eI r87.1) (List.length r87.1) false ∧ tm 9 = .lit (.int .i64 r94.1) ∧ tm 11 = .lit (.int .i64 r103.1) ∧ tm 137 = .lit (.bool r645) ∧ True) (by refine ⟨e635, e636, e637, e639, e640, e641, ?_, trivial⟩ <;> first | (simp only [ua, b632, e635, e636, e637, e638, e639, e640, e641, e642, d643, d644, nm, seval] <;> rfl) | rfl) ?_
         rintro tm ⟨e647, e648, e649, e650, e651, e652, e653, _⟩
         cases d654 : (r645)
         ·simp only [d654, hs] at h
          try simp only [vz, tyf, b632, d643, d644, e647, e648, e649, e650, e651, e652, e653, d654, nm, seval]
          obtain rfl := kF _ h
          exact zaa Tryz.results12 rfl
         simp only [d654, hs] at h
         obtain ⟨r655, o656, h⟩ := optI h kN
         try simp only [hs] at h
         simp only [vz, tyf, b632, d643, d644, e647, e648, e649, e650, e651, e652, e653, d654, nm, seval]
         refine ktA (zai _ _ _ o656) ?_
         refine zab (fun tm => tm 1 = .sl (cellsL eI x1_a1) (List.length x1_a1) false ∧ tm 2 = .ptr 0 0 ∧ tm 5 = .sl (cellsL eI r82.1) (List.length r82.1) false ∧ tm 9 = .lit (.int .i64 r94.1) ∧ tm 11 = .lit (.int .i64 r103.1) ∧ tm 139 = .lit (.bool false) ∧ tm 142 = .lit (.bool r655) ∧ True) (by refine ⟨e647, e648, e649, e651, e652, ?_, ?_, trivial⟩ <;> first | (simp only [ua, b632, d643, d644, e647, e648, e649, e650, e651, e652, e653, d654, nm, seval] <;> rfl) | rfl) ?_
         rintro tm ⟨e657, e658, e659, e660, e661, e662, e663, _⟩
         cases d664 : (r655)
         ·simp only [d664, hs] at h
          obtain ⟨r665, o666, h⟩ := optI h kN
          try simp only [hs] at h
          simp only [vz, tyf, b632, d643, d644, d654, e657, e658, e659, e660, e661, e662, e663, d664, nm, seval]
          refine ktA (zao _ _ _ o666) ?_
          refine zab (fun tm => tm 1 = .sl (cellsL eI x1_a1) (List.length x1_a1) false ∧ tm 5 = .sl (cellsL eI r82.1) (List.length r82.1) false ∧ tm 9 = .lit (.int .i64 r94.1) ∧ tm 11 = .lit (.int .i64 r103.1) ∧ tm 147 = .tup [.lit (.int .i64 r665.1), .lit (.bool r665.2)] ∧ True) (by refine ⟨e657, e659, e660, e661, ?_, trivial⟩ <;> first | (simp only [ua, b632, d643, d644, d654, e657, e658, e659, e660, e661, e662, e663, d664, nm, seval] <;> rfl) | rfl) ?_
          rintro tm ⟨e667, e668, e669, e670, e671, _⟩
          cases d672 : (r665.2)
          ·simp only [d672, hs] at h
           try simp only [vz, tyf, b632, d643, d644, d654, d664, e667, e668, e669, e670, e671, d672, nm, seval]
           obtain rfl := kF _ h
           exact zaa Tryz.results12 rfl
          simp only [d672, hs] at h
          cases d673 : (r665.1 == 3)
          ·simp only [d673, hs] at h
           have b674 := And.intro b632 (And.intro d643 (And.intro d644 (And.intro d654 (And.intro d664 (And.intro d672 d673)))))
           try simp only [vz, tyf, b674, e667, e668, e669, e670, e671, nm, seval]
           obtain rfl := kF _ h
           exact zaa Tryz.results12 rfl
          simp only [d673, hs] at h
          have b675 := And.intro b632 (And.intro d643 (And.intro d644 (And.intro d654 (And.intro d664 (And.intro d672 d673)))))
          cases d676 : (r103.1 != 3)
          ·simp only [d676, hs] at h
           obtain ⟨r677, o678, h⟩ := optI h kN
           try simp only [hs] at h
           simp only [vz, tyf, b675, e667, e668, e669, e670, e671, d676, nm, seval]
           refine ktA (zai _ _ _ o678) ?_
           refine zab (fun tm => tm 1 = .sl (cellsL eI x1_a1) (List.length x1_a1) false ∧ tm 5 = .sl (cellsL eI r82.1) (List.length r82.1) false ∧ tm 9 = .lit (.int .i64 r94.1) ∧ tm 155 = .lit (.bool true) ∧ tm 158 = .lit (.bool false) ∧ tm 161 = .lit (.bool r677) ∧ True) (by refine ⟨e667, e668, e669, ?_, ?_, ?_, trivial⟩ <;> first | (simp only [ua, b675, e667, e668, e669, e670, e671, d676, nm, seval] <;> rfl) | rfl) ?_
           rintro tm ⟨e679, e680, e681, e682, e683, e684, _⟩
           cases d685 : (r677)
           ·simp only [d685, hs] at h
            obtain ⟨r686, o687, h⟩ := optI h kN
            try simp only [hs] at h
            simp only [vz, tyf, b675, d676, e679, e680, e681, e682, e683, e684, d685, nm, seval]
            refine ktA (zdc _ _ _ o687) ?_
            refine zab (fun tm => tm 9 = .lit (.int .i64 r94.1) ∧ tm 155 = .lit (.bool true) ∧ tm 158 = .lit (.bool false) ∧ tm 163 = .lit (.bool true) ∧ tm 166 = .lit (.bool r686) ∧ True) (by refine ⟨e681, e682, e683, ?_, ?_, trivial⟩ <;> first | (simp only [ua, b675, d676, e679, e680, e681, e682, e683, e684, d685, nm, seval] <;> rfl) | rfl) ?_
            rintro tm ⟨e688, e689, e690, e691, e692, _⟩
            cases d693 : (r686)
            ·simp only [d693, hs] at h
             cases d694 : (decide (r94.1 > 1))
             ·simp only [d694, hs] at h
              try simp only [vz, tyf, b675, d676, d685, e688, e689, e690, e691, e692, d693, d694, nm, seval]
              obtain rfl := kF _ h
              exact zaa Tryz.results12 rfl
             simp only [d694, hs] at h
             simp only [vz, tyf, b675, d676, d685, e688, e689, e690, e691, e692, d693, d694, nm, seval]
             refine ktree0 zad ?_
             try simp only [vz, tyf, b675, d676, d685, e688, e689, e690, e691, e692, d693, d694, nm, seval]
             obtain rfl := kF _ h
             exact zaa Tryz.results12 rfl
            simp only [d693, hs] at h
            simp only [vz, tyf, b675, d676, d685, e688, e689, e690, e691, e692, d693, nm, seval]
            refine ktree0 zad ?_
            try simp only [vz, tyf, b675, d676, d685, e688, e689, e690, e691, e692, d693, nm, seval]
            obtain rfl := kF _ h
            exact zaa Tryz.results12 rfl
           simp only [d685, hs] at h
           try simp only [vz, tyf, b675, d676, e679, e680, e681, e682, e683, e684, d685, nm, seval]
           obtain rfl := kF _ h
           exact zaa Tryz.results12 rfl
          simp only [d676, hs] at h
          simp only [vz, tyf, b675, e667, e668, e669, e670, e671, d676, nm, seval]
          refine ktree0 zad ?_
          try simp only [vz, tyf, b675, e667, e668, e669, e670, e671, d676, nm, seval]
          obtain rfl := kF _ h
          exact zaa Tryz.results12 rfl
         simp only [d664, hs] at h
         try simp only [vz, tyf, b632, d643, d644, d654, e657, e658, e659, e660, e661, e662, e663, d664, nm, seval]
         obtain rfl := kF _ h
         exact zaa Tryz.results12 rfl
        simp only [d644, hs] at h
        try simp only [vz, tyf, b632, e635, e636, e637, e638, e639, e640, e641, e642, d643, d644, nm, seval]
        obtain rfl := kF _ h
        exact zaa Tryz.results12 rfl
       simp only [d619, hs] at h
       obtain ⟨r695, o696, h⟩ := optI h kN
       try simp only [hs] at h
       simp only [vz, tyf, b120, e105, e106, e107, e108, e109, e110, e111, e112, e113, d121, d122, d453, d454, d619, nm, seval]
       refine ktA (zau _ _ _ o696) ?_
       refine zab (fun tm => tm 1 = .sl (cellsL eI x1_a1) (List.length x1_a1) false ∧ tm 2 = .ptr 0 0 ∧ tm 5 = .sl (cellsL eI r82.1) (List.length r82.1) false ∧ tm 6 = .lit (.int .i64 r82.2) ∧ tm 7 = .sl (cellsL eI r87.1) (List.length r87.1) false ∧ tm 9 = .lit (.int .i64 r94.1) ∧ tm 11 = .lit (.int .i64 r103.1) ∧ tm 109 = .lit (.bool r695) ∧ True) (by refine ⟨e105, e106, e107, e108, e109, e111, ?_, ?_, trivial⟩ <;> first | (simp only [ua, b120, e105, e106, e107, e108, e109, e110, e111, e112, e113, d121, d122, d453, d454, d619, nm, seval] <;> rfl) | rfl) ?_
       rintro tm ⟨e697, e698, e699, e700, e701, e702, e703, e704, _⟩
       cases d705 : (r695)
       ·simp only [d705, hs] at h
        have b706 := And.intro b120 (And.intro d121 (And.intro d122 (And.intro d453 (And.intro d454 (And.intro d619 d705)))))
        try simp only [vz, tyf, b706, e697, e698, e699, e700, e701, e702, e703, e704, nm, seval]
        obtain rfl := kF _ h
        exact zaa Tryz.results12 rfl
       simp only [d705, hs] at h
       have b707 := And.intro b120 (And.intro d121 (And.intro d122 (And.intro d453 (And.intro d454 (And.intro d619 d705)))))
       obtain ⟨r708, o709, h⟩ := optI h kN
       try simp only [hs] at h
       simp only [vz, tyf, b707, e697, e698, e699, e700, e701, e702, e703, e704, nm, seval]
       refine ktA (zao _ _ _ o709) ?_
       refine zab (fun tm => tm 1 = .sl (cellsL eI x1_a1) (List.length x1_a1) false ∧ tm 2 = .ptr 0 0 ∧ tm 5 = .sl (cellsL eI r82.1) (List.length r82.1) false ∧ tm 6 = .lit (.int .i64 r82.2) ∧ tm 7 = .sl (cellsL eI r87.1) (List.length r87.1) false ∧ tm 9 = .lit (.int .i64 r94.1) ∧ tm 11 = .lit (.int .i64 r103.1) ∧ tm 114 = .tup [.lit (.int .i64 r708.1), .lit (.bool r708.2)] ∧ True) (by refine ⟨e697, e698, e699, e700, e701, e702, e703, ?_, trivial⟩ <;> first | (simp only [ua, b707, e697, e698, e699, e700, e701, e702, e703, e704, nm, seval] <;> rfl) | rfl) ?_
       rintro tm ⟨e710, e711, e712, e713, e714, e715, e716, e717, _⟩
       cases d718 : (r708.2)
       ·simp only [d718, hs] at h
        try simp only [vz, tyf, b707, e710, e711, e712, e713, e714, e715, e716, e717, d718, nm, seval]
        obtain rfl := kF _ h
        exact zaa Tryz.results12 rfl
       simp only [d718, hs] at h
       cases d719 : (r708.1 == 1)
       ·simp only [d719, hs] at h
        obtain ⟨r720, o721, h⟩ := optI h kN
        try simp only [hs] at h
        simp only [vz, tyf, b707, e710, e711, e712, e713, e714, e715, e716, e717, d718, d719, nm, seval]
        refine ktA (zai _ _ _ o721) ?_
        refine zab (fun tm => tm 1 = .sl (cellsL eI x1_a1) (List.length x1_a1) false ∧ tm 2 = .ptr 0 0 ∧ tm 5 = .sl (cellsL eI r82.1) (List.length r82.1) false ∧ tm 6 = .lit (.int .i64 r82.2) ∧ tm 7 = .sl (cellsL eI r87.1) (List.length r87.1) false ∧ tm 9 = .lit (.int .i64 r94.1) ∧ tm 11 = .lit (.int .i64 r103.1) ∧ tm 123 = .lit (.bool false) ∧ tm 126 = .lit (.bool true) ∧ tm 129 = .lit (.bool r720) ∧ True) (by refine ⟨e710, e711, e712, e713, e714, e715, e716, ?_, ?_, ?_, trivial⟩ <;> first | (simp only [ua, b707, e710, e711, e712, e713, e714, e715, e716, e717, d718, d719, nm, seval] <;> rfl) | rfl) ?_
        rintro tm ⟨e722, e723, e724, e725, e726, e727, e728, e729, e730, e731, _⟩
        cases d732 : (r720)
        ·simp only [d732, hs] at h
         obtain ⟨r733, o734, h⟩ := optI h kN
         try simp only [hs] at h
         simp only [vz, tyf, b707, d718, d719, e722, e723, e724, e725, e726, e727, e728, e729, e730, e731, d732, nm, seval]
         refine ktA (zau _ _ _ o734) ?_
         refine zab (fun tm => tm 1 = .sl (cellsL eI x1_a1) (List.length x1_a1) false ∧ tm 2 = .ptr 0 0 ∧ tm 5 = .sl (cellsL eI r82.1) (List.length r82.1) false ∧ tm 7 = .sl (cellsL eI r87.1) (List.length r87.1) false ∧ tm 9 = .lit (.int .i64 r94.1) ∧ tm 11 = .lit (.int .i64 r103.1) ∧ tm 137 = .lit (.bool r733) ∧ True) (by refine ⟨e722, e723, e724, e726, e727, e728, ?_, trivial⟩ <;> first | (simp only [ua, b707, d718, d719, e722, e723, e724, e725, e726, e727, e728, e729, e730, e731, d732, nm, seval] <;> rfl) | rfl) ?_
         rintro tm ⟨e735, e736, e737, e738, e739, e740, e741, _⟩
         cases d742 : (r733)
         ·simp only [d742, hs] at h
          try simp only [vz, tyf, b707, d718, d719, d732, e735, e736, e737, e738, e739, e740, e741, d742, nm, seval]
          obtain rfl := kF _ h
          exact zaa Tryz.results12 rfl
         simp only [d742, hs] at h
         obtain ⟨r743, o744, h⟩ := optI h kN
         try simp only [hs] at h
         simp only [vz, tyf, b707, d718, d719, d732, e735, e736, e737, e738, e739, e740, e741, d742, nm, seval]
         refine ktA (zai _ _ _ o744) ?_
         refine zab (fun tm => tm 1 = .sl (cellsL eI x1_a1) (List.length x1_a1) false ∧ tm 2 = .ptr 0 0 ∧ tm 5 = .sl (cellsL eI r82.1) (List.length r82.1) false ∧ tm 9 = .lit (.int .i64 r94.1) ∧ tm 11 = .lit (.int .i64 r103.1) ∧ tm 139 = .lit (.bool false) ∧ tm 142 = .lit (.bool r743) ∧ True) (by refine ⟨e735, e736, e737, e739, e740, ?_, ?_, trivial⟩ <;> first | (simp only [ua, b707, d718, d719, d732, e735, e736, e737, e738, e739, e740, e741, d742, nm, seval] <;> rfl) | rfl) ?_
         rintro tm ⟨e745, e746, e747, e748, e749, e750, e751, _⟩
         cases d752 : (r743)
         ·simp only [d752, hs] at h
          obtain ⟨r753, o754, h⟩ := optI h kN
          try simp only [hs] at h
          simp only [vz, tyf, b707, d718, d719, d732, d742, e745, e746, e747, e748, e749, e750, e751, d752, nm, seval]
          refine ktA (zao _ _ _ o754) ?_
          refine zab (fun tm => tm 1 = .sl (cellsL eI x1_a1) (List.length x1_a1) false ∧ tm 5 = .sl (cellsL eI r82.1) (List.length r82.1) false ∧ tm 9 = .lit (.int .i64 r94.1) ∧ tm 11 = .lit (.int .i64 r103.1) ∧ tm 147 = .tup [.lit (.int .i64 r753.1), .lit (.bool r753.2)] ∧ True) (by refine ⟨e745, e747, e748, e749, ?_, trivial⟩ <;> first | (simp only [ua, b707, d718, d719, d732, d742, e745, e746, e747, e748, e749, e750, e751, d752, nm, seval] <;> rfl) | rfl) ?_
          rintro tm ⟨e755, e756, e757, e758, e759, _⟩
          cases d760 : (r753.2)
          ·simp only [d760, hs] at h
           have b761 := And.intro b707 (And.intro d718 (And.intro d719 (And.intro d732 (And.intro d742 (And.intro d752 d760)))))
           try simp only [vz, tyf, b761, e755, e756, e757, e758, e759, nm, seval]
           obtain rfl := kF _ h
           exact zaa Tryz.results12 rfl
          simp only [d760, hs] at h
          have b762 := And.intro b707 (And.intro d718 (And.intro d719 (And.intro d732 (And.intro d742 (And.intro d752 d760)))))
          cases d763 : (r753.1 == 3)
          ·simp only [d763, hs] at h
           try simp only [vz, tyf, b762, e755, e756, e757, e758, e759, d763, nm, seval]
           obtain rfl := kF _ h
           exact zaa Tryz.results12 rfl
          simp only [d763, hs] at h
          cases d764 : (r103.1 != 3)
          ·simp only [d764, hs] at h
           obtain ⟨r765, o766, h⟩ := optI h kN
           try simp only [hs] at h
           simp only [vz, tyf, b762, e755, e756, e757, e758, e759, d763, d764, nm, seval]
           refine ktA (zai _ _ _ o766) ?_
           refine zab (fun tm => tm 1 = .sl (cellsL eI x1_a1) (List.length x1_a1) false ∧ tm 5 = .sl (cellsL eI r82.1) (List.length r82.1) false ∧ tm 9 = .lit (.int .i64 r94.1) ∧ tm 155 = .lit (.bool true) ∧ tm 158 = .lit (.bool false) ∧ tm 161 = .lit (.bool r765) ∧ True) (by refine ⟨e755, e756, e757, ?_, ?_, ?_, trivial⟩ <;> first | (simp only [ua, b762, e755, e756, e757, e758, e759, d763, d764, nm, seval] <;> rfl) | rfl) ?_
           rintro tm ⟨e767, e768, e769, e770, e771, e772, _⟩
           cases d773 : (r765)
           ·simp only [d773, hs] at h
            obtain ⟨r774, o775, h⟩ := optI h kN
            try simp only [hs] at h
            simp only [vz, tyf, b762, d763, d764, e767, e768, e769, e770, e771, e772, d773, nm, seval]
            refine ktA (zdc _ _ _ o775) ?_
            refine zab (fun tm => tm 9 = .lit (.int .i64 r94.1) ∧ tm 155 = .lit (.bool true) ∧ tm 158 = .lit (.bool false) ∧ tm 163 = .lit (.bool true) ∧ tm 166 = .lit (.bool r774) ∧ True) (by refine ⟨e769, e770, e771, ?_, ?_, trivial⟩ <;> first | (simp only [ua, b762, d763, d764, e767, e768, e769, e770, e771, e772, d773, nm, seval] <;> rfl) | rfl) ?_
            rintro tm ⟨e776, e777, e778, e779, e780, _⟩
            cases d781 : (r774)
            ·simp only [d781, hs] at h
             cases d782 : (decide (r94.1 > 1))
             ·simp only [d782, hs] at h
              try simp only [vz, tyf, b762, d763, d764, d773, e776, e777, e778, e779, e780, d781, d782, nm, seval]
              obtain rfl := kF _ h
              exact zaa Tryz.results12 rfl
             simp only [d782, hs] at h
             simp only [vz, tyf, b762, d763, d764, d773, e776, e777, e778, e779, e780, d781, d782, nm, seval]
             refine ktree0 zad ?_
             try simp only [vz, tyf, b762, d763, d764, d773, e776, e777, e778, e779, e780, d781, d782, nm, seval]
             obtain rfl := kF _ h
             exact zaa Tryz.results12 rfl
            simp only [d781, hs] at h
            simp only [vz, tyf, b762, d763, d764, d773, e776, e777, e778, e779, e780, d781, nm, seval]
            refine ktree0 zad ?_
            try simp only [vz, tyf, b762, d763, d764, d773, e776, e777, e778, e779, e780, d781, nm, seval]
            obtain rfl := kF _ h
            exact zaa Tryz.results12 rfl
           simp only [d773, hs] at h
           try simp only [vz, tyf, b762, d763, d764, e767, e768, e769, e770, e771, e772, d773, nm, seval]
           obtain rfl := kF _ h
           exact zaa Tryz.results12 rfl
          simp only [d764, hs] at h
          simp only [vz, tyf, b762, e755, e756, e757, e758, e759, d763, d764, nm, seval]
          refine ktree0 zad ?_
          try simp only [vz, tyf, b762, e755, e756, e757, e758, e759, d763, d764, nm, seval]
          obtain rfl := kF _ h
          exact zaa Tryz.results12 rfl
         simp only [d752, hs] at h
         try simp only [vz, tyf, b707, d718, d719, d732, d742, e745, e746, e747, e748, e749, e750, e751, d752, nm, seval]
         obtain rfl := kF _ h
         exact zaa Tryz.results12 rfl
        simp only [d732, hs] at h
        try simp only [vz, tyf, b707, d718, d719, e722, e723, e724, e725, e726, e727, e728, e729, e730, e731, d732, nm, seval]
        obtain rfl := kF _ h
        exact zaa Tryz.results12 rfl
       simp only [d719, hs] at h
       try simp only [vz, tyf, b707, e710, e711, e712, e713, e714, e715, e716, e717, d718, d719, nm, seval]
       obtain rfl := kF _ h
       exact zaa Tryz.results12 rfl
      simp only [d121, hs] at h
      try simp only [vz, tyf, b120, e105, e106, e107, e108, e109, e110, e111, e112, e113, d121, nm, seval]
      obtain rfl := kF _ h
      exact zaa Tryz.results12 rfl
     simp only [d119, hs] at h
     have b783 := And.intro d81 (And.intro d114 (And.intro d115 (And.intro d116 (And.intro d117 (And.intro d118 d119)))))
     try simp only [vz, tyf, b783, e105, e106, e107, e108, e109, e110, e111, e112, e113, nm, seval]
     obtain rfl := kF _ h
     exact zaa Tryz.results12 rfl
    simp only [d118, hs] at h
    try simp only [vz, tyf, d81, e105, e106, e107, e108, e109, e110, e111, e112, e113, d114, d115, d116, d117, d118, nm, seval]
    obtain rfl := kF _ h
    exact zaa Tryz.results12 rfl
   simp only [d117, hs] at h
   try simp only [vz, tyf, d81, e105, e106, e107, e108, e109, e110, e111, e112, e113, d114, d115, d116, d117, nm, seval]
   obtain rfl := kF _ h
   exact zaa Tryz.results12 rfl
  simp only [d116, hs] at h
  cases d784 : (r87.2 != 5)
  ·simp only [d784, hs] at h
   cases d785 : (r94.2 != 0)
   ·simp only [d785, hs] at h
    cases d786 : (decide (r94.1 < 0))
    ·simp only [d786, hs] at h
     have b787 := And.intro d81 (And.intro d114 (And.intro d115 (And.intro d116 (And.intro d784 (And.intro d785 d786)))))
     cases d788 : (decide (r94.1 > 494))
     ·simp only [d788, hs] at h
      cases d789 : ((decide (r94.1 > 0)) != (r82.2 == 0))
      ·simp only [d789, hs] at h
       cases d790 : (r82.2 == 0)
       ·simp only [d790, hs] at h
        have d791 := d789
        simp only [d790] at d791
        cases d792 : (r103.1 == 3)
        ·simp only [d792, hs] at h
         cases d793 : (r103.1 != 1)
         ·simp only [d793, hs] at h
          have b794 := And.intro b787 (And.intro d788 (And.intro d789 (And.intro d790 (And.intro d791 (And.intro d792 d793)))))
          simp only [vz, tyf, b794, e105, e106, e107, e108, e109, e110, e111, e112, e113, nm, seval]
          refine ktree0 zad ?_
          try simp only [vz, tyf, b794, e105, e106, e107, e108, e109, e110, e111, e112, e113, nm, seval]
          obtain rfl := kF _ h
          exact zaa Tryz.results12 rfl
         simp only [d793, hs] at h
         have b795 := And.intro b787 (And.intro d788 (And.intro d789 (And.intro d790 (And.intro d791 (And.intro d792 d793)))))
         try simp only [vz, tyf, b795, e105, e106, e107, e108, e109, e110, e111, e112, e113, nm, seval]
         obtain rfl := kF _ h
         exact zaa Tryz.results12 rfl
        simp only [d792, hs] at h
        cases d796 : (r103.1 != 1)
        ·simp only [d796, hs] at h
         have b797 := And.intro b787 (And.intro d788 (And.intro d789 (And.intro d790 (And.intro d791 (And.intro d792 d796)))))
         simp only [vz, tyf, b797, e105, e106, e107, e108, e109, e110, e111, e112, e113, nm, seval]
         refine ktree0 zad ?_
         try simp only [vz, tyf, b797, e105, e106, e107, e108, e109, e110, e111, e112, e113, nm, seval]
         obtain rfl := kF _ h
         exact zaa Tryz.results12 rfl
        simp only [d796, hs] at h
        have b798 := And.intro b787 (And.intro d788 (And.intro d789 (And.intro d790 (And.intro d791 (And.intro d792 d796)))))
        try simp only [vz, tyf, b798, e105, e106, e107, e108, e109, e110, e111, e112, e113, nm, seval]
        obtain rfl := kF _ h
        exact zaa Tryz.results12 rfl
       simp only [d790, hs] at h
       have d799 := d789
       simp only [d790] at d799
       try simp only [vz, tyf, b787, e105, e106, e107, e108, e109, e110, e111, e112, e113, d788, d789, d790, d799, nm, seval]
       obtain rfl := kF _ h
       exact zaa Tryz.results12 rfl
      simp only [d789, hs] at h
      try simp only [vz, tyf, b787, e105, e106, e107, e108, e109, e110, e111, e112, e113, d788, d789, nm, seval]
      obtain rfl := kF _ h
      exact zaa Tryz.results12 rfl
     simp only [d788, hs] at h
     try simp only [vz, tyf, b787, e105, e106, e107, e108, e109, e110, e111, e112, e113, d788, nm, seval]
     obtain rfl := kF _ h
     exact zaa Tryz.results12 rfl
    simp only [d786, hs] at h
    have b800 := And.intro d81 (And.intro d114 (And.intro d115 (And.intro d116 (And.intro d784 (And.intro d785 d786)))))
    try simp only [vz, tyf, b800, e105, e106, e107, e108, e109, e110, e111, e112, e113, nm, seval]
    obtain rfl := kF _ h
    exact zaa Tryz.results12 rfl
   simp only [d785, hs] at h
   try simp only [vz, tyf, d81, e105, e106, e107, e108, e109, e110, e111, e112, e113, d114, d115, d116, d784, d785, nm, seval]
   obtain rfl := kF _ h
   exact zaa Tryz.results12 rfl
  simp only [d784, hs] at h
  try simp only [vz, tyf, d81, e105, e106, e107, e108, e109, e110, e111, e112, e113, d114, d115, d116, d784, nm, seval]
  obtain rfl := kF _ h
  exact zaa Tryz.results12 rfl
 simp only [d115, hs] at h
 cases d801 : (r82.2 != 5)
 ·simp only [d801, hs] at h
  cases d802 : (r87.2 != 0)
  ·simp only [d802, hs] at h
   cases d803 : (r94.2 != 0)
   ·simp only [d803, hs] at h
    cases d804 : (decide (r94.1 < 0))
    ·simp only [d804, hs] at h
     have b805 := And.intro d81 (And.intro d114 (And.intro d115 (And.intro d801 (And.intro d802 (And.intro d803 d804)))))
     cases d806 : (decide (r94.1 > 494))
     ·simp only [d806, hs] at h
      cases d807 : ((decide (r94.1 > 0)) != (r82.2 == 0))
      ·simp only [d807, hs] at h
       cases d808 : (r82.2 == 0)
       ·simp only [d808, hs] at h
        have d809 := d807
        simp only [d808] at d809
        cases d810 : (r103.1 == 3)
        ·simp only [d810, hs] at h
         cases d811 : (r103.1 != 1)
         ·simp only [d811, hs] at h
          have b812 := And.intro b805 (And.intro d806 (And.intro d807 (And.intro d808 (And.intro d809 (And.intro d810 d811)))))
          obtain ⟨r813, o814, h⟩ := optI h kN
          try simp only [hs] at h
          simp only [vz, tyf, b812, e105, e106, e107, e108, e109, e110, e111, e112, e113, nm, seval]
          refine ktA (zau _ _ _ o814) ?_
          refine zab (fun tm => tm 1 = .sl (cellsL eI x1_a1) (List.length x1_a1) false ∧ tm 2 = .ptr 0 0 ∧ tm 5 = .sl (cellsL eI r82.1) (List.length r82.1) false ∧ tm 6 = .lit (.int .i64 r82.2) ∧ tm 7 = .sl (cellsL eI r87.1) (List.length r87.1) false ∧ tm 9 = .lit (.int .i64 r94.1) ∧ tm 11 = .lit (.int .i64 r103.1) ∧ tm 109 = .lit (.bool r813) ∧ True) (by refine ⟨e105, e106, e107, e108, e109, e111, ?_, ?_, trivial⟩ <;> first | (simp only [ua, b812, e105, e106, e107, e108, e109, e110, e111, e112, e113, nm, seval] <;> rfl) | rfl) ?_
          rintro tm ⟨e815, e816, e817, e818, e819, e820, e821, e822, _⟩
          cases d823 : (r813)
          ·simp only [d823, hs] at h
           try simp only [vz, tyf, b812, e815, e816, e817, e818, e819, e820, e821, e822, d823, nm, seval]
           obtain rfl := kF _ h
           exact zaa Tryz.results12 rfl
          simp only [d823, hs] at h
          obtain ⟨r824, o825, h⟩ := optI h kN
          try simp only [hs] at h
          simp only [vz, tyf, b812, e815, e816, e817, e818, e819, e820, e821, e822, d823, nm, seval]
          refine ktA (zao _ _ _ o825) ?_
          refine zab (fun tm => tm 1 = .sl (cellsL eI x1_a1) (List.length x1_a1) false ∧ tm 2 = .ptr 0 0 ∧ tm 5 = .sl (cellsL eI r82.1) (List.length r82.1) false ∧ tm 6 = .lit (.int .i64 r82.2) ∧ tm 7 = .sl (cellsL eI r87.1) (List.length r87.1) false ∧ tm 9 = .lit (.int .i64 r94.1) ∧ tm 11 = .lit (.int .i64 r103.1) ∧ tm 114 = .tup [.lit (.int .i64 r824.1), .lit (.bool r824.2)] ∧ True) (by refine ⟨e815, e816, e817, e818, e819, e820, e821, ?_, trivial⟩ <;> first | (simp only [ua, b812, e815, e816, e817, e818, e819, e820, e821, e822, d823, nm, seval] <;> rfl) | rfl) ?_
          rintro tm ⟨e826, e827, e828, e829, e830, e831, e832, e833, _⟩
          cases d834 : (r824.2)
          ·simp only [d834, hs] at h
           try simp only [vz, tyf, b812, d823, e826, e827, e828, e829, e830, e831, e832, e833, d834, nm, seval]
           obtain rfl := kF _ h
           exact zaa Tryz.results12 rfl
          simp only [d834, hs] at h
          cases d835 : (r824.1 == 1)
          ·simp only [d835, hs] at h
           simp only [vz, tyf, b812, d823, e826, e827, e828, e829, e830, e831, e832, e833, d834, d835, nm, seval]
           refine ktree0 zad ?_
           try simp only [vz, tyf, b812, d823, e826, e827, e828, e829, e830, e831, e832, e833, d834, d835, nm, seval]
           obtain rfl := kF _ h
           exact zaa Tryz.results12 rfl
          simp only [d835, hs] at h
          try simp only [vz, tyf, b812, d823, e826, e827, e828, e829, e830, e831, e832, e833, d834, d835, nm, seval]
          obtain rfl := kF _ h
          exact zaa Tryz.results12 rfl
         simp only [d811, hs] at h
         have b836 := And.intro b805 (And.intro d806 (And.intro d807 (And.intro d808 (And.intro d809 (And.intro d810 d811)))))
         obtain ⟨r837, o838, h⟩ := optI h kN
         try simp only [hs] at h
         simp only [vz, tyf, b836, e105, e106, e107, e108, e109, e110, e111, e112, e113, nm, seval]
         refine ktA (zau _ _ _ o838) ?_
         refine zab (fun tm => tm 1 = .sl (cellsL eI x1_a1) (List.length x1_a1) false ∧ tm 2 = .ptr 0 0 ∧ tm 5 = .sl (cellsL eI r82.1) (List.length r82.1) false ∧ tm 6 = .lit (.int .i64 r82.2) ∧ tm 7 = .sl (cellsL eI r87.1) (List.length r87.1) false ∧ tm 9 = .lit (.int .i64 r94.1) ∧ tm 11 = .lit (.int .i64 r103.1) ∧ tm 109 = .lit (.bool r837) ∧ True) (by refine ⟨e105, e106, e107, e108, e109, e111, ?_, ?_, trivial⟩ <;> first | (simp only [ua, b836, e105, e106, e107, e108, e109, e110, e111, e112, e113, nm, seval] <;> rfl) | rfl) ?_
         rintro tm ⟨e839, e840, e841, e842, e843, e844, e845, e846, _⟩
         cases d847 : (r837)
         ·simp only [d847, hs] at h
          try simp only [vz, tyf, b836, e839, e840, e841, e842, e843, e844, e845, e846, d847, nm, seval]
          obtain rfl := kF _ h
          exact zaa Tryz.results12 rfl
         simp only [d847, hs] at h
         obtain ⟨r848, o849, h⟩ := optI h kN
         try simp only [hs] at h
         simp only [vz, tyf, b836, e839, e840, e841, e842, e843, e844, e845, e846, d847, nm, seval]
         refine ktA (zao _ _ _ o849) ?_
         refine zab (fun tm => tm 1 = .sl (cellsL eI x1_a1) (List.length x1_a1) false ∧ tm 2 = .ptr 0 0 ∧ tm 5 = .sl (cellsL eI r82.1) (List.length r82.1) false ∧ tm 6 = .lit (.int .i64 r82.2) ∧ tm 7 = .sl (cellsL eI r87.1) (List.length r87.1) false ∧ tm 9 = .lit (.int .i64 r94.1) ∧ tm 11 = .lit (.int .i64 r103.1) ∧ tm 114 = .tup [.lit (.int .i64 r848.1), .lit (.bool r848.2)] ∧ True) (by refine ⟨e839, e840, e841, e842, e843, e844, e845, ?_, trivial⟩ <;> first | (simp only [ua, b836, e839, e840, e841, e842, e843, e844, e845, e846, d847, nm, seval] <;> rfl) | rfl) ?_
         rintro tm ⟨e850, e851, e852, e853, e854, e855, e856, e857, _⟩
         cases d858 : (r848.2)
         ·simp only [d858, hs] at h
          try simp only [vz, tyf, b836, d847, e850, e851, e852, e853, e854, e855, e856, e857, d858, nm, seval]
          obtain rfl := kF _ h
          exact zaa Tryz.results12 rfl
         simp only [d858, hs] at h
         cases d859 : (r848.1 == 1)
         ·simp only [d859, hs] at h
          obtain ⟨r860, o861, h⟩ := optI h kN
          try simp only [hs] at h
          simp only [vz, tyf, b836, d847, e850, e851, e852, e853, e854, e855, e856, e857, d858, d859, nm, seval]
          refine ktA (zai _ _ _ o861) ?_
          refine zab (fun tm => tm 1 = .sl (cellsL eI x1_a1) (List.length x1_a1) false ∧ tm 2 = .ptr 0 0 ∧ tm 5 = .sl (cellsL eI r82.1) (List.length r82.1) false ∧ tm 6 = .lit (.int .i64 r82.2) ∧ tm 7 = .sl (cellsL eI r87.1) (List.length r87.1) false ∧ tm 9 = .lit (.int .i64 r94.1) ∧ tm 11 = .lit (.int .i64 r103.1) ∧ tm 123 = .lit (.bool false) ∧ tm 126 = .lit (.bool true) ∧ tm 129 = .lit (.bool r860) ∧ True) (by refine ⟨e850, e851, e852, e853, e854, e855, e856, ?_, ?_, ?_, trivial⟩ <;> first | (simp only [ua, b836, d847, e850, e851, e852, e853, e854, e855, e856, e857, d858, d859, nm, seval] <;> rfl) | rfl) ?_
          rintro tm ⟨e862, e863, e864, e865, e866, e867, e868, e869, e870, e871, _⟩
          cases d872 : (r860)
          ·simp only [d872, hs] at h
           simp only [vz, tyf, b836, d847, d858, d859, e862, e863, e864, e865, e866, e867, e868, e869, e870, e871, d872, nm, seval]
           refine ktree0 zad ?_
           try simp only [vz, tyf, b836, d847, d858, d859, e862, e863, e864, e865, e866, e867, e868, e869, e870, e871, d872, nm, seval]
           obtain rfl := kF _ h
           exact zaa Tryz.results12 rfl
          simp only [d872, hs] at h
          try simp only [vz, tyf, b836, d847, d858, d859, e862, e863, e864, e865, e866, e867, e868, e869, e870, e871, d872, nm, seval]
          obtain rfl := kF _ h
          exact zaa Tryz.results12 rfl
         simp only [d859, hs] at h
         try simp only [vz, tyf, b836, d847, e850, e851, e852, e853, e854, e855, e856, e857, d858, d859, nm, seval]
         obtain rfl := kF _ h
         exact zaa Tryz.results12 rfl
        simp only [d810, hs] at h
        try simp only [vz, tyf, b805, e105, e106, e107, e108, e109, e110, e111, e112, e113, d806, d807, d808, d809, d810, nm, seval]
        obtain rfl := kF _ h
        exact zaa Tryz.results12 rfl
       simp only [d808, hs] at h
       have d873 := d807
       simp only [d808] at d873
       cases d874 : (r103.1 == 3)
       ·simp only [d874, hs] at h
        cases d875 : (r103.1 != 1)
        ·simp only [d875, hs] at h
         have b876 := And.intro b805 (And.intro d806 (And.intro d807 (And.intro d808 (And.intro d873 (And.intro d874 d875)))))
         obtain ⟨r877, o878, h⟩ := optI h kN
         try simp only [hs] at h
         simp only [vz, tyf, b876, e105, e106, e107, e108, e109, e110, e111, e112, e113, nm, seval]
         refine ktA (zau _ _ _ o878) ?_
         refine zab (fun tm => tm 1 = .sl (cellsL eI x1_a1) (List.length x1_a1) false ∧ tm 2 = .ptr 0 0 ∧ tm 5 = .sl (cellsL eI r82.1) (List.length r82.1) false ∧ tm 6 = .lit (.int .i64 r82.2) ∧ tm 7 = .sl (cellsL eI r87.1) (List.length r87.1) false ∧ tm 9 = .lit (.int .i64 r94.1) ∧ tm 11 = .lit (.int .i64 r103.1) ∧ tm 109 = .lit (.bool r877) ∧ True) (by refine ⟨e105, e106, e107, e108, e109, e111, ?_, ?_, trivial⟩ <;> first | (simp only [ua, b876, e105, e106, e107, e108, e109, e110, e111, e112, e113, nm, seval] <;> rfl) | rfl) ?_
         rintro tm ⟨e879, e880, e881, e882, e883, e884, e885, e886, _⟩
         cases d887 : (r877)
         ·simp only [d887, hs] at h
          try simp only [vz, tyf, b876, e879, e880, e881, e882, e883, e884, e885, e886, d887, nm, seval]
          obtain rfl := kF _ h
          exact zaa Tryz.results12 rfl
         simp only [d887, hs] at h
         obtain ⟨r888, o889, h⟩ := optI h kN
         try simp only [hs] at h
         simp only [vz, tyf, b876, e879, e880, e881, e882, e883, e884, e885, e886, d887, nm, seval]
         refine ktA (zao _ _ _ o889) ?_
         refine zab (fun tm => tm 1 = .sl (cellsL eI x1_a1) (List.length x1_a1) false ∧ tm 2 = .ptr 0 0 ∧ tm 5 = .sl (cellsL eI r82.1) (List.length r82.1) false ∧ tm 6 = .lit (.int .i64 r82.2) ∧ tm 7 = .sl (cellsL eI r87.1) (List.length r87.1) false ∧ tm 9 = .lit (.int .i64 r94.1) ∧ tm 11 = .lit (.int .i64 r103.1) ∧ tm 114 = .tup [.lit (.int .i64 r888.1), .lit (.bool r888.2)] ∧ True) (by refine ⟨e879, e880, e881, e882, e883, e884, e885, ?_, trivial⟩ <;> first | (simp only [ua, b876, e879, e880, e881, e882, e883, e884, e885, e886, d887, nm, seval] <;> rfl) | rfl) ?_
         rintro tm ⟨e890, e891, e892, e893, e894, e895, e896, e897, _⟩
         cases d898 : (r888.2)
         ·simp only [d898, hs] at h
          try simp only [vz, tyf, b876, d887, e890, e891, e892, e893, e894, e895, e896, e897, d898, nm, seval]
          obtain rfl := kF _ h
          exact zaa Tryz.results12 rfl
         simp only [d898, hs] at h
         cases d899 : (r888.1 == 1)
         ·simp only [d899, hs] at h
          simp only [vz, tyf, b876, d887, e890, e891, e892, e893, e894, e895, e896, e897, d898, d899, nm, seval]
          refine ktree0 zad ?_
          try simp only [vz, tyf, b876, d887, e890, e891, e892, e893, e894, e895, e896, e897, d898, d899, nm, seval]
          obtain rfl := kF _ h
          exact zaa Tryz.results12 rfl
         simp only [d899, hs] at h
         try simp only [vz, tyf, b876, d887, e890, e891, e892, e893, e894, e895, e896, e897, d898, d899, nm, seval]
         obtain rfl := kF _ h
         exact zaa Tryz.results12 rfl
        simp only [d875, hs] at h
        have b900 := And.intro b805 (And.intro d806 (And.intro d807 (And.intro d808 (And.intro d873 (And.intro d874 d875)))))
        obtain ⟨r901, o902, h⟩ := optI h kN
        try simp only [hs] at h
        simp only [vz, tyf, b900, e105, e106, e107, e108, e109, e110, e111, e112, e113, nm, seval]
        refine ktA (zau _ _ _ o902) ?_
        refine zab (fun tm => tm 1 = .sl (cellsL eI x1_a1) (List.length x1_a1) false ∧ tm 2 = .ptr 0 0 ∧ tm 5 = .sl (cellsL eI r82.1) (List.length r82.1) false ∧ tm 6 = .lit (.int .i64 r82.2) ∧ tm 7 = .sl (cellsL eI r87.1) (List.length r87.1) false ∧ tm 9 = .lit (.int .i64 r94.1) ∧ tm 11 = .lit (.int .i64 r103.1) ∧ tm 109 = .lit (.bool r901) ∧ True) (by refine ⟨e105, e106, e107, e108, e109, e111, ?_, ?_, trivial⟩ <;> first | (simp only [ua, b900, e105, e106, e107, e108, e109, e110, e111, e112, e113, nm, seval] <;> rfl) | rfl) ?_
        rintro tm ⟨e903, e904, e905, e906, e907, e908, e909, e910, _⟩
        cases d911 : (r901)
        ·simp only [d911, hs] at h
         try simp only [vz, tyf, b900, e903, e904, e905, e906, e907, e908, e909, e910, d911, nm, seval]
         obtain rfl := kF _ h
         exact zaa Tryz.results12 rfl
        simp only [d911, hs] at h
        obtain ⟨r912, o913, h⟩ := optI h kN
        try simp only [hs] at h
        simp only [vz, tyf, b900, e903, e904, e905, e906, e907, e908, e909, e910, d911, nm, seval]
        refine ktA (zao _ _ _ o913) ?_
        refine zab (fun tm => tm 1 = .sl (cellsL eI x1_a1) (List.length x1_a1) false ∧ tm 2 = .ptr 0 0 ∧ tm 5 = .sl (cellsL eI r82.1) (List.length r82.1) false ∧ tm 6 = .lit (.int .i64 r82.2) ∧ tm 7 = .sl (cellsL eI r87.1) (List.length r87.1) false ∧ tm 9 = .lit (.int .i64 r94.1) ∧ tm 11 = .lit (.int .i64 r103.1) ∧ tm 114 = .tup [.lit (.int .i64 r912.1), .lit (.bool r912.2)] ∧ True) (by refine ⟨e903, e904, e905, e906, e907, e908, e909, ?_, trivial⟩ <;> first | (simp only [ua, b900, e903, e904, e905, e906, e907, e908, e909, e910, d911, nm, seval] <;> rfl) | rfl) ?_
        rintro tm ⟨e914, e915, e916, e917, e918, e919, e920, e921, _⟩
        cases d922 : (r912.2)
        ·simp only [d922, hs] at h
         try simp only [vz, tyf, b900, d911, e914, e915, e916, e917, e918, e919, e920, e921, d922, nm, seval]
         obtain rfl := kF _ h
         exact zaa Tryz.results12 rfl
        simp only [d922, hs] at h
        cases d923 : (r912.1 == 1)
        ·simp only [d923, hs] at h
         obtain ⟨r924, o925, h⟩ := optI h kN
         try simp only [hs] at h
         simp only [vz, tyf, b900, d911, e914, e915, e916, e917, e918, e919, e920, e921, d922, d923, nm, seval]
         refine ktA (zai _ _ _ o925) ?_
         refine zab (fun tm => tm 1 = .sl (cellsL eI x1_a1) (List.length x1_a1) false ∧ tm 2 = .ptr 0 0 ∧ tm 5 = .sl (cellsL eI r82.1) (List.length r82.1) false ∧ tm 6 = .lit (.int .i64 r82.2) ∧ tm 7 = .sl (cellsL eI r87.1) (List.length r87.1) false ∧ tm 9 = .lit (.int .i64 r94.1) ∧ tm 11 = .lit (.int .i64 r103.1) ∧ tm 123 = .lit (.bool false) ∧ tm 126 = .lit (.bool true) ∧ tm 129 = .lit (.bool r924) ∧ True) (by refine ⟨e914, e915, e916, e917, e918, e919, e920, ?_, ?_, ?_, trivial⟩ <;> first | (simp only [ua, b900, d911, e914, e915, e916, e917, e918, e919, e920, e921, d922, d923, nm, seval] <;> rfl) | rfl) ?_
         rintro tm ⟨e926, e927, e928, e929, e930, e931, e932, e933, e934, e935, _⟩
         cases d936 : (r924)
         ·simp only [d936, hs] at h
          simp only [vz, tyf, b900, d911, d922, d923, e926, e927, e928, e929, e930, e931, e932, e933, e934, e935, d936, nm, seval]
          refine ktree0 zad ?_
          try simp only [vz, tyf, b900, d911, d922, d923, e926, e927, e928, e929, e930, e931, e932, e933, e934, e935, d936, nm, seval]
          obtain rfl := kF _ h
          exact zaa Tryz.results12 rfl
         simp only [d936, hs] at h
         try simp only [vz, tyf, b900, d911, d922, d923, e926, e927, e928, e929, e930, e931, e932, e933, e934, e935, d936, nm, seval]
         obtain rfl := kF _ h
         exact zaa Tryz.results12 rfl
        simp only [d923, hs] at h
        try simp only [vz, tyf, b900, d911, e914, e915, e916, e917, e918, e919, e920, e921, d922, d923, nm, seval]
        obtain rfl := kF _ h
        exact zaa Tryz.results12 rfl
       simp only [d874, hs] at h
       try simp only [vz, tyf, b805, e105, e106, e107, e108, e109, e110, e111, e112, e113, d806, d807, d808, d873, d874, nm, seval]
       obtain rfl := kF _ h
       exact zaa Tryz.results12 rfl
      simp only [d807, hs] at h
      try simp only [vz, tyf, b805, e105, e106, e107, e108, e109, e110, e111, e112, e113, d806, d807, nm, seval]
      obtain rfl := kF _ h
      exact zaa Tryz.results12 rfl
     simp only [d806, hs] at h
     try simp only [vz, tyf, b805, e105, e106, e107, e108, e109, e110, e111, e112, e113, d806, nm, seval]
     obtain rfl := kF _ h
     exact zaa Tryz.results12 rfl
    simp only [d804, hs] at h
    have b937 := And.intro d81 (And.intro d114 (And.intro d115 (And.intro d801 (And.intro d802 (And.intro d803 d804)))))
    try simp only [vz, tyf, b937, e105, e106, e107, e108, e109, e110, e111, e112, e113, nm, seval]
    obtain rfl := kF _ h
    exact zaa Tryz.results12 rfl
   simp only [d803, hs] at h
   try simp only [vz, tyf, d81, e105, e106, e107, e108, e109, e110, e111, e112, e113, d114, d115, d801, d802, d803, nm, seval]
   obtain rfl := kF _ h
   exact zaa Tryz.results12 rfl
  simp only [d802, hs] at h
  cases d938 : (r87.2 != 5)
  ·simp only [d938, hs] at h
   cases d939 : (r94.2 != 0)
   ·simp only [d939, hs] at h
    have b940 := And.intro d81 (And.intro d114 (And.intro d115 (And.intro d801 (And.intro d802 (And.intro d938 d939)))))
    cases d941 : (decide (r94.1 < 0))
    ·simp only [d941, hs] at h
     cases d942 : (decide (r94.1 > 494))
     ·simp only [d942, hs] at h
      cases d943 : ((decide (r94.1 > 0)) != (r82.2 == 0))
      ·simp only [d943, hs] at h
       cases d944 : (r82.2 == 0)
       ·simp only [d944, hs] at h
        have d945 := d943
        simp only [d944] at d945
        cases d946 : (r103.1 == 3)
        ·simp only [d946, hs] at h
         have b947 := And.intro b940 (And.intro d941 (And.intro d942 (And.intro d943 (And.intro d944 (And.intro d945 d946)))))
         cases d948 : (r103.1 != 1)
         ·simp only [d948, hs] at h
          simp only [vz, tyf, b947, e105, e106, e107, e108, e109, e110, e111, e112, e113, d948, nm, seval]
          refine ktree0 zad ?_
          try simp only [vz, tyf, b947, e105, e106, e107, e108, e109, e110, e111, e112, e113, d948, nm, seval]
          obtain rfl := kF _ h
          exact zaa Tryz.results12 rfl
         simp only [d948, hs] at h
         try simp only [vz, tyf, b947, e105, e106, e107, e108, e109, e110, e111, e112, e113, d948, nm, seval]
         obtain rfl := kF _ h
         exact zaa Tryz.results12 rfl
        simp only [d946, hs] at h
        have b949 := And.intro b940 (And.intro d941 (And.intro d942 (And.intro d943 (And.intro d944 (And.intro d945 d946)))))
        try simp only [vz, tyf, b949, e105, e106, e107, e108, e109, e110, e111, e112, e113, nm, seval]
        obtain rfl := kF _ h
        exact zaa Tryz.results12 rfl
       simp only [d944, hs] at h
       have d950 := d943
       simp only [d944] at d950
       try simp only [vz, tyf, b940, e105, e106, e107, e108, e109, e110, e111, e112, e113, d941, d942, d943, d944, d950, nm, seval]
       obtain rfl := kF _ h
       exact zaa Tryz.results12 rfl
      simp only [d943, hs] at h
      try simp only [vz, tyf, b940, e105, e106, e107, e108, e109, e110, e111, e112, e113, d941, d942, d943, nm, seval]
      obtain rfl := kF _ h
      exact zaa Tryz.results12 rfl
     simp only [d942, hs] at h
     try simp only [vz, tyf, b940, e105, e106, e107, e108, e109, e110, e111, e112, e113, d941, d942, nm, seval]
     obtain rfl := kF _ h
     exact zaa Tryz.results12 rfl
    simp only [d941, hs] at h
    try simp only [vz, tyf, b940, e105, e106, e107, e108, e109, e110, e111, e112, e113, d941, nm, seval]
    obtain rfl := kF _ h
    exact zaa Tryz.results12 rfl
   simp only [d939, hs] at h
   have b951 := And.intro d81 (And.intro d114 (And.intro d115 (And.intro d801 (And.intro d802 (And.intro d938 d939)))))
   try simp only [vz, tyf, b951, e105, e106, e107, e108, e109, e110, e111, e112, e113, nm, seval]
   obtain rfl := kF _ h
   exact zaa Tryz.results12 rfl
  simp only [d938, hs] at h
  try simp only [vz, tyf, d81, e105, e106, e107, e108, e109, e110, e111, e112, e113, d114, d115, d801, d802, d938, nm, seval]
  obtain rfl := kF _ h
  exact zaa Tryz.results12 rfl
 simp only [d801, hs] at h
 try simp only [vz, tyf, d81, e105, e106, e107, e108, e109, e110, e111, e112, e113, d114, d115, d801, nm, seval]
 obtain rfl := kF _ h
 exact zaa Tryz.results12 rfl
end Go.V
end
