/- Part of the proof of statements of YtbpeickbdiihcaaGreatDoor: a logic of values by content, the lifted functions, and what follows. -/
import Derived.Test.YtbpeickbdiihcaaGreatDoorPbf
import Derived.Test.YtbpeickbdiihcaaGreatDoorPbh
import Derived.Test.YtbpeickbdiihcaaGreatDoorPbp
import Derived.Test.YtbpeickbdiihcaaGreatDoorPbm
import Derived.Test.YtbpeickbdiihcaaGreatDoorPbn
import Derived.Test.YtbpeickbdiihcaaGreatDoorPbo
set_option linter.unusedVariables false
set_option linter.unusedSimpArgs false
set_option linter.unusedSectionVars false
set_option linter.constructorNameAsVariable false
set_option linter.defProp false
set_option maxRecDepth 4000
set_option maxHeartbeats 4000000
section
namespace Go.V
open Go Go.Proofs
def g_law02_SightParts_l1 (x0_s : GSightStreet) (r5 : (List Int) × Int) : List Int → Int → Bool → Option (LOut (Bool) (Bool))
 | [], c1_19, c1_17 => some (.go c1_17)
 | e1 :: p1, c1_19, c1_17 => cond (decide (e1 < 0)) (some (.ret false)) (cond (decide (e1 ≥ (List.length x0_s.Blocks : Int))) (some (.ret false)) (cond (decide (c1_19 > 0)) (Option.bind (getI r5.1 (IntKind.i64.wrap (c1_19 - 1))) (fun x13 => cond (decide (e1 ≤ x13)) (some (.ret false)) (cond (c1_17) (g_law02_SightParts_l1 x0_s r5 p1 (c1_19 + 1) true) (Option.bind (getI x0_s.Blocks e1) (fun x14 => g_law02_SightParts_l1 x0_s r5 p1 (c1_19 + 1) x14.Sure))))) (cond (c1_17) (g_law02_SightParts_l1 x0_s r5 p1 (c1_19 + 1) true) (Option.bind (getI x0_s.Blocks e1) (fun x15 => g_law02_SightParts_l1 x0_s r5 p1 (c1_19 + 1) x15.Sure)))))
def g_law02_SightParts_l0 (r3 : (List Int) × Int) (r4 : (List Int) × Int) (x6 : GSightBoard) : List GSightLetter → Int → Bool → Bool → Option (LOut (Bool) (Bool × Bool))
 | [], c0_18, c0_16, c0_17 => some (.go (c0_16, c0_17))
 | e0 :: p0, c0_18, c0_16, c0_17 => Option.bind (getI r3.1 c0_18) (fun x7 => Option.bind (g_law02_word x7) (fun r8 => cond (r8) (cond (decide ((c0_18 + 1) < (List.length x6.Letters : Int))) (Option.bind (getI r4.1 c0_18) (fun x9 => Option.bind (g_law02_word x9) (fun r10 => cond (r10) (cond (c0_16) (cond (x7 == 3) (cond ((c0_18 + 1) == (List.length x6.Letters : Int)) (cond (c0_17) (g_law02_SightParts_l0 r3 r4 x6 p0 (c0_18 + 1) true true) (cond (x7 == 1) (g_law02_SightParts_l0 r3 r4 x6 p0 (c0_18 + 1) true true) (g_law02_SightParts_l0 r3 r4 x6 p0 (c0_18 + 1) true (x9 == 3)))) (cond (c0_17) (g_law02_SightParts_l0 r3 r4 x6 p0 (c0_18 + 1) (x9 == 1) true) (cond (x7 == 1) (g_law02_SightParts_l0 r3 r4 x6 p0 (c0_18 + 1) (x9 == 1) true) (g_law02_SightParts_l0 r3 r4 x6 p0 (c0_18 + 1) (x9 == 1) (x9 == 3))))) (cond (c0_17) (g_law02_SightParts_l0 r3 r4 x6 p0 (c0_18 + 1) false true) (cond (x7 == 1) (g_law02_SightParts_l0 r3 r4 x6 p0 (c0_18 + 1) false true) (g_law02_SightParts_l0 r3 r4 x6 p0 (c0_18 + 1) false (x9 == 3))))) (cond (c0_17) (g_law02_SightParts_l0 r3 r4 x6 p0 (c0_18 + 1) false true) (cond (x7 == 1) (g_law02_SightParts_l0 r3 r4 x6 p0 (c0_18 + 1) false true) (g_law02_SightParts_l0 r3 r4 x6 p0 (c0_18 + 1) false (x9 == 3))))) (some (.ret false))))) (cond (c0_16) (cond (x7 == 3) (cond ((c0_18 + 1) == (List.length x6.Letters : Int)) (cond (c0_17) (g_law02_SightParts_l0 r3 r4 x6 p0 (c0_18 + 1) true true) (cond (x7 == 1) (g_law02_SightParts_l0 r3 r4 x6 p0 (c0_18 + 1) true true) (g_law02_SightParts_l0 r3 r4 x6 p0 (c0_18 + 1) true false))) (Option.bind (getI r4.1 c0_18) (fun x11 => cond (c0_17) (g_law02_SightParts_l0 r3 r4 x6 p0 (c0_18 + 1) (x11 == 1) true) (cond (x7 == 1) (g_law02_SightParts_l0 r3 r4 x6 p0 (c0_18 + 1) (x11 == 1) true) (g_law02_SightParts_l0 r3 r4 x6 p0 (c0_18 + 1) (x11 == 1) false))))) (cond (c0_17) (g_law02_SightParts_l0 r3 r4 x6 p0 (c0_18 + 1) false true) (cond (x7 == 1) (g_law02_SightParts_l0 r3 r4 x6 p0 (c0_18 + 1) false true) (g_law02_SightParts_l0 r3 r4 x6 p0 (c0_18 + 1) false false)))) (cond (c0_17) (g_law02_SightParts_l0 r3 r4 x6 p0 (c0_18 + 1) false true) (cond (x7 == 1) (g_law02_SightParts_l0 r3 r4 x6 p0 (c0_18 + 1) false true) (g_law02_SightParts_l0 r3 r4 x6 p0 (c0_18 + 1) false false))))) (some (.ret false))))
def g_law02_SightParts (x0_s : GSightStreet) (x1_a1 : Int) (x2_a2 : GSightPlace) : Option (Bool) := Option.bind (g_law02_right x0_s x1_a1 x2_a2) (fun r1 => cond (r1) (Option.bind (g_sight_Seen x0_s x1_a1 x2_a2) (fun r2 => Option.bind (g_sight_Letters x0_s x1_a1 x2_a2) (fun r3 => Option.bind (g_sight_Melts x0_s x1_a1 x2_a2) (fun r4 => Option.bind (g_sight_Hidden x0_s x1_a1 x2_a2) (fun r5 => Option.bind (getI x0_s.Boards x1_a1) (fun x6 => cond (r2.2 != 0) (some false) (cond (r3.2 != 0) (some false) (cond (r4.2 != 0) (some false) (cond (r5.2 != 0) (some false) (cond ((List.length r3.1 : Int) != (List.length x6.Letters : Int)) (some false) (cond ((List.length r4.1 : Int) != (IntKind.i64.wrap ((List.length x6.Letters : Int) - 1))) (some false) (cond (decide ((List.length r5.1 : Int) > (List.length x0_s.Blocks : Int))) (some false) (cond (lenOk x6.Letters) (lbind (g_law02_SightParts_l0 r3 r4 x6 x6.Letters 0 ((List.length r5.1 : Int) == 0) false) (fun r19 => some r19) (fun c12 => cond (lenOk r5.1) (lbind (g_law02_SightParts_l1 x0_s r5 r5.1 0 c12.2) (fun r18 => some r18) (fun c16 => cond ((r2.1 == 3) == c12.1) (cond ((r2.1 == 1) == c16) (Option.bind (g_law02_known ) (fun r17 => some r17)) (some false)) (some false)) (fun _ _ => none)) none) (fun _ _ => none)) none))))))))))))) (Option.bind (g_law02_known ) (fun r20 => some r20)))
theorem g_law02_SightParts_ok (x0_s : GSightStreet) (x1_a1 : Int) (x2_a2 : GSightPlace) (R : Bool) (h : g_law02_SightParts x0_s x1_a1 x2_a2 = some R) : VPure Tryz.prog G0 8 [.agg (cGSightStreet x0_s), .lit (.int .i64 x1_a1), .agg (cGSightPlace x2_a2)] (.tree (.lit (.bool R))) := by
 refine VPure.runR mixed Tryz.call8 Tryz.func8 rfl (by simp [Tryz.ntmps8]; kernel_rfl) ?_
 obtain ⟨KF, h, kF, kN⟩ := fun_intro h
 simp only [g_law02_SightParts] at h
 cases o22 : (g_law02_right x0_s x1_a1 x2_a2) with
 | none =>
  simp only [o22, hs, reduceCtorEq] at h
  exact absurd h kN
 | some r21 =>
  simp only [o22, hs, reduceCtorEq] at h
  simp only [vz, tyf, nm, seval]
  refine ktree (args0 := [.agg (cGSightStreet x0_s), .lit (.int .i64 x1_a1), .agg (cGSightPlace x2_a2)]) (by first | (simp only [nrm, tynrm] <;> rfl) | rfl) (by simp only [tre, tytre, Bool.and_self]) (g_law02_right_ok _ _ _ _ o22) ?_
  refine fin_cut (fun tm => tm 1 = .lit (.int .i64 x1_a1) ∧ tm 3 = .ptr 0 0 ∧ tm 5 = .ptr 1 0 ∧ tm 23 = .lit (.bool r21) ∧ True) (by refine ⟨?_, ?_, ?_, ?_, trivial⟩ <;> first | (simp only [ua, nm, seval] <;> rfl) | rfl) ?_
  rintro tm ⟨e23, e24, e25, e26, _⟩
  cases d27 : (r21)
  ·simp only [d27, hs, reduceCtorEq] at h
   cases o29 : (g_law02_known ) with
   | none =>
    simp only [o29, hs, reduceCtorEq] at h
    exact absurd h kN
   | some r28 =>
    simp only [o29, hs, reduceCtorEq] at h
    simp only [vz, tyf, e23, e24, e25, e26, d27, nm, seval]
    refine ktree (args0 := []) (by first | (simp only [nrm, tynrm] <;> rfl) | rfl) (by simp only [tre, tytre, Bool.and_self]) (g_law02_known_ok  _ o29) ?_
    refine fin_cut (fun tm => tm 25 = .lit (.bool r28) ∧ True) (by refine ⟨?_, trivial⟩ <;> first | (simp only [ua, e23, e24, e25, e26, d27, nm, seval] <;> rfl) | rfl) ?_
    rintro tm ⟨e30, _⟩
    simp only [vz, tyf, d27, e30, nm, seval]
    obtain rfl := kF _ h
    exact opd_bool Tryz.results8 (by first | rfl | (simp only [upd_apply, e30, seval] <;> rfl))
  simp only [d27, hs, reduceCtorEq] at h
  cases o32 : (g_sight_Seen x0_s x1_a1 x2_a2) with
  | none =>
   simp only [o32, hs, reduceCtorEq] at h
   exact absurd h kN
  | some r31 =>
   simp only [o32, hs, reduceCtorEq] at h
   simp only [vz, tyf, e23, e24, e25, e26, d27, nm, seval]
   refine ktree (args0 := [.agg (cGSightStreet x0_s), .lit (.int .i64 x1_a1), .agg (cGSightPlace x2_a2)]) (by first | (simp only [nrm, tynrm] <;> rfl) | rfl) (by simp only [tre, tytre, Bool.and_self]) (g_sight_Seen_ok _ _ _ _ o32) ?_
   refine fin_cut (fun tm => tm 1 = .lit (.int .i64 x1_a1) ∧ tm 3 = .ptr 0 0 ∧ tm 5 = .ptr 1 0 ∧ tm 30 = .tup [.lit (.int .i64 r31.1), .lit (.int .i64 r31.2)] ∧ True) (by refine ⟨e23, e24, e25, ?_, trivial⟩ <;> first | (simp only [ua, e23, e24, e25, e26, d27, nm, seval] <;> rfl) | rfl) ?_
   rintro tm ⟨e33, e34, e35, e36, _⟩
   cases o38 : (g_sight_Letters x0_s x1_a1 x2_a2) with
   | none =>
    simp only [o38, hs, reduceCtorEq] at h
    exact absurd h kN
   | some r37 =>
    simp only [o38, hs, reduceCtorEq] at h
    simp only [vz, tyf, d27, e33, e34, e35, e36, nm, seval]
    refine ktree (args0 := [.agg (cGSightStreet x0_s), .lit (.int .i64 x1_a1), .agg (cGSightPlace x2_a2)]) (by first | (simp only [nrm, tynrm] <;> rfl) | rfl) (by simp only [tre, tytre, Bool.and_self]) (g_sight_Letters_ok _ _ _ _ o38) ?_
    refine fin_cut (fun tm => tm 1 = .lit (.int .i64 x1_a1) ∧ tm 3 = .ptr 0 0 ∧ tm 5 = .ptr 1 0 ∧ tm 7 = .lit (.int .i64 r31.1) ∧ tm 8 = .lit (.int .i64 r31.2) ∧ tm 37 = .tup [.sl (cellsL eI r37.1) (List.length r37.1) false, .lit (.int .i64 r37.2)] ∧ True) (by refine ⟨e33, e34, e35, ?_, ?_, ?_, trivial⟩ <;> first | (simp only [ua, d27, e33, e34, e35, e36, nm, seval] <;> rfl) | rfl) ?_
    rintro tm ⟨e39, e40, e41, e42, e43, e44, _⟩
    cases o46 : (g_sight_Melts x0_s x1_a1 x2_a2) with
    | none =>
     simp only [o46, hs, reduceCtorEq] at h
     exact absurd h kN
    | some r45 =>
     simp only [o46, hs, reduceCtorEq] at h
     simp only [vz, tyf, d27, e39, e40, e41, e42, e43, e44, nm, seval]
     refine ktree (args0 := [.agg (cGSightStreet x0_s), .lit (.int .i64 x1_a1), .agg (cGSightPlace x2_a2)]) (by first | (simp only [nrm, tynrm] <;> rfl) | rfl) (by simp only [tre, tytre, Bool.and_self]) (g_sight_Melts_ok _ _ _ _ o46) ?_
     refine fin_cut (fun tm => tm 1 = .lit (.int .i64 x1_a1) ∧ tm 3 = .ptr 0 0 ∧ tm 5 = .ptr 1 0 ∧ tm 7 = .lit (.int .i64 r31.1) ∧ tm 8 = .lit (.int .i64 r31.2) ∧ tm 9 = .sl (cellsL eI r37.1) (List.length r37.1) false ∧ tm 10 = .lit (.int .i64 r37.2) ∧ tm 44 = .tup [.sl (cellsL eI r45.1) (List.length r45.1) false, .lit (.int .i64 r45.2)] ∧ True) (by refine ⟨e39, e40, e41, e42, e43, ?_, ?_, ?_, trivial⟩ <;> first | (simp only [ua, d27, e39, e40, e41, e42, e43, e44, nm, seval] <;> rfl) | rfl) ?_
     rintro tm ⟨e47, e48, e49, e50, e51, e52, e53, e54, _⟩
     cases o56 : (g_sight_Hidden x0_s x1_a1 x2_a2) with
     | none =>
      simp only [o56, hs, reduceCtorEq] at h
      exact absurd h kN
     | some r55 =>
      simp only [o56, hs, reduceCtorEq] at h
      simp only [vz, tyf, d27, e47, e48, e49, e50, e51, e52, e53, e54, nm, seval]
      refine ktree (args0 := [.agg (cGSightStreet x0_s), .lit (.int .i64 x1_a1), .agg (cGSightPlace x2_a2)]) (by first | (simp only [nrm, tynrm] <;> rfl) | rfl) (by simp only [tre, tytre, Bool.and_self]) (g_sight_Hidden_ok _ _ _ _ o56) ?_
      refine fin_cut (fun tm => tm 1 = .lit (.int .i64 x1_a1) ∧ tm 3 = .ptr 0 0 ∧ tm 7 = .lit (.int .i64 r31.1) ∧ tm 8 = .lit (.int .i64 r31.2) ∧ tm 9 = .sl (cellsL eI r37.1) (List.length r37.1) false ∧ tm 10 = .lit (.int .i64 r37.2) ∧ tm 11 = .sl (cellsL eI r45.1) (List.length r45.1) false ∧ tm 12 = .lit (.int .i64 r45.2) ∧ tm 51 = .tup [.sl (cellsL eI r55.1) (List.length r55.1) false, .lit (.int .i64 r55.2)] ∧ True) (by refine ⟨e47, e48, e50, e51, e52, e53, ?_, ?_, ?_, trivial⟩ <;> first | (simp only [ua, d27, e47, e48, e49, e50, e51, e52, e53, e54, nm, seval] <;> rfl) | rfl) ?_
      rintro tm ⟨e57, e58, e59, e60, e61, e62, e63, e64, e65, _⟩
      cases o67 : (getI x0_s.Boards x1_a1) with
      | none =>
       simp only [o67, hs, reduceCtorEq] at h
       exact absurd h kN
      | some x66 =>
       simp only [o67, hs, reduceCtorEq] at h
       cases d68 : (r31.2 != 0)
       ·simp only [d68, hs, reduceCtorEq] at h
        cases d69 : (r37.2 != 0)
        ·simp only [d69, hs, reduceCtorEq] at h
         cases d70 : (r45.2 != 0)
         ·simp only [d70, hs, reduceCtorEq] at h
          cases d71 : (r55.2 != 0)
          ·simp only [d71, hs, reduceCtorEq] at h
           cases d72 : ((List.length r37.1 : Int) != (List.length x66.Letters : Int))
           ·simp only [d72, hs, reduceCtorEq] at h
            cases d73 : ((List.length r45.1 : Int) != (IntKind.i64.wrap ((List.length x66.Letters : Int) - 1)))
            ·simp only [d73, hs, reduceCtorEq] at h
             cases d74 : (decide ((List.length r55.1 : Int) > (List.length x0_s.Blocks : Int)))
             ·simp only [d74, hs, reduceCtorEq] at h
              cases g76 : (lenOk x66.Letters)
              ·simp only [g76, hs, reduceCtorEq] at h
               exact absurd h kN
              simp only [g76, hs, reduceCtorEq] at h
              simp only [vz, tyf, d27, e57, e58, e59, e60, e61, e62, e63, e64, e65, (ix24 o67), d68, d69, d70, d71, d72, d73, d74, g76, nm, seval]
              obtain ⟨K75, h, kR75, kG75, kB75, kN75⟩ := lbind_intro h kN
              obtain ⟨f75, hf75, h⟩ := call4 h
              obtain ⟨I75, hI75⟩ : ∃ I : Nat → St → Prop, I = (fun m st => ∃ (p75 : List GSightLetter) (c75_18 : Int) (c75_16 : Bool) (c75_17 : Bool), m = List.length p75 ∧ 0 ≤ c75_18 ∧ List.drop (Int.toNat c75_18) x66.Letters = p75 ∧ st.df = [] ∧ 93 ≤ st.nx ∧ st.H 0 = some (.cells (some 27) (cGSightStreet x0_s)) ∧ st.tm 3 = .ptr 0 0 ∧ st.tm 7 = .lit (.int .i64 r31.1) ∧ st.tm 9 = .sl (cellsL eI r37.1) (List.length r37.1) false ∧ st.tm 11 = .sl (cellsL eI r45.1) (List.length r45.1) false ∧ st.tm 13 = .sl (cellsL eI r55.1) (List.length r55.1) false ∧ st.tm 15 = .lit (.int .i64 (List.length x66.Letters : Int)) ∧ st.tm 16 = .lit (.bool c75_16) ∧ st.tm 17 = .lit (.bool c75_17) ∧ st.tm 18 = .lit (.int .i64 c75_18) ∧ K75 (f75 p75 c75_18 c75_16 c75_17)) := ⟨_, rfl⟩
              refine loopK mixed (by kernel_rfl) I75 (List.length x66.Letters) (by rw [hI75]; refine ⟨x66.Letters, 0, (List.length r55.1 : Int) == 0, false, rfl, Int.le_refl _, rfl, rfl, (show 93 ≤ 93 by omega), ?_, e58, e59, e61, e63, ?_, ?_, ?_, ?_, ?_, h⟩ <;> first | (simp only [ua, d27, e57, e58, e59, e60, e61, e62, e63, e64, e65, d68, d69, d70, d71, d72, d73, d74, nm, seval] <;> rfl) | rfl) ?_
              rintro m ⟨tm, H, nx75, df⟩ hinv
              rw [hI75] at hinv
              obtain ⟨p75, c75_18, c75_16, c75_17, rfl, hi75, hp75, hdf, hn75, H77, e78, e79, e80, e81, e82, e83, e84, e85, e86, h⟩ := hinv
              simp only at hdf hn75 H77 e78 e79 e80 e81 e82 e83 e84 e85 e86
              have n87 := base_ne0 (m := 93) (b := nx75) (by omega)
              subst hdf hf75
              cases p75 with
              | nil =>
               have d88 : (decide (c75_18 < (List.length x66.Letters : Int))) = false := not_lt_of_drop hi75 hp75
               simp only [g_law02_SightParts_l0, hs, reduceCtorEq] at h
               replace h := kG75 _ h
               try dsimp only at h
               try simp only [hs] at h
               cases g90 : (lenOk r55.1)
               ·simp only [g90, hs, reduceCtorEq] at h
                exact absurd h kN
               simp only [g90, hs, reduceCtorEq] at h
               simp only [vz, tyf, d27, (ix24 o67), d68, d69, d70, d71, d72, d73, d74, g76, n87, e78, e79, e80, e81, e82, e83, e84, e85, e86, H77, d88, g90, nm, seval]
               obtain ⟨K89, h, kR89, kG89, kB89, kN89⟩ := lbind_intro h kN
               obtain ⟨f89, hf89, h⟩ := call3 h
               obtain ⟨I89, hI89⟩ : ∃ I : Nat → St → Prop, I = (fun m st => ∃ (p89 : List Int) (c89_19 : Int) (c89_17 : Bool), m = List.length p89 ∧ 0 ≤ c89_19 ∧ List.drop (Int.toNat c89_19) r55.1 = p89 ∧ st.df = [] ∧ nx75 + 4 ≤ st.nx ∧ st.H 0 = some (.cells (some 27) (cGSightStreet x0_s)) ∧ st.tm 3 = .ptr 0 0 ∧ st.tm 7 = .lit (.int .i64 r31.1) ∧ st.tm 13 = .sl (cellsL eI r55.1) (List.length r55.1) false ∧ st.tm 16 = .lit (.bool c75_16) ∧ st.tm 17 = .lit (.bool c89_17) ∧ st.tm 19 = .lit (.int .i64 c89_19) ∧ K89 (f89 p89 c89_19 c89_17)) := ⟨_, rfl⟩
               refine loopK mixed (by kernel_rfl) I89 (List.length r55.1) (by rw [hI89]; refine ⟨r55.1, 0, c75_17, rfl, Int.le_refl _, rfl, rfl, (show nx75 + 4 ≤ nx75 + 4 by omega), ?_, e78, e79, e82, e84, e85, ?_, h⟩ <;> first | (simp only [ua, d27, d68, d69, d70, d71, d72, d73, d74, n87, e78, e79, e80, e81, e82, e83, e84, e85, e86, H77, d88, nm, seval] <;> rfl) | rfl) ?_
               rintro m ⟨tm, H, nx89, df⟩ hinv
               rw [hI89] at hinv
               obtain ⟨p89, c89_19, c89_17, rfl, hi89, hp89, hdf, hn89, H91, e92, e93, e94, e95, e96, e97, h⟩ := hinv
               simp only at hdf hn89 H91 e92 e93 e94 e95 e96 e97
               have n98 := base_ne0 (m := 93) (b := nx89) (by omega)
               have n99 := base_ne (a := nx75) (m := 4) (b := nx89) (by omega)
               subst hdf hf89
               cases p89 with
               | nil =>
                have d100 : (decide (c89_19 < (List.length r55.1 : Int))) = false := not_lt_of_drop hi89 hp89
                simp only [g_law02_SightParts_l1, hs, reduceCtorEq] at h
                replace h := kG89 _ h
                try dsimp only at h
                try simp only [hs] at h
                cases d101 : ((r31.1 == 3) == c75_16)
                ·simp only [d101, hs, reduceCtorEq] at h
                 simp only [vz, tyf, d27, (ix24 o67), d68, d69, d70, d71, d72, d73, d74, g76, n87, d88, g90, n98, n99, e92, e93, e94, e95, e96, e97, H91, d100, d101, nm, seval]
                 obtain rfl := kF _ h
                 exact opd_bool Tryz.results8 (by first | rfl | (simp only [upd_apply, e92, e93, e94, e95, e96, e97, seval] <;> rfl))
                simp only [d101, hs, reduceCtorEq] at h
                cases d102 : ((r31.1 == 1) == c89_17)
                ·simp only [d102, hs, reduceCtorEq] at h
                 simp only [vz, tyf, d27, (ix24 o67), d68, d69, d70, d71, d72, d73, d74, g76, n87, d88, g90, n98, n99, e92, e93, e94, e95, e96, e97, H91, d100, d101, d102, nm, seval]
                 obtain rfl := kF _ h
                 exact opd_bool Tryz.results8 (by first | rfl | (simp only [upd_apply, e92, e93, e94, e95, e96, e97, seval] <;> rfl))
                simp only [d102, hs, reduceCtorEq] at h
                cases o104 : (g_law02_known ) with
                | none =>
                 simp only [o104, hs, reduceCtorEq] at h
                 exact absurd h kN
                | some r103 =>
                 simp only [o104, hs, reduceCtorEq] at h
                 simp only [vz, tyf, d27, (ix24 o67), d68, d69, d70, d71, d72, d73, d74, g76, n87, d88, g90, n98, n99, e92, e93, e94, e95, e96, e97, H91, d100, d101, d102, nm, seval]
                 refine ktree (args0 := []) (by first | (simp only [nrm, tynrm] <;> rfl) | rfl) (by simp only [tre, tytre, Bool.and_self]) (g_law02_known_ok  _ o104) ?_
                 refine fin_cut (fun tm => tm 225 = .lit (.bool true) ∧ tm 226 = .lit (.bool r103) ∧ True) (by refine ⟨?_, ?_, trivial⟩ <;> first | (simp only [ua, d27, d68, d69, d70, d71, d72, d73, d74, n87, d88, n98, n99, e92, e93, e94, e95, e96, e97, H91, d100, d101, d102, nm, seval] <;> rfl) | rfl) ?_
                 rintro tm ⟨e105, e106, _⟩
                 simp only [vz, tyf, d27, (ix24 o67), d68, d69, d70, d71, d72, d73, d74, g76, n87, d88, g90, n98, n99, H91, d100, d101, d102, e105, e106, nm, seval]
                 obtain rfl := kF _ h
                 exact opd_bool Tryz.results8 (by first | rfl | (simp only [upd_apply, e105, e106, seval] <;> rfl))
               | cons e89 p89 =>
                have d107 : (decide (c89_19 < (List.length r55.1 : Int))) = true := lt_of_drop hi89 hp89
                have o109 := getI_of_drop hi89 hp89
                have w108 := wrap_next hi89 hp89 g90
                simp only [g_law02_SightParts_l1, hs, reduceCtorEq] at h
                simp only [vz, tyf, d27, (ix24 o67), d68, d69, d70, d71, d72, d73, d74, g76, n87, d88, g90, n98, n99, e92, e93, e94, e95, e96, e97, H91, d107, (ix57 o109), w108, nm, seval]
                refine cwp_drwQF (fun tm => tm 3 = .ptr 0 0 ∧ tm 7 = .lit (.int .i64 r31.1) ∧ tm 13 = .sl (cellsL eI r55.1) (List.length r55.1) false ∧ tm 16 = .lit (.bool c75_16) ∧ tm 17 = .lit (.bool c89_17) ∧ tm 19 = .lit (.int .i64 c89_19) ∧ True) (by refine ⟨e92, e93, e94, e95, e96, e97, trivial⟩ <;> first | (simp only [ua, d27, d68, d69, d70, d71, d72, d73, d74, n87, d88, n98, n99, e92, e93, e94, e95, e96, e97, H91, d107, w108, nm, seval] <;> rfl) | rfl) ?_
                rintro tm ⟨e110, e111, e112, e113, e114, e115, _⟩
                cases d116 : (decide (e89 < 0))
                ·simp only [d116, hs, reduceCtorEq] at h
                 cases d117 : (decide (e89 ≥ (List.length x0_s.Blocks : Int)))
                 ·simp only [d117, hs, reduceCtorEq] at h
                  cases d118 : (decide (c89_19 > 0))
                  ·simp only [d118, hs, reduceCtorEq] at h
                   simp only [vz, tyf, d27, (ix24 o67), d68, d69, d70, d71, d72, d73, d74, g76, n87, d88, g90, n98, n99, H91, d107, (ix57 o109), w108, e110, e111, e112, e113, e114, e115, d116, d117, d118, nm, seval]
                   refine cwp_drwQF (fun tm => tm 3 = .ptr 0 0 ∧ tm 7 = .lit (.int .i64 r31.1) ∧ tm 13 = .sl (cellsL eI r55.1) (List.length r55.1) false ∧ tm 16 = .lit (.bool c75_16) ∧ tm 17 = .lit (.bool c89_17) ∧ tm 19 = .lit (.int .i64 c89_19) ∧ True) (by refine ⟨e110, e111, e112, e113, e114, e115, trivial⟩ <;> first | (simp only [ua, d27, d68, d69, d70, d71, d72, d73, d74, n87, d88, n98, n99, H91, d107, w108, e110, e111, e112, e113, e114, e115, d116, d117, d118, nm, seval] <;> rfl) | rfl) ?_
                   rintro tm ⟨e119, e120, e121, e122, e123, e124, _⟩
                   cases d125 : (c89_17)
                   ·simp only [d125, hs, reduceCtorEq] at h
                    cases o127 : (getI x0_s.Blocks e89) with
                    | none =>
                     simp only [o127, hs, reduceCtorEq] at h
                     exact absurd h kN89
                    | some x126 =>
                     simp only [o127, hs, reduceCtorEq] at h
                     simp only [vz, tyf, d27, (ix24 o67), d68, d69, d70, d71, d72, d73, d74, g76, n87, d88, g90, n98, n99, H91, d107, (ix57 o109), w108, d116, d117, d118, e119, e120, e121, e122, e123, e124, d125, (ix25 o127), nm, seval]
                     exact ⟨List.length p89, Nat.lt_succ_self _, by rw [hI89]; refine ⟨p89, c89_19 + 1, x126.Sure, rfl, Int.le_trans hi89 (Int.le_add_one (Int.le_refl _)), drop_next hi89 hp89, rfl, (show nx75 + 4 ≤ nx89 + 51 by omega), ?_, e119, e120, e121, e122, ?_, ?_, h⟩ <;> first | (simp only [ua, d27, d68, d69, d70, d71, d72, d73, d74, n87, d88, n98, n99, H91, d107, w108, d116, d117, d118, e119, e120, e121, e122, e123, e124, d125, nm, seval] <;> rfl) | rfl⟩
                   simp only [d125, hs, reduceCtorEq] at h
                   simp only [vz, tyf, d27, (ix24 o67), d68, d69, d70, d71, d72, d73, d74, g76, n87, d88, g90, n98, n99, H91, d107, (ix57 o109), w108, d116, d117, d118, e119, e120, e121, e122, e123, e124, d125, nm, seval]
                   exact ⟨List.length p89, Nat.lt_succ_self _, by rw [hI89]; refine ⟨p89, c89_19 + 1, true, rfl, Int.le_trans hi89 (Int.le_add_one (Int.le_refl _)), drop_next hi89 hp89, rfl, (show nx75 + 4 ≤ nx89 + 51 by omega), ?_, e119, e120, e121, e122, ?_, ?_, h⟩ <;> first | (simp only [ua, d27, d68, d69, d70, d71, d72, d73, d74, n87, d88, n98, n99, H91, d107, w108, d116, d117, d118, e119, e120, e121, e122, e123, e124, d125, nm, seval] <;> rfl) | rfl⟩
                  simp only [d118, hs, reduceCtorEq] at h
                  cases o129 : (getI r55.1 (IntKind.i64.wrap (c89_19 - 1))) with
                  | none =>
                   simp only [o129, hs, reduceCtorEq] at h
                   exact absurd h kN89
                  | some x128 =>
                   simp only [o129, hs, reduceCtorEq] at h
                   cases d130 : (decide (e89 ≤ x128))
                   ·simp only [d130, hs, reduceCtorEq] at h
                    simp only [vz, tyf, d27, (ix24 o67), d68, d69, d70, d71, d72, d73, d74, g76, n87, d88, g90, n98, n99, H91, d107, (ix57 o109), w108, e110, e111, e112, e113, e114, e115, d116, d117, d118, (ix57 o129), d130, nm, seval]
                    refine cwp_drwQF (fun tm => tm 3 = .ptr 0 0 ∧ tm 7 = .lit (.int .i64 r31.1) ∧ tm 13 = .sl (cellsL eI r55.1) (List.length r55.1) false ∧ tm 16 = .lit (.bool c75_16) ∧ tm 17 = .lit (.bool c89_17) ∧ tm 19 = .lit (.int .i64 c89_19) ∧ True) (by refine ⟨e110, e111, e112, e113, e114, e115, trivial⟩ <;> first | (simp only [ua, d27, d68, d69, d70, d71, d72, d73, d74, n87, d88, n98, n99, H91, d107, w108, e110, e111, e112, e113, e114, e115, d116, d117, d118, d130, nm, seval] <;> rfl) | rfl) ?_
                    rintro tm ⟨e131, e132, e133, e134, e135, e136, _⟩
                    cases d137 : (c89_17)
                    ·simp only [d137, hs, reduceCtorEq] at h
                     cases o139 : (getI x0_s.Blocks e89) with
                     | none =>
                      simp only [o139, hs, reduceCtorEq] at h
                      exact absurd h kN89
                     | some x138 =>
                      simp only [o139, hs, reduceCtorEq] at h
                      simp only [vz, tyf, d27, (ix24 o67), d68, d69, d70, d71, d72, d73, d74, g76, n87, d88, g90, n98, n99, H91, d107, (ix57 o109), w108, d116, d117, d118, (ix57 o129), d130, e131, e132, e133, e134, e135, e136, d137, (ix25 o139), nm, seval]
                      exact ⟨List.length p89, Nat.lt_succ_self _, by rw [hI89]; refine ⟨p89, c89_19 + 1, x138.Sure, rfl, Int.le_trans hi89 (Int.le_add_one (Int.le_refl _)), drop_next hi89 hp89, rfl, (show nx75 + 4 ≤ nx89 + 51 by omega), ?_, e131, e132, e133, e134, ?_, ?_, h⟩ <;> first | (simp only [ua, d27, d68, d69, d70, d71, d72, d73, d74, n87, d88, n98, n99, H91, d107, w108, d116, d117, d118, d130, e131, e132, e133, e134, e135, e136, d137, nm, seval] <;> rfl) | rfl⟩
                    simp only [d137, hs, reduceCtorEq] at h
                    simp only [vz, tyf, d27, (ix24 o67), d68, d69, d70, d71, d72, d73, d74, g76, n87, d88, g90, n98, n99, H91, d107, (ix57 o109), w108, d116, d117, d118, (ix57 o129), d130, e131, e132, e133, e134, e135, e136, d137, nm, seval]
                    exact ⟨List.length p89, Nat.lt_succ_self _, by rw [hI89]; refine ⟨p89, c89_19 + 1, true, rfl, Int.le_trans hi89 (Int.le_add_one (Int.le_refl _)), drop_next hi89 hp89, rfl, (show nx75 + 4 ≤ nx89 + 51 by omega), ?_, e131, e132, e133, e134, ?_, ?_, h⟩ <;> first | (simp only [ua, d27, d68, d69, d70, d71, d72, d73, d74, n87, d88, n98, n99, H91, d107, w108, d116, d117, d118, d130, e131, e132, e133, e134, e135, e136, d137, nm, seval] <;> rfl) | rfl⟩
                   simp only [d130, hs, reduceCtorEq] at h
                   simp only [vz, tyf, d27, (ix24 o67), d68, d69, d70, d71, d72, d73, d74, g76, n87, d88, g90, n98, n99, H91, d107, (ix57 o109), w108, e110, e111, e112, e113, e114, e115, d116, d117, d118, (ix57 o129), d130, nm, seval]
                   replace h := kR89 _ h
                   try dsimp only at h
                   obtain rfl := kF _ h
                   exact opd_bool Tryz.results8 (by first | rfl | (simp only [upd_apply, e110, e111, e112, e113, e114, e115, seval] <;> rfl))
                 simp only [d117, hs, reduceCtorEq] at h
                 simp only [vz, tyf, d27, (ix24 o67), d68, d69, d70, d71, d72, d73, d74, g76, n87, d88, g90, n98, n99, H91, d107, (ix57 o109), w108, e110, e111, e112, e113, e114, e115, d116, d117, nm, seval]
                 replace h := kR89 _ h
                 try dsimp only at h
                 obtain rfl := kF _ h
                 exact opd_bool Tryz.results8 (by first | rfl | (simp only [upd_apply, e110, e111, e112, e113, e114, e115, seval] <;> rfl))
                simp only [d116, hs, reduceCtorEq] at h
                simp only [vz, tyf, d27, (ix24 o67), d68, d69, d70, d71, d72, d73, d74, g76, n87, d88, g90, n98, n99, H91, d107, (ix57 o109), w108, e110, e111, e112, e113, e114, e115, d116, nm, seval]
                replace h := kR89 _ h
                try dsimp only at h
                obtain rfl := kF _ h
                exact opd_bool Tryz.results8 (by first | rfl | (simp only [upd_apply, e110, e111, e112, e113, e114, e115, seval] <;> rfl))
              | cons e75 p75 =>
               have d140 : (decide (c75_18 < (List.length x66.Letters : Int))) = true := lt_of_drop hi75 hp75
               have o142 := getI_of_drop hi75 hp75
               have w141 := wrap_next hi75 hp75 g76
               simp only [g_law02_SightParts_l0, hs, reduceCtorEq] at h
               cases o144 : (getI r37.1 c75_18) with
               | none =>
                simp only [o144, hs, reduceCtorEq] at h
                exact absurd h kN75
               | some x143 =>
                simp only [o144, hs, reduceCtorEq] at h
                cases o146 : (g_law02_word x143) with
                | none =>
                 simp only [o146, hs, reduceCtorEq] at h
                 exact absurd h kN75
                | some r145 =>
                 simp only [o146, hs, reduceCtorEq] at h
                 simp only [vz, tyf, d27, (ix24 o67), d68, d69, d70, d71, d72, d73, d74, g76, n87, e78, e79, e80, e81, e82, e83, e84, e85, e86, H77, d140, (ix40 o142), w141, (ix54 o144), nm, seval]
                 refine ktree (args0 := [.lit (.int .i64 x143)]) (by first | (simp only [nrm, tynrm] <;> rfl) | rfl) (by simp only [tre, tytre, Bool.and_self]) (g_law02_word_ok _ _ o146) ?_
                 refine fin_cut (fun tm => tm 3 = .ptr 0 0 ∧ tm 7 = .lit (.int .i64 r31.1) ∧ tm 9 = .sl (cellsL eI r37.1) (List.length r37.1) false ∧ tm 11 = .sl (cellsL eI r45.1) (List.length r45.1) false ∧ tm 13 = .sl (cellsL eI r55.1) (List.length r55.1) false ∧ tm 15 = .lit (.int .i64 (List.length x66.Letters : Int)) ∧ tm 16 = .lit (.bool c75_16) ∧ tm 17 = .lit (.bool c75_17) ∧ tm 18 = .lit (.int .i64 c75_18) ∧ tm 108 = .lit (.bool r145) ∧ True) (by refine ⟨e78, e79, e80, e81, e82, e83, e84, e85, e86, ?_, trivial⟩ <;> first | (simp only [ua, d27, d68, d69, d70, d71, d72, d73, d74, n87, e78, e79, e80, e81, e82, e83, e84, e85, e86, H77, d140, w141, nm, seval] <;> rfl) | rfl) ?_
                 rintro tm ⟨e147, e148, e149, e150, e151, e152, e153, e154, e155, e156, _⟩
                 cases d157 : (r145)
                 ·simp only [d157, hs, reduceCtorEq] at h
                  simp only [vz, tyf, d27, (ix24 o67), d68, d69, d70, d71, d72, d73, d74, g76, n87, H77, d140, (ix40 o142), w141, (ix54 o144), e147, e148, e149, e150, e151, e152, e153, e154, e155, e156, d157, nm, seval]
                  replace h := kR75 _ h
                  try dsimp only at h
                  obtain rfl := kF _ h
                  exact opd_bool Tryz.results8 (by first | rfl | (simp only [upd_apply, e147, e148, e149, e150, e151, e152, e153, e154, e155, e156, seval] <;> rfl))
                 simp only [d157, hs, reduceCtorEq] at h
                 cases d158 : (decide ((c75_18 + 1) < (List.length x66.Letters : Int)))
                 ·simp only [d158, hs, reduceCtorEq] at h
                  cases d159 : (c75_16)
                  ·simp only [d159, hs, reduceCtorEq] at h
                   cases d160 : (c75_17)
                   ·simp only [d160, hs, reduceCtorEq] at h
                    cases d161 : (x143 == 1)
                    ·simp only [d161, hs, reduceCtorEq] at h
                     simp only [vz, tyf, d27, (ix24 o67), d68, d69, d70, d71, d72, d73, d74, g76, n87, H77, d140, (ix40 o142), w141, (ix54 o144), e147, e148, e149, e150, e151, e152, e153, e154, e155, e156, d157, d158, d159, d160, d161, nm, seval]
                     exact ⟨List.length p75, Nat.lt_succ_self _, by rw [hI75]; refine ⟨p75, c75_18 + 1, false, false, rfl, Int.le_trans hi75 (Int.le_add_one (Int.le_refl _)), drop_next hi75 hp75, rfl, (show 93 ≤ nx75 + 70 by omega), ?_, e147, e148, e149, e150, e151, e152, ?_, ?_, ?_, h⟩ <;> first | (simp only [ua, d27, d68, d69, d70, d71, d72, d73, d74, n87, H77, d140, w141, e147, e148, e149, e150, e151, e152, e153, e154, e155, e156, d157, d158, d159, d160, d161, nm, seval] <;> rfl) | rfl⟩
                    simp only [d161, hs, reduceCtorEq] at h
                    simp only [vz, tyf, d27, (ix24 o67), d68, d69, d70, d71, d72, d73, d74, g76, n87, H77, d140, (ix40 o142), w141, (ix54 o144), e147, e148, e149, e150, e151, e152, e153, e154, e155, e156, d157, d158, d159, d160, d161, nm, seval]
                    exact ⟨List.length p75, Nat.lt_succ_self _, by rw [hI75]; refine ⟨p75, c75_18 + 1, false, true, rfl, Int.le_trans hi75 (Int.le_add_one (Int.le_refl _)), drop_next hi75 hp75, rfl, (show 93 ≤ nx75 + 70 by omega), ?_, e147, e148, e149, e150, e151, e152, ?_, ?_, ?_, h⟩ <;> first | (simp only [ua, d27, d68, d69, d70, d71, d72, d73, d74, n87, H77, d140, w141, e147, e148, e149, e150, e151, e152, e153, e154, e155, e156, d157, d158, d159, d160, d161, nm, seval] <;> rfl) | rfl⟩
                   simp only [d160, hs, reduceCtorEq] at h
                   simp only [vz, tyf, d27, (ix24 o67), d68, d69, d70, d71, d72, d73, d74, g76, n87, H77, d140, (ix40 o142), w141, (ix54 o144), e147, e148, e149, e150, e151, e152, e153, e154, e155, e156, d157, d158, d159, d160, nm, seval]
                   exact ⟨List.length p75, Nat.lt_succ_self _, by rw [hI75]; refine ⟨p75, c75_18 + 1, false, true, rfl, Int.le_trans hi75 (Int.le_add_one (Int.le_refl _)), drop_next hi75 hp75, rfl, (show 93 ≤ nx75 + 70 by omega), ?_, e147, e148, e149, e150, e151, e152, ?_, ?_, ?_, h⟩ <;> first | (simp only [ua, d27, d68, d69, d70, d71, d72, d73, d74, n87, H77, d140, w141, e147, e148, e149, e150, e151, e152, e153, e154, e155, e156, d157, d158, d159, d160, nm, seval] <;> rfl) | rfl⟩
                  simp only [d159, hs, reduceCtorEq] at h
                  cases d162 : (x143 == 3)
                  ·simp only [d162, hs, reduceCtorEq] at h
                   cases d163 : (c75_17)
                   ·simp only [d163, hs, reduceCtorEq] at h
                    cases d164 : (x143 == 1)
                    ·simp only [d164, hs, reduceCtorEq] at h
                     simp only [vz, tyf, d27, (ix24 o67), d68, d69, d70, d71, d72, d73, d74, g76, n87, H77, d140, (ix40 o142), w141, (ix54 o144), e147, e148, e149, e150, e151, e152, e153, e154, e155, e156, d157, d158, d159, d162, d163, d164, nm, seval]
                     exact ⟨List.length p75, Nat.lt_succ_self _, by rw [hI75]; refine ⟨p75, c75_18 + 1, false, false, rfl, Int.le_trans hi75 (Int.le_add_one (Int.le_refl _)), drop_next hi75 hp75, rfl, (show 93 ≤ nx75 + 70 by omega), ?_, e147, e148, e149, e150, e151, e152, ?_, ?_, ?_, h⟩ <;> first | (simp only [ua, d27, d68, d69, d70, d71, d72, d73, d74, n87, H77, d140, w141, e147, e148, e149, e150, e151, e152, e153, e154, e155, e156, d157, d158, d159, d162, d163, d164, nm, seval] <;> rfl) | rfl⟩
                    simp only [d164, hs, reduceCtorEq] at h
                    simp only [vz, tyf, d27, (ix24 o67), d68, d69, d70, d71, d72, d73, d74, g76, n87, H77, d140, (ix40 o142), w141, (ix54 o144), e147, e148, e149, e150, e151, e152, e153, e154, e155, e156, d157, d158, d159, d162, d163, d164, nm, seval]
                    exact ⟨List.length p75, Nat.lt_succ_self _, by rw [hI75]; refine ⟨p75, c75_18 + 1, false, true, rfl, Int.le_trans hi75 (Int.le_add_one (Int.le_refl _)), drop_next hi75 hp75, rfl, (show 93 ≤ nx75 + 70 by omega), ?_, e147, e148, e149, e150, e151, e152, ?_, ?_, ?_, h⟩ <;> first | (simp only [ua, d27, d68, d69, d70, d71, d72, d73, d74, n87, H77, d140, w141, e147, e148, e149, e150, e151, e152, e153, e154, e155, e156, d157, d158, d159, d162, d163, d164, nm, seval] <;> rfl) | rfl⟩
                   simp only [d163, hs, reduceCtorEq] at h
                   simp only [vz, tyf, d27, (ix24 o67), d68, d69, d70, d71, d72, d73, d74, g76, n87, H77, d140, (ix40 o142), w141, (ix54 o144), e147, e148, e149, e150, e151, e152, e153, e154, e155, e156, d157, d158, d159, d162, d163, nm, seval]
                   exact ⟨List.length p75, Nat.lt_succ_self _, by rw [hI75]; refine ⟨p75, c75_18 + 1, false, true, rfl, Int.le_trans hi75 (Int.le_add_one (Int.le_refl _)), drop_next hi75 hp75, rfl, (show 93 ≤ nx75 + 70 by omega), ?_, e147, e148, e149, e150, e151, e152, ?_, ?_, ?_, h⟩ <;> first | (simp only [ua, d27, d68, d69, d70, d71, d72, d73, d74, n87, H77, d140, w141, e147, e148, e149, e150, e151, e152, e153, e154, e155, e156, d157, d158, d159, d162, d163, nm, seval] <;> rfl) | rfl⟩
                  simp only [d162, hs, reduceCtorEq] at h
                  cases d165 : ((c75_18 + 1) == (List.length x66.Letters : Int))
                  ·simp only [d165, hs, reduceCtorEq] at h
                   cases o167 : (getI r45.1 c75_18) with
                   | none =>
                    simp only [o167, hs, reduceCtorEq] at h
                    exact absurd h kN75
                   | some x166 =>
                    simp only [o167, hs, reduceCtorEq] at h
                    cases d168 : (c75_17)
                    ·simp only [d168, hs, reduceCtorEq] at h
                     cases d169 : (x143 == 1)
                     ·simp only [d169, hs, reduceCtorEq] at h
                      simp only [vz, tyf, d27, (ix24 o67), d68, d69, d70, d71, d72, d73, d74, g76, n87, H77, d140, (ix40 o142), w141, (ix54 o144), e147, e148, e149, e150, e151, e152, e153, e154, e155, e156, d157, d158, d159, d162, d165, (ix54 o167), d168, d169, nm, seval]
                      exact ⟨List.length p75, Nat.lt_succ_self _, by rw [hI75]; refine ⟨p75, c75_18 + 1, x166 == 1, false, rfl, Int.le_trans hi75 (Int.le_add_one (Int.le_refl _)), drop_next hi75 hp75, rfl, (show 93 ≤ nx75 + 70 by omega), ?_, e147, e148, e149, e150, e151, e152, ?_, ?_, ?_, h⟩ <;> first | (simp only [ua, d27, d68, d69, d70, d71, d72, d73, d74, n87, H77, d140, w141, e147, e148, e149, e150, e151, e152, e153, e154, e155, e156, d157, d158, d159, d162, d165, d168, d169, nm, seval] <;> rfl) | rfl⟩
                     simp only [d169, hs, reduceCtorEq] at h
                     simp only [vz, tyf, d27, (ix24 o67), d68, d69, d70, d71, d72, d73, d74, g76, n87, H77, d140, (ix40 o142), w141, (ix54 o144), e147, e148, e149, e150, e151, e152, e153, e154, e155, e156, d157, d158, d159, d162, d165, (ix54 o167), d168, d169, nm, seval]
                     exact ⟨List.length p75, Nat.lt_succ_self _, by rw [hI75]; refine ⟨p75, c75_18 + 1, x166 == 1, true, rfl, Int.le_trans hi75 (Int.le_add_one (Int.le_refl _)), drop_next hi75 hp75, rfl, (show 93 ≤ nx75 + 70 by omega), ?_, e147, e148, e149, e150, e151, e152, ?_, ?_, ?_, h⟩ <;> first | (simp only [ua, d27, d68, d69, d70, d71, d72, d73, d74, n87, H77, d140, w141, e147, e148, e149, e150, e151, e152, e153, e154, e155, e156, d157, d158, d159, d162, d165, d168, d169, nm, seval] <;> rfl) | rfl⟩
                    simp only [d168, hs, reduceCtorEq] at h
                    simp only [vz, tyf, d27, (ix24 o67), d68, d69, d70, d71, d72, d73, d74, g76, n87, H77, d140, (ix40 o142), w141, (ix54 o144), e147, e148, e149, e150, e151, e152, e153, e154, e155, e156, d157, d158, d159, d162, d165, (ix54 o167), d168, nm, seval]
                    exact ⟨List.length p75, Nat.lt_succ_self _, by rw [hI75]; refine ⟨p75, c75_18 + 1, x166 == 1, true, rfl, Int.le_trans hi75 (Int.le_add_one (Int.le_refl _)), drop_next hi75 hp75, rfl, (show 93 ≤ nx75 + 70 by omega), ?_, e147, e148, e149, e150, e151, e152, ?_, ?_, ?_, h⟩ <;> first | (simp only [ua, d27, d68, d69, d70, d71, d72, d73, d74, n87, H77, d140, w141, e147, e148, e149, e150, e151, e152, e153, e154, e155, e156, d157, d158, d159, d162, d165, d168, nm, seval] <;> rfl) | rfl⟩
                  simp only [d165, hs, reduceCtorEq] at h
                  cases d170 : (c75_17)
                  ·simp only [d170, hs, reduceCtorEq] at h
                   cases d171 : (x143 == 1)
                   ·simp only [d171, hs, reduceCtorEq] at h
                    simp only [vz, tyf, d27, (ix24 o67), d68, d69, d70, d71, d72, d73, d74, g76, n87, H77, d140, (ix40 o142), w141, (ix54 o144), e147, e148, e149, e150, e151, e152, e153, e154, e155, e156, d157, d158, d159, d162, d165, d170, d171, nm, seval]
                    exact ⟨List.length p75, Nat.lt_succ_self _, by rw [hI75]; refine ⟨p75, c75_18 + 1, true, false, rfl, Int.le_trans hi75 (Int.le_add_one (Int.le_refl _)), drop_next hi75 hp75, rfl, (show 93 ≤ nx75 + 70 by omega), ?_, e147, e148, e149, e150, e151, e152, ?_, ?_, ?_, h⟩ <;> first | (simp only [ua, d27, d68, d69, d70, d71, d72, d73, d74, n87, H77, d140, w141, e147, e148, e149, e150, e151, e152, e153, e154, e155, e156, d157, d158, d159, d162, d165, d170, d171, nm, seval] <;> rfl) | rfl⟩
                   simp only [d171, hs, reduceCtorEq] at h
                   simp only [vz, tyf, d27, (ix24 o67), d68, d69, d70, d71, d72, d73, d74, g76, n87, H77, d140, (ix40 o142), w141, (ix54 o144), e147, e148, e149, e150, e151, e152, e153, e154, e155, e156, d157, d158, d159, d162, d165, d170, d171, nm, seval]
                   exact ⟨List.length p75, Nat.lt_succ_self _, by rw [hI75]; refine ⟨p75, c75_18 + 1, true, true, rfl, Int.le_trans hi75 (Int.le_add_one (Int.le_refl _)), drop_next hi75 hp75, rfl, (show 93 ≤ nx75 + 70 by omega), ?_, e147, e148, e149, e150, e151, e152, ?_, ?_, ?_, h⟩ <;> first | (simp only [ua, d27, d68, d69, d70, d71, d72, d73, d74, n87, H77, d140, w141, e147, e148, e149, e150, e151, e152, e153, e154, e155, e156, d157, d158, d159, d162, d165, d170, d171, nm, seval] <;> rfl) | rfl⟩
                  simp only [d170, hs, reduceCtorEq] at h
                  simp only [vz, tyf, d27, (ix24 o67), d68, d69, d70, d71, d72, d73, d74, g76, n87, H77, d140, (ix40 o142), w141, (ix54 o144), e147, e148, e149, e150, e151, e152, e153, e154, e155, e156, d157, d158, d159, d162, d165, d170, nm, seval]
                  exact ⟨List.length p75, Nat.lt_succ_self _, by rw [hI75]; refine ⟨p75, c75_18 + 1, true, true, rfl, Int.le_trans hi75 (Int.le_add_one (Int.le_refl _)), drop_next hi75 hp75, rfl, (show 93 ≤ nx75 + 70 by omega), ?_, e147, e148, e149, e150, e151, e152, ?_, ?_, ?_, h⟩ <;> first | (simp only [ua, d27, d68, d69, d70, d71, d72, d73, d74, n87, H77, d140, w141, e147, e148, e149, e150, e151, e152, e153, e154, e155, e156, d157, d158, d159, d162, d165, d170, nm, seval] <;> rfl) | rfl⟩
                 simp only [d158, hs, reduceCtorEq] at h
                 cases o173 : (getI r45.1 c75_18) with
                 | none =>
                  simp only [o173, hs, reduceCtorEq] at h
                  exact absurd h kN75
                 | some x172 =>
                  simp only [o173, hs, reduceCtorEq] at h
                  cases o175 : (g_law02_word x172) with
                  | none =>
                   simp only [o175, hs, reduceCtorEq] at h
                   exact absurd h kN75
                  | some r174 =>
                   simp only [o175, hs, reduceCtorEq] at h
                   simp only [vz, tyf, d27, (ix24 o67), d68, d69, d70, d71, d72, d73, d74, g76, n87, H77, d140, (ix40 o142), w141, (ix54 o144), e147, e148, e149, e150, e151, e152, e153, e154, e155, e156, d157, d158, (ix54 o173), nm, seval]
                   refine ktree (args0 := [.lit (.int .i64 x172)]) (by first | (simp only [nrm, tynrm] <;> rfl) | rfl) (by simp only [tre, tytre, Bool.and_self]) (g_law02_word_ok _ _ o175) ?_
                   refine fin_cut (fun tm => tm 3 = .ptr 0 0 ∧ tm 7 = .lit (.int .i64 r31.1) ∧ tm 9 = .sl (cellsL eI r37.1) (List.length r37.1) false ∧ tm 11 = .sl (cellsL eI r45.1) (List.length r45.1) false ∧ tm 13 = .sl (cellsL eI r55.1) (List.length r55.1) false ∧ tm 15 = .lit (.int .i64 (List.length x66.Letters : Int)) ∧ tm 16 = .lit (.bool c75_16) ∧ tm 17 = .lit (.bool c75_17) ∧ tm 18 = .lit (.int .i64 c75_18) ∧ tm 110 = .lit (.bool false) ∧ tm 115 = .lit (.bool true) ∧ tm 120 = .lit (.bool r174) ∧ True) (by refine ⟨e147, e148, e149, e150, e151, e152, e153, e154, e155, ?_, ?_, ?_, trivial⟩ <;> first | (simp only [ua, d27, d68, d69, d70, d71, d72, d73, d74, n87, H77, d140, w141, e147, e148, e149, e150, e151, e152, e153, e154, e155, e156, d157, d158, nm, seval] <;> rfl) | rfl) ?_
                   rintro tm ⟨e176, e177, e178, e179, e180, e181, e182, e183, e184, e185, e186, e187, _⟩
                   cases d188 : (r174)
                   ·simp only [d188, hs, reduceCtorEq] at h
                    simp only [vz, tyf, d27, (ix24 o67), d68, d69, d70, d71, d72, d73, d74, g76, n87, H77, d140, (ix40 o142), w141, (ix54 o144), d157, d158, (ix54 o173), e176, e177, e178, e179, e180, e181, e182, e183, e184, e185, e186, e187, d188, nm, seval]
                    replace h := kR75 _ h
                    try dsimp only at h
                    obtain rfl := kF _ h
                    exact opd_bool Tryz.results8 (by first | rfl | (simp only [upd_apply, e176, e177, e178, e179, e180, e181, e182, e183, e184, e185, e186, e187, seval] <;> rfl))
                   simp only [d188, hs, reduceCtorEq] at h
                   cases d189 : (c75_16)
                   ·simp only [d189, hs, reduceCtorEq] at h
                    cases d190 : (c75_17)
                    ·simp only [d190, hs, reduceCtorEq] at h
                     cases d191 : (x143 == 1)
                     ·simp only [d191, hs, reduceCtorEq] at h
                      simp only [vz, tyf, d27, (ix24 o67), d68, d69, d70, d71, d72, d73, d74, g76, n87, H77, d140, (ix40 o142), w141, (ix54 o144), d157, d158, (ix54 o173), e176, e177, e178, e179, e180, e181, e182, e183, e184, e185, e186, e187, d188, d189, d190, d191, nm, seval]
                      exact ⟨List.length p75, Nat.lt_succ_self _, by rw [hI75]; refine ⟨p75, c75_18 + 1, false, x172 == 3, rfl, Int.le_trans hi75 (Int.le_add_one (Int.le_refl _)), drop_next hi75 hp75, rfl, (show 93 ≤ nx75 + 70 by omega), ?_, e176, e177, e178, e179, e180, e181, ?_, ?_, ?_, h⟩ <;> first | (simp only [ua, d27, d68, d69, d70, d71, d72, d73, d74, n87, H77, d140, w141, d157, d158, e176, e177, e178, e179, e180, e181, e182, e183, e184, e185, e186, e187, d188, d189, d190, d191, nm, seval] <;> rfl) | rfl⟩
                     simp only [d191, hs, reduceCtorEq] at h
                     simp only [vz, tyf, d27, (ix24 o67), d68, d69, d70, d71, d72, d73, d74, g76, n87, H77, d140, (ix40 o142), w141, (ix54 o144), d157, d158, (ix54 o173), e176, e177, e178, e179, e180, e181, e182, e183, e184, e185, e186, e187, d188, d189, d190, d191, nm, seval]
                     exact ⟨List.length p75, Nat.lt_succ_self _, by rw [hI75]; refine ⟨p75, c75_18 + 1, false, true, rfl, Int.le_trans hi75 (Int.le_add_one (Int.le_refl _)), drop_next hi75 hp75, rfl, (show 93 ≤ nx75 + 70 by omega), ?_, e176, e177, e178, e179, e180, e181, ?_, ?_, ?_, h⟩ <;> first | (simp only [ua, d27, d68, d69, d70, d71, d72, d73, d74, n87, H77, d140, w141, d157, d158, e176, e177, e178, e179, e180, e181, e182, e183, e184, e185, e186, e187, d188, d189, d190, d191, nm, seval] <;> rfl) | rfl⟩
                    simp only [d190, hs, reduceCtorEq] at h
                    simp only [vz, tyf, d27, (ix24 o67), d68, d69, d70, d71, d72, d73, d74, g76, n87, H77, d140, (ix40 o142), w141, (ix54 o144), d157, d158, (ix54 o173), e176, e177, e178, e179, e180, e181, e182, e183, e184, e185, e186, e187, d188, d189, d190, nm, seval]
                    exact ⟨List.length p75, Nat.lt_succ_self _, by rw [hI75]; refine ⟨p75, c75_18 + 1, false, true, rfl, Int.le_trans hi75 (Int.le_add_one (Int.le_refl _)), drop_next hi75 hp75, rfl, (show 93 ≤ nx75 + 70 by omega), ?_, e176, e177, e178, e179, e180, e181, ?_, ?_, ?_, h⟩ <;> first | (simp only [ua, d27, d68, d69, d70, d71, d72, d73, d74, n87, H77, d140, w141, d157, d158, e176, e177, e178, e179, e180, e181, e182, e183, e184, e185, e186, e187, d188, d189, d190, nm, seval] <;> rfl) | rfl⟩
                   simp only [d189, hs, reduceCtorEq] at h
                   cases d192 : (x143 == 3)
                   ·simp only [d192, hs, reduceCtorEq] at h
                    cases d193 : (c75_17)
                    ·simp only [d193, hs, reduceCtorEq] at h
                     cases d194 : (x143 == 1)
                     ·simp only [d194, hs, reduceCtorEq] at h
                      simp only [vz, tyf, d27, (ix24 o67), d68, d69, d70, d71, d72, d73, d74, g76, n87, H77, d140, (ix40 o142), w141, (ix54 o144), d157, d158, (ix54 o173), e176, e177, e178, e179, e180, e181, e182, e183, e184, e185, e186, e187, d188, d189, d192, d193, d194, nm, seval]
                      exact ⟨List.length p75, Nat.lt_succ_self _, by rw [hI75]; refine ⟨p75, c75_18 + 1, false, x172 == 3, rfl, Int.le_trans hi75 (Int.le_add_one (Int.le_refl _)), drop_next hi75 hp75, rfl, (show 93 ≤ nx75 + 70 by omega), ?_, e176, e177, e178, e179, e180, e181, ?_, ?_, ?_, h⟩ <;> first | (simp only [ua, d27, d68, d69, d70, d71, d72, d73, d74, n87, H77, d140, w141, d157, d158, e176, e177, e178, e179, e180, e181, e182, e183, e184, e185, e186, e187, d188, d189, d192, d193, d194, nm, seval] <;> rfl) | rfl⟩
                     simp only [d194, hs, reduceCtorEq] at h
                     simp only [vz, tyf, d27, (ix24 o67), d68, d69, d70, d71, d72, d73, d74, g76, n87, H77, d140, (ix40 o142), w141, (ix54 o144), d157, d158, (ix54 o173), e176, e177, e178, e179, e180, e181, e182, e183, e184, e185, e186, e187, d188, d189, d192, d193, d194, nm, seval]
                     exact ⟨List.length p75, Nat.lt_succ_self _, by rw [hI75]; refine ⟨p75, c75_18 + 1, false, true, rfl, Int.le_trans hi75 (Int.le_add_one (Int.le_refl _)), drop_next hi75 hp75, rfl, (show 93 ≤ nx75 + 70 by omega), ?_, e176, e177, e178, e179, e180, e181, ?_, ?_, ?_, h⟩ <;> first | (simp only [ua, d27, d68, d69, d70, d71, d72, d73, d74, n87, H77, d140, w141, d157, d158, e176, e177, e178, e179, e180, e181, e182, e183, e184, e185, e186, e187, d188, d189, d192, d193, d194, nm, seval] <;> rfl) | rfl⟩
                    simp only [d193, hs, reduceCtorEq] at h
                    simp only [vz, tyf, d27, (ix24 o67), d68, d69, d70, d71, d72, d73, d74, g76, n87, H77, d140, (ix40 o142), w141, (ix54 o144), d157, d158, (ix54 o173), e176, e177, e178, e179, e180, e181, e182, e183, e184, e185, e186, e187, d188, d189, d192, d193, nm, seval]
                    exact ⟨List.length p75, Nat.lt_succ_self _, by rw [hI75]; refine ⟨p75, c75_18 + 1, false, true, rfl, Int.le_trans hi75 (Int.le_add_one (Int.le_refl _)), drop_next hi75 hp75, rfl, (show 93 ≤ nx75 + 70 by omega), ?_, e176, e177, e178, e179, e180, e181, ?_, ?_, ?_, h⟩ <;> first | (simp only [ua, d27, d68, d69, d70, d71, d72, d73, d74, n87, H77, d140, w141, d157, d158, e176, e177, e178, e179, e180, e181, e182, e183, e184, e185, e186, e187, d188, d189, d192, d193, nm, seval] <;> rfl) | rfl⟩
                   simp only [d192, hs, reduceCtorEq] at h
                   cases d195 : ((c75_18 + 1) == (List.length x66.Letters : Int))
                   ·simp only [d195, hs, reduceCtorEq] at h
                    cases d196 : (c75_17)
                    ·simp only [d196, hs, reduceCtorEq] at h
                     cases d197 : (x143 == 1)
                     ·simp only [d197, hs, reduceCtorEq] at h
                      simp only [vz, tyf, d27, (ix24 o67), d68, d69, d70, d71, d72, d73, d74, g76, n87, H77, d140, (ix40 o142), w141, (ix54 o144), d157, d158, (ix54 o173), e176, e177, e178, e179, e180, e181, e182, e183, e184, e185, e186, e187, d188, d189, d192, d195, d196, d197, nm, seval]
                      exact ⟨List.length p75, Nat.lt_succ_self _, by rw [hI75]; refine ⟨p75, c75_18 + 1, x172 == 1, x172 == 3, rfl, Int.le_trans hi75 (Int.le_add_one (Int.le_refl _)), drop_next hi75 hp75, rfl, (show 93 ≤ nx75 + 70 by omega), ?_, e176, e177, e178, e179, e180, e181, ?_, ?_, ?_, h⟩ <;> first | (simp only [ua, d27, d68, d69, d70, d71, d72, d73, d74, n87, H77, d140, w141, d157, d158, e176, e177, e178, e179, e180, e181, e182, e183, e184, e185, e186, e187, d188, d189, d192, d195, d196, d197, nm, seval] <;> rfl) | rfl⟩
                     simp only [d197, hs, reduceCtorEq] at h
                     simp only [vz, tyf, d27, (ix24 o67), d68, d69, d70, d71, d72, d73, d74, g76, n87, H77, d140, (ix40 o142), w141, (ix54 o144), d157, d158, (ix54 o173), e176, e177, e178, e179, e180, e181, e182, e183, e184, e185, e186, e187, d188, d189, d192, d195, d196, d197, nm, seval]
                     exact ⟨List.length p75, Nat.lt_succ_self _, by rw [hI75]; refine ⟨p75, c75_18 + 1, x172 == 1, true, rfl, Int.le_trans hi75 (Int.le_add_one (Int.le_refl _)), drop_next hi75 hp75, rfl, (show 93 ≤ nx75 + 70 by omega), ?_, e176, e177, e178, e179, e180, e181, ?_, ?_, ?_, h⟩ <;> first | (simp only [ua, d27, d68, d69, d70, d71, d72, d73, d74, n87, H77, d140, w141, d157, d158, e176, e177, e178, e179, e180, e181, e182, e183, e184, e185, e186, e187, d188, d189, d192, d195, d196, d197, nm, seval] <;> rfl) | rfl⟩
                    simp only [d196, hs, reduceCtorEq] at h
                    simp only [vz, tyf, d27, (ix24 o67), d68, d69, d70, d71, d72, d73, d74, g76, n87, H77, d140, (ix40 o142), w141, (ix54 o144), d157, d158, (ix54 o173), e176, e177, e178, e179, e180, e181, e182, e183, e184, e185, e186, e187, d188, d189, d192, d195, d196, nm, seval]
                    exact ⟨List.length p75, Nat.lt_succ_self _, by rw [hI75]; refine ⟨p75, c75_18 + 1, x172 == 1, true, rfl, Int.le_trans hi75 (Int.le_add_one (Int.le_refl _)), drop_next hi75 hp75, rfl, (show 93 ≤ nx75 + 70 by omega), ?_, e176, e177, e178, e179, e180, e181, ?_, ?_, ?_, h⟩ <;> first | (simp only [ua, d27, d68, d69, d70, d71, d72, d73, d74, n87, H77, d140, w141, d157, d158, e176, e177, e178, e179, e180, e181, e182, e183, e184, e185, e186, e187, d188, d189, d192, d195, d196, nm, seval] <;> rfl) | rfl⟩
                   simp only [d195, hs, reduceCtorEq] at h
                   cases d198 : (c75_17)
                   ·simp only [d198, hs, reduceCtorEq] at h
                    cases d199 : (x143 == 1)
                    ·simp only [d199, hs, reduceCtorEq] at h
                     simp only [vz, tyf, d27, (ix24 o67), d68, d69, d70, d71, d72, d73, d74, g76, n87, H77, d140, (ix40 o142), w141, (ix54 o144), d157, d158, (ix54 o173), e176, e177, e178, e179, e180, e181, e182, e183, e184, e185, e186, e187, d188, d189, d192, d195, d198, d199, nm, seval]
                     exact ⟨List.length p75, Nat.lt_succ_self _, by rw [hI75]; refine ⟨p75, c75_18 + 1, true, x172 == 3, rfl, Int.le_trans hi75 (Int.le_add_one (Int.le_refl _)), drop_next hi75 hp75, rfl, (show 93 ≤ nx75 + 70 by omega), ?_, e176, e177, e178, e179, e180, e181, ?_, ?_, ?_, h⟩ <;> first | (simp only [ua, d27, d68, d69, d70, d71, d72, d73, d74, n87, H77, d140, w141, d157, d158, e176, e177, e178, e179, e180, e181, e182, e183, e184, e185, e186, e187, d188, d189, d192, d195, d198, d199, nm, seval] <;> rfl) | rfl⟩
                    simp only [d199, hs, reduceCtorEq] at h
                    simp only [vz, tyf, d27, (ix24 o67), d68, d69, d70, d71, d72, d73, d74, g76, n87, H77, d140, (ix40 o142), w141, (ix54 o144), d157, d158, (ix54 o173), e176, e177, e178, e179, e180, e181, e182, e183, e184, e185, e186, e187, d188, d189, d192, d195, d198, d199, nm, seval]
                    exact ⟨List.length p75, Nat.lt_succ_self _, by rw [hI75]; refine ⟨p75, c75_18 + 1, true, true, rfl, Int.le_trans hi75 (Int.le_add_one (Int.le_refl _)), drop_next hi75 hp75, rfl, (show 93 ≤ nx75 + 70 by omega), ?_, e176, e177, e178, e179, e180, e181, ?_, ?_, ?_, h⟩ <;> first | (simp only [ua, d27, d68, d69, d70, d71, d72, d73, d74, n87, H77, d140, w141, d157, d158, e176, e177, e178, e179, e180, e181, e182, e183, e184, e185, e186, e187, d188, d189, d192, d195, d198, d199, nm, seval] <;> rfl) | rfl⟩
                   simp only [d198, hs, reduceCtorEq] at h
                   simp only [vz, tyf, d27, (ix24 o67), d68, d69, d70, d71, d72, d73, d74, g76, n87, H77, d140, (ix40 o142), w141, (ix54 o144), d157, d158, (ix54 o173), e176, e177, e178, e179, e180, e181, e182, e183, e184, e185, e186, e187, d188, d189, d192, d195, d198, nm, seval]
                   exact ⟨List.length p75, Nat.lt_succ_self _, by rw [hI75]; refine ⟨p75, c75_18 + 1, true, true, rfl, Int.le_trans hi75 (Int.le_add_one (Int.le_refl _)), drop_next hi75 hp75, rfl, (show 93 ≤ nx75 + 70 by omega), ?_, e176, e177, e178, e179, e180, e181, ?_, ?_, ?_, h⟩ <;> first | (simp only [ua, d27, d68, d69, d70, d71, d72, d73, d74, n87, H77, d140, w141, d157, d158, e176, e177, e178, e179, e180, e181, e182, e183, e184, e185, e186, e187, d188, d189, d192, d195, d198, nm, seval] <;> rfl) | rfl⟩
             simp only [d74, hs, reduceCtorEq] at h
             simp only [vz, tyf, d27, e57, e58, e59, e60, e61, e62, e63, e64, e65, (ix24 o67), d68, d69, d70, d71, d72, d73, d74, nm, seval]
             obtain rfl := kF _ h
             exact opd_bool Tryz.results8 (by first | rfl | (simp only [upd_apply, e57, e58, e59, e60, e61, e62, e63, e64, e65, seval] <;> rfl))
            simp only [d73, hs, reduceCtorEq] at h
            simp only [vz, tyf, d27, e57, e58, e59, e60, e61, e62, e63, e64, e65, (ix24 o67), d68, d69, d70, d71, d72, d73, nm, seval]
            obtain rfl := kF _ h
            exact opd_bool Tryz.results8 (by first | rfl | (simp only [upd_apply, e57, e58, e59, e60, e61, e62, e63, e64, e65, seval] <;> rfl))
           simp only [d72, hs, reduceCtorEq] at h
           simp only [vz, tyf, d27, e57, e58, e59, e60, e61, e62, e63, e64, e65, (ix24 o67), d68, d69, d70, d71, d72, nm, seval]
           obtain rfl := kF _ h
           exact opd_bool Tryz.results8 (by first | rfl | (simp only [upd_apply, e57, e58, e59, e60, e61, e62, e63, e64, e65, seval] <;> rfl))
          simp only [d71, hs, reduceCtorEq] at h
          simp only [vz, tyf, d27, e57, e58, e59, e60, e61, e62, e63, e64, e65, (ix24 o67), d68, d69, d70, d71, nm, seval]
          obtain rfl := kF _ h
          exact opd_bool Tryz.results8 (by first | rfl | (simp only [upd_apply, e57, e58, e59, e60, e61, e62, e63, e64, e65, seval] <;> rfl))
         simp only [d70, hs, reduceCtorEq] at h
         simp only [vz, tyf, d27, e57, e58, e59, e60, e61, e62, e63, e64, e65, (ix24 o67), d68, d69, d70, nm, seval]
         obtain rfl := kF _ h
         exact opd_bool Tryz.results8 (by first | rfl | (simp only [upd_apply, e57, e58, e59, e60, e61, e62, e63, e64, e65, seval] <;> rfl))
        simp only [d69, hs, reduceCtorEq] at h
        simp only [vz, tyf, d27, e57, e58, e59, e60, e61, e62, e63, e64, e65, (ix24 o67), d68, d69, nm, seval]
        obtain rfl := kF _ h
        exact opd_bool Tryz.results8 (by first | rfl | (simp only [upd_apply, e57, e58, e59, e60, e61, e62, e63, e64, e65, seval] <;> rfl))
       simp only [d68, hs, reduceCtorEq] at h
       simp only [vz, tyf, d27, e57, e58, e59, e60, e61, e62, e63, e64, e65, (ix24 o67), d68, nm, seval]
       obtain rfl := kF _ h
       exact opd_bool Tryz.results8 (by first | rfl | (simp only [upd_apply, e57, e58, e59, e60, e61, e62, e63, e64, e65, seval] <;> rfl))
end Go.V
end
