/- Part of a proof: a logic of values by content, lifted functions, what follows. -/
import Derived.Test.YtgdgkkloccpbnaaGreatDoorXbf
import Derived.Test.YtgdgkkloccpbnaaGreatDoorXbi
import Derived.Test.YtgdgkkloccpbnaaGreatDoorXbr
import Derived.Test.YtgdgkkloccpbnaaGreatDoorXbo
import Derived.Test.YtgdgkkloccpbnaaGreatDoorXbh
set_option linter.all false
set_option maxRecDepth 4000
set_option maxHeartbeats 40000000
section
namespace Go.V
open Go Go.Proofs
def zex (x0_s : GCoatSheet) (x1_a1 : List Int) (x2_a2 : Int) : Option (Bool) := Option.bind (zfk x0_s) (fun r1 => cond (r1) (cond (decide ((List.length x1_a1 : Int) > 7)) (some true) (Option.bind (zdw x0_s x1_a1 x2_a2) (fun r2 => Option.bind (zfg x0_s) (fun r3 => cond (r3) (Option.bind (zft x0_s x1_a1) (fun r4 => cond (r4) (Option.bind (zfl x0_s x2_a2) (fun r5 => cond (r5) (Option.bind (zej x0_s x1_a1 x2_a2) (fun r6 => cond (r6.2.2) (cond (r2.2.2 == 0) (Option.bind (zfy r2.1 r6.1) (fun r7 => cond (r7) (cond (r2.2.1 == r6.2.1) (some true) (some false)) (some false))) (some false)) (cond (r2.2.2 == 5) (cond ((List.length r2.1 : Int) == 0) (cond (r2.2.1 == 0) (some true) (some false)) (some false)) (some false)))) (cond (r2.2.2 == 2) (cond ((List.length r2.1 : Int) == 0) (cond (r2.2.1 == 0) (some true) (some false)) (some false)) (some false)))) (cond (r2.2.2 == 2) (cond ((List.length r2.1 : Int) == 0) (cond (r2.2.1 == 0) (some true) (some false)) (some false)) (some false)))) (cond (r2.2.2 == 2) (cond ((List.length r2.1 : Int) == 0) (cond (r2.2.1 == 0) (some true) (some false)) (some false)) (some false)))))) (some true))
theorem zjs (x0_s : GCoatSheet) (x1_a1 : List Int) (x2_a2 : Int) (R : Bool) (h : zex x0_s x1_a1 x2_a2 = some R) : VPure Tryz.prog G0 11 [.agg (cGCoatSheet x0_s), .sl (cellsL eI x1_a1) (List.length x1_a1) false, .lit (.int .i64 x2_a2)] (.tree (.lit (.bool R))) := by
 refine VPure.runR mixed Tryz.call11 Tryz.func11 rfl (by simp [Tryz.ntmps11]; kernel_rfl) ?_
 obtain ⟨KF, h, kF, kN⟩ := zan h
 simp only [zex] at h
 rcases o9 : (zfk x0_s) with _ | r8
 ·simp only [o9, hs] at h
  exact absurd h kN
 simp only [o9, hs] at h
 simp only [vz, tyf, nm, seval]
 refine ktree (args0 := [.agg (cGCoatSheet x0_s)]) (by first | (simp only [nrm, tynrm] <;> rfl) | rfl) (by simp only [tre, tytre, Bool.and_self]) (zoa _ _ o9) ?_
 refine zam (fun tm => tm 1 = .sl (cellsL eI x1_a1) (List.length x1_a1) false ∧ tm 2 = .lit (.int .i64 x2_a2) ∧ tm 3 = .ptr 0 0 ∧ tm 14 = .lit (.bool r8) ∧ True) (by refine ⟨?_, ?_, ?_, ?_, trivial⟩ <;> first | (simp only [ua, nm, seval] <;> rfl) | rfl) ?_
 rintro tm ⟨e10, e11, e12, e13, _⟩
 cases d14 : (r8)
 ·simp only [d14, hs] at h
  simp only [vz, tyf, e10, e11, e12, e13, d14, nm, seval]
  refine ktree0 zcx ?_
  try simp only [vz, tyf, e10, e11, e12, e13, d14, nm, seval]
  obtain rfl := kF _ h
  exact zae Tryz.results11 rfl
 simp only [d14, hs] at h
 cases d15 : (decide ((List.length x1_a1 : Int) > 7))
 ·simp only [d15, hs] at h
  rcases o17 : (zdw x0_s x1_a1 x2_a2) with _ | r16
  ·simp only [o17, hs] at h
   exact absurd h kN
  simp only [o17, hs] at h
  simp only [vz, tyf, e10, e11, e12, e13, d14, d15, nm, seval]
  refine ktree (args0 := [.agg (cGCoatSheet x0_s), .sl (cellsL eI x1_a1) (List.length x1_a1) false, .lit (.int .i64 x2_a2)]) (by first | (simp only [nrm, tynrm] <;> rfl) | rfl) (by simp only [tre, tytre, Bool.and_self]) (zqd _ _ _ _ o17) ?_
  refine zam (fun tm => tm 1 = .sl (cellsL eI x1_a1) (List.length x1_a1) false ∧ tm 2 = .lit (.int .i64 x2_a2) ∧ tm 3 = .ptr 0 0 ∧ tm 26 = .tup [.sl (cellsL eI r16.1) (List.length r16.1) false, .lit (.int .i64 r16.2.1), .lit (.int .i64 r16.2.2)] ∧ True) (by refine ⟨e10, e11, e12, ?_, trivial⟩ <;> first | (simp only [ua, e10, e11, e12, e13, d14, d15, nm, seval] <;> rfl) | rfl) ?_
  rintro tm ⟨e18, e19, e20, e21, _⟩
  rcases o23 : (zfg x0_s) with _ | r22
  ·simp only [o23, hs] at h
   exact absurd h kN
  simp only [o23, hs] at h
  simp only [vz, tyf, d14, d15, e18, e19, e20, e21, nm, seval]
  refine ktree (args0 := [.agg (cGCoatSheet x0_s)]) (by first | (simp only [nrm, tynrm] <;> rfl) | rfl) (by simp only [tre, tytre, Bool.and_self]) (znx _ _ o23) ?_
  refine zam (fun tm => tm 1 = .sl (cellsL eI x1_a1) (List.length x1_a1) false ∧ tm 2 = .lit (.int .i64 x2_a2) ∧ tm 3 = .ptr 0 0 ∧ tm 7 = .sl (cellsL eI r16.1) (List.length r16.1) false ∧ tm 8 = .lit (.int .i64 r16.2.1) ∧ tm 9 = .lit (.int .i64 r16.2.2) ∧ tm 31 = .lit (.bool r22) ∧ True) (by refine ⟨e18, e19, e20, ?_, ?_, ?_, ?_, trivial⟩ <;> first | (simp only [ua, d14, d15, e18, e19, e20, e21, nm, seval] <;> rfl) | rfl) ?_
  rintro tm ⟨e24, e25, e26, e27, e28, e29, e30, _⟩
  cases d31 : (r22)
  ·simp only [d31, hs] at h
   cases d32 : (r16.2.2 == 2)
   ·simp only [d32, hs] at h
    try simp only [vz, tyf, d14, d15, e24, e25, e26, e27, e28, e29, e30, d31, d32, nm, seval]
    obtain rfl := kF _ h
    exact zae Tryz.results11 rfl
   simp only [d32, hs] at h
   cases d33 : ((List.length r16.1 : Int) == 0)
   ·simp only [d33, hs] at h
    try simp only [vz, tyf, d14, d15, e24, e25, e26, e27, e28, e29, e30, d31, d32, d33, nm, seval]
    obtain rfl := kF _ h
    exact zae Tryz.results11 rfl
   simp only [d33, hs] at h
   cases d34 : (r16.2.1 == 0)
   ·simp only [d34, hs] at h
    try simp only [vz, tyf, d14, d15, e24, e25, e26, e27, e28, e29, e30, d31, d32, d33, d34, nm, seval]
    obtain rfl := kF _ h
    exact zae Tryz.results11 rfl
   simp only [d34, hs] at h
   simp only [vz, tyf, d14, d15, e24, e25, e26, e27, e28, e29, e30, d31, d32, d33, d34, nm, seval]
   refine ktree0 zcx ?_
   try simp only [vz, tyf, d14, d15, e24, e25, e26, e27, e28, e29, e30, d31, d32, d33, d34, nm, seval]
   obtain rfl := kF _ h
   exact zae Tryz.results11 rfl
  simp only [d31, hs] at h
  rcases o36 : (zft x0_s x1_a1) with _ | r35
  ·simp only [o36, hs] at h
   exact absurd h kN
  simp only [o36, hs] at h
  simp only [vz, tyf, d14, d15, e24, e25, e26, e27, e28, e29, e30, d31, nm, seval]
  refine ktree (args0 := [.agg (cGCoatSheet x0_s), .sl (cellsL eI x1_a1) (List.length x1_a1) false]) (by first | (simp only [nrm, tynrm] <;> rfl) | rfl) (by simp only [tre, tytre, Bool.and_self]) (zok _ _ _ o36) ?_
  refine zam (fun tm => tm 1 = .sl (cellsL eI x1_a1) (List.length x1_a1) false ∧ tm 2 = .lit (.int .i64 x2_a2) ∧ tm 3 = .ptr 0 0 ∧ tm 7 = .sl (cellsL eI r16.1) (List.length r16.1) false ∧ tm 8 = .lit (.int .i64 r16.2.1) ∧ tm 9 = .lit (.int .i64 r16.2.2) ∧ tm 33 = .lit (.bool false) ∧ tm 36 = .lit (.bool r35) ∧ True) (by refine ⟨e24, e25, e26, e27, e28, e29, ?_, ?_, trivial⟩ <;> first | (simp only [ua, d14, d15, e24, e25, e26, e27, e28, e29, e30, d31, nm, seval] <;> rfl) | rfl) ?_
  rintro tm ⟨e37, e38, e39, e40, e41, e42, e43, e44, _⟩
  cases d45 : (r35)
  ·simp only [d45, hs] at h
   cases d46 : (r16.2.2 == 2)
   ·simp only [d46, hs] at h
    try simp only [vz, tyf, d14, d15, d31, e37, e38, e39, e40, e41, e42, e43, e44, d45, d46, nm, seval]
    obtain rfl := kF _ h
    exact zae Tryz.results11 rfl
   simp only [d46, hs] at h
   cases d47 : ((List.length r16.1 : Int) == 0)
   ·simp only [d47, hs] at h
    try simp only [vz, tyf, d14, d15, d31, e37, e38, e39, e40, e41, e42, e43, e44, d45, d46, d47, nm, seval]
    obtain rfl := kF _ h
    exact zae Tryz.results11 rfl
   simp only [d47, hs] at h
   cases d48 : (r16.2.1 == 0)
   ·simp only [d48, hs] at h
    have b49 := And.intro d14 (And.intro d15 (And.intro d31 (And.intro d45 (And.intro d46 (And.intro d47 d48)))))
    try simp only [vz, tyf, b49, e37, e38, e39, e40, e41, e42, e43, e44, nm, seval]
    obtain rfl := kF _ h
    exact zae Tryz.results11 rfl
   simp only [d48, hs] at h
   have b50 := And.intro d14 (And.intro d15 (And.intro d31 (And.intro d45 (And.intro d46 (And.intro d47 d48)))))
   simp only [vz, tyf, b50, e37, e38, e39, e40, e41, e42, e43, e44, nm, seval]
   refine ktree0 zcx ?_
   try simp only [vz, tyf, b50, e37, e38, e39, e40, e41, e42, e43, e44, nm, seval]
   obtain rfl := kF _ h
   exact zae Tryz.results11 rfl
  simp only [d45, hs] at h
  rcases o52 : (zfl x0_s x2_a2) with _ | r51
  ·simp only [o52, hs] at h
   exact absurd h kN
  simp only [o52, hs] at h
  simp only [vz, tyf, d14, d15, d31, e37, e38, e39, e40, e41, e42, e43, e44, d45, nm, seval]
  refine ktree (args0 := [.agg (cGCoatSheet x0_s), .lit (.int .i64 x2_a2)]) (by first | (simp only [nrm, tynrm] <;> rfl) | rfl) (by simp only [tre, tytre, Bool.and_self]) (zjy _ _ _ o52) ?_
  refine zam (fun tm => tm 1 = .sl (cellsL eI x1_a1) (List.length x1_a1) false ∧ tm 2 = .lit (.int .i64 x2_a2) ∧ tm 3 = .ptr 0 0 ∧ tm 7 = .sl (cellsL eI r16.1) (List.length r16.1) false ∧ tm 8 = .lit (.int .i64 r16.2.1) ∧ tm 9 = .lit (.int .i64 r16.2.2) ∧ tm 39 = .lit (.bool false) ∧ tm 42 = .lit (.bool r51) ∧ True) (by refine ⟨e37, e38, e39, e40, e41, e42, ?_, ?_, trivial⟩ <;> first | (simp only [ua, d14, d15, d31, e37, e38, e39, e40, e41, e42, e43, e44, d45, nm, seval] <;> rfl) | rfl) ?_
  rintro tm ⟨e53, e54, e55, e56, e57, e58, e59, e60, _⟩
  cases d61 : (r51)
  ·simp only [d61, hs] at h
   cases d62 : (r16.2.2 == 2)
   ·simp only [d62, hs] at h
    try simp only [vz, tyf, d14, d15, d31, d45, e53, e54, e55, e56, e57, e58, e59, e60, d61, d62, nm, seval]
    obtain rfl := kF _ h
    exact zae Tryz.results11 rfl
   simp only [d62, hs] at h
   cases d63 : ((List.length r16.1 : Int) == 0)
   ·simp only [d63, hs] at h
    have b64 := And.intro d14 (And.intro d15 (And.intro d31 (And.intro d45 (And.intro d61 (And.intro d62 d63)))))
    try simp only [vz, tyf, b64, e53, e54, e55, e56, e57, e58, e59, e60, nm, seval]
    obtain rfl := kF _ h
    exact zae Tryz.results11 rfl
   simp only [d63, hs] at h
   have b65 := And.intro d14 (And.intro d15 (And.intro d31 (And.intro d45 (And.intro d61 (And.intro d62 d63)))))
   cases d66 : (r16.2.1 == 0)
   ·simp only [d66, hs] at h
    try simp only [vz, tyf, b65, e53, e54, e55, e56, e57, e58, e59, e60, d66, nm, seval]
    obtain rfl := kF _ h
    exact zae Tryz.results11 rfl
   simp only [d66, hs] at h
   simp only [vz, tyf, b65, e53, e54, e55, e56, e57, e58, e59, e60, d66, nm, seval]
   refine ktree0 zcx ?_
   try simp only [vz, tyf, b65, e53, e54, e55, e56, e57, e58, e59, e60, d66, nm, seval]
   obtain rfl := kF _ h
   exact zae Tryz.results11 rfl
  simp only [d61, hs] at h
  rcases o68 : (zej x0_s x1_a1 x2_a2) with _ | r67
  ·simp only [o68, hs] at h
   exact absurd h kN
  simp only [o68, hs] at h
  simp only [vz, tyf, d14, d15, d31, d45, e53, e54, e55, e56, e57, e58, e59, e60, d61, nm, seval]
  refine ktree (args0 := [.agg (cGCoatSheet x0_s), .sl (cellsL eI x1_a1) (List.length x1_a1) false, .lit (.int .i64 x2_a2)]) (by first | (simp only [nrm, tynrm] <;> rfl) | rfl) (by simp only [tre, tytre, Bool.and_self]) (zor _ _ _ _ o68) ?_
  refine zam (fun tm => tm 7 = .sl (cellsL eI r16.1) (List.length r16.1) false ∧ tm 8 = .lit (.int .i64 r16.2.1) ∧ tm 9 = .lit (.int .i64 r16.2.2) ∧ tm 63 = .tup [.sl (cellsL eI r67.1) (List.length r67.1) false, .lit (.int .i64 r67.2.1), .lit (.bool r67.2.2)] ∧ True) (by refine ⟨e56, e57, e58, ?_, trivial⟩ <;> first | (simp only [ua, d14, d15, d31, d45, e53, e54, e55, e56, e57, e58, e59, e60, d61, nm, seval] <;> rfl) | rfl) ?_
  rintro tm ⟨e69, e70, e71, e72, _⟩
  cases d73 : (r67.2.2)
  ·simp only [d73, hs] at h
   cases d74 : (r16.2.2 == 5)
   ·simp only [d74, hs] at h
    have b75 := And.intro d14 (And.intro d15 (And.intro d31 (And.intro d45 (And.intro d61 (And.intro d73 d74)))))
    try simp only [vz, tyf, b75, e69, e70, e71, e72, nm, seval]
    obtain rfl := kF _ h
    exact zae Tryz.results11 rfl
   simp only [d74, hs] at h
   have b76 := And.intro d14 (And.intro d15 (And.intro d31 (And.intro d45 (And.intro d61 (And.intro d73 d74)))))
   cases d77 : ((List.length r16.1 : Int) == 0)
   ·simp only [d77, hs] at h
    try simp only [vz, tyf, b76, e69, e70, e71, e72, d77, nm, seval]
    obtain rfl := kF _ h
    exact zae Tryz.results11 rfl
   simp only [d77, hs] at h
   cases d78 : (r16.2.1 == 0)
   ·simp only [d78, hs] at h
    try simp only [vz, tyf, b76, e69, e70, e71, e72, d77, d78, nm, seval]
    obtain rfl := kF _ h
    exact zae Tryz.results11 rfl
   simp only [d78, hs] at h
   simp only [vz, tyf, b76, e69, e70, e71, e72, d77, d78, nm, seval]
   refine ktree0 zcx ?_
   try simp only [vz, tyf, b76, e69, e70, e71, e72, d77, d78, nm, seval]
   obtain rfl := kF _ h
   exact zae Tryz.results11 rfl
  simp only [d73, hs] at h
  cases d79 : (r16.2.2 == 0)
  ·simp only [d79, hs] at h
   have b80 := And.intro d14 (And.intro d15 (And.intro d31 (And.intro d45 (And.intro d61 (And.intro d73 d79)))))
   try simp only [vz, tyf, b80, e69, e70, e71, e72, nm, seval]
   obtain rfl := kF _ h
   exact zae Tryz.results11 rfl
  simp only [d79, hs] at h
  have b81 := And.intro d14 (And.intro d15 (And.intro d31 (And.intro d45 (And.intro d61 (And.intro d73 d79)))))
  rcases o83 : (zfy r16.1 r67.1) with _ | r82
  ·simp only [o83, hs] at h
   exact absurd h kN
  simp only [o83, hs] at h
  simp only [vz, tyf, b81, e69, e70, e71, e72, nm, seval]
  refine ktree (args0 := [.sl (cellsL eI r16.1) (List.length r16.1) false, .sl (cellsL eI r67.1) (List.length r67.1) false]) (by first | (simp only [nrm, tynrm] <;> rfl) | rfl) (by simp only [tre, tytre, Bool.and_self]) (zou _ _ _ o83) ?_
  refine zam (fun tm => tm 8 = .lit (.int .i64 r16.2.1) ∧ tm 11 = .lit (.int .i64 r67.2.1) ∧ tm 85 = .lit (.bool true) ∧ tm 88 = .lit (.bool r82) ∧ True) (by refine ⟨e70, ?_, ?_, ?_, trivial⟩ <;> first | (simp only [ua, b81, e69, e70, e71, e72, nm, seval] <;> rfl) | rfl) ?_
  rintro tm ⟨e84, e85, e86, e87, _⟩
  cases d88 : (r82)
  ·simp only [d88, hs] at h
   try simp only [vz, tyf, b81, e84, e85, e86, e87, d88, nm, seval]
   obtain rfl := kF _ h
   exact zae Tryz.results11 rfl
  simp only [d88, hs] at h
  cases d89 : (r16.2.1 == r67.2.1)
  ·simp only [d89, hs] at h
   try simp only [vz, tyf, b81, e84, e85, e86, e87, d88, d89, nm, seval]
   obtain rfl := kF _ h
   exact zae Tryz.results11 rfl
  simp only [d89, hs] at h
  simp only [vz, tyf, b81, e84, e85, e86, e87, d88, d89, nm, seval]
  refine ktree0 zcx ?_
  try simp only [vz, tyf, b81, e84, e85, e86, e87, d88, d89, nm, seval]
  obtain rfl := kF _ h
  exact zae Tryz.results11 rfl
 simp only [d15, hs] at h
 simp only [vz, tyf, e10, e11, e12, e13, d14, d15, nm, seval]
 refine ktree0 zcx ?_
 try simp only [vz, tyf, e10, e11, e12, e13, d14, d15, nm, seval]
 obtain rfl := kF _ h
 exact zae Tryz.results11 rfl
end Go.V
end
section
namespace Go.V
open Go
theorem zpj {s : GCoatSheet} (h : lenOk s.Dry = true) (n : Int) : zes s n = some (dayB s.Dry.length n) := by
 have := zjp h
 unfold zes dayB
 rw [zjz, wrap_eq (by omega) (by omega)]
 rfl
theorem zajf {s : GCoatSheet} (hs : OkS s) (h1 : sheetB s = true) {p : List Int} (hp : lenOk p = true) (h2 : planB s p = true) {d : Int} (hd : dayB s.Dry.length d = true) :
  (zdw s p d = some ([], 0, 5) ∧ ∀ q, planB s q = true → sureB s.Dry s.Coats q = true → keepB d p q = false) ∨
  (∃ q, zdw s p d = some (q, (chN p q : Int), 0) ∧ planB s q = true ∧ sureB s.Dry s.Coats q = true ∧ keepB d p q = true ∧
   ∀ x, planB s x = true → sureB s.Dry s.Coats x = true → keepB d p x = true → chN p q ≤ chN p x ∧ (chN p x = chN p q → x = q ∨ lexL q x)) := by
 have hS := ShOk.of h1
 have hc := hS.c
 have hvp := VP.of h1 h2
 obtain ⟨L, hP, _⟩ := zamm hs h1
 have hlen : ∀ q ∈ L, q.length = s.Coats.length := fun q hq => (VP.of h1 ((hP.mem q).1 hq).1).l
 have hk : zcr (sumsOf s) p d = some (L.filter (keepB d p)) := by
  unfold zcr
  rw [hP.it, Option.bind_some]
  refine zsg L fun q hq => ?_
  unfold zbv
  rw [zakl hp (by rw [hvp.l, hlen q hq])]
  rfl
 have hmem : ∀ x, x ∈ L.filter (keepB d p) ↔ (planB s x = true ∧ sureB s.Dry s.Coats x = true) ∧ keepB d p x = true := fun x => by rw [List.mem_filter, hP.mem]
 have e0 : ∀ r, bestO (fun a b => zde a b p) (L.filter (keepB d p)) ([], false) = some r → zdw s p d = cond r.2 (Option.bind (zby p r.1) fun n => some (r.1, n, 0)) (some ([], 0, 5)) := by
  intro r hr
  unfold zdw
  rw [znf hs, h1, zwe hs hp, h2, zpj hs.d, hd, zwj hS.dk]
  simp only [Option.bind_some, cond_true, hk, hr]
 cases hM : L.filter (keepB d p) with
 | nil =>
  left
  refine ⟨(e0 ([], false) (by rw [hM]; rfl)), fun q hq1 hq2 => ?_⟩
  cases hh : keepB d p q with
  | false => rfl
  | true =>
   have := (hmem q).2 ⟨⟨hq1, hq2⟩, hh⟩
   rw [hM] at this
   cases this
 | cons y M =>
  right
  have hb : ∀ a, a ∈ y :: M → ∀ c, c ∈ y :: M → (fun a b => zde a b p) a c = some (decide ((chN p a : Int) < (chN p c : Int))) := by
   intro a ha c hcc
   rw [← hM] at ha hcc
   have la := hlen a (List.mem_filter.1 ha).1
   have lc := hlen c (List.mem_filter.1 hcc).1
   show zde a c p = _
   unfold zde
   rw [zno (by rw [hvp.l]; omega) (by rw [hvp.l, la]), zno (by rw [hvp.l]; omega) (by rw [hvp.l, lc])]
   rfl
  have hpw : (y :: M).Pairwise lexL := by rw [← hM]; exact hP.pw.filter _
  obtain ⟨q, hq, hqm, hqx⟩ := zsc (f := fun x => (chN p x : Int)) hb hpw
  rw [← hM] at hqm
  have hq2 := (hmem q).1 hqm
  refine ⟨q, ?_, hq2.1.1, hq2.1.2, hq2.2, fun x hx1 hx2 hx3 => ?_⟩
  ·rw [e0 (q, true) (by rw [hM]; exact hq), cond_true, zno (by rw [hvp.l]; omega) (by rw [hvp.l, hlen q (List.mem_filter.1 hqm).1])]
   rfl
  ·have := hqx x (by rw [← hM]; exact (hmem x).2 ⟨⟨hx1, hx2⟩, hx3⟩)
   exact ⟨by omega, fun hh => this.2 (by omega)⟩
theorem zrh (s : GCoatSheet) (p : List Int) (d : Int) (h : lenOk s.Dry = true ∧ lenOk s.Work = true ∧ lenOk s.Coats = true) (hp : lenOk p = true) : zex s p d = some true := by
 have hs : OkS s := ⟨h.1, h.2.1, h.2.2⟩
 unfold zex
 obtain ⟨b, hb⟩ := zagr s
 rw [hb, zafi hs, zakp hs hp, zakc s hs.d]
 simp only [Option.bind_some]
 cases b with
 | false => rfl
 | true =>
 simp only [cond_true]
 cases decide ((p.length : Int) > 7) with
 | true => rfl
 | false =>
 have bad : (sheetB s && (planB s p && dayB s.Dry.length d)) = false → zdw s p d = some ([], 0, 2) := by
  intro hbad
  unfold zdw
  rw [znf hs, zwe hs hp, zpj hs.d]
  simp only [Option.bind_some]
  cases h1 : sheetB s with
  | false => rfl
  | true =>
  cases h2 : planB s p with
  | false => rfl
  | true =>
  cases h3 : dayB s.Dry.length d with
  | false => rfl
  | true => rw [h1, h2, h3] at hbad; cases hbad
 cases h1 : sheetB s with
 | false => rw [bad (by rw [h1]; rfl)]; rfl
 | true =>
 cases h2 : planB s p with
 | false => rw [bad (by rw [h1, h2]; rfl)]; rfl
 | true =>
 cases h3 : dayB s.Dry.length d with
 | false => rw [bad (by rw [h1, h2, h3]; rfl)]; rfl
 | true =>
 have hS := ShOk.of h1
 rcases zajf hs h1 hp h2 h3 with ⟨e1, hn⟩ | ⟨q, e1, q1, q2, q3, q4⟩
 ·rcases zadt hS h2 d with ⟨e2, _⟩ | ⟨x, e2, x1, x2, x3, _⟩
  ·rw [e1, e2]
   rfl
  ·rw [hn x x1 x2] at x3
   cases x3
 ·rcases zadt hS h2 d with ⟨e2, hn⟩ | ⟨x, e2, x1, x2, x3, x4⟩
  ·rw [hn q q1 q2] at q3
   cases q3
  ·have a1 := q4 x x1 x2 x3
   have a2 := x4 q q1 q2 q3
   have he : chN p x = chN p q := by omega
   have hx : x = q := by
    rcases a1.2 he with hh | hh
    ·exact hh
    ·rcases a2.2 he.symm with hh2 | hh2
     ·exact hh2.symm
     ·exact absurd (zog hh hh2) zpm
   subst hx
   have hv := VP.of h1 x1
   rw [e1, e2]
   simp only [Option.bind_some, cond_true, cond_false]
   rw [same_eq x x hv.pl]
   simp
end Go.V
end
