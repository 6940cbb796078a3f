/- Part of a proof. -/
import Derived.Test.YtekhjalgmlflpaaGreatDoorYbk
set_option linter.all false
set_option maxRecDepth 4000
set_option maxHeartbeats 40000000
section
namespace Go.V
open Go Go.Proofs
def zec (x0_s : Gs) : Option (Bool) := Option.bind (zgk x0_s) (fun r1 => cond (r1) (Option.bind (zez x0_s) (fun r2 => Option.bind (zfj x0_s) (fun r3 => cond (r3) (Option.bind (zfi x0_s) (fun r4 => cond (r4.2) (cond (r2.2 == 0) (cond (r2.1.a0 == r4.1.a0 && (r2.1.a1 == r4.1.a1 && (r2.1.a2 == r4.1.a2))) (some true) (some false)) (some false)) (cond (r2.2 == 5) (cond (r2.1.a0 == 0 && (r2.1.a1 == 0 && (r2.1.a2 == 0))) (some true) (some false)) (some false)))) (cond (r2.2 == 2) (cond (r2.1.a0 == 0 && (r2.1.a1 == 0 && (r2.1.a2 == 0))) (some true) (some false)) (some false))))) (some true))
theorem ziz (x0_s : Gs) (R : Bool) (h : zec x0_s = some R) : VPure Tryz.prog G0 9 [.agg (cGs x0_s)] (.tree (.lit (.bool R))) := by
 refine VPure.runR mixed Tryz.call9 Tryz.func9 rfl (by simp [Tryz.ntmps9]; kernel_rfl) ?_
 obtain ⟨KF, h, kF, kN⟩ := zan h
 simp only [zec] at h
 obtain ⟨r5, o6, h⟩ := optI h kN
 try simp only [hs] at h
 simp only [vz, tyf, nm, seval]
 refine ktA (zmv _ _ o6) ?_
 refine zaf (fun tm => tm 1 = .ptr 0 0 ∧ tm 8 = .lit (.bool r5) ∧ True) (by refine ⟨?_, ?_, trivial⟩ <;> first | (simp only [ua, nm, seval] <;> rfl) | rfl) ?_
 rintro tm ⟨e7, e8, _⟩
 cases d9 : (r5)
 ·simp only [d9, hs] at h
  simp only [vz, tyf, e7, e8, d9, nm, seval]
  refine ktree0 zew ?_
  try simp only [vz, tyf, e7, e8, d9, nm, seval]
  obtain rfl := kF _ h
  exact zaj Tryz.results9 rfl
 simp only [d9, hs] at h
 obtain ⟨r10, o11, h⟩ := optI h kN
 try simp only [hs] at h
 simp only [vz, tyf, e7, e8, d9, nm, seval]
 refine ktA (zjb _ _ o11) ?_
 refine zaf (fun tm => tm 1 = .ptr 0 0 ∧ tm 13 = .tup [.agg (cGi r10.1), .lit (.int .i64 r10.2)] ∧ True) (by refine ⟨e7, ?_, trivial⟩ <;> first | (simp only [ua, e7, e8, d9, nm, seval] <;> rfl) | rfl) ?_
 rintro tm ⟨e12, e13, _⟩
 obtain ⟨r14, o15, h⟩ := optI h kN
 try simp only [hs] at h
 simp only [vz, tyf, d9, e12, e13, nm, seval]
 refine ktA (zmh _ _ o15) ?_
 refine zaf (fun tm => tm 1 = .ptr 0 0 ∧ tm 3 = .ptr 10 0 ∧ tm 4 = .lit (.int .i64 r10.2) ∧ tm 17 = .lit (.bool r14) ∧ True) (by refine ⟨e12, ?_, ?_, ?_, trivial⟩ <;> first | (simp only [ua, d9, e12, e13, nm, seval] <;> rfl) | rfl) ?_
 rintro tm ⟨e16, e17, e18, e19, _⟩
 cases d20 : (r14)
 ·simp only [d20, hs] at h
  cases d21 : (r10.2 == 2)
  ·simp only [d21, hs] at h
   try simp only [vz, tyf, d9, e16, e17, e18, e19, d20, d21, nm, seval]
   obtain rfl := kF _ h
   exact zaj Tryz.results9 rfl
  simp only [d21, hs] at h
  cases d22 : (r10.1.a0 == 0 && (r10.1.a1 == 0 && (r10.1.a2 == 0)))
  ·simp only [d22, hs] at h
   try simp only [vz, tyf, d9, e16, e17, e18, e19, d20, d21, d22, nm, seval]
   obtain rfl := kF _ h
   exact zaj Tryz.results9 rfl
  simp only [d22, hs] at h
  simp only [vz, tyf, d9, e16, e17, e18, e19, d20, d21, d22, nm, seval]
  refine ktree0 zew ?_
  try simp only [vz, tyf, d9, e16, e17, e18, e19, d20, d21, d22, nm, seval]
  obtain rfl := kF _ h
  exact zaj Tryz.results9 rfl
 simp only [d20, hs] at h
 obtain ⟨r23, o24, h⟩ := optI h kN
 try simp only [hs] at h
 simp only [vz, tyf, d9, e16, e17, e18, e19, d20, nm, seval]
 refine ktA (znh _ _ o24) ?_
 refine zaf (fun tm => tm 3 = .ptr 10 0 ∧ tm 4 = .lit (.int .i64 r10.2) ∧ tm 31 = .tup [.agg (cGi r23.1), .lit (.bool r23.2)] ∧ True) (by refine ⟨e17, e18, ?_, trivial⟩ <;> first | (simp only [ua, d9, e16, e17, e18, e19, d20, nm, seval] <;> rfl) | rfl) ?_
 rintro tm ⟨e25, e26, e27, _⟩
 cases d28 : (r23.2)
 ·simp only [d28, hs] at h
  cases d29 : (r10.2 == 5)
  ·simp only [d29, hs] at h
   try simp only [vz, tyf, d9, d20, e25, e26, e27, d28, d29, nm, seval]
   obtain rfl := kF _ h
   exact zaj Tryz.results9 rfl
  simp only [d29, hs] at h
  cases d30 : (r10.1.a0 == 0 && (r10.1.a1 == 0 && (r10.1.a2 == 0)))
  ·simp only [d30, hs] at h
   try simp only [vz, tyf, d9, d20, e25, e26, e27, d28, d29, d30, nm, seval]
   obtain rfl := kF _ h
   exact zaj Tryz.results9 rfl
  simp only [d30, hs] at h
  simp only [vz, tyf, d9, d20, e25, e26, e27, d28, d29, d30, nm, seval]
  refine ktree0 zew ?_
  try simp only [vz, tyf, d9, d20, e25, e26, e27, d28, d29, d30, nm, seval]
  obtain rfl := kF _ h
  exact zaj Tryz.results9 rfl
 simp only [d28, hs] at h
 cases d31 : (r10.2 == 0)
 ·simp only [d31, hs] at h
  try simp only [vz, tyf, d9, d20, e25, e26, e27, d28, d31, nm, seval]
  obtain rfl := kF _ h
  exact zaj Tryz.results9 rfl
 simp only [d31, hs] at h
 cases d32 : (r10.1.a0 == r23.1.a0 && (r10.1.a1 == r23.1.a1 && (r10.1.a2 == r23.1.a2)))
 ·simp only [d32, hs] at h
  try simp only [vz, tyf, d9, d20, e25, e26, e27, d28, d31, d32, nm, seval]
  obtain rfl := kF _ h
  exact zaj Tryz.results9 rfl
 simp only [d32, hs] at h
 simp only [vz, tyf, d9, d20, e25, e26, e27, d28, d31, d32, nm, seval]
 refine ktree0 zew ?_
 try simp only [vz, tyf, d9, d20, e25, e26, e27, d28, d31, d32, nm, seval]
 obtain rfl := kF _ h
 exact zaj Tryz.results9 rfl
end Go.V
end
section
namespace Go.V
open Go
def dz (x y : Int) : Nat → Int → List Gi
 | 0, _ => []
 | k + 1, c => ⟨x, y, c⟩ :: dz x y k (c + 1)
def dy (x : Int) : Nat → Int → List Gi
 | 0, _ => []
 | k + 1, c => dz x c 5 (-2) ++ dy x k (c + 1)
def dx : Nat → Int → List Gi
 | 0, _ => []
 | k + 1, c => dy c 5 (-2) ++ dx k (c + 1)
theorem zank : zsi = some (dx 5 (-2)) := by kernel_rfl
def vLow (d : Gi) (c : Ga) : Int := match zak d c with
 | some v => v.Low
 | none => 0
def vHigh (d : Gi) (c : Ga) : Int := match zak d c with
 | some v => v.High
 | none => 0
theorem zamv (d : Gi) (c : Ga) : zak d c = some ⟨vLow d c, vHigh d c⟩ := by kernel_rfl
def dSize (d : Gi) : Int := match zbo d with
 | some v => v
 | none => 0
theorem zams (d : Gi) : zbo d = some (dSize d) := rfl
def partB (s : Gs) (d : Gi) (p : List Gt) : Bool := p.all fun t => !decide (IntKind.i64.wrap (vHigh d t.pg + IntKind.i64.wrap (s.Off * dSize d)) ≥ vLow d (aimS s))
theorem zamz (s : Gs) (d : Gi) : ∀ p, fdL s (aimS s) d p = some (partB s d p)
 | [] => rfl
 | t :: p => by
  simp only [fdL, zamv, zams, Option.bind_some, zamz s d p, partB, List.all_cons]
  cases decide (IntKind.i64.wrap (vHigh d t.pg + IntKind.i64.wrap (s.Off * dSize d)) ≥ vLow d (aimS s)) <;> rfl
theorem zzk (s : Gs) : ∀ L, fdirL s (aimS s) L = some (match L.find? fun d => partB s d s.Tins with
  | some d => (d, true)
  | none => (⟨0, 0, 0⟩, false))
 | [] => rfl
 | d :: L => by
  simp only [fdirL, zamz, Option.bind_some, zzk s L, List.find?_cons]
  cases partB s d s.Tins <;> rfl
theorem zagn (d : Gi) (c : Ga) : zgg d c = some (vHigh d c) := by kernel_rfl
def offS (s : Gs) (d : Gi) : Int := IntKind.i64.wrap (IntKind.i64.wrap (IntKind.i64.wrap (0 + IntKind.i64.wrap (s.Off * (if d.a0 < IntKind.i64.wrap (-d.a0) then IntKind.i64.wrap (-d.a0) else d.a0))) + IntKind.i64.wrap (s.Off * (if d.a1 < IntKind.i64.wrap (-d.a1) then IntKind.i64.wrap (-d.a1) else d.a1))) + IntKind.i64.wrap (s.Off * (if d.a2 < IntKind.i64.wrap (-d.a2) then IntKind.i64.wrap (-d.a2) else d.a2)))
theorem zadp (s : Gs) (d : Gi) (am : Ga) : zcb s d am 3 0 0 0 = some (.go (vLow d am, offS s d)) := by kernel_rfl
theorem size3 (a : Int) (h : -2 ≤ a ∧ a ≤ 2) : ∃ m : Int, (if a < IntKind.i64.wrap (-a) then IntKind.i64.wrap (-a) else a) = m ∧ (m = 0 ∨ m = 1 ∨ m = 2) := by
 rw [zgj (by omega) (by omega)]
 refine ⟨_, rfl, ?_⟩
 split <;> omega
theorem zaov {s : Gs} (hs : ShOk s) {d : Gi} (h0 : -2 ≤ d.a0 ∧ d.a0 ≤ 2) (h1 : -2 ≤ d.a1 ∧ d.a1 ≤ 2) (h2 : -2 ≤ d.a2 ∧ d.a2 ≤ 2) : offS s d = IntKind.i64.wrap (s.Off * dSize d) := by
 have ho := hs.off
 obtain ⟨m0, e0, k0⟩ := size3 d.a0 h0
 obtain ⟨m1, e1, k1⟩ := size3 d.a1 h1
 obtain ⟨m2, e2, k2⟩ := size3 d.a2 h2
 have hd : dSize d = m0 + m1 + m2 := by
  show IntKind.i64.wrap (IntKind.i64.wrap (IntKind.i64.wrap (0 + (if d.a0 < IntKind.i64.wrap (-d.a0) then IntKind.i64.wrap (-d.a0) else d.a0)) + (if d.a1 < IntKind.i64.wrap (-d.a1) then IntKind.i64.wrap (-d.a1) else d.a1)) + (if d.a2 < IntKind.i64.wrap (-d.a2) then IntKind.i64.wrap (-d.a2) else d.a2)) = _
  rw [e0, e1, e2, zgj (n := 0 + m0) (by omega) (by omega), zgj (n := 0 + m0 + m1) (by omega) (by omega), zgj (by omega) (by omega)]
  omega
 have hm : ∀ m : Int, (m = 0 ∨ m = 1 ∨ m = 2) → 0 ≤ s.Off * m ∧ s.Off * m ≤ 40 := fun m hm => by
  rcases hm with rfl | rfl | rfl <;> omega
 have a0 := hm m0 k0
 have a1 := hm m1 k1
 have a2 := hm m2 k2
 rw [hd]
 unfold offS
 rw [e0, e1, e2, zgj (n := s.Off * m0) (by omega) (by omega), zgj (n := s.Off * m1) (by omega) (by omega), zgj (n := s.Off * m2) (by omega) (by omega), zgj (n := 0 + s.Off * m0) (by omega) (by omega), zgj (n := 0 + s.Off * m0 + s.Off * m1) (by omega) (by omega)]
 rw [Int.mul_add, Int.mul_add, Int.zero_add]
theorem zvw (s : Gs) {d : Gi} (ho : offS s d = IntKind.i64.wrap (s.Off * dSize d)) : ∀ (p : List Gt) (c : Int), zco d (vLow d (aimS s), offS s d) p c = goB (partB s d p)
 | [], c => rfl
 | t :: p, c => by
  have ih := zvw s ho p (c + 1)
  rw [ho] at ih ⊢
  simp only [zco, zagn, Option.bind_some, ih]
  rw [show partB s d (t :: p) = (!decide (IntKind.i64.wrap (vHigh d t.pg + IntKind.i64.wrap (s.Off * dSize d)) ≥ vLow d (aimS s)) && partB s d p) from rfl]
  cases decide (IntKind.i64.wrap (vHigh d t.pg + IntKind.i64.wrap (s.Off * dSize d)) ≥ vLow d (aimS s)) <;> rfl
theorem zabo {s : Gs} (hs : ShOk s) (h : lenOk s.Tins = true) {d : Gi} (h0 : -2 ≤ d.a0 ∧ d.a0 ≤ 2) (h1 : -2 ≤ d.a1 ∧ d.a1 ≤ 2) (h2 : -2 ≤ d.a2 ∧ d.a2 ≤ 2) : zex s d = some (partB s d s.Tins) := by
 unfold zex
 rw [zajq hs, Option.bind_some, show Int.toNat (3 - 0) = 3 from rfl, zadp, h, show boundOk 3 = true from rfl]
 simp only [cond_true, lbind, zvw s (zaov hs h0 h1 h2)]
 cases partB s d s.Tins <;> rfl
def zB (d : Gi) : Bool := d.a0 == 0 && (d.a1 == 0 && (d.a2 == 0))
theorem zye {a : Int} (h : -2 ≤ a ∧ a ≤ 2) : inB (-2) 2 a = true := zop.2 h
theorem zaje {d : Gi} (h0 : -2 ≤ d.a0 ∧ d.a0 ≤ 2) (h1 : -2 ≤ d.a1 ∧ d.a1 ≤ 2) (h2 : -2 ≤ d.a2 ∧ d.a2 ≤ 2) : zgb d = some (!zB d) := by
 unfold zgb
 rw [show Int.toNat (3 - 0) = 3 from rfl, show boundOk 3 = true from rfl]
 simp only [zcw, zaik, zye h0, zye h1, zye h2, Option.bind_some, cond_true, cond_false, Int.reduceAdd, Int.reduceBEq, lbind]
 rfl
theorem zacm {s : Gs} (hs : ShOk s) {d : Gi} (hz : zB d = true) : partB s d s.Tins = false := by
 have hN := hs.n
 obtain ⟨x, y, z⟩ := d
 simp only [zB, Bool.and_eq_true, beq_iff_eq] at hz
 obtain ⟨rfl, rfl, rfl⟩ := hz
 cases ht : s.Tins with
 | nil => rw [ht] at hN; simp at hN
 | cons t p =>
  have hv : ∀ c : Ga, zak ⟨0, 0, 0⟩ c = some ⟨0, 0⟩ := fun c => by
   unfold zak
   simp only [Int.zero_mul]
   rfl
  have hl : vLow ⟨0, 0, 0⟩ (aimS s) = 0 := by unfold vLow; rw [hv]
  have hh : vHigh ⟨0, 0, 0⟩ t.pg = 0 := by unfold vHigh; rw [hv]
  have hz : dSize ⟨0, 0, 0⟩ = 0 := rfl
  simp only [partB, List.all_cons, hl, hh, hz, Int.mul_zero]
  rfl
def foundR (o : Option Gi) (c : Int) : LOut (Gi × Bool) Int := match o with
 | some d => .ret (d, true)
 | none => .go c
theorem zabt {s : Gs} (hs : ShOk s) (h : lenOk s.Tins = true) {x y : Int} (hx : -2 ≤ x ∧ x ≤ 2) (hy : -2 ≤ y ∧ y ≤ 2) : ∀ (k fuel : Nat) (c : Int), k < fuel → -2 ≤ c → c + k = 3 → zbu s x y fuel c = some (foundR ((dz x y k c).find? fun d => partB s d s.Tins) 3)
 | 0, fuel + 1, c, _, _, hc => by
  simp only [zbu]
  rw [decide_eq_false (by show ¬ c ≤ 2; omega), show c = 3 by omega]
  rfl
 | k + 1, fuel + 1, c, hf, h0, hc => by
  have ih := zabt hs h hx hy k fuel (c + 1) (by omega) (by omega) (by omega)
  simp only [zbu]
  rw [decide_eq_true (show c ≤ 2 by omega), zgj (by omega) (by omega), ih, zaje (d := ⟨x, y, c⟩) hx hy ⟨h0, by show c ≤ 2; omega⟩, zabo hs h (d := ⟨x, y, c⟩) hx hy ⟨h0, by show c ≤ 2; omega⟩]
  simp only [cond_true, Option.bind_some, dz, List.find?_cons]
  cases hz : zB ⟨x, y, c⟩ with
  | true => rw [zacm hs hz]; rfl
  | false => cases partB s ⟨x, y, c⟩ s.Tins <;> rfl
 | _, 0, _, hf, _, _ => by omega
theorem zaap {s : Gs} (hs : ShOk s) (h : lenOk s.Tins = true) {x : Int} (hx : -2 ≤ x ∧ x ≤ 2) : ∀ (k fuel : Nat) (c : Int), k < fuel → -2 ≤ c → c + k = 3 → zcm s x fuel c = some (foundR ((dy x k c).find? fun d => partB s d s.Tins) 3)
 | 0, fuel + 1, c, _, _, hc => by
  simp only [zcm]
  rw [decide_eq_false (by show ¬ c ≤ 2; omega), show c = 3 by omega]
  rfl
 | k + 1, fuel + 1, c, hf, h0, hc => by
  have ih := zaap hs h hx k fuel (c + 1) (by omega) (by omega) (by omega)
  simp only [zcm]
  rw [decide_eq_true (show c ≤ 2 by omega), zgj (by omega) (by omega), ih, zabt hs h hx ⟨h0, by omega⟩ 5 1000000 (-2) (by omega) (by omega) (by omega), dy, List.find?_append]
  cases (dz x c 5 (-2)).find? fun d => partB s d s.Tins <;> rfl
 | _, 0, _, hf, _, _ => by omega
theorem zyv {s : Gs} (hs : ShOk s) (h : lenOk s.Tins = true) : ∀ (k fuel : Nat) (c : Int), k < fuel → -2 ≤ c → c + k = 3 → zci s fuel c = some (foundR ((dx k c).find? fun d => partB s d s.Tins) 3)
 | 0, fuel + 1, c, _, _, hc => by
  simp only [zci]
  rw [decide_eq_false (by show ¬ c ≤ 2; omega), show c = 3 by omega]
  rfl
 | k + 1, fuel + 1, c, hf, h0, hc => by
  have ih := zyv hs h k fuel (c + 1) (by omega) (by omega) (by omega)
  simp only [zci]
  rw [decide_eq_true (show c ≤ 2 by omega), zgj (by omega) (by omega), ih, zaap hs h ⟨h0, by omega⟩ 5 1000000 (-2) (by omega) (by omega) (by omega), dx, List.find?_append]
  cases (dy c 5 (-2)).find? fun d => partB s d s.Tins <;> rfl
 | _, 0, _, hf, _, _ => by omega
def foundP (s : Gs) : Gi × Bool := match (dx 5 (-2)).find? fun d => partB s d s.Tins with
 | some d => (d, true)
 | none => (⟨0, 0, 0⟩, false)
theorem zaei {s : Gs} (hs : ShOk s) (h : lenOk s.Tins = true) : zfi s = some (foundP s) := by
 unfold zfi foundP
 rw [zyv hs h 5 1000000 (-2) (by omega) (by omega) (by omega)]
 cases (dx 5 (-2)).find? fun d => partB s d s.Tins <;> rfl
theorem zage {s : Gs} (h : lenOk s.Tins = true) : zez s = some (cond (sheetB s) ((foundP s).1, cond (foundP s).2 0 5) (⟨0, 0, 0⟩, 2)) := by
 unfold zez
 rw [zyw h, Option.bind_some]
 cases hb : sheetB s with
 | false => rfl
 | true =>
  unfold zcx
  rw [zaoy (ShOk.of hb), zank, h]
  simp only [cond_true, Option.bind_some, zzk]
  unfold foundP
  cases (dx 5 (-2)).find? fun d => partB s d s.Tins <;> rfl
theorem znr (s : Gs) (h : lenOk s.Tins = true) : zec s = some true := by
 unfold zec
 rw [show zgk s = some (decide ((List.length s.Tins : Int) ≤ 6)) from rfl, zage h, zado h]
 cases decide ((List.length s.Tins : Int) ≤ 6) with
 | false => rfl
 | true =>
 simp only [Option.bind_some, cond_true]
 cases hb : sheetB s with
 | false => rfl
 | true =>
  have hs := ShOk.of hb
  simp only [cond_true, zaei hs h, Option.bind_some]
  have hz : (foundP s).2 = false → (foundP s).1 = ⟨0, 0, 0⟩ := by
   unfold foundP
   cases (dx 5 (-2)).find? fun d => partB s d s.Tins with
   | none => intro _; rfl
   | some d => intro k; cases k
  cases h2 : (foundP s).2 with
  | true => simp
  | false => rw [hz h2]; rfl
end Go.V
end
