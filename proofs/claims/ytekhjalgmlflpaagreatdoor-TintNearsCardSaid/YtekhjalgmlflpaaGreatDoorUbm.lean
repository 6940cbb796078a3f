/- Part of a proof. -/
import Derived.Test.YtekhjalgmlflpaaGreatDoorUbl
set_option linter.all false
set_option maxRecDepth 4000
set_option maxHeartbeats 40000000
section
namespace Go.V
open Go Go.Proofs
def zcz (x0_s : Gs) : List (List Int) → Int → (List Int) → Option (LOut ((List Int) × Int) ((List Int)))
 | [], c0_6, c0_5 => some (.go c0_5)
 | e0 :: p0, c0_6, c0_5 => Option.bind (zdn x0_s e0) (fun r3 => Option.bind (zdn x0_s c0_5) (fun r4 => cond (decide (r3 < r4)) (zcz x0_s p0 (c0_6 + 1) e0) (zcz x0_s p0 (c0_6 + 1) c0_5)))
def zgm (x0_s : Gs) : Option ((List Int) × Int) := Option.bind (zhn x0_s) (fun r1 => Option.bind (getI r1 0) (fun x2 => cond (lenOk r1) (lbind (zcz x0_s r1 0 x2) (fun r7 => some r7) (fun c5 => Option.bind (zdn x0_s c5) (fun r6 => some (c5, r6))) (fun _ _ => none)) none))
theorem zos (x0_s : Gs) (R : (List Int) × Int) (h : zgm x0_s = some R) : VPure Tryz.prog G0 51 [.agg (cGs x0_s)] (.tree (.tup [.sl (cellsL eI R.1) (List.length R.1) false, .lit (.int .i64 R.2)])) := by
 refine VPure.runR mixed Tryz.call51 Tryz.func51 rfl (by simp [Tryz.ntmps51]; kernel_rfl) ?_
 obtain ⟨KF, h, kF, kN⟩ := zam h
 simp only [zgm] at h
 obtain ⟨r8, o9, h⟩ := optI h kN
 try simp only [hs] at h
 simp only [vz, tyf, nm, seval]
 refine ktA (zrj _ _ o9) ?_
 refine zae (fun tm => tm 1 = .ptr 0 0 ∧ tm 8 = .sl (cellsL (eSl eI) r8) (List.length r8) false ∧ True) (by refine ⟨?_, ?_, trivial⟩ <;> first | (simp only [ua, nm, seval] <;> rfl) | rfl) ?_
 rintro tm ⟨e10, e11, _⟩
 obtain ⟨x12, o13, h⟩ := optI h kN
 try simp only [hs] at h
 cases g15 : (lenOk r8)
 ·simp only [g15, hs] at h
  exact absurd h kN
 simp only [g15, hs] at h
 simp only [vz, tyf, e10, e11, (ix106 o13), g15, nm, seval]
 obtain ⟨K14, h, kR14, kG14, kB14, kN14⟩ := zbc h kN
 obtain ⟨f14, hf14, h⟩ := call3 h
 obtain ⟨I14, hI14⟩ : ∃ I : Nat → St → Prop, I = (fun m st => ∃ (p14 : List (List Int)) (c14_6 : Int) (c14_5 : List Int), m = List.length p14 ∧ 0 ≤ c14_6 ∧ List.drop (Int.toNat c14_6) r8 = p14 ∧ st.df = [] ∧ 11 ≤ st.nx ∧ st.H 0 = some (.cells (some 28) (cGs x0_s)) ∧ st.tm 1 = .ptr 0 0 ∧ st.tm 4 = .sl (cellsL (eSl eI) r8) (List.length r8) false ∧ st.tm 5 = .sl (cellsL eI c14_5) (List.length c14_5) false ∧ st.tm 6 = .lit (.int .i64 c14_6) ∧ K14 (f14 p14 c14_6 c14_5)) := ⟨_, rfl⟩
 refine loopK mixed (by kernel_rfl) I14 (List.length r8) (by rw [hI14]; refine ⟨r8, 0, x12, rfl, Int.le_refl _, rfl, rfl, (show 11 ≤ 11 by omega), ?_, e10, ?_, ?_, ?_, h⟩ <;> first | (simp only [ua, e10, e11, nm, seval] <;> rfl) | rfl) ?_
 rintro m ⟨tm, H, nx14, df⟩ hinv
 rw [hI14] at hinv
 obtain ⟨p14, c14_6, c14_5, rfl, hi14, hp14, hdf, hn14, H16, e17, e18, e19, e20, h⟩ := hinv
 simp only at hdf hn14 H16 e17 e18 e19 e20
 have n21 := zct (m := 11) (b := nx14) (by omega)
 subst hdf hf14
 cases p14 with
 | nil =>
  have d22 : (decide (c14_6 < (List.length r8 : Int))) = false := zau hi14 hp14
  simp only [zcz, hs, reduceCtorEq] at h
  replace h := kG14 _ h
  try dsimp only at h
  try simp only [hs] at h
  obtain ⟨r23, o24, h⟩ := optI h kN
  try simp only [hs] at h
  simp only [vz, tyf, (ix106 o13), g15, n21, e17, e18, e19, e20, H16, d22, nm, seval]
  refine ktA (zfs _ _ _ o24) ?_
  refine zae (fun tm => tm 32 = .sl (cellsL eI c14_5) (List.length c14_5) false ∧ tm 35 = .lit (.int .i64 r23) ∧ True) (by refine ⟨?_, ?_, trivial⟩ <;> first | (simp only [ua, n21, e17, e18, e19, e20, H16, d22, nm, seval] <;> rfl) | rfl) ?_
  rintro tm ⟨e25, e26, _⟩
  try simp only [vz, tyf, (ix106 o13), g15, n21, H16, d22, e25, e26, nm, seval]
  refine zap (x := (.tup [.sl (cellsL eI c14_5) (List.length c14_5) false, .lit (.int .i64 r23)])) (by first | (simp only [Tryz.results51, resV, resL, resV1, zat, zbs, uw, cr, tyf, (ix106 o13), g15, n21, H16, d22, nm, seval] <;> rfl) | rfl) ?_
  obtain rfl := kF _ h
  refine zas ?_ ?_
  ·simp only [tre, tytre, Bool.and_self]
  ·first | (simp only [outV, uw, zad, cr, tyf, nrm, tynrm, (ix106 o13), g15, n21, H16, d22, e25, e26, nm, seval] <;> rfl) | rfl
 | cons e14 p14 =>
  have d27 : (decide (c14_6 < (List.length r8 : Int))) = true := zbx hi14 hp14
  have o29 := zar hi14 hp14
  have w28 := zcs hi14 hp14 g15
  simp only [zcz, hs, reduceCtorEq] at h
  simp only [vz, tyf, (ix106 o13), g15, n21, e17, e18, e19, e20, H16, d27, (ix106 o29), w28, nm, seval]
  refine zfc (fun tm => tm 1 = .ptr 0 0 ∧ tm 4 = .sl (cellsL (eSl eI) r8) (List.length r8) false ∧ tm 5 = .sl (cellsL eI c14_5) (List.length c14_5) false ∧ tm 6 = .lit (.int .i64 c14_6) ∧ True) (by refine ⟨e17, e18, e19, e20, trivial⟩ <;> first | (simp only [ua, n21, e17, e18, e19, e20, H16, d27, w28, nm, seval] <;> rfl) | rfl) ?_
  rintro tm ⟨e30, e31, e32, e33, _⟩
  obtain ⟨r34, o35, h⟩ := optI h kN14
  try simp only [hs] at h
  simp only [vz, tyf, (ix106 o13), g15, n21, H16, d27, (ix106 o29), w28, e30, e31, e32, e33, nm, seval]
  refine dktA (zfs _ _ _ o35) ?_
  refine zae (fun tm => tm 1 = .ptr 0 0 ∧ tm 4 = .sl (cellsL (eSl eI) r8) (List.length r8) false ∧ tm 5 = .sl (cellsL eI c14_5) (List.length c14_5) false ∧ tm 6 = .lit (.int .i64 c14_6) ∧ tm 23 = .lit (.int .i64 r34) ∧ True) (by refine ⟨e30, e31, e32, e33, ?_, trivial⟩ <;> first | (simp only [ua, n21, H16, d27, w28, e30, e31, e32, e33, nm, seval] <;> rfl) | rfl) ?_
  rintro tm ⟨e36, e37, e38, e39, e40, _⟩
  obtain ⟨r41, o42, h⟩ := optI h kN14
  try simp only [hs] at h
  simp only [vz, tyf, (ix106 o13), g15, n21, H16, d27, (ix106 o29), w28, e36, e37, e38, e39, e40, nm, seval]
  refine dktA (zfs _ _ _ o42) ?_
  refine zae (fun tm => tm 1 = .ptr 0 0 ∧ tm 4 = .sl (cellsL (eSl eI) r8) (List.length r8) false ∧ tm 5 = .sl (cellsL eI c14_5) (List.length c14_5) false ∧ tm 6 = .lit (.int .i64 c14_6) ∧ tm 23 = .lit (.int .i64 r34) ∧ tm 26 = .lit (.int .i64 r41) ∧ True) (by refine ⟨e36, e37, e38, e39, e40, ?_, trivial⟩ <;> first | (simp only [ua, n21, H16, d27, w28, e36, e37, e38, e39, e40, nm, seval] <;> rfl) | rfl) ?_
  rintro tm ⟨e43, e44, e45, e46, e47, e48, _⟩
  cases d49 : (decide (r34 < r41))
  ·simp only [d49, hs] at h
   simp only [vz, tyf, (ix106 o13), g15, n21, H16, d27, (ix106 o29), w28, e43, e44, e45, e46, e47, e48, d49, nm, seval]
   exact ⟨List.length p14, Nat.lt_succ_self _, by rw [hI14]; refine ⟨p14, c14_6 + 1, c14_5, rfl, Int.le_trans hi14 (Int.le_add_one (Int.le_refl _)), zbe hi14 hp14, rfl, (show 11 ≤ nx14 + 17 by omega), ?_, e43, e44, e45, ?_, h⟩ <;> first | (simp only [ua, n21, H16, d27, w28, e43, e44, e45, e46, e47, e48, d49, nm, seval] <;> rfl) | rfl⟩
  simp only [d49, hs] at h
  simp only [vz, tyf, (ix106 o13), g15, n21, H16, d27, (ix106 o29), w28, e43, e44, e45, e46, e47, e48, d49, nm, seval]
  exact ⟨List.length p14, Nat.lt_succ_self _, by rw [hI14]; refine ⟨p14, c14_6 + 1, e14, rfl, Int.le_trans hi14 (Int.le_add_one (Int.le_refl _)), zbe hi14 hp14, rfl, (show 11 ≤ nx14 + 22 by omega), ?_, e43, e44, ?_, ?_, h⟩ <;> first | (simp only [ua, n21, H16, d27, w28, e43, e44, e45, e46, e47, e48, d49, nm, seval] <;> rfl) | rfl⟩
end Go.V
end
section
namespace Go.V
open Go
theorem zwx {β : Type} {f : Int → List β} {B : Nat} : ∀ (k : Nat) (c : Int), (∀ j, c ≤ j → j < c + k → (f j).length ≤ B) → (flatR f k c).length ≤ k * B
 | 0, c, _ => by simp [flatR]
 | k + 1, c, h => by
  have ih := zwx (f := f) (B := B) k (c + 1) (fun j h1 h2 => h j (by omega) (by omega))
  have h0 := h c (Int.le_refl _) (by omega)
  simp only [flatR, List.length_append, Nat.succ_mul]
  omega
theorem zqj {parts : Int} : ∀ (d : Nat) (l : List Int), sumL l ≤ parts → parts - sumL l ≤ 8 → (mixL parts (d + 1) l).length ≤ 9 ^ d
 | 0, l, _, _ => by simp [mixL]
 | d + 1, l, h, h8 => by
  have := zwx (f := fun j => mixL parts (d + 1) (l ++ [j])) (B := 9 ^ d) (parts - sumL l + 1).toNat 0 (fun j h1 h2 => zqj d _ (by rw [zfl, zff]; omega) (by rw [zfl, zff]; omega))
  rw [mixL]
  refine Nat.le_trans this ?_
  rw [Nat.pow_succ, Nat.mul_comm (9 ^ d)]
  exact Nat.mul_le_mul_right _ (by omega)
theorem zxh {parts : Int} : ∀ (d : Nat) (l : List Int), sumL l ≤ parts → neB (mixL parts (d + 1) l) = true
 | 0, l, _ => rfl
 | d + 1, l, h => by
  obtain ⟨k, hk⟩ : ∃ k, (parts - sumL l + 1).toNat = k + 1 := ⟨(parts - sumL l + 1).toNat - 1, by omega⟩
  have ih := zxh (parts := parts) d (l ++ [0]) (by rw [zfl, zff]; omega)
  rw [mixL, hk, flatR]
  revert ih
  cases mixL parts (d + 1) (l ++ [0]) with
  | nil => intro ih; cases ih
  | cons a x => intro _; rfl
theorem zpw {α : Type} {b : Nat} {l : List α} (hb : b ≤ 1000) (h : l.length ≤ 100000000) : roomOk b l.length = true := by
 unfold roomOk
 rw [decide_eq_true_eq]
 exact Nat.le_trans (Nat.mul_le_mul h hb) (by omega)
theorem zxe {rc : Gs → List Int → Int → Option (List (List Int))} {s : Gs} {now : List Int} {parts r1 : Int} {F : Int → List (List Int)} {B : Nat} (hB : B ≤ 1000) (hn : now.length ≤ 1000) (hd : parts - r1 ≤ 8) (hd0 : -1000 ≤ parts - r1) : ∀ (k fuel : Nat) (c : Int) (acc : List (List Int)), k < fuel → 0 ≤ c → c + k = parts - r1 + 1 → (∀ j, c ≤ j → j < c + k → rc s (now ++ [j]) parts = some (F j) ∧ neB (F j) = true ∧ (F j).length ≤ B) → acc.length + k * B ≤ 1000000 → zaw rc s now parts r1 fuel acc c = some (.go (acc ++ flatR F k c, c + k))
 | 0, fuel + 1, c, acc, _, h0, hc, _, _ => by
  simp only [zaw]
  rw [zdc (by omega) (by omega), decide_eq_false (by show ¬ c ≤ parts - r1; omega)]
  simp [flatR]
 | k + 1, fuel + 1, c, acc, hf, h0, hc, hr, hl => by
  obtain ⟨e1, e2, e3⟩ := hr c (Int.le_refl _) (by omega)
  rw [Nat.succ_mul] at hl
  have ih := zxe (rc := rc) (s := s) (now := now) (F := F) hB hn hd hd0 k fuel (c + 1) (acc ++ F c) (by omega) (by omega) (by omega) (fun j h1 h2 => hr j (by omega) (by omega)) (by simp only [List.length_append]; omega)
  have e6 : IntKind.i64.wrap (c + 1) = c + 1 := zdc (by omega) (by omega)
  have r1' : roomOk 24 (List.length (acc ++ F c)) = true := zpw (by omega) (by simp only [List.length_append]; omega)
  have r2' : roomOk 8 (List.length (now ++ [c])) = true := zpw (by omega) (by simp only [List.length_append, List.length_cons, List.length_nil]; omega)
  have r3' : roomOk 8 (List.length now) = true := zpw (by omega) (by omega)
  have e7 : c + 1 + (k : Int) = c + ((k + 1 : Nat) : Int) := by omega
  simp only [zaw, List.nil_append]
  rw [zdc (show -9223372036854775808 ≤ parts - r1 by omega) (by omega), decide_eq_true (show c ≤ parts - r1 by omega), e6]
  cases hne : neB now with
  | true =>
   simp only [cond_true, r2', r3', e1, Option.bind_some, e2, r1', ih, e7, flatR, List.append_assoc]
  | false =>
   have : now = [] := by
    cases now with
    | nil => rfl
    | cons a l => cases hne
   subst this
   simp only [List.nil_append] at e1 r2'
   simp only [cond_true, cond_false, r2', e1, Option.bind_some, e2, r1', ih, e7, flatR, List.append_assoc]
 | _, 0, _, _, hf, _, _, _, _ => by omega
theorem zxm {s : Gs} (hs : ShOk s) {parts : Int} (hp : 0 ≤ parts ∧ parts ≤ 8) : ∀ (d fuel : Nat) (now : List Int), d < fuel → now.length + (d + 1) = s.Tins.length → (∀ e ∈ now, 0 ≤ e ∧ e ≤ 8) → sumL now ≤ parts → zeb fuel s now parts = some (mixL parts (d + 1) now)
 | d, fuel + 1, now, hf, hn, hb, hsum => by
  have hN := hs.n
  have h0 := zyr hb
  have hw : IntKind.i64.wrap ((s.Tins.length : Int) - 1) = (s.Tins.length : Int) - 1 := zdc (by omega) (by omega)
  have hw2 : IntKind.i64.wrap (parts - sumL now) = parts - sumL now := zdc (by omega) (by omega)
  have r3' : roomOk 8 (List.length now) = true := zpw (by omega) (by omega)
  have r2' : roomOk 8 (List.length (now ++ [parts - sumL now])) = true := zpw (by omega) (by simp only [List.length_append, List.length_cons, List.length_nil]; omega)
  simp only [zeb, zfo]
  rw [zxo hb (by omega)]
  simp only [Option.bind_some, hw, hw2, List.nil_append]
  cases d with
  | zero =>
   rw [show ((now.length : Int) == (s.Tins.length : Int) - 1) = true by rw [beq_iff_eq]; omega]
   simp only [cond_true, r3', r2', mixL]
   cases hne : neB now with
   | true => rfl
   | false =>
    have : now = [] := by
     cases now with
     | nil => rfl
     | cons a l => cases hne
    subst this
    simp only [List.nil_append] at r2'
    simp only [cond_false, r2', cond_true, List.nil_append]
  | succ d =>
   rw [show ((now.length : Int) == (s.Tins.length : Int) - 1) = false by rw [beq_eq_false_iff_ne]; omega]
   simp only [cond_false]
   have h9 : 9 ^ d ≤ 1000 := by
    have : d ≤ 3 := by omega
    match d, this with
    | 0, _ => omega
    | 1, _ => omega
    | 2, _ => omega
    | 3, _ => omega
   have hL := zxe (rc := zeb fuel) (s := s) (now := now) (parts := parts) (r1 := sumL now) (F := fun j => mixL parts (d + 1) (now ++ [j])) (B := 9 ^ d) h9 (by omega) (by omega) (by omega) (parts - sumL now + 1).toNat 1000000 0 [] (by omega) (Int.le_refl _) (by omega) (fun j h1 h2 => by
    refine ⟨zxm hs hp d fuel (now ++ [j]) (by omega) (by simp only [List.length_append, List.length_cons, List.length_nil]; omega) (fun e he => ?_) (by rw [zfl, zff]; omega), zxh d _ (by rw [zfl, zff]; omega), zqj d _ (by rw [zfl, zff]; omega) (by rw [zfl, zff]; omega)⟩
    rcases List.mem_append.1 he with he | he
    ·exact hb e he
    ·rw [List.mem_singleton] at he
     omega) (by
    have h10 : (parts - sumL now + 1).toNat ≤ 9 := by omega
    have := Nat.mul_le_mul h10 h9
    simp only [List.length_nil]
    omega)
   rw [hL]
   simp only [lbind, List.nil_append, mixL]
 | _, 0, _, hf, _, _, _ => by omega
theorem zaip {s : Gs} (hs : ShOk s) : ∀ (k : Nat) (c : Int), 0 ≤ c → c + k ≤ 9 → (allR s.Tins.length k c).length ≤ k * 729
 | 0, c, _, _ => by simp [allR]
 | k + 1, c, h0, h => by
  have ih := zaip hs k (c + 1) (by omega) (by omega)
  have hN := hs.n
  obtain ⟨d, hd⟩ : ∃ d, s.Tins.length = d + 1 := ⟨s.Tins.length - 1, by omega⟩
  have h1 := zqj (parts := c) d [] (by simp only [sumL]; omega) (by simp only [sumL]; omega)
  have h9 : 9 ^ d ≤ 729 := by
   have : d ≤ 3 := by omega
   match d, this with
   | 0, _ => omega
   | 1, _ => omega
   | 2, _ => omega
   | 3, _ => omega
  simp only [allR, List.length_append, Nat.succ_mul]
  rw [hd] at ih ⊢
  omega
theorem zaic {s : Gs} (hs : ShOk s) : ∀ (k fuel : Nat) (c : Int) (acc : List (List Int)), k < fuel → 0 ≤ c → c + k = 9 → acc.length + k * 729 ≤ 100000 → zck s fuel acc c = some (.go (acc ++ allR s.Tins.length k c, c + k))
 | 0, fuel + 1, c, acc, _, h0, hc, _ => by
  simp only [zck]
  rw [decide_eq_false (by show ¬ c ≤ 8; omega)]
  simp [allR]
 | k + 1, fuel + 1, c, acc, hf, h0, hc, hl => by
  have hN := hs.n
  obtain ⟨d, hd⟩ : ∃ d, s.Tins.length = d + 1 := ⟨s.Tins.length - 1, by omega⟩
  have h1 := zqj (parts := c) d [] (by simp only [sumL]; omega) (by simp only [sumL]; omega)
  have h9 : 9 ^ d ≤ 729 := by
   have : d ≤ 3 := by omega
   match d, this with
   | 0, _ => omega
   | 1, _ => omega
   | 2, _ => omega
   | 3, _ => omega
  rw [Nat.succ_mul] at hl
  have hlen : (acc ++ mixL c (d + 1) []).length + k * 729 ≤ 100000 := by simp only [List.length_append]; omega
  have ih := zaic hs k fuel (c + 1) (acc ++ mixL c (d + 1) []) (by omega) (by omega) (by omega) hlen
  have e6 : IntKind.i64.wrap (c + 1) = c + 1 := zdc (by omega) (by omega)
  have r1' : roomOk 24 (List.length (acc ++ mixL c (d + 1) [])) = true := zpw (by omega) (by omega)
  have hr : zig s [] c = some (mixL c (d + 1) []) := zxm hs ⟨h0, by omega⟩ d 16 [] (by omega) (by simp only [List.length_nil]; omega) (fun e he => by cases he) (by simp only [sumL]; omega)
  have hne := zxh (parts := c) d [] (by simp only [sumL]; omega)
  simp only [zck]
  rw [decide_eq_true (show c ≤ 8 by omega), hr, e6]
  simp only [cond_true, Option.bind_some, hne, r1', ih, allR, hd, List.append_assoc]
  rw [show c + 1 + (k : Int) = c + ((k + 1 : Nat) : Int) by omega]
 | _, 0, _, _, hf, _, _, _ => by omega
theorem zapq {s : Gs} (hs : ShOk s) : zhn s = some (allL s) := by
 unfold zhn
 rw [zaic hs 8 1000000 1 [] (by omega) (by omega) (by omega) (by simp only [List.length_nil]; omega)]
 simp only [lbind, List.nil_append]
 rfl
theorem zalr {s : Gs} (hs : ShOk s) : (allL s).length ≤ 5832 := zaip hs 8 1 (by omega) (by omega)
theorem zabr {s : Gs} (hs : ShOk s) : lenOk (allL s) = true := by
 have := zalr hs
 unfold lenOk
 rw [decide_eq_true_eq]
 omega
theorem zadc {n : Nat} {q : List Int} : ∀ (k : Nat) (c : Int), q ∈ allR n k c ↔ ∃ j : Int, c ≤ j ∧ j < c + k ∧ q ∈ mixL j n []
 | 0, c => by
  simp only [allR, List.not_mem_nil, false_iff]
  rintro ⟨j, h1, h2, _⟩
  omega
 | k + 1, c => by
  simp only [allR, List.mem_append, zadc k (c + 1)]
  constructor
  ·rintro (h | ⟨j, h1, h2, h3⟩)
   ·exact ⟨c, by omega, by omega, h⟩
   ·exact ⟨j, by omega, by omega, h3⟩
  ·rintro ⟨j, h1, h2, h3⟩
   by_cases e : j = c
   ·subst e; exact .inl h3
   ·exact .inr ⟨j, by omega, by omega, h3⟩
theorem zru : ∀ {l : List Int}, (∀ e ∈ l, 0 ≤ e) → ∀ e ∈ l, e ≤ sumL l
 | a :: l, h, e, he => by
  have h1 := h a (List.mem_cons_self ..)
  have h2 := zvr (l := l) fun x hx => h x (List.mem_cons_of_mem _ hx)
  rw [sumL]
  rcases List.mem_cons.1 he with rfl | he
  ·omega
  ·have := zru (l := l) (fun x hx => h x (List.mem_cons_of_mem _ hx)) e he
   omega
theorem zvm {s : Gs} (hs : ShOk s) {q : List Int} : q ∈ allL s ↔ MixOk s q := by
 have hN := hs.n
 obtain ⟨d, hd⟩ : ∃ d, s.Tins.length = d + 1 := ⟨s.Tins.length - 1, by omega⟩
 unfold allL
 rw [zadc]
 constructor
 ·rintro ⟨j, h1, h2, h3⟩
  rw [hd] at h3
  obtain ⟨t, hq, ht, h4, h5⟩ := (zrs d [] q (by simp only [sumL]; omega)).1 h3
  rw [List.nil_append] at hq
  subst hq
  simp only [sumL] at h5
  refine ⟨by omega, fun e he => ?_, by omega⟩
  have := zru h4 e he
  have := h4 e he
  omega
 ·intro h
  have h1 := h.n; have h2 := h.b; have h3 := h.s
  refine ⟨sumL q, by omega, by omega, ?_⟩
  rw [hd]
  exact (zrs d [] q (by simp only [sumL]; omega)).2 ⟨q, rfl, by omega, fun e he => (h2 e he).1, by simp only [sumL]; omega⟩
end Go.V
end
section
namespace Go.V
open Go Go.Proofs

theorem hmix : Tryz.prog.follows .mixedOrders = true := by kernel_rfl
def kA : VV := (VV.agg [(.lit (.int .i64 (.ofNat 60))), (.lit (.int .i64 (.ofNat 40))), (.lit (.int .i64 (.ofNat 20))), (.lit (.int .i64 (.ofNat 1))), (.lit (.int .i64 (.ofNat 2))), (.lit (.int .i64 (.ofNat 1))), (.lit (.int .i64 (.ofNat 1))), (.lit (.int .i64 (.ofNat 0))), (.lit (.int .i64 (.ofNat 0))), (.lit (.int .i64 (.ofNat 5))), (.lit (.int .i64 (.ofNat 5))), (.lit (.int .i64 (.ofNat 5))), (VV.sl [(.lit (.int .i64 (.ofNat 80))), (.lit (.int .i64 (.ofNat 82))), (.lit (.int .i64 (.ofNat 20))), (.lit (.int .i64 (.ofNat 20))), (.lit (.int .i64 (.ofNat 0))), (.lit (.int .i64 (.ofNat 2))), (.lit (.int .i64 (.ofNat 20))), (.lit (.int .i64 (.ofNat 22))), (.lit (.int .i64 (.ofNat 60))), (.lit (.int .i64 (.ofNat 60))), (.lit (.int .i64 (.ofNat 40))), (.lit (.int .i64 (.ofNat 40))), (.lit (.int .i64 (.ofNat 50))), (.lit (.int .i64 (.ofNat 50))), (.lit (.int .i64 (.ofNat 10))), (.lit (.int .i64 (.ofNat 12))), (.lit (.int .i64 (.ofNat 30))), (.lit (.int .i64 (.ofNat 30)))] 3 Bool.false)])
def kB : VV := (VV.agg [(.lit (.int .i64 (.ofNat 60))), (.lit (.int .i64 (.ofNat 40))), (.lit (.int .i64 (.ofNat 20))), (.lit (.int .i64 (.ofNat 1))), (.lit (.int .i64 (.ofNat 2))), (.lit (.int .i64 (.ofNat 1))), (.lit (.int .i64 (.ofNat 1))), (.lit (.int .i64 (.ofNat 0))), (.lit (.int .i64 (.ofNat 0))), (.lit (.int .i64 (.ofNat 5))), (.lit (.int .i64 (.ofNat 5))), (.lit (.int .i64 (.ofNat 5))), (VV.sl [(.lit (.int .i64 (.ofNat 20))), (.lit (.int .i64 (.ofNat 22))), (.lit (.int .i64 (.ofNat 60))), (.lit (.int .i64 (.ofNat 60))), (.lit (.int .i64 (.ofNat 40))), (.lit (.int .i64 (.ofNat 40))), (.lit (.int .i64 (.ofNat 50))), (.lit (.int .i64 (.ofNat 50))), (.lit (.int .i64 (.ofNat 10))), (.lit (.int .i64 (.ofNat 12))), (.lit (.int .i64 (.ofNat 30))), (.lit (.int .i64 (.ofNat 30)))] 2 Bool.false)])
def kD : VV := (VV.agg [(.lit (.int .i64 (.ofNat 60))), (.lit (.int .i64 (.ofNat 40))), (.lit (.int .i64 (.ofNat 20))), (.lit (.int .i64 (.ofNat 1))), (.lit (.int .i64 (.ofNat 2))), (.lit (.int .i64 (.ofNat 1))), (.lit (.int .i64 (.ofNat 1))), (.lit (.int .i64 (.ofNat 0))), (.lit (.int .i64 (.ofNat 0))), (.lit (.int .i64 (.ofNat 2))), (.lit (.int .i64 (.ofNat 9))), (.lit (.int .i64 (.ofNat 5))), (VV.sl [(.lit (.int .i64 (.ofNat 80))), (.lit (.int .i64 (.ofNat 82))), (.lit (.int .i64 (.ofNat 20))), (.lit (.int .i64 (.ofNat 20))), (.lit (.int .i64 (.ofNat 0))), (.lit (.int .i64 (.ofNat 2))), (.lit (.int .i64 (.ofNat 20))), (.lit (.int .i64 (.ofNat 22))), (.lit (.int .i64 (.ofNat 60))), (.lit (.int .i64 (.ofNat 60))), (.lit (.int .i64 (.ofNat 40))), (.lit (.int .i64 (.ofNat 40))), (.lit (.int .i64 (.ofNat 50))), (.lit (.int .i64 (.ofNat 50))), (.lit (.int .i64 (.ofNat 10))), (.lit (.int .i64 (.ofNat 12))), (.lit (.int .i64 (.ofNat 30))), (.lit (.int .i64 (.ofNat 30)))] 3 Bool.false)])
def kAim : VV := (VV.tup [(VV.agg [(.lit (.int .i64 (.ofNat 42))), (.lit (.int .i64 (.ofNat 58))), (.lit (.int .i64 (.ofNat 31))), (.lit (.int .i64 (.ofNat 38))), (.lit (.int .i64 (.ofNat 20))), (.lit (.int .i64 (.ofNat 20)))]), (.lit (.int .i64 (.ofNat 0)))])
def kSums : VV := (VV.tup [(VV.agg [(.lit (.int .i64 (.ofNat 100))), (.lit (.int .i64 (.ofNat 104))), (.lit (.int .i64 (.ofNat 80))), (.lit (.int .i64 (.ofNat 80))), (.lit (.int .i64 (.ofNat 40))), (.lit (.int .i64 (.ofNat 42)))]), (.lit (.int .i64 (.ofNat 0)))])
def kTrue : VV := (VV.tup [(VV.lit (Value.bool Bool.true)), (.lit (.int .i64 (.ofNat 0)))])
def kWord : VV := (VV.tup [(.lit (.int .i64 (.ofNat 2))), (.lit (.int .i64 (.ofNat 0)))])
def kYears : VV := (VV.tup [(VV.agg [(.lit (.int .i64 (.ofNat 2))), (.lit (.int .i64 (.ofNat 5)))]), (.lit (.int .i64 (.ofNat 0)))])
def kRead : VV := (VV.tup [(VV.agg [(.lit (.int .i64 (.ofNat 1))), (.lit (.int .i64 (.ofNat 2))), (.lit (.int .i64 (.ofNat 3))), (.lit (.int .i64 (.ofNat 0))), (.lit (.int .i64 (.ofNat 0))), (.lit (.int .i64 (.ofNat 0))), (.lit (.int .i64 (.ofNat 0))), (.lit (.int .i64 (.ofNat 0))), (.lit (.int .i64 (.ofNat 0))), (.lit (.int .i64 (.ofNat 0))), (.lit (.int .i64 (.ofNat 0))), (.lit (.int .i64 (.ofNat 1))), (VV.sl [(.lit (.int .i64 (.ofNat 1))), (.lit (.int .i64 (.ofNat 1))), (.lit (.int .i64 (.ofNat 2))), (.lit (.int .i64 (.ofNat 2))), (.lit (.int .i64 (.ofNat 3))), (.lit (.int .i64 (.ofNat 3)))] 1 Bool.false)]), (.lit (.int .i64 (.ofNat 0)))])
def kCount : VV := .tup [.lit (.int .i64 9), .lit (.int .i64 0)]
def kNear : VV := .tup [.sl [.lit (.int .i64 1), .lit (.int .i64 1), .lit (.int .i64 0)] 3 false, .lit (.int .i64 5), .lit (.int .i64 0)]
def kNeeds : VV := .tup [.sl [.lit (.int .i64 0), .lit (.int .i64 1)] 2 false, .lit (.int .i64 0)]
def kProof : VV := .tup [.agg [.lit (.int .i64 0), .lit (.int .i64 0), .lit (.int .i64 (-2))], .lit (.int .i64 0)]
def kFirst : VV := .tup [.sl [.lit (.int .i64 1), .lit (.int .i64 1), .lit (.int .i64 0)] 3 false, .lit (.int .i64 0)]
def kMay : VV := .tup [.sl [.lit (.int .i64 1), .lit (.int .i64 1), .lit (.int .i64 0)] 3 false, .lit (.int .i64 0)]
theorem pA : VPure Tryz.prog G0 54 [] (.tree kA) := VPure.closedB hmix 1000 (by kernel_rfl)
theorem pB : VPure Tryz.prog G0 56 [] (.tree kB) := VPure.closedB hmix 1000 (by kernel_rfl)
theorem pD : VPure Tryz.prog G0 53 [] (.tree kD) := VPure.closedB hmix 1000 (by kernel_rfl)
theorem pAim : VPure Tryz.prog G0 18 [kD] (.tree kAim) := VPure.closedB hmix 1000 (by kernel_rfl)
theorem pSums : VPure Tryz.prog G0 19 [kA, .sl [.lit (.int .i64 (1)), .lit (.int .i64 (1)), .lit (.int .i64 (0))] 3 false] (.tree kSums) := VPure.closedB hmix 1000 (by kernel_rfl)
theorem pWord : VPure Tryz.prog G0 27 [kA, .sl [.lit (.int .i64 (3)), .lit (.int .i64 (2)), .lit (.int .i64 (0))] 3 false] (.tree kWord) := VPure.closedB hmix 1000 (by kernel_rfl)
theorem pTrue : VPure Tryz.prog G0 24 [kA, .sl [.lit (.int .i64 (1)), .lit (.int .i64 (1)), .lit (.int .i64 (0))] 3 false, .agg [.sl [.lit (.int .i64 80),.lit (.int .i64 20),.lit (.int .i64 0),.lit (.int .i64 20),.lit (.int .i64 60),.lit (.int .i64 40),.lit (.int .i64 50),.lit (.int .i64 10),.lit (.int .i64 30)] 3 false,.lit (.int .i64 5),.lit (.int .i64 2),.lit (.int .i64 1),.lit (.int .i64 0)]] (.tree kTrue) := VPure.closedB hmix 1000 (by kernel_rfl)
theorem pYears : VPure Tryz.prog G0 28 [kD, .sl [.lit (.int .i64 (1)), .lit (.int .i64 (1)), .lit (.int .i64 (0))] 3 false] (.tree kYears) := VPure.closedB hmix 1000 (by kernel_rfl)
theorem pRead : VPure Tryz.prog G0 57 [.lit (.string ⟨⟨[98, 111, 97, 114, 100, 32, 49, 32, 50, 32, 51, 32, 48, 32, 48, 32, 49, 10, 102, 97, 100, 101, 32, 48, 32, 48, 32, 48, 32, 48, 32, 48, 32, 48, 10, 116, 105, 110, 32, 49, 32, 49, 32, 50, 32, 50, 32, 51, 32, 51, 10, 101, 110, 100, 32, 49, 54, 52, 10]⟩⟩)] (.tree kRead) := VPure.closedB hmix 1000 (by kernel_rfl)
def zdd (x0_a0 : List Int) (x1_a1 : Int) : Option (Bool) := some true
theorem zii (x0_a0 : List Int) (x1_a1 : Int) (R : Bool) (h : zdd x0_a0 x1_a1 = some R) : VPure Tryz.prog G0 124 [.sl (cellsL eI x0_a0) (List.length x0_a0) false, .lit (.int .i64 x1_a1)] (.tree (.lit (.bool R))) := by
 refine VPure.runR mixed Tryz.call124 Tryz.func124 rfl (by simp [Tryz.ntmps124]; kernel_rfl) ?_
 obtain ⟨KF, h, kF, kN⟩ := zam h
 simp only [zdd] at h
 try simp only [vz, tyf, nm, seval]
 obtain rfl := kF _ h
 exact zan Tryz.results124 rfl
abbrev sD (x : Gi) : VV := .agg (cGi x)
def dirL : List (List Int) → Option (List Gi)
 | [] => some []
 | [a, b, c] :: L => Option.bind (dirL L) fun r => some (⟨IntKind.i64.wrap (a - 2), IntKind.i64.wrap (b - 2), IntKind.i64.wrap (c - 2)⟩ :: r)
 | _ => none
def zwz : Option (List Gi) := Option.bind (listsO (fun l j => zdd l j) 5 3 []) dirL
def itD : VV := .fn (.func 123) [] []
def itDL : VV := .fn (.func 138) [] [.tp [.lit (.int .i64 3)], .tp [.lit (.int .i64 5)], .tp [.fn (.func 124) [] []]]
theorem zaqk : VPure Tryz.prog G0 104 [] (.tree itD) := by
 refine VPure.run mixed Tryz.call104 Tryz.func104 rfl (by simp [Tryz.ntmps104]; kernel_rfl) ?_
 simp only [vz, tyf, seval, ua, rg]
 exact ⟨rfl, itD, by simp [Tryz.results104, resV, resL, resV1, upd]; rfl, 20, rfl⟩
theorem zahk {e : List Int} {p : List (List Int)} {r : List Gi} (h : dirL (e :: p) = some r) : ∃ a b c r', e = [a, b, c] ∧ dirL p = some r' ∧ r = ⟨IntKind.i64.wrap (a - 2), IntKind.i64.wrap (b - 2), IntKind.i64.wrap (c - 2)⟩ :: r' := by
 match e, h with
 | [a, b, c], h =>
  simp only [dirL] at h
  rcases hr : dirL p with _ | r'
  ·rw [hr] at h; cases h
  rw [hr, Option.bind_some, Option.some.injEq] at h
  exact ⟨a, b, c, r', rfl, rfl, h.symm⟩
 | [], h => cases h
 | [_], h => cases h
 | [_, _], h => cases h
 | _ :: _ :: _ :: _ :: _, h => cases h
theorem zags (R : List Gi) (h : zwz = some R) : Iter Tryz.prog G0 itD (R.map sD) := by
 unfold zwz at h
 rcases hL : listsO (fun l j => zdd l j) 5 3 [] with _ | L
 ·rw [hL] at h; cases h
 rw [hL, Option.bind_some] at h
 have hit : Iter Tryz.prog G0 itDL (L.map sI) := ztc (ln := 3) (lim := 5) (mc := []) rfl (by omega) (by omega) (by omega) hL (fun p j b hb => zii p j b hb)
 refine ⟨123, [], [], rfl, fun β I hst hr H nx hβ hI => ?_⟩
 refine VOpen.run mixed Tryz.call123 Tryz.func123 rfl (by simp [Tryz.ntmps123]; kernel_rfl) ?_
 simp only [List.nil_append, List.cons_append, argsTm1, vz, tyf, seval, ua, rg]
 refine ktree (args0 := [.lit (.int .i64 3), .lit (.int .i64 5), .fn (.func 124) [] []]) (by simp only [nrm, tynrm, zacq] <;> rfl) rfl (zabq (mc := []) (mf := 124) rfl) ?_
 simp only [vz, tyf, seval, ua, rg]
 refine ziy (fun tm => tm 5 = itDL ∧ tm 1 = .ptr nx 0) (by refine ⟨?_, ?_⟩ <;> simp only [ua, seval, Nat.add_zero] <;> rfl) ?_
 rintro tm ⟨e5, e1⟩
 refine zgp hit (by first | (simp only [znk, zil, e5, zet, seval] <;> rfl) | rfl) ?_
 intro LO hLO
 obtain ⟨J, hJ⟩ : ∃ J : Option (List VV) → Option (List VV) → List (Nat × VObj) → Prop, J = (fun o o' hp => match o with
  | some l => ∃ (p : List (List Int)) (L2 : List Gi), l = p.map sI ∧ dirL p = some L2 ∧ o' = some (L2.map sD) ∧ hp = [(nx, .cells (some 162) [.yl β]), (nx + 4, .deferred (some [])), (nx + 5, LO)]
  | none => ∃ LD : Code → VObj, (∃ tml ps az bo d, LD = fun c => VObj.loop .done (some c) tml ps az bo d) ∧ o' = none ∧ hp = [(nx, .cells (some 162) [.yl β]), (nx + 4, .deferred (some [])), (nx + 5, LD .ret)]) := ⟨_, rfl⟩
 have hfr : ∀ (O : VObj) γ, (∃ q ∈ [(nx, .cells (some 162) [.yl β]), (nx + 4, .deferred (some [])), (nx + 5, O)], (q : Nat × VObj).1 = γ) ↔ γ = nx ∨ γ = nx + 4 ∨ γ = nx + 5 := by
  intro O γ
  simp [eq_comm]
 refine ⟨ownI2 I J, zkh hst, ?_, ?_, ?_⟩
 ·rintro v rest Fr H1 nx1 hFr ⟨hp, o', hown, hj, hi⟩
  rw [hJ] at hj
  obtain ⟨p, L2, hl, hf, rfl, rfl⟩ := hj
  cases p with
  | nil => cases hl
  | cons e p =>
  simp only [List.map_cons, List.cons.injEq] at hl
  obtain ⟨rfl, rfl⟩ := hl
  obtain ⟨a, b, c, L3, rfl, hf2, rfl⟩ := zahk hf
  obtain ⟨la, na, Ha⟩ := hown.head
  obtain ⟨lb, nb, Hb⟩ := hown.tail.head
  obtain ⟨lc, nc, Hc⟩ := hown.tail.tail.head
  simp only [hfr] at hi
  refine zfi mixed (psl := [6]) hLO Hc zgn rfl (by kernel_rfl) (by kernel_rfl) ?_
  intro LB LD hLB hLD
  refine zie (fun tm => tm 6 = sI [a, b, c] ∧ tm 1 = .ptr nx 0) (by refine ⟨?_, ?_⟩ <;> simp only [zkf, zhv, Tryz.ntmps123, e1, seval]) ?_
  clear e5 e1
  rintro tm ⟨e6, e1⟩
  have i0 : getI [a, b, c] 0 = some a := rfl
  have i1 : getI [a, b, c] 1 = some b := rfl
  have i2 : getI [a, b, c] 2 = some c := rfl
  have hne : (nx = nx + 5) = False := by simp
  simp only [vz, tyf, seval, ua, nm, rg, RStart, e6, e1, Ha, Hc, hne]
  refine ziy (fun tm => tm 3 = sI [a, b, c] ∧ tm 1 = .ptr nx 0) (by refine ⟨?_, ?_⟩ <;> simp only [ua, seval, e6, e1]) ?_
  clear e6 e1
  rintro tm ⟨e3, e1⟩
  refine zxu mixed 14 rfl rfl rfl (by kernel_rfl) ?_
  simp only [vz, tyf, seval, ua, nm, rg, e3, e1, Ha, hne, (ix29 i0), (ix29 i1), (ix29 i2)]
  obtain ⟨D, hD⟩ : ∃ D : Gi, D = ⟨IntKind.i64.wrap (a - 2), IntKind.i64.wrap (b - 2), IntKind.i64.wrap (c - 2)⟩ := ⟨_, rfl⟩
  rw [← hD] at hi
  have hDc : sD D = VV.agg [.lit (.int .i64 (IntKind.i64.wrap (a - 2))), .lit (.int .i64 (IntKind.i64.wrap (b - 2))), .lit (.int .i64 (IntKind.i64.wrap (c - 2)))] := by rw [hD]; rfl
  rw [← hDc]
  have hi2 : I (some (sD D :: L3.map sD)) (fun γ => Fr γ ∨ γ = nx ∨ γ = nx + 4 ∨ γ = nx + 5) (updH H1 (nx + 5) LB) (nx1 + 17) := by
   refine hst _ _ _ _ _ _ _ hi ?_ (by omega) (fun γ h => .inl h)
   intro γ _ hn
   have g3 : γ ≠ nx + 5 := fun e => hn (.inr (.inr (.inr e)))
   simp only [updH]
   rw [if_neg g3]
  refine (hr (sD D) (L3.map sD) _ _ _ ?_ hi2) (some (some (nx + 5))) _ _ _ rfl rfl ?_
  ·rintro γ (hγ | rfl | rfl | rfl)
   ·have := hFr γ hγ; omega
   ·omega
   ·omega
   ·omega
  rintro t H2 nx2 ⟨q1, q2, q3⟩
  have Ka : H2 nx = some (.cells (some 162) [.yl β]) := by
   rw [q2 nx (.inr (.inl rfl))]
   simp only [updH]
   rw [if_neg (by omega)]
   exact Ha
  have Kb : H2 (nx + 4) = some (.deferred (some [])) := by
   rw [q2 _ (.inr (.inr (.inl rfl)))]
   simp only [updH]
   rw [if_neg (by omega)]
   exact Hb
  have Kc : H2 (nx + 5) = some LB := by
   rw [q2 _ (.inr (.inr (.inr rfl)))]
   simp only [zaa, seval]
  have KF : ∀ γ, Fr γ → H2 γ = H1 γ := by
   intro γ hγ
   have g3 : γ ≠ nx + 5 := fun e => nc (e ▸ hγ)
   rw [q2 γ (.inl hγ)]
   simp only [updH]
   rw [if_neg g3]
  have KO : ∀ (O : VObj), Own [(nx, .cells (some 162) [.yl β]), (nx + 4, .deferred (some [])), (nx + 5, O)] Fr (updH H2 (nx + 5) O) nx2 := by
   intro O
   refine Own.cons (show nx < nx2 by omega) na ?_ (Own.cons (show nx + 4 < nx2 by omega) nb ?_ (Own.cons (show nx + 5 < nx2 by omega) nc ?_ Own.nil))
   ·simp only [updH]
    rw [if_neg (by omega)]
    exact Ka
   ·simp only [updH]
    rw [if_neg (by omega)]
    exact Kb
   ·simp only [zaa, seval]
  cases t with
  | true =>
   simp only [vz, tyf, seval, ua, nm, rg, Bool.not_true]
   refine ⟨Kc, (show nx1 ≤ nx2 by omega), fun γ hγ => ?_, ?_⟩
   ·have g3 : γ ≠ nx + 5 := fun e => nc (e ▸ hγ)
    simp only [updH]
    rw [if_neg g3]
    exact KF γ hγ
   ·simp only [if_true] at q3 ⊢
    refine ⟨_, _, KO LO, by rw [hJ]; exact ⟨p, L3, rfl, hf2, rfl, rfl⟩, ?_⟩
    simp only [hfr]
    refine hst _ _ _ _ _ _ _ q3 ?_ (by omega) (fun γ h => .inl h)
    intro γ _ hn
    have g3 : γ ≠ nx + 5 := fun e => hn (.inr (.inr (.inr e)))
    simp only [updH]
    rw [if_neg g3]
  | false =>
   simp only [vz, tyf, seval, ua, nm, rg, Bool.not_false]
   refine ⟨Kc, (show nx1 ≤ nx2 by omega), fun γ hγ => ?_, ?_⟩
   ·have g3 : γ ≠ nx + 5 := fun e => nc (e ▸ hγ)
    simp only [updH]
    rw [if_neg g3]
    exact KF γ hγ
   ·simp only [Bool.false_eq_true, if_false] at q3 ⊢
    refine ⟨_, _, KO (LD .ret), by rw [hJ]; exact ⟨LD, ⟨_, _, _, _, _, hLD⟩, rfl, rfl⟩, ?_⟩
    simp only [hfr]
    refine hst _ _ _ _ _ _ _ q3 ?_ (by omega) (fun γ h => .inl h)
    intro γ _ hn
    have g3 : γ ≠ nx + 5 := fun e => hn (.inr (.inr (.inr e)))
    simp only [updH]
    rw [if_neg g3]
 ·refine ⟨_, _, ?_, by rw [hJ]; exact ⟨L, R, rfl, h, rfl, rfl⟩, ?_⟩
  ·refine Own.cons (show nx < nx + 4 + 2 by omega) (fun h => h) ?_ (Own.cons (show nx + 4 < nx + 4 + 2 by omega) (fun h => h) ?_ (Own.cons (show nx + 5 < nx + 4 + 2 by omega) (fun h => h) ?_ Own.nil))
   ·simp only [updH]
    rw [if_neg (by omega), if_neg (by omega)]
    simp
   ·simp only [updH]
    simp
   ·simp only [updH]
    simp
  ·simp only [hfr]
   refine hst _ _ _ _ _ _ _ hI ?_ (by omega) ?_
   ·intro γ hγ _
    simp only [updH]
    repeat rw [if_neg (by omega)]
   ·rintro γ (h | rfl | rfl | rfl)
    ·exact h.elim
    ·right; omega
    ·right; omega
    ·right; omega
 ·rintro H' nx' (⟨hp, o', hown, hj, hi⟩ | ⟨hp, o', hown, hj, hi⟩)
  ·rw [hJ] at hj
   obtain ⟨p, L2, hl, hf, rfl, rfl⟩ := hj
   cases p with
   | cons e p => cases hl
   | nil =>
   simp only [dirL, Option.some.injEq] at hf
   subst hf
   obtain ⟨la, na, Ha⟩ := hown.head
   obtain ⟨lb, nb, Hb⟩ := hown.tail.head
   obtain ⟨lc, nc, Hc⟩ := hown.tail.tail.head
   simp only [hfr] at hi
   refine zez hLO Hc ?_
   intro LX
   simp only [vz, tyf, seval, ua, nm, rg]
   refine zrd (by simp only [zaa, nm, seval, Hb]) ?_
   refine zja (x := .tup []) (by simp [Tryz.results123, resV, resL]) (.inl ?_)
   refine hst _ _ _ _ _ _ _ hi ?_ (Nat.le_refl _) (fun γ h => h.elim)
   intro γ _ hn
   have g2 : γ ≠ nx + 4 := fun e => hn (.inr (.inr (.inl e)))
   have g3 : γ ≠ nx + 5 := fun e => hn (.inr (.inr (.inr e)))
   simp only [updH]
   repeat rw [if_neg (by first | assumption | omega)]
  ·rw [hJ] at hj
   obtain ⟨LD, ⟨tml, ps, az, bo, d, hLD⟩, rfl, rfl⟩ := hj
   obtain ⟨la, na, Ha⟩ := hown.head
   obtain ⟨lb, nb, Hb⟩ := hown.tail.head
   obtain ⟨lc, nc, Hc⟩ := hown.tail.tail.head
   simp only [hfr] at hi
   refine zgi hLD Hc ?_
   intro LX
   simp only [vz, tyf, seval, ua, nm, rg]
   refine zha (by simp only [zaa, nm, seval, Hb]) ?_
   refine zap (x := .tup []) (by simp [Tryz.results123, resV, resL]) (.inr ?_)
   refine hst _ _ _ _ _ _ _ hi ?_ (Nat.le_refl _) (fun γ h => h.elim)
   intro γ _ hn
   have g2 : γ ≠ nx + 4 := fun e => hn (.inr (.inr (.inl e)))
   have g3 : γ ≠ nx + 5 := fun e => hn (.inr (.inr (.inr e)))
   simp only [updH]
   repeat rw [if_neg (by first | assumption | omega)]
def zbo (x0_d : Gi) (x1_amounts : Ga) : Option (GSpan) := some (GSpan.mk (IntKind.i64.wrap ((IntKind.i64.wrap ((IntKind.i64.wrap (0 + (if (IntKind.i64.wrap (x0_d.a0 * x1_amounts.a0.High)) < (IntKind.i64.wrap (x0_d.a0 * x1_amounts.a0.Low)) then (IntKind.i64.wrap (x0_d.a0 * x1_amounts.a0.High)) else (IntKind.i64.wrap (x0_d.a0 * x1_amounts.a0.Low))))) + (if (IntKind.i64.wrap (x0_d.a1 * x1_amounts.a1.High)) < (IntKind.i64.wrap (x0_d.a1 * x1_amounts.a1.Low)) then (IntKind.i64.wrap (x0_d.a1 * x1_amounts.a1.High)) else (IntKind.i64.wrap (x0_d.a1 * x1_amounts.a1.Low))))) + (if (IntKind.i64.wrap (x0_d.a2 * x1_amounts.a2.High)) < (IntKind.i64.wrap (x0_d.a2 * x1_amounts.a2.Low)) then (IntKind.i64.wrap (x0_d.a2 * x1_amounts.a2.High)) else (IntKind.i64.wrap (x0_d.a2 * x1_amounts.a2.Low))))) (IntKind.i64.wrap ((IntKind.i64.wrap ((IntKind.i64.wrap (0 + (if (IntKind.i64.wrap (x0_d.a0 * x1_amounts.a0.Low)) < (IntKind.i64.wrap (x0_d.a0 * x1_amounts.a0.High)) then (IntKind.i64.wrap (x0_d.a0 * x1_amounts.a0.High)) else (IntKind.i64.wrap (x0_d.a0 * x1_amounts.a0.Low))))) + (if (IntKind.i64.wrap (x0_d.a1 * x1_amounts.a1.Low)) < (IntKind.i64.wrap (x0_d.a1 * x1_amounts.a1.High)) then (IntKind.i64.wrap (x0_d.a1 * x1_amounts.a1.High)) else (IntKind.i64.wrap (x0_d.a1 * x1_amounts.a1.Low))))) + (if (IntKind.i64.wrap (x0_d.a2 * x1_amounts.a2.Low)) < (IntKind.i64.wrap (x0_d.a2 * x1_amounts.a2.High)) then (IntKind.i64.wrap (x0_d.a2 * x1_amounts.a2.High)) else (IntKind.i64.wrap (x0_d.a2 * x1_amounts.a2.Low))))))
theorem zeq (x0_d : Gi) (x1_amounts : Ga) (R : GSpan) (h : zbo x0_d x1_amounts = some R) : VPure Tryz.prog G0 105 [.agg (cGi x0_d), .agg (cGa x1_amounts)] (.tree (.agg (cGSpan R))) := by
 refine VPure.runR mixed Tryz.call105 Tryz.func105 rfl (by simp [Tryz.ntmps105]; kernel_rfl) ?_
 obtain ⟨KF, h, kF, kN⟩ := zam h
 simp only [zbo] at h
 simp only [vz, tyf, nm, seval]
 refine zhq mixed (by kernel_rfl) 4 ?_
 simp only [vz, tyf, nm, seval]
 refine zfc (fun tm => tm 3 = .ptr 1 0 ∧ tm 4 = .ptr 2 0 ∧ tm 5 = .ptr 3 0 ∧ tm 6 = .lit (.int .i64 0) ∧ tm 7 = .lit (.int .i64 x0_d.a0) ∧ tm 10 = .agg (cGi x0_d) ∧ tm 11 = .lit (.int .i64 0) ∧ True) (by refine ⟨?_, ?_, ?_, ?_, ?_, ?_, ?_, trivial⟩ <;> first | (simp only [ua, nm, seval] <;> rfl) | rfl) ?_
 rintro tm ⟨e1, e2, e3, e4, e5, e6, e7, _⟩
 simp only [vz, tyf, e1, e2, e3, e4, e5, e6, e7, nm, seval]
 refine zfc (fun tm => tm 3 = .ptr 1 0 ∧ tm 4 = .ptr 2 0 ∧ tm 5 = .ptr 3 0 ∧ tm 6 = .lit (.int .i64 1) ∧ tm 7 = .lit (.int .i64 x0_d.a1) ∧ tm 10 = .agg (cGi x0_d) ∧ tm 11 = .lit (.int .i64 1) ∧ True) (by refine ⟨e1, e2, e3, ?_, ?_, e6, ?_, trivial⟩ <;> first | (simp only [ua, e1, e2, e3, e4, e5, e6, e7, nm, seval] <;> rfl) | rfl) ?_
 rintro tm ⟨e8, e9, e10, e11, e12, e13, e14, _⟩
 simp only [vz, tyf, e8, e9, e10, e11, e12, e13, e14, nm, seval]
 refine zfc (fun tm => tm 3 = .ptr 1 0 ∧ tm 4 = .ptr 2 0 ∧ tm 5 = .ptr 3 0 ∧ tm 6 = .lit (.int .i64 2) ∧ tm 7 = .lit (.int .i64 x0_d.a2) ∧ tm 10 = .agg (cGi x0_d) ∧ tm 11 = .lit (.int .i64 2) ∧ True) (by refine ⟨e8, e9, e10, ?_, ?_, e13, ?_, trivial⟩ <;> first | (simp only [ua, e8, e9, e10, e11, e12, e13, e14, nm, seval] <;> rfl) | rfl) ?_
 rintro tm ⟨e15, e16, e17, e18, e19, e20, e21, _⟩
 try simp only [vz, tyf, e15, e16, e17, e18, e19, e20, e21, nm, seval]
 refine zap (x := (.agg ([.lit (.int .i64 (IntKind.i64.wrap ((IntKind.i64.wrap ((IntKind.i64.wrap (0 + (if (IntKind.i64.wrap (x0_d.a0 * x1_amounts.a0.High)) < (IntKind.i64.wrap (x0_d.a0 * x1_amounts.a0.Low)) then (IntKind.i64.wrap (x0_d.a0 * x1_amounts.a0.High)) else (IntKind.i64.wrap (x0_d.a0 * x1_amounts.a0.Low))))) + (if (IntKind.i64.wrap (x0_d.a1 * x1_amounts.a1.High)) < (IntKind.i64.wrap (x0_d.a1 * x1_amounts.a1.Low)) then (IntKind.i64.wrap (x0_d.a1 * x1_amounts.a1.High)) else (IntKind.i64.wrap (x0_d.a1 * x1_amounts.a1.Low))))) + (if (IntKind.i64.wrap (x0_d.a2 * x1_amounts.a2.High)) < (IntKind.i64.wrap (x0_d.a2 * x1_amounts.a2.Low)) then (IntKind.i64.wrap (x0_d.a2 * x1_amounts.a2.High)) else (IntKind.i64.wrap (x0_d.a2 * x1_amounts.a2.Low))))))] ++ [.lit (.int .i64 (IntKind.i64.wrap ((IntKind.i64.wrap ((IntKind.i64.wrap (0 + (if (IntKind.i64.wrap (x0_d.a0 * x1_amounts.a0.Low)) < (IntKind.i64.wrap (x0_d.a0 * x1_amounts.a0.High)) then (IntKind.i64.wrap (x0_d.a0 * x1_amounts.a0.High)) else (IntKind.i64.wrap (x0_d.a0 * x1_amounts.a0.Low))))) + (if (IntKind.i64.wrap (x0_d.a1 * x1_amounts.a1.Low)) < (IntKind.i64.wrap (x0_d.a1 * x1_amounts.a1.High)) then (IntKind.i64.wrap (x0_d.a1 * x1_amounts.a1.High)) else (IntKind.i64.wrap (x0_d.a1 * x1_amounts.a1.Low))))) + (if (IntKind.i64.wrap (x0_d.a2 * x1_amounts.a2.Low)) < (IntKind.i64.wrap (x0_d.a2 * x1_amounts.a2.High)) then (IntKind.i64.wrap (x0_d.a2 * x1_amounts.a2.High)) else (IntKind.i64.wrap (x0_d.a2 * x1_amounts.a2.Low))))))]))) (by first | (simp only [Tryz.results105, resV, resL, resV1, zat, zbs, uw, cr, tyf, e15, e16, e17, e18, e19, e20, e21, nm, seval] <;> rfl) | rfl) ?_
 obtain rfl := kF _ h
 refine zas ?_ ?_
 ·simp only [tre, tytre, Bool.and_self]
 ·first | (simp only [outV, uw, zad, cr, tyf, nrm, tynrm, e15, e16, e17, e18, e19, e20, e21, nm, seval] <;> rfl) | rfl
def zde (x0_d : Gi) : Option (Int) := some (IntKind.i64.wrap ((IntKind.i64.wrap ((IntKind.i64.wrap (0 + (if x0_d.a0 < (IntKind.i64.wrap (-x0_d.a0)) then (IntKind.i64.wrap (-x0_d.a0)) else x0_d.a0))) + (if x0_d.a1 < (IntKind.i64.wrap (-x0_d.a1)) then (IntKind.i64.wrap (-x0_d.a1)) else x0_d.a1))) + (if x0_d.a2 < (IntKind.i64.wrap (-x0_d.a2)) then (IntKind.i64.wrap (-x0_d.a2)) else x0_d.a2)))
theorem zhz (x0_d : Gi) (R : Int) (h : zde x0_d = some R) : VPure Tryz.prog G0 106 [.agg (cGi x0_d)] (.tree (.lit (.int .i64 R))) := by
 refine VPure.runR mixed Tryz.call106 Tryz.func106 rfl (by simp [Tryz.ntmps106]; kernel_rfl) ?_
 obtain ⟨KF, h, kF, kN⟩ := zam h
 simp only [zde] at h
 simp only [vz, qr, tyf, nm, seval]
 refine zhq mixed (by kernel_rfl) 4 ?_
 try simp only [vz, qr, tyf, nm, seval]
 refine zap (x := (.lit (.int .i64 (IntKind.i64.wrap ((IntKind.i64.wrap ((IntKind.i64.wrap (0 + (if x0_d.a0 < (IntKind.i64.wrap (-x0_d.a0)) then (IntKind.i64.wrap (-x0_d.a0)) else x0_d.a0))) + (if x0_d.a1 < (IntKind.i64.wrap (-x0_d.a1)) then (IntKind.i64.wrap (-x0_d.a1)) else x0_d.a1))) + (if x0_d.a2 < (IntKind.i64.wrap (-x0_d.a2)) then (IntKind.i64.wrap (-x0_d.a2)) else x0_d.a2)))))) (by first | (simp only [Tryz.results106, resV, resL, resV1, zat, zbs, uw, cr, tyf, nm, seval] <;> rfl) | rfl) ?_
 obtain rfl := kF _ h
 refine zas ?_ ?_
 ·simp only [tre, tytre, Bool.and_self]
 ·first | (simp only [outV, uw, zad, cr, tyf, nrm, tynrm, nm, seval] <;> rfl) | rfl
theorem zack {a b : VV} : vfield Tryz.prog 24 (.agg [a, b]) 0 = some a := by
 have h1 : aggT Tryz.prog 3 = some false := by kernel_rfl
 have h2 : szT Tryz.prog 3 = some 1 := by kernel_rfl
 simp [vfield, Tryz.underlying24, vpart, h1, h2]
theorem zacw {a b : VV} : vfield Tryz.prog 24 (.agg [a, b]) 1 = some b := by
 have h1 : aggT Tryz.prog 3 = some false := by kernel_rfl
 have h2 : szT Tryz.prog 3 = some 1 := by kernel_rfl
 simp [vfield, Tryz.underlying24, vpart, h1, h2]
def fdL (s : Gs) (am : Ga) (d : Gi) : List Gt → Option Bool
 | [] => some true
 | t :: p => Option.bind (zbo d t.pg) fun v => Option.bind (zde d) fun z => Option.bind (zbo d am) fun w => cond (decide (IntKind.i64.wrap (v.High + IntKind.i64.wrap (s.Off * z)) ≥ w.Low)) (some false) (fdL s am d p)
def fdirL (s : Gs) (am : Ga) : List Gi → Option (Gi × Bool)
 | [] => some (⟨0, 0, 0⟩, false)
 | d :: L => Option.bind (fdL s am d s.Tins) fun t => cond t (some (d, true)) (fdirL s am L)
def zel (s : Gs) : Option (Gi × Bool) := Option.bind (zfe s) fun am => Option.bind zwz fun L => cond (lenOk s.Tins) (fdirL s am L) none
theorem zhx (s : Gs) (R : Gi × Bool) (h : zel s = some R) : VPure Tryz.prog G0 73 [.agg (cGs s)] (.tree (.tup [.agg (cGi R.1), .lit (.bool R.2)])) := by
 refine VPure.runR mixed Tryz.call73 Tryz.func73 rfl (by simp [Tryz.ntmps73]; kernel_rfl) ?_
 unfold zel at h
 rcases o1 : zfe s with _ | am
 ·rw [o1] at h; cases h
 rw [o1, Option.bind_some] at h
 rcases o2 : zwz with _ | L
 ·rw [o2] at h; cases h
 rw [o2, Option.bind_some] at h
 cases o3 : lenOk s.Tins with
 | false => rw [o3] at h; cases h
 | true =>
 rw [o3, cond_true] at h
 have hi := zags L o2
 simp only [vz, tyf, seval, ua, rg]
 refine zagl mixed (by kernel_rfl) ?_
 simp only [vz, tyf, seval, ua, rg]
 refine ktA (zgu _ _ o1) ?_
 simp only [vz, tyf, seval, ua, rg]
 refine ktree (args0 := []) (by simp only [nrm]) rfl zaqk ?_
 refine zae (fun tm => tm 1 = .ptr 0 0 ∧ tm 2 = .ptr 1 0 ∧ tm 3 = .ptr 2 0 ∧ tm 4 = .ptr 5 0 ∧ tm 10 = itD) (by refine ⟨?_, ?_, ?_, ?_, ?_⟩ <;> simp only [ua, seval]) ?_
 rintro tm ⟨e1, e2, e3, e4, e10⟩
 simp only [vz, tyf, seval, ua, rg]
 refine zgp hi (by first | (simp only [znk, zil, e10, zet, seval] <;> rfl) | rfl) ?_
 intro LO hLO
 obtain ⟨J, hJ⟩ : ∃ J : Option (List VV) → List (Nat × VObj) → Prop, J = (fun o hp => match o with
  | some l => ∃ p : List Gi, l = p.map sD ∧ hp = [(8, .deferred (some [])), (9, LO), (0, .cells (some 28) (cGs s)), (1, .cells (some 99) (cGi ⟨0, 0, 0⟩)), (2, .cells (some 4) [.lit (.bool false)]), (5, .cells (some 25) (cGa am))] ∧ fdirL s am p = some R
  | none => ∃ LD : Code → VObj, (∃ tml ps az bo d, LD = fun c => VObj.loop .done (some c) tml ps az bo d) ∧ hp = [(8, .deferred (some [])), (9, LD .ret), (0, .cells (some 28) (cGs s)), (1, .cells (some 99) (cGi R.1)), (2, .cells (some 4) [.lit (.bool true)]), (5, .cells (some 25) (cGa am))] ∧ R.2 = true) := ⟨_, rfl⟩
 refine ⟨ownI J, zjk, ?_, ?_, ?_⟩
 ·rintro v rest Fr H nx hFr ⟨hp, hown, hj⟩
  rw [hJ] at hj
  obtain ⟨p, hl, rfl, hR⟩ := hj
  cases p with
  | nil => cases hl
  | cons d p =>
  simp only [List.map_cons, List.cons.injEq] at hl
  obtain ⟨rfl, rfl⟩ := hl
  obtain ⟨l8, n8, H8⟩ := hown.head
  obtain ⟨l9, n9, H9⟩ := hown.tail.head
  obtain ⟨l0, n0, H0⟩ := hown.tail.tail.head
  obtain ⟨l1, n1, H1⟩ := hown.tail.tail.tail.head
  obtain ⟨l2, n2, H2⟩ := hown.tail.tail.tail.tail.head
  obtain ⟨l5, n5, H5⟩ := hown.tail.tail.tail.tail.tail.head
  refine zfi mixed (psl := [11]) hLO H9 zgn rfl (by kernel_rfl) (by kernel_rfl) ?_
  intro LB LD hLB hLD
  refine zie (fun tm => tm 1 = .ptr 0 0 ∧ tm 2 = .ptr 1 0 ∧ tm 3 = .ptr 2 0 ∧ tm 4 = .ptr 5 0 ∧ tm 11 = sD d) (by refine ⟨?_, ?_, ?_, ?_, ?_⟩ <;> simp only [zkf, zhv, Tryz.ntmps73, e1, e2, e3, e4, seval]) ?_
  clear e1 e2 e3 e4 e10
  rintro tm ⟨e1, e2, e3, e4, e11⟩
  have m1 : (9 = nx) = False := by simp; omega
  have m2 : (nx = 9) = False := by simp; omega
  have m3 : (0 = nx) = False := by simp; omega
  have m4 : (nx = 0) = False := by simp; omega
  simp only [vz, tyf, seval, ua, nm, rg, RStart, e1, e2, e3, e4, e11, H9, H0, Nat.add_zero, m1, m2, m3, m4]
  unfold fdirL at hR
  rcases hT : fdL s am d s.Tins with _ | t
  ·rw [hT] at hR; cases hR
  rw [hT, Option.bind_some] at hR
  obtain ⟨I0, hI0⟩ : ∃ I0 : Nat → St → Prop, I0 = (fun m st => ∃ (q : List Gt) (c : Int), m = q.length ∧ 0 ≤ c ∧ List.drop (Int.toNat c) s.Tins = q ∧ st.df = [] ∧ nx + 6 ≤ st.nx ∧ (∀ γ, γ < nx → st.H γ = updH H 9 LB γ) ∧ st.H nx = some (.cells (some 99) (cGi d)) ∧
   st.tm 1 = .ptr 0 0 ∧ st.tm 2 = .ptr 1 0 ∧ st.tm 3 = .ptr 2 0 ∧ st.tm 4 = .ptr 5 0 ∧ st.tm 5 = .ptr nx 0 ∧ st.tm 13 = .sl (cellsL cGt s.Tins) (List.length s.Tins) false ∧ st.tm 14 = .lit (.int .i64 (List.length s.Tins)) ∧ st.tm 15 = .lit (.int .i64 c) ∧ fdL s am d q = some t) := ⟨_, rfl⟩
  refine loopK mixed (by kernel_rfl) I0 (List.length s.Tins) (by
   rw [hI0]
   refine ⟨s.Tins, 0, rfl, Int.le_refl _, rfl, rfl, (by show nx + 6 ≤ nx + 6; omega), ?_, ?_, ?_, ?_, ?_, ?_, ?_, ?_, ?_, ?_, hT⟩
   ·intro γ hγ
    simp only [updH]
    by_cases g9 : γ = 9
    ·rw [if_pos g9, if_pos g9]
    ·rw [if_neg g9, if_neg (by omega), if_neg (by omega), if_neg g9]
   ·simp only [zaa, Nat.add_zero, m1, m2, seval] <;> rfl
   all_goals simp only [ua, seval, e1, e2, e3, e4]) ?_
  rintro m ⟨tm, K, kx, df⟩ hinv
  rw [hI0] at hinv
  obtain ⟨q, c, rfl, hc, hq, hdf, hkx, hK, Kx, f1, f2, f3, f4, f5, f13, f14, f15, hT2⟩ := hinv
  simp only at hdf hkx hK Kx f1 f2 f3 f4 f5 f13 f14 f15
  subst hdf
  have K0 : K 0 = some (.cells (some 28) (cGs s)) := by
   rw [hK 0 (by omega)]
   simp only [updH]
   rw [if_neg (by omega)]
   exact H0
  have K5 : K 5 = some (.cells (some 25) (cGa am)) := by
   rw [hK 5 (by omega)]
   simp only [updH]
   rw [if_neg (by omega)]
   exact H5
  have K8 : K 8 = some (.deferred (some [])) := by
   rw [hK 8 (by omega)]
   simp only [updH]
   rw [if_neg (by omega)]
   exact H8
  have K9 : K 9 = some LB := by
   rw [hK 9 (by omega)]
   simp only [zaa, seval]
  have K1 : K 1 = some (.cells (some 99) (cGi ⟨0, 0, 0⟩)) := by
   rw [hK 1 (by omega)]
   simp only [updH]
   rw [if_neg (by omega)]
   exact H1
  have K2 : K 2 = some (.cells (some 4) [.lit (.bool false)]) := by
   rw [hK 2 (by omega)]
   simp only [updH]
   rw [if_neg (by omega)]
   exact H2
  cases q with
  | nil =>
   have hd1 : decide (c < (List.length s.Tins : Int)) = false := zau hc hq
   simp only [fdL, Option.some.injEq] at hT2
   subst hT2
   simp only [cond_true, Option.some.injEq] at hR
   subst hR
   simp only [vz, tyf, seval, ua, nm, rg, f1, f2, f3, f4, f5, f13, f14, f15, hd1, K1, K2, Kx]
   refine ⟨?_, (show nx ≤ kx + 4 by omega), fun γ hγ => ?_, ?_⟩
   ·simp only [updH]
    repeat rw [if_neg (by omega)]
    exact K9
   ·have gx := hFr γ hγ
    have g9 : γ ≠ 9 := fun e => n9 (e ▸ hγ)
    have g1 : γ ≠ 1 := fun e => n1 (e ▸ hγ)
    have g2 : γ ≠ 2 := fun e => n2 (e ▸ hγ)
    simp only [updH]
    rw [if_neg g9, if_neg g2, if_neg g1, hK γ gx]
    simp only [updH]
    rw [if_neg g9]
   ·simp only [Bool.false_eq_true, if_false]
    refine ⟨[(8, .deferred (some [])), (9, LD .ret), (0, .cells (some 28) (cGs s)), (1, .cells (some 99) (cGi d)), (2, .cells (some 4) [.lit (.bool true)]), (5, .cells (some 25) (cGa am))], Own.cons (show 8 < kx + 4 by omega) n8 ?_ (Own.cons (show 9 < kx + 4 by omega) n9 ?_ (Own.cons (show 0 < kx + 4 by omega) n0 ?_ (Own.cons (show 1 < kx + 4 by omega) n1 ?_ (Own.cons (show 2 < kx + 4 by omega) n2 ?_ (Own.cons (show 5 < kx + 4 by omega) n5 ?_ Own.nil))))), ?_⟩
    rotate_left 6
    ·rw [hJ]
     exact ⟨LD, ⟨_, _, _, _, _, hLD⟩, rfl, rfl⟩
    all_goals (simp only [zaa, seval, K8, K0, K5] <;> rfl)
  | cons x q =>
   have hd1 : decide (c < (List.length s.Tins : Int)) = true := zbx hc hq
   have o := zar hc hq
   have hw := zcs hc hq o3
   have x1 : (0 = kx + 3) = False := by simp
   have x2 : (5 = kx + 3) = False := by simp; omega
   have x3 : (nx = kx + 3) = False := by simp; omega
   simp only [vz, tyf, seval, ua, nm, rg, f1, f2, f3, f4, f5, f13, f14, f15, hd1, K0, K5, Kx, (ix26 o)]
   refine zfc (fun tm => tm 1 = .ptr 0 0 ∧ tm 2 = .ptr 1 0 ∧ tm 3 = .ptr 2 0 ∧ tm 4 = .ptr 5 0 ∧ tm 5 = .ptr nx 0 ∧ tm 7 = .ptr (kx + 3) 0 ∧ tm 13 = .sl (cellsL cGt s.Tins) (List.length s.Tins) false ∧ tm 14 = .lit (.int .i64 (List.length s.Tins)) ∧ tm 15 = .lit (.int .i64 c)) (by refine ⟨?_, ?_, ?_, ?_, ?_, ?_, ?_, ?_, ?_⟩ <;> simp only [ua, seval, f1, f2, f3, f4, f5, f13, f14, f15]) ?_
   clear f1 f2 f3 f4 f5 f13 f14 f15 tm
   rintro tm ⟨f1, f2, f3, f4, f5, f7, f13, f14, f15⟩
   simp only [fdL] at hT2
   rcases ov : zbo d x.pg with _ | v
   ·rw [ov] at hT2; cases hT2
   rw [ov, Option.bind_some] at hT2
   rcases oz : zde d with _ | z
   ·rw [oz] at hT2; cases hT2
   rw [oz, Option.bind_some] at hT2
   rcases ow : zbo d am with _ | w
   ·rw [ow] at hT2; cases hT2
   rw [ow, Option.bind_some] at hT2
   simp only [vz, tyf, seval, ua, nm, rg, f1, f4, f5, f7, K0, K5, Kx, x1, x2, x3, zack, zacw]
   refine dktA (zeq _ _ _ ov) ?_
   refine zae (fun tm => tm 1 = .ptr 0 0 ∧ tm 2 = .ptr 1 0 ∧ tm 3 = .ptr 2 0 ∧ tm 4 = .ptr 5 0 ∧ tm 5 = .ptr nx 0 ∧ tm 13 = .sl (cellsL cGt s.Tins) (List.length s.Tins) false ∧ tm 14 = .lit (.int .i64 (List.length s.Tins)) ∧ tm 15 = .lit (.int .i64 c) ∧ tm 22 = .agg (cGSpan v)) (by refine ⟨?_, ?_, ?_, ?_, ?_, ?_, ?_, ?_, ?_⟩ <;> (simp only [ua, seval, f1, f2, f3, f4, f5, f13, f14, f15, f7] <;> rfl)) ?_
   clear f1 f2 f3 f4 f5 f13 f14 f15  f7 tm
   rintro tm ⟨f1, f2, f3, f4, f5, f13, f14, f15, f22⟩
   simp only [vz, tyf, seval, ua, nm, rg, f1, f4, f5, f22, K0, K5, Kx, x1, x2, x3, zack, zacw]
   refine dktA (zhz _ _ oz) ?_
   refine zae (fun tm => tm 1 = .ptr 0 0 ∧ tm 2 = .ptr 1 0 ∧ tm 3 = .ptr 2 0 ∧ tm 4 = .ptr 5 0 ∧ tm 5 = .ptr nx 0 ∧ tm 13 = .sl (cellsL cGt s.Tins) (List.length s.Tins) false ∧ tm 14 = .lit (.int .i64 (List.length s.Tins)) ∧ tm 15 = .lit (.int .i64 c) ∧ tm 23 = .lit (.int .i64 v.High) ∧ tm 25 = .lit (.int .i64 s.Off) ∧ tm 27 = .lit (.int .i64 z)) (by refine ⟨?_, ?_, ?_, ?_, ?_, ?_, ?_, ?_, ?_, ?_, ?_⟩ <;> (simp only [ua, seval, f1, f2, f3, f4, f5, f13, f14, f15, f22] <;> rfl)) ?_
   clear f1 f2 f3 f4 f5 f13 f14 f15  f22 tm
   rintro tm ⟨f1, f2, f3, f4, f5, f13, f14, f15, f23, f25, f27⟩
   simp only [vz, tyf, seval, ua, nm, rg, f1, f4, f5, f23, f25, f27, K0, K5, Kx, x1, x2, x3, zack, zacw]
   refine dktA (zeq _ _ _ ow) ?_
   refine zae (fun tm => tm 1 = .ptr 0 0 ∧ tm 2 = .ptr 1 0 ∧ tm 3 = .ptr 2 0 ∧ tm 4 = .ptr 5 0 ∧ tm 5 = .ptr nx 0 ∧ tm 13 = .sl (cellsL cGt s.Tins) (List.length s.Tins) false ∧ tm 14 = .lit (.int .i64 (List.length s.Tins)) ∧ tm 15 = .lit (.int .i64 c) ∧ tm 29 = .lit (.int .i64 (IntKind.i64.wrap (v.High + IntKind.i64.wrap (s.Off * z)))) ∧ tm 32 = .agg (cGSpan w)) (by refine ⟨?_, ?_, ?_, ?_, ?_, ?_, ?_, ?_, ?_, ?_⟩ <;> (simp only [ua, seval, f1, f2, f3, f4, f5, f13, f14, f15, f23, f25, f27] <;> rfl)) ?_
   clear f1 f2 f3 f4 f5 f13 f14 f15  f23  f25  f27 tm
   rintro tm ⟨f1, f2, f3, f4, f5, f13, f14, f15, f29, f32⟩
   cases hcmp : decide (IntKind.i64.wrap (v.High + IntKind.i64.wrap (s.Off * z)) ≥ w.Low) with
   | true =>
    rw [hcmp, cond_true, Option.some.injEq] at hT2
    subst hT2
    rw [cond_false] at hR
    simp only [vz, tyf, seval, ua, nm, rg, f1, f4, f5, f29, f32, K0, K5, Kx, x1, x2, x3, zack, zacw, hcmp]
    refine ⟨?_, (show nx ≤ kx + 21 by omega), fun γ hγ => ?_, ?_⟩
    ·simp only [updH]
     repeat rw [if_neg (by omega)]
     exact K9
    ·have gx := hFr γ hγ
     have g9 : γ ≠ 9 := fun e => n9 (e ▸ hγ)
     simp only [updH]
     rw [if_neg g9, if_neg (by omega), if_neg (by omega), hK γ gx]
     simp only [updH]
     rw [if_neg g9]
    ·simp only [if_true]
     refine ⟨[(8, .deferred (some [])), (9, LO), (0, .cells (some 28) (cGs s)), (1, .cells (some 99) (cGi ⟨0, 0, 0⟩)), (2, .cells (some 4) [.lit (.bool false)]), (5, .cells (some 25) (cGa am))], Own.cons (show 8 < kx + 21 by omega) n8 ?_ (Own.cons (show 9 < kx + 21 by omega) n9 ?_ (Own.cons (show 0 < kx + 21 by omega) n0 ?_ (Own.cons (show 1 < kx + 21 by omega) n1 ?_ (Own.cons (show 2 < kx + 21 by omega) n2 ?_ (Own.cons (show 5 < kx + 21 by omega) n5 ?_ Own.nil))))), ?_⟩
     rotate_left 6
     ·rw [hJ]
      exact ⟨p, rfl, rfl, hR⟩
     ·simp only [updH]
      repeat rw [if_neg (by omega)]
      exact K8
     ·simp only [zaa, seval]
     ·simp only [updH]
      repeat rw [if_neg (by omega)]
      exact K0
     ·simp only [updH]
      repeat rw [if_neg (by omega)]
      exact K1
     ·simp only [updH]
      repeat rw [if_neg (by omega)]
      exact K2
     ·simp only [updH]
      repeat rw [if_neg (by omega)]
      exact K5
   | false =>
    rw [hcmp, cond_false] at hT2
    simp only [vz, tyf, seval, ua, nm, rg, f1, f4, f5, f29, f32, f15, K0, K5, Kx, x1, x2, x3, zack, zacw, hcmp, hw]
    refine ⟨q.length, Nat.lt_succ_self _, ?_⟩
    rw [hI0]
    refine ⟨q, c + 1, rfl, by omega, zbe hc hq, rfl, (by show nx + 6 ≤ kx + 23; omega), ?_, ?_, ?_, ?_, ?_, ?_, ?_, ?_, ?_, ?_, hT2⟩
    ·intro γ hγ
     simp only [updH]
     rw [if_neg (by omega), if_neg (by omega)]
     exact hK γ hγ
    ·simp only [updH]
     rw [if_neg (by omega), if_neg (by omega)]
     exact Kx
    all_goals simp only [ua, seval, f1, f2, f3, f4, f5, f13, f14]
 ·refine ⟨[(8, .deferred (some [])), (9, LO), (0, .cells (some 28) (cGs s)), (1, .cells (some 99) (cGi ⟨0, 0, 0⟩)), (2, .cells (some 4) [.lit (.bool false)]), (5, .cells (some 25) (cGa am))], Own.cons (show 8 < 10 by omega) (fun h => h) ?_ (Own.cons (show 9 < 10 by omega) (fun h => h) ?_ (Own.cons (show 0 < 10 by omega) (fun h => h) ?_ (Own.cons (show 1 < 10 by omega) (fun h => h) ?_ (Own.cons (show 2 < 10 by omega) (fun h => h) ?_ (Own.cons (show 5 < 10 by omega) (fun h => h) ?_ Own.nil))))), ?_⟩
  rotate_left 6
  ·rw [hJ]
   exact ⟨L, rfl, rfl, h⟩
  all_goals (simp only [zaa, seval] <;> rfl)
 ·rintro H' nx' (⟨hp, hown, hj⟩ | ⟨hp, hown, hj⟩)
  ·rw [hJ] at hj
   obtain ⟨p, hl, rfl, hR⟩ := hj
   cases p with
   | cons e p => cases hl
   | nil =>
   simp only [fdirL, Option.some.injEq] at hR
   subst hR
   obtain ⟨l8, n8, H8⟩ := hown.head
   obtain ⟨l9, n9, H9⟩ := hown.tail.head
   obtain ⟨l0, n0, H0⟩ := hown.tail.tail.head
   obtain ⟨l1, n1, H1⟩ := hown.tail.tail.tail.head
   obtain ⟨l2, n2, H2⟩ := hown.tail.tail.tail.tail.head
   refine zez hLO H9 ?_
   intro LX
   simp only [vz, tyf, seval, ua, rg, e1, e2, e3, e4, H1, H2]
   refine zha (by simp only [zaa, seval, H8]) ?_
   refine zap (x := .tup [.agg (cGi ⟨0, 0, 0⟩), .lit (.bool false)]) (by simp only [Tryz.results73, resV, resL, resV1, zat, zbs, uw, cr, tyf, e2, e3, H1, H2, nm, seval] <;> rfl) ?_
   refine zas (by simp only [tre, tytre, Bool.and_self]) ?_
   simp only [outV, nrm, tynrm, seval, List.map_cons, List.map_nil]
   rfl
  ·rw [hJ] at hj
   obtain ⟨LD, ⟨tml, ps, az, bo, d, hLD⟩, rfl, hR2⟩ := hj
   obtain ⟨l8, n8, H8⟩ := hown.head
   obtain ⟨l9, n9, H9⟩ := hown.tail.head
   obtain ⟨l0, n0, H0⟩ := hown.tail.tail.head
   obtain ⟨l1, n1, H1⟩ := hown.tail.tail.tail.head
   obtain ⟨l2, n2, H2⟩ := hown.tail.tail.tail.tail.head
   obtain ⟨R1, R2⟩ := R
   simp only at hR2 H1
   subst hR2
   refine zgi hLD H9 ?_
   intro LX
   simp only [vz, tyf, seval, ua, rg, e1, e2, e3, e4, H1, H2]
   refine zha (by simp only [zaa, seval, H8]) ?_
   refine zap (x := .tup [.agg (cGi R1), .lit (.bool true)]) (by simp only [Tryz.results73, resV, resL, resV1, zat, zbs, uw, cr, tyf, e2, e3, H1, H2, nm, seval] <;> rfl) ?_
   refine zas (by simp only [tre, tytre, Bool.and_self]) ?_
   simp only [outV, nrm, tynrm, seval, List.map_cons, List.map_nil]
   rfl
def zkg (x0_s : Gs) : Option (Gi × Int) := Option.bind (zbi x0_s) (fun r1 => cond (r1) (Option.bind (zel x0_s) (fun r2 => cond (r2.2) (some (r2.1, 0)) (some ((Gi.mk 0 0 0), 5)))) (some ((Gi.mk 0 0 0), 2)))
theorem zoo (x0_s : Gs) (R : Gi × Int) (h : zkg x0_s = some R) : VPure Tryz.prog G0 37 [.agg (cGs x0_s)] (.tree (.tup [.agg (cGi R.1), .lit (.int .i64 R.2)])) := by
 refine VPure.runR mixed Tryz.call37 Tryz.func37 rfl (by simp [Tryz.ntmps37]; kernel_rfl) ?_
 obtain ⟨KF, h, kF, kN⟩ := zam h
 simp only [zkg] at h
 obtain ⟨r3, o4, h⟩ := optI h kN
 try simp only [hs] at h
 simp only [vz, tyf, nm, seval]
 refine ktA (zdo _ _ o4) ?_
 refine zae (fun tm => tm 1 = .ptr 0 0 ∧ tm 2 = .ptr 1 0 ∧ tm 7 = .lit (.bool r3) ∧ True) (by refine ⟨?_, ?_, ?_, trivial⟩ <;> first | (simp only [ua, nm, seval] <;> rfl) | rfl) ?_
 rintro tm ⟨e5, e6, e7, _⟩
 cases d8 : (r3)
 ·simp only [d8, hs] at h
  try simp only [vz, tyf, e5, e6, e7, d8, nm, seval]
  refine zap (x := (.tup [.agg ([.lit (.int .i64 0)] ++ [.lit (.int .i64 0)] ++ [.lit (.int .i64 0)]), .lit (.int .i64 2)])) (by first | (simp only [Tryz.results37, resV, resL, resV1, zat, zbs, uw, cr, tyf, e5, e6, e7, d8, nm, seval] <;> rfl) | rfl) ?_
  obtain rfl := kF _ h
  refine zas ?_ ?_
  ·simp only [tre, tytre, Bool.and_self]
  ·first | (simp only [outV, uw, zad, cr, tyf, nrm, tynrm, e5, e6, e7, d8, nm, seval] <;> rfl) | rfl
 simp only [d8, hs] at h
 obtain ⟨r9, o10, h⟩ := optI h kN
 try simp only [hs] at h
 simp only [vz, tyf, e5, e6, e7, d8, nm, seval]
 refine ktA (zhx _ _ o10) ?_
 refine zae (fun tm => tm 2 = .ptr 1 0 ∧ tm 12 = .tup [.agg (cGi r9.1), .lit (.bool r9.2)] ∧ True) (by refine ⟨e6, ?_, trivial⟩ <;> first | (simp only [ua, e5, e6, e7, d8, nm, seval] <;> rfl) | rfl) ?_
 rintro tm ⟨e11, e12, _⟩
 cases d13 : (r9.2)
 ·simp only [d13, hs] at h
  try simp only [vz, tyf, d8, e11, e12, d13, nm, seval]
  refine zap (x := (.tup [.agg ([.lit (.int .i64 0)] ++ [.lit (.int .i64 0)] ++ [.lit (.int .i64 0)]), .lit (.int .i64 5)])) (by first | (simp only [Tryz.results37, resV, resL, resV1, zat, zbs, uw, cr, tyf, d8, e11, e12, d13, nm, seval] <;> rfl) | rfl) ?_
  obtain rfl := kF _ h
  refine zas ?_ ?_
  ·simp only [tre, tytre, Bool.and_self]
  ·first | (simp only [outV, uw, zad, cr, tyf, nrm, tynrm, d8, e11, e12, d13, nm, seval] <;> rfl) | rfl
 simp only [d13, hs] at h
 try simp only [vz, tyf, d8, e11, e12, d13, nm, seval]
 refine zap (x := (.tup [.agg (cGi r9.1), .lit (.int .i64 0)])) (by first | (simp only [Tryz.results37, resV, resL, resV1, zat, zbs, uw, cr, tyf, d8, e11, e12, d13, nm, seval] <;> rfl) | rfl) ?_
 obtain rfl := kF _ h
 refine zas ?_ ?_
 ·simp only [tre, tytre, Bool.and_self]
 ·first | (simp only [outV, uw, zad, cr, tyf, nrm, tynrm, d8, e11, e12, d13, nm, seval] <;> rfl) | rfl
end Go.V
end
section
namespace Go.V
open Go
def sA : Gs := ⟨⟨60, 40, 20⟩, ⟨⟨1, 2⟩, ⟨1, 1⟩, ⟨0, 0⟩⟩, ⟨5, 5⟩, 5, [⟨⟨⟨80, 82⟩, ⟨20, 20⟩, ⟨0, 2⟩⟩⟩, ⟨⟨⟨20, 22⟩, ⟨60, 60⟩, ⟨40, 40⟩⟩⟩, ⟨⟨⟨50, 50⟩, ⟨10, 12⟩, ⟨30, 30⟩⟩⟩]⟩
def sB : Gs := ⟨⟨60, 40, 20⟩, ⟨⟨1, 2⟩, ⟨1, 1⟩, ⟨0, 0⟩⟩, ⟨5, 5⟩, 5, [⟨⟨⟨20, 22⟩, ⟨60, 60⟩, ⟨40, 40⟩⟩⟩, ⟨⟨⟨50, 50⟩, ⟨10, 12⟩, ⟨30, 30⟩⟩⟩]⟩
theorem zala : zkg sB = some (⟨0, 0, -2⟩, 0) := by kernel_rfl
theorem zajf : zkc sA = some (9, 0) := by kernel_rfl
theorem zang : zga sA = some ([1, 1, 0], 5, 0) := by kernel_rfl
theorem zajt : zjt sA = some ([0, 1], 0) := by kernel_rfl
theorem zajb : zke sA = some ([1, 1, 0], 0) := by kernel_rfl
end Go.V
end
section
namespace Go.V
open Go Go.Proofs
theorem qshA : VV.agg (cGs sA) = kA := by kernel_rfl
theorem qshB : VV.agg (cGs sB) = kB := by kernel_rfl
theorem pCount : VPure Tryz.prog G0 44 [kA] (.tree kCount) := qshA ▸ zov sA (9, 0) zajf
theorem pNear : VPure Tryz.prog G0 50 [kA] (.tree kNear) := qshA ▸ zlc sA ([1, 1, 0], 5, 0) zang
theorem pNeeds : VPure Tryz.prog G0 55 [kA] (.tree kNeeds) := qshA ▸ zot sA ([0, 1], 0) zajt
theorem pFirst : VPure Tryz.prog G0 42 [kA] (.tree kFirst) := qshA ▸ zoy sA ([1, 1, 0], 0) zajb
theorem pProof : VPure Tryz.prog G0 37 [kB] (.tree kProof) := qshB ▸ zoo sB (⟨0, 0, -2⟩, 0) zala
theorem pMay : VPure Tryz.prog G0 43 [kA] (.tree kMay) := VPure.closedB hmix 1000 (by kernel_rfl)
def kTab : KTab := [
  (54, [], kA),
  (56, [], kB),
  (53, [], kD),
  (18, [kD], kAim),
  (19, [kA, .sl [.lit (.int .i64 (1)), .lit (.int .i64 (1)), .lit (.int .i64 (0))] 3 false], kSums),
  (27, [kA, .sl [.lit (.int .i64 (3)), .lit (.int .i64 (2)), .lit (.int .i64 (0))] 3 false], kWord),
  (24, [kA, .sl [.lit (.int .i64 (1)), .lit (.int .i64 (1)), .lit (.int .i64 (0))] 3 false, .agg [.sl [.lit (.int .i64 80),.lit (.int .i64 20),.lit (.int .i64 0),.lit (.int .i64 20),.lit (.int .i64 60),.lit (.int .i64 40),.lit (.int .i64 50),.lit (.int .i64 10),.lit (.int .i64 30)] 3 false,.lit (.int .i64 5),.lit (.int .i64 2),.lit (.int .i64 1),.lit (.int .i64 0)]], kTrue),
  (28, [kD, .sl [.lit (.int .i64 (1)), .lit (.int .i64 (1)), .lit (.int .i64 (0))] 3 false], kYears),
  (57, [.lit (.string ⟨⟨[98, 111, 97, 114, 100, 32, 49, 32, 50, 32, 51, 32, 48, 32, 48, 32, 49, 10, 102, 97, 100, 101, 32, 48, 32, 48, 32, 48, 32, 48, 32, 48, 32, 48, 10, 116, 105, 110, 32, 49, 32, 49, 32, 50, 32, 50, 32, 51, 32, 51, 10, 101, 110, 100, 32, 49, 54, 52, 10]⟩⟩)], kRead),
  (44, [kA], kCount),
  (50, [kA], kNear),
  (55, [kA], kNeeds),
  (37, [kB], kProof),
  (42, [kA], kFirst),
  (43, [kA], kMay)]
theorem kTabOk : KTabOk Tryz.prog G0 kTab := ⟨⟨by kernel_rfl, pA⟩, ⟨⟨by kernel_rfl, pB⟩, ⟨⟨by kernel_rfl, pD⟩, ⟨⟨by kernel_rfl, pAim⟩, ⟨⟨by kernel_rfl, pSums⟩, ⟨⟨by kernel_rfl, pWord⟩, ⟨⟨by kernel_rfl, pTrue⟩, ⟨⟨by kernel_rfl, pYears⟩, ⟨⟨by kernel_rfl, pRead⟩, ⟨⟨by kernel_rfl, pCount⟩, ⟨⟨by kernel_rfl, pNear⟩, ⟨⟨by kernel_rfl, pNeeds⟩, ⟨⟨by kernel_rfl, pProof⟩, ⟨⟨by kernel_rfl, pFirst⟩, ⟨⟨by kernel_rfl, pMay⟩, trivial⟩⟩⟩⟩⟩⟩⟩⟩⟩⟩⟩⟩⟩⟩⟩
theorem pKnown : VPure Tryz.prog G0 16 [] (.tree (.lit (.bool true))) := VPure.closedT hmix kTabOk 1000 (by kernel_rfl)
#print axioms pKnown
theorem zgf : VPure Tryz.prog G0 16 [] (.tree (.lit (.bool true))) := pKnown

end Go.V
end
section
namespace Go.V
open Go
def z3 : Ga := ⟨⟨0, 0⟩, ⟨0, 0⟩, ⟨0, 0⟩⟩
theorem TrOk.b {s : Gs} (hs : ShOk s) {t : Gu} (ht : TrOk s t) (p : P3) : ∀ a ∈ t.Tins, 0 ≤ selI a p ∧ selI a p ≤ 99 := by
 intro a ha
 obtain ⟨i, hi⟩ := List.mem_iff_getElem?.1 ha
 have hlt := (List.getElem?_eq_some_iff.1 hi).1
 obtain ⟨c, hc⟩ : ∃ c, s.Tins[i]? = some c := ⟨_, List.getElem?_eq_getElem (by rw [← ht.n]; exact hlt)⟩
 have h1 := ht.tin i a c hi hc p
 have h2 := hs.low p c (List.mem_of_getElem? hc)
 have h3 := hs.high p c (List.mem_of_getElem? hc)
 omega
end Go.V
end
section
namespace Go.V
open Go Go.Proofs
def zds (x1_b : List Int) : List Int → Int → Option (LOut (Bool) (Unit))
 | [], c0_5 => some (.go ())
 | e0 :: p0, c0_5 => Option.bind (getI x1_b c0_5) (fun x1 => cond (e0 != x1) (some (.ret false)) (zds x1_b p0 (c0_5 + 1)))
def zgg (x0_a : List Int) (x1_b : List Int) : Option (Bool) := cond ((List.length x0_a : Int) != (List.length x1_b : Int)) (some false) (cond (lenOk x0_a) (lbind (zds x1_b x0_a 0) (fun r3 => some r3) (fun c2 => some true) (fun _ _ => none)) none)
theorem zor (x0_a : List Int) (x1_b : List Int) (R : Bool) (h : zgg x0_a x1_b = some R) : VPure Tryz.prog G0 47 [.sl (cellsL eI x0_a) (List.length x0_a) false, .sl (cellsL eI x1_b) (List.length x1_b) false] (.tree (.lit (.bool R))) := by
 refine VPure.runR mixed Tryz.call47 Tryz.func47 rfl (by simp [Tryz.ntmps47]; kernel_rfl) ?_
 obtain ⟨KF, h, kF, kN⟩ := zam h
 simp only [zgg] at h
 cases d4 : ((List.length x0_a : Int) != (List.length x1_b : Int))
 ·simp only [d4, hs] at h
  cases g6 : (lenOk x0_a)
  ·simp only [g6, hs] at h
   exact absurd h kN
  simp only [g6, hs] at h
  simp only [vz, tyf, d4, g6, nm, seval]
  obtain ⟨K5, h, kR5, kG5, kB5, kN5⟩ := zbc h kN
  obtain ⟨f5, hf5, h⟩ := call2 h
  obtain ⟨I5, hI5⟩ : ∃ I : Nat → St → Prop, I = (fun m st => ∃ (p5 : List Int) (c5_5 : Int), m = List.length p5 ∧ 0 ≤ c5_5 ∧ List.drop (Int.toNat c5_5) x0_a = p5 ∧ st.df = [] ∧ 7 ≤ st.nx ∧ st.tm 0 = .sl (cellsL eI x0_a) (List.length x0_a) false ∧ st.tm 1 = .sl (cellsL eI x1_b) (List.length x1_b) false ∧ st.tm 5 = .lit (.int .i64 c5_5) ∧ K5 (f5 p5 c5_5)) := ⟨_, rfl⟩
  refine loopK mixed (by kernel_rfl) I5 (List.length x0_a) (by rw [hI5]; refine ⟨x0_a, 0, rfl, Int.le_refl _, rfl, rfl, (show 7 ≤ 7 by omega), ?_, ?_, ?_, h⟩ <;> first | (simp only [ua, d4, nm, seval] <;> rfl) | rfl) ?_
  rintro m ⟨tm, H, nx5, df⟩ hinv
  rw [hI5] at hinv
  obtain ⟨p5, c5_5, rfl, hi5, hp5, hdf, hn5, e7, e8, e9, h⟩ := hinv
  simp only at hdf hn5 e7 e8 e9
  have n10 := zct (m := 7) (b := nx5) (by omega)
  subst hdf hf5
  cases p5 with
  | nil =>
   have d11 : (decide (c5_5 < (List.length x0_a : Int))) = false := zau hi5 hp5
   simp only [zds, hs, reduceCtorEq] at h
   replace h := kG5 _ h
   try dsimp only at h
   try simp only [hs] at h
   try simp only [vz, tyf, d4, g6, n10, e7, e8, e9, d11, nm, seval]
   obtain rfl := kF _ h
   exact zan Tryz.results47 rfl
  | cons e5 p5 =>
   have d12 : (decide (c5_5 < (List.length x0_a : Int))) = true := zbx hi5 hp5
   have o14 := zar hi5 hp5
   have w13 := zcs hi5 hp5 g6
   simp only [zds, hs, reduceCtorEq] at h
   simp only [vz, tyf, d4, g6, n10, e7, e8, e9, d12, (ix29 o14), w13, nm, seval]
   refine zfc (fun tm => tm 0 = .sl (cellsL eI x0_a) (List.length x0_a) false ∧ tm 1 = .sl (cellsL eI x1_b) (List.length x1_b) false ∧ tm 5 = .lit (.int .i64 c5_5) ∧ True) (by refine ⟨e7, e8, e9, trivial⟩ <;> first | (simp only [ua, d4, n10, e7, e8, e9, d12, w13, nm, seval] <;> rfl) | rfl) ?_
   rintro tm ⟨e15, e16, e17, _⟩
   obtain ⟨x18, o19, h⟩ := optI h kN5
   try simp only [hs] at h
   cases d20 : (e5 != x18)
   ·simp only [d20, hs] at h
    simp only [vz, tyf, d4, g6, n10, d12, (ix29 o14), w13, e15, e16, e17, (ix29 o19), d20, nm, seval]
    exact ⟨List.length p5, Nat.lt_succ_self _, by rw [hI5]; refine ⟨p5, c5_5 + 1, rfl, Int.le_trans hi5 (Int.le_add_one (Int.le_refl _)), zbe hi5 hp5, rfl, (show 7 ≤ nx5 + 16 by omega), e15, e16, ?_, h⟩ <;> first | (simp only [ua, d4, n10, d12, w13, e15, e16, e17, d20, nm, seval] <;> rfl) | rfl⟩
   simp only [d20, hs] at h
   try simp only [vz, tyf, d4, g6, n10, d12, (ix29 o14), w13, e15, e16, e17, (ix29 o19), d20, nm, seval]
   replace h := kR5 _ h
   try dsimp only at h
   obtain rfl := kF _ h
   exact zan Tryz.results47 rfl
 simp only [d4, hs] at h
 try simp only [vz, tyf, d4, nm, seval]
 obtain rfl := kF _ h
 exact zan Tryz.results47 rfl
end Go.V
end
section
namespace Go.V
open Go
theorem zahy (b : List Int) : ∀ (l : List Int) (c : Int), 0 ≤ c → b.drop c.toNat = l → zds b l c = some (.go ())
 | [], c, _, _ => rfl
 | e :: l, c, h0, hd => by
  have ih := zahy b l (c + 1) (by omega) (zbe h0 hd)
  simp only [zds, zar h0 hd, Option.bind_some, bne_self_eq_false, cond_false, ih]
theorem zafr {l : List Int} (h : lenOk l = true) : zgg l l = some true := by
 unfold zgg
 rw [zahy l l 0 (Int.le_refl _) rfl, h]
 simp [lbind]
theorem MixOk.lenOk {s : Gs} (hs : ShOk s) {q : List Int} (h : MixOk s q) : lenOk q = true := by
 have := hs.n; have := h.n
 unfold Go.V.lenOk
 rw [decide_eq_true_eq]
 omega
theorem zqk {s : Gs} (hs : ShOk s) {q : List Int} (hm : MixOk s q) : zbn ⟨s, q⟩ = some (needI s q) := by
 have h0 := zagg hs hm .p0
 have h1 := zagg hs hm .p1
 have h2 := zagg hs hm .p2
 simp only [P3.i] at h0 h1 h2
 unfold zbn
 rw [h0, h1, h2]
 rfl
def bestL (s : Gs) : List (List Int) → List Int → List Int
 | [], b => b
 | q :: L, b => bestL s L (cond (decide (needI s q < needI s b)) q b)
theorem zalo {s : Gs} (hs : ShOk s) {q b : List Int} (hq : MixOk s q) (hb : MixOk s b) : zdi ⟨s, q⟩ ⟨s, b⟩ = some (decide (needI s q < needI s b)) := by
 unfold zdi
 rw [zqk hs hq, zqk hs hb]
 rfl
theorem zabv {s : Gs} : ∀ (L : List (List Int)) (b : List Int), (∀ q ∈ L, MixOk s q) → MixOk s b → MixOk s (bestL s L b)
 | [], b, _, hb => hb
 | q :: L, b, h, hb => by
  rw [bestL]
  refine zabv L _ (fun x hx => h x (List.mem_cons_of_mem _ hx)) ?_
  cases decide (needI s q < needI s b)
  ·exact hb
  ·exact h q (List.mem_cons_self ..)
theorem zud {s : Gs} (hs : ShOk s) : ∀ (L : List (List Int)) (b : List Int), (∀ q ∈ L, MixOk s q) → MixOk s b → bestO zdi (L.map (Gm.mk s)) (⟨s, b⟩, true) = some (⟨s, bestL s L b⟩, true)
 | [], b, _, hb => rfl
 | q :: L, b, h, hb => by
  have hq := h q (List.mem_cons_self ..)
  have hL : ∀ x ∈ L, MixOk s x := fun x hx => h x (List.mem_cons_of_mem _ hx)
  rw [List.map_cons, bestO, bestL, zalo hs hq hb]
  cases hd : decide (needI s q < needI s b)
  ·exact zud hs L b hL hb
  ·exact zud hs L q hL hq
theorem zua {s : Gs} (hs : ShOk s) : ∀ (L : List (List Int)) (c : Int) (b : List Int), (∀ q ∈ L, MixOk s q) → MixOk s b → zcz s L c b = some (.go (bestL s L b))
 | [], c, b, _, hb => rfl
 | q :: L, c, b, h, hb => by
  have hq := h q (List.mem_cons_self ..)
  have hL : ∀ x ∈ L, MixOk s x := fun x hx => h x (List.mem_cons_of_mem _ hx)
  rw [zcz, bestL, zqf hs hq, zqf hs hb, Option.bind_some, Option.bind_some]
  cases hd : decide (needI s q < needI s b)
  ·exact zua hs L _ b hL hb
  ·exact zua hs L _ q hL hq
theorem zqz {s : Gs} (hs : ShOk s) : ∃ q L, allL s = q :: L := by
 have hN := hs.n
 obtain ⟨d, hd⟩ : ∃ d, s.Tins.length = d + 1 := ⟨s.Tins.length - 1, by omega⟩
 have := zxh (parts := 1) d [] (by simp only [sumL]; omega)
 unfold allL
 rw [hd]
 simp only [allR]
 revert this
 cases mixL 1 (d + 1) [] with
 | nil => intro h; cases h
 | cons q L => intro _; exact ⟨q, _, rfl⟩
def nearL (s : Gs) : List Int := match allL s with
 | [] => []
 | q :: L => bestL s L q
theorem zvo {s : Gs} (hs : ShOk s) : MixOk s (nearL s) := by
 obtain ⟨q, L, hL⟩ := zqz hs
 have h : ∀ x ∈ allL s, MixOk s x := fun x hx => (zvm hs).1 hx
 unfold nearL
 rw [hL] at h ⊢
 exact zabv L q (fun x hx => h x (List.mem_cons_of_mem _ hx)) (h q (List.mem_cons_self ..))
theorem zapi {s : Gs} (h : lenOk s.Tins = true) : zga s = some (cond (sheetB s) (nearL s, needI s (nearL s), 0) ([], 0, 2)) := by
 unfold zga
 rw [zabi h, Option.bind_some]
 cases hb : sheetB s with
 | false => rfl
 | true =>
  have hs := ShOk.of hb
  obtain ⟨q, L, hL⟩ := zqz hs
  have h : ∀ x ∈ allL s, MixOk s x := fun x hx => (zvm hs).1 hx
  have hn := zvo hs
  have hnl : nearL s = bestL s L q := by unfold nearL; rw [hL]
  rw [hL] at h
  rw [hnl] at hn ⊢
  rw [zzj hs, hL]
  simp only [cond_true, Option.bind_some, List.map_cons, bestO, cond_false, zud hs L q (fun x hx => h x (List.mem_cons_of_mem _ hx)) (h q (List.mem_cons_self ..)), zqk hs hn]
theorem zajz {s : Gs} (hs : ShOk s) : zgm s = some (nearL s, needI s (nearL s)) := by
 obtain ⟨q, L, hL⟩ := zqz hs
 have hl := zabr hs
 have h : ∀ x ∈ allL s, MixOk s x := fun x hx => (zvm hs).1 hx
 have hn := zvo hs
 have hnl : nearL s = bestL s L q := by unfold nearL; rw [hL]
 unfold zgm
 rw [zapq hs, Option.bind_some]
 rw [hL] at h hl ⊢
 rw [hnl] at hn ⊢
 have h2 := zua hs (q :: L) 0 q h (h q (List.mem_cons_self ..))
 have h3 : bestL s (q :: L) q = bestL s L q := by
  rw [bestL, decide_eq_false (Int.lt_irrefl _)]
  rfl
 rw [show getI (q :: L) 0 = some q from rfl, Option.bind_some, hl, cond_true, h2, h3]
 simp only [lbind, zqf hs hn, Option.bind_some]
end Go.V
end
