/- Part of a proof. -/
import Derived.Test.YtmhlghgbfmcdaaaGreatDoorG4bj
set_option linter.all false
set_option maxRecDepth 4000
set_option maxHeartbeats 40000000
section
namespace Go.V
open Go Go.Proofs IntKind
def goB (b : Bool) : Option (LOut Bool Unit) := cond b (some (.go ())) (some (.ret false))
theorem tI (a b : Bool) : goB (a && b) = cond a (goB b) (some (.ret false)) := by cases a <;> rfl
theorem csome (a b : Bool) : cond a (some b) (some false) = some (a && b) := by cases a <;> rfl
theorem qs {X : Type} (b : Bool) (kr : Bool → Option X) (kg : Unit → Option X) (kb : Nat → Unit → Option X) : lbind (goB b) kr kg kb = cond b (kg ()) (kr false) := by cases b <;> rfl
def inB (a b n : Int) : Bool := decide (a ≤ n) && decide (n ≤ b)
theorem tJ {a b n : Int} : inB a b n = true ↔ a ≤ n ∧ n ≤ b := by simp [inB]
theorem gz {n : Int} (h1 : -9223372036854775808 ≤ n) (h2 : n < 9223372036854775808) : i64.wrap n = n := IntWalk.i64_in _ (by omega)
theorem yw {α : Type} {xs : List α} (h : aK xs = true) : xs.length < 9223372036854775808 := by simpa [aK] using h
theorem gj {α : Type} {xs : List α} (h : xs.length < 9223372036854775808) : aK xs = true := by simpa [aK] using h
theorem B3 {α : Type} {xs : List α} {i : Int} {x : α} (h : getI xs i = some x) : x ∈ xs := by
 unfold getI at h
 split at h
 ·exact List.mem_of_getElem? h
 ·cases h
theorem oJ {α : Type} {xs : List α} {i : Int} {x : α} (h : getI xs i = some x) : 0 ≤ i ∧ i < xs.length := ⟨(mS h).1, (mS h).2.1⟩
end Go.V
end
section
namespace Go.V
def mxL (l : List Int) : Int := l.foldl max 0
theorem Lg : ∀ (l : List Int) (a b : Int), l.foldl max a ≤ b ↔ a ≤ b ∧ ∀ x ∈ l, x ≤ b
 | [], a, b => by simp
 | x :: l, a, b => by
  simp only [List.foldl_cons, Lg l, List.mem_cons, forall_eq_or_imp]
  constructor
  ·rintro ⟨h1, h2⟩; exact ⟨by omega, by omega, h2⟩
  ·rintro ⟨h1, h2, h3⟩; exact ⟨by omega, h3⟩
theorem oL {l : List Int} {b : Int} : mxL l ≤ b ↔ 0 ≤ b ∧ ∀ x ∈ l, x ≤ b := Lg l 0 b
theorem B4 (l : List Int) : 0 ≤ mxL l := (oL.1 (Int.le_refl _)).1
theorem B5 {l : List Int} {x : Int} (h : x ∈ l) : x ≤ mxL l := (oL.1 (Int.le_refl _)).2 x h
def frF (hd : Nat → Int) (e : Nat → Int) (h : Int) : Nat → Int
 | 0 => 0
 | k + 1 => if hd k = h then e k else frF hd e h k
theorem Lh {hd : Nat → Int} {e e' : Nat → Int} {h : Int} : ∀ {n : Nat}, (∀ k, k < n → e k = e' k) → frF hd e h n = frF hd e' h n
 | 0, _ => rfl
 | n + 1, hk => by
  unfold frF
  rw [hk n (Nat.lt_succ_self _), Lh (fun k h => hk k (Nat.lt_succ_of_lt h))]
theorem tK {hd : Nat → Int} {e : Nat → Int} {h b : Int} (hb : 0 ≤ b) : ∀ {n : Nat}, (∀ k, k < n → hd k = h → e k ≤ b) → frF hd e h n ≤ b
 | 0, _ => hb
 | n + 1, hk => by
  unfold frF
  split
  ·rename_i hh; exact hk n (Nat.lt_succ_self _) hh
  ·exact tK hb (fun k h1 h2 => hk k (Nat.lt_succ_of_lt h1) h2)
def bgF (hd : Nat → Int) (nd : Nat → List Int) (e : Nat → Int) (s : Nat) : Int := max (max 0 (frF hd e (hd s) s)) (mxL ((nd s).map fun k => e k.toNat))
def En (hd : Nat → Int) (nd : Nat → List Int) (d : Nat → Int) : Nat → Nat → Int
 | 0, _ => 0
 | f + 1, s => bgF hd nd (En hd nd d f) s + d s
def NdOk (nd : Nat → List Int) : Prop := ∀ s, ∀ k ∈ nd s, 0 ≤ k ∧ k.toNat < s
theorem Li {hd : Nat → Int} {nd : Nat → List Int} {e e' : Nat → Int} {s : Nat} (hn : NdOk nd) (h : ∀ k, k < s → e k = e' k) : bgF hd nd e s = bgF hd nd e' s := by
 unfold bgF
 rw [Lh h]
 congr 2
 exact List.map_congr_left fun k hk => h _ (hn s k hk).2
theorem tL {hd : Nat → Int} {nd : Nat → List Int} {d : Nat → Int} (hn : NdOk nd) : ∀ (f g s : Nat), s < f → s < g → En hd nd d f s = En hd nd d g s
 | 0, _, _, h, _ => absurd h (Nat.not_lt_zero _)
 | _ + 1, 0, _, _, h => absurd h (Nat.not_lt_zero _)
 | f + 1, g + 1, s, h1, h2 => by
  unfold En
  rw [Li hn (e' := En hd nd d g) (fun k hk => tL hn f g k (by omega) (by omega))]
def Ed (hd : Nat → Int) (nd : Nat → List Int) (d : Nat → Int) (s : Nat) : Int := En hd nd d (s + 1) s
def Bg (hd : Nat → Int) (nd : Nat → List Int) (d : Nat → Int) (s : Nat) : Int := bgF hd nd (Ed hd nd d) s
theorem Ed_eq {hd : Nat → Int} {nd : Nat → List Int} {d : Nat → Int} (hn : NdOk nd) (s : Nat) : Ed hd nd d s = Bg hd nd d s + d s := by
 show bgF hd nd (En hd nd d s) s + d s = _
 rw [Li hn (e' := Ed hd nd d) (fun k hk => tL hn s (k + 1) k hk (Nat.lt_succ_self _))]
 rfl
theorem B7 (hd : Nat → Int) (nd : Nat → List Int) (e : Nat → Int) (s : Nat) : 0 ≤ bgF hd nd e s := by
 have := B4 ((nd s).map fun k => e k.toNat)
 unfold bgF
 omega
section
variable {hd : Nat → Int} {nd : Nat → List Int} {d d' : Nat → Int}
theorem Bg_nn (s : Nat) : 0 ≤ Bg hd nd d s := B7 _ _ _ _
theorem Ed_nn (hn : NdOk nd) (h : ∀ k, 0 ≤ d k) (s : Nat) : 0 ≤ Ed hd nd d s := by
 rw [Ed_eq hn]
 have := Bg_nn (hd := hd) (nd := nd) (d := d) s
 have := h s
 omega
theorem yg (hn : NdOk nd) {s : Nat} {k : Int} (hk : k ∈ nd s) : Ed hd nd d k.toNat ≤ Bg hd nd d s := by
 have := B5 (List.mem_map_of_mem (f := fun k : Int => Ed hd nd d k.toNat) hk)
 unfold Bg bgF
 omega
theorem tM (s : Nat) : frF hd (Ed hd nd d) (hd s) s ≤ Bg hd nd d s := by
 unfold Bg bgF
 omega
theorem B8 (hn : NdOk nd) (h0 : ∀ k, 0 ≤ d k) {h : Int} : ∀ {n k : Nat}, k < n → hd k = h → Ed hd nd d k ≤ frF hd (Ed hd nd d) h n
 | 0, _, hk, _ => absurd hk (Nat.not_lt_zero _)
 | n + 1, k, hk, hh => by
  unfold frF
  split
  ·rename_i hn'
   rcases Nat.lt_or_ge k n with h1 | h1
   ·have h2 := B8 hn h0 h1 hh
    have h3 := tM (hd := hd) (nd := nd) (d := d) n
    rw [hn'] at h3
    rw [Ed_eq hn n]
    have := h0 n
    omega
   ·have : k = n := by omega
    subst this
    exact Int.le_refl _
  ·rename_i hn'
   have : k ≠ n := by rintro rfl; exact hn' hh
   exact B8 hn h0 (by omega) hh
theorem rM (hn : NdOk nd) (h0 : ∀ k, 0 ≤ d k) {k s : Nat} (hk : k < s) (hh : hd k = hd s) : Ed hd nd d k ≤ Bg hd nd d s := Int.le_trans (B8 hn h0 hk hh) (tM s)
theorem rL (hn : NdOk nd) {s : Nat} {b : Int} (hb : 0 ≤ b) (h1 : ∀ k, k < s → hd k = hd s → Ed hd nd d k ≤ b) (h2 : ∀ k ∈ nd s, Ed hd nd d k.toNat ≤ b) : Bg hd nd d s ≤ b := by
 have h3 := tK (hd := hd) (e := Ed hd nd d) (h := hd s) (n := s) hb h1
 have h4 : mxL ((nd s).map fun k => Ed hd nd d k.toNat) ≤ b := by
  refine oL.2 ⟨hb, ?_⟩
  intro x hx
  obtain ⟨k, hk, rfl⟩ := List.mem_map.1 hx
  exact h2 k hk
 unfold Bg bgF
 omega
theorem Ed_bd (hn : NdOk nd) {m : Int} (h0 : ∀ k, 0 ≤ d k ∧ d k ≤ m) : ∀ (f s : Nat), s < f → Ed hd nd d s ≤ m * (s + 1)
 | 0, _, h => absurd h (Nat.not_lt_zero _)
 | f + 1, s, h => by
  have hm : 0 ≤ m := Int.le_trans (h0 0).1 (h0 0).2
  have key : ∀ k, k < s → Ed hd nd d k ≤ m * s := fun k hk => by
   refine Int.le_trans (Ed_bd hn h0 f k (by omega)) ?_
   exact Int.mul_le_mul_of_nonneg_left (by omega) hm
  have h1 : Bg hd nd d s ≤ m * s := rL hn (Int.mul_nonneg hm (by omega)) (fun k hk _ => key k hk) (fun k hk => key _ (hn s k hk).2)
  rw [Ed_eq hn, Int.mul_add]
  have := h0 s
  omega
theorem rK (hn : NdOk nd) {m : Int} (h0 : ∀ k, 0 ≤ d k ∧ d k ≤ m) (s : Nat) : Ed hd nd d s ≤ m * (s + 1) := Ed_bd hn h0 (s + 1) s (Nat.lt_succ_self _)
def tkF (e : Nat → Int) : Nat → Int
 | 0 => 0
 | n + 1 => max (tkF e n) (e n)
theorem sm (e : Nat → Int) : ∀ n, 0 ≤ tkF e n
 | 0 => Int.le_refl _
 | n + 1 => by have := sm e n; unfold tkF; omega
end
end Go.V
end
section
namespace Go.V
open Go Go.Proofs IntKind
def mT (aM : Int) (cV : Int) (aY : Int) : Option (Bool) := cond (decide (aM ≤ cV)) (some (decide (cV ≤ aY))) (some false)
theorem tN (aM : Int) (cV : Int) (aY : Int) (R : Bool) (h : mT aM cV aY = some R) : aj Tryz.prog G0 95 [.lit (.int .i64 aM), .lit (.int .i64 cV), .lit (.int .i64 aY)] (.tree (.lit (.bool R))) := by
 refine aj.runR mixed Tryz.call95 Tryz.func95 rfl (by simp [Tryz.ntmps95]; kernel_rfl) ?_
 obtain ⟨KF, h, kF, kN⟩ := cT h
 simp only [mT] at h
 cases d1 : (decide (aM ≤ cV))
 ·simp only [d1, hs] at h
  try simp only [vz, tyf, d1, nm, seval]
  obtain rfl := kF _ h
  exact bx Tryz.results95 rfl
 simp only [d1, hs] at h
 try simp only [vz, tyf, d1, nm, seval]
 obtain rfl := kF _ h
 exact bx Tryz.results95 rfl
def qt (aM : Int) (aY : Int) : List Int → Int → Option (LOut (Bool) (Unit))
 | [], mU => some (.go ())
 | e0 :: p0, mU => Option.bind (mT aM e0 aY) (fun r1 => cond (r1) (qt aM aY p0 (mU + 1)) (some (.ret false)))
def qu (aM : Int) (au : List Int) (aY : Int) : Option (Bool) := cond (aK au) (lbind (qt aM aY au 0) (fun r3 => some r3) (fun c2 => some true) (fun _ _ => none)) none
theorem Lj (aM : Int) (au : List Int) (aY : Int) (R : Bool) (h : qu aM au aY = some R) : aj Tryz.prog G0 103 [.lit (.int .i64 aM), .sl (ae eI au) (List.length au) false, .lit (.int .i64 aY)] (.tree (.lit (.bool R))) := by
 refine aj.runR mixed Tryz.call103 Tryz.func103 rfl (by simp [Tryz.ntmps103]; kernel_rfl) ?_
 obtain ⟨KF, h, kF, kN⟩ := cT h
 simp only [qu] at h
 cases g5 : (aK au)
 ·simp only [g5, hs] at h
  exact absurd h kN
 simp only [g5, hs] at h
 simp only [vz, tyf, g5, nm, seval]
 obtain ⟨K4, h, PL, PM, SI, PN⟩ := fS h kN
 obtain ⟨f4, PO, h⟩ := call2 h
 obtain ⟨I4, BA⟩ : ∃ I : Nat → St → Prop, I = (fun m st => ∃ (p4 : List Int) (dK : Int), m = List.length p4 ∧ 0 ≤ dK ∧ List.drop (Int.toNat dK) au = p4 ∧ st.df = [] ∧ 4 ≤ st.nx ∧ st.tm 0 = .lit (.int .i64 aM) ∧ st.tm 2 = .lit (.int .i64 aY) ∧ st.tm 9 = .sl (ae eI au) (List.length au) false ∧ st.tm 10 = .lit (.int .i64 (List.length au : Int)) ∧ st.tm 11 = .lit (.int .i64 dK) ∧ K4 (f4 p4 dK)) := ⟨_, rfl⟩
 refine loopK mixed (by kernel_rfl) I4 (List.length au) (by rw [BA]; refine ⟨au, 0, rfl, Int.le_refl _, rfl, rfl, (show 4 ≤ 4 by omega), ?_, ?_, ?_, ?_, ?_, h⟩ <;> first | (simp only [ua, nm, seval] <;> rfl) | rfl) ?_
 rintro m ⟨tm, H, eJ, df⟩ hinv
 rw [BA] at hinv
 obtain ⟨p4, dK, rfl, qv, tO, hdf, PQ, e6, e7, e8, e9, b6, h⟩ := hinv
 simp only at hdf PQ e6 e7 e8 e9 b6
 have jJ := fq (m := 4) (b := eJ) (by omega)
 subst hdf PO
 cases p4 with
 | nil =>
  have mh : (decide (dK < (List.length au : Int))) = false := fB qv tO
  simp only [qt, hs, reduceCtorEq] at h
  replace h := PM _ h
  try dsimp only at h
  try simp only [hs] at h
  try simp only [vz, tyf, g5, jJ, e6, e7, e8, e9, b6, mh, nm, seval]
  obtain rfl := kF _ h
  exact bx Tryz.results103 rfl
 | cons e4 p4 =>
  have bQ : (decide (dK < (List.length au : Int))) = true := fC qv tO
  have kV := ei qv tO
  have tP := fu qv tO g5
  simp only [qt, hs, reduceCtorEq] at h
  obtain ⟨Lk, kQ, h⟩ := optI h PN
  try simp only [hs] at h
  simp only [vz, tyf, g5, jJ, e6, e7, e8, e9, b6, bQ, (aR kV), tP, nm, seval]
  refine ktA (tN _ _ _ _ kQ) ?_
  refine bY (fun tm => tm 0 = .lit (.int .i64 aM) ∧ tm 2 = .lit (.int .i64 aY) ∧ tm 9 = .sl (ae eI au) (List.length au) false ∧ tm 10 = .lit (.int .i64 (List.length au : Int)) ∧ tm 11 = .lit (.int .i64 dK) ∧ tm 18 = .lit (.bool Lk) ∧ True) (by refine ⟨e6, e7, e8, e9, b6, ?_, trivial⟩ <;> first | (simp only [ua, jJ, e6, e7, e8, e9, b6, bQ, tP, nm, seval] <;> rfl) | rfl) ?_
  rintro tm ⟨eD, eT, fa, gi, gX, eE, _⟩
  cases fz : (Lk)
  ·simp only [fz, hs] at h
   try simp only [vz, tyf, g5, jJ, bQ, (aR kV), tP, eD, eT, fa, gi, gX, eE, fz, nm, seval]
   replace h := PL _ h
   try dsimp only at h
   obtain rfl := kF _ h
   exact bx Tryz.results103 rfl
  simp only [fz, hs] at h
  simp only [vz, tyf, g5, jJ, bQ, (aR kV), tP, eD, eT, fa, gi, gX, eE, fz, nm, seval]
  exact ⟨List.length p4, Nat.lt_succ_self _, by rw [BA]; refine ⟨p4, dK + 1, rfl, Int.le_trans qv (Int.le_add_one (Int.le_refl _)), cn qv tO, rfl, (show 4 ≤ eJ + 11 by omega), eD, eT, fa, gi, ?_, (by first | exact h | (simp only [bQ, fz]; exact h))⟩ <;> first | (simp only [ua, jJ, bQ, tP, eD, eT, fa, gi, gX, eE, fz, nm, seval] <;> rfl) | rfl⟩
def wO (b5 : List Int) : Option (Bool) := Option.bind (mT 1 (List.length b5 : Int) 3) (fun r1 => cond (r1) (Option.bind (qu 0 b5 60) (fun r2 => some r2)) (some false))
theorem PR (b5 : List Int) (R : Bool) (h : wO b5 = some R) : aj Tryz.prog G0 101 [.sl (ae eI b5) (List.length b5) false] (.tree (.lit (.bool R))) := by
 refine aj.runR mixed Tryz.call101 Tryz.func101 rfl (by simp [Tryz.ntmps101]; kernel_rfl) ?_
 obtain ⟨KF, h, kF, kN⟩ := cT h
 simp only [wO] at h
 obtain ⟨r3, o4, h⟩ := optI h kN
 try simp only [hs] at h
 simp only [vz, tyf, nm, seval]
 refine ktA (tN _ _ _ _ o4) ?_
 refine bY (fun tm => tm 0 = .sl (ae eI b5) (List.length b5) false ∧ tm 5 = .lit (.bool r3) ∧ True) (by refine ⟨?_, ?_, trivial⟩ <;> first | (simp only [ua, nm, seval] <;> rfl) | rfl) ?_
 rintro tm ⟨e5, e6, _⟩
 cases d7 : (r3)
 ·simp only [d7, hs] at h
  try simp only [vz, tyf, e5, e6, d7, nm, seval]
  obtain rfl := kF _ h
  exact bx Tryz.results101 rfl
 simp only [d7, hs] at h
 obtain ⟨r8, o9, h⟩ := optI h kN
 try simp only [hs] at h
 simp only [vz, tyf, e5, e6, d7, nm, seval]
 refine ktA (Lj _ _ _ _ o9) ?_
 refine bY (fun tm => tm 6 = .lit (.bool true) ∧ tm 8 = .lit (.bool r8) ∧ True) (by refine ⟨?_, ?_, trivial⟩ <;> first | (simp only [ua, e5, e6, d7, nm, seval] <;> rfl) | rfl) ?_
 rintro tm ⟨b6, bM, _⟩
 try simp only [vz, tyf, d7, b6, bM, nm, seval]
 obtain rfl := kF _ h
 exact bx Tryz.results101 rfl
def wP (an : GBk) (dL : Int) : Option (Bool) := Option.bind (mT 0 dL (i64.wrap ((List.length an.Boards : Int) - 1))) (fun r1 => some r1)
theorem PS (an : GBk) (dL : Int) (R : Bool) (h : wP an dL = some R) : aj Tryz.prog G0 71 [.agg (cGBk an), .lit (.int .i64 dL)] (.tree (.lit (.bool R))) := by
 refine aj.runR mixed Tryz.call71 Tryz.func71 rfl (by simp [Tryz.ntmps71]; kernel_rfl) ?_
 obtain ⟨KF, h, kF, kN⟩ := cT h
 simp only [wP] at h
 obtain ⟨r2, o3, h⟩ := optI h kN
 try simp only [hs] at h
 simp only [vz, tyf, nm, seval]
 refine ktA (tN _ _ _ _ o3) ?_
 refine bY (fun tm => tm 10 = .lit (.bool r2) ∧ True) (by refine ⟨?_, trivial⟩ <;> first | (simp only [ua, nm, seval] <;> rfl) | rfl) ?_
 rintro tm ⟨e4, _⟩
 try simp only [vz, tyf, e4, nm, seval]
 obtain rfl := kF _ h
 exact bx Tryz.results71 rfl
def tQ (aM : Int) (fI : GSpan) (aY : Int) : Option (Bool) := cond (decide (aM ≤ fI.Low)) (cond (decide (fI.Low ≤ fI.High)) (some (decide (fI.High ≤ aY))) (some false)) (some false)
theorem PT (aM : Int) (fI : GSpan) (aY : Int) (R : Bool) (h : tQ aM fI aY = some R) : aj Tryz.prog G0 133 [.lit (.int .i64 aM), .agg (cGSpan fI), .lit (.int .i64 aY)] (.tree (.lit (.bool R))) := by
 refine aj.runR mixed Tryz.call133 Tryz.func133 rfl (by simp [Tryz.ntmps133]; kernel_rfl) ?_
 obtain ⟨KF, h, kF, kN⟩ := cT h
 simp only [tQ] at h
 cases d1 : (decide (aM ≤ fI.Low))
 ·simp only [d1, hs] at h
  try simp only [vz, tyf, d1, nm, seval]
  obtain rfl := kF _ h
  exact bx Tryz.results133 rfl
 simp only [d1, hs] at h
 cases d2 : (decide (fI.Low ≤ fI.High))
 ·simp only [d2, hs] at h
  try simp only [vz, tyf, d1, d2, nm, seval]
  obtain rfl := kF _ h
  exact bx Tryz.results133 rfl
 simp only [d2, hs] at h
 try simp only [vz, tyf, d1, d2, nm, seval]
 obtain rfl := kF _ h
 exact bx Tryz.results133 rfl
def qw (au : List Int) : List Int → Int → Option (LOut (Bool) (Unit))
 | [], dG => some (.go ())
 | e0 :: p0, dG => Option.bind (getI au (i64.wrap (dG - 1))) (fun x1 => cond (decide (e0 ≤ x1)) (some (.ret false)) (qw au p0 (dG + 1)))
def tR (aM : Int) (au : List Int) (aY : Int) : Option (Bool) := cond (aK au) (cond (leB 0 1) (lbind (qw au (List.drop (Int.toNat 1) au) 1) (fun r4 => some r4) (fun c2 => Option.bind (qu aM au aY) (fun r3 => some r3)) (fun _ _ => none)) none) none
theorem PU (aM : Int) (au : List Int) (aY : Int) (R : Bool) (h : tR aM au aY = some R) : aj Tryz.prog G0 134 [.lit (.int .i64 aM), .sl (ae eI au) (List.length au) false, .lit (.int .i64 aY)] (.tree (.lit (.bool R))) := by
 refine aj.runR mixed Tryz.call134 Tryz.func134 rfl (by simp [Tryz.ntmps134]; kernel_rfl) ?_
 obtain ⟨KF, h, kF, kN⟩ := cT h
 simp only [tR] at h
 cases g6 : (aK au)
 ·simp only [g6, hs] at h
  exact absurd h kN
 simp only [g6, hs] at h
 cases g7 : (leB 0 1)
 ·simp only [g7, hs] at h
  exact absurd h kN
 simp only [g7, hs] at h
 simp only [vz, tyf, g6, g7, nm, seval]
 obtain ⟨K5, h, vS, pO, JC, mg⟩ := fS h kN
 obtain ⟨f5, rQ, h⟩ := call2 h
 obtain ⟨I5, ji⟩ : ∃ I : Nat → St → Prop, I = (fun m st => ∃ (p5 : List Int) (bL : Int), m = List.length p5 ∧ 0 ≤ bL ∧ List.drop (Int.toNat bL) au = p5 ∧ st.df = [] ∧ 2 ≤ st.nx ∧ st.tm 0 = .lit (.int .i64 aM) ∧ st.tm 1 = .sl (ae eI au) (List.length au) false ∧ st.tm 2 = .lit (.int .i64 aY) ∧ st.tm 7 = .lit (.int .i64 bL) ∧ K5 (f5 p5 bL)) := ⟨_, rfl⟩
 refine loopK mixed (by kernel_rfl) I5 (List.length (List.drop (Int.toNat 1) au)) (by rw [ji]; refine ⟨List.drop (Int.toNat 1) au, 1, rfl, of_decide_eq_true g7, rfl, rfl, (show 2 ≤ 2 by omega), ?_, ?_, ?_, ?_, h⟩ <;> first | (simp only [ua, nm, seval] <;> rfl) | rfl) ?_
 rintro m ⟨tm, H, i7, df⟩ hinv
 rw [ji] at hinv
 obtain ⟨p5, bL, rfl, eh, fp, hdf, rR, e8, e9, b6, bM, h⟩ := hinv
 simp only at hdf rR e8 e9 b6 bM
 have mV := fq (m := 2) (b := i7) (by omega)
 subst hdf rQ
 cases p5 with
 | nil =>
  have bQ : (decide (bL < (List.length au : Int))) = false := fB eh fp
  simp only [qw, hs, reduceCtorEq] at h
  replace h := pO _ h
  try dsimp only at h
  try simp only [hs] at h
  obtain ⟨cZ, kV, h⟩ := optI h kN
  try simp only [hs] at h
  simp only [vz, tyf, g6, g7, mV, e8, e9, b6, bM, bQ, nm, seval]
  refine ktA (Lj _ _ _ _ kV) ?_
  refine bY (fun tm => tm 27 = .lit (.bool cZ) ∧ True) (by refine ⟨?_, trivial⟩ <;> first | (simp only [ua, mV, e8, e9, b6, bM, bQ, nm, seval] <;> rfl) | rfl) ?_
  rintro tm ⟨bz, _⟩
  try simp only [vz, tyf, g6, g7, mV, bQ, bz, nm, seval]
  obtain rfl := kF _ h
  exact bx Tryz.results134 rfl
 | cons e5 p5 =>
  have lC : (decide (bL < (List.length au : Int))) = true := fC eh fp
  have lX := ei eh fp
  have tS := fu eh fp g6
  simp only [qw, hs, reduceCtorEq] at h
  simp only [vz, tyf, g6, g7, mV, e8, e9, b6, bM, lC, (aR lX), tS, nm, seval]
  refine km (fun tm => tm 0 = .lit (.int .i64 aM) ∧ tm 1 = .sl (ae eI au) (List.length au) false ∧ tm 2 = .lit (.int .i64 aY) ∧ tm 7 = .lit (.int .i64 bL) ∧ True) (by refine ⟨e8, e9, b6, bM, trivial⟩ <;> first | (simp only [ua, mV, e8, e9, b6, bM, lC, tS, nm, seval] <;> rfl) | rfl) ?_
  rintro tm ⟨fa, gi, gX, eE, _⟩
  obtain ⟨PV, qx, h⟩ := optI h mg
  try simp only [hs] at h
  cases fJ : (decide (e5 ≤ PV))
  ·simp only [fJ, hs] at h
   simp only [vz, tyf, g6, g7, mV, lC, (aR lX), tS, fa, gi, gX, eE, (aR qx), fJ, nm, seval]
   exact ⟨List.length p5, Nat.lt_succ_self _, by rw [ji]; refine ⟨p5, bL + 1, rfl, Int.le_trans eh (Int.le_add_one (Int.le_refl _)), cn eh fp, rfl, (show 2 ≤ i7 + 17 by omega), fa, gi, gX, ?_, (by first | exact h | (simp only [lC, fJ]; exact h))⟩ <;> first | (simp only [ua, mV, lC, tS, fa, gi, gX, eE, fJ, nm, seval] <;> rfl) | rfl⟩
  simp only [fJ, hs] at h
  try simp only [vz, tyf, g6, g7, mV, lC, (aR lX), tS, fa, gi, gX, eE, (aR qx), fJ, nm, seval]
  replace h := vS _ h
  try dsimp only at h
  obtain rfl := kF _ h
  exact bx Tryz.results134 rfl
def qy (an : GBk) : List GBs → Int → Option (LOut (Bool) (Unit))
 | [], bD => some (.go ())
 | e0 :: p0, bD => Option.bind (wP an e0.Board) (fun r2 => cond (r2) (Option.bind (tQ 1 e0.Hours 6) (fun r3 => cond (r3) (Option.bind (tR 0 e0.Needs (i64.wrap (bD - 1))) (fun r4 => cond (r4) (qy an p0 (bD + 1)) (some (.ret false)))) (some (.ret false)))) (some (.ret false)))
def wQ (an : GBk) : Option (Bool) := Option.bind (mT 1 (List.length an.Strokes : Int) 6) (fun r1 => cond (r1) (cond (aK an.Strokes) (lbind (qy an an.Strokes 0) (fun r6 => some r6) (fun c5 => some true) (fun _ _ => none)) none) (some false))
theorem PW (an : GBk) (R : Bool) (h : wQ an = some R) : aj Tryz.prog G0 102 [.agg (cGBk an)] (.tree (.lit (.bool R))) := by
 refine aj.runR mixed Tryz.call102 Tryz.func102 rfl (by simp [Tryz.ntmps102]; kernel_rfl) ?_
 obtain ⟨KF, h, kF, kN⟩ := cT h
 simp only [wQ] at h
 obtain ⟨r7, o8, h⟩ := optI h kN
 try simp only [hs] at h
 simp only [vz, tyf, nm, seval]
 refine ktA (tN _ _ _ _ o8) ?_
 refine bY (fun tm => tm 1 = .ptr 0 0 ∧ tm 8 = .lit (.bool r7) ∧ True) (by refine ⟨?_, ?_, trivial⟩ <;> first | (simp only [ua, nm, seval] <;> rfl) | rfl) ?_
 rintro tm ⟨e9, b6, _⟩
 cases fA : (r7)
 ·simp only [fA, hs] at h
  try simp only [vz, tyf, e9, b6, fA, nm, seval]
  obtain rfl := kF _ h
  exact bx Tryz.results102 rfl
 simp only [fA, hs] at h
 cases mW : (aK an.Strokes)
 ·simp only [mW, hs] at h
  exact absurd h kN
 simp only [mW, hs] at h
 simp only [vz, tyf, e9, b6, fA, mW, nm, seval]
 obtain ⟨PX, h, oM, BC, PY, oN⟩ := fS h kN
 obtain ⟨PZ, BD, h⟩ := call2 h
 obtain ⟨Qa, oO⟩ : ∃ I : Nat → St → Prop, I = (fun m st => ∃ (mX : List GBs) (bI : Int), m = List.length mX ∧ 0 ≤ bI ∧ List.drop (Int.toNat bI) an.Strokes = mX ∧ st.df = [] ∧ 11 ≤ st.nx ∧ st.H 0 = some (.cells (some 25) (cGBk an)) ∧ st.tm 1 = .ptr 0 0 ∧ st.tm 11 = .sl (ae cGBs an.Strokes) (List.length an.Strokes) false ∧ st.tm 12 = .lit (.int .i64 (List.length an.Strokes : Int)) ∧ st.tm 13 = .lit (.int .i64 bI) ∧ PX (PZ mX bI)) := ⟨_, rfl⟩
 refine loopK mixed (by kernel_rfl) Qa (List.length an.Strokes) (by rw [oO]; refine ⟨an.Strokes, 0, rfl, Int.le_refl _, rfl, rfl, (show 11 ≤ 11 by omega), ?_, e9, ?_, ?_, ?_, h⟩ <;> first | (simp only [ua, e9, b6, fA, nm, seval] <;> rfl) | rfl) ?_
 rintro m ⟨tm, H, lJ, df⟩ hinv
 rw [oO] at hinv
 obtain ⟨mX, bI, rfl, iX, jS, hdf, BE, qz, dw, bz, bT, eD, h⟩ := hinv
 simp only at hdf BE qz dw bz bT eD
 have tT := fq (m := 11) (b := lJ) (by omega)
 subst hdf BD
 cases mX with
 | nil =>
  have ej : (decide (bI < (List.length an.Strokes : Int))) = false := fB iX jS
  simp only [qy, hs, reduceCtorEq] at h
  replace h := BC _ h
  try dsimp only at h
  try simp only [hs] at h
  try simp only [vz, tyf, fA, mW, tT, dw, bz, bT, eD, qz, ej, nm, seval]
  obtain rfl := kF _ h
  exact bx Tryz.results102 rfl
 | cons bB mX =>
  have jF : (decide (bI < (List.length an.Strokes : Int))) = true := fC iX jS
  have jn := ei iX jS
  have wR := fu iX jS mW
  simp only [qy, hs, reduceCtorEq] at h
  obtain ⟨oq, qx, h⟩ := optI h oN
  try simp only [hs] at h
  simp only [vz, tyf, fA, mW, tT, dw, bz, bT, eD, qz, jF, (aZ jn), wR, nm, seval]
  refine ktA (PS _ _ _ qx) ?_
  refine bY (fun tm => tm 1 = .ptr 0 0 ∧ tm 3 = .lit (.int .i64 bI) ∧ tm 4 = .ptr (lJ + 4) 0 ∧ tm 11 = .sl (ae cGBs an.Strokes) (List.length an.Strokes) false ∧ tm 12 = .lit (.int .i64 (List.length an.Strokes : Int)) ∧ tm 13 = .lit (.int .i64 bI) ∧ tm 21 = .lit (.bool oq) ∧ True) (by refine ⟨dw, ?_, ?_, bz, bT, eD, ?_, trivial⟩ <;> first | (simp only [ua, fA, tT, dw, bz, bT, eD, qz, jF, wR, nm, seval] <;> rfl) | rfl) ?_
  rintro tm ⟨g0, bJ, dt, da, cF, cz, du, _⟩
  cases jT : (oq)
  ·simp only [jT, hs] at h
   have jo := And.intro fA (And.intro mW (And.intro tT (And.intro qz (And.intro jF (And.intro wR jT)))))
   try simp only [vz, tyf, jo, (aZ jn), g0, bJ, dt, da, cF, cz, du, nm, seval]
   replace h := oM _ h
   try dsimp only at h
   obtain rfl := kF _ h
   exact bx Tryz.results102 rfl
  simp only [jT, hs] at h
  have lK := And.intro fA (And.intro mW (And.intro tT (And.intro qz (And.intro jF (And.intro wR jT)))))
  obtain ⟨Ll, Qb, h⟩ := optI h oN
  try simp only [hs] at h
  simp only [vz, tyf, lK, (aZ jn), g0, bJ, dt, da, cF, cz, du, nm, seval]
  refine ktA (PT _ _ _ _ Qb) ?_
  refine bY (fun tm => tm 1 = .ptr 0 0 ∧ tm 3 = .lit (.int .i64 bI) ∧ tm 4 = .ptr (lJ + 4) 0 ∧ tm 11 = .sl (ae cGBs an.Strokes) (List.length an.Strokes) false ∧ tm 12 = .lit (.int .i64 (List.length an.Strokes : Int)) ∧ tm 13 = .lit (.int .i64 bI) ∧ tm 23 = .lit (.bool false) ∧ tm 26 = .lit (.bool Ll) ∧ True) (by refine ⟨g0, bJ, dt, da, cF, cz, ?_, ?_, trivial⟩ <;> first | (simp only [ua, lK, g0, bJ, dt, da, cF, cz, du, nm, seval] <;> rfl) | rfl) ?_
  rintro tm ⟨dp, BF, BG, wS, dg, dh, cR, di, _⟩
  cases lL : (Ll)
  ·simp only [lL, hs] at h
   try simp only [vz, tyf, lK, (aZ jn), dp, BF, BG, wS, dg, dh, cR, di, lL, nm, seval]
   replace h := oM _ h
   try dsimp only at h
   obtain rfl := kF _ h
   exact bx Tryz.results102 rfl
  simp only [lL, hs] at h
  obtain ⟨Lm, Qc, h⟩ := optI h oN
  try simp only [hs] at h
  simp only [vz, tyf, lK, (aZ jn), dp, BF, BG, wS, dg, dh, cR, di, lL, nm, seval]
  refine ktA (PU _ _ _ _ Qc) ?_
  refine bY (fun tm => tm 1 = .ptr 0 0 ∧ tm 11 = .sl (ae cGBs an.Strokes) (List.length an.Strokes) false ∧ tm 12 = .lit (.int .i64 (List.length an.Strokes : Int)) ∧ tm 13 = .lit (.int .i64 bI) ∧ tm 29 = .lit (.bool false) ∧ tm 34 = .lit (.bool Lm) ∧ True) (by refine ⟨dp, wS, dg, dh, ?_, ?_, trivial⟩ <;> first | (simp only [ua, lK, dp, BF, BG, wS, dg, dh, cR, di, lL, nm, seval] <;> rfl) | rfl) ?_
  rintro tm ⟨f8, i6, fQ, jy, jg, jz, _⟩
  cases q9 : (Lm)
  ·simp only [q9, hs] at h
   try simp only [vz, tyf, lK, (aZ jn), lL, f8, i6, fQ, jy, jg, jz, q9, nm, seval]
   replace h := oM _ h
   try dsimp only at h
   obtain rfl := kF _ h
   exact bx Tryz.results102 rfl
  simp only [q9, hs] at h
  simp only [vz, tyf, lK, (aZ jn), lL, f8, i6, fQ, jy, jg, jz, q9, nm, seval]
  exact ⟨List.length mX, Nat.lt_succ_self _, by rw [oO]; refine ⟨mX, bI + 1, rfl, Int.le_trans iX (Int.le_add_one (Int.le_refl _)), cn iX jS, rfl, (show 11 ≤ lJ + 28 by omega), ?_, f8, i6, fQ, ?_, (by first | exact h | (simp only [lK, lL, q9]; exact h))⟩ <;> first | (simp only [ua, lK, lL, f8, i6, fQ, jy, jg, jz, q9, nm, seval] <;> rfl) | rfl⟩
def mu (an : GBk) : Option (Bool) := Option.bind (mT 0 an.Apprentices 3) (fun r1 => cond (r1) (Option.bind (wO an.Boards) (fun r2 => cond (r2) (Option.bind (wQ an) (fun r3 => some r3)) (some false))) (some false))
theorem JO (an : GBk) (R : Bool) (h : mu an = some R) : aj Tryz.prog G0 67 [.agg (cGBk an)] (.tree (.lit (.bool R))) := by
 refine aj.runR mixed Tryz.call67 Tryz.func67 rfl (by simp [Tryz.ntmps67]; kernel_rfl) ?_
 obtain ⟨KF, h, kF, kN⟩ := cT h
 simp only [mu] at h
 obtain ⟨r4, o5, h⟩ := optI h kN
 try simp only [hs] at h
 simp only [vz, tyf, nm, seval]
 refine ktA (tN _ _ _ _ o5) ?_
 refine bY (fun tm => tm 1 = .ptr 0 0 ∧ tm 5 = .lit (.bool r4) ∧ True) (by refine ⟨?_, ?_, trivial⟩ <;> first | (simp only [ua, nm, seval] <;> rfl) | rfl) ?_
 rintro tm ⟨e6, e7, _⟩
 cases d8 : (r4)
 ·simp only [d8, hs] at h
  try simp only [vz, tyf, e6, e7, d8, nm, seval]
  obtain rfl := kF _ h
  exact bx Tryz.results67 rfl
 simp only [d8, hs] at h
 obtain ⟨r9, fP, h⟩ := optI h kN
 try simp only [hs] at h
 simp only [vz, tyf, e6, e7, d8, nm, seval]
 refine ktA (PR _ _ fP) ?_
 refine bY (fun tm => tm 1 = .ptr 0 0 ∧ tm 6 = .lit (.bool true) ∧ tm 9 = .lit (.bool r9) ∧ True) (by refine ⟨e6, ?_, ?_, trivial⟩ <;> first | (simp only [ua, e6, e7, d8, nm, seval] <;> rfl) | rfl) ?_
 rintro tm ⟨bM, bB, bw, _⟩
 cases bZ : (r9)
 ·simp only [bZ, hs] at h
  try simp only [vz, tyf, d8, bM, bB, bw, bZ, nm, seval]
  obtain rfl := kF _ h
  exact bx Tryz.results67 rfl
 simp only [bZ, hs] at h
 obtain ⟨wT, iQ, h⟩ := optI h kN
 try simp only [hs] at h
 simp only [vz, tyf, d8, bM, bB, bw, bZ, nm, seval]
 refine ktA (PW _ _ iQ) ?_
 refine bY (fun tm => tm 11 = .lit (.bool true) ∧ tm 13 = .lit (.bool wT) ∧ True) (by refine ⟨?_, ?_, trivial⟩ <;> first | (simp only [ua, d8, bM, bB, bw, bZ, nm, seval] <;> rfl) | rfl) ?_
 rintro tm ⟨bT, eD, _⟩
 try simp only [vz, tyf, d8, bZ, bT, eD, nm, seval]
 obtain rfl := kF _ h
 exact bx Tryz.results67 rfl


def nL  : List GBs → Int → Option (LOut (Bool) (Unit))
 | [], ct => some (.go ())
 | e0 :: p0, ct => cond (decide (ct < 9)) (cond (decide ((List.length e0.Needs : Int) > 8)) (some (.ret false)) (nL p0 (ct + 1))) (some (.go ()))
def pJ (an : GBk) : Option (Bool) := cond (aK an.Strokes) (lbind (nL an.Strokes 0) (fun r2 => some r2) (fun c1 => cond (decide ((List.length an.Boards : Int) ≤ 5)) (some (decide ((List.length an.Strokes : Int) ≤ 8))) (some false)) (fun _ _ => none)) none
theorem Nk (an : GBk) (R : Bool) (h : pJ an = some R) : aj Tryz.prog G0 18 [.agg (cGBk an)] (.tree (.lit (.bool R))) := by
 refine aj.runR mixed Tryz.call18 Tryz.func18 rfl (by simp [Tryz.ntmps18]; kernel_rfl) ?_
 obtain ⟨KF, h, kF, kN⟩ := cT h
 simp only [pJ] at h
 cases g4 : (aK an.Strokes)
 ·simp only [g4, hs] at h
  exact absurd h kN
 simp only [g4, hs] at h
 simp only [vz, tyf, g4, nm, seval]
 obtain ⟨K3, h, pQ, j1, vU, mi⟩ := fS h kN
 obtain ⟨f3, lj, h⟩ := call2 h
 obtain ⟨I3, fv⟩ : ∃ I : Nat → St → Prop, I = (fun m st => ∃ (p3 : List GBs) (bU : Int), m = List.length p3 ∧ 0 ≤ bU ∧ List.drop (Int.toNat bU) an.Strokes = p3 ∧ st.df = [] ∧ 3 ≤ st.nx ∧ st.H 0 = some (.cells (some 25) (cGBk an)) ∧ st.tm 1 = .ptr 0 0 ∧ st.tm 3 = .lit (.int .i64 bU) ∧ K3 (f3 p3 bU)) := ⟨_, rfl⟩
 refine loopK mixed (by kernel_rfl) I3 (List.length an.Strokes) (by rw [fv]; refine ⟨an.Strokes, 0, rfl, Int.le_refl _, rfl, rfl, (show 3 ≤ 3 by omega), ?_, ?_, ?_, h⟩ <;> first | (simp only [ua, nm, seval] <;> rfl) | rfl) ?_
 rintro m ⟨tm, H, eG, df⟩ hinv
 rw [fv] at hinv
 obtain ⟨p3, bU, rfl, ca, cH, hdf, lk, H5, e6, e7, h⟩ := hinv
 simp only at hdf lk H5 e6 e7
 have n8 := fq (m := 3) (b := eG) (by omega)
 subst hdf lj
 cases p3 with
 | nil =>
  have d9 : (decide (bU < (List.length an.Strokes : Int))) = false := fB ca cH
  simp only [nL, hs, reduceCtorEq] at h
  replace h := j1 _ h
  try dsimp only at h
  try simp only [hs] at h
  cases gG : (decide ((List.length an.Boards : Int) ≤ 5))
  ·simp only [gG, hs] at h
   try simp only [vz, tyf, g4, n8, e6, e7, H5, d9, gG, nm, seval]
   obtain rfl := kF _ h
   exact bx Tryz.results18 rfl
  simp only [gG, hs] at h
  try simp only [vz, tyf, g4, n8, e6, e7, H5, d9, gG, nm, seval]
  obtain rfl := kF _ h
  exact bx Tryz.results18 rfl
 | cons e3 p3 =>
  have fA : (decide (bU < (List.length an.Strokes : Int))) = true := fC ca cH
  have kK := ei ca cH
  have oe := fu ca cH g4
  simp only [nL, hs, reduceCtorEq] at h
  cases bZ : (decide (bU < 9))
  ·simp only [bZ, hs] at h
   replace h := j1 _ h
   try dsimp only at h
   try simp only [hs] at h
   cases dR : (decide ((List.length an.Boards : Int) ≤ 5))
   ·simp only [dR, hs] at h
    have Qd := And.intro g4 (And.intro n8 (And.intro H5 (And.intro fA (And.intro oe (And.intro bZ dR)))))
    try simp only [vz, tyf, Qd, e6, e7, (aZ kK), nm, seval]
    obtain rfl := kF _ h
    exact bx Tryz.results18 rfl
   simp only [dR, hs] at h
   have Qe := And.intro g4 (And.intro n8 (And.intro H5 (And.intro fA (And.intro oe (And.intro bZ dR)))))
   try simp only [vz, tyf, Qe, e6, e7, (aZ kK), nm, seval]
   obtain rfl := kF _ h
   exact bx Tryz.results18 rfl
  simp only [bZ, hs] at h
  cases iR : (decide ((List.length e3.Needs : Int) > 8))
  ·simp only [iR, hs] at h
   have iW := And.intro g4 (And.intro n8 (And.intro H5 (And.intro fA (And.intro oe (And.intro bZ iR)))))
   simp only [vz, tyf, iW, e6, e7, (aZ kK), nm, seval]
   exact ⟨List.length p3, Nat.lt_succ_self _, by rw [fv]; refine ⟨p3, bU + 1, rfl, Int.le_trans ca (Int.le_add_one (Int.le_refl _)), cn ca cH, rfl, (show 3 ≤ eG + 20 by omega), ?_, e6, ?_, (by first | exact h | (simp only [iW]; exact h))⟩ <;> first | (simp only [ua, iW, e6, e7, nm, seval] <;> rfl) | rfl⟩
  simp only [iR, hs] at h
  have Qf := And.intro g4 (And.intro n8 (And.intro H5 (And.intro fA (And.intro oe (And.intro bZ iR)))))
  try simp only [vz, tyf, Qf, e6, e7, (aZ kK), nm, seval]
  replace h := pQ _ h
  try dsimp only at h
  obtain rfl := kF _ h
  exact bx Tryz.results18 rfl
def jU (iY : Int) (ff : Int) (eX : Int) : Option (Bool) := cond (decide (iY ≥ ff)) (some (decide (iY ≤ eX))) (some false)
theorem mY (iY : Int) (ff : Int) (eX : Int) (R : Bool) (h : jU iY ff eX = some R) : aj Tryz.prog G0 73 [.lit (.int .i64 iY), .lit (.int .i64 ff), .lit (.int .i64 eX)] (.tree (.lit (.bool R))) := by
 refine aj.runR mixed Tryz.call73 Tryz.func73 rfl (by simp [Tryz.ntmps73]; kernel_rfl) ?_
 obtain ⟨KF, h, kF, kN⟩ := cT h
 simp only [jU] at h
 cases d1 : (decide (iY ≥ ff))
 ·simp only [d1, hs] at h
  try simp only [vz, tyf, d1, nm, seval]
  obtain rfl := kF _ h
  exact bx Tryz.results73 rfl
 simp only [d1, hs] at h
 try simp only [vz, tyf, d1, nm, seval]
 obtain rfl := kF _ h
 exact bx Tryz.results73 rfl
def oP (br : Int) (x1 : GBs) : List Int → Int → Option (LOut (Bool) (Unit))
 | [], cD => some (.go ())
 | e0 :: p0, cD => Option.bind (jU e0 0 (i64.wrap (br - 1))) (fun r5 => cond (r5) (cond (decide (cD > 0)) (Option.bind (getI x1.Needs (i64.wrap (cD - 1))) (fun x6 => cond (decide (e0 ≤ x6)) (some (.ret false)) (oP br x1 p0 (cD + 1)))) (oP br x1 p0 (cD + 1))) (some (.ret false)))
def tU (an : GBk) (br : Int) : Option (Bool) := Option.bind (getI an.Strokes br) (fun x1 => Option.bind (jU x1.Board 0 (i64.wrap ((List.length an.Boards : Int) - 1))) (fun r2 => cond (r2) (Option.bind (jU x1.Hours.Low 1 6) (fun r3 => cond (r3) (Option.bind (jU x1.Hours.High x1.Hours.Low 6) (fun r4 => cond (r4) (cond (aK x1.Needs) (lbind (oP br x1 x1.Needs 0) (fun r8 => some r8) (fun c7 => some true) (fun _ _ => none)) none) (some false))) (some false))) (some false)))
theorem Qg (an : GBk) (br : Int) (R : Bool) (h : tU an br = some R) : aj Tryz.prog G0 74 [.agg (cGBk an), .lit (.int .i64 br)] (.tree (.lit (.bool R))) := by
 refine aj.runR mixed Tryz.call74 Tryz.func74 rfl (by simp [Tryz.ntmps74]; kernel_rfl) ?_
 obtain ⟨KF, h, kF, kN⟩ := cT h
 simp only [tU] at h
 obtain ⟨x9, fP, h⟩ := optI h kN
 try simp only [hs] at h
 obtain ⟨rV, mj, h⟩ := optI h kN
 try simp only [hs] at h
 simp only [vz, tyf, (aZ fP), nm, seval]
 refine ktA (mY _ _ _ _ mj) ?_
 refine bY (fun tm => tm 1 = .lit (.int .i64 br) ∧ tm 5 = .ptr 7 0 ∧ tm 18 = .lit (.bool rV) ∧ True) (by refine ⟨?_, ?_, ?_, trivial⟩ <;> first | (simp only [ua, nm, seval] <;> rfl) | rfl) ?_
 rintro tm ⟨bw, bX, dw, _⟩
 cases ix : (rV)
 ·simp only [ix, hs] at h
  try simp only [vz, tyf, (aZ fP), bw, bX, dw, ix, nm, seval]
  obtain rfl := kF _ h
  exact bx Tryz.results74 rfl
 simp only [ix, hs] at h
 obtain ⟨jM, sY, h⟩ := optI h kN
 try simp only [hs] at h
 simp only [vz, tyf, (aZ fP), bw, bX, dw, ix, nm, seval]
 refine ktA (mY _ _ _ _ sY) ?_
 refine bY (fun tm => tm 1 = .lit (.int .i64 br) ∧ tm 5 = .ptr 7 0 ∧ tm 20 = .lit (.bool false) ∧ tm 24 = .lit (.bool jM) ∧ True) (by refine ⟨bw, bX, ?_, ?_, trivial⟩ <;> first | (simp only [ua, bw, bX, dw, ix, nm, seval] <;> rfl) | rfl) ?_
 rintro tm ⟨eT, fa, gi, gX, _⟩
 cases hX : (jM)
 ·simp only [hX, hs] at h
  try simp only [vz, tyf, (aZ fP), ix, eT, fa, gi, gX, hX, nm, seval]
  obtain rfl := kF _ h
  exact bx Tryz.results74 rfl
 simp only [hX, hs] at h
 obtain ⟨oq, qx, h⟩ := optI h kN
 try simp only [hs] at h
 simp only [vz, tyf, (aZ fP), ix, eT, fa, gi, gX, hX, nm, seval]
 refine ktA (mY _ _ _ _ qx) ?_
 refine bY (fun tm => tm 1 = .lit (.int .i64 br) ∧ tm 5 = .ptr 7 0 ∧ tm 27 = .lit (.bool false) ∧ tm 34 = .lit (.bool oq) ∧ True) (by refine ⟨eT, fa, ?_, ?_, trivial⟩ <;> first | (simp only [ua, ix, eT, fa, gi, gX, hX, nm, seval] <;> rfl) | rfl) ?_
 rintro tm ⟨g0, bJ, dt, da, _⟩
 cases lM : (oq)
 ·simp only [lM, hs] at h
  try simp only [vz, tyf, (aZ fP), ix, hX, g0, bJ, dt, da, lM, nm, seval]
  obtain rfl := kF _ h
  exact bx Tryz.results74 rfl
 simp only [lM, hs] at h
 cases oQ : (aK x9.Needs)
 ·simp only [oQ, hs] at h
  exact absurd h kN
 simp only [oQ, hs] at h
 simp only [vz, tyf, (aZ fP), ix, hX, g0, bJ, dt, da, lM, oQ, nm, seval]
 obtain ⟨Qh, h, tV, BI, Qi, tW⟩ := fS h kN
 obtain ⟨Qj, BJ, h⟩ := call2 h
 obtain ⟨Qk, lN⟩ : ∃ I : Nat → St → Prop, I = (fun m st => ∃ (kR : List Int) (cB : Int), m = List.length kR ∧ 0 ≤ cB ∧ List.drop (Int.toNat cB) x9.Needs = kR ∧ st.df = [] ∧ 35 ≤ st.nx ∧ st.H 7 = some (.cells (some 49) (cGBs x9)) ∧ st.tm 1 = .lit (.int .i64 br) ∧ st.tm 5 = .ptr 7 0 ∧ st.tm 6 = .lit (.int .i64 cB) ∧ Qh (Qj kR cB)) := ⟨_, rfl⟩
 refine loopK mixed (by kernel_rfl) Qk (List.length x9.Needs) (by rw [lN]; refine ⟨x9.Needs, 0, rfl, Int.le_refl _, rfl, rfl, (show 35 ≤ 35 by omega), ?_, g0, bJ, ?_, h⟩ <;> first | (simp only [ua, ix, hX, g0, bJ, dt, da, lM, nm, seval] <;> rfl) | rfl) ?_
 rintro m ⟨tm, H, oR, df⟩ hinv
 rw [lN] at hinv
 obtain ⟨kR, cB, rfl, gS, iZ, hdf, BK, tX, cv, dm, dS, h⟩ := hinv
 simp only at hdf BK tX cv dm dS
 have wU := fq (m := 35) (b := oR) (by omega)
 subst hdf BJ
 cases kR with
 | nil =>
  have nD : (decide (cB < (List.length x9.Needs : Int))) = false := fB gS iZ
  simp only [oP, hs, reduceCtorEq] at h
  replace h := BI _ h
  try dsimp only at h
  try simp only [hs] at h
  try simp only [vz, tyf, (aZ fP), ix, hX, lM, oQ, wU, cv, dm, dS, tX, nD, nm, seval]
  obtain rfl := kF _ h
  exact bx Tryz.results74 rfl
 | cons cz kR =>
  have cG : (decide (cB < (List.length x9.Needs : Int))) = true := fC gS iZ
  have mD := ei gS iZ
  have BL := fu gS iZ oQ
  simp only [oP, hs, reduceCtorEq] at h
  simp only [vz, tyf, (aZ fP), ix, hX, lM, oQ, wU, cv, dm, dS, tX, cG, (aR mD), BL, nm, seval]
  refine km (fun tm => tm 1 = .lit (.int .i64 br) ∧ tm 5 = .ptr 7 0 ∧ tm 6 = .lit (.int .i64 cB) ∧ True) (by refine ⟨cv, dm, dS, trivial⟩ <;> first | (simp only [ua, ix, hX, lM, wU, cv, dm, dS, tX, cG, BL, nm, seval] <;> rfl) | rfl) ?_
  rintro tm ⟨dg, dh, cR, _⟩
  have kS := And.intro ix (And.intro hX (And.intro lM (And.intro oQ (And.intro wU (And.intro tX (And.intro cG BL))))))
  obtain ⟨Ln, Ql, h⟩ := optI h tW
  try simp only [hs] at h
  simp only [vz, tyf, kS, (aZ fP), (aR mD), dg, dh, cR, nm, seval]
  refine dktA (mY _ _ _ _ Ql) ?_
  refine bY (fun tm => tm 1 = .lit (.int .i64 br) ∧ tm 5 = .ptr 7 0 ∧ tm 6 = .lit (.int .i64 cB) ∧ tm 51 = .lit (.bool Ln) ∧ True) (by refine ⟨dg, dh, cR, ?_, trivial⟩ <;> first | (simp only [ua, kS, dg, dh, cR, nm, seval] <;> rfl) | rfl) ?_
  rintro tm ⟨cS, f8, i6, fQ, _⟩
  cases gO : (Ln)
  ·simp only [gO, hs] at h
   try simp only [vz, tyf, kS, (aZ fP), (aR mD), cS, f8, i6, fQ, gO, nm, seval]
   replace h := tV _ h
   try dsimp only at h
   obtain rfl := kF _ h
   exact bx Tryz.results74 rfl
  simp only [gO, hs] at h
  cases lO : (decide (cB > 0))
  ·simp only [lO, hs] at h
   simp only [vz, tyf, kS, (aZ fP), (aR mD), cS, f8, i6, fQ, gO, lO, nm, seval]
   exact ⟨List.length kR, Nat.lt_succ_self _, by rw [lN]; refine ⟨kR, cB + 1, rfl, Int.le_trans gS (Int.le_add_one (Int.le_refl _)), cn gS iZ, rfl, (show 35 ≤ oR + 35 by omega), ?_, cS, f8, ?_, (by first | exact h | (simp only [kS, gO, lO]; exact h))⟩ <;> first | (simp only [ua, kS, cS, f8, i6, fQ, gO, lO, nm, seval] <;> rfl) | rfl⟩
  simp only [lO, hs] at h
  obtain ⟨Qm, Lo, h⟩ := optI h tW
  try simp only [hs] at h
  cases qA : (decide (cz ≤ Qm))
  ·simp only [qA, hs] at h
   simp only [vz, tyf, kS, (aZ fP), (aR mD), cS, f8, i6, fQ, gO, lO, (aR Lo), qA, nm, seval]
   exact ⟨List.length kR, Nat.lt_succ_self _, by rw [lN]; refine ⟨kR, cB + 1, rfl, Int.le_trans gS (Int.le_add_one (Int.le_refl _)), cn gS iZ, rfl, (show 35 ≤ oR + 35 by omega), ?_, cS, f8, ?_, (by first | exact h | (simp only [kS, gO, lO, qA]; exact h))⟩ <;> first | (simp only [ua, kS, cS, f8, i6, fQ, gO, lO, qA, nm, seval] <;> rfl) | rfl⟩
  simp only [qA, hs] at h
  try simp only [vz, tyf, kS, (aZ fP), (aR mD), cS, f8, i6, fQ, gO, lO, (aR Lo), qA, nm, seval]
  replace h := tV _ h
  try dsimp only at h
  obtain rfl := kF _ h
  exact bx Tryz.results74 rfl
def qB (an : GBk) : List GBs → Int → Option (LOut (Bool) (Unit))
 | [], oS => some (.go ())
 | e1 :: p1, oS => Option.bind (tU an oS) (fun r6 => cond (r6) (qB an p1 (oS + 1)) (some (.ret false)))
def qC  : List Int → Int → Option (LOut (Bool) (Unit))
 | [], ct => some (.go ())
 | e0 :: p0, ct => Option.bind (jU e0 0 60) (fun r4 => cond (r4) (qC p0 (ct + 1)) (some (.ret false)))
def rn (an : GBk) : Option (Bool) := Option.bind (jU an.Apprentices 0 3) (fun r1 => cond (r1) (Option.bind (jU (List.length an.Boards : Int) 1 3) (fun r2 => cond (r2) (Option.bind (jU (List.length an.Strokes : Int) 1 6) (fun r3 => cond (r3) (cond (aK an.Boards) (lbind (qC an.Boards 0) (fun r9 => some r9) (fun c5 => cond (aK an.Strokes) (lbind (qB an an.Strokes 0) (fun r8 => some r8) (fun c7 => some true) (fun _ _ => none)) none) (fun _ _ => none)) none) (some false))) (some false))) (some false))
theorem Nn (an : GBk) (R : Bool) (h : rn an = some R) : aj Tryz.prog G0 24 [.agg (cGBk an)] (.tree (.lit (.bool R))) := by
 refine aj.runR mixed Tryz.call24 Tryz.func24 rfl (by simp [Tryz.ntmps24]; kernel_rfl) ?_
 obtain ⟨KF, h, kF, kN⟩ := cT h
 simp only [rn] at h
 obtain ⟨Lp, th, h⟩ := optI h kN
 try simp only [hs] at h
 simp only [vz, tyf, nm, seval]
 refine ktA (mY _ _ _ _ th) ?_
 refine bY (fun tm => tm 1 = .ptr 0 0 ∧ tm 7 = .lit (.bool Lp) ∧ True) (by refine ⟨?_, ?_, trivial⟩ <;> first | (simp only [ua, nm, seval] <;> rfl) | rfl) ?_
 rintro tm ⟨bB, bw, _⟩
 cases bZ : (Lp)
 ·simp only [bZ, hs] at h
  try simp only [vz, tyf, bB, bw, bZ, nm, seval]
  obtain rfl := kF _ h
  exact bx Tryz.results24 rfl
 simp only [bZ, hs] at h
 obtain ⟨wT, iQ, h⟩ := optI h kN
 try simp only [hs] at h
 simp only [vz, tyf, bB, bw, bZ, nm, seval]
 refine ktA (mY _ _ _ _ iQ) ?_
 refine bY (fun tm => tm 1 = .ptr 0 0 ∧ tm 9 = .lit (.bool false) ∧ tm 13 = .lit (.bool wT) ∧ True) (by refine ⟨bB, ?_, ?_, trivial⟩ <;> first | (simp only [ua, bB, bw, bZ, nm, seval] <;> rfl) | rfl) ?_
 rintro tm ⟨bT, eD, eT, _⟩
 cases ej : (wT)
 ·simp only [ej, hs] at h
  try simp only [vz, tyf, bZ, bT, eD, eT, ej, nm, seval]
  obtain rfl := kF _ h
  exact bx Tryz.results24 rfl
 simp only [ej, hs] at h
 obtain ⟨jN, mH, h⟩ := optI h kN
 try simp only [hs] at h
 simp only [vz, tyf, bZ, bT, eD, eT, ej, nm, seval]
 refine ktA (mY _ _ _ _ mH) ?_
 refine bY (fun tm => tm 1 = .ptr 0 0 ∧ tm 16 = .lit (.bool false) ∧ tm 20 = .lit (.bool jN) ∧ True) (by refine ⟨bT, ?_, ?_, trivial⟩ <;> first | (simp only [ua, bZ, bT, eD, eT, ej, nm, seval] <;> rfl) | rfl) ?_
 rintro tm ⟨eE, hZ, iL, _⟩
 cases fJ : (jN)
 ·simp only [fJ, hs] at h
  try simp only [vz, tyf, bZ, ej, eE, hZ, iL, fJ, nm, seval]
  obtain rfl := kF _ h
  exact bx Tryz.results24 rfl
 simp only [fJ, hs] at h
 cases gQ : (aK an.Boards)
 ·simp only [gQ, hs] at h
  exact absurd h kN
 simp only [gQ, hs] at h
 simp only [vz, tyf, bZ, ej, eE, hZ, iL, fJ, gQ, nm, seval]
 obtain ⟨AY, h, tq, ot, AZ, jP⟩ := fS h kN
 obtain ⟨Ba, ou, h⟩ := call2 h
 obtain ⟨Bc, iu⟩ : ∃ I : Nat → St → Prop, I = (fun m st => ∃ (hU : List Int) (dM : Int), m = List.length hU ∧ 0 ≤ dM ∧ List.drop (Int.toNat dM) an.Boards = hU ∧ st.df = [] ∧ 21 ≤ st.nx ∧ st.H 0 = some (.cells (some 25) (cGBk an)) ∧ st.tm 1 = .ptr 0 0 ∧ st.tm 3 = .lit (.int .i64 dM) ∧ AY (Ba hU dM)) := ⟨_, rfl⟩
 refine loopK mixed (by kernel_rfl) Bc (List.length an.Boards) (by rw [iu]; refine ⟨an.Boards, 0, rfl, Int.le_refl _, rfl, rfl, (show 21 ≤ 21 by omega), ?_, eE, ?_, h⟩ <;> first | (simp only [ua, bZ, ej, eE, hZ, iL, fJ, nm, seval] <;> rfl) | rfl) ?_
 rintro m ⟨tm, H, cE, df⟩ hinv
 rw [iu] at hinv
 obtain ⟨hU, dM, rfl, ja, jV, hdf, ov, jq, cF, cz, h⟩ := hinv
 simp only at hdf ov jq cF cz
 have lP := fq (m := 21) (b := cE) (by omega)
 subst hdf ou
 cases hU with
 | nil =>
  have jT : (decide (dM < (List.length an.Boards : Int))) = false := fB ja jV
  simp only [qC, hs, reduceCtorEq] at h
  replace h := ot _ h
  try dsimp only at h
  try simp only [hs] at h
  cases im : (aK an.Strokes)
  ·simp only [im, hs] at h
   exact absurd h kN
  simp only [im, hs] at h
  simp only [vz, tyf, bZ, ej, fJ, gQ, lP, cF, cz, jq, jT, im, nm, seval]
  obtain ⟨Qn, h, BM, BN, Qo, BO⟩ := fS h kN
  obtain ⟨Qq, BP, h⟩ := call2 h
  obtain ⟨Qr, oT⟩ : ∃ I : Nat → St → Prop, I = (fun m st => ∃ (mZ : List GBs) (dN : Int), m = List.length mZ ∧ 0 ≤ dN ∧ List.drop (Int.toNat dN) an.Strokes = mZ ∧ st.df = [] ∧ cE + 6 ≤ st.nx ∧ st.H 0 = some (.cells (some 25) (cGBk an)) ∧ st.tm 1 = .ptr 0 0 ∧ st.tm 4 = .lit (.int .i64 dN) ∧ Qn (Qq mZ dN)) := ⟨_, rfl⟩
  refine loopK mixed (by kernel_rfl) Qr (List.length an.Strokes) (by rw [oT]; refine ⟨an.Strokes, 0, rfl, Int.le_refl _, rfl, rfl, (show cE + 6 ≤ cE + 6 by omega), ?_, cF, ?_, h⟩ <;> first | (simp only [ua, bZ, ej, fJ, lP, cF, cz, jq, jT, nm, seval] <;> rfl) | rfl) ?_
  rintro m ⟨tm, H, oU, df⟩ hinv
  rw [oT] at hinv
  obtain ⟨mZ, dN, rfl, jb, jW, hdf, BQ, tY, eM, dp, h⟩ := hinv
  simp only at hdf BQ tY eM dp
  have wV := fq (m := 21) (b := oU) (by omega)
  have wW := jk (a := cE) (m := 6) (b := oU) (by omega)
  subst hdf BP
  cases mZ with
  | nil =>
   have iM : (decide (dN < (List.length an.Strokes : Int))) = false := fB jb jW
   simp only [qB, hs, reduceCtorEq] at h
   replace h := BN _ h
   try dsimp only at h
   try simp only [hs] at h
   try simp only [vz, tyf, bZ, ej, fJ, gQ, lP, jT, im, wV, wW, eM, dp, tY, iM, nm, seval]
   obtain rfl := kF _ h
   exact bx Tryz.results24 rfl
  | cons cv mZ =>
   have BR : (decide (dN < (List.length an.Strokes : Int))) = true := fC jb jW
   have BS := ei jb jW
   have BT := fu jb jW im
   simp only [qB, hs, reduceCtorEq] at h
   obtain ⟨Lq, Qs, h⟩ := optI h BO
   try simp only [hs] at h
   simp only [vz, tyf, bZ, ej, fJ, gQ, lP, jT, im, wV, wW, eM, dp, tY, BR, (aZ BS), BT, nm, seval]
   refine ktA (Qg _ _ _ Qs) ?_
   refine bY (fun tm => tm 1 = .ptr 0 0 ∧ tm 4 = .lit (.int .i64 dN) ∧ tm 46 = .lit (.bool Lq) ∧ True) (by refine ⟨eM, dp, ?_, trivial⟩ <;> first | (simp only [ua, bZ, ej, fJ, lP, jT, wV, wW, eM, dp, tY, BR, BT, nm, seval] <;> rfl) | rfl) ?_
   rintro tm ⟨dv, cS, f8, _⟩
   have wX := And.intro bZ (And.intro ej (And.intro fJ (And.intro gQ (And.intro lP (And.intro jT (And.intro im (And.intro wV (And.intro wW (And.intro tY (And.intro BR BT))))))))))
   cases kM : (Lq)
   ·simp only [kM, hs] at h
    try simp only [vz, tyf, wX, (aZ BS), dv, cS, f8, kM, nm, seval]
    replace h := BM _ h
    try dsimp only at h
    obtain rfl := kF _ h
    exact bx Tryz.results24 rfl
   simp only [kM, hs] at h
   simp only [vz, tyf, wX, (aZ BS), dv, cS, f8, kM, nm, seval]
   exact ⟨List.length mZ, Nat.lt_succ_self _, by rw [oT]; refine ⟨mZ, dN + 1, rfl, Int.le_trans jb (Int.le_add_one (Int.le_refl _)), cn jb jW, rfl, (show cE + 6 ≤ oU + 12 by omega), ?_, dv, ?_, (by first | exact h | (simp only [wX, kM]; exact h))⟩ <;> first | (simp only [ua, wX, dv, cS, f8, kM, nm, seval] <;> rfl) | rfl⟩
 | cons bJ hU =>
  have gO : (decide (dM < (List.length an.Boards : Int))) = true := fC ja jV
  have gA := ei ja jV
  have qo := fu ja jV gQ
  simp only [qC, hs, reduceCtorEq] at h
  obtain ⟨Ls, gB, h⟩ := optI h jP
  try simp only [hs] at h
  simp only [vz, tyf, bZ, ej, fJ, gQ, lP, cF, cz, jq, gO, (aR gA), qo, nm, seval]
  refine ktA (mY _ _ _ _ gB) ?_
  refine bY (fun tm => tm 1 = .ptr 0 0 ∧ tm 3 = .lit (.int .i64 dM) ∧ tm 35 = .lit (.bool Ls) ∧ True) (by refine ⟨cF, cz, ?_, trivial⟩ <;> first | (simp only [ua, bZ, ej, fJ, lP, cF, cz, jq, gO, qo, nm, seval] <;> rfl) | rfl) ?_
  rintro tm ⟨kX, dP, dQ, _⟩
  have wY := And.intro bZ (And.intro ej (And.intro fJ (And.intro gQ (And.intro lP (And.intro jq (And.intro gO qo))))))
  cases qD : (Ls)
  ·simp only [qD, hs] at h
   try simp only [vz, tyf, wY, (aR gA), kX, dP, dQ, qD, nm, seval]
   replace h := tq _ h
   try dsimp only at h
   obtain rfl := kF _ h
   exact bx Tryz.results24 rfl
  simp only [qD, hs] at h
  simp only [vz, tyf, wY, (aR gA), kX, dP, dQ, qD, nm, seval]
  exact ⟨List.length hU, Nat.lt_succ_self _, by rw [iu]; refine ⟨hU, dM + 1, rfl, Int.le_trans ja (Int.le_add_one (Int.le_refl _)), cn ja jV, rfl, (show 21 ≤ cE + 15 by omega), ?_, kX, ?_, (by first | exact h | (simp only [wY, qD]; exact h))⟩ <;> first | (simp only [ua, wY, kX, dP, dQ, qD, nm, seval] <;> rfl) | rfl⟩





theorem BU (a n b : Int) : mT a n b = some (inB a b n) := csome _ _
theorem lQ (n a b : Int) : jU n a b = some (inB a b n) := csome _ _
theorem Lt (a b : Int) : ∀ (p : List Int) (c : Int), qt a b p c = goB (p.all (inB a b))
 | [], _ => rfl
 | e :: p, c => by simp only [qt, BU, Option.bind_some, Lt a b p, List.all_cons, tI]
theorem Lu {l : List Int} (hl : l.length < 9223372036854775808) (a b : Int) : qu a l b = some (l.all (inB a b)) := by
 unfold qu
 rw [gj hl, cond_true, Lt, qs]
 exact csome _ _ ▸ by cases l.all (inB a b) <;> rfl
def adjB : List Int → Bool
 | a :: b :: l => decide (a < b) && adjB (b :: l)
 | _ => true
theorem Lv {ns : List Int} (hn : ns.length < 9223372036854775808) : ∀ (p : List Int) (c a : Int), 1 ≤ c → ns.drop (c - 1).toNat = a :: p → qw ns p c = goB (adjB (a :: p))
 | [], _, _, _, _ => rfl
 | e :: p, c, a, hc, hd => by
  have h1 := ei (by omega) hd
  have hb := (oJ h1).2
  have h2 := cn (by omega) hd
  simp only [qw]
  rw [gz (by omega) (by omega), h1, Option.bind_some, Lv hn p (c + 1) e (by omega) (by rw [← h2]; congr 1; omega)]
  have ea : adjB (a :: e :: p) = (decide (a < e) && adjB (e :: p)) := rfl
  rw [ea, tI]
  by_cases h : e ≤ a
  ·rw [decide_eq_true h, decide_eq_false (Int.not_lt.2 h)]; rfl
  ·rw [decide_eq_false h, decide_eq_true (Int.not_le.1 h)]; rfl
theorem BV {l : List Int} (hl : l.length < 9223372036854775808) (a b : Int) : tR a l b = some (adjB l && l.all (inB a b)) := by
 unfold tR
 have hle : leB 0 1 = true := by decide
 rw [gj hl, cond_true, hle, cond_true, Lu hl]
 cases l with
 | nil => rfl
 | cons x p =>
  have := Lv hl p 1 x (Int.le_refl _) rfl
  simp only [Int.reduceToNat, List.drop_succ_cons, List.drop_zero]
  rw [this, qs, Option.bind_some]
  cases adjB (x :: p) <;> rfl
def strokeB (nb : Nat) (n : Int) (s : GBs) : Bool := inB 0 ((nb : Int) - 1) s.Board && ((inB 1 6 s.Hours.Low && inB s.Hours.Low 6 s.Hours.High) && (s.Needs.all (inB 0 (n - 1)) && adjB s.Needs))
def strokesB (nb : Nat) : Int → List GBs → Bool
 | _, [] => true
 | c, s :: l => strokeB nb c s && strokesB nb (c + 1) l
def benchB (b : GBk) : Bool := inB 0 3 b.Apprentices && ((inB 1 3 b.Boards.length && b.Boards.all (inB 0 60)) && (inB 1 6 b.Strokes.length && strokesB b.Boards.length 0 b.Strokes))
structure Len (b : GBk) : Prop where
 bo : b.Boards.length < 9223372036854775808
 st : b.Strokes.length < 9223372036854775808
 nd : ∀ s ∈ b.Strokes, s.Needs.length < 9223372036854775808
theorem BW (a b : Int) (x : GSpan) : tQ a x b = some (inB a b x.Low && inB x.Low b x.High) := by
 unfold tQ inB
 by_cases h1 : a ≤ x.Low <;> by_cases h2 : x.Low ≤ x.High <;> by_cases h3 : x.High ≤ b <;> by_cases h4 : x.Low ≤ b <;> simp [h1, h2, h3, h4] <;> omega
theorem Lw {b : GBk} (hb : b.Boards.length < 9223372036854775808) : ∀ (p : List GBs) (c : Int), 0 ≤ c → c + p.length < 9223372036854775808 → (∀ s ∈ p, s.Needs.length < 9223372036854775808) → qy b p c = goB (strokesB b.Boards.length c p)
 | [], _, _, _, _ => rfl
 | s :: p, c, h0, h1, h2 => by
  simp only [List.length_cons] at h1
  have hs := h2 s (List.mem_cons_self ..)
  simp only [qy, wP, BU, Option.bind_some, BW]
  rw [gz (by omega) (by omega), gz (by omega) (by omega), BV hs, Lw hb p (c + 1) (by omega) (by omega) (fun s hs => h2 s (List.mem_cons_of_mem _ hs))]
  simp only [strokesB, strokeB, tI, Option.bind_some]
  cases inB 0 ((b.Boards.length : Int) - 1) s.Board <;> cases inB 1 6 s.Hours.Low <;> cases inB s.Hours.Low 6 s.Hours.High <;> cases s.Needs.all (inB 0 (c - 1)) <;> cases adjB s.Needs <;> rfl
theorem vP {b : GBk} (h : Len b) : mu b = some (benchB b) := by
 unfold mu benchB wO wQ
 simp only [BU, Option.bind_some, Lu h.bo]
 rw [gj h.st, cond_true, Lw h.bo b.Strokes 0 (Int.le_refl _) (by have := h.st; omega) h.nd, qs]
 cases inB 0 3 b.Apprentices <;> cases inB 1 3 (b.Boards.length : Int) <;> cases b.Boards.all (inB 0 60) <;> cases inB 1 6 (b.Strokes.length : Int) <;> cases strokesB b.Boards.length 0 b.Strokes <;> rfl
def adjF (a : Option Int) : List Int → Bool
 | [] => true
 | e :: l => (match a with | some x => decide (x < e) | none => true) && adjF (some e) l
theorem Lx : ∀ (l : List Int) (a : Int), adjF (some a) l = adjB (a :: l)
 | [], _ => rfl
 | e :: l, a => by unfold adjF adjB; rw [Lx l e]
theorem BX (l : List Int) : adjF none l = adjB l := by
 cases l with
 | nil => rfl
 | cons e l => unfold adjF; rw [Lx l e]; rfl
theorem Ly {n : Int} (hn : -9223372036854775807 ≤ n) (BY : n < 9223372036854775808) {s : GBs} (hl : s.Needs.length < 9223372036854775808) : ∀ (p : List Int) (c : Int) (a : Option Int), 0 ≤ c → s.Needs.drop c.toNat = p → (c = 0 ∧ a = none ∨ 0 < c ∧ getI s.Needs (c - 1) = a ∧ a ≠ none) →
  oP n s p c = goB (p.all (inB 0 (n - 1)) && adjF a p)
 | [], _, _, _, _, _ => rfl
 | e :: p, c, a, h0, hd, ha => by
  have h1 := ei h0 hd
  have hb := (oJ h1).2
  simp only [oP, lQ, Option.bind_some]
  rw [gz (by omega) (by omega), Ly hn BY hl p (c + 1) (some e) (by omega) (cn h0 hd) (.inr ⟨by omega, by rw [show c + 1 - 1 = c by omega]; exact h1, by simp⟩)]
  simp only [List.all_cons, adjF]
  rcases ha with ⟨rfl, rfl⟩ | ⟨hc, ha, hne⟩
  ·cases inB 0 (n - 1) e <;> cases p.all (inB 0 (n - 1)) <;> cases adjF (some e) p <;> rfl
  ·rw [gz (by omega) (by omega), ha, decide_eq_true (show c > 0 from hc)]
   cases a with
   | none => exact absurd rfl hne
   | some x =>
    simp only [cond_true, Option.bind_some]
    by_cases h : e ≤ x
    ·rw [decide_eq_true h, decide_eq_false (Int.not_lt.2 h)]
     cases inB 0 (n - 1) e <;> simp [goB]
    ·rw [decide_eq_false h, decide_eq_true (Int.not_le.1 h)]
     cases inB 0 (n - 1) e <;> cases p.all (inB 0 (n - 1)) <;> cases adjF (some e) p <;> rfl
theorem BZ {b : GBk} (h : Len b) {n : Int} {s : GBs} (hs : getI b.Strokes n = some s) : tU b n = some (strokeB b.Boards.length n s) := by
 have hb := oJ hs
 have hst := h.st
 have hl := h.nd s (B3 hs)
 have hbo := h.bo
 unfold tU strokeB
 simp only [hs, Option.bind_some, lQ]
 rw [gz (by omega) (by omega), gj hl, cond_true, Ly (by omega) (by omega) hl s.Needs 0 none (Int.le_refl _) rfl (.inl ⟨rfl, rfl⟩), qs, BX]
 cases inB 0 ((b.Boards.length : Int) - 1) s.Board <;> cases inB 1 6 s.Hours.Low <;> cases inB s.Hours.Low 6 s.Hours.High <;> cases s.Needs.all (inB 0 (n - 1)) <;> cases adjB s.Needs <;> rfl
theorem Lz : ∀ (p : List Int) (c : Int), qC p c = goB (p.all (inB 0 60))
 | [], _ => rfl
 | e :: p, c => by simp only [qC, lQ, Option.bind_some, Lz p, List.all_cons, tI]
theorem L0 {b : GBk} (h : Len b) : ∀ (p : List GBs) (c : Int), 0 ≤ c → b.Strokes.drop c.toNat = p → qB b p c = goB (strokesB b.Boards.length c p)
 | [], _, _, _ => rfl
 | s :: p, c, h0, hd => by
  simp only [qB, BZ h (ei h0 hd), Option.bind_some, L0 h p (c + 1) (by omega) (cn h0 hd), strokesB, tI]
theorem xV {b : GBk} (h : Len b) : rn b = some (benchB b) := by
 unfold rn benchB
 simp only [lQ, Option.bind_some]
 rw [gj h.bo, gj h.st, Lz, L0 h b.Strokes 0 (Int.le_refl _) rfl, qs, qs]
 cases inB 0 3 b.Apprentices <;> cases inB 1 3 (b.Boards.length : Int) <;> cases b.Boards.all (inB 0 60) <;> cases inB 1 6 (b.Strokes.length : Int) <;> cases strokesB b.Boards.length 0 b.Strokes <;> rfl
theorem yE {b : GBk} {n h : Int} {s : GBs} (hs : getI b.Strokes n = some s) : sV b n h = some (h == 0 || !s.Round) := by
 unfold sV
 cases h == 0 <;> simp [hs]
structure BOk (b : GBk) : Prop where
 ap : 0 ≤ b.Apprentices ∧ b.Apprentices ≤ 3
 nb : 1 ≤ b.Boards.length ∧ b.Boards.length ≤ 3
 bo : ∀ x ∈ b.Boards, 0 ≤ x ∧ x ≤ 60
 ns : 1 ≤ b.Strokes.length ∧ b.Strokes.length ≤ 6
 st : ∀ (i : Nat) s, b.Strokes[i]? = some s → strokeB b.Boards.length i s = true
theorem L4 {nb : Nat} : ∀ (p : List GBs) (c : Int), strokesB nb c p = true ↔ ∀ (i : Nat) s, p[i]? = some s → strokeB nb (c + i) s = true
 | [], c => by simp [strokesB]
 | s :: p, c => by
  simp only [strokesB, Bool.and_eq_true, L4 p]
  constructor
  ·rintro ⟨h1, h2⟩ i x hx
   cases i with
   | zero => simp at hx; subst hx; simpa using h1
   | succ i => have := h2 i x (by simpa using hx); rw [show c + (i + 1 : Nat) = c + 1 + i by omega]; exact this
  ·intro h
   refine ⟨by have := h 0 s rfl; simpa using this, fun i x hx => ?_⟩
   have := h (i + 1) x (by simpa using hx)
   rw [show c + (i + 1 : Nat) = c + 1 + i by omega] at this
   exact this
theorem vQ {b : GBk} : benchB b = true ↔ BOk b := by
 unfold benchB
 simp only [Bool.and_eq_true, tJ, List.all_eq_true, L4]
 constructor
 ·rintro ⟨h1, ⟨h2, h3⟩, h4, h5⟩
  exact ⟨h1, by omega, h3, by omega, fun i s hs => by have := h5 i s hs; simpa using this⟩
 ·rintro ⟨h1, h2, h3, h4, h5⟩
  exact ⟨h1, ⟨by omega, h3⟩, by omega, fun i s hs => by have := h5 i s hs; simpa using this⟩
structure SOk (nb : Nat) (n : Int) (s : GBs) : Prop where
 bo : 0 ≤ s.Board ∧ s.Board < nb
 hr : 1 ≤ s.Hours.Low ∧ s.Hours.Low ≤ s.Hours.High ∧ s.Hours.High ≤ 6
 nd : ∀ k ∈ s.Needs, 0 ≤ k ∧ k < n
 ad : adjB s.Needs = true
theorem Qt {nb : Nat} {n : Int} {s : GBs} : strokeB nb n s = true ↔ SOk nb n s := by
 unfold strokeB
 simp only [Bool.and_eq_true, tJ, List.all_eq_true]
 constructor
 ·rintro ⟨h1, ⟨h2, h3⟩, h4, h5⟩
  exact ⟨by omega, by omega, fun k hk => by have := h4 k hk; omega, h5⟩
 ·rintro ⟨h1, h2, h3, h4⟩
  exact ⟨by omega, ⟨by omega, by omega⟩, fun k hk => by have := h3 k hk; omega, h4⟩
theorem BOk.s {b : GBk} (h : BOk b) {i : Nat} {s : GBs} (hs : b.Strokes[i]? = some s) : SOk b.Boards.length i s := Qt.1 (h.st i s hs)
structure POk (b : GBk) (pl : List Int) : Prop where
 len : pl.length = b.Strokes.length
 may : ∀ (i : Nat) s h, b.Strokes[i]? = some s → pl[i]? = some h → (0 ≤ h ∧ h ≤ b.Apprentices) ∧ (h = 0 ∨ s.Round = false)
end Go.V
end
section
namespace Go.V
open Go Go.Proofs IntKind
def stepsB (m : List Int → Int → Bool) (lim : Nat) : List Int → List Int → Bool
 | _, [] => true
 | p, j :: t => (decide (0 ≤ j) && decide (j < (lim : Int))) && (m p j && stepsB m lim (p ++ [j]) t)
theorem yG {m : List Int → Int → Bool} {lim : Nat} : ∀ (d : Nat) (p q : List Int), q ∈ listsB m lim d p ↔ ∃ t, q = p ++ t ∧ t.length = d ∧ stepsB m lim p t = true
 | 0, p, q => by
  rw [listsB, List.mem_singleton]
  constructor
  ·rintro rfl; exact ⟨[], by simp, rfl, rfl⟩
  ·rintro ⟨t, rfl, ht, _⟩
   rw [List.length_eq_zero_iff.1 ht, List.append_nil]
 | d + 1, p, q => by
  rw [listsB, List.mem_flatMap]
  constructor
  ·rintro ⟨i, hi, h⟩
   have hi' := (List.mem_range'_1.1 hi).2
   split at h
   ·rename_i hm
    obtain ⟨t, rfl, ht, hs⟩ := (yG d _ q).1 h
    exact ⟨(i : Int) :: t, by simp, by simp [ht], by simp only [stepsB, hm, hs, Bool.and_true, Bool.and_eq_true, decide_eq_true_eq]; omega⟩
   ·cases h
  ·rintro ⟨t, rfl, ht, hs⟩
   cases t with
   | nil => simp at ht
   | cons j t =>
    simp only [stepsB, Bool.and_eq_true, decide_eq_true_eq] at hs
    obtain ⟨⟨h0, h1⟩, h2, h3⟩ := hs
    refine ⟨j.toNat, List.mem_range'_1.2 ⟨Nat.zero_le _, by omega⟩, ?_⟩
    rw [show ((j.toNat : Nat) : Int) = j by omega, if_pos h2]
    exact (yG d _ _).2 ⟨t, by simp, by simpa using ht, h3⟩
section
variable {K V : Type} {q : K → K → Bool} {z : V}
def setR (q : K → K → Bool) (k : K) (v : V) : List (K × V) → List (K × V)
 | [] => [(k, v)]
 | e :: l => if q k e.1 then (k, v) :: l else e :: setR q k v l
theorem tZ (k : K) : ∀ (es : List K) (i : Nat), kIdx q k es (i + 1) = (kIdx q k es i).map (· + 1)
 | [], _ => rfl
 | e :: es, i => by
  unfold kIdx
  cases q k e with
  | true => rfl
  | false => exact tZ k es (i + 1)
theorem JI (k : K) (v : V) : ∀ l : List (K × V), mapSet q l k v = setR q k v l
 | [] => rfl
 | e :: l => by
  have ih := JI k v l
  unfold mapSet at ih ⊢
  rw [List.map_cons]
  unfold kIdx setR
  cases hq : q k e.1 with
  | true => rfl
  | false =>
   simp only [cond_false, Bool.false_eq_true, if_false]
   rw [tZ]
   cases h : kIdx q k (l.map (·.1)) 0 with
   | none => rw [h] at ih; simpa using ih
   | some i => rw [h] at ih; simpa using ih
end
end Go.V
end
section
namespace Go.V
open Go Go.Proofs IntKind

theorem But.self (W : World) (b : Nat) : But W W b := ⟨fun _ _ _ => rfl, Nat.le_refl _, rfl, rfl, rfl⟩
theorem Ca : ∀ cs : List VV, (normL cs).length = cs.length
 | [] => rfl
 | x :: cs => by rw [oV, List.length_cons, List.length_cons, Ca cs]
theorem VWp.normO {P : Program} {G : Glob} {n : Nat} {code : Code} {Q : VExit → St → Prop} {tm : Nat → VV} {H : Nat → Option VObj} {nx : Nat} {df : List VDef} {β : Nat} {el : Option TypeId} {cs cs' : List VV} (hβ : H β = some (.cells el cs)) (hn : normL cs = cs')
  (h : VWp P G n code Q ⟨tm, updH H β (.cells el cs'), nx, df⟩) : VWp P G n code Q ⟨tm, H, nx, df⟩ := by
 subst hn
 intro ro c W a hro s hr hsz
 have hc : c.H β = some (.cells el cs) := by rw [hr.H]; exact hβ
 have hl : c.live β := by simp [Ctx.live, hc]
 have he : Ext c W (c.upd β (.cells el (normL cs))) W := Ext.upd hl (But.self W _)
 have ab := he.abides s
 have hs : Sim (c.upd β (.cells el (normL cs))) W := by
  refine Sim.upd s hl (But.self W _) (fun ⟨ds, hd⟩ => by rw [hc] at hd; cases hd) ?_
  obtain ⟨arr, e, a1, a2, a3, a4, a5⟩ := s.obj β _ hc
  exact ⟨arr, e, a1, a2, by rw [Ca]; exact a3, by rw [Ca]; exact qE _ (RepL.abides ab _ a4), a5⟩
 refine wpIn_mono (h ro _ W a (hro.ext he) hs ⟨?_, fun t => Rep.abides ab _ (hr.tm t), hr.nx, hr.df.abides ab, hr.G.abides ab⟩ hsz) fun _ _ _ hl => hl.of_ext he (fun β hb => .inl hb) (Nat.le_refl _)
 show updH c.H β _ = _
 rw [hr.H]



end Go.V
end
