/- Part of a proof. -/
import Derived.Test.YtmhlghgbfmcdaaaGreatDoorG3bj
set_option linter.all false
set_option maxRecDepth 4000
set_option maxHeartbeats 40000000
section
namespace Go.V
open Go Go.Proofs IntKind
def goB (b : Bool) : Option (LOut Bool Unit) := cond b (some (.go ())) (some (.ret false))
theorem tI (a b : Bool) : goB (a && b) = cond a (goB b) (some (.ret false)) := by cases a <;> rfl
theorem csome (a b : Bool) : cond a (some b) (some false) = some (a && b) := by cases a <;> rfl
theorem qL {X : Type} (b : Bool) (kr : Bool → Option X) (kg : Unit → Option X) (kb : Nat → Unit → Option X) : lbind (goB b) kr kg kb = cond b (kg ()) (kr false) := by cases b <;> rfl
def inB (a b n : Int) : Bool := decide (a ≤ n) && decide (n ≤ b)
theorem wG {a b n : Int} : inB a b n = true ↔ a ≤ n ∧ n ≤ b := by simp [inB]
theorem fk {n : Int} (h1 : -9223372036854775808 ≤ n) (h2 : n < 9223372036854775808) : i64.wrap n = n := IntWalk.i64_in _ (by omega)
theorem Cx {α : Type} {xs : List α} (h : aO xs = true) : xs.length < 9223372036854775808 := by simpa [aO] using h
theorem gA {α : Type} {xs : List α} (h : xs.length < 9223372036854775808) : aO xs = true := by simpa [aO] using h
theorem Cy {α : Type} {xs : List α} {i : Int} {x : α} (h : getI xs i = some x) : x ∈ xs := by
 unfold getI at h
 split at h
 ·exact List.mem_of_getElem? h
 ·cases h
theorem oV {α : Type} {xs : List α} {i : Int} {x : α} (h : getI xs i = some x) : 0 ≤ i ∧ i < xs.length := ⟨(mP h).1, (mP h).2.1⟩
end Go.V
end
section
namespace Go.V
def mxL (l : List Int) : Int := l.foldl max 0
theorem KY : ∀ (l : List Int) (a b : Int), l.foldl max a ≤ b ↔ a ≤ b ∧ ∀ x ∈ l, x ≤ b
 | [], a, b => by simp
 | x :: l, a, b => by
  simp only [List.foldl_cons, KY l, List.mem_cons, forall_eq_or_imp]
  constructor
  ·rintro ⟨h1, h2⟩; exact ⟨by omega, by omega, h2⟩
  ·rintro ⟨h1, h2, h3⟩; exact ⟨by omega, h3⟩
theorem oW {l : List Int} {b : Int} : mxL l ≤ b ↔ 0 ≤ b ∧ ∀ x ∈ l, x ≤ b := KY l 0 b
theorem Cz (l : List Int) : 0 ≤ mxL l := (oW.1 (Int.le_refl _)).1
theorem C0 {l : List Int} {x : Int} (h : x ∈ l) : x ≤ mxL l := (oW.1 (Int.le_refl _)).2 x h
def frF (hd : Nat → Int) (e : Nat → Int) (h : Int) : Nat → Int
 | 0 => 0
 | k + 1 => if hd k = h then e k else frF hd e h k
theorem KZ {hd : Nat → Int} {e e' : Nat → Int} {h : Int} : ∀ {n : Nat}, (∀ k, k < n → e k = e' k) → frF hd e h n = frF hd e' h n
 | 0, _ => rfl
 | n + 1, hk => by
  unfold frF
  rw [hk n (Nat.lt_succ_self _), KZ (fun k h => hk k (Nat.lt_succ_of_lt h))]
theorem tJ {hd : Nat → Int} {e : Nat → Int} {h b : Int} (hb : 0 ≤ b) : ∀ {n : Nat}, (∀ k, k < n → hd k = h → e k ≤ b) → frF hd e h n ≤ b
 | 0, _ => hb
 | n + 1, hk => by
  unfold frF
  split
  ·rename_i hh; exact hk n (Nat.lt_succ_self _) hh
  ·exact tJ hb (fun k h1 h2 => hk k (Nat.lt_succ_of_lt h1) h2)
def bgF (hd : Nat → Int) (nd : Nat → List Int) (e : Nat → Int) (s : Nat) : Int := max (max 0 (frF hd e (hd s) s)) (mxL ((nd s).map fun k => e k.toNat))
def En (hd : Nat → Int) (nd : Nat → List Int) (d : Nat → Int) : Nat → Nat → Int
 | 0, _ => 0
 | f + 1, s => bgF hd nd (En hd nd d f) s + d s
def NdOk (nd : Nat → List Int) : Prop := ∀ s, ∀ k ∈ nd s, 0 ≤ k ∧ k.toNat < s
theorem Lb {hd : Nat → Int} {nd : Nat → List Int} {e e' : Nat → Int} {s : Nat} (hn : NdOk nd) (h : ∀ k, k < s → e k = e' k) : bgF hd nd e s = bgF hd nd e' s := by
 unfold bgF
 rw [KZ h]
 congr 2
 exact List.map_congr_left fun k hk => h _ (hn s k hk).2
theorem tK {hd : Nat → Int} {nd : Nat → List Int} {d : Nat → Int} (hn : NdOk nd) : ∀ (f g s : Nat), s < f → s < g → En hd nd d f s = En hd nd d g s
 | 0, _, _, h, _ => absurd h (Nat.not_lt_zero _)
 | _ + 1, 0, _, _, h => absurd h (Nat.not_lt_zero _)
 | f + 1, g + 1, s, h1, h2 => by
  unfold En
  rw [Lb hn (e' := En hd nd d g) (fun k hk => tK hn f g k (by omega) (by omega))]
def Ed (hd : Nat → Int) (nd : Nat → List Int) (d : Nat → Int) (s : Nat) : Int := En hd nd d (s + 1) s
def Bg (hd : Nat → Int) (nd : Nat → List Int) (d : Nat → Int) (s : Nat) : Int := bgF hd nd (Ed hd nd d) s
theorem Ed_eq {hd : Nat → Int} {nd : Nat → List Int} {d : Nat → Int} (hn : NdOk nd) (s : Nat) : Ed hd nd d s = Bg hd nd d s + d s := by
 show bgF hd nd (En hd nd d s) s + d s = _
 rw [Lb hn (e' := Ed hd nd d) (fun k hk => tK hn s (k + 1) k hk (Nat.lt_succ_self _))]
 rfl
theorem C1 (hd : Nat → Int) (nd : Nat → List Int) (e : Nat → Int) (s : Nat) : 0 ≤ bgF hd nd e s := by
 have := Cz ((nd s).map fun k => e k.toNat)
 unfold bgF
 omega
section
variable {hd : Nat → Int} {nd : Nat → List Int} {d d' : Nat → Int}
theorem Bg_nn (s : Nat) : 0 ≤ Bg hd nd d s := C1 _ _ _ _
theorem Ed_nn (hn : NdOk nd) (h : ∀ k, 0 ≤ d k) (s : Nat) : 0 ≤ Ed hd nd d s := by
 rw [Ed_eq hn]
 have := Bg_nn (hd := hd) (nd := nd) (d := d) s
 have := h s
 omega
theorem C2 (hn : NdOk nd) {s : Nat} {k : Int} (hk : k ∈ nd s) : Ed hd nd d k.toNat ≤ Bg hd nd d s := by
 have := C0 (List.mem_map_of_mem (f := fun k : Int => Ed hd nd d k.toNat) hk)
 unfold Bg bgF
 omega
theorem tL (s : Nat) : frF hd (Ed hd nd d) (hd s) s ≤ Bg hd nd d s := by
 unfold Bg bgF
 omega
theorem oX (hn : NdOk nd) (h0 : ∀ k, 0 ≤ d k) {h : Int} : ∀ {n k : Nat}, k < n → hd k = h → Ed hd nd d k ≤ frF hd (Ed hd nd d) h n
 | 0, _, hk, _ => absurd hk (Nat.not_lt_zero _)
 | n + 1, k, hk, hh => by
  unfold frF
  split
  ·rename_i hn'
   rcases Nat.lt_or_ge k n with h1 | h1
   ·have h2 := oX hn h0 h1 hh
    have h3 := tL (hd := hd) (nd := nd) (d := d) n
    rw [hn'] at h3
    rw [Ed_eq hn n]
    have := h0 n
    omega
   ·have : k = n := by omega
    subst this
    exact Int.le_refl _
  ·rename_i hn'
   have : k ≠ n := by rintro rfl; exact hn' hh
   exact oX hn h0 (by omega) hh
theorem tM (hn : NdOk nd) (h0 : ∀ k, 0 ≤ d k) {k s : Nat} (hk : k < s) (hh : hd k = hd s) : Ed hd nd d k ≤ Bg hd nd d s := Int.le_trans (oX hn h0 hk hh) (tL s)
theorem tN (hn : NdOk nd) {s : Nat} {b : Int} (hb : 0 ≤ b) (h1 : ∀ k, k < s → hd k = hd s → Ed hd nd d k ≤ b) (h2 : ∀ k ∈ nd s, Ed hd nd d k.toNat ≤ b) : Bg hd nd d s ≤ b := by
 have h3 := tJ (hd := hd) (e := Ed hd nd d) (h := hd s) (n := s) hb h1
 have h4 : mxL ((nd s).map fun k => Ed hd nd d k.toNat) ≤ b := by
  refine oW.2 ⟨hb, ?_⟩
  intro x hx
  obtain ⟨k, hk, rfl⟩ := List.mem_map.1 hx
  exact h2 k hk
 unfold Bg bgF
 omega
theorem Ed_bd (hn : NdOk nd) {m : Int} (h0 : ∀ k, 0 ≤ d k ∧ d k ≤ m) : ∀ (f s : Nat), s < f → Ed hd nd d s ≤ m * (s + 1)
 | 0, _, h => absurd h (Nat.not_lt_zero _)
 | f + 1, s, h => by
  have hm : 0 ≤ m := Int.le_trans (h0 0).1 (h0 0).2
  have key : ∀ k, k < s → Ed hd nd d k ≤ m * s := fun k hk => by
   refine Int.le_trans (Ed_bd hn h0 f k (by omega)) ?_
   exact Int.mul_le_mul_of_nonneg_left (by omega) hm
  have h1 : Bg hd nd d s ≤ m * s := tN hn (Int.mul_nonneg hm (by omega)) (fun k hk _ => key k hk) (fun k hk => key _ (hn s k hk).2)
  rw [Ed_eq hn, Int.mul_add]
  have := h0 s
  omega
theorem tO (hn : NdOk nd) {m : Int} (h0 : ∀ k, 0 ≤ d k ∧ d k ≤ m) (s : Nat) : Ed hd nd d s ≤ m * (s + 1) := Ed_bd hn h0 (s + 1) s (Nat.lt_succ_self _)
def tkF (e : Nat → Int) : Nat → Int
 | 0 => 0
 | n + 1 => max (tkF e n) (e n)
theorem tP (e : Nat → Int) : ∀ n, 0 ≤ tkF e n
 | 0 => Int.le_refl _
 | n + 1 => by have := tP e n; unfold tkF; omega
end
end Go.V
end
section
namespace Go.V
open Go Go.Proofs IntKind
def lH (aM : Int) (dg : Int) (bc : Int) : Option (Bool) := cond (decide (aM ≤ dg)) (some (decide (dg ≤ bc))) (some false)
theorem qM (aM : Int) (dg : Int) (bc : Int) (R : Bool) (h : lH aM dg bc = some R) : ak Tryz.prog G0 95 [.lit (.int .i64 aM), .lit (.int .i64 dg), .lit (.int .i64 bc)] (.tree (.lit (.bool R))) := by
 refine ak.runR mixed Tryz.call95 Tryz.func95 rfl (by simp [Tryz.ntmps95]; kernel_rfl) ?_
 obtain ⟨KF, h, kF, kN⟩ := cV h
 simp only [lH] at h
 cases d1 : (decide (aM ≤ dg))
 ·simp only [d1, hs] at h
  try simp only [vz, tyf, d1, nm, seval]
  obtain rfl := kF _ h
  exact br Tryz.results95 rfl
 simp only [d1, hs] at h
 try simp only [vz, tyf, d1, nm, seval]
 obtain rfl := kF _ h
 exact br Tryz.results95 rfl
def qN (aM : Int) (bc : Int) : List Int → Int → Option (LOut (Bool) (Unit))
 | [], mQ => some (.go ())
 | e0 :: p0, mQ => Option.bind (lH aM e0 bc) (fun r1 => cond (r1) (qN aM bc p0 (mQ + 1)) (some (.ret false)))
def qO (aM : Int) (aq : List Int) (bc : Int) : Option (Bool) := cond (aO aq) (lbind (qN aM bc aq 0) (fun r3 => some r3) (fun c2 => some true) (fun _ _ => none)) none
theorem Lc (aM : Int) (aq : List Int) (bc : Int) (R : Bool) (h : qO aM aq bc = some R) : ak Tryz.prog G0 103 [.lit (.int .i64 aM), .sl (ae eI aq) (List.length aq) false, .lit (.int .i64 bc)] (.tree (.lit (.bool R))) := by
 refine ak.runR mixed Tryz.call103 Tryz.func103 rfl (by simp [Tryz.ntmps103]; kernel_rfl) ?_
 obtain ⟨KF, h, kF, kN⟩ := cV h
 simp only [qO] at h
 cases g5 : (aO aq)
 ·simp only [g5, hs] at h
  exact absurd h kN
 simp only [g5, hs] at h
 simp only [vz, tyf, g5, nm, seval]
 obtain ⟨K4, h, Ob, Oc, Td, Od⟩ := fZ h kN
 obtain ⟨f4, Oe, h⟩ := call2 h
 obtain ⟨I4, C3⟩ : ∃ I : Nat → St → Prop, I = (fun m st => ∃ (p4 : List Int) (dG : Int), m = List.length p4 ∧ 0 ≤ dG ∧ List.drop (Int.toNat dG) aq = p4 ∧ st.df = [] ∧ 4 ≤ st.nx ∧ st.tm 0 = .lit (.int .i64 aM) ∧ st.tm 2 = .lit (.int .i64 bc) ∧ st.tm 9 = .sl (ae eI aq) (List.length aq) false ∧ st.tm 10 = .lit (.int .i64 (List.length aq : Int)) ∧ st.tm 11 = .lit (.int .i64 dG) ∧ K4 (f4 p4 dG)) := ⟨_, rfl⟩
 refine loopK mixed (by kernel_rfl) I4 (List.length aq) (by rw [C3]; refine ⟨aq, 0, rfl, Int.le_refl _, rfl, rfl, (show 4 ≤ 4 by omega), ?_, ?_, ?_, ?_, ?_, h⟩ <;> first | (simp only [ua, nm, seval] <;> rfl) | rfl) ?_
 rintro m ⟨tm, H, eK, df⟩ hinv
 rw [C3] at hinv
 obtain ⟨p4, dG, rfl, oZ, tQ, hdf, Of, e6, e7, e8, e9, bB, h⟩ := hinv
 simp only at hdf Of e6 e7 e8 e9 bB
 have qP := eR (m := 4) (b := eK) (by omega)
 subst hdf Oe
 cases p4 with
 | nil =>
  have Og : (decide (dG < (List.length aq : Int))) = false := ga oZ tQ
  simp only [qN, hs, reduceCtorEq] at h
  replace h := Oc _ h
  try dsimp only at h
  try simp only [hs] at h
  try simp only [vz, tyf, g5, qP, e6, e7, e8, e9, bB, Og, nm, seval]
  obtain rfl := kF _ h
  exact br Tryz.results103 rfl
 | cons e4 p4 =>
  have cM : (decide (dG < (List.length aq : Int))) = true := gb oZ tQ
  have lI := eT oZ tQ
  have tR := fG oZ tQ g5
  simp only [qN, hs, reduceCtorEq] at h
  obtain ⟨Ld, kK, h⟩ := optI h Od
  try simp only [hs] at h
  simp only [vz, tyf, g5, qP, e6, e7, e8, e9, bB, cM, (aY lI), tR, nm, seval]
  refine ktA (qM _ _ _ _ kK) ?_
  refine bS (fun tm => tm 0 = .lit (.int .i64 aM) ∧ tm 2 = .lit (.int .i64 bc) ∧ tm 9 = .sl (ae eI aq) (List.length aq) false ∧ tm 10 = .lit (.int .i64 (List.length aq : Int)) ∧ tm 11 = .lit (.int .i64 dG) ∧ tm 18 = .lit (.bool Ld) ∧ True) (by refine ⟨e6, e7, e8, e9, bB, ?_, trivial⟩ <;> first | (simp only [ua, qP, e6, e7, e8, e9, bB, cM, tR, nm, seval] <;> rfl) | rfl) ?_
  rintro tm ⟨db, cO, eh, fv, hX, eU, _⟩
  cases fw : (Ld)
  ·simp only [fw, hs] at h
   try simp only [vz, tyf, g5, qP, cM, (aY lI), tR, db, cO, eh, fv, hX, eU, fw, nm, seval]
   replace h := Ob _ h
   try dsimp only at h
   obtain rfl := kF _ h
   exact br Tryz.results103 rfl
  simp only [fw, hs] at h
  simp only [vz, tyf, g5, qP, cM, (aY lI), tR, db, cO, eh, fv, hX, eU, fw, nm, seval]
  exact ⟨List.length p4, Nat.lt_succ_self _, by rw [C3]; refine ⟨p4, dG + 1, rfl, Int.le_trans oZ (Int.le_add_one (Int.le_refl _)), cG oZ tQ, rfl, (show 4 ≤ eK + 11 by omega), db, cO, eh, fv, ?_, (by first | exact h | (simp only [cM, fw]; exact h))⟩ <;> first | (simp only [ua, qP, cM, tR, db, cO, eh, fv, hX, eU, fw, nm, seval] <;> rfl) | rfl⟩
def wH (bG : List Int) : Option (Bool) := Option.bind (lH 1 (List.length bG : Int) 3) (fun r1 => cond (r1) (Option.bind (qO 0 bG 60) (fun r2 => some r2)) (some false))
theorem Oh (bG : List Int) (R : Bool) (h : wH bG = some R) : ak Tryz.prog G0 101 [.sl (ae eI bG) (List.length bG) false] (.tree (.lit (.bool R))) := by
 refine ak.runR mixed Tryz.call101 Tryz.func101 rfl (by simp [Tryz.ntmps101]; kernel_rfl) ?_
 obtain ⟨KF, h, kF, kN⟩ := cV h
 simp only [wH] at h
 obtain ⟨r3, o4, h⟩ := optI h kN
 try simp only [hs] at h
 simp only [vz, tyf, nm, seval]
 refine ktA (qM _ _ _ _ o4) ?_
 refine bS (fun tm => tm 0 = .sl (ae eI bG) (List.length bG) false ∧ tm 5 = .lit (.bool r3) ∧ True) (by refine ⟨?_, ?_, trivial⟩ <;> first | (simp only [ua, nm, seval] <;> rfl) | rfl) ?_
 rintro tm ⟨e5, e6, _⟩
 cases d7 : (r3)
 ·simp only [d7, hs] at h
  try simp only [vz, tyf, e5, e6, d7, nm, seval]
  obtain rfl := kF _ h
  exact br Tryz.results101 rfl
 simp only [d7, hs] at h
 obtain ⟨r8, o9, h⟩ := optI h kN
 try simp only [hs] at h
 simp only [vz, tyf, e5, e6, d7, nm, seval]
 refine ktA (Lc _ _ _ _ o9) ?_
 refine bS (fun tm => tm 6 = .lit (.bool true) ∧ tm 8 = .lit (.bool r8) ∧ True) (by refine ⟨?_, ?_, trivial⟩ <;> first | (simp only [ua, e5, e6, d7, nm, seval] <;> rfl) | rfl) ?_
 rintro tm ⟨bB, bT, _⟩
 try simp only [vz, tyf, d7, bB, bT, nm, seval]
 obtain rfl := kF _ h
 exact br Tryz.results101 rfl
def wI (al : GBk) (dH : Int) : Option (Bool) := Option.bind (lH 0 dH (i64.wrap ((List.length al.Boards : Int) - 1))) (fun r1 => some r1)
theorem Oi (al : GBk) (dH : Int) (R : Bool) (h : wI al dH = some R) : ak Tryz.prog G0 71 [.agg (cGBk al), .lit (.int .i64 dH)] (.tree (.lit (.bool R))) := by
 refine ak.runR mixed Tryz.call71 Tryz.func71 rfl (by simp [Tryz.ntmps71]; kernel_rfl) ?_
 obtain ⟨KF, h, kF, kN⟩ := cV h
 simp only [wI] at h
 obtain ⟨r2, o3, h⟩ := optI h kN
 try simp only [hs] at h
 simp only [vz, tyf, nm, seval]
 refine ktA (qM _ _ _ _ o3) ?_
 refine bS (fun tm => tm 10 = .lit (.bool r2) ∧ True) (by refine ⟨?_, trivial⟩ <;> first | (simp only [ua, nm, seval] <;> rfl) | rfl) ?_
 rintro tm ⟨e4, _⟩
 try simp only [vz, tyf, e4, nm, seval]
 obtain rfl := kF _ h
 exact br Tryz.results71 rfl
def tS (aM : Int) (fH : GSpan) (bc : Int) : Option (Bool) := cond (decide (aM ≤ fH.Low)) (cond (decide (fH.Low ≤ fH.High)) (some (decide (fH.High ≤ bc))) (some false)) (some false)
theorem Oj (aM : Int) (fH : GSpan) (bc : Int) (R : Bool) (h : tS aM fH bc = some R) : ak Tryz.prog G0 133 [.lit (.int .i64 aM), .agg (cGSpan fH), .lit (.int .i64 bc)] (.tree (.lit (.bool R))) := by
 refine ak.runR mixed Tryz.call133 Tryz.func133 rfl (by simp [Tryz.ntmps133]; kernel_rfl) ?_
 obtain ⟨KF, h, kF, kN⟩ := cV h
 simp only [tS] at h
 cases d1 : (decide (aM ≤ fH.Low))
 ·simp only [d1, hs] at h
  try simp only [vz, tyf, d1, nm, seval]
  obtain rfl := kF _ h
  exact br Tryz.results133 rfl
 simp only [d1, hs] at h
 cases d2 : (decide (fH.Low ≤ fH.High))
 ·simp only [d2, hs] at h
  try simp only [vz, tyf, d1, d2, nm, seval]
  obtain rfl := kF _ h
  exact br Tryz.results133 rfl
 simp only [d2, hs] at h
 try simp only [vz, tyf, d1, d2, nm, seval]
 obtain rfl := kF _ h
 exact br Tryz.results133 rfl
def qQ (aq : List Int) : List Int → Int → Option (LOut (Bool) (Unit))
 | [], dI => some (.go ())
 | e0 :: p0, dI => Option.bind (getI aq (i64.wrap (dI - 1))) (fun x1 => cond (decide (e0 ≤ x1)) (some (.ret false)) (qQ aq p0 (dI + 1)))
def tT (aM : Int) (aq : List Int) (bc : Int) : Option (Bool) := cond (aO aq) (cond (leB 0 1) (lbind (qQ aq (List.drop (Int.toNat 1) aq) 1) (fun r4 => some r4) (fun c2 => Option.bind (qO aM aq bc) (fun r3 => some r3)) (fun _ _ => none)) none) none
theorem Ok (aM : Int) (aq : List Int) (bc : Int) (R : Bool) (h : tT aM aq bc = some R) : ak Tryz.prog G0 134 [.lit (.int .i64 aM), .sl (ae eI aq) (List.length aq) false, .lit (.int .i64 bc)] (.tree (.lit (.bool R))) := by
 refine ak.runR mixed Tryz.call134 Tryz.func134 rfl (by simp [Tryz.ntmps134]; kernel_rfl) ?_
 obtain ⟨KF, h, kF, kN⟩ := cV h
 simp only [tT] at h
 cases g6 : (aO aq)
 ·simp only [g6, hs] at h
  exact absurd h kN
 simp only [g6, hs] at h
 cases g7 : (leB 0 1)
 ·simp only [g7, hs] at h
  exact absurd h kN
 simp only [g7, hs] at h
 simp only [vz, tyf, g6, g7, nm, seval]
 obtain ⟨K5, h, Le, wJ, Ol, qR⟩ := fZ h kN
 obtain ⟨f5, C4, h⟩ := call2 h
 obtain ⟨I5, mR⟩ : ∃ I : Nat → St → Prop, I = (fun m st => ∃ (p5 : List Int) (bU : Int), m = List.length p5 ∧ 0 ≤ bU ∧ List.drop (Int.toNat bU) aq = p5 ∧ st.df = [] ∧ 2 ≤ st.nx ∧ st.tm 0 = .lit (.int .i64 aM) ∧ st.tm 1 = .sl (ae eI aq) (List.length aq) false ∧ st.tm 2 = .lit (.int .i64 bc) ∧ st.tm 7 = .lit (.int .i64 bU) ∧ K5 (f5 p5 bU)) := ⟨_, rfl⟩
 refine loopK mixed (by kernel_rfl) I5 (List.length (List.drop (Int.toNat 1) aq)) (by rw [mR]; refine ⟨List.drop (Int.toNat 1) aq, 1, rfl, of_decide_eq_true g7, rfl, rfl, (show 2 ≤ 2 by omega), ?_, ?_, ?_, ?_, h⟩ <;> first | (simp only [ua, nm, seval] <;> rfl) | rfl) ?_
 rintro m ⟨tm, H, jN, df⟩ hinv
 rw [mR] at hinv
 obtain ⟨p5, bU, rfl, gq, hY, hdf, C5, e8, e9, bB, bT, h⟩ := hinv
 simp only at hdf C5 e8 e9 bB bT
 have eM := eR (m := 2) (b := jN) (by omega)
 subst hdf C4
 cases p5 with
 | nil =>
  have cM : (decide (bU < (List.length aq : Int))) = false := ga gq hY
  simp only [qQ, hs, reduceCtorEq] at h
  replace h := wJ _ h
  try dsimp only at h
  try simp only [hs] at h
  obtain ⟨pa, lI, h⟩ := optI h kN
  try simp only [hs] at h
  simp only [vz, tyf, g6, g7, eM, e8, e9, bB, bT, cM, nm, seval]
  refine ktA (Lc _ _ _ _ lI) ?_
  refine bS (fun tm => tm 27 = .lit (.bool pa) ∧ True) (by refine ⟨?_, trivial⟩ <;> first | (simp only [ua, eM, e8, e9, bB, bT, cM, nm, seval] <;> rfl) | rfl) ?_
  rintro tm ⟨bF, _⟩
  try simp only [vz, tyf, g6, g7, eM, cM, bF, nm, seval]
  obtain rfl := kF _ h
  exact br Tryz.results134 rfl
 | cons e5 p5 =>
  have lJ : (decide (bU < (List.length aq : Int))) = true := gb gq hY
  have C6 := eT gq hY
  have tU := fG gq hY g6
  simp only [qQ, hs, reduceCtorEq] at h
  simp only [vz, tyf, g6, g7, eM, e8, e9, bB, bT, lJ, (aY C6), tU, nm, seval]
  refine kL (fun tm => tm 0 = .lit (.int .i64 aM) ∧ tm 1 = .sl (ae eI aq) (List.length aq) false ∧ tm 2 = .lit (.int .i64 bc) ∧ tm 7 = .lit (.int .i64 bU) ∧ True) (by refine ⟨e8, e9, bB, bT, trivial⟩ <;> first | (simp only [ua, eM, e8, e9, bB, bT, lJ, tU, nm, seval] <;> rfl) | rfl) ?_
  rintro tm ⟨eh, fv, hX, eU, _⟩
  obtain ⟨Om, mS, h⟩ := optI h qR
  try simp only [hs] at h
  cases fI : (decide (e5 ≤ Om))
  ·simp only [fI, hs] at h
   simp only [vz, tyf, g6, g7, eM, lJ, (aY C6), tU, eh, fv, hX, eU, (aY mS), fI, nm, seval]
   exact ⟨List.length p5, Nat.lt_succ_self _, by rw [mR]; refine ⟨p5, bU + 1, rfl, Int.le_trans gq (Int.le_add_one (Int.le_refl _)), cG gq hY, rfl, (show 2 ≤ jN + 17 by omega), eh, fv, hX, ?_, (by first | exact h | (simp only [lJ, fI]; exact h))⟩ <;> first | (simp only [ua, eM, lJ, tU, eh, fv, hX, eU, fI, nm, seval] <;> rfl) | rfl⟩
  simp only [fI, hs] at h
  try simp only [vz, tyf, g6, g7, eM, lJ, (aY C6), tU, eh, fv, hX, eU, (aY mS), fI, nm, seval]
  replace h := Le _ h
  try dsimp only at h
  obtain rfl := kF _ h
  exact br Tryz.results134 rfl
def qS (al : GBk) : List GBs → Int → Option (LOut (Bool) (Unit))
 | [], bK => some (.go ())
 | e0 :: p0, bK => Option.bind (wI al e0.Board) (fun r2 => cond (r2) (Option.bind (tS 1 e0.Hours 6) (fun r3 => cond (r3) (Option.bind (tT 0 e0.Needs (i64.wrap (bK - 1))) (fun r4 => cond (r4) (qS al p0 (bK + 1)) (some (.ret false)))) (some (.ret false)))) (some (.ret false)))
def wK (al : GBk) : Option (Bool) := Option.bind (lH 1 (List.length al.Strokes : Int) 6) (fun r1 => cond (r1) (cond (aO al.Strokes) (lbind (qS al al.Strokes 0) (fun r6 => some r6) (fun c5 => some true) (fun _ _ => none)) none) (some false))
theorem On (al : GBk) (R : Bool) (h : wK al = some R) : ak Tryz.prog G0 102 [.agg (cGBk al)] (.tree (.lit (.bool R))) := by
 refine ak.runR mixed Tryz.call102 Tryz.func102 rfl (by simp [Tryz.ntmps102]; kernel_rfl) ?_
 obtain ⟨KF, h, kF, kN⟩ := cV h
 simp only [wK] at h
 obtain ⟨r7, o8, h⟩ := optI h kN
 try simp only [hs] at h
 simp only [vz, tyf, nm, seval]
 refine ktA (qM _ _ _ _ o8) ?_
 refine bS (fun tm => tm 1 = .ptr 0 0 ∧ tm 8 = .lit (.bool r7) ∧ True) (by refine ⟨?_, ?_, trivial⟩ <;> first | (simp only [ua, nm, seval] <;> rfl) | rfl) ?_
 rintro tm ⟨e9, bB, _⟩
 cases gu : (r7)
 ·simp only [gu, hs] at h
  try simp only [vz, tyf, e9, bB, gu, nm, seval]
  obtain rfl := kF _ h
  exact br Tryz.results102 rfl
 simp only [gu, hs] at h
 cases mT : (aO al.Strokes)
 ·simp only [mT, hs] at h
  exact absurd h kN
 simp only [mT, hs] at h
 simp only [vz, tyf, e9, bB, gu, mT, nm, seval]
 obtain ⟨Oo, h, pb, C7, Oq, pc⟩ := fZ h kN
 obtain ⟨Ot, C8, h⟩ := call2 h
 obtain ⟨Ou, pd⟩ : ∃ I : Nat → St → Prop, I = (fun m st => ∃ (mU : List GBs) (bM : Int), m = List.length mU ∧ 0 ≤ bM ∧ List.drop (Int.toNat bM) al.Strokes = mU ∧ st.df = [] ∧ 11 ≤ st.nx ∧ st.H 0 = some (.cells (some 25) (cGBk al)) ∧ st.tm 1 = .ptr 0 0 ∧ st.tm 11 = .sl (ae cGBs al.Strokes) (List.length al.Strokes) false ∧ st.tm 12 = .lit (.int .i64 (List.length al.Strokes : Int)) ∧ st.tm 13 = .lit (.int .i64 bM) ∧ Oo (Ot mU bM)) := ⟨_, rfl⟩
 refine loopK mixed (by kernel_rfl) Ou (List.length al.Strokes) (by rw [pd]; refine ⟨al.Strokes, 0, rfl, Int.le_refl _, rfl, rfl, (show 11 ≤ 11 by omega), ?_, e9, ?_, ?_, ?_, h⟩ <;> first | (simp only [ua, e9, bB, gu, nm, seval] <;> rfl) | rfl) ?_
 rintro m ⟨tm, H, lK, df⟩ hinv
 rw [pd] at hinv
 obtain ⟨mU, bM, rfl, iX, jO, hdf, C9, qT, cH, bF, cq, db, h⟩ := hinv
 simp only at hdf C9 qT cH bF cq db
 have tV := eR (m := 11) (b := lK) (by omega)
 subst hdf C8
 cases mU with
 | nil =>
  have dQ : (decide (bM < (List.length al.Strokes : Int))) = false := ga iX jO
  simp only [qS, hs, reduceCtorEq] at h
  replace h := C7 _ h
  try dsimp only at h
  try simp only [hs] at h
  try simp only [vz, tyf, gu, mT, tV, cH, bF, cq, db, qT, dQ, nm, seval]
  obtain rfl := kF _ h
  exact br Tryz.results102 rfl
 | cons bJ mU =>
  have jP : (decide (bM < (List.length al.Strokes : Int))) = true := gb iX jO
  have iH := eT iX jO
  have wL := fG iX jO mT
  simp only [qS, hs, reduceCtorEq] at h
  obtain ⟨kM, mS, h⟩ := optI h pc
  try simp only [hs] at h
  simp only [vz, tyf, gu, mT, tV, cH, bF, cq, db, qT, jP, (bd iH), wL, nm, seval]
  refine ktA (Oi _ _ _ mS) ?_
  refine bS (fun tm => tm 1 = .ptr 0 0 ∧ tm 3 = .lit (.int .i64 bM) ∧ tm 4 = .ptr (lK + 4) 0 ∧ tm 11 = .sl (ae cGBs al.Strokes) (List.length al.Strokes) false ∧ tm 12 = .lit (.int .i64 (List.length al.Strokes : Int)) ∧ tm 13 = .lit (.int .i64 bM) ∧ tm 21 = .lit (.bool kM) ∧ True) (by refine ⟨cH, ?_, ?_, bF, cq, db, ?_, trivial⟩ <;> first | (simp only [ua, gu, tV, cH, bF, cq, db, qT, jP, wL, nm, seval] <;> rfl) | rfl) ?_
  rintro tm ⟨ez, bV, eC, eW, dR, bW, cB, _⟩
  cases jQ : (kM)
  ·simp only [jQ, hs] at h
   have jv := And.intro gu (And.intro mT (And.intro tV (And.intro qT (And.intro jP (And.intro wL jQ)))))
   try simp only [vz, tyf, jv, (bd iH), ez, bV, eC, eW, dR, bW, cB, nm, seval]
   replace h := pb _ h
   try dsimp only at h
   obtain rfl := kF _ h
   exact br Tryz.results102 rfl
  simp only [jQ, hs] at h
  have lL := And.intro gu (And.intro mT (And.intro tV (And.intro qT (And.intro jP (And.intro wL jQ)))))
  obtain ⟨Lf, Ov, h⟩ := optI h pc
  try simp only [hs] at h
  simp only [vz, tyf, lL, (bd iH), ez, bV, eC, eW, dR, bW, cB, nm, seval]
  refine ktA (Oj _ _ _ _ Ov) ?_
  refine bS (fun tm => tm 1 = .ptr 0 0 ∧ tm 3 = .lit (.int .i64 bM) ∧ tm 4 = .ptr (lK + 4) 0 ∧ tm 11 = .sl (ae cGBs al.Strokes) (List.length al.Strokes) false ∧ tm 12 = .lit (.int .i64 (List.length al.Strokes : Int)) ∧ tm 13 = .lit (.int .i64 bM) ∧ tm 23 = .lit (.bool false) ∧ tm 26 = .lit (.bool Lf) ∧ True) (by refine ⟨ez, bV, eC, eW, dR, bW, ?_, ?_, trivial⟩ <;> first | (simp only [ua, lL, ez, bV, eC, eW, dR, bW, cB, nm, seval] <;> rfl) | rfl) ?_
  rintro tm ⟨cP, CA, CB, wM, dr, dt, d4, ei, _⟩
  cases lM : (Lf)
  ·simp only [lM, hs] at h
   try simp only [vz, tyf, lL, (bd iH), cP, CA, CB, wM, dr, dt, d4, ei, lM, nm, seval]
   replace h := pb _ h
   try dsimp only at h
   obtain rfl := kF _ h
   exact br Tryz.results102 rfl
  simp only [lM, hs] at h
  obtain ⟨Lg, Ow, h⟩ := optI h pc
  try simp only [hs] at h
  simp only [vz, tyf, lL, (bd iH), cP, CA, CB, wM, dr, dt, d4, ei, lM, nm, seval]
  refine ktA (Ok _ _ _ _ Ow) ?_
  refine bS (fun tm => tm 1 = .ptr 0 0 ∧ tm 11 = .sl (ae cGBs al.Strokes) (List.length al.Strokes) false ∧ tm 12 = .lit (.int .i64 (List.length al.Strokes : Int)) ∧ tm 13 = .lit (.int .i64 bM) ∧ tm 29 = .lit (.bool false) ∧ tm 34 = .lit (.bool Lg) ∧ True) (by refine ⟨cP, wM, dr, dt, ?_, ?_, trivial⟩ <;> first | (simp only [ua, lL, cP, CA, CB, wM, dr, dt, d4, ei, lM, nm, seval] <;> rfl) | rfl) ?_
  rintro tm ⟨fJ, im, gv, kO, jw, jx, _⟩
  cases qU : (Lg)
  ·simp only [qU, hs] at h
   try simp only [vz, tyf, lL, (bd iH), lM, fJ, im, gv, kO, jw, jx, qU, nm, seval]
   replace h := pb _ h
   try dsimp only at h
   obtain rfl := kF _ h
   exact br Tryz.results102 rfl
  simp only [qU, hs] at h
  simp only [vz, tyf, lL, (bd iH), lM, fJ, im, gv, kO, jw, jx, qU, nm, seval]
  exact ⟨List.length mU, Nat.lt_succ_self _, by rw [pd]; refine ⟨mU, bM + 1, rfl, Int.le_trans iX (Int.le_add_one (Int.le_refl _)), cG iX jO, rfl, (show 11 ≤ lK + 28 by omega), ?_, fJ, im, gv, ?_, (by first | exact h | (simp only [lL, lM, qU]; exact h))⟩ <;> first | (simp only [ua, lL, lM, fJ, im, gv, kO, jw, jx, qU, nm, seval] <;> rfl) | rfl⟩
def pf (al : GBk) : Option (Bool) := Option.bind (lH 0 al.Apprentices 3) (fun r1 => cond (r1) (Option.bind (wH al.Boards) (fun r2 => cond (r2) (Option.bind (wK al) (fun r3 => some r3)) (some false))) (some false))
theorem Lh (al : GBk) (R : Bool) (h : pf al = some R) : ak Tryz.prog G0 67 [.agg (cGBk al)] (.tree (.lit (.bool R))) := by
 refine ak.runR mixed Tryz.call67 Tryz.func67 rfl (by simp [Tryz.ntmps67]; kernel_rfl) ?_
 obtain ⟨KF, h, kF, kN⟩ := cV h
 simp only [pf] at h
 obtain ⟨r4, o5, h⟩ := optI h kN
 try simp only [hs] at h
 simp only [vz, tyf, nm, seval]
 refine ktA (qM _ _ _ _ o5) ?_
 refine bS (fun tm => tm 1 = .ptr 0 0 ∧ tm 5 = .lit (.bool r4) ∧ True) (by refine ⟨?_, ?_, trivial⟩ <;> first | (simp only [ua, nm, seval] <;> rfl) | rfl) ?_
 rintro tm ⟨e6, e7, _⟩
 cases d8 : (r4)
 ·simp only [d8, hs] at h
  try simp only [vz, tyf, e6, e7, d8, nm, seval]
  obtain rfl := kF _ h
  exact br Tryz.results67 rfl
 simp only [d8, hs] at h
 obtain ⟨r9, gB, h⟩ := optI h kN
 try simp only [hs] at h
 simp only [vz, tyf, e6, e7, d8, nm, seval]
 refine ktA (Oh _ _ gB) ?_
 refine bS (fun tm => tm 1 = .ptr 0 0 ∧ tm 6 = .lit (.bool true) ∧ tm 9 = .lit (.bool r9) ∧ True) (by refine ⟨e6, ?_, ?_, trivial⟩ <;> first | (simp only [ua, e6, e7, d8, nm, seval] <;> rfl) | rfl) ?_
 rintro tm ⟨bT, bJ, bx, _⟩
 cases ct : (r9)
 ·simp only [ct, hs] at h
  try simp only [vz, tyf, d8, bT, bJ, bx, ct, nm, seval]
  obtain rfl := kF _ h
  exact br Tryz.results67 rfl
 simp only [ct, hs] at h
 obtain ⟨wN, iY, h⟩ := optI h kN
 try simp only [hs] at h
 simp only [vz, tyf, d8, bT, bJ, bx, ct, nm, seval]
 refine ktA (On _ _ iY) ?_
 refine bS (fun tm => tm 11 = .lit (.bool true) ∧ tm 13 = .lit (.bool wN) ∧ True) (by refine ⟨?_, ?_, trivial⟩ <;> first | (simp only [ua, d8, bT, bJ, bx, ct, nm, seval] <;> rfl) | rfl) ?_
 rintro tm ⟨cq, db, _⟩
 try simp only [vz, tyf, d8, ct, cq, db, nm, seval]
 obtain rfl := kF _ h
 exact br Tryz.results67 rfl


def pg  : List GBs → Int → Option (LOut (Bool) (Unit))
 | [], cC => some (.go ())
 | e0 :: p0, cC => cond (decide (cC < 9)) (cond (decide ((List.length e0.Needs : Int) > 8)) (some (.ret false)) (pg p0 (cC + 1))) (some (.go ()))
def qV (al : GBk) : Option (Bool) := cond (aO al.Strokes) (lbind (pg al.Strokes 0) (fun r2 => some r2) (fun c1 => cond (decide ((List.length al.Boards : Int) ≤ 5)) (some (decide ((List.length al.Strokes : Int) ≤ 8))) (some false)) (fun _ _ => none)) none
theorem Ox (al : GBk) (R : Bool) (h : qV al = some R) : ak Tryz.prog G0 18 [.agg (cGBk al)] (.tree (.lit (.bool R))) := by
 refine ak.runR mixed Tryz.call18 Tryz.func18 rfl (by simp [Tryz.ntmps18]; kernel_rfl) ?_
 obtain ⟨KF, h, kF, kN⟩ := cV h
 simp only [qV] at h
 cases g4 : (aO al.Strokes)
 ·simp only [g4, hs] at h
  exact absurd h kN
 simp only [g4, hs] at h
 simp only [vz, tyf, g4, nm, seval]
 obtain ⟨K3, h, qW, jR, wO, mV⟩ := fZ h kN
 obtain ⟨f3, lN, h⟩ := call2 h
 obtain ⟨I3, fx⟩ : ∃ I : Nat → St → Prop, I = (fun m st => ∃ (p3 : List GBs) (ck : Int), m = List.length p3 ∧ 0 ≤ ck ∧ List.drop (Int.toNat ck) al.Strokes = p3 ∧ st.df = [] ∧ 3 ≤ st.nx ∧ st.H 0 = some (.cells (some 25) (cGBk al)) ∧ st.tm 1 = .ptr 0 0 ∧ st.tm 3 = .lit (.int .i64 ck) ∧ K3 (f3 p3 ck)) := ⟨_, rfl⟩
 refine loopK mixed (by kernel_rfl) I3 (List.length al.Strokes) (by rw [fx]; refine ⟨al.Strokes, 0, rfl, Int.le_refl _, rfl, rfl, (show 3 ≤ 3 by omega), ?_, ?_, ?_, h⟩ <;> first | (simp only [ua, nm, seval] <;> rfl) | rfl) ?_
 rintro m ⟨tm, H, eN, df⟩ hinv
 rw [fx] at hinv
 obtain ⟨p3, ck, rfl, cu, cQ, hdf, lO, H5, e6, e7, h⟩ := hinv
 simp only at hdf lO H5 e6 e7
 have n8 := eR (m := 3) (b := eN) (by omega)
 subst hdf lN
 cases p3 with
 | nil =>
  have d9 : (decide (ck < (List.length al.Strokes : Int))) = false := ga cu cQ
  simp only [pg, hs, reduceCtorEq] at h
  replace h := jR _ h
  try dsimp only at h
  try simp only [hs] at h
  cases gM : (decide ((List.length al.Boards : Int) ≤ 5))
  ·simp only [gM, hs] at h
   try simp only [vz, tyf, g4, n8, e6, e7, H5, d9, gM, nm, seval]
   obtain rfl := kF _ h
   exact br Tryz.results18 rfl
  simp only [gM, hs] at h
  try simp only [vz, tyf, g4, n8, e6, e7, H5, d9, gM, nm, seval]
  obtain rfl := kF _ h
  exact br Tryz.results18 rfl
 | cons e3 p3 =>
  have gu : (decide (ck < (List.length al.Strokes : Int))) = true := gb cu cQ
  have kP := eT cu cQ
  have ph := fG cu cQ g4
  simp only [pg, hs, reduceCtorEq] at h
  cases ct : (decide (ck < 9))
  ·simp only [ct, hs] at h
   replace h := jR _ h
   try dsimp only at h
   try simp only [hs] at h
   cases dS : (decide ((List.length al.Boards : Int) ≤ 5))
   ·simp only [dS, hs] at h
    have Oy := And.intro g4 (And.intro n8 (And.intro H5 (And.intro gu (And.intro ph (And.intro ct dS)))))
    try simp only [vz, tyf, Oy, e6, e7, (bd kP), nm, seval]
    obtain rfl := kF _ h
    exact br Tryz.results18 rfl
   simp only [dS, hs] at h
   have Oz := And.intro g4 (And.intro n8 (And.intro H5 (And.intro gu (And.intro ph (And.intro ct dS)))))
   try simp only [vz, tyf, Oz, e6, e7, (bd kP), nm, seval]
   obtain rfl := kF _ h
   exact br Tryz.results18 rfl
  simp only [ct, hs] at h
  cases iZ : (decide ((List.length e3.Needs : Int) > 8))
  ·simp only [iZ, hs] at h
   have ja := And.intro g4 (And.intro n8 (And.intro H5 (And.intro gu (And.intro ph (And.intro ct iZ)))))
   simp only [vz, tyf, ja, e6, e7, (bd kP), nm, seval]
   exact ⟨List.length p3, Nat.lt_succ_self _, by rw [fx]; refine ⟨p3, ck + 1, rfl, Int.le_trans cu (Int.le_add_one (Int.le_refl _)), cG cu cQ, rfl, (show 3 ≤ eN + 20 by omega), ?_, e6, ?_, (by first | exact h | (simp only [ja]; exact h))⟩ <;> first | (simp only [ua, ja, e6, e7, nm, seval] <;> rfl) | rfl⟩
  simp only [iZ, hs] at h
  have O0 := And.intro g4 (And.intro n8 (And.intro H5 (And.intro gu (And.intro ph (And.intro ct iZ)))))
  try simp only [vz, tyf, O0, e6, e7, (bd kP), nm, seval]
  replace h := qW _ h
  try dsimp only at h
  obtain rfl := kF _ h
  exact br Tryz.results18 rfl
def jS (jb : Int) (fl : Int) (eX : Int) : Option (Bool) := cond (decide (jb ≥ fl)) (some (decide (jb ≤ eX))) (some false)
theorem mW (jb : Int) (fl : Int) (eX : Int) (R : Bool) (h : jS jb fl eX = some R) : ak Tryz.prog G0 73 [.lit (.int .i64 jb), .lit (.int .i64 fl), .lit (.int .i64 eX)] (.tree (.lit (.bool R))) := by
 refine ak.runR mixed Tryz.call73 Tryz.func73 rfl (by simp [Tryz.ntmps73]; kernel_rfl) ?_
 obtain ⟨KF, h, kF, kN⟩ := cV h
 simp only [jS] at h
 cases d1 : (decide (jb ≥ fl))
 ·simp only [d1, hs] at h
  try simp only [vz, tyf, d1, nm, seval]
  obtain rfl := kF _ h
  exact br Tryz.results73 rfl
 simp only [d1, hs] at h
 try simp only [vz, tyf, d1, nm, seval]
 obtain rfl := kF _ h
 exact br Tryz.results73 rfl
def pj (bj : Int) (x1 : GBs) : List Int → Int → Option (LOut (Bool) (Unit))
 | [], cb => some (.go ())
 | e0 :: p0, cb => Option.bind (jS e0 0 (i64.wrap (bj - 1))) (fun r5 => cond (r5) (cond (decide (cb > 0)) (Option.bind (getI x1.Needs (i64.wrap (cb - 1))) (fun x6 => cond (decide (e0 ≤ x6)) (some (.ret false)) (pj bj x1 p0 (cb + 1)))) (pj bj x1 p0 (cb + 1))) (some (.ret false)))
def tW (al : GBk) (bj : Int) : Option (Bool) := Option.bind (getI al.Strokes bj) (fun x1 => Option.bind (jS x1.Board 0 (i64.wrap ((List.length al.Boards : Int) - 1))) (fun r2 => cond (r2) (Option.bind (jS x1.Hours.Low 1 6) (fun r3 => cond (r3) (Option.bind (jS x1.Hours.High x1.Hours.Low 6) (fun r4 => cond (r4) (cond (aO x1.Needs) (lbind (pj bj x1 x1.Needs 0) (fun r8 => some r8) (fun c7 => some true) (fun _ _ => none)) none) (some false))) (some false))) (some false)))
theorem O1 (al : GBk) (bj : Int) (R : Bool) (h : tW al bj = some R) : ak Tryz.prog G0 74 [.agg (cGBk al), .lit (.int .i64 bj)] (.tree (.lit (.bool R))) := by
 refine ak.runR mixed Tryz.call74 Tryz.func74 rfl (by simp [Tryz.ntmps74]; kernel_rfl) ?_
 obtain ⟨KF, h, kF, kN⟩ := cV h
 simp only [tW] at h
 obtain ⟨x9, gB, h⟩ := optI h kN
 try simp only [hs] at h
 obtain ⟨mX, kQ, h⟩ := optI h kN
 try simp only [hs] at h
 simp only [vz, tyf, (bd gB), nm, seval]
 refine ktA (mW _ _ _ _ kQ) ?_
 refine bS (fun tm => tm 1 = .lit (.int .i64 bj) ∧ tm 5 = .ptr 7 0 ∧ tm 18 = .lit (.bool mX) ∧ True) (by refine ⟨?_, ?_, ?_, trivial⟩ <;> first | (simp only [ua, nm, seval] <;> rfl) | rfl) ?_
 rintro tm ⟨bx, bC, cH, _⟩
 cases b5 : (mX)
 ·simp only [b5, hs] at h
  try simp only [vz, tyf, (bd gB), bx, bC, cH, b5, nm, seval]
  obtain rfl := kF _ h
  exact br Tryz.results74 rfl
 simp only [b5, hs] at h
 obtain ⟨cW, lP, h⟩ := optI h kN
 try simp only [hs] at h
 simp only [vz, tyf, (bd gB), bx, bC, cH, b5, nm, seval]
 refine ktA (mW _ _ _ _ lP) ?_
 refine bS (fun tm => tm 1 = .lit (.int .i64 bj) ∧ tm 5 = .ptr 7 0 ∧ tm 20 = .lit (.bool false) ∧ tm 24 = .lit (.bool cW) ∧ True) (by refine ⟨bx, bC, ?_, ?_, trivial⟩ <;> first | (simp only [ua, bx, bC, cH, b5, nm, seval] <;> rfl) | rfl) ?_
 rintro tm ⟨cO, eh, fv, hX, _⟩
 cases hZ : (cW)
 ·simp only [hZ, hs] at h
  try simp only [vz, tyf, (bd gB), b5, cO, eh, fv, hX, hZ, nm, seval]
  obtain rfl := kF _ h
  exact br Tryz.results74 rfl
 simp only [hZ, hs] at h
 obtain ⟨kM, mS, h⟩ := optI h kN
 try simp only [hs] at h
 simp only [vz, tyf, (bd gB), b5, cO, eh, fv, hX, hZ, nm, seval]
 refine ktA (mW _ _ _ _ mS) ?_
 refine bS (fun tm => tm 1 = .lit (.int .i64 bj) ∧ tm 5 = .ptr 7 0 ∧ tm 27 = .lit (.bool false) ∧ tm 34 = .lit (.bool kM) ∧ True) (by refine ⟨cO, eh, ?_, ?_, trivial⟩ <;> first | (simp only [ua, b5, cO, eh, fv, hX, hZ, nm, seval] <;> rfl) | rfl) ?_
 rintro tm ⟨ez, bV, eC, eW, _⟩
 cases lQ : (kM)
 ·simp only [lQ, hs] at h
  try simp only [vz, tyf, (bd gB), b5, hZ, ez, bV, eC, eW, lQ, nm, seval]
  obtain rfl := kF _ h
  exact br Tryz.results74 rfl
 simp only [lQ, hs] at h
 cases pk : (aO x9.Needs)
 ·simp only [pk, hs] at h
  exact absurd h kN
 simp only [pk, hs] at h
 simp only [vz, tyf, (bd gB), b5, hZ, ez, bV, eC, eW, lQ, pk, nm, seval]
 obtain ⟨O2, h, tX, CD, O3, tY⟩ := fZ h kN
 obtain ⟨O4, CE, h⟩ := call2 h
 obtain ⟨O5, lR⟩ : ∃ I : Nat → St → Prop, I = (fun m st => ∃ (kR : List Int) (cK : Int), m = List.length kR ∧ 0 ≤ cK ∧ List.drop (Int.toNat cK) x9.Needs = kR ∧ st.df = [] ∧ 35 ≤ st.nx ∧ st.H 7 = some (.cells (some 49) (cGBs x9)) ∧ st.tm 1 = .lit (.int .i64 bj) ∧ st.tm 5 = .ptr 7 0 ∧ st.tm 6 = .lit (.int .i64 cK) ∧ O2 (O4 kR cK)) := ⟨_, rfl⟩
 refine loopK mixed (by kernel_rfl) O5 (List.length x9.Needs) (by rw [lR]; refine ⟨x9.Needs, 0, rfl, Int.le_refl _, rfl, rfl, (show 35 ≤ 35 by omega), ?_, ez, bV, ?_, h⟩ <;> first | (simp only [ua, b5, hZ, ez, bV, eC, eW, lQ, nm, seval] <;> rfl) | rfl) ?_
 rintro m ⟨tm, H, pn, df⟩ hinv
 rw [lR] at hinv
 obtain ⟨kR, cK, rfl, gN, jc, hdf, CF, tZ, bD, bH, bL, h⟩ := hinv
 simp only at hdf CF tZ bD bH bL
 have wP := eR (m := 35) (b := pn) (by omega)
 subst hdf CE
 cases kR with
 | nil =>
  have d5 : (decide (cK < (List.length x9.Needs : Int))) = false := ga gN jc
  simp only [pj, hs, reduceCtorEq] at h
  replace h := CD _ h
  try dsimp only at h
  try simp only [hs] at h
  try simp only [vz, tyf, (bd gB), b5, hZ, lQ, pk, wP, bD, bH, bL, tZ, d5, nm, seval]
  obtain rfl := kF _ h
  exact br Tryz.results74 rfl
 | cons bW kR =>
  have cg : (decide (cK < (List.length x9.Needs : Int))) = true := gb gN jc
  have mY := eT gN jc
  have CG := fG gN jc pk
  simp only [pj, hs, reduceCtorEq] at h
  simp only [vz, tyf, (bd gB), b5, hZ, lQ, pk, wP, bD, bH, bL, tZ, cg, (aY mY), CG, nm, seval]
  refine kL (fun tm => tm 1 = .lit (.int .i64 bj) ∧ tm 5 = .ptr 7 0 ∧ tm 6 = .lit (.int .i64 cK) ∧ True) (by refine ⟨bD, bH, bL, trivial⟩ <;> first | (simp only [ua, b5, hZ, lQ, wP, bD, bH, bL, tZ, cg, CG, nm, seval] <;> rfl) | rfl) ?_
  rintro tm ⟨dr, dt, d4, _⟩
  have kS := And.intro b5 (And.intro hZ (And.intro lQ (And.intro pk (And.intro wP (And.intro tZ (And.intro cg CG))))))
  obtain ⟨Li, O6, h⟩ := optI h tY
  try simp only [hs] at h
  simp only [vz, tyf, kS, (bd gB), (aY mY), dr, dt, d4, nm, seval]
  refine dktA (mW _ _ _ _ O6) ?_
  refine bS (fun tm => tm 1 = .lit (.int .i64 bj) ∧ tm 5 = .ptr 7 0 ∧ tm 6 = .lit (.int .i64 cK) ∧ tm 51 = .lit (.bool Li) ∧ True) (by refine ⟨dr, dt, d4, ?_, trivial⟩ <;> first | (simp only [ua, kS, dr, dt, d4, nm, seval] <;> rfl) | rfl) ?_
  rintro tm ⟨dc, fJ, im, gv, _⟩
  cases gO : (Li)
  ·simp only [gO, hs] at h
   try simp only [vz, tyf, kS, (bd gB), (aY mY), dc, fJ, im, gv, gO, nm, seval]
   replace h := tX _ h
   try dsimp only at h
   obtain rfl := kF _ h
   exact br Tryz.results74 rfl
  simp only [gO, hs] at h
  cases lS : (decide (cK > 0))
  ·simp only [lS, hs] at h
   simp only [vz, tyf, kS, (bd gB), (aY mY), dc, fJ, im, gv, gO, lS, nm, seval]
   exact ⟨List.length kR, Nat.lt_succ_self _, by rw [lR]; refine ⟨kR, cK + 1, rfl, Int.le_trans gN (Int.le_add_one (Int.le_refl _)), cG gN jc, rfl, (show 35 ≤ pn + 35 by omega), ?_, dc, fJ, ?_, (by first | exact h | (simp only [kS, gO, lS]; exact h))⟩ <;> first | (simp only [ua, kS, dc, fJ, im, gv, gO, lS, nm, seval] <;> rfl) | rfl⟩
  simp only [lS, hs] at h
  obtain ⟨O7, Lj, h⟩ := optI h tY
  try simp only [hs] at h
  cases qX : (decide (bW ≤ O7))
  ·simp only [qX, hs] at h
   simp only [vz, tyf, kS, (bd gB), (aY mY), dc, fJ, im, gv, gO, lS, (aY Lj), qX, nm, seval]
   exact ⟨List.length kR, Nat.lt_succ_self _, by rw [lR]; refine ⟨kR, cK + 1, rfl, Int.le_trans gN (Int.le_add_one (Int.le_refl _)), cG gN jc, rfl, (show 35 ≤ pn + 35 by omega), ?_, dc, fJ, ?_, (by first | exact h | (simp only [kS, gO, lS, qX]; exact h))⟩ <;> first | (simp only [ua, kS, dc, fJ, im, gv, gO, lS, qX, nm, seval] <;> rfl) | rfl⟩
  simp only [qX, hs] at h
  try simp only [vz, tyf, kS, (bd gB), (aY mY), dc, fJ, im, gv, gO, lS, (aY Lj), qX, nm, seval]
  replace h := tX _ h
  try dsimp only at h
  obtain rfl := kF _ h
  exact br Tryz.results74 rfl
def qY (al : GBk) : List GBs → Int → Option (LOut (Bool) (Unit))
 | [], po => some (.go ())
 | e1 :: p1, po => Option.bind (tW al po) (fun r6 => cond (r6) (qY al p1 (po + 1)) (some (.ret false)))
def qZ  : List Int → Int → Option (LOut (Bool) (Unit))
 | [], cC => some (.go ())
 | e0 :: p0, cC => Option.bind (jS e0 0 60) (fun r4 => cond (r4) (qZ p0 (cC + 1)) (some (.ret false)))
def ub (al : GBk) : Option (Bool) := Option.bind (jS al.Apprentices 0 3) (fun r1 => cond (r1) (Option.bind (jS (List.length al.Boards : Int) 1 3) (fun r2 => cond (r2) (Option.bind (jS (List.length al.Strokes : Int) 1 6) (fun r3 => cond (r3) (cond (aO al.Boards) (lbind (qZ al.Boards 0) (fun r9 => some r9) (fun c5 => cond (aO al.Strokes) (lbind (qY al al.Strokes 0) (fun r8 => some r8) (fun c7 => some true) (fun _ _ => none)) none) (fun _ _ => none)) none) (some false))) (some false))) (some false))
theorem O8 (al : GBk) (R : Bool) (h : ub al = some R) : ak Tryz.prog G0 24 [.agg (cGBk al)] (.tree (.lit (.bool R))) := by
 refine ak.runR mixed Tryz.call24 Tryz.func24 rfl (by simp [Tryz.ntmps24]; kernel_rfl) ?_
 obtain ⟨KF, h, kF, kN⟩ := cV h
 simp only [ub] at h
 obtain ⟨mZ, pq, h⟩ := optI h kN
 try simp only [hs] at h
 simp only [vz, tyf, nm, seval]
 refine ktA (mW _ _ _ _ pq) ?_
 refine bS (fun tm => tm 1 = .ptr 0 0 ∧ tm 7 = .lit (.bool mZ) ∧ True) (by refine ⟨?_, ?_, trivial⟩ <;> first | (simp only [ua, nm, seval] <;> rfl) | rfl) ?_
 rintro tm ⟨bJ, bx, _⟩
 cases ct : (mZ)
 ·simp only [ct, hs] at h
  try simp only [vz, tyf, bJ, bx, ct, nm, seval]
  obtain rfl := kF _ h
  exact br Tryz.results24 rfl
 simp only [ct, hs] at h
 obtain ⟨wN, iY, h⟩ := optI h kN
 try simp only [hs] at h
 simp only [vz, tyf, bJ, bx, ct, nm, seval]
 refine ktA (mW _ _ _ _ iY) ?_
 refine bS (fun tm => tm 1 = .ptr 0 0 ∧ tm 9 = .lit (.bool false) ∧ tm 13 = .lit (.bool wN) ∧ True) (by refine ⟨bJ, ?_, ?_, trivial⟩ <;> first | (simp only [ua, bJ, bx, ct, nm, seval] <;> rfl) | rfl) ?_
 rintro tm ⟨cq, db, cO, _⟩
 cases dQ : (wN)
 ·simp only [dQ, hs] at h
  try simp only [vz, tyf, ct, cq, db, cO, dQ, nm, seval]
  obtain rfl := kF _ h
  exact br Tryz.results24 rfl
 simp only [dQ, hs] at h
 obtain ⟨jT, nf, h⟩ := optI h kN
 try simp only [hs] at h
 simp only [vz, tyf, ct, cq, db, cO, dQ, nm, seval]
 refine ktA (mW _ _ _ _ nf) ?_
 refine bS (fun tm => tm 1 = .ptr 0 0 ∧ tm 16 = .lit (.bool false) ∧ tm 20 = .lit (.bool jT) ∧ True) (by refine ⟨cq, ?_, ?_, trivial⟩ <;> first | (simp only [ua, ct, cq, db, cO, dQ, nm, seval] <;> rfl) | rfl) ?_
 rintro tm ⟨eU, ia, gP, _⟩
 cases fI : (jT)
 ·simp only [fI, hs] at h
  try simp only [vz, tyf, ct, dQ, eU, ia, gP, fI, nm, seval]
  obtain rfl := kF _ h
  exact br Tryz.results24 rfl
 simp only [fI, hs] at h
 cases gQ : (aO al.Boards)
 ·simp only [gQ, hs] at h
  exact absurd h kN
 simp only [gQ, hs] at h
 simp only [vz, tyf, ct, dQ, eU, ia, gP, fI, gQ, nm, seval]
 obtain ⟨CH, h, uc, pr, CI, jU⟩ := fZ h kN
 obtain ⟨CJ, pv, h⟩ := call2 h
 obtain ⟨CK, iq⟩ : ∃ I : Nat → St → Prop, I = (fun m st => ∃ (ib : List Int) (dJ : Int), m = List.length ib ∧ 0 ≤ dJ ∧ List.drop (Int.toNat dJ) al.Boards = ib ∧ st.df = [] ∧ 21 ≤ st.nx ∧ st.H 0 = some (.cells (some 25) (cGBk al)) ∧ st.tm 1 = .ptr 0 0 ∧ st.tm 3 = .lit (.int .i64 dJ) ∧ CH (CJ ib dJ)) := ⟨_, rfl⟩
 refine loopK mixed (by kernel_rfl) CK (List.length al.Boards) (by rw [iq]; refine ⟨al.Boards, 0, rfl, Int.le_refl _, rfl, rfl, (show 21 ≤ 21 by omega), ?_, eU, ?_, h⟩ <;> first | (simp only [ua, ct, dQ, eU, ia, gP, fI, nm, seval] <;> rfl) | rfl) ?_
 rintro m ⟨tm, H, cN, df⟩ hinv
 rw [iq] at hinv
 obtain ⟨ib, dJ, rfl, jd, jV, hdf, pw, jy, dR, bW, h⟩ := hinv
 simp only at hdf pw jy dR bW
 have lT := eR (m := 21) (b := cN) (by omega)
 subst hdf pv
 cases ib with
 | nil =>
  have jQ : (decide (dJ < (List.length al.Boards : Int))) = false := ga jd jV
  simp only [qZ, hs, reduceCtorEq] at h
  replace h := pr _ h
  try dsimp only at h
  try simp only [hs] at h
  cases iu : (aO al.Strokes)
  ·simp only [iu, hs] at h
   exact absurd h kN
  simp only [iu, hs] at h
  simp only [vz, tyf, ct, dQ, fI, gQ, lT, dR, bW, jy, jQ, iu, nm, seval]
  obtain ⟨O9, h, CL, CM, OA, CN⟩ := fZ h kN
  obtain ⟨OB, CP, h⟩ := call2 h
  obtain ⟨OC, px⟩ : ∃ I : Nat → St → Prop, I = (fun m st => ∃ (ng : List GBs) (dK : Int), m = List.length ng ∧ 0 ≤ dK ∧ List.drop (Int.toNat dK) al.Strokes = ng ∧ st.df = [] ∧ cN + 6 ≤ st.nx ∧ st.H 0 = some (.cells (some 25) (cGBk al)) ∧ st.tm 1 = .ptr 0 0 ∧ st.tm 4 = .lit (.int .i64 dK) ∧ O9 (OB ng dK)) := ⟨_, rfl⟩
  refine loopK mixed (by kernel_rfl) OC (List.length al.Strokes) (by rw [px]; refine ⟨al.Strokes, 0, rfl, Int.le_refl _, rfl, rfl, (show cN + 6 ≤ cN + 6 by omega), ?_, dR, ?_, h⟩ <;> first | (simp only [ua, ct, dQ, fI, lT, dR, bW, jy, jQ, nm, seval] <;> rfl) | rfl) ?_
  rintro m ⟨tm, H, py, df⟩ hinv
  rw [px] at hinv
  obtain ⟨ng, dK, rfl, je, jW, hdf, CQ, ud, bX, cP, h⟩ := hinv
  simp only at hdf CQ ud bX cP
  have wQ := eR (m := 21) (b := py) (by omega)
  have wR := jz (a := cN) (m := 6) (b := py) (by omega)
  subst hdf CP
  cases ng with
  | nil =>
   have gf : (decide (dK < (List.length al.Strokes : Int))) = false := ga je jW
   simp only [qY, hs, reduceCtorEq] at h
   replace h := CM _ h
   try dsimp only at h
   try simp only [hs] at h
   try simp only [vz, tyf, ct, dQ, fI, gQ, lT, jQ, iu, wQ, wR, bX, cP, ud, gf, nm, seval]
   obtain rfl := kF _ h
   exact br Tryz.results24 rfl
  | cons bD ng =>
   have lU : (decide (dK < (List.length al.Strokes : Int))) = true := gb je jW
   have CS := eT je jW
   have CT := fG je jW iu
   simp only [qY, hs, reduceCtorEq] at h
   obtain ⟨Lk, OD, h⟩ := optI h CN
   try simp only [hs] at h
   simp only [vz, tyf, ct, dQ, fI, gQ, lT, jQ, iu, wQ, wR, bX, cP, ud, lU, (bd CS), CT, nm, seval]
   refine ktA (O1 _ _ _ OD) ?_
   refine bS (fun tm => tm 1 = .ptr 0 0 ∧ tm 4 = .lit (.int .i64 dK) ∧ tm 46 = .lit (.bool Lk) ∧ True) (by refine ⟨bX, cP, ?_, trivial⟩ <;> first | (simp only [ua, ct, dQ, fI, lT, jQ, wQ, wR, bX, cP, ud, lU, CT, nm, seval] <;> rfl) | rfl) ?_
   rintro tm ⟨d6, dc, fJ, _⟩
   have wS := And.intro ct (And.intro dQ (And.intro fI (And.intro gQ (And.intro lT (And.intro jQ (And.intro iu (And.intro wQ (And.intro wR (And.intro ud (And.intro lU CT))))))))))
   cases kT : (Lk)
   ·simp only [kT, hs] at h
    try simp only [vz, tyf, wS, (bd CS), d6, dc, fJ, kT, nm, seval]
    replace h := CL _ h
    try dsimp only at h
    obtain rfl := kF _ h
    exact br Tryz.results24 rfl
   simp only [kT, hs] at h
   simp only [vz, tyf, wS, (bd CS), d6, dc, fJ, kT, nm, seval]
   exact ⟨List.length ng, Nat.lt_succ_self _, by rw [px]; refine ⟨ng, dK + 1, rfl, Int.le_trans je (Int.le_add_one (Int.le_refl _)), cG je jW, rfl, (show cN + 6 ≤ py + 12 by omega), ?_, d6, ?_, (by first | exact h | (simp only [wS, kT]; exact h))⟩ <;> first | (simp only [ua, wS, d6, dc, fJ, kT, nm, seval] <;> rfl) | rfl⟩
 | cons bV ib =>
  have gO : (decide (dJ < (List.length al.Boards : Int))) = true := gb jd jV
  have gC := eT jd jV
  have ra := fG jd jV gQ
  simp only [qZ, hs, reduceCtorEq] at h
  obtain ⟨Ll, gD, h⟩ := optI h jU
  try simp only [hs] at h
  simp only [vz, tyf, ct, dQ, fI, gQ, lT, dR, bW, jy, gO, (aY gC), ra, nm, seval]
  refine ktA (mW _ _ _ _ gD) ?_
  refine bS (fun tm => tm 1 = .ptr 0 0 ∧ tm 3 = .lit (.int .i64 dJ) ∧ tm 35 = .lit (.bool Ll) ∧ True) (by refine ⟨dR, bW, ?_, trivial⟩ <;> first | (simp only [ua, ct, dQ, fI, lT, dR, bW, jy, gO, ra, nm, seval] <;> rfl) | rfl) ?_
  rintro tm ⟨lV, dh, du, _⟩
  have wT := And.intro ct (And.intro dQ (And.intro fI (And.intro gQ (And.intro lT (And.intro jy (And.intro gO ra))))))
  cases re : (Ll)
  ·simp only [re, hs] at h
   try simp only [vz, tyf, wT, (aY gC), lV, dh, du, re, nm, seval]
   replace h := uc _ h
   try dsimp only at h
   obtain rfl := kF _ h
   exact br Tryz.results24 rfl
  simp only [re, hs] at h
  simp only [vz, tyf, wT, (aY gC), lV, dh, du, re, nm, seval]
  exact ⟨List.length ib, Nat.lt_succ_self _, by rw [iq]; refine ⟨ib, dJ + 1, rfl, Int.le_trans jd (Int.le_add_one (Int.le_refl _)), cG jd jV, rfl, (show 21 ≤ cN + 15 by omega), ?_, lV, ?_, (by first | exact h | (simp only [wT, re]; exact h))⟩ <;> first | (simp only [ua, wT, lV, dh, du, re, nm, seval] <;> rfl) | rfl⟩





theorem wU (a n b : Int) : lH a n b = some (inB a b n) := csome _ _
theorem lW (n a b : Int) : jS n a b = some (inB a b n) := csome _ _
theorem Lm (a b : Int) : ∀ (p : List Int) (c : Int), qN a b p c = goB (p.all (inB a b))
 | [], _ => rfl
 | e :: p, c => by simp only [qN, wU, Option.bind_some, Lm a b p, List.all_cons, tI]
theorem Ln {l : List Int} (hl : l.length < 9223372036854775808) (a b : Int) : qO a l b = some (l.all (inB a b)) := by
 unfold qO
 rw [gA hl, cond_true, Lm, qL]
 exact csome _ _ ▸ by cases l.all (inB a b) <;> rfl
def adjB : List Int → Bool
 | a :: b :: l => decide (a < b) && adjB (b :: l)
 | _ => true
theorem Lo {ns : List Int} (hn : ns.length < 9223372036854775808) : ∀ (p : List Int) (c a : Int), 1 ≤ c → ns.drop (c - 1).toNat = a :: p → qQ ns p c = goB (adjB (a :: p))
 | [], _, _, _, _ => rfl
 | e :: p, c, a, hc, hd => by
  have h1 := eT (by omega) hd
  have hb := (oV h1).2
  have h2 := cG (by omega) hd
  simp only [qQ]
  rw [fk (by omega) (by omega), h1, Option.bind_some, Lo hn p (c + 1) e (by omega) (by rw [← h2]; congr 1; omega)]
  have ea : adjB (a :: e :: p) = (decide (a < e) && adjB (e :: p)) := rfl
  rw [ea, tI]
  by_cases h : e ≤ a
  ·rw [decide_eq_true h, decide_eq_false (Int.not_lt.2 h)]; rfl
  ·rw [decide_eq_false h, decide_eq_true (Int.not_le.1 h)]; rfl
theorem CU {l : List Int} (hl : l.length < 9223372036854775808) (a b : Int) : tT a l b = some (adjB l && l.all (inB a b)) := by
 unfold tT
 have hle : leB 0 1 = true := by decide
 rw [gA hl, cond_true, hle, cond_true, Ln hl]
 cases l with
 | nil => rfl
 | cons x p =>
  have := Lo hl p 1 x (Int.le_refl _) rfl
  simp only [Int.reduceToNat, List.drop_succ_cons, List.drop_zero]
  rw [this, qL, Option.bind_some]
  cases adjB (x :: p) <;> rfl
def strokeB (nb : Nat) (n : Int) (s : GBs) : Bool := inB 0 ((nb : Int) - 1) s.Board && ((inB 1 6 s.Hours.Low && inB s.Hours.Low 6 s.Hours.High) && (s.Needs.all (inB 0 (n - 1)) && adjB s.Needs))
def strokesB (nb : Nat) : Int → List GBs → Bool
 | _, [] => true
 | c, s :: l => strokeB nb c s && strokesB nb (c + 1) l
def benchB (b : GBk) : Bool := inB 0 3 b.Apprentices && ((inB 1 3 b.Boards.length && b.Boards.all (inB 0 60)) && (inB 1 6 b.Strokes.length && strokesB b.Boards.length 0 b.Strokes))
structure Len (b : GBk) : Prop where
 bo : b.Boards.length < 9223372036854775808
 st : b.Strokes.length < 9223372036854775808
 nd : ∀ s ∈ b.Strokes, s.Needs.length < 9223372036854775808
theorem CV (a b : Int) (x : GSpan) : tS a x b = some (inB a b x.Low && inB x.Low b x.High) := by
 unfold tS inB
 by_cases h1 : a ≤ x.Low <;> by_cases h2 : x.Low ≤ x.High <;> by_cases h3 : x.High ≤ b <;> by_cases h4 : x.Low ≤ b <;> simp [h1, h2, h3, h4] <;> omega
theorem Lp {b : GBk} (hb : b.Boards.length < 9223372036854775808) : ∀ (p : List GBs) (c : Int), 0 ≤ c → c + p.length < 9223372036854775808 → (∀ s ∈ p, s.Needs.length < 9223372036854775808) → qS b p c = goB (strokesB b.Boards.length c p)
 | [], _, _, _, _ => rfl
 | s :: p, c, h0, h1, h2 => by
  simp only [List.length_cons] at h1
  have hs := h2 s (List.mem_cons_self ..)
  simp only [qS, wI, wU, Option.bind_some, CV]
  rw [fk (by omega) (by omega), fk (by omega) (by omega), CU hs, Lp hb p (c + 1) (by omega) (by omega) (fun s hs => h2 s (List.mem_cons_of_mem _ hs))]
  simp only [strokesB, strokeB, tI, Option.bind_some]
  cases inB 0 ((b.Boards.length : Int) - 1) s.Board <;> cases inB 1 6 s.Hours.Low <;> cases inB s.Hours.Low 6 s.Hours.High <;> cases s.Needs.all (inB 0 (c - 1)) <;> cases adjB s.Needs <;> rfl
theorem ue {b : GBk} (h : Len b) : pf b = some (benchB b) := by
 unfold pf benchB wH wK
 simp only [wU, Option.bind_some, Ln h.bo]
 rw [gA h.st, cond_true, Lp h.bo b.Strokes 0 (Int.le_refl _) (by have := h.st; omega) h.nd, qL]
 cases inB 0 3 b.Apprentices <;> cases inB 1 3 (b.Boards.length : Int) <;> cases b.Boards.all (inB 0 60) <;> cases inB 1 6 (b.Strokes.length : Int) <;> cases strokesB b.Boards.length 0 b.Strokes <;> rfl
def adjF (a : Option Int) : List Int → Bool
 | [] => true
 | e :: l => (match a with | some x => decide (x < e) | none => true) && adjF (some e) l
theorem Lq : ∀ (l : List Int) (a : Int), adjF (some a) l = adjB (a :: l)
 | [], _ => rfl
 | e :: l, a => by unfold adjF adjB; rw [Lq l e]
theorem CW (l : List Int) : adjF none l = adjB l := by
 cases l with
 | nil => rfl
 | cons e l => unfold adjF; rw [Lq l e]; rfl
theorem Ls {n : Int} (hn : -9223372036854775807 ≤ n) (uf : n < 9223372036854775808) {s : GBs} (hl : s.Needs.length < 9223372036854775808) : ∀ (p : List Int) (c : Int) (a : Option Int), 0 ≤ c → s.Needs.drop c.toNat = p → (c = 0 ∧ a = none ∨ 0 < c ∧ getI s.Needs (c - 1) = a ∧ a ≠ none) →
  pj n s p c = goB (p.all (inB 0 (n - 1)) && adjF a p)
 | [], _, _, _, _, _ => rfl
 | e :: p, c, a, h0, hd, ha => by
  have h1 := eT h0 hd
  have hb := (oV h1).2
  simp only [pj, lW, Option.bind_some]
  rw [fk (by omega) (by omega), Ls hn uf hl p (c + 1) (some e) (by omega) (cG h0 hd) (.inr ⟨by omega, by rw [show c + 1 - 1 = c by omega]; exact h1, by simp⟩)]
  simp only [List.all_cons, adjF]
  rcases ha with ⟨rfl, rfl⟩ | ⟨hc, ha, hne⟩
  ·cases inB 0 (n - 1) e <;> cases p.all (inB 0 (n - 1)) <;> cases adjF (some e) p <;> rfl
  ·rw [fk (by omega) (by omega), ha, decide_eq_true (show c > 0 from hc)]
   cases a with
   | none => exact absurd rfl hne
   | some x =>
    simp only [cond_true, Option.bind_some]
    by_cases h : e ≤ x
    ·rw [decide_eq_true h, decide_eq_false (Int.not_lt.2 h)]
     cases inB 0 (n - 1) e <;> simp [goB]
    ·rw [decide_eq_false h, decide_eq_true (Int.not_le.1 h)]
     cases inB 0 (n - 1) e <;> cases p.all (inB 0 (n - 1)) <;> cases adjF (some e) p <;> rfl
theorem CX {b : GBk} (h : Len b) {n : Int} {s : GBs} (hs : getI b.Strokes n = some s) : tW b n = some (strokeB b.Boards.length n s) := by
 have hb := oV hs
 have hst := h.st
 have hl := h.nd s (Cy hs)
 have hbo := h.bo
 unfold tW strokeB
 simp only [hs, Option.bind_some, lW]
 rw [fk (by omega) (by omega), gA hl, cond_true, Ls (by omega) (by omega) hl s.Needs 0 none (Int.le_refl _) rfl (.inl ⟨rfl, rfl⟩), qL, CW]
 cases inB 0 ((b.Boards.length : Int) - 1) s.Board <;> cases inB 1 6 s.Hours.Low <;> cases inB s.Hours.Low 6 s.Hours.High <;> cases s.Needs.all (inB 0 (n - 1)) <;> cases adjB s.Needs <;> rfl
theorem Lt : ∀ (p : List Int) (c : Int), qZ p c = goB (p.all (inB 0 60))
 | [], _ => rfl
 | e :: p, c => by simp only [qZ, lW, Option.bind_some, Lt p, List.all_cons, tI]
theorem Lu {b : GBk} (h : Len b) : ∀ (p : List GBs) (c : Int), 0 ≤ c → b.Strokes.drop c.toNat = p → qY b p c = goB (strokesB b.Boards.length c p)
 | [], _, _, _ => rfl
 | s :: p, c, h0, hd => by
  simp only [qY, CX h (eT h0 hd), Option.bind_some, Lu h p (c + 1) (by omega) (cG h0 hd), strokesB, tI]
theorem CY {b : GBk} (h : Len b) : ub b = some (benchB b) := by
 unfold ub benchB
 simp only [lW, Option.bind_some]
 rw [gA h.bo, gA h.st, Lt, Lu h b.Strokes 0 (Int.le_refl _) rfl, qL, qL]
 cases inB 0 3 b.Apprentices <;> cases inB 1 3 (b.Boards.length : Int) <;> cases b.Boards.all (inB 0 60) <;> cases inB 1 6 (b.Strokes.length : Int) <;> cases strokesB b.Boards.length 0 b.Strokes <;> rfl
theorem CZ {b : GBk} {n h : Int} {s : GBs} (hs : getI b.Strokes n = some s) : ug b n h = some (h == 0 || !s.Round) := by
 unfold ug
 cases h == 0 <;> simp [hs]
structure BOk (b : GBk) : Prop where
 ap : 0 ≤ b.Apprentices ∧ b.Apprentices ≤ 3
 nb : 1 ≤ b.Boards.length ∧ b.Boards.length ≤ 3
 bo : ∀ x ∈ b.Boards, 0 ≤ x ∧ x ≤ 60
 ns : 1 ≤ b.Strokes.length ∧ b.Strokes.length ≤ 6
 st : ∀ (i : Nat) s, b.Strokes[i]? = some s → strokeB b.Boards.length i s = true
theorem Lv {nb : Nat} : ∀ (p : List GBs) (c : Int), strokesB nb c p = true ↔ ∀ (i : Nat) s, p[i]? = some s → strokeB nb (c + i) s = true
 | [], c => by simp [strokesB]
 | s :: p, c => by
  simp only [strokesB, Bool.and_eq_true, Lv p]
  constructor
  ·rintro ⟨h1, h2⟩ i x hx
   cases i with
   | zero => simp at hx; subst hx; simpa using h1
   | succ i => have := h2 i x (by simpa using hx); rw [show c + (i + 1 : Nat) = c + 1 + i by omega]; exact this
  ·intro h
   refine ⟨by have := h 0 s rfl; simpa using this, fun i x hx => ?_⟩
   have := h (i + 1) x (by simpa using hx)
   rw [show c + (i + 1 : Nat) = c + 1 + i by omega] at this
   exact this
theorem wV {b : GBk} : benchB b = true ↔ BOk b := by
 unfold benchB
 simp only [Bool.and_eq_true, wG, List.all_eq_true, Lv]
 constructor
 ·rintro ⟨h1, ⟨h2, h3⟩, h4, h5⟩
  exact ⟨h1, by omega, h3, by omega, fun i s hs => by have := h5 i s hs; simpa using this⟩
 ·rintro ⟨h1, h2, h3, h4, h5⟩
  exact ⟨h1, ⟨by omega, h3⟩, by omega, fun i s hs => by have := h5 i s hs; simpa using this⟩
structure SOk (nb : Nat) (n : Int) (s : GBs) : Prop where
 bo : 0 ≤ s.Board ∧ s.Board < nb
 hr : 1 ≤ s.Hours.Low ∧ s.Hours.Low ≤ s.Hours.High ∧ s.Hours.High ≤ 6
 nd : ∀ k ∈ s.Needs, 0 ≤ k ∧ k < n
 ad : adjB s.Needs = true
theorem OE {nb : Nat} {n : Int} {s : GBs} : strokeB nb n s = true ↔ SOk nb n s := by
 unfold strokeB
 simp only [Bool.and_eq_true, wG, List.all_eq_true]
 constructor
 ·rintro ⟨h1, ⟨h2, h3⟩, h4, h5⟩
  exact ⟨by omega, by omega, fun k hk => by have := h4 k hk; omega, h5⟩
 ·rintro ⟨h1, h2, h3, h4⟩
  exact ⟨by omega, ⟨by omega, by omega⟩, fun k hk => by have := h3 k hk; omega, h4⟩
theorem BOk.s {b : GBk} (h : BOk b) {i : Nat} {s : GBs} (hs : b.Strokes[i]? = some s) : SOk b.Boards.length i s := OE.1 (h.st i s hs)
structure POk (b : GBk) (pl : List Int) : Prop where
 len : pl.length = b.Strokes.length
 may : ∀ (i : Nat) s h, b.Strokes[i]? = some s → pl[i]? = some h → (0 ≤ h ∧ h ≤ b.Apprentices) ∧ (h = 0 ∨ s.Round = false)
end Go.V
end
section
namespace Go.V
open Go Go.Proofs IntKind
def stepsB (m : List Int → Int → Bool) (lim : Nat) : List Int → List Int → Bool
 | _, [] => true
 | p, j :: t => (decide (0 ≤ j) && decide (j < (lim : Int))) && (m p j && stepsB m lim (p ++ [j]) t)
theorem Da {m : List Int → Int → Bool} {lim : Nat} : ∀ (d : Nat) (p q : List Int), q ∈ listsB m lim d p ↔ ∃ t, q = p ++ t ∧ t.length = d ∧ stepsB m lim p t = true
 | 0, p, q => by
  rw [listsB, List.mem_singleton]
  constructor
  ·rintro rfl; exact ⟨[], by simp, rfl, rfl⟩
  ·rintro ⟨t, rfl, ht, _⟩
   rw [List.length_eq_zero_iff.1 ht, List.append_nil]
 | d + 1, p, q => by
  rw [listsB, List.mem_flatMap]
  constructor
  ·rintro ⟨i, hi, h⟩
   have hi' := (List.mem_range'_1.1 hi).2
   split at h
   ·rename_i hm
    obtain ⟨t, rfl, ht, hs⟩ := (Da d _ q).1 h
    exact ⟨(i : Int) :: t, by simp, by simp [ht], by simp only [stepsB, hm, hs, Bool.and_true, Bool.and_eq_true, decide_eq_true_eq]; omega⟩
   ·cases h
  ·rintro ⟨t, rfl, ht, hs⟩
   cases t with
   | nil => simp at ht
   | cons j t =>
    simp only [stepsB, Bool.and_eq_true, decide_eq_true_eq] at hs
    obtain ⟨⟨h0, h1⟩, h2, h3⟩ := hs
    refine ⟨j.toNat, List.mem_range'_1.2 ⟨Nat.zero_le _, by omega⟩, ?_⟩
    rw [show ((j.toNat : Nat) : Int) = j by omega, if_pos h2]
    exact (Da d _ _).2 ⟨t, by simp, by simpa using ht, h3⟩
section
variable {K V : Type} {q : K → K → Bool} {z : V}
def setR (q : K → K → Bool) (k : K) (v : V) : List (K × V) → List (K × V)
 | [] => [(k, v)]
 | e :: l => if q k e.1 then (k, v) :: l else e :: setR q k v l
theorem uh (k : K) : ∀ (es : List K) (i : Nat), kIdx q k es (i + 1) = (kIdx q k es i).map (· + 1)
 | [], _ => rfl
 | e :: es, i => by
  unfold kIdx
  cases q k e with
  | true => rfl
  | false => exact uh k es (i + 1)
theorem Lw (k : K) (v : V) : ∀ l : List (K × V), mapSet q l k v = setR q k v l
 | [] => rfl
 | e :: l => by
  have ih := Lw k v l
  unfold mapSet at ih ⊢
  rw [List.map_cons]
  unfold kIdx setR
  cases hq : q k e.1 with
  | true => rfl
  | false =>
   simp only [cond_false, Bool.false_eq_true, if_false]
   rw [uh]
   cases h : kIdx q k (l.map (·.1)) 0 with
   | none => rw [h] at ih; simpa using ih
   | some i => rw [h] at ih; simpa using ih
end
end Go.V
end
section
namespace Go.V
open Go Go.Proofs IntKind

theorem But.self (W : World) (b : Nat) : But W W b := ⟨fun _ _ _ => rfl, Nat.le_refl _, rfl, rfl, rfl⟩
theorem Db : ∀ cs : List VV, (normL cs).length = cs.length
 | [] => rfl
 | x :: cs => by rw [mD, List.length_cons, List.length_cons, Db cs]
theorem VWp.normO {P : Program} {G : Glob} {n : Nat} {code : Code} {Q : VExit → St → Prop} {tm : Nat → VV} {H : Nat → Option VObj} {nx : Nat} {df : List VDef} {β : Nat} {el : Option TypeId} {cs cs' : List VV} (hβ : H β = some (.cells el cs)) (hn : normL cs = cs')
  (h : VWp P G n code Q ⟨tm, updH H β (.cells el cs'), nx, df⟩) : VWp P G n code Q ⟨tm, H, nx, df⟩ := by
 subst hn
 intro ro c W a hro s hr hsz
 have hc : c.H β = some (.cells el cs) := by rw [hr.H]; exact hβ
 have hl : c.live β := by simp [Ctx.live, hc]
 have he : Ext c W (c.upd β (.cells el (normL cs))) W := Ext.upd hl (But.self W _)
 have ab := he.abides s
 have hs : Sim (c.upd β (.cells el (normL cs))) W := by
  refine Sim.upd s hl (But.self W _) (fun ⟨ds, hd⟩ => by rw [hc] at hd; cases hd) ?_
  obtain ⟨arr, e, a1, a2, a3, a4, a5⟩ := s.obj β _ hc
  exact ⟨arr, e, a1, a2, by rw [Db]; exact a3, by rw [Db]; exact qH _ (RepL.abides ab _ a4), a5⟩
 refine wpIn_mono (h ro _ W a (hro.ext he) hs ⟨?_, fun t => Rep.abides ab _ (hr.tm t), hr.nx, hr.df.abides ab, hr.G.abides ab⟩ hsz) fun _ _ _ hl => hl.of_ext he (fun β hb => .inl hb) (Nat.le_refl _)
 show updH c.H β _ = _
 rw [hr.H]



end Go.V
end
