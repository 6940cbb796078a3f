/- Part of a proof. -/
import Derived.Test.YtmhlghgbfmcdaaaGreatDoorG1bj
set_option linter.all false
set_option maxRecDepth 4000
set_option maxHeartbeats 40000000
section
namespace Go.V
open Go Go.Proofs IntKind
def mz (aa : GBk) (ag : List Int) : List GBs → Int → Int → (List (Gbe × Int)) → Option (LOut ((Int) × List (Gbe × Int)) (Int × (List (Gbe × Int))))
 | [], m0, c9, cb => some (.go (c9, cb))
 | e0 :: p0, m0, c9, cb => Option.bind (BJ aa ag m0 1 cb) (fun r3 => Option.bind (j1 ([c9, r3.1])) (fun r4 => mz aa ag p0 (m0 + 1) r4 r3.2))
def m2 (aa : GBk) (ag : List Int) (l0 : List (Gbe × Int)) : Option ((Int) × List (Gbe × Int)) := cond (lenOk aa.Strokes) (lbind (mz aa ag aa.Strokes 0 0 l0) (fun r6 => some r6) (fun c5 => some (c5.1, c5.2)) (fun _ _ => none)) none
theorem uu (aa : GBk) (ag : List Int) (l0 : List (Gbe × Int)) (R : (Int) × List (Gbe × Int)) (h : m2 aa ag l0 = some R) : VUpd Tryz.prog G0 87 (fun β => [.agg [.lit (.int .i64 aa.Apprentices), .sl (ae eI aa.Boards) (List.length aa.Boards) false, .sl (ae cGBs aa.Strokes) (List.length aa.Strokes) false, .sl (ae eI ag) (List.length ag) false, .mp β]]) (encM aO bC l0) (encM aO bC R.2) (fun _ => .lit (.int .i64 R.1)) := by
 intro bl nx hlt
 have aZ := fB (β := bl) (nx := nx) hlt
 refine aq.run mixed Tryz.call87 Tryz.func87 rfl (by simp [Tryz.ntmps87]; kernel_rfl) ?_
 obtain ⟨KF, h, kF, kN⟩ := cn h
 simp only [m2] at h
 cases g8 : (lenOk aa.Strokes)
 ·simp only [g8, hs] at h
  exact absurd h kN
 simp only [g8, hs] at h
 simp only [vz, mq, mqm, vsi, tyf, mqt, aZ, g8, nm, seval]
 obtain ⟨K7, h, Rs, Nx, Rt, IW⟩ := f9 h kN
 obtain ⟨f7, Ny, h⟩ := call4 h
 obtain ⟨I7, BK⟩ : ∃ I : Nat → St → Prop, I = (fun m st => ∃ (p7 : List GBs) (dM : Int) (fF : Int) (i0 : List (Gbe × Int)), m = List.length p7 ∧ 0 ≤ dM ∧ List.drop (Int.toNat dM) aa.Strokes = p7 ∧ st.df = [] ∧ nx + 8 ≤ st.nx ∧ st.H bl = some (.map (encM aO bC i0)) ∧ st.H nx = some (.cells (some 92) ((cGBk aa) ++ [.sl (ae eI ag) (List.length ag) false] ++ [.mp bl])) ∧ st.tm 1 = .ptr nx 0 ∧ st.tm 8 = .lit (.int .i64 (List.length aa.Strokes : Int)) ∧ st.tm 3 = .lit (.int .i64 fF) ∧ st.tm 9 = .lit (.int .i64 dM) ∧ K7 (f7 p7 dM fF i0)) := ⟨_, rfl⟩
 refine loopK mixed (by kernel_rfl) I7 (List.length aa.Strokes) (by rw [BK]; refine ⟨aa.Strokes, 0, 0, l0, rfl, Int.le_refl _, rfl, rfl, (show nx + 8 ≤ nx + 8 by omega), ?_, ?_, ?_, ?_, ?_, ?_, h⟩ <;> first | (simp only [ua, b5, aZ, nm, seval] <;> rfl) | rfl) ?_
 rintro m ⟨tm, H, BL, df⟩ hinv
 rw [BK] at hinv
 obtain ⟨p7, dM, fF, i0, rfl, oI, rK, hdf, Nz, H9, kL, br, bF, bz, bH, h⟩ := hinv
 simp only at hdf Nz H9 kL br bF bz bH
 have cC := kK (a := nx) (m := 8) (b := BL) (by omega)
 have dk := fB (β := bl) (nx := BL) (by omega)
 subst hdf Ny
 cases p7 with
 | nil =>
  have gg : (decide (dM < (List.length aa.Strokes : Int))) = false := fl oI rK
  simp only [mz, hs, reduceCtorEq] at h
  replace h := Nx _ h
  try dsimp only at h
  try simp only [hs] at h
  try simp only [vz, mq, mqm, vsi, tyf, mqt, aZ, g8, cC, dk, br, bF, bz, bH, H9, kL, gg, nm, seval]
  refine bS (x := (.lit (.int .i64 fF))) (by first | (simp only [Tryz.results87, resV, resL, resV1, bX, bY, uw, cr, tyf, mqt, aZ, g8, cC, dk, H9, kL, gg, nm, seval] <;> rfl) | rfl) ?_
  obtain rfl := kF _ h
  refine ⟨(by first | rfl | assumption | (simp only [aX, b2, aZ, cC, dk, H9, kL, nm, seval] <;> rfl)), ?_⟩
  exact sq_of (jg (by first | (simp only [tre, tytre, mqr, Bool.and_self]; done) | rfl) rfl)
 | cons e7 p7 =>
  have kM : (decide (dM < (List.length aa.Strokes : Int))) = true := fm oI rK
  have rL := dv oI rK
  have BM := fp oI rK g8
  simp only [mz, hs, reduceCtorEq] at h
  obtain ⟨i5, rM, h⟩ := optI h IW
  try simp only [hs] at h
  simp only [vz, mq, mqm, vsi, tyf, mqt, aZ, g8, cC, dk, br, bF, bz, bH, H9, kL, kM, (aV rL), BM, nm, seval]
  refine kupd (VUpd.at (β := bl) (y := (fun _ => .lit (.int .i64 i5.1))) (N0 _ _ _ _ _ _ rM) (by omega) (by first | rfl | assumption | (simp only [aX, b2, aZ, cC, dk, H9, kL, nm, seval] <;> rfl)) (by first | rfl | (simp only [nrm, aI, @bZ, @dW] <;> rfl)) (ez (fun _ => rfl) _)) ?_
  refine eV (fun tm => tm 1 = .ptr nx 0 ∧ tm 8 = .lit (.int .i64 (List.length aa.Strokes : Int)) ∧ tm 9 = .lit (.int .i64 dM) ∧ tm 12 = .lit (.int .i64 fF) ∧ tm 15 = .lit (.int .i64 i5.1) ∧ True) (by refine ⟨br, bF, bH, ?_, ?_, trivial⟩ <;> first | (simp only [ua, b5, aZ, cC, dk, br, bF, bz, bH, H9, kL, kM, BM, nm, seval] <;> rfl) | rfl) ?_
  rintro tm ⟨bM, b6, cl, cM, bp, _⟩
  have fc := And.intro aZ (And.intro g8 (And.intro cC (And.intro dk (And.intro H9 (And.intro kL (And.intro kM BM))))))
  obtain ⟨IX, rN, h⟩ := optI h IW
  try simp only [hs] at h
  simp only [vz, mq, mqm, vsi, tyf, mqt, fc, (aV rL), bM, b6, cl, cM, bp, nm, seval]
  refine kseen (args0 := [.sl (ae eI ([fF, i5.1])) (List.length ([fF, i5.1])) false]) (by simp only [List.map_cons, List.map_nil, ej, aX, b2, cr, tyf, mqt, nrm, aI, fc, (aV rL), bM, b6, cl, cM, bp, nm, seval] <;> rfl) (by simp only [List.map_cons, List.map_nil, ej, aX, b2, cr, tyf, mqt, nrm, aI, fc, (aV rL), bM, b6, cl, cM, bp, nm, seval]; simp only [tre, tytre, mqr, Bool.and_self]) (rO _ _ rN) (by first | rfl | simp only [VV.flat, flatL, Bool.and_self]) ?_
  refine bw (fun tm => tm 1 = .ptr nx 0 ∧ tm 8 = .lit (.int .i64 (List.length aa.Strokes : Int)) ∧ tm 9 = .lit (.int .i64 dM) ∧ tm 17 = .lit (.int .i64 IX) ∧ True) (by refine ⟨bM, b6, cl, ?_, trivial⟩ <;> first | (simp only [ua, b5, fc, bM, b6, cl, cM, bp, nm, seval] <;> rfl) | rfl) ?_
  rintro tm ⟨ct, eW, eF, j2, _⟩
  simp only [vz, mq, mqm, vsi, tyf, mqt, fc, (aV rL), ct, eW, eF, j2, nm, seval]
  exact ⟨List.length p7, Nat.lt_succ_self _, by rw [BK]; refine ⟨p7, dM + 1, IX, i5.2, rfl, Int.le_trans oI (Int.le_add_one (Int.le_refl _)), dw oI rK, rfl, (show nx + 8 ≤ BL + 12 by omega), ?_, ?_, ct, eW, ?_, ?_, (by first | exact h | (simp only [fc]; exact h))⟩ <;> first | (simp only [ua, b5, fc, ct, eW, eF, j2, nm, seval] <;> rfl) | rfl⟩
def goB (b : Bool) : Option (LOut Bool Unit) := cond b (some (.go ())) (some (.ret false))
theorem m3 (a b : Bool) : goB (a && b) = cond a (goB b) (some (.ret false)) := by cases a <;> rfl
theorem csome (a b : Bool) : cond a (some b) (some false) = some (a && b) := by cases a <;> rfl
theorem kO {X : Type} (b : Bool) (kr : Bool → Option X) (kg : Unit → Option X) (kb : Nat → Unit → Option X) : lbind (goB b) kr kg kb = cond b (kg ()) (kr false) := by cases b <;> rfl
def inB (a b n : Int) : Bool := decide (a ≤ n) && decide (n ≤ b)
theorem rC {a b n : Int} : inB a b n = true ↔ a ≤ n ∧ n ≤ b := by simp [inB]
theorem gM {n : Int} (h1 : -9223372036854775808 ≤ n) (h2 : n < 9223372036854775808) : i64.wrap n = n := IntWalk.i64_in _ (by omega)
theorem BN {α : Type} {xs : List α} (h : lenOk xs = true) : xs.length < 9223372036854775808 := by simpa [lenOk] using h
theorem fU {α : Type} {xs : List α} (h : xs.length < 9223372036854775808) : lenOk xs = true := by simpa [lenOk] using h
theorem BO {α : Type} {xs : List α} {i : Int} {x : α} (h : getI xs i = some x) : x ∈ xs := by
 unfold getI at h
 split at h
 ·exact List.mem_of_getElem? h
 ·cases h
theorem u5 {α : Type} {xs : List α} {i : Int} {x : α} (h : getI xs i = some x) : 0 ≤ i ∧ i < xs.length := ⟨(kP h).1, (kP h).2.1⟩
end Go.V
end
section
namespace Go.V
def mxL (l : List Int) : Int := l.foldl max 0
theorem IY : ∀ (l : List Int) (a b : Int), l.foldl max a ≤ b ↔ a ≤ b ∧ ∀ x ∈ l, x ≤ b
 | [], a, b => by simp
 | x :: l, a, b => by
  simp only [List.foldl_cons, IY l, List.mem_cons, forall_eq_or_imp]
  constructor
  ·rintro ⟨h1, h2⟩; exact ⟨by omega, by omega, h2⟩
  ·rintro ⟨h1, h2, h3⟩; exact ⟨by omega, h3⟩
theorem rP {l : List Int} {b : Int} : mxL l ≤ b ↔ 0 ≤ b ∧ ∀ x ∈ l, x ≤ b := IY l 0 b
theorem BP (l : List Int) : 0 ≤ mxL l := (rP.1 (Int.le_refl _)).1
def frF (hd : Nat → Int) (e : Nat → Int) (h : Int) : Nat → Int
 | 0 => 0
 | k + 1 => if hd k = h then e k else frF hd e h k
theorem IZ {hd : Nat → Int} {e e' : Nat → Int} {h : Int} : ∀ {n : Nat}, (∀ k, k < n → e k = e' k) → frF hd e h n = frF hd e' h n
 | 0, _ => rfl
 | n + 1, hk => by
  unfold frF
  rw [hk n (Nat.lt_succ_self _), IZ (fun k h => hk k (Nat.lt_succ_of_lt h))]
theorem rQ {hd : Nat → Int} {e : Nat → Int} {h b : Int} (hb : 0 ≤ b) : ∀ {n : Nat}, (∀ k, k < n → hd k = h → e k ≤ b) → frF hd e h n ≤ b
 | 0, _ => hb
 | n + 1, hk => by
  unfold frF
  split
  ·rename_i hh; exact hk n (Nat.lt_succ_self _) hh
  ·exact rQ hb (fun k h1 h2 => hk k (Nat.lt_succ_of_lt h1) h2)
def bgF (hd : Nat → Int) (nd : Nat → List Int) (e : Nat → Int) (s : Nat) : Int := max (max 0 (frF hd e (hd s) s)) (mxL ((nd s).map fun k => e k.toNat))
def En (hd : Nat → Int) (nd : Nat → List Int) (d : Nat → Int) : Nat → Nat → Int
 | 0, _ => 0
 | f + 1, s => bgF hd nd (En hd nd d f) s + d s
def NdOk (nd : Nat → List Int) : Prop := ∀ s, ∀ k ∈ nd s, 0 ≤ k ∧ k.toNat < s
theorem Ja {hd : Nat → Int} {nd : Nat → List Int} {e e' : Nat → Int} {s : Nat} (hn : NdOk nd) (h : ∀ k, k < s → e k = e' k) : bgF hd nd e s = bgF hd nd e' s := by
 unfold bgF
 rw [IZ h]
 congr 2
 exact List.map_congr_left fun k hk => h _ (hn s k hk).2
theorem rR {hd : Nat → Int} {nd : Nat → List Int} {d : Nat → Int} (hn : NdOk nd) : ∀ (f g s : Nat), s < f → s < g → En hd nd d f s = En hd nd d g s
 | 0, _, _, h, _ => absurd h (Nat.not_lt_zero _)
 | _ + 1, 0, _, _, h => absurd h (Nat.not_lt_zero _)
 | f + 1, g + 1, s, h1, h2 => by
  unfold En
  rw [Ja hn (e' := En hd nd d g) (fun k hk => rR hn f g k (by omega) (by omega))]
def Ed (hd : Nat → Int) (nd : Nat → List Int) (d : Nat → Int) (s : Nat) : Int := En hd nd d (s + 1) s
def Bg (hd : Nat → Int) (nd : Nat → List Int) (d : Nat → Int) (s : Nat) : Int := bgF hd nd (Ed hd nd d) s
theorem Ed_eq {hd : Nat → Int} {nd : Nat → List Int} {d : Nat → Int} (hn : NdOk nd) (s : Nat) : Ed hd nd d s = Bg hd nd d s + d s := by
 show bgF hd nd (En hd nd d s) s + d s = _
 rw [Ja hn (e' := Ed hd nd d) (fun k hk => rR hn s (k + 1) k hk (Nat.lt_succ_self _))]
 rfl
theorem BQ (hd : Nat → Int) (nd : Nat → List Int) (e : Nat → Int) (s : Nat) : 0 ≤ bgF hd nd e s := by
 have := BP ((nd s).map fun k => e k.toNat)
 unfold bgF
 omega
section
variable {hd : Nat → Int} {nd : Nat → List Int} {d d' : Nat → Int}
theorem Bg_nn (s : Nat) : 0 ≤ Bg hd nd d s := BQ _ _ _ _
theorem Ed_nn (hn : NdOk nd) (h : ∀ k, 0 ≤ d k) (s : Nat) : 0 ≤ Ed hd nd d s := by
 rw [Ed_eq hn]
 have := Bg_nn (hd := hd) (nd := nd) (d := d) s
 have := h s
 omega
theorem BR (hn : NdOk nd) {s : Nat} {b : Int} (hb : 0 ≤ b) (h1 : ∀ k, k < s → hd k = hd s → Ed hd nd d k ≤ b) (h2 : ∀ k ∈ nd s, Ed hd nd d k.toNat ≤ b) : Bg hd nd d s ≤ b := by
 have h3 := rQ (hd := hd) (e := Ed hd nd d) (h := hd s) (n := s) hb h1
 have h4 : mxL ((nd s).map fun k => Ed hd nd d k.toNat) ≤ b := by
  refine rP.2 ⟨hb, ?_⟩
  intro x hx
  obtain ⟨k, hk, rfl⟩ := List.mem_map.1 hx
  exact h2 k hk
 unfold Bg bgF
 omega
theorem Ed_bd (hn : NdOk nd) {m : Int} (h0 : ∀ k, 0 ≤ d k ∧ d k ≤ m) : ∀ (f s : Nat), s < f → Ed hd nd d s ≤ m * (s + 1)
 | 0, _, h => absurd h (Nat.not_lt_zero _)
 | f + 1, s, h => by
  have hm : 0 ≤ m := Int.le_trans (h0 0).1 (h0 0).2
  have key : ∀ k, k < s → Ed hd nd d k ≤ m * s := fun k hk => by
   refine Int.le_trans (Ed_bd hn h0 f k (by omega)) ?_
   exact Int.mul_le_mul_of_nonneg_left (by omega) hm
  have h1 : Bg hd nd d s ≤ m * s := BR hn (Int.mul_nonneg hm (by omega)) (fun k hk _ => key k hk) (fun k hk => key _ (hn s k hk).2)
  rw [Ed_eq hn, Int.mul_add]
  have := h0 s
  omega
theorem BS (hn : NdOk nd) {m : Int} (h0 : ∀ k, 0 ≤ d k ∧ d k ≤ m) (s : Nat) : Ed hd nd d s ≤ m * (s + 1) := Ed_bd hn h0 (s + 1) s (Nat.lt_succ_self _)
def tkF (e : Nat → Int) : Nat → Int
 | 0 => 0
 | n + 1 => max (tkF e n) (e n)
theorem rS (e : Nat → Int) : ∀ n, 0 ≤ tkF e n
 | 0 => Int.le_refl _
 | n + 1 => by have := rS e n; unfold tkF; omega
end
end Go.V
end
section
namespace Go.V
open Go Go.Proofs IntKind
def j3 (aK : Int) (dy : Int) (aU : Int) : Option (Bool) := cond (decide (aK ≤ dy)) (some (decide (dy ≤ aU))) (some false)
theorem oJ (aK : Int) (dy : Int) (aU : Int) (R : Bool) (h : j3 aK dy aU = some R) : aj Tryz.prog G0 95 [.lit (.int .i64 aK), .lit (.int .i64 dy), .lit (.int .i64 aU)] (.tree (.lit (.bool R))) := by
 refine aj.runR mixed Tryz.call95 Tryz.func95 rfl (by simp [Tryz.ntmps95]; kernel_rfl) ?_
 obtain ⟨KF, h, kF, kN⟩ := cn h
 simp only [j3] at h
 cases d1 : (decide (aK ≤ dy))
 ·simp only [d1, hs] at h
  try simp only [vz, tyf, d1, nm, seval]
  obtain rfl := kF _ h
  exact bn Tryz.results95 rfl
 simp only [d1, hs] at h
 try simp only [vz, tyf, d1, nm, seval]
 obtain rfl := kF _ h
 exact bn Tryz.results95 rfl
def oL (aK : Int) (aU : Int) : List Int → Int → Option (LOut (Bool) (Unit))
 | [], kQ => some (.go ())
 | e0 :: p0, kQ => Option.bind (j3 aK e0 aU) (fun r1 => cond (r1) (oL aK aU p0 (kQ + 1)) (some (.ret false)))
def m4 (aK : Int) (au : List Int) (aU : Int) : Option (Bool) := cond (lenOk au) (lbind (oL aK aU au 0) (fun r3 => some r3) (fun c2 => some true) (fun _ _ => none)) none
theorem BT (aK : Int) (au : List Int) (aU : Int) (R : Bool) (h : m4 aK au aU = some R) : aj Tryz.prog G0 103 [.lit (.int .i64 aK), .sl (ae eI au) (List.length au) false, .lit (.int .i64 aU)] (.tree (.lit (.bool R))) := by
 refine aj.runR mixed Tryz.call103 Tryz.func103 rfl (by simp [Tryz.ntmps103]; kernel_rfl) ?_
 obtain ⟨KF, h, kF, kN⟩ := cn h
 simp only [m4] at h
 cases g5 : (lenOk au)
 ·simp only [g5, hs] at h
  exact absurd h kN
 simp only [g5, hs] at h
 simp only [vz, tyf, g5, nm, seval]
 obtain ⟨K4, h, N1, N2, Ru, N3⟩ := f9 h kN
 obtain ⟨f4, N4, h⟩ := call2 h
 obtain ⟨I4, BU⟩ : ∃ I : Nat → St → Prop, I = (fun m st => ∃ (p4 : List Int) (cH : Int), m = List.length p4 ∧ 0 ≤ cH ∧ List.drop (Int.toNat cH) au = p4 ∧ st.df = [] ∧ 4 ≤ st.nx ∧ st.tm 0 = .lit (.int .i64 aK) ∧ st.tm 2 = .lit (.int .i64 aU) ∧ st.tm 9 = .sl (ae eI au) (List.length au) false ∧ st.tm 10 = .lit (.int .i64 (List.length au : Int)) ∧ st.tm 11 = .lit (.int .i64 cH) ∧ K4 (f4 p4 cH)) := ⟨_, rfl⟩
 refine loopK mixed (by kernel_rfl) I4 (List.length au) (by rw [BU]; refine ⟨au, 0, rfl, Int.le_refl _, rfl, rfl, (show 4 ≤ 4 by omega), ?_, ?_, ?_, ?_, ?_, h⟩ <;> first | (simp only [ua, nm, seval] <;> rfl) | rfl) ?_
 rintro m ⟨tm, H, Jb, df⟩ hinv
 rw [BU] at hinv
 obtain ⟨p4, cH, rfl, oM, rT, hdf, N5, e6, e7, e8, e9, aY, h⟩ := hinv
 simp only at hdf N5 e6 e7 e8 e9 aY
 have oN := gI (m := 4) (b := Jb) (by omega)
 subst hdf N4
 cases p4 with
 | nil =>
  have bK : (decide (cH < (List.length au : Int))) = false := fl oM rT
  simp only [oL, hs, reduceCtorEq] at h
  replace h := N2 _ h
  try dsimp only at h
  try simp only [hs] at h
  try simp only [vz, tyf, g5, oN, e6, e7, e8, e9, aY, bK, nm, seval]
  obtain rfl := kF _ h
  exact bn Tryz.results103 rfl
 | cons e4 p4 =>
  have gN : (decide (cH < (List.length au : Int))) = true := fm oM rT
  have m5 := dv oM rT
  have rU := fp oM rT g5
  simp only [oL, hs, reduceCtorEq] at h
  obtain ⟨Jc, N6, h⟩ := optI h N3
  try simp only [hs] at h
  simp only [vz, tyf, g5, oN, e6, e7, e8, e9, aY, gN, (ba m5), rU, nm, seval]
  refine ktA (oJ _ _ _ _ N6) ?_
  refine bw (fun tm => tm 0 = .lit (.int .i64 aK) ∧ tm 2 = .lit (.int .i64 aU) ∧ tm 9 = .sl (ae eI au) (List.length au) false ∧ tm 10 = .lit (.int .i64 (List.length au : Int)) ∧ tm 11 = .lit (.int .i64 cH) ∧ tm 18 = .lit (.bool Jc) ∧ True) (by refine ⟨e6, e7, e8, e9, aY, ?_, trivial⟩ <;> first | (simp only [ua, oN, e6, e7, e8, e9, aY, gN, rU, nm, seval] <;> rfl) | rfl) ?_
  rintro tm ⟨bL, bN, dc, eJ, bV, bM, _⟩
  cases i6 : (Jc)
  ·simp only [i6, hs] at h
   try simp only [vz, tyf, g5, oN, gN, (ba m5), rU, bL, bN, dc, eJ, bV, bM, i6, nm, seval]
   replace h := N1 _ h
   try dsimp only at h
   obtain rfl := kF _ h
   exact bn Tryz.results103 rfl
  simp only [i6, hs] at h
  simp only [vz, tyf, g5, oN, gN, (ba m5), rU, bL, bN, dc, eJ, bV, bM, i6, nm, seval]
  exact ⟨List.length p4, Nat.lt_succ_self _, by rw [BU]; refine ⟨p4, cH + 1, rfl, Int.le_trans oM (Int.le_add_one (Int.le_refl _)), dw oM rT, rfl, (show 4 ≤ Jb + 11 by omega), bL, bN, dc, eJ, ?_, (by first | exact h | (simp only [gN, i6]; exact h))⟩ <;> first | (simp only [ua, oN, gN, rU, bL, bN, dc, eJ, bV, bM, i6, nm, seval] <;> rfl) | rfl⟩
def uC (bt : List Int) : Option (Bool) := Option.bind (j3 1 (List.length bt : Int) 3) (fun r1 => cond (r1) (Option.bind (m4 0 bt 60) (fun r2 => some r2)) (some false))
theorem N7 (bt : List Int) (R : Bool) (h : uC bt = some R) : aj Tryz.prog G0 101 [.sl (ae eI bt) (List.length bt) false] (.tree (.lit (.bool R))) := by
 refine aj.runR mixed Tryz.call101 Tryz.func101 rfl (by simp [Tryz.ntmps101]; kernel_rfl) ?_
 obtain ⟨KF, h, kF, kN⟩ := cn h
 simp only [uC] at h
 obtain ⟨r3, o4, h⟩ := optI h kN
 try simp only [hs] at h
 simp only [vz, tyf, nm, seval]
 refine ktA (oJ _ _ _ _ o4) ?_
 refine bw (fun tm => tm 0 = .sl (ae eI bt) (List.length bt) false ∧ tm 5 = .lit (.bool r3) ∧ True) (by refine ⟨?_, ?_, trivial⟩ <;> first | (simp only [ua, nm, seval] <;> rfl) | rfl) ?_
 rintro tm ⟨e5, e6, _⟩
 cases d7 : (r3)
 ·simp only [d7, hs] at h
  try simp only [vz, tyf, e5, e6, d7, nm, seval]
  obtain rfl := kF _ h
  exact bn Tryz.results101 rfl
 simp only [d7, hs] at h
 obtain ⟨r8, o9, h⟩ := optI h kN
 try simp only [hs] at h
 simp only [vz, tyf, e5, e6, d7, nm, seval]
 refine ktA (BT _ _ _ _ o9) ?_
 refine bw (fun tm => tm 6 = .lit (.bool true) ∧ tm 8 = .lit (.bool r8) ∧ True) (by refine ⟨?_, ?_, trivial⟩ <;> first | (simp only [ua, e5, e6, d7, nm, seval] <;> rfl) | rfl) ?_
 rintro tm ⟨aY, br, _⟩
 try simp only [vz, tyf, d7, aY, br, nm, seval]
 obtain rfl := kF _ h
 exact bn Tryz.results101 rfl
def uD (al : GBk) (cI : Int) : Option (Bool) := Option.bind (j3 0 cI (i64.wrap ((List.length al.Boards : Int) - 1))) (fun r1 => some r1)
theorem N8 (al : GBk) (cI : Int) (R : Bool) (h : uD al cI = some R) : aj Tryz.prog G0 71 [.agg (cGBk al), .lit (.int .i64 cI)] (.tree (.lit (.bool R))) := by
 refine aj.runR mixed Tryz.call71 Tryz.func71 rfl (by simp [Tryz.ntmps71]; kernel_rfl) ?_
 obtain ⟨KF, h, kF, kN⟩ := cn h
 simp only [uD] at h
 obtain ⟨r2, o3, h⟩ := optI h kN
 try simp only [hs] at h
 simp only [vz, tyf, nm, seval]
 refine ktA (oJ _ _ _ _ o3) ?_
 refine bw (fun tm => tm 10 = .lit (.bool r2) ∧ True) (by refine ⟨?_, trivial⟩ <;> first | (simp only [ua, nm, seval] <;> rfl) | rfl) ?_
 rintro tm ⟨e4, _⟩
 try simp only [vz, tyf, e4, nm, seval]
 obtain rfl := kF _ h
 exact bn Tryz.results71 rfl
def rV (aK : Int) (dN : GSpan) (aU : Int) : Option (Bool) := cond (decide (aK ≤ dN.Low)) (cond (decide (dN.Low ≤ dN.High)) (some (decide (dN.High ≤ aU))) (some false)) (some false)
theorem N9 (aK : Int) (dN : GSpan) (aU : Int) (R : Bool) (h : rV aK dN aU = some R) : aj Tryz.prog G0 133 [.lit (.int .i64 aK), .agg (cGSpan dN), .lit (.int .i64 aU)] (.tree (.lit (.bool R))) := by
 refine aj.runR mixed Tryz.call133 Tryz.func133 rfl (by simp [Tryz.ntmps133]; kernel_rfl) ?_
 obtain ⟨KF, h, kF, kN⟩ := cn h
 simp only [rV] at h
 cases d1 : (decide (aK ≤ dN.Low))
 ·simp only [d1, hs] at h
  try simp only [vz, tyf, d1, nm, seval]
  obtain rfl := kF _ h
  exact bn Tryz.results133 rfl
 simp only [d1, hs] at h
 cases d2 : (decide (dN.Low ≤ dN.High))
 ·simp only [d2, hs] at h
  try simp only [vz, tyf, d1, d2, nm, seval]
  obtain rfl := kF _ h
  exact bn Tryz.results133 rfl
 simp only [d2, hs] at h
 try simp only [vz, tyf, d1, d2, nm, seval]
 obtain rfl := kF _ h
 exact bn Tryz.results133 rfl
def oO (au : List Int) : List Int → Int → Option (LOut (Bool) (Unit))
 | [], bB => some (.go ())
 | e0 :: p0, bB => Option.bind (getI au (i64.wrap (bB - 1))) (fun x1 => cond (decide (e0 ≤ x1)) (some (.ret false)) (oO au p0 (bB + 1)))
def rW (aK : Int) (au : List Int) (aU : Int) : Option (Bool) := cond (lenOk au) (cond (leB 0 1) (lbind (oO au (List.drop (Int.toNat 1) au) 1) (fun r4 => some r4) (fun c2 => Option.bind (m4 aK au aU) (fun r3 => some r3)) (fun _ _ => none)) none) none
theorem NA (aK : Int) (au : List Int) (aU : Int) (R : Bool) (h : rW aK au aU = some R) : aj Tryz.prog G0 134 [.lit (.int .i64 aK), .sl (ae eI au) (List.length au) false, .lit (.int .i64 aU)] (.tree (.lit (.bool R))) := by
 refine aj.runR mixed Tryz.call134 Tryz.func134 rfl (by simp [Tryz.ntmps134]; kernel_rfl) ?_
 obtain ⟨KF, h, kF, kN⟩ := cn h
 simp only [rW] at h
 cases g6 : (lenOk au)
 ·simp only [g6, hs] at h
  exact absurd h kN
 simp only [g6, hs] at h
 cases g7 : (leB 0 1)
 ·simp only [g7, hs] at h
  exact absurd h kN
 simp only [g7, hs] at h
 simp only [vz, tyf, g6, g7, nm, seval]
 obtain ⟨K5, h, Jd, uE, NB, oP⟩ := f9 h kN
 obtain ⟨f5, BV, h⟩ := call2 h
 obtain ⟨I5, kR⟩ : ∃ I : Nat → St → Prop, I = (fun m st => ∃ (p5 : List Int) (b7 : Int), m = List.length p5 ∧ 0 ≤ b7 ∧ List.drop (Int.toNat b7) au = p5 ∧ st.df = [] ∧ 2 ≤ st.nx ∧ st.tm 0 = .lit (.int .i64 aK) ∧ st.tm 1 = .sl (ae eI au) (List.length au) false ∧ st.tm 2 = .lit (.int .i64 aU) ∧ st.tm 7 = .lit (.int .i64 b7) ∧ K5 (f5 p5 b7)) := ⟨_, rfl⟩
 refine loopK mixed (by kernel_rfl) I5 (List.length (List.drop (Int.toNat 1) au)) (by rw [kR]; refine ⟨List.drop (Int.toNat 1) au, 1, rfl, of_decide_eq_true g7, rfl, rfl, (show 2 ≤ 2 by omega), ?_, ?_, ?_, ?_, h⟩ <;> first | (simp only [ua, nm, seval] <;> rfl) | rfl) ?_
 rintro m ⟨tm, H, i7, df⟩ hinv
 rw [kR] at hinv
 obtain ⟨p5, b7, rfl, eK, fv, hdf, BW, e8, e9, aY, br, h⟩ := hinv
 simp only at hdf BW e8 e9 aY br
 have fw := gI (m := 2) (b := i7) (by omega)
 subst hdf BV
 cases p5 with
 | nil =>
  have gN : (decide (b7 < (List.length au : Int))) = false := fl eK fv
  simp only [oO, hs, reduceCtorEq] at h
  replace h := uE _ h
  try dsimp only at h
  try simp only [hs] at h
  obtain ⟨oQ, m5, h⟩ := optI h kN
  try simp only [hs] at h
  simp only [vz, tyf, g6, g7, fw, e8, e9, aY, br, gN, nm, seval]
  refine ktA (BT _ _ _ _ m5) ?_
  refine bw (fun tm => tm 27 = .lit (.bool oQ) ∧ True) (by refine ⟨?_, trivial⟩ <;> first | (simp only [ua, fw, e8, e9, aY, br, gN, nm, seval] <;> rfl) | rfl) ?_
  rintro tm ⟨bx, _⟩
  try simp only [vz, tyf, g6, g7, fw, gN, bx, nm, seval]
  obtain rfl := kF _ h
  exact bn Tryz.results134 rfl
 | cons e5 p5 =>
  have gg : (decide (b7 < (List.length au : Int))) = true := fm eK fv
  have mo := dv eK fv
  have kI := fp eK fv g6
  simp only [oO, hs, reduceCtorEq] at h
  simp only [vz, tyf, g6, g7, fw, e8, e9, aY, br, gg, (ba mo), kI, nm, seval]
  refine m6 (fun tm => tm 0 = .lit (.int .i64 aK) ∧ tm 1 = .sl (ae eI au) (List.length au) false ∧ tm 2 = .lit (.int .i64 aU) ∧ tm 7 = .lit (.int .i64 b7) ∧ True) (by refine ⟨e8, e9, aY, br, trivial⟩ <;> first | (simp only [ua, fw, e8, e9, aY, br, gg, kI, nm, seval] <;> rfl) | rfl) ?_
  rintro tm ⟨dc, eJ, bV, bM, _⟩
  obtain ⟨NC, oR, h⟩ := optI h oP
  try simp only [hs] at h
  cases da : (decide (e5 ≤ NC))
  ·simp only [da, hs] at h
   simp only [vz, tyf, g6, g7, fw, gg, (ba mo), kI, dc, eJ, bV, bM, (ba oR), da, nm, seval]
   exact ⟨List.length p5, Nat.lt_succ_self _, by rw [kR]; refine ⟨p5, b7 + 1, rfl, Int.le_trans eK (Int.le_add_one (Int.le_refl _)), dw eK fv, rfl, (show 2 ≤ i7 + 17 by omega), dc, eJ, bV, ?_, (by first | exact h | (simp only [gg, da]; exact h))⟩ <;> first | (simp only [ua, fw, gg, kI, dc, eJ, bV, bM, da, nm, seval] <;> rfl) | rfl⟩
  simp only [da, hs] at h
  try simp only [vz, tyf, g6, g7, fw, gg, (ba mo), kI, dc, eJ, bV, bM, (ba oR), da, nm, seval]
  replace h := Jd _ h
  try dsimp only at h
  obtain rfl := kF _ h
  exact bn Tryz.results134 rfl
def oS (al : GBk) : List GBs → Int → Option (LOut (Bool) (Unit))
 | [], i9 => some (.go ())
 | e0 :: p0, i9 => Option.bind (uD al e0.Board) (fun r2 => cond (r2) (Option.bind (rV 1 e0.Hours 6) (fun r3 => cond (r3) (Option.bind (rW 0 e0.Needs (i64.wrap (i9 - 1))) (fun r4 => cond (r4) (oS al p0 (i9 + 1)) (some (.ret false)))) (some (.ret false)))) (some (.ret false)))
def uF (al : GBk) : Option (Bool) := Option.bind (j3 1 (List.length al.Strokes : Int) 6) (fun r1 => cond (r1) (cond (lenOk al.Strokes) (lbind (oS al al.Strokes 0) (fun r6 => some r6) (fun c5 => some true) (fun _ _ => none)) none) (some false))
theorem ND (al : GBk) (R : Bool) (h : uF al = some R) : aj Tryz.prog G0 102 [.agg (cGBk al)] (.tree (.lit (.bool R))) := by
 refine aj.runR mixed Tryz.call102 Tryz.func102 rfl (by simp [Tryz.ntmps102]; kernel_rfl) ?_
 obtain ⟨KF, h, kF, kN⟩ := cn h
 simp only [uF] at h
 obtain ⟨r7, o8, h⟩ := optI h kN
 try simp only [hs] at h
 simp only [vz, tyf, nm, seval]
 refine ktA (oJ _ _ _ _ o8) ?_
 refine bw (fun tm => tm 1 = .ptr 0 0 ∧ tm 8 = .lit (.bool r7) ∧ True) (by refine ⟨?_, ?_, trivial⟩ <;> first | (simp only [ua, nm, seval] <;> rfl) | rfl) ?_
 rintro tm ⟨e9, aY, _⟩
 cases eM : (r7)
 ·simp only [eM, hs] at h
  try simp only [vz, tyf, e9, aY, eM, nm, seval]
  obtain rfl := kF _ h
  exact bn Tryz.results102 rfl
 simp only [eM, hs] at h
 cases kS : (lenOk al.Strokes)
 ·simp only [kS, hs] at h
  exact absurd h kN
 simp only [kS, hs] at h
 simp only [vz, tyf, e9, aY, eM, kS, nm, seval]
 obtain ⟨NF, h, m7, BX, NG, m8⟩ := f9 h kN
 obtain ⟨NH, BY, h⟩ := call2 h
 obtain ⟨NI, m9⟩ : ∃ I : Nat → St → Prop, I = (fun m st => ∃ (kT : List GBs) (b4 : Int), m = List.length kT ∧ 0 ≤ b4 ∧ List.drop (Int.toNat b4) al.Strokes = kT ∧ st.df = [] ∧ 11 ≤ st.nx ∧ st.H 0 = some (.cells (some 25) (cGBk al)) ∧ st.tm 1 = .ptr 0 0 ∧ st.tm 11 = .sl (ae cGBs al.Strokes) (List.length al.Strokes) false ∧ st.tm 12 = .lit (.int .i64 (List.length al.Strokes : Int)) ∧ st.tm 13 = .lit (.int .i64 b4) ∧ NF (NH kT b4)) := ⟨_, rfl⟩
 refine loopK mixed (by kernel_rfl) NI (List.length al.Strokes) (by rw [m9]; refine ⟨al.Strokes, 0, rfl, Int.le_refl _, rfl, rfl, (show 11 ≤ 11 by omega), ?_, e9, ?_, ?_, ?_, h⟩ <;> first | (simp only [ua, e9, aY, eM, nm, seval] <;> rfl) | rfl) ?_
 rintro m ⟨tm, H, j4, df⟩ hinv
 rw [m9] at hinv
 obtain ⟨kT, b4, rfl, gi, iA, hdf, BZ, oT, dr, bx, bu, bL, h⟩ := hinv
 simp only at hdf BZ oT dr bx bu bL
 have rX := gI (m := 11) (b := j4) (by omega)
 subst hdf BY
 cases kT with
 | nil =>
  have eN : (decide (b4 < (List.length al.Strokes : Int))) = false := fl gi iA
  simp only [oS, hs, reduceCtorEq] at h
  replace h := BX _ h
  try dsimp only at h
  try simp only [hs] at h
  try simp only [vz, tyf, eM, kS, rX, dr, bx, bu, bL, oT, eN, nm, seval]
  obtain rfl := kF _ h
  exact bn Tryz.results102 rfl
 | cons bF kT =>
  have j5 : (decide (b4 < (List.length al.Strokes : Int))) = true := fm gi iA
  have gO := dv gi iA
  have uG := fp gi iA kS
  simp only [oS, hs, reduceCtorEq] at h
  obtain ⟨rY, oR, h⟩ := optI h m8
  try simp only [hs] at h
  simp only [vz, tyf, eM, kS, rX, dr, bx, bu, bL, oT, j5, (aV gO), uG, nm, seval]
  refine ktA (N8 _ _ _ oR) ?_
  refine bw (fun tm => tm 1 = .ptr 0 0 ∧ tm 3 = .lit (.int .i64 b4) ∧ tm 4 = .ptr (j4 + 4) 0 ∧ tm 11 = .sl (ae cGBs al.Strokes) (List.length al.Strokes) false ∧ tm 12 = .lit (.int .i64 (List.length al.Strokes : Int)) ∧ tm 13 = .lit (.int .i64 b4) ∧ tm 21 = .lit (.bool rY) ∧ True) (by refine ⟨dr, ?_, ?_, bx, bu, bL, ?_, trivial⟩ <;> first | (simp only [ua, eM, rX, dr, bx, bu, bL, oT, j5, uG, nm, seval] <;> rfl) | rfl) ?_
  rintro tm ⟨cM, bp, cD, ca, cJ, ct, eW, _⟩
  cases dG : (rY)
  ·simp only [dG, hs] at h
   have gP := And.intro eM (And.intro kS (And.intro rX (And.intro oT (And.intro j5 (And.intro uG dG)))))
   try simp only [vz, tyf, gP, (aV gO), cM, bp, cD, ca, cJ, ct, eW, nm, seval]
   replace h := m7 _ h
   try dsimp only at h
   obtain rfl := kF _ h
   exact bn Tryz.results102 rfl
  simp only [dG, hs] at h
  have j6 := And.intro eM (And.intro kS (And.intro rX (And.intro oT (And.intro j5 (And.intro uG dG)))))
  obtain ⟨Je, NJ, h⟩ := optI h m8
  try simp only [hs] at h
  simp only [vz, tyf, j6, (aV gO), cM, bp, cD, ca, cJ, ct, eW, nm, seval]
  refine ktA (N9 _ _ _ _ NJ) ?_
  refine bw (fun tm => tm 1 = .ptr 0 0 ∧ tm 3 = .lit (.int .i64 b4) ∧ tm 4 = .ptr (j4 + 4) 0 ∧ tm 11 = .sl (ae cGBs al.Strokes) (List.length al.Strokes) false ∧ tm 12 = .lit (.int .i64 (List.length al.Strokes : Int)) ∧ tm 13 = .lit (.int .i64 b4) ∧ tm 23 = .lit (.bool false) ∧ tm 26 = .lit (.bool Je) ∧ True) (by refine ⟨cM, bp, cD, ca, cJ, ct, ?_, ?_, trivial⟩ <;> first | (simp only [ua, j6, cM, bp, cD, ca, cJ, ct, eW, nm, seval] <;> rfl) | rfl) ?_
  rintro tm ⟨fx, fq, fu, fC, de, dX, gj, j7, _⟩
  cases gb : (Je)
  ·simp only [gb, hs] at h
   try simp only [vz, tyf, j6, (aV gO), fx, fq, fu, fC, de, dX, gj, j7, gb, nm, seval]
   replace h := m7 _ h
   try dsimp only at h
   obtain rfl := kF _ h
   exact bn Tryz.results102 rfl
  simp only [gb, hs] at h
  obtain ⟨Jf, NK, h⟩ := optI h m8
  try simp only [hs] at h
  simp only [vz, tyf, j6, (aV gO), fx, fq, fu, fC, de, dX, gj, j7, gb, nm, seval]
  refine ktA (NA _ _ _ _ NK) ?_
  refine bw (fun tm => tm 1 = .ptr 0 0 ∧ tm 11 = .sl (ae cGBs al.Strokes) (List.length al.Strokes) false ∧ tm 12 = .lit (.int .i64 (List.length al.Strokes : Int)) ∧ tm 13 = .lit (.int .i64 b4) ∧ tm 29 = .lit (.bool false) ∧ tm 34 = .lit (.bool Jf) ∧ True) (by refine ⟨fx, fC, de, dX, ?_, ?_, trivial⟩ <;> first | (simp only [ua, j6, fx, fq, fu, fC, de, dX, gj, j7, gb, nm, seval] <;> rfl) | rfl) ?_
  rintro tm ⟨dz, fy, fz, jx, jy, kA, _⟩
  cases oU : (Jf)
  ·simp only [oU, hs] at h
   try simp only [vz, tyf, j6, (aV gO), gb, dz, fy, fz, jx, jy, kA, oU, nm, seval]
   replace h := m7 _ h
   try dsimp only at h
   obtain rfl := kF _ h
   exact bn Tryz.results102 rfl
  simp only [oU, hs] at h
  simp only [vz, tyf, j6, (aV gO), gb, dz, fy, fz, jx, jy, kA, oU, nm, seval]
  exact ⟨List.length kT, Nat.lt_succ_self _, by rw [m9]; refine ⟨kT, b4 + 1, rfl, Int.le_trans gi (Int.le_add_one (Int.le_refl _)), dw gi iA, rfl, (show 11 ≤ j4 + 28 by omega), ?_, dz, fy, fz, ?_, (by first | exact h | (simp only [j6, gb, oU]; exact h))⟩ <;> first | (simp only [ua, j6, gb, dz, fy, fz, jx, jy, kA, oU, nm, seval] <;> rfl) | rfl⟩
def jt (al : GBk) : Option (Bool) := Option.bind (j3 0 al.Apprentices 3) (fun r1 => cond (r1) (Option.bind (uC al.Boards) (fun r2 => cond (r2) (Option.bind (uF al) (fun r3 => some r3)) (some false))) (some false))
theorem zu (al : GBk) (R : Bool) (h : jt al = some R) : aj Tryz.prog G0 67 [.agg (cGBk al)] (.tree (.lit (.bool R))) := by
 refine aj.runR mixed Tryz.call67 Tryz.func67 rfl (by simp [Tryz.ntmps67]; kernel_rfl) ?_
 obtain ⟨KF, h, kF, kN⟩ := cn h
 simp only [jt] at h
 obtain ⟨r4, o5, h⟩ := optI h kN
 try simp only [hs] at h
 simp only [vz, tyf, nm, seval]
 refine ktA (oJ _ _ _ _ o5) ?_
 refine bw (fun tm => tm 1 = .ptr 0 0 ∧ tm 5 = .lit (.bool r4) ∧ True) (by refine ⟨?_, ?_, trivial⟩ <;> first | (simp only [ua, nm, seval] <;> rfl) | rfl) ?_
 rintro tm ⟨e6, e7, _⟩
 cases d8 : (r4)
 ·simp only [d8, hs] at h
  try simp only [vz, tyf, e6, e7, d8, nm, seval]
  obtain rfl := kF _ h
  exact bn Tryz.results67 rfl
 simp only [d8, hs] at h
 obtain ⟨r9, eX, h⟩ := optI h kN
 try simp only [hs] at h
 simp only [vz, tyf, e6, e7, d8, nm, seval]
 refine ktA (N7 _ _ eX) ?_
 refine bw (fun tm => tm 1 = .ptr 0 0 ∧ tm 6 = .lit (.bool true) ∧ tm 9 = .lit (.bool r9) ∧ True) (by refine ⟨e6, ?_, ?_, trivial⟩ <;> first | (simp only [ua, e6, e7, d8, nm, seval] <;> rfl) | rfl) ?_
 rintro tm ⟨br, bF, bz, _⟩
 cases bO : (r9)
 ·simp only [bO, hs] at h
  try simp only [vz, tyf, d8, br, bF, bz, bO, nm, seval]
  obtain rfl := kF _ h
  exact bn Tryz.results67 rfl
 simp only [bO, hs] at h
 obtain ⟨uH, fe, h⟩ := optI h kN
 try simp only [hs] at h
 simp only [vz, tyf, d8, br, bF, bz, bO, nm, seval]
 refine ktA (ND _ _ fe) ?_
 refine bw (fun tm => tm 11 = .lit (.bool true) ∧ tm 13 = .lit (.bool uH) ∧ True) (by refine ⟨?_, ?_, trivial⟩ <;> first | (simp only [ua, d8, br, bF, bz, bO, nm, seval] <;> rfl) | rfl) ?_
 rintro tm ⟨bu, bL, _⟩
 try simp only [vz, tyf, d8, bO, bu, bL, nm, seval]
 obtain rfl := kF _ h
 exact bn Tryz.results67 rfl
def oV (al : GBk) : List Int → Int → Option (LOut (Bool) (Unit))
 | [], iB => some (.go ())
 | e0 :: p0, iB => Option.bind (jz al iB e0) (fun r2 => cond (r2) (oV al p0 (iB + 1)) (some (.ret false)))
def mi (al : GBk) (an : List Int) : Option (Bool) := cond ((List.length an : Int) != (List.length al.Strokes : Int)) (some false) (Option.bind (m4 0 an al.Apprentices) (fun r1 => cond (r1) (cond (lenOk an) (lbind (oV al an 0) (fun r4 => some r4) (fun c3 => some true) (fun _ _ => none)) none) (some false)))
theorem Ix (al : GBk) (an : List Int) (R : Bool) (h : mi al an = some R) : aj Tryz.prog G0 68 [.agg (cGBk al), .sl (ae eI an) (List.length an) false] (.tree (.lit (.bool R))) := by
 refine aj.runR mixed Tryz.call68 Tryz.func68 rfl (by simp [Tryz.ntmps68]; kernel_rfl) ?_
 obtain ⟨KF, h, kF, kN⟩ := cn h
 simp only [mi] at h
 cases d5 : ((List.length an : Int) != (List.length al.Strokes : Int))
 ·simp only [d5, hs] at h
  obtain ⟨r6, o7, h⟩ := optI h kN
  try simp only [hs] at h
  simp only [vz, tyf, d5, nm, seval]
  refine ktA (BT _ _ _ _ o7) ?_
  refine bw (fun tm => tm 1 = .sl (ae eI an) (List.length an) false ∧ tm 2 = .ptr 0 0 ∧ tm 13 = .lit (.bool false) ∧ tm 17 = .lit (.bool r6) ∧ True) (by refine ⟨?_, ?_, ?_, ?_, trivial⟩ <;> first | (simp only [ua, d5, nm, seval] <;> rfl) | rfl) ?_
  rintro tm ⟨e8, e9, aY, br, _⟩
  cases bK : (r6)
  ·simp only [bK, hs] at h
   try simp only [vz, tyf, d5, e8, e9, aY, br, bK, nm, seval]
   obtain rfl := kF _ h
   exact bn Tryz.results68 rfl
  simp only [bK, hs] at h
  cases mA : (lenOk an)
  ·simp only [mA, hs] at h
   exact absurd h kN
  simp only [mA, hs] at h
  simp only [vz, tyf, d5, e8, e9, aY, br, bK, mA, nm, seval]
  obtain ⟨NL, h, Ca, Cb, NM, Cc⟩ := f9 h kN
  obtain ⟨f13, Cd, h⟩ := call2 h
  obtain ⟨NN, mB⟩ : ∃ I : Nat → St → Prop, I = (fun m st => ∃ (kU : List Int) (bT : Int), m = List.length kU ∧ 0 ≤ bT ∧ List.drop (Int.toNat bT) an = kU ∧ st.df = [] ∧ 18 ≤ st.nx ∧ st.H 0 = some (.cells (some 25) (cGBk al)) ∧ st.tm 2 = .ptr 0 0 ∧ st.tm 20 = .sl (ae eI an) (List.length an) false ∧ st.tm 21 = .lit (.int .i64 (List.length an : Int)) ∧ st.tm 22 = .lit (.int .i64 bT) ∧ NL (f13 kU bT)) := ⟨_, rfl⟩
  refine loopK mixed (by kernel_rfl) NN (List.length an) (by rw [mB]; refine ⟨an, 0, rfl, Int.le_refl _, rfl, rfl, (show 18 ≤ 18 by omega), ?_, e9, ?_, ?_, ?_, h⟩ <;> first | (simp only [ua, d5, e8, e9, aY, br, bK, nm, seval] <;> rfl) | rfl) ?_
  rintro m ⟨tm, H, rZ, df⟩ hinv
  rw [mB] at hinv
  obtain ⟨kU, bT, rfl, gk, iC, hdf, Ce, sa, bx, bu, bL, bN, h⟩ := hinv
  simp only at hdf Ce sa bx bu bL bN
  have uI := gI (m := 18) (b := rZ) (by omega)
  subst hdf Cd
  cases kU with
  | nil =>
   have j5 : (decide (bT < (List.length an : Int))) = false := fl gk iC
   simp only [oV, hs, reduceCtorEq] at h
   replace h := Cb _ h
   try dsimp only at h
   try simp only [hs] at h
   try simp only [vz, tyf, d5, bK, mA, uI, bx, bu, bL, bN, sa, j5, nm, seval]
   obtain rfl := kF _ h
   exact bn Tryz.results68 rfl
  | cons bz kU =>
   have mC : (decide (bT < (List.length an : Int))) = true := fm gk iC
   have j8 := dv gk iC
   have mD := fp gk iC mA
   simp only [oV, hs, reduceCtorEq] at h
   obtain ⟨ff, mG, h⟩ := optI h Cc
   try simp only [hs] at h
   simp only [vz, tyf, d5, bK, mA, uI, bx, bu, bL, bN, sa, mC, (ba j8), mD, nm, seval]
   refine ktA (zJ _ _ _ _ mG) ?_
   refine bw (fun tm => tm 2 = .ptr 0 0 ∧ tm 20 = .sl (ae eI an) (List.length an) false ∧ tm 21 = .lit (.int .i64 (List.length an : Int)) ∧ tm 22 = .lit (.int .i64 bT) ∧ tm 30 = .lit (.bool ff) ∧ True) (by refine ⟨bx, bu, bL, bN, ?_, trivial⟩ <;> first | (simp only [ua, d5, bK, uI, bx, bu, bL, bN, sa, mC, mD, nm, seval] <;> rfl) | rfl) ?_
   rintro tm ⟨bp, cD, ca, cJ, ct, _⟩
   have uJ := And.intro d5 (And.intro bK (And.intro mA (And.intro uI (And.intro sa (And.intro mC mD)))))
   cases dG : (ff)
   ·simp only [dG, hs] at h
    try simp only [vz, tyf, uJ, (ba j8), bp, cD, ca, cJ, ct, dG, nm, seval]
    replace h := Ca _ h
    try dsimp only at h
    obtain rfl := kF _ h
    exact bn Tryz.results68 rfl
   simp only [dG, hs] at h
   simp only [vz, tyf, uJ, (ba j8), bp, cD, ca, cJ, ct, dG, nm, seval]
   exact ⟨List.length kU, Nat.lt_succ_self _, by rw [mB]; refine ⟨kU, bT + 1, rfl, Int.le_trans gk (Int.le_add_one (Int.le_refl _)), dw gk iC, rfl, (show 18 ≤ rZ + 13 by omega), ?_, bp, cD, ca, ?_, (by first | exact h | (simp only [uJ, dG]; exact h))⟩ <;> first | (simp only [ua, uJ, bp, cD, ca, cJ, ct, dG, nm, seval] <;> rfl) | rfl⟩
 simp only [d5, hs] at h
 try simp only [vz, tyf, d5, nm, seval]
 obtain rfl := kF _ h
 exact bn Tryz.results68 rfl
def oE (al : GBk) (ah : Int) : Option (Bool) := Option.bind (j3 0 ah (i64.wrap ((List.length al.Strokes : Int) - 1))) (fun r1 => some r1)
theorem MD (al : GBk) (ah : Int) (R : Bool) (h : oE al ah = some R) : aj Tryz.prog G0 80 [.agg (cGBk al), .lit (.int .i64 ah)] (.tree (.lit (.bool R))) := by
 refine aj.runR mixed Tryz.call80 Tryz.func80 rfl (by simp [Tryz.ntmps80]; kernel_rfl) ?_
 obtain ⟨KF, h, kF, kN⟩ := cn h
 simp only [oE] at h
 obtain ⟨r2, o3, h⟩ := optI h kN
 try simp only [hs] at h
 simp only [vz, tyf, nm, seval]
 refine ktA (oJ _ _ _ _ o3) ?_
 refine bw (fun tm => tm 10 = .lit (.bool r2) ∧ True) (by refine ⟨?_, trivial⟩ <;> first | (simp only [ua, nm, seval] <;> rfl) | rfl) ?_
 rintro tm ⟨e4, _⟩
 try simp only [vz, tyf, e4, nm, seval]
 obtain rfl := kF _ h
 exact bn Tryz.results80 rfl
def mH  : List GBs → Int → Option (LOut (Bool) (Unit))
 | [], c9 => some (.go ())
 | e0 :: p0, c9 => cond (decide (c9 < 9)) (cond (decide ((List.length e0.Needs : Int) > 8)) (some (.ret false)) (mH p0 (c9 + 1))) (some (.go ()))
def uK (al : GBk) : Option (Bool) := cond (lenOk al.Strokes) (lbind (mH al.Strokes 0) (fun r2 => some r2) (fun c1 => cond (decide ((List.length al.Boards : Int) ≤ 5)) (some (decide ((List.length al.Strokes : Int) ≤ 8))) (some false)) (fun _ _ => none)) none
theorem NO (al : GBk) (R : Bool) (h : uK al = some R) : aj Tryz.prog G0 18 [.agg (cGBk al)] (.tree (.lit (.bool R))) := by
 refine aj.runR mixed Tryz.call18 Tryz.func18 rfl (by simp [Tryz.ntmps18]; kernel_rfl) ?_
 obtain ⟨KF, h, kF, kN⟩ := cn h
 simp only [uK] at h
 cases g4 : (lenOk al.Strokes)
 ·simp only [g4, hs] at h
  exact absurd h kN
 simp only [g4, hs] at h
 simp only [vz, tyf, g4, nm, seval]
 obtain ⟨K3, h, Jg, uL, NP, NQ⟩ := f9 h kN
 obtain ⟨f3, Cf, h⟩ := call2 h
 obtain ⟨I3, mI⟩ : ∃ I : Nat → St → Prop, I = (fun m st => ∃ (p3 : List GBs) (cu : Int), m = List.length p3 ∧ 0 ≤ cu ∧ List.drop (Int.toNat cu) al.Strokes = p3 ∧ st.df = [] ∧ 3 ≤ st.nx ∧ st.H 0 = some (.cells (some 25) (cGBk al)) ∧ st.tm 1 = .ptr 0 0 ∧ st.tm 3 = .lit (.int .i64 cu) ∧ K3 (f3 p3 cu)) := ⟨_, rfl⟩
 refine loopK mixed (by kernel_rfl) I3 (List.length al.Strokes) (by rw [mI]; refine ⟨al.Strokes, 0, rfl, Int.le_refl _, rfl, rfl, (show 3 ≤ 3 by omega), ?_, ?_, ?_, h⟩ <;> first | (simp only [ua, nm, seval] <;> rfl) | rfl) ?_
 rintro m ⟨tm, H, sb, df⟩ hinv
 rw [mI] at hinv
 obtain ⟨p3, cu, rfl, eE, iD, hdf, Cg, H5, e6, e7, h⟩ := hinv
 simp only at hdf Cg H5 e6 e7
 have n8 := gI (m := 3) (b := sb) (by omega)
 subst hdf Cf
 cases p3 with
 | nil =>
  have d9 : (decide (cu < (List.length al.Strokes : Int))) = false := fl eE iD
  simp only [mH, hs, reduceCtorEq] at h
  replace h := uL _ h
  try dsimp only at h
  try simp only [hs] at h
  cases kV : (decide ((List.length al.Boards : Int) ≤ 5))
  ·simp only [kV, hs] at h
   try simp only [vz, tyf, g4, n8, e6, e7, H5, d9, kV, nm, seval]
   obtain rfl := kF _ h
   exact bn Tryz.results18 rfl
  simp only [kV, hs] at h
  try simp only [vz, tyf, g4, n8, e6, e7, H5, d9, kV, nm, seval]
  obtain rfl := kF _ h
  exact bn Tryz.results18 rfl
 | cons e3 p3 =>
  have eM : (decide (cu < (List.length al.Strokes : Int))) = true := fm eE iD
  have oW := dv eE iD
  have mJ := fp eE iD g4
  simp only [mH, hs, reduceCtorEq] at h
  cases bO : (decide (cu < 9))
  ·simp only [bO, hs] at h
   replace h := uL _ h
   try dsimp only at h
   try simp only [hs] at h
   cases gm : (decide ((List.length al.Boards : Int) ≤ 5))
   ·simp only [gm, hs] at h
    have NR := And.intro g4 (And.intro n8 (And.intro H5 (And.intro eM (And.intro mJ (And.intro bO gm)))))
    try simp only [vz, tyf, NR, e6, e7, (aV oW), nm, seval]
    obtain rfl := kF _ h
    exact bn Tryz.results18 rfl
   simp only [gm, hs] at h
   have NS := And.intro g4 (And.intro n8 (And.intro H5 (And.intro eM (And.intro mJ (And.intro bO gm)))))
   try simp only [vz, tyf, NS, e6, e7, (aV oW), nm, seval]
   obtain rfl := kF _ h
   exact bn Tryz.results18 rfl
  simp only [bO, hs] at h
  cases kM : (decide ((List.length e3.Needs : Int) > 8))
  ·simp only [kM, hs] at h
   have Ch := And.intro g4 (And.intro n8 (And.intro H5 (And.intro eM (And.intro mJ (And.intro bO kM)))))
   simp only [vz, tyf, Ch, e6, e7, (aV oW), nm, seval]
   exact ⟨List.length p3, Nat.lt_succ_self _, by rw [mI]; refine ⟨p3, cu + 1, rfl, Int.le_trans eE (Int.le_add_one (Int.le_refl _)), dw eE iD, rfl, (show 3 ≤ sb + 20 by omega), ?_, e6, ?_, (by first | exact h | (simp only [Ch]; exact h))⟩ <;> first | (simp only [ua, Ch, e6, e7, nm, seval] <;> rfl) | rfl⟩
  simp only [kM, hs] at h
  have NT := And.intro g4 (And.intro n8 (And.intro H5 (And.intro eM (And.intro mJ (And.intro bO kM)))))
  try simp only [vz, tyf, NT, e6, e7, (aV oW), nm, seval]
  replace h := Jg _ h
  try dsimp only at h
  obtain rfl := kF _ h
  exact bn Tryz.results18 rfl
def gn (gp : Int) (d4 : Int) (dm : Int) : Option (Bool) := cond (decide (gp ≥ d4)) (some (decide (gp ≤ dm))) (some false)
theorem jh (gp : Int) (d4 : Int) (dm : Int) (R : Bool) (h : gn gp d4 dm = some R) : aj Tryz.prog G0 73 [.lit (.int .i64 gp), .lit (.int .i64 d4), .lit (.int .i64 dm)] (.tree (.lit (.bool R))) := by
 refine aj.runR mixed Tryz.call73 Tryz.func73 rfl (by simp [Tryz.ntmps73]; kernel_rfl) ?_
 obtain ⟨KF, h, kF, kN⟩ := cn h
 simp only [gn] at h
 cases d1 : (decide (gp ≥ d4))
 ·simp only [d1, hs] at h
  try simp only [vz, tyf, d1, nm, seval]
  obtain rfl := kF _ h
  exact bn Tryz.results73 rfl
 simp only [d1, hs] at h
 try simp only [vz, tyf, d1, nm, seval]
 obtain rfl := kF _ h
 exact bn Tryz.results73 rfl
def mK (aJ : Int) (x1 : GBs) : List Int → Int → Option (LOut (Bool) (Unit))
 | [], iE => some (.go ())
 | e0 :: p0, iE => Option.bind (gn e0 0 (i64.wrap (aJ - 1))) (fun r5 => cond (r5) (cond (decide (iE > 0)) (Option.bind (getI x1.Needs (i64.wrap (iE - 1))) (fun x6 => cond (decide (e0 ≤ x6)) (some (.ret false)) (mK aJ x1 p0 (iE + 1)))) (mK aJ x1 p0 (iE + 1))) (some (.ret false)))
def sc (al : GBk) (aJ : Int) : Option (Bool) := Option.bind (getI al.Strokes aJ) (fun x1 => Option.bind (gn x1.Board 0 (i64.wrap ((List.length al.Boards : Int) - 1))) (fun r2 => cond (r2) (Option.bind (gn x1.Hours.Low 1 6) (fun r3 => cond (r3) (Option.bind (gn x1.Hours.High x1.Hours.Low 6) (fun r4 => cond (r4) (cond (lenOk x1.Needs) (lbind (mK aJ x1 x1.Needs 0) (fun r8 => some r8) (fun c7 => some true) (fun _ _ => none)) none) (some false))) (some false))) (some false)))
theorem NU (al : GBk) (aJ : Int) (R : Bool) (h : sc al aJ = some R) : aj Tryz.prog G0 74 [.agg (cGBk al), .lit (.int .i64 aJ)] (.tree (.lit (.bool R))) := by
 refine aj.runR mixed Tryz.call74 Tryz.func74 rfl (by simp [Tryz.ntmps74]; kernel_rfl) ?_
 obtain ⟨KF, h, kF, kN⟩ := cn h
 simp only [sc] at h
 obtain ⟨x9, eX, h⟩ := optI h kN
 try simp only [hs] at h
 obtain ⟨uM, NV, h⟩ := optI h kN
 try simp only [hs] at h
 simp only [vz, tyf, (aV eX), nm, seval]
 refine ktA (jh _ _ _ _ NV) ?_
 refine bw (fun tm => tm 1 = .lit (.int .i64 aJ) ∧ tm 5 = .ptr 7 0 ∧ tm 18 = .lit (.bool uM) ∧ True) (by refine ⟨?_, ?_, ?_, trivial⟩ <;> first | (simp only [ua, nm, seval] <;> rfl) | rfl) ?_
 rintro tm ⟨bz, bH, dr, _⟩
 cases eC : (uM)
 ·simp only [eC, hs] at h
  try simp only [vz, tyf, (aV eX), bz, bH, dr, eC, nm, seval]
  obtain rfl := kF _ h
  exact bn Tryz.results74 rfl
 simp only [eC, hs] at h
 obtain ⟨j9, Ci, h⟩ := optI h kN
 try simp only [hs] at h
 simp only [vz, tyf, (aV eX), bz, bH, dr, eC, nm, seval]
 refine ktA (jh _ _ _ _ Ci) ?_
 refine bw (fun tm => tm 1 = .lit (.int .i64 aJ) ∧ tm 5 = .ptr 7 0 ∧ tm 20 = .lit (.bool false) ∧ tm 24 = .lit (.bool j9) ∧ True) (by refine ⟨bz, bH, ?_, ?_, trivial⟩ <;> first | (simp only [ua, bz, bH, dr, eC, nm, seval] <;> rfl) | rfl) ?_
 rintro tm ⟨bN, dc, eJ, bV, _⟩
 cases gQ : (j9)
 ·simp only [gQ, hs] at h
  try simp only [vz, tyf, (aV eX), eC, bN, dc, eJ, bV, gQ, nm, seval]
  obtain rfl := kF _ h
  exact bn Tryz.results74 rfl
 simp only [gQ, hs] at h
 obtain ⟨rY, oR, h⟩ := optI h kN
 try simp only [hs] at h
 simp only [vz, tyf, (aV eX), eC, bN, dc, eJ, bV, gQ, nm, seval]
 refine ktA (jh _ _ _ _ oR) ?_
 refine bw (fun tm => tm 1 = .lit (.int .i64 aJ) ∧ tm 5 = .ptr 7 0 ∧ tm 27 = .lit (.bool false) ∧ tm 34 = .lit (.bool rY) ∧ True) (by refine ⟨bN, dc, ?_, ?_, trivial⟩ <;> first | (simp only [ua, eC, bN, dc, eJ, bV, gQ, nm, seval] <;> rfl) | rfl) ?_
 rintro tm ⟨cM, bp, cD, ca, _⟩
 cases jA : (rY)
 ·simp only [jA, hs] at h
  try simp only [vz, tyf, (aV eX), eC, gQ, cM, bp, cD, ca, jA, nm, seval]
  obtain rfl := kF _ h
  exact bn Tryz.results74 rfl
 simp only [jA, hs] at h
 cases mM : (lenOk x9.Needs)
 ·simp only [mM, hs] at h
  exact absurd h kN
 simp only [mM, hs] at h
 simp only [vz, tyf, (aV eX), eC, gQ, cM, bp, cD, ca, jA, mM, nm, seval]
 obtain ⟨NW, h, sd, Cj, NX, se⟩ := f9 h kN
 obtain ⟨NY, Ck, h⟩ := call2 h
 obtain ⟨NZ, jB⟩ : ∃ I : Nat → St → Prop, I = (fun m st => ∃ (ji : List Int) (bW : Int), m = List.length ji ∧ 0 ≤ bW ∧ List.drop (Int.toNat bW) x9.Needs = ji ∧ st.df = [] ∧ 35 ≤ st.nx ∧ st.H 7 = some (.cells (some 49) (cGBs x9)) ∧ st.tm 1 = .lit (.int .i64 aJ) ∧ st.tm 5 = .ptr 7 0 ∧ st.tm 6 = .lit (.int .i64 bW) ∧ NW (NY ji bW)) := ⟨_, rfl⟩
 refine loopK mixed (by kernel_rfl) NZ (List.length x9.Needs) (by rw [jB]; refine ⟨x9.Needs, 0, rfl, Int.le_refl _, rfl, rfl, (show 35 ≤ 35 by omega), ?_, cM, bp, ?_, h⟩ <;> first | (simp only [ua, eC, gQ, cM, bp, cD, ca, jA, nm, seval] <;> rfl) | rfl) ?_
 rintro m ⟨tm, H, mN, df⟩ hinv
 rw [jB] at hinv
 obtain ⟨ji, bW, rfl, fg, gq, hdf, Cl, sf, j2, j0, sg, h⟩ := hinv
 simp only at hdf Cl sf j2 j0 sg
 have uN := gI (m := 35) (b := mN) (by omega)
 subst hdf Ck
 cases ji with
 | nil =>
  have Oa : (decide (bW < (List.length x9.Needs : Int))) = false := fl fg gq
  simp only [mK, hs, reduceCtorEq] at h
  replace h := Cj _ h
  try dsimp only at h
  try simp only [hs] at h
  try simp only [vz, tyf, (aV eX), eC, gQ, jA, mM, uN, j2, j0, sg, sf, Oa, nm, seval]
  obtain rfl := kF _ h
  exact bn Tryz.results74 rfl
 | cons ct ji =>
  have Cm : (decide (bW < (List.length x9.Needs : Int))) = true := fm fg gq
  have kW := dv fg gq
  have Cn := fp fg gq mM
  simp only [mK, hs, reduceCtorEq] at h
  simp only [vz, tyf, (aV eX), eC, gQ, jA, mM, uN, j2, j0, sg, sf, Cm, (ba kW), Cn, nm, seval]
  refine m6 (fun tm => tm 1 = .lit (.int .i64 aJ) ∧ tm 5 = .ptr 7 0 ∧ tm 6 = .lit (.int .i64 bW) ∧ True) (by refine ⟨j2, j0, sg, trivial⟩ <;> first | (simp only [ua, eC, gQ, jA, uN, j2, j0, sg, sf, Cm, Cn, nm, seval] <;> rfl) | rfl) ?_
  rintro tm ⟨de, dX, gj, _⟩
  have jj := And.intro eC (And.intro gQ (And.intro jA (And.intro mM (And.intro uN (And.intro sf (And.intro Cm Cn))))))
  obtain ⟨Jh, Ob, h⟩ := optI h se
  try simp only [hs] at h
  simp only [vz, tyf, jj, (aV eX), (ba kW), de, dX, gj, nm, seval]
  refine dktA (jh _ _ _ _ Ob) ?_
  refine bw (fun tm => tm 1 = .lit (.int .i64 aJ) ∧ tm 5 = .ptr 7 0 ∧ tm 6 = .lit (.int .i64 bW) ∧ tm 51 = .lit (.bool Jh) ∧ True) (by refine ⟨de, dX, gj, ?_, trivial⟩ <;> first | (simp only [ua, jj, de, dX, gj, nm, seval] <;> rfl) | rfl) ?_
  rintro tm ⟨d6, dz, fy, fz, _⟩
  cases cm : (Jh)
  ·simp only [cm, hs] at h
   try simp only [vz, tyf, jj, (aV eX), (ba kW), d6, dz, fy, fz, cm, nm, seval]
   replace h := sd _ h
   try dsimp only at h
   obtain rfl := kF _ h
   exact bn Tryz.results74 rfl
  simp only [cm, hs] at h
  cases jC : (decide (bW > 0))
  ·simp only [jC, hs] at h
   simp only [vz, tyf, jj, (aV eX), (ba kW), d6, dz, fy, fz, cm, jC, nm, seval]
   exact ⟨List.length ji, Nat.lt_succ_self _, by rw [jB]; refine ⟨ji, bW + 1, rfl, Int.le_trans fg (Int.le_add_one (Int.le_refl _)), dw fg gq, rfl, (show 35 ≤ mN + 35 by omega), ?_, d6, dz, ?_, (by first | exact h | (simp only [jj, cm, jC]; exact h))⟩ <;> first | (simp only [ua, jj, d6, dz, fy, fz, cm, jC, nm, seval] <;> rfl) | rfl⟩
  simp only [jC, hs] at h
  obtain ⟨Oc, Ji, h⟩ := optI h se
  try simp only [hs] at h
  cases oX : (decide (ct ≤ Oc))
  ·simp only [oX, hs] at h
   simp only [vz, tyf, jj, (aV eX), (ba kW), d6, dz, fy, fz, cm, jC, (ba Ji), oX, nm, seval]
   exact ⟨List.length ji, Nat.lt_succ_self _, by rw [jB]; refine ⟨ji, bW + 1, rfl, Int.le_trans fg (Int.le_add_one (Int.le_refl _)), dw fg gq, rfl, (show 35 ≤ mN + 35 by omega), ?_, d6, dz, ?_, (by first | exact h | (simp only [jj, cm, jC, oX]; exact h))⟩ <;> first | (simp only [ua, jj, d6, dz, fy, fz, cm, jC, oX, nm, seval] <;> rfl) | rfl⟩
  simp only [oX, hs] at h
  try simp only [vz, tyf, jj, (aV eX), (ba kW), d6, dz, fy, fz, cm, jC, (ba Ji), oX, nm, seval]
  replace h := sd _ h
  try dsimp only at h
  obtain rfl := kF _ h
  exact bn Tryz.results74 rfl
def oY (al : GBk) : List GBs → Int → Option (LOut (Bool) (Unit))
 | [], mO => some (.go ())
 | e1 :: p1, mO => Option.bind (sc al mO) (fun r6 => cond (r6) (oY al p1 (mO + 1)) (some (.ret false)))
def oZ  : List Int → Int → Option (LOut (Bool) (Unit))
 | [], c9 => some (.go ())
 | e0 :: p0, c9 => Option.bind (gn e0 0 60) (fun r4 => cond (r4) (oZ p0 (c9 + 1)) (some (.ret false)))
def sh (al : GBk) : Option (Bool) := Option.bind (gn al.Apprentices 0 3) (fun r1 => cond (r1) (Option.bind (gn (List.length al.Boards : Int) 1 3) (fun r2 => cond (r2) (Option.bind (gn (List.length al.Strokes : Int) 1 6) (fun r3 => cond (r3) (cond (lenOk al.Boards) (lbind (oZ al.Boards 0) (fun r9 => some r9) (fun c5 => cond (lenOk al.Strokes) (lbind (oY al al.Strokes 0) (fun r8 => some r8) (fun c7 => some true) (fun _ _ => none)) none) (fun _ _ => none)) none) (some false))) (some false))) (some false))
theorem Od (al : GBk) (R : Bool) (h : sh al = some R) : aj Tryz.prog G0 24 [.agg (cGBk al)] (.tree (.lit (.bool R))) := by
 refine aj.runR mixed Tryz.call24 Tryz.func24 rfl (by simp [Tryz.ntmps24]; kernel_rfl) ?_
 obtain ⟨KF, h, kF, kN⟩ := cn h
 simp only [sh] at h
 obtain ⟨uO, Oe, h⟩ := optI h kN
 try simp only [hs] at h
 simp only [vz, tyf, nm, seval]
 refine ktA (jh _ _ _ _ Oe) ?_
 refine bw (fun tm => tm 1 = .ptr 0 0 ∧ tm 7 = .lit (.bool uO) ∧ True) (by refine ⟨?_, ?_, trivial⟩ <;> first | (simp only [ua, nm, seval] <;> rfl) | rfl) ?_
 rintro tm ⟨bF, bz, _⟩
 cases bO : (uO)
 ·simp only [bO, hs] at h
  try simp only [vz, tyf, bF, bz, bO, nm, seval]
  obtain rfl := kF _ h
  exact bn Tryz.results24 rfl
 simp only [bO, hs] at h
 obtain ⟨uH, fe, h⟩ := optI h kN
 try simp only [hs] at h
 simp only [vz, tyf, bF, bz, bO, nm, seval]
 refine ktA (jh _ _ _ _ fe) ?_
 refine bw (fun tm => tm 1 = .ptr 0 0 ∧ tm 9 = .lit (.bool false) ∧ tm 13 = .lit (.bool uH) ∧ True) (by refine ⟨bF, ?_, ?_, trivial⟩ <;> first | (simp only [ua, bF, bz, bO, nm, seval] <;> rfl) | rfl) ?_
 rintro tm ⟨bu, bL, bN, _⟩
 cases eN : (uH)
 ·simp only [eN, hs] at h
  try simp only [vz, tyf, bO, bu, bL, bN, eN, nm, seval]
  obtain rfl := kF _ h
  exact bn Tryz.results24 rfl
 simp only [eN, hs] at h
 obtain ⟨i5, rM, h⟩ := optI h kN
 try simp only [hs] at h
 simp only [vz, tyf, bO, bu, bL, bN, eN, nm, seval]
 refine ktA (jh _ _ _ _ rM) ?_
 refine bw (fun tm => tm 1 = .ptr 0 0 ∧ tm 16 = .lit (.bool false) ∧ tm 20 = .lit (.bool i5) ∧ True) (by refine ⟨bu, ?_, ?_, trivial⟩ <;> first | (simp only [ua, bO, bu, bL, bN, eN, nm, seval] <;> rfl) | rfl) ?_
 rintro tm ⟨bM, b6, cl, _⟩
 cases da : (i5)
 ·simp only [da, hs] at h
  try simp only [vz, tyf, bO, eN, bM, b6, cl, da, nm, seval]
  obtain rfl := kF _ h
  exact bn Tryz.results24 rfl
 simp only [da, hs] at h
 cases jk : (lenOk al.Boards)
 ·simp only [jk, hs] at h
  exact absurd h kN
 simp only [jk, hs] at h
 simp only [vz, tyf, bO, eN, bM, b6, cl, da, jk, nm, seval]
 obtain ⟨Of, h, Co, Cp, Og, Cq⟩ := f9 h kN
 obtain ⟨Oh, Cr, h⟩ := call2 h
 obtain ⟨Oi, mP⟩ : ∃ I : Nat → St → Prop, I = (fun m st => ∃ (kX : List Int) (cK : Int), m = List.length kX ∧ 0 ≤ cK ∧ List.drop (Int.toNat cK) al.Boards = kX ∧ st.df = [] ∧ 21 ≤ st.nx ∧ st.H 0 = some (.cells (some 25) (cGBk al)) ∧ st.tm 1 = .ptr 0 0 ∧ st.tm 3 = .lit (.int .i64 cK) ∧ Of (Oh kX cK)) := ⟨_, rfl⟩
 refine loopK mixed (by kernel_rfl) Oi (List.length al.Boards) (by rw [mP]; refine ⟨al.Boards, 0, rfl, Int.le_refl _, rfl, rfl, (show 21 ≤ 21 by omega), ?_, bM, ?_, h⟩ <;> first | (simp only [ua, bO, eN, bM, b6, cl, da, nm, seval] <;> rfl) | rfl) ?_
 rintro m ⟨tm, H, fG, df⟩ hinv
 rw [mP] at hinv
 obtain ⟨kX, cK, rfl, gu, iF, hdf, Cs, eU, cJ, ct, h⟩ := hinv
 simp only at hdf Cs eU cJ ct
 have jD := gI (m := 21) (b := fG) (by omega)
 subst hdf Cr
 cases kX with
 | nil =>
  have dG : (decide (cK < (List.length al.Boards : Int))) = false := fl gu iF
  simp only [oZ, hs, reduceCtorEq] at h
  replace h := Cp _ h
  try dsimp only at h
  try simp only [hs] at h
  cases fH : (lenOk al.Strokes)
  ·simp only [fH, hs] at h
   exact absurd h kN
  simp only [fH, hs] at h
  simp only [vz, tyf, bO, eN, da, jk, jD, cJ, ct, eU, dG, fH, nm, seval]
  obtain ⟨Oj, h, Ct, Cu, Ok, Cv⟩ := f9 h kN
  obtain ⟨Ol, Cw, h⟩ := call2 h
  obtain ⟨Om, mQ⟩ : ∃ I : Nat → St → Prop, I = (fun m st => ∃ (kY : List GBs) (cL : Int), m = List.length kY ∧ 0 ≤ cL ∧ List.drop (Int.toNat cL) al.Strokes = kY ∧ st.df = [] ∧ fG + 6 ≤ st.nx ∧ st.H 0 = some (.cells (some 25) (cGBk al)) ∧ st.tm 1 = .ptr 0 0 ∧ st.tm 4 = .lit (.int .i64 cL) ∧ Oj (Ol kY cL)) := ⟨_, rfl⟩
  refine loopK mixed (by kernel_rfl) Om (List.length al.Strokes) (by rw [mQ]; refine ⟨al.Strokes, 0, rfl, Int.le_refl _, rfl, rfl, (show fG + 6 ≤ fG + 6 by omega), ?_, cJ, ?_, h⟩ <;> first | (simp only [ua, bO, eN, da, jD, cJ, ct, eU, dG, nm, seval] <;> rfl) | rfl) ?_
  rintro m ⟨tm, H, mR, df⟩ hinv
  rw [mQ] at hinv
  obtain ⟨kY, cL, rfl, gv, iG, hdf, Cx, si, fD, fx, h⟩ := hinv
  simp only at hdf Cx si fD fx
  have uP := gI (m := 21) (b := mR) (by omega)
  have uQ := kK (a := fG) (m := 6) (b := mR) (by omega)
  subst hdf Cw
  cases kY with
  | nil =>
   have On : (decide (cL < (List.length al.Strokes : Int))) = false := fl gv iG
   simp only [oY, hs, reduceCtorEq] at h
   replace h := Cu _ h
   try dsimp only at h
   try simp only [hs] at h
   try simp only [vz, tyf, bO, eN, da, jk, jD, dG, fH, uP, uQ, fD, fx, si, On, nm, seval]
   obtain rfl := kF _ h
   exact bn Tryz.results24 rfl
  | cons j2 kY =>
   have Cy : (decide (cL < (List.length al.Strokes : Int))) = true := fm gv iG
   have Cz := dv gv iG
   have C0 := fp gv iG fH
   simp only [oY, hs, reduceCtorEq] at h
   obtain ⟨Jj, Oo, h⟩ := optI h Cv
   try simp only [hs] at h
   simp only [vz, tyf, bO, eN, da, jk, jD, dG, fH, uP, uQ, fD, fx, si, Cy, (aV Cz), C0, nm, seval]
   refine ktA (NU _ _ _ Oo) ?_
   refine bw (fun tm => tm 1 = .ptr 0 0 ∧ tm 4 = .lit (.int .i64 cL) ∧ tm 46 = .lit (.bool Jj) ∧ True) (by refine ⟨fD, fx, ?_, trivial⟩ <;> first | (simp only [ua, bO, eN, da, jD, dG, uP, uQ, fD, fx, si, Cy, C0, nm, seval] <;> rfl) | rfl) ?_
   rintro tm ⟨fI, d6, dz, _⟩
   have uR := And.intro bO (And.intro eN (And.intro da (And.intro jk (And.intro jD (And.intro dG (And.intro fH (And.intro uP (And.intro uQ (And.intro si (And.intro Cy C0))))))))))
   cases pa : (Jj)
   ·simp only [pa, hs] at h
    try simp only [vz, tyf, uR, (aV Cz), fI, d6, dz, pa, nm, seval]
    replace h := Ct _ h
    try dsimp only at h
    obtain rfl := kF _ h
    exact bn Tryz.results24 rfl
   simp only [pa, hs] at h
   simp only [vz, tyf, uR, (aV Cz), fI, d6, dz, pa, nm, seval]
   exact ⟨List.length kY, Nat.lt_succ_self _, by rw [mQ]; refine ⟨kY, cL + 1, rfl, Int.le_trans gv (Int.le_add_one (Int.le_refl _)), dw gv iG, rfl, (show fG + 6 ≤ mR + 12 by omega), ?_, fI, ?_, (by first | exact h | (simp only [uR, pa]; exact h))⟩ <;> first | (simp only [ua, uR, fI, d6, dz, pa, nm, seval] <;> rfl) | rfl⟩
 | cons bp kX =>
  have cm : (decide (cK < (List.length al.Boards : Int))) = true := fm gu iF
  have pb := dv gu iF
  have C1 := fp gu iF jk
  simp only [oZ, hs, reduceCtorEq] at h
  obtain ⟨Jk, Oq, h⟩ := optI h Cq
  try simp only [hs] at h
  simp only [vz, tyf, bO, eN, da, jk, jD, cJ, ct, eU, cm, (ba pb), C1, nm, seval]
  refine ktA (jh _ _ _ _ Oq) ?_
  refine bw (fun tm => tm 1 = .ptr 0 0 ∧ tm 3 = .lit (.int .i64 cK) ∧ tm 35 = .lit (.bool Jk) ∧ True) (by refine ⟨cJ, ct, ?_, trivial⟩ <;> first | (simp only [ua, bO, eN, da, jD, cJ, ct, eU, cm, C1, nm, seval] <;> rfl) | rfl) ?_
  rintro tm ⟨kZ, mS, pc, _⟩
  have uS := And.intro bO (And.intro eN (And.intro da (And.intro jk (And.intro jD (And.intro eU (And.intro cm C1))))))
  cases pd : (Jk)
  ·simp only [pd, hs] at h
   try simp only [vz, tyf, uS, (ba pb), kZ, mS, pc, pd, nm, seval]
   replace h := Co _ h
   try dsimp only at h
   obtain rfl := kF _ h
   exact bn Tryz.results24 rfl
  simp only [pd, hs] at h
  simp only [vz, tyf, uS, (ba pb), kZ, mS, pc, pd, nm, seval]
  exact ⟨List.length kX, Nat.lt_succ_self _, by rw [mP]; refine ⟨kX, cK + 1, rfl, Int.le_trans gu (Int.le_add_one (Int.le_refl _)), dw gu iF, rfl, (show 21 ≤ fG + 15 by omega), ?_, kZ, ?_, (by first | exact h | (simp only [uS, pd]; exact h))⟩ <;> first | (simp only [ua, uS, kZ, mS, pc, pd, nm, seval] <;> rfl) | rfl⟩
def pf (al : GBk) : Option (Bool) := Option.bind (uK al) (fun r1 => cond (r1) (Option.bind (sh al) (fun r2 => some r2)) (some false))
theorem Ot (al : GBk) (R : Bool) (h : pf al = some R) : aj Tryz.prog G0 30 [.agg (cGBk al)] (.tree (.lit (.bool R))) := by
 refine aj.runR mixed Tryz.call30 Tryz.func30 rfl (by simp [Tryz.ntmps30]; kernel_rfl) ?_
 obtain ⟨KF, h, kF, kN⟩ := cn h
 simp only [pf] at h
 obtain ⟨r3, o4, h⟩ := optI h kN
 try simp only [hs] at h
 simp only [vz, tyf, nm, seval]
 refine ktA (NO _ _ o4) ?_
 refine bw (fun tm => tm 1 = .ptr 0 0 ∧ tm 4 = .lit (.bool r3) ∧ True) (by refine ⟨?_, ?_, trivial⟩ <;> first | (simp only [ua, nm, seval] <;> rfl) | rfl) ?_
 rintro tm ⟨e5, e6, _⟩
 cases d7 : (r3)
 ·simp only [d7, hs] at h
  try simp only [vz, tyf, e5, e6, d7, nm, seval]
  obtain rfl := kF _ h
  exact bn Tryz.results30 rfl
 simp only [d7, hs] at h
 obtain ⟨r8, o9, h⟩ := optI h kN
 try simp only [hs] at h
 simp only [vz, tyf, e5, e6, d7, nm, seval]
 refine ktA (Od _ _ o9) ?_
 refine bw (fun tm => tm 5 = .lit (.bool true) ∧ tm 7 = .lit (.bool r8) ∧ True) (by refine ⟨?_, ?_, trivial⟩ <;> first | (simp only [ua, e5, e6, d7, nm, seval] <;> rfl) | rfl) ?_
 rintro tm ⟨aY, br, _⟩
 try simp only [vz, tyf, d7, aY, br, nm, seval]
 obtain rfl := kF _ h
 exact bn Tryz.results30 rfl
def uT (iH : List Int) : Option (Bool) := some (decide ((List.length iH : Int) ≤ 9))
theorem Ou (iH : List Int) (R : Bool) (h : uT iH = some R) : aj Tryz.prog G0 19 [.sl (ae eI iH) (List.length iH) false] (.tree (.lit (.bool R))) := by
 refine aj.runR mixed Tryz.call19 Tryz.func19 rfl (by simp [Tryz.ntmps19]; kernel_rfl) ?_
 obtain ⟨KF, h, kF, kN⟩ := cn h
 simp only [uT] at h
 try simp only [vz, tyf, nm, seval]
 obtain rfl := kF _ h
 exact bn Tryz.results19 rfl
def mT (al : GBk) : List Int → Int → Option (LOut (Bool) (Unit))
 | [], jE => some (.go ())
 | e0 :: p0, jE => Option.bind (gn e0 0 al.Apprentices) (fun r1 => cond (r1) (Option.bind (getI al.Strokes jE) (fun x2 => cond (x2.Round) (cond (e0 != 0) (some (.ret false)) (mT al p0 (jE + 1))) (mT al p0 (jE + 1)))) (some (.ret false)))
def mU (al : GBk) (bP : List Int) : Option (Bool) := cond ((List.length bP : Int) != (List.length al.Strokes : Int)) (some false) (cond (lenOk bP) (lbind (mT al bP 0) (fun r4 => some r4) (fun c3 => some true) (fun _ _ => none)) none)
theorem C2 (al : GBk) (bP : List Int) (R : Bool) (h : mU al bP = some R) : aj Tryz.prog G0 25 [.agg (cGBk al), .sl (ae eI bP) (List.length bP) false] (.tree (.lit (.bool R))) := by
 refine aj.runR mixed Tryz.call25 Tryz.func25 rfl (by simp [Tryz.ntmps25]; kernel_rfl) ?_
 obtain ⟨KF, h, kF, kN⟩ := cn h
 simp only [mU] at h
 cases d5 : ((List.length bP : Int) != (List.length al.Strokes : Int))
 ·simp only [d5, hs] at h
  cases g7 : (lenOk bP)
  ·simp only [g7, hs] at h
   exact absurd h kN
  simp only [g7, hs] at h
  simp only [vz, tyf, d5, g7, nm, seval]
  obtain ⟨K6, h, uU, C3, Ov, mV⟩ := f9 h kN
  obtain ⟨f6, C4, h⟩ := call2 h
  obtain ⟨I6, lf⟩ : ∃ I : Nat → St → Prop, I = (fun m st => ∃ (p6 : List Int) (dA : Int), m = List.length p6 ∧ 0 ≤ dA ∧ List.drop (Int.toNat dA) bP = p6 ∧ st.df = [] ∧ 9 ≤ st.nx ∧ st.H 0 = some (.cells (some 25) (cGBk al)) ∧ st.tm 1 = .sl (ae eI bP) (List.length bP) false ∧ st.tm 2 = .ptr 0 0 ∧ st.tm 5 = .lit (.int .i64 dA) ∧ K6 (f6 p6 dA)) := ⟨_, rfl⟩
  refine loopK mixed (by kernel_rfl) I6 (List.length bP) (by rw [lf]; refine ⟨bP, 0, rfl, Int.le_refl _, rfl, rfl, (show 9 ≤ 9 by omega), ?_, ?_, ?_, ?_, h⟩ <;> first | (simp only [ua, d5, nm, seval] <;> rfl) | rfl) ?_
  rintro m ⟨tm, H, mW, df⟩ hinv
  rw [lf] at hinv
  obtain ⟨p6, dA, rfl, lg, pg, hdf, C5, H8, e9, aY, br, h⟩ := hinv
  simp only at hdf C5 H8 e9 aY br
  have fw := gI (m := 9) (b := mW) (by omega)
  subst hdf C4
  cases p6 with
  | nil =>
   have gN : (decide (dA < (List.length bP : Int))) = false := fl lg pg
   simp only [mT, hs, reduceCtorEq] at h
   replace h := C3 _ h
   try dsimp only at h
   try simp only [hs] at h
   try simp only [vz, tyf, d5, g7, fw, e9, aY, br, H8, gN, nm, seval]
   obtain rfl := kF _ h
   exact bn Tryz.results25 rfl
  | cons e6 p6 =>
   have bO : (decide (dA < (List.length bP : Int))) = true := fm lg pg
   have fe := dv lg pg
   have ph := fp lg pg g7
   simp only [mT, hs, reduceCtorEq] at h
   simp only [vz, tyf, d5, g7, fw, e9, aY, br, H8, bO, (ba fe), ph, nm, seval]
   refine m6 (fun tm => tm 1 = .sl (ae eI bP) (List.length bP) false ∧ tm 2 = .ptr 0 0 ∧ tm 5 = .lit (.int .i64 dA) ∧ True) (by refine ⟨e9, aY, br, trivial⟩ <;> first | (simp only [ua, d5, fw, e9, aY, br, H8, bO, ph, nm, seval] <;> rfl) | rfl) ?_
   rintro tm ⟨bu, bL, bN, _⟩
   obtain ⟨jF, lh, h⟩ := optI h mV
   try simp only [hs] at h
   simp only [vz, tyf, d5, g7, fw, H8, bO, (ba fe), ph, bu, bL, bN, nm, seval]
   refine dktA (jh _ _ _ _ lh) ?_
   refine bw (fun tm => tm 1 = .sl (ae eI bP) (List.length bP) false ∧ tm 2 = .ptr 0 0 ∧ tm 5 = .lit (.int .i64 dA) ∧ tm 24 = .lit (.bool jF) ∧ True) (by refine ⟨bu, bL, bN, ?_, trivial⟩ <;> first | (simp only [ua, d5, fw, H8, bO, ph, bu, bL, bN, nm, seval] <;> rfl) | rfl) ?_
   rintro tm ⟨bV, bM, b6, cl, _⟩
   cases da : (jF)
   ·simp only [da, hs] at h
    have Ow := And.intro d5 (And.intro g7 (And.intro fw (And.intro H8 (And.intro bO (And.intro ph da)))))
    try simp only [vz, tyf, Ow, (ba fe), bV, bM, b6, cl, nm, seval]
    replace h := uU _ h
    try dsimp only at h
    obtain rfl := kF _ h
    exact bn Tryz.results25 rfl
   simp only [da, hs] at h
   have fc := And.intro d5 (And.intro g7 (And.intro fw (And.intro H8 (And.intro bO (And.intro ph da)))))
   obtain ⟨Ox, rN, h⟩ := optI h mV
   try simp only [hs] at h
   cases iI : (Ox.Round)
   ·simp only [iI, hs] at h
    simp only [vz, tyf, fc, (ba fe), bV, bM, b6, cl, (aV rN), iI, nm, seval]
    exact ⟨List.length p6, Nat.lt_succ_self _, by rw [lf]; refine ⟨p6, dA + 1, rfl, Int.le_trans lg (Int.le_add_one (Int.le_refl _)), dw lg pg, rfl, (show 9 ≤ mW + 30 by omega), ?_, bV, bM, ?_, (by first | exact h | (simp only [fc, iI]; exact h))⟩ <;> first | (simp only [ua, fc, bV, bM, b6, cl, iI, nm, seval] <;> rfl) | rfl | (simp only [ua, tyf, fc, bV, bM, b6, cl, iI, nm, seval] <;> rfl)⟩
   simp only [iI, hs] at h
   cases mX : (e6 != 0)
   ·simp only [mX, hs] at h
    simp only [vz, tyf, fc, (ba fe), bV, bM, b6, cl, (aV rN), iI, mX, nm, seval]
    exact ⟨List.length p6, Nat.lt_succ_self _, by rw [lf]; refine ⟨p6, dA + 1, rfl, Int.le_trans lg (Int.le_add_one (Int.le_refl _)), dw lg pg, rfl, (show 9 ≤ mW + 30 by omega), ?_, bV, bM, ?_, (by first | exact h | (simp only [fc, iI, mX]; exact h))⟩ <;> first | (simp only [ua, fc, bV, bM, b6, cl, iI, mX, nm, seval] <;> rfl) | rfl | (simp only [ua, tyf, fc, bV, bM, b6, cl, iI, mX, nm, seval] <;> rfl)⟩
   simp only [mX, hs] at h
   try simp only [vz, tyf, fc, (ba fe), bV, bM, b6, cl, (aV rN), iI, mX, nm, seval]
   replace h := uU _ h
   try dsimp only at h
   obtain rfl := kF _ h
   exact bn Tryz.results25 rfl
 simp only [d5, hs] at h
 try simp only [vz, tyf, d5, nm, seval]
 obtain rfl := kF _ h
 exact bn Tryz.results25 rfl

def sj (al : GBk) (dy : Int) : Option (Bool) := Option.bind (gn dy 0 (i64.wrap ((List.length al.Strokes : Int) - 1))) (fun r1 => some r1)
theorem Oy (al : GBk) (dy : Int) (R : Bool) (h : sj al dy = some R) : aj Tryz.prog G0 45 [.agg (cGBk al), .lit (.int .i64 dy)] (.tree (.lit (.bool R))) := by
 refine aj.runR mixed Tryz.call45 Tryz.func45 rfl (by simp [Tryz.ntmps45]; kernel_rfl) ?_
 obtain ⟨KF, h, kF, kN⟩ := cn h
 simp only [sj] at h
 obtain ⟨r2, o3, h⟩ := optI h kN
 try simp only [hs] at h
 simp only [vz, tyf, nm, seval]
 refine ktA (jh _ _ _ _ o3) ?_
 refine bw (fun tm => tm 10 = .lit (.bool r2) ∧ True) (by refine ⟨?_, trivial⟩ <;> first | (simp only [ua, nm, seval] <;> rfl) | rfl) ?_
 rintro tm ⟨e4, _⟩
 try simp only [vz, tyf, e4, nm, seval]
 obtain rfl := kF _ h
 exact bn Tryz.results45 rfl
end Go.V
end
