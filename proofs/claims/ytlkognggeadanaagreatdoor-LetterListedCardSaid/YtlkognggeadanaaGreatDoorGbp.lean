/- Part of a proof. -/
import Derived.Test.YtlkognggeadanaaGreatDoorGbo
set_option linter.all false
set_option maxRecDepth 4000
set_option maxHeartbeats 40000000
section
namespace Go.V
open Go Go.Proofs IntKind
def yV (s : GLs) : Option (Int × Int) := Option.bind (qL s) fun b => cond b (Option.bind (qI s []) fun L => cond (lenOk L) (some ((List.length L : Int), 0)) none) (some (0, 2))
theorem Uw (s : GLs) (R : Int × Int) (h : yV s = some R) : ad Tryz.prog G0 43 [.agg (cGLs s)] (.tree (.tup [.lit (.int .i64 R.1), .lit (.int .i64 R.2)])) := by
 refine ad.runR mixed Tryz.call43 Tryz.func43 rfl (by simp [Tryz.ntmps43]; kernel_rfl) ?_
 unfold yV at h
 rcases o0 : qL s with _ | b
 ·rw [o0] at h; cases h
 rw [o0, Option.bind_some] at h
 simp only [vz, tyf, seval, ua, rg]
 refine ktA (DT _ _ o0) ?_
 cases b with
 | false =>
  simp only [cond_false, Option.some.injEq] at h
  subst h
  simp only [vz, tyf, seval, ua, rg, Bool.not_false]
  refine cX (x := .tup [.lit (.int .i64 0), .lit (.int .i64 2)]) (by simp only [Tryz.results43, resV, resL, aG, d6, dA, uw, cr, tyf, nm, seval] <;> rfl) ?_
  refine dB (by simp only [tre, ar, Bool.and_self]) ?_
  simp only [outV, nrm, seval, List.map_cons, List.map_nil]
 | true =>
 rw [cond_true] at h
 rcases o2 : qI s [] with _ | L
 ·rw [o2] at h; cases h
 rw [o2, Option.bind_some] at h
 have hi := P1 s [] L o2
 simp only [vz, tyf, seval, ua, rg, Bool.not_true]
 refine ktreeR ?_ (P0 s []) ?_
 ·simp only [tre, ar, Bool.and_self]
 cases hln : lenOk L with
 | false => rw [hln] at h; cases h
 | true =>
 rw [hln, cond_true] at h
 have hlt : L.length < 9223372036854775808 := by simpa [lenOk] using hln
 refine bw (fun tm => tm 4 = .ptr 6 0 ∧ tm 9 = itF s []) (by refine ⟨?_, ?_⟩ <;> simp only [ua, seval]) ?_
 rintro tm ⟨e4, e9⟩
 simp only [vz, tyf, seval, ua, rg]
 refine DF hi (by first | (simp only [mW, vu, e9, sZ, seval] <;> rfl) | rfl) ?_
 intro LO hLO
 simp only [Option.some.injEq] at h
 obtain ⟨J, hJ⟩ : ∃ J : Option (List VV) → List (Nat × VObj) → Prop, J = (fun o hp => match o with
  | some l => ∃ c : Nat, c + l.length = L.length ∧ hp = [(10, .deferred (some [])), (11, LO), (6, .cells (some 3) [.lit (.int .i64 c)])]
  | none => False) := ⟨_, rfl⟩
 refine ⟨ownI J, P5, ?_, ?_, ?_⟩
 ·rintro v rest Fr H nx hFr ⟨hp, hown, hj⟩
  rw [hJ] at hj
  obtain ⟨c, hc, rfl⟩ := hj
  simp only [List.length_cons] at hc
  obtain ⟨Ux, gV, GO⟩ := hown.head
  obtain ⟨Uy, jF, mB⟩ := hown.tail.head
  obtain ⟨l6, n6, H6⟩ := hown.tail.tail.head
  refine DG mixed (psl := [10]) hLO mB DH rfl (by kernel_rfl) (by kernel_rfl) ?_
  intro LB LD hLB hLD
  refine DI (fun tm => tm 4 = .ptr 6 0) (by simp only [DJ, DK, Tryz.ntmps43, e4, seval]) ?_
  clear e4 e9
  rintro tm e4
  have hw : i64.wrap ((c : Int) + 1) = ((c + 1 : Nat) : Int) := by rw [IntWalk.i64_in _ (by omega)]; simp
  simp only [vz, tyf, seval, ua, rg, RStart, e4, mB, H6, hw]
  refine ⟨by simp only [bt, seval], (show nx ≤ nx + 3 by omega), fun γ hγ => ?_, ?_⟩
  ·have XH : γ ≠ 11 := fun e => jF (e ▸ hγ)
   have g6 : γ ≠ 6 := fun e => n6 (e ▸ hγ)
   simp only [updH]
   repeat rw [if_neg (by first | assumption | omega)]
  ·simp only [if_true]
   refine ⟨[(10, .deferred (some [])), (11, LO), (6, .cells (some 3) [.lit (.int .i64 ((c + 1 : Nat) : Int))])], Own.cons (show 10 < nx + 3 by omega) gV ?_ (Own.cons (show 11 < nx + 3 by omega) jF ?_ (Own.cons (show 6 < nx + 3 by omega) n6 ?_ Own.nil)), ?_⟩
   rotate_left 3
   ·rw [hJ]
    exact ⟨c + 1, by omega, rfl⟩
   all_goals simp only [bt, seval, GO]
 ·refine ⟨[(10, .deferred (some [])), (11, LO), (6, .cells (some 3) [.lit (.int .i64 ((0 : Nat) : Int))])], Own.cons (show 10 < 12 by omega) (fun h => h) ?_ (Own.cons (show 11 < 12 by omega) (fun h => h) ?_ (Own.cons (show 6 < 12 by omega) (fun h => h) ?_ Own.nil)), ?_⟩
  rotate_left 3
  ·rw [hJ]
   exact ⟨0, by simp, rfl⟩
  ·simp only [bt, seval]
  ·simp only [bt, seval]
  ·simp only [bt, seval] <;> rfl
 ·rintro H' nx' (⟨hp, hown, hj⟩ | ⟨hp, hown, hj⟩)
  ·rw [hJ] at hj
   obtain ⟨c, hc, rfl⟩ := hj
   simp only [List.length_nil, Nat.add_zero] at hc
   subst hc
   subst h
   obtain ⟨Ux, gV, GO⟩ := hown.head
   obtain ⟨Uy, jF, mB⟩ := hown.tail.head
   obtain ⟨l6, n6, H6⟩ := hown.tail.tail.head
   refine DM hLO mB ?_
   intro LX
   simp only [vz, tyf, seval, ua, rg, e4, H6]
   refine Cg (by simp only [bt, seval, GO]) ?_
   refine cX (x := .tup [.lit (.int .i64 (L.length : Int)), .lit (.int .i64 0)]) (by simp only [Tryz.results43, resV, resL, aG, d6, dA, uw, cr, tyf, nm, seval] <;> rfl) ?_
   refine dB (by simp only [tre, ar, Bool.and_self]) ?_
   simp only [outV, nrm, seval, List.map_cons, List.map_nil]
  ·rw [hJ] at hj
   exact hj.elim
def C3 (bn : List Int) : List Int → Int → Option (LOut (Bool) (Unit))
 | [], bE => some (.go ())
 | e0 :: p0, bE => Option.bind (getI bn bE) (fun x1 => cond (e0 != x1) (some (.ret false)) (C3 bn p0 (bE + 1)))
def C4 (bg : List Int) (bn : List Int) : Option (Bool) := cond ((List.length bg : Int) != (List.length bn : Int)) (some false) (cond (lenOk bg) (lbind (C3 bn bg 0) (fun r3 => some r3) (fun c2 => some true) (fun _ _ => none)) none)
theorem Uz (bg : List Int) (bn : List Int) (R : Bool) (h : C4 bg bn = some R) : ad Tryz.prog G0 25 [.sl (aa eI bg) (List.length bg) false, .sl (aa eI bn) (List.length bn) false] (.tree (.lit (.bool R))) := by
 refine ad.runR mixed Tryz.call25 Tryz.func25 rfl (by simp [Tryz.ntmps25]; kernel_rfl) ?_
 obtain ⟨KF, h, kF, kN⟩ := dC h
 simp only [C4] at h
 cases d4 : ((List.length bg : Int) != (List.length bn : Int))
 ·simp only [d4, hs] at h
  cases g6 : (lenOk bg)
  ·simp only [g6, hs] at h
   exact absurd h kN
  simp only [g6, hs] at h
  simp only [vz, tyf, d4, g6, nm, seval]
  obtain ⟨K5, h, tC, tD, ES, sj⟩ := fW h kN
  obtain ⟨f5, tE, h⟩ := call2 h
  obtain ⟨I5, lW⟩ : ∃ I : Nat → St → Prop, I = (fun m st => ∃ (p5 : List Int) (eU : Int), m = List.length p5 ∧ 0 ≤ eU ∧ List.drop (Int.toNat eU) bg = p5 ∧ st.df = [] ∧ 7 ≤ st.nx ∧ st.tm 0 = .sl (aa eI bg) (List.length bg) false ∧ st.tm 1 = .sl (aa eI bn) (List.length bn) false ∧ st.tm 5 = .lit (.int .i64 eU) ∧ K5 (f5 p5 eU)) := ⟨_, rfl⟩
  refine loopK mixed (by kernel_rfl) I5 (List.length bg) (by rw [lW]; refine ⟨bg, 0, rfl, qZf _, rfl, rfl, (show 7 ≤ 7 by omega), ?_, ?_, ?_, h⟩ <;> first | (simp only [ua, d4, nm, seval] <;> rfl) | rfl) ?_
  rintro m ⟨tm, H, oU, df⟩ hinv
  rw [lW] at hinv
  obtain ⟨p5, eU, rfl, gR, iN, hdf, m0, e7, e8, e9, h⟩ := hinv
  simp only at hdf m0 e7 e8 e9
  have gV := fX (m := 7) (b := oU) (by omega)
  subst hdf tE
  cases p5 with
  | nil =>
   have eR : (decide (eU < (List.length bg : Int))) = false := fc gR iN
   simp only [C3, hs, reduceCtorEq] at h
   replace h := tD _ h
   try dsimp only at h
   try simp only [hs] at h
   try simp only [vz, tyf, d4, g6, gV, e7, e8, e9, eR, nm, seval]
   obtain rfl := kF _ h
   exact bk Tryz.results25 rfl
  | cons e5 p5 =>
   have bz : (decide (eU < (List.length bg : Int))) = true := fb gR iN
   have jl := dZ gR iN
   have iD := fe gR iN g6
   simp only [C3, hs, reduceCtorEq] at h
   simp only [vz, tyf, d4, g6, gV, e7, e8, e9, bz, (aA jl), iD, nm, seval]
   refine m3 (fun tm => tm 0 = .sl (aa eI bg) (List.length bg) false ∧ tm 1 = .sl (aa eI bn) (List.length bn) false ∧ tm 5 = .lit (.int .i64 eU) ∧ True) (by refine ⟨e7, e8, e9, trivial⟩ <;> first | (simp only [ua, d4, gV, e7, e8, e9, bz, iD, nm, seval] <;> rfl) | rfl) ?_
   rintro tm ⟨dM, da, cI, _⟩
   obtain ⟨C5, oV, h⟩ := optI h sj
   try simp only [hs] at h
   cases cw : (e5 != C5)
   ·simp only [cw, hs] at h
    simp only [vz, tyf, d4, g6, gV, bz, (aA jl), iD, dM, da, cI, (aA oV), cw, nm, seval]
    exact ⟨List.length p5, qZc _, by rw [lW]; refine ⟨p5, eU + 1, rfl, Int.le_trans gR (Int.le_add_one (qZf _)), bW gR iN, rfl, (show 7 ≤ oU + 16 by omega), dM, da, ?_, (by first | exact h | (simp only [d4, bz, cw]; exact h))⟩ <;> first | (simp only [ua, d4, gV, bz, iD, dM, da, cI, cw, nm, seval] <;> rfl) | rfl⟩
   simp only [cw, hs] at h
   try simp only [vz, tyf, d4, g6, gV, bz, (aA jl), iD, dM, da, cI, (aA oV), cw, nm, seval]
   replace h := tC _ h
   try dsimp only at h
   obtain rfl := kF _ h
   exact bk Tryz.results25 rfl
 simp only [d4, hs] at h
 try simp only [vz, tyf, d4, nm, seval]
 obtain rfl := kF _ h
 exact bk Tryz.results25 rfl
def wu (bn : List GLe) : List GLe → Int → Option (LOut (Bool) (Unit))
 | [], bE => some (.go ())
 | e0 :: p0, bE => Option.bind (getI bn bE) (fun x1 => cond (e0.Word == x1.Word && (e0.Letters == x1.Letters)) (wu bn p0 (bE + 1)) (some (.ret false)))
def yW (bg : List GLe) (bn : List GLe) : Option (Bool) := cond ((List.length bg : Int) != (List.length bn : Int)) (some false) (cond (lenOk bg) (lbind (wu bn bg 0) (fun r3 => some r3) (fun c2 => some true) (fun _ _ => none)) none)
theorem U0 (bg : List GLe) (bn : List GLe) (R : Bool) (h : yW bg bn = some R) : ad Tryz.prog G0 89 [.sl (aa cGLe bg) (List.length bg) false, .sl (aa cGLe bn) (List.length bn) false] (.tree (.lit (.bool R))) := by
 refine ad.runR mixed Tryz.call89 Tryz.func89 rfl (by simp [Tryz.ntmps89]; kernel_rfl) ?_
 obtain ⟨KF, h, kF, kN⟩ := dC h
 simp only [yW] at h
 cases d4 : ((List.length bg : Int) != (List.length bn : Int))
 ·simp only [d4, hs] at h
  cases g6 : (lenOk bg)
  ·simp only [g6, hs] at h
   exact absurd h kN
  simp only [g6, hs] at h
  simp only [vz, tyf, d4, g6, nm, seval]
  obtain ⟨K5, h, tC, tD, ES, sj⟩ := fW h kN
  obtain ⟨f5, tE, h⟩ := call2 h
  obtain ⟨I5, lW⟩ : ∃ I : Nat → St → Prop, I = (fun m st => ∃ (p5 : List GLe) (eU : Int), m = List.length p5 ∧ 0 ≤ eU ∧ List.drop (Int.toNat eU) bg = p5 ∧ st.df = [] ∧ 7 ≤ st.nx ∧ st.tm 0 = .sl (aa cGLe bg) (List.length bg) false ∧ st.tm 1 = .sl (aa cGLe bn) (List.length bn) false ∧ st.tm 5 = .lit (.int .i64 eU) ∧ K5 (f5 p5 eU)) := ⟨_, rfl⟩
  refine loopK mixed (by kernel_rfl) I5 (List.length bg) (by rw [lW]; refine ⟨bg, 0, rfl, qZf _, rfl, rfl, (show 7 ≤ 7 by omega), ?_, ?_, ?_, h⟩ <;> first | (simp only [ua, d4, nm, seval] <;> rfl) | rfl) ?_
  rintro m ⟨tm, H, oU, df⟩ hinv
  rw [lW] at hinv
  obtain ⟨p5, eU, rfl, gR, iN, hdf, m0, e7, e8, e9, h⟩ := hinv
  simp only at hdf m0 e7 e8 e9
  have gV := fX (m := 7) (b := oU) (by omega)
  subst hdf tE
  cases p5 with
  | nil =>
   have eR : (decide (eU < (List.length bg : Int))) = false := fc gR iN
   simp only [wu, hs, reduceCtorEq] at h
   replace h := tD _ h
   try dsimp only at h
   try simp only [hs] at h
   try simp only [vz, tyf, d4, g6, gV, e7, e8, e9, eR, nm, seval]
   obtain rfl := kF _ h
   exact bk Tryz.results89 rfl
  | cons e5 p5 =>
   have bz : (decide (eU < (List.length bg : Int))) = true := fb gR iN
   have jl := dZ gR iN
   have iD := fe gR iN g6
   simp only [wu, hs, reduceCtorEq] at h
   simp only [vz, tyf, d4, g6, gV, e7, e8, e9, bz, (aJ jl), iD, nm, seval]
   refine m3 (fun tm => tm 0 = .sl (aa cGLe bg) (List.length bg) false ∧ tm 1 = .sl (aa cGLe bn) (List.length bn) false ∧ tm 5 = .lit (.int .i64 eU) ∧ True) (by refine ⟨e7, e8, e9, trivial⟩ <;> first | (simp only [ua, d4, gV, e7, e8, e9, bz, iD, nm, seval] <;> rfl) | rfl) ?_
   rintro tm ⟨dM, da, cI, _⟩
   obtain ⟨C5, oV, h⟩ := optI h sj
   try simp only [hs] at h
   cases cw : (e5.Word == C5.Word && (e5.Letters == C5.Letters))
   ·simp only [cw, hs] at h
    try simp only [vz, tyf, d4, g6, gV, bz, (aJ jl), iD, dM, da, cI, (aJ oV), cw, nm, seval]
    replace h := tC _ h
    try dsimp only at h
    obtain rfl := kF _ h
    exact bk Tryz.results89 rfl
   simp only [cw, hs] at h
   simp only [vz, tyf, d4, g6, gV, bz, (aJ jl), iD, dM, da, cI, (aJ oV), cw, nm, seval]
   exact ⟨List.length p5, qZc _, by rw [lW]; refine ⟨p5, eU + 1, rfl, Int.le_trans gR (Int.le_add_one (qZf _)), bW gR iN, rfl, (show 7 ≤ oU + 16 by omega), dM, da, ?_, (by first | exact h | (simp only [d4, bz, cw]; exact h))⟩ <;> first | (simp only [ua, d4, gV, bz, iD, dM, da, cI, cw, nm, seval] <;> rfl) | rfl⟩
 simp only [d4, hs] at h
 try simp only [vz, tyf, d4, nm, seval]
 obtain rfl := kF _ h
 exact bk Tryz.results89 rfl
def yX (bg : GLx) (bn : GLx) : Option (Bool) := Option.bind (C4 bg.Out bn.Out) (fun r1 => cond (r1) (Option.bind (yW bg.Ends bn.Ends) (fun r2 => some r2)) (some false))
theorem U1 (bg : GLx) (bn : GLx) (R : Bool) (h : yX bg bn = some R) : ad Tryz.prog G0 39 [.agg (cGLx bg), .agg (cGLx bn)] (.tree (.lit (.bool R))) := by
 refine ad.runR mixed Tryz.call39 Tryz.func39 rfl (by simp [Tryz.ntmps39]; kernel_rfl) ?_
 obtain ⟨KF, h, kF, kN⟩ := dC h
 simp only [yX] at h
 obtain ⟨r3, o4, h⟩ := optI h kN
 try simp only [hs] at h
 simp only [vz, tyf, nm, seval]
 refine ktA (Uz _ _ _ o4) ?_
 refine bw (fun tm => tm 2 = .ptr 0 0 ∧ tm 3 = .ptr 1 0 ∧ tm 9 = .lit (.bool r3) ∧ True) (by refine ⟨?_, ?_, ?_, trivial⟩ <;> first | (simp only [ua, nm, seval] <;> rfl) | rfl) ?_
 rintro tm ⟨e5, e6, e7, _⟩
 cases d8 : (r3)
 ·simp only [d8, hs] at h
  try simp only [vz, tyf, e5, e6, e7, d8, nm, seval]
  obtain rfl := kF _ h
  exact bk Tryz.results39 rfl
 simp only [d8, hs] at h
 obtain ⟨r9, xW, h⟩ := optI h kN
 try simp only [hs] at h
 simp only [vz, tyf, e5, e6, e7, d8, nm, seval]
 refine ktA (U0 _ _ _ xW) ?_
 refine bw (fun tm => tm 10 = .lit (.bool true) ∧ tm 15 = .lit (.bool r9) ∧ True) (by refine ⟨?_, ?_, trivial⟩ <;> first | (simp only [ua, e5, e6, e7, d8, nm, seval] <;> rfl) | rfl) ?_
 rintro tm ⟨bc, bT, _⟩
 try simp only [vz, tyf, d8, bc, bT, nm, seval]
 obtain rfl := kF _ h
 exact bk Tryz.results39 rfl
def yY (ag : GLs) : Option (Int × Int) := Option.bind (sa ag) (fun r1 => some ((List.length r1.1.Ends : Int), r1.2.2))
theorem U2 (ag : GLs) (R : Int × Int) (h : yY ag = some R) : ad Tryz.prog G0 37 [.agg (cGLs ag)] (.tree (.tup [.lit (.int .i64 R.1), .lit (.int .i64 R.2)])) := by
 refine ad.runR mixed Tryz.call37 Tryz.func37 rfl (by simp [Tryz.ntmps37]; kernel_rfl) ?_
 obtain ⟨KF, h, kF, kN⟩ := dC h
 simp only [yY] at h
 obtain ⟨r2, o3, h⟩ := optI h kN
 try simp only [hs] at h
 simp only [vz, tyf, nm, seval]
 refine ktA (P7 _ _ o3) ?_
 refine bw (fun tm => tm 9 = .tup [.agg (cGLx r2.1), .lit (.int .i64 r2.2.1), .lit (.int .i64 r2.2.2)] ∧ True) (by refine ⟨?_, trivial⟩ <;> first | (simp only [ua, nm, seval] <;> rfl) | rfl) ?_
 rintro tm ⟨e4, _⟩
 try simp only [vz, tyf, e4, nm, seval]
 refine cX (x := (.tup [.lit (.int .i64 (List.length r2.1.Ends : Int)), .lit (.int .i64 r2.2.2)])) (by first | (simp only [Tryz.results37, resV, resL, aG, d6, dA, uw, cr, tyf, nm, seval] <;> rfl) | rfl) ?_
 obtain rfl := kF _ h
 refine dB ?_ ?_
 ·simp only [tre, ar, Bool.and_self]
 ·first | (simp only [outV, uw, eF, cr, tyf, nrm, an, e4, nm, seval] <;> rfl) | rfl
def tZ (ag : GLs) : Option (Bool × Bool) := Option.bind (yY ag) (fun r1 => cond (r1.2 == 0) (some (true, true)) (some (false, r1.2 == 5)))
theorem U3 (ag : GLs) (R : Bool × Bool) (h : tZ ag = some R) : ad Tryz.prog G0 47 [.agg (cGLs ag)] (.tree (.tup [.lit (.bool R.1), .lit (.bool R.2)])) := by
 refine ad.runR mixed Tryz.call47 Tryz.func47 rfl (by simp [Tryz.ntmps47]; kernel_rfl) ?_
 obtain ⟨KF, h, kF, kN⟩ := dC h
 simp only [tZ] at h
 obtain ⟨r2, o3, h⟩ := optI h kN
 try simp only [hs] at h
 simp only [vz, tyf, nm, seval]
 refine ktA (U2 _ _ o3) ?_
 refine bw (fun tm => tm 8 = .tup [.lit (.int .i64 r2.1), .lit (.int .i64 r2.2)] ∧ True) (by refine ⟨?_, trivial⟩ <;> first | (simp only [ua, nm, seval] <;> rfl) | rfl) ?_
 rintro tm ⟨e4, _⟩
 cases d5 : (r2.2 == 0)
 ·simp only [d5, hs] at h
  try simp only [vz, tyf, e4, d5, nm, seval]
  refine cX (x := (.tup [.lit (.bool false), .lit (.bool (r2.2 == 5))])) (by first | (simp only [Tryz.results47, resV, resL, aG, d6, dA, uw, cr, tyf, d5, nm, seval] <;> rfl) | rfl) ?_
  obtain rfl := kF _ h
  refine dB ?_ ?_
  ·simp only [tre, ar, Bool.and_self]
  ·first | (simp only [outV, uw, eF, cr, tyf, nrm, an, e4, d5, nm, seval] <;> rfl) | rfl
 simp only [d5, hs] at h
 try simp only [vz, tyf, e4, d5, nm, seval]
 refine cX (x := (.tup [.lit (.bool true), .lit (.bool true)])) (by first | (simp only [Tryz.results47, resV, resL, aG, d6, dA, uw, cr, tyf, d5, nm, seval] <;> rfl) | rfl) ?_
 obtain rfl := kF _ h
 refine dB ?_ ?_
 ·simp only [tre, ar, Bool.and_self]
 ·first | (simp only [outV, uw, eF, cr, tyf, nrm, an, e4, d5, nm, seval] <;> rfl) | rfl
def yZ (ag : GLs) (aB : GLx) : Option (Bool) := Option.bind (vr ag aB) (fun r1 => cond (r1) (cond (decide ((List.length aB.Out : Int) > 0)) (some true) (Option.bind (yV ag) (fun r2 => Option.bind (tZ ag) (fun r3 => Option.bind (sa ag) (fun r4 => Option.bind (xe ag aB 0) (fun r5 => cond (r2.2 != 0) (some false) (cond (r3.2) (cond (decide (r2.1 < 0)) (some false) (cond (decide (r2.1 > 277)) (some false) (cond ((decide (r2.1 > 0)) != r3.1) (some false) (cond ((r4.2.2 == 0) != r3.1) (some false) (cond (r5.2 != 0) (some false) (cond (r5.1) (cond (r3.1) (Option.bind (yX r4.1 aB) (fun r6 => cond (r6) (some true) (cond (decide (r2.1 > 1)) (some true) (some false)))) (some false)) (some true))))))) (some false)))))))) (some true))
theorem Uu (ag : GLs) (aB : GLx) (R : Bool) (h : yZ ag aB = some R) : ad Tryz.prog G0 10 [.agg (cGLs ag), .agg (cGLx aB)] (.tree (.lit (.bool R))) := by
 refine ad.runR mixed Tryz.call10 Tryz.func10 rfl (by simp [Tryz.ntmps10]; kernel_rfl) ?_
 obtain ⟨KF, h, kF, kN⟩ := dC h
 simp only [yZ] at h
 obtain ⟨r7, o8, h⟩ := optI h kN
 try simp only [hs] at h
 simp only [vz, tyf, nm, seval]
 refine ktA (U4 _ _ _ o8) ?_
 refine bw (fun tm => tm 2 = .ptr 0 0 ∧ tm 3 = .ptr 1 0 ∧ tm 16 = .lit (.bool r7) ∧ True) (by refine ⟨?_, ?_, ?_, trivial⟩ <;> first | (simp only [ua, nm, seval] <;> rfl) | rfl) ?_
 rintro tm ⟨e9, aZ, bc, _⟩
 cases bz : (r7)
 ·simp only [bz, hs] at h
  simp only [vz, tyf, e9, aZ, bc, bz, nm, seval]
  refine ktree0 xr ?_
  try simp only [vz, tyf, e9, aZ, bc, bz, nm, seval]
  obtain rfl := kF _ h
  exact bk Tryz.results10 rfl
 simp only [bz, hs] at h
 cases br : (decide ((List.length aB.Out : Int) > 0))
 ·simp only [br, hs] at h
  obtain ⟨iO, ly, h⟩ := optI h kN
  try simp only [hs] at h
  simp only [vz, tyf, e9, aZ, bc, bz, br, nm, seval]
  refine ktA (Uw _ _ ly) ?_
  refine bw (fun tm => tm 2 = .ptr 0 0 ∧ tm 3 = .ptr 1 0 ∧ tm 27 = .tup [.lit (.int .i64 iO.1), .lit (.int .i64 iO.2)] ∧ True) (by refine ⟨e9, aZ, ?_, trivial⟩ <;> first | (simp only [ua, e9, aZ, bc, bz, br, nm, seval] <;> rfl) | rfl) ?_
  rintro tm ⟨da, cI, cj, _⟩
  obtain ⟨mg, k8, h⟩ := optI h kN
  try simp only [hs] at h
  simp only [vz, tyf, bz, br, da, cI, cj, nm, seval]
  refine ktA (U3 _ _ k8) ?_
  refine bw (fun tm => tm 2 = .ptr 0 0 ∧ tm 3 = .ptr 1 0 ∧ tm 5 = .lit (.int .i64 iO.1) ∧ tm 6 = .lit (.int .i64 iO.2) ∧ tm 32 = .tup [.lit (.bool mg.1), .lit (.bool mg.2)] ∧ True) (by refine ⟨da, cI, ?_, ?_, ?_, trivial⟩ <;> first | (simp only [ua, bz, br, da, cI, cj, nm, seval] <;> rfl) | rfl) ?_
  rintro tm ⟨dQ, cg, cZ, dH, dN, _⟩
  obtain ⟨oZ, xX, h⟩ := optI h kN
  try simp only [hs] at h
  simp only [vz, tyf, bz, br, dQ, cg, cZ, dH, dN, nm, seval]
  refine ktA (P7 _ _ xX) ?_
  refine bw (fun tm => tm 2 = .ptr 0 0 ∧ tm 3 = .ptr 1 0 ∧ tm 5 = .lit (.int .i64 iO.1) ∧ tm 6 = .lit (.int .i64 iO.2) ∧ tm 7 = .lit (.bool mg.1) ∧ tm 8 = .lit (.bool mg.2) ∧ tm 37 = .tup [.agg (cGLx oZ.1), .lit (.int .i64 oZ.2.1), .lit (.int .i64 oZ.2.2)] ∧ True) (by refine ⟨dQ, cg, cZ, dH, ?_, ?_, ?_, trivial⟩ <;> first | (simp only [ua, bz, br, dQ, cg, cZ, dH, dN, nm, seval] <;> rfl) | rfl) ?_
  rintro tm ⟨eQ, fY, bU, mA, lZ, ga, gQ, _⟩
  obtain ⟨C6, U5, h⟩ := optI h kN
  try simp only [hs] at h
  simp only [vz, tyf, bz, br, eQ, fY, bU, mA, lZ, ga, gQ, nm, seval]
  refine ktA (U6 _ _ _ _ U5) ?_
  refine bw (fun tm => tm 3 = .ptr 1 0 ∧ tm 5 = .lit (.int .i64 iO.1) ∧ tm 6 = .lit (.int .i64 iO.2) ∧ tm 7 = .lit (.bool mg.1) ∧ tm 8 = .lit (.bool mg.2) ∧ tm 9 = .ptr 33 0 ∧ tm 11 = .lit (.int .i64 oZ.2.2) ∧ tm 44 = .tup [.lit (.bool C6.1), .lit (.int .i64 C6.2)] ∧ True) (by refine ⟨fY, bU, mA, lZ, ga, ?_, ?_, ?_, trivial⟩ <;> first | (simp only [ua, bz, br, eQ, fY, bU, mA, lZ, ga, gQ, nm, seval] <;> rfl) | rfl) ?_
  rintro tm ⟨cb, bH, bR, bO, bS, bD, bV, cq, _⟩
  cases gp : (iO.2 != 0)
  ·simp only [gp, hs] at h
   cases mC : (mg.2)
   ·simp only [mC, hs] at h
    try simp only [vz, tyf, bz, br, cb, bH, bR, bO, bS, bD, bV, cq, gp, mC, nm, seval]
    obtain rfl := kF _ h
    exact bk Tryz.results10 rfl
   simp only [mC, hs] at h
   cases jD : (decide (iO.1 < 0))
   ·simp only [jD, hs] at h
    cases lA : (decide (iO.1 > 277))
    ·simp only [lA, hs] at h
     cases jQ : ((decide (iO.1 > 0)) != mg.1)
     ·simp only [jQ, hs] at h
      have su := And.intro bz (And.intro br (And.intro gp (And.intro mC (And.intro jD (And.intro lA jQ)))))
      cases jm : ((oZ.2.2 == 0) != mg.1)
      ·simp only [jm, hs] at h
       cases j4 : (C6.2 != 0)
       ·simp only [j4, hs] at h
        cases gL : (C6.1)
        ·simp only [gL, hs] at h
         simp (maxSteps := 4000000) only [vz, tyf, su, cb, bH, bR, bO, bS, bD, bV, cq, jm, j4, gL, nm, seval]
         refine ktree0 xr ?_
         try simp (maxSteps := 4000000) only [vz, tyf, su, cb, bH, bR, bO, bS, bD, bV, cq, jm, j4, gL, nm, seval]
         obtain rfl := kF _ h
         exact bk Tryz.results10 rfl
        simp only [gL, hs] at h
        rcases (Bool.eq_false_or_eq_true (mg.1)).symm with ij | ij
        ·simp only [ij, hs] at h
         have b50x := su; rw [ij] at b50x; have d51x := jm; rw [ij] at d51x
         try simp (maxSteps := 4000000) only [vz, tyf, b50x, cb, bH, bR, bO, bS, bD, bV, cq, d51x, j4, gL, ij, nm, seval]
         obtain rfl := kF _ h
         exact bk Tryz.results10 rfl
        simp only [ij, hs] at h
        have b50x := su; rw [ij] at b50x; have d51x := jm; rw [ij] at d51x
        obtain ⟨za, iY, h⟩ := optI h kN
        try simp only [hs] at h
        simp (maxSteps := 4000000) only [vz, tyf, b50x, cb, bH, bR, bO, bS, bD, bV, cq, d51x, j4, gL, ij, nm, seval]
        refine ktree (args0 := [.agg (cGLx oZ.1), .agg (cGLx aB)]) (by first | (simp only [nrm, an, @yw, tyf, b50x, d51x, j4, gL, ij] <;> rfl) | rfl) (by simp only [tre, ar, Bool.and_self]) (U1 _ _ _ iY) ?_
        refine bw (fun tm => tm 5 = .lit (.int .i64 iO.1) ∧ tm 86 = .lit (.bool false) ∧ tm 89 = .lit (.bool za) ∧ True) (by refine ⟨bH, ?_, ?_, trivial⟩ <;> first | (simp only [ua, b50x, cb, bH, bR, bO, bS, bD, bV, cq, d51x, j4, gL, ij, nm, seval] <;> rfl) | rfl | (simp only [ua, tyf, b50x, cb, bH, bR, bO, bS, bD, bV, cq, d51x, j4, gL, ij, nm, seval] <;> rfl)) ?_
        rintro tm ⟨jz, jB, jO, _⟩
        cases wv : (za)
        ·simp only [wv, hs] at h
         cases jU : (decide (iO.1 > 1))
         ·simp only [jU, hs] at h
          have U7 := And.intro b50x (And.intro d51x (And.intro j4 (And.intro gL (And.intro ij (And.intro wv jU)))))
          try simp only [vz, tyf, U7, jz, jB, jO, nm, seval]
          obtain rfl := kF _ h
          exact bk Tryz.results10 rfl
         simp only [jU, hs] at h
         have Q7 := And.intro b50x (And.intro d51x (And.intro j4 (And.intro gL (And.intro ij (And.intro wv jU)))))
         simp only [vz, tyf, Q7, jz, jB, jO, nm, seval]
         refine ktree0 xr ?_
         try simp only [vz, tyf, Q7, jz, jB, jO, nm, seval]
         obtain rfl := kF _ h
         exact bk Tryz.results10 rfl
        simp only [wv, hs] at h
        simp (maxSteps := 4000000) only [vz, tyf, b50x, d51x, j4, gL, ij, jz, jB, jO, wv, nm, seval]
        refine ktree0 xr ?_
        try simp (maxSteps := 4000000) only [vz, tyf, b50x, d51x, j4, gL, ij, jz, jB, jO, wv, nm, seval]
        obtain rfl := kF _ h
        exact bk Tryz.results10 rfl
       simp only [j4, hs] at h
       try simp (maxSteps := 4000000) only [vz, tyf, su, cb, bH, bR, bO, bS, bD, bV, cq, jm, j4, nm, seval]
       obtain rfl := kF _ h
       exact bk Tryz.results10 rfl
      simp only [jm, hs] at h
      try simp (maxSteps := 4000000) only [vz, tyf, su, cb, bH, bR, bO, bS, bD, bV, cq, jm, nm, seval]
      obtain rfl := kF _ h
      exact bk Tryz.results10 rfl
     simp only [jQ, hs] at h
     have U8 := And.intro bz (And.intro br (And.intro gp (And.intro mC (And.intro jD (And.intro lA jQ)))))
     try simp only [vz, tyf, U8, cb, bH, bR, bO, bS, bD, bV, cq, nm, seval]
     obtain rfl := kF _ h
     exact bk Tryz.results10 rfl
    simp only [lA, hs] at h
    try simp only [vz, tyf, bz, br, cb, bH, bR, bO, bS, bD, bV, cq, gp, mC, jD, lA, nm, seval]
    obtain rfl := kF _ h
    exact bk Tryz.results10 rfl
   simp only [jD, hs] at h
   try simp only [vz, tyf, bz, br, cb, bH, bR, bO, bS, bD, bV, cq, gp, mC, jD, nm, seval]
   obtain rfl := kF _ h
   exact bk Tryz.results10 rfl
  simp only [gp, hs] at h
  try simp only [vz, tyf, bz, br, cb, bH, bR, bO, bS, bD, bV, cq, gp, nm, seval]
  obtain rfl := kF _ h
  exact bk Tryz.results10 rfl
 simp only [br, hs] at h
 simp only [vz, tyf, e9, aZ, bc, bz, br, nm, seval]
 refine ktree0 xr ?_
 try simp only [vz, tyf, e9, aZ, bc, bz, br, nm, seval]
 obtain rfl := kF _ h
 exact bk Tryz.results10 rfl
theorem Q8 (y : List GLe) : ∀ (p q : List GLe) (i : Int), 0 ≤ i → y.drop i.toNat = q → p.length = q.length → wu y p i = if p = q then some (.go ()) else some (.ret false)
 | [], [], i, _, _, _ => rfl
 | [], _ :: _, i, _, _, h => by cases h
 | _ :: _, [], i, _, _, h => by cases h
 | e :: p, f :: q, i, h0, hd, hl => by
  have hg := dZ h0 hd
  simp only [wu, hg, Option.bind_some]
  rw [wx, Q8 y p q (i + 1) (by omega) (bW h0 hd) (by simpa using hl)]
  by_cases he : e = f
  ·rw [decide_eq_true he, cond_true]
   by_cases hp : p = q
   ·rw [if_pos hp, if_pos (by rw [he, hp])]
   ·rw [if_neg hp, if_neg fun h => hp (List.cons.inj h).2]
  ·rw [decide_eq_false he, cond_false, if_neg fun h => he (List.cons.inj h).1]
theorem GP {x y : List GLe} (hx : lenOk x = true) : yW x y = some (decide (x = y)) := by
 unfold yW
 by_cases hl : x.length = y.length
 ·rw [show ((x.length : Int) != (y.length : Int)) = false by simp [hl], cond_false, hx, cond_true, Q8 y x y 0 (qZf _) rfl hl]
  by_cases h : x = y
  ·rw [if_pos h, oH, decide_eq_true h]
  ·rw [if_neg h, decide_eq_false h]; rfl
 ·rw [show ((x.length : Int) != (y.length : Int)) = true by simp; omega, cond_true, decide_eq_false fun h => hl (by rw [h])]
theorem Uv (s : GLs) (x : GLx) (h : FineS s) (hx : lenOk x.Out = true ∧ lenOk x.Ends = true) : yZ s x = some true := by
 rcases D7 s x h hx with e | ⟨e, g1, g2, g3⟩
 ·simp only [yZ, e]; rfl
 have g : Good s x := ⟨h, g1, g2, g3, hx.1, hx.2⟩
 simp only [yZ, e, Option.bind_some, cond_true]
 by_cases hout : (x.Out.length : Int) > 0
 ·rw [decide_eq_true hout]; rfl
 rw [decide_eq_false hout, cond_false]
 have hnil : x.Out = [] := List.length_eq_zero_iff.1 (by omega)
 rw [hnil] at g2 g3
 obtain ⟨L, FL, l1, l2, l3, l4, l5, l6, l7, l8, l9⟩ := DX h g1 g2
 have hxx : GLx.mk [] x.Ends = x := by rw [← hnil]
 have hC : yV s = some ((FL.length : Int), 0) := by
  simp only [yV, BW s h, g1, Option.bind_some, cond_true, l2]
  rw [ny (by omega), cond_true]
 rw [hC, DA g (qZf _) (by omega)]
 have z : ((0 : Int) != 0) = false := rfl
 have own : fitS s x 0 = true → ∃ l ∈ FL, l.lx.Ends = x.Ends := fun hfit =>
  l8 x.Ends ((l3 _).2 ⟨g3, DV hfit⟩) (by rw [hxx]; exact hfit)
 have U9 : decide ((FL.length : Int) < 0) = false := decide_eq_false (by omega)
 have ql : decide ((FL.length : Int) > 277) = false := decide_eq_false (by omega)
 rcases l9 with ⟨hFL, hS⟩ | ⟨m, A, B, hFL, hS, hA, hB⟩
 ·have hR : tZ s = some (false, true) := by simp only [tZ, yY, hS, Option.bind_some]; rfl
  have hf : fitS s x 0 = false := by
   cases hc : fitS s x 0 with
   | false => rfl
   | true =>
    obtain ⟨l, hl, _⟩ := own hc
    rw [hFL] at hl; cases hl
  rw [hS, hR, hf, hFL]
  rfl
 ·have hR : tZ s = some (true, true) := by simp only [tZ, yY, hS, Option.bind_some]; rfl
  obtain ⟨a1, a2, _⟩ := l7 m (by rw [hFL]; simp)
  have hmL : m.lx.Ends ∈ L := l6.subset (List.mem_map_of_mem (by rw [hFL]; simp))
  have hlen : lenOk m.lx.Ends = true := ny (by have := ((l3 _).1 hmL).2; have := g.sh.rows; omega)
  have hpos : decide ((FL.length : Int) > 0) = true := decide_eq_true (by rw [hFL]; simp; omega)
  rw [hS, hR]
  simp only [Option.bind_some, z, cond_false, cond_true, U9, ql, hpos]
  rw [show (true != true) = false from rfl, cond_false, show (((0 : Int) == 0) != true) = false from rfl, cond_false]
  cases hf : fitS s x 0 with
  | false => rfl
  | true =>
   rw [cond_true]
   have hsame : yX m.lx x = some (decide (m.lx.Ends = x.Ends)) := by
    unfold yX
    rw [a2, hnil, show C4 [] [] = some true from rfl, Option.bind_some, cond_true, GP hlen]
    rfl
   rw [hsame, Option.bind_some]
   by_cases he : m.lx.Ends = x.Ends
   ·rw [decide_eq_true he]; rfl
   ·rw [decide_eq_false he, cond_false]
    obtain ⟨l, q1, q2⟩ := own hf
    have GQ : (FL.length : Int) > 1 := by
     rw [hFL] at q1 ⊢
     cases A with
     | cons a A => simp; omega
     | nil =>
      cases B with
      | cons b B => simp; omega
      | nil =>
       simp only [List.nil_append, List.mem_singleton] at q1
       rw [q1] at q2
       exact (he q2).elim
    rw [decide_eq_true GQ]
    rfl
end Go.V
end
