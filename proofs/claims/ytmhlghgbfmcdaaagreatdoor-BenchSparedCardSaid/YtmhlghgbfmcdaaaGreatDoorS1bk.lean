/- Part of a proof. -/
import Derived.Test.YtmhlghgbfmcdaaaGreatDoorS1bj
set_option linter.all false
set_option maxRecDepth 4000
set_option maxHeartbeats 40000000
section
namespace Go.V
open Go Go.Proofs IntKind
def jx (rc : GBk → (List Int) → Int → Int → (List (GBe × Int)) → Option ((Int) × List (GBe × Int))) (xb : GBk) (xp : List Int) (xh : Int) : List Int → Int → (List Int) → (List (GBe × Int)) → Option (LOut ((List Int) × List (GBe × Int)) ((List Int) × (List (GBe × Int))))
 | [], ky, b2, b5 => some (.go (b2, b5))
 | e0 :: p0, ky, b2, b5 => Option.bind (rc xb xp e0 xh b5) (fun r2 => cond (roomOk 8 (List.length (b2 ++ [r2.1]))) (jx rc xb xp xh p0 (ky + 1) (b2 ++ [r2.1]) r2.2) none)
def np (rc : GBk → (List Int) → Int → Int → (List (GBe × Int)) → Option ((Int) × List (GBe × Int))) (xb : GBk) (xp : List Int) (xss : List Int) (xh : Int) (l0 : List (GBe × Int)) : Option ((List Int) × List (GBe × Int)) := cond (lenOk xss) (lbind (jx rc xb xp xh xss 0 ([] : List Int) l0) (fun r4 => some r4) (fun c3 => some (c3.1, c3.2)) (fun _ _ => none)) none
theorem GP (rc : GBk → (List Int) → Int → Int → (List (GBe × Int)) → Option ((Int) × List (GBe × Int))) (rc_ok : ∀ (xb : GBk) (xp : List Int) (xs : Int) (xh : Int) (l0 : List (GBe × Int)) (R : (Int) × List (GBe × Int)), rc xb xp xs xh l0 = some R → VUpd Tryz.prog G0 118 (fun β => [.agg [.lit (.int .i64 xb.Apprentices), .sl (aa eI xb.Boards) (List.length xb.Boards) false, .sl (aa cGBs xb.Strokes) (List.length xb.Strokes) false, .sl (aa eI xp) (List.length xp) false, .mp β], .lit (.int .i64 xs), .lit (.int .i64 xh)]) (encM aL bO l0) (encM aL bO R.2) (fun _ => .lit (.int .i64 R.1))) (xb : GBk) (xp : List Int) (xss : List Int) (xh : Int) (l0 : List (GBe × Int)) (R : (List Int) × List (GBe × Int)) (h : np rc xb xp xss xh l0 = some R) : VUpd Tryz.prog G0 106 (fun β => [.agg [.lit (.int .i64 xb.Apprentices), .sl (aa eI xb.Boards) (List.length xb.Boards) false, .sl (aa cGBs xb.Strokes) (List.length xb.Strokes) false, .sl (aa eI xp) (List.length xp) false, .mp β], .sl (aa eI xss) (List.length xss) false, .lit (.int .i64 xh)]) (encM aL bO l0) (encM aL bO R.2) (fun _ => .sl (aa eI R.1) (List.length R.1) false) := by
 intro aT nx hlt
 have aO := gm (β := aT) (nx := nx) hlt
 refine aq.run mixed Tryz.call106 Tryz.func106 rfl (by simp [Tryz.ntmps106]; kernel_rfl) ?_
 obtain ⟨KF, h, kF, kN⟩ := bU h
 simp only [np] at h
 cases g6 : (lenOk xss)
 ·simp only [g6, hs] at h
  exact absurd h kN
 simp only [g6, hs] at h
 simp only [vz, mq, mqm, vsi, tyf, mqt, aO, g6, nm, seval]
 obtain ⟨K5, h, GQ, sL, ME, nq⟩ := fh h kN
 obtain ⟨f5, B4, h⟩ := call4 h
 obtain ⟨I5, kz⟩ : ∃ I : Nat → St → Prop, I = (fun m st => ∃ (p5 : List Int) (bK : Int) (bw : List Int) (i7 : List (GBe × Int)) (jy : VV), m = List.length p5 ∧ 0 ≤ bK ∧ List.drop (Int.toNat bK) xss = p5 ∧ st.df = [] ∧ nx + 6 ≤ st.nx ∧ st.H aT = some (.map (encM aL bO i7)) ∧ st.H nx = some (.cells (some 92) ((cGBk xb) ++ [.sl (aa eI xp) (List.length xp) false] ++ [.mp aT])) ∧ st.tm 2 = .lit (.int .i64 xh) ∧ st.tm 3 = .ptr nx 0 ∧ st.tm 10 = .sl (aa eI xss) (List.length xss) false ∧ st.tm 11 = .lit (.int .i64 (List.length xss : Int)) ∧ st.tm 7 = jy ∧ st.tm 12 = .lit (.int .i64 bK) ∧ ((∃ (β : Nat) (el : Option TypeId), jy = .ref β 0 (List.length bw) 1 (List.length bw) ∧ β < st.nx ∧ β ≠ aT ∧ β ≠ nx ∧ st.H β = some (.cells el (aa eI bw))) ∨ (jy = .lit (.slice none 0 0) ∧ bw = [])) ∧ K5 (f5 p5 bK bw i7)) := ⟨_, rfl⟩
 refine loopK mixed (by kernel_rfl) I5 (List.length xss) (by rw [kz]; refine ⟨xss, 0, ([] : List Int), l0, .lit (.slice none 0 0), rfl, Int.le_refl _, rfl, rfl, (show nx + 6 ≤ nx + 6 by omega), ?_, ?_, ?_, ?_, ?_, ?_, ?_, ?_, Or.inr ⟨rfl, rfl⟩, h⟩ <;> first | (simp only [ua, bm, aO, nm, seval] <;> rfl) | rfl) ?_
 rintro m ⟨tm, H, i9, df⟩ hinv
 rw [kz] at hinv
 obtain ⟨p5, bK, bw, i7, jy, rfl, ej, fv, hdf, B5, H7, H8, e9, aV, bc, bl, br, b3, k6, h⟩ := hinv
 simp only at hdf B5 H7 H8 e9 aV bc bl br b3 k6
 have cu := nZ (a := nx) (m := 6) (b := i9) (by omega)
 have db := gm (β := aT) (nx := i9) (by omega)
 subst hdf B4
 rcases k6 with ⟨qj, k7, rfl, B6, B7, B8, jz⟩ | ⟨rfl, rfl⟩
 ·have j0 := gm B6
  have j1 := ne_f B7
  have j2 := ne_f B8
  cases p5 with
  | nil =>
   have iU : (decide (bK < (List.length xss : Int))) = false := fj ej fv
   simp only [jx, hs, reduceCtorEq] at h
   replace h := sL _ h
   try dsimp only at h
   try simp only [hs] at h
   try simp only [vz, mq, mqm, vsi, tyf, mqt, aO, g6, cu, db, e9, aV, bc, bl, br, b3, H7, H8, j0, jz, j1, j2, iU, nm, seval]
   refine bR (x := (.ref qj 0 (List.length bw) 1 (List.length bw))) (by first | (simp only [Tryz.results106, resV, resL, resV1, bS, bT, uw, cr, tyf, mqt, aO, g6, cu, db, H7, H8, j0, jz, j1, j2, iU, nm, seval] <;> rfl) | rfl) ?_
   obtain rfl := kF _ h
   refine ⟨(by first | rfl | assumption | (simp only [aX, aY, aO, cu, db, H7, H8, j0, jz, j1, j2, nm, seval] <;> rfl)), ?_⟩
   exact AH (by first | rfl | assumption | (simp only [aX, aY, aO, cu, db, H7, H8, j0, jz, j1, j2, nm, seval] <;> rfl)) (by first | rfl | assumption | (simp only [aX, aY, aO, cu, db, H7, H8, j0, jz, j1, j2, nm, seval] <;> rfl)) eI_ok (fun _ => rfl)
  | cons e5 p5 =>
   have kR : (decide (bK < (List.length xss : Int))) = true := fk ej fv
   have iY := dg ej fv
   have gb := fm ej fv g6
   simp only [jx, hs, reduceCtorEq] at h
   obtain ⟨eL, kS, h⟩ := optI h nq
   try simp only [hs] at h
   simp only [vz, mq, mqm, vsi, tyf, mqt, aO, g6, cu, db, e9, aV, bc, bl, br, b3, H7, H8, j0, jz, j1, j2, kR, (aR iY), gb, nm, seval]
   refine kupd (VUpd.at (β := aT) (y := (fun _ => .lit (.int .i64 eL.1))) (rc_ok _ _ _ _ _ _ kS) (by omega) (by first | rfl | assumption | (simp only [aX, aY, aO, cu, db, H7, H8, j0, jz, j1, j2, nm, seval] <;> rfl)) (by first | rfl | (simp only [nrm, aG, @bZ, @d4] <;> rfl)) (dP (fun _ => rfl) _)) ?_
   refine dY (fun tm => tm 2 = .lit (.int .i64 xh) ∧ tm 3 = .ptr nx 0 ∧ tm 10 = .sl (aa eI xss) (List.length xss) false ∧ tm 11 = .lit (.int .i64 (List.length xss : Int)) ∧ tm 12 = .lit (.int .i64 bK) ∧ tm 16 = .ref qj 0 (List.length bw) 1 (List.length bw) ∧ tm 20 = .lit (.int .i64 eL.1) ∧ True) (by refine ⟨e9, aV, bc, bl, b3, ?_, ?_, trivial⟩ <;> first | (simp only [ua, bm, aO, cu, db, e9, aV, bc, bl, br, b3, H7, H8, j0, jz, j1, j2, kR, gb, nm, seval] <;> rfl) | rfl) ?_
   rintro tm ⟨aW, bQ, bA, cj, ca, dW, dZ, _⟩
   have gH := And.intro aO (And.intro g6 (And.intro cu (And.intro db (And.intro H7 (And.intro H8 (And.intro j0 (And.intro jz (And.intro j1 (And.intro j2 (And.intro kR gb))))))))))
   cases fx : (roomOk 8 (List.length (bw ++ [eL.1])))
   ·simp only [fx, hs] at h
    exact absurd h nq
   simp only [fx, hs] at h
   simp only [vz, mq, mqm, vsi, tyf, mqt, gH, (aR iY), aW, bQ, bA, cj, ca, dW, dZ, fx, nm, seval]
   refine k_app (w := 1) (enc := eI) (xs := bw) (ys := ([eL.1])) (el := k7) (mW := (some 3)) (fun _ => rfl) qk ql Tryz.underlying22 (by first | rfl | assumption | (simp only [aX, aY, eh, gH, nm, seval] <;> rfl) | (simp only [aX, aY, fD, fU, fq, fu, tyf, mqt, gH, (aR iY), aW, bQ, bA, cj, ca, dW, dZ, fx, nm, seval]; done)) (by first | rfl | assumption | (simp only [aX, aY, eh, gH, nm, seval] <;> rfl) | (simp only [aX, aY, fD, fU, fq, fu, tyf, mqt, gH, (aR iY), aW, bQ, bA, cj, ca, dW, dZ, fx, nm, seval]; done)) (Nat.zero_lt_succ _) fx ?_
   simp only [vz, mq, mqm, vsi, tyf, mqt, gH, (aR iY), aW, bQ, bA, cj, ca, dW, dZ, fx, nm, seval]
   exact ⟨List.length p5, Nat.lt_succ_self _, by rw [kz]; refine ⟨p5, bK + 1, (bw ++ [eL.1]), eL.2, .ref (i9 + 10) 0 (List.length (bw ++ [eL.1])) 1 (List.length (bw ++ [eL.1])), rfl, Int.le_trans ej (Int.le_add_one (Int.le_refl _)), dh ej fv, rfl, (show nx + 6 ≤ i9 + 14 by omega), ?_, ?_, aW, bQ, bA, cj, ?_, ?_, Or.inl ⟨i9 + 10, (sameEl k7 3), rfl, (by first | omega | (simp only [nm, seval]; done) | (simp only [nm, seval]; omega)), (by first | omega | (intro hh; simp only [gH, reduceCtorEq] at hh)), (by first | omega | (intro hh; simp only [gH, reduceCtorEq] at hh)), ?_⟩, (by first | exact h | (simp only [gH]; exact h))⟩ <;> first | (simp only [ua, bm, gH, aW, bQ, bA, cj, ca, dW, dZ, nm, seval] <;> rfl) | rfl⟩
 ·cases p5 with
  | nil =>
   have GR : (decide (bK < (List.length xss : Int))) = false := fj ej fv
   simp only [jx, hs, reduceCtorEq] at h
   replace h := sL _ h
   try dsimp only at h
   try simp only [hs] at h
   try simp only [vz, mq, mqm, vsi, tyf, mqt, aO, g6, cu, db, e9, aV, bc, bl, br, b3, H7, H8, GR, nm, seval]
   refine bR (x := (.lit (.slice none 0 0))) (by first | (simp only [Tryz.results106, resV, resL, resV1, bS, bT, uw, cr, tyf, mqt, aO, g6, cu, db, H7, H8, GR, nm, seval] <;> rfl) | rfl) ?_
   obtain rfl := kF _ h
   refine ⟨(by first | rfl | assumption | (simp only [aX, aY, aO, cu, db, H7, H8, nm, seval] <;> rfl)), ?_⟩
   exact sq_of AF
  | cons e5 p5 =>
   have B9 : (decide (bK < (List.length xss : Int))) = true := fk ej fv
   have nf := dg ej fv
   have BA := fm ej fv g6
   simp only [jx, hs, reduceCtorEq] at h
   obtain ⟨k8, jD, h⟩ := optI h nq
   try simp only [hs] at h
   simp only [vz, mq, mqm, vsi, tyf, mqt, aO, g6, cu, db, e9, aV, bc, bl, br, b3, H7, H8, B9, (aR nf), BA, nm, seval]
   refine kupd (VUpd.at (β := aT) (y := (fun _ => .lit (.int .i64 k8.1))) (rc_ok _ _ _ _ _ _ jD) (by omega) (by first | rfl | assumption | (simp only [aX, aY, aO, cu, db, H7, H8, nm, seval] <;> rfl)) (by first | rfl | (simp only [nrm, aG, @bZ, @d4] <;> rfl)) (dP (fun _ => rfl) _)) ?_
   refine dY (fun tm => tm 2 = .lit (.int .i64 xh) ∧ tm 3 = .ptr nx 0 ∧ tm 10 = .sl (aa eI xss) (List.length xss) false ∧ tm 11 = .lit (.int .i64 (List.length xss : Int)) ∧ tm 12 = .lit (.int .i64 bK) ∧ tm 16 = .lit (.slice none 0 0) ∧ tm 20 = .lit (.int .i64 k8.1) ∧ True) (by refine ⟨e9, aV, bc, bl, b3, ?_, ?_, trivial⟩ <;> first | (simp only [ua, bm, aO, cu, db, e9, aV, bc, bl, br, b3, H7, H8, B9, BA, nm, seval] <;> rfl) | rfl) ?_
   rintro tm ⟨cb, ck, eJ, iX, sM, fy, dj, _⟩
   have k9 := And.intro aO (And.intro g6 (And.intro cu (And.intro db (And.intro H7 (And.intro H8 (And.intro B9 BA))))))
   cases nr : (roomOk 8 (List.length (([] : List Int) ++ [k8.1])))
   ·simp only [nr, hs] at h
    exact absurd h nq
   simp only [nr, hs] at h
   simp only [vz, mq, mqm, vsi, tyf, mqt, k9, (aR nf), cb, ck, eJ, iX, sM, fy, dj, nr, nm, seval]
   refine pg (w := 1) (enc := eI) (ys := ([k8.1])) (mW := (some 3)) (fun _ => rfl) qk ql Tryz.underlying22 (by first | rfl | assumption | (simp only [aX, aY, eh, k9, nm, seval] <;> rfl) | (simp only [aX, aY, fD, fU, fq, fu, tyf, mqt, k9, (aR nf), cb, ck, eJ, iX, sM, fy, dj, nr, nm, seval]; done)) (Nat.zero_lt_succ _) nr ?_
   simp only [vz, mq, mqm, vsi, tyf, mqt, k9, (aR nf), cb, ck, eJ, iX, sM, fy, dj, nr, nm, seval]
   exact ⟨List.length p5, Nat.lt_succ_self _, by rw [kz]; refine ⟨p5, bK + 1, (([] : List Int) ++ [k8.1]), k8.2, .ref (i9 + 10) 0 (List.length (([] : List Int) ++ [k8.1])) 1 (List.length (([] : List Int) ++ [k8.1])), rfl, Int.le_trans ej (Int.le_add_one (Int.le_refl _)), dh ej fv, rfl, (show nx + 6 ≤ i9 + 14 by omega), ?_, ?_, cb, ck, eJ, iX, ?_, ?_, Or.inl ⟨i9 + 10, (some 3), rfl, (by first | omega | (simp only [nm, seval]; done) | (simp only [nm, seval]; omega)), (by first | omega | (intro hh; simp only [k9, reduceCtorEq] at hh)), (by first | omega | (intro hh; simp only [k9, reduceCtorEq] at hh)), ?_⟩, (by first | exact h | (simp only [k9]; exact h))⟩ <;> first | (simp only [ua, bm, k9, cb, ck, eJ, iX, sM, fy, dj, nm, seval] <;> rfl) | rfl⟩
def qm (rc : GBk → (List Int) → Int → Int → (List (GBe × Int)) → Option ((Int) × List (GBe × Int))) (xb : GBk) (xp : List Int) (xs : Int) (xh : Int) (l0 : List (GBe × Int)) : Option ((Int) × List (GBe × Int)) := Option.bind (ou rc xb xp xs xh l0) (fun r1 => Option.bind (getI xb.Strokes xs) (fun x2 => Option.bind (np rc xb xp x2.Needs xh r1.2) (fun r3 => Option.bind (jf r3.1) (fun r4 => Option.bind (jf ([r1.1, r4])) (fun r5 => some (r5, r3.2))))))
theorem GS (rc : GBk → (List Int) → Int → Int → (List (GBe × Int)) → Option ((Int) × List (GBe × Int))) (rc_ok : ∀ (xb : GBk) (xp : List Int) (xs : Int) (xh : Int) (l0 : List (GBe × Int)) (R : (Int) × List (GBe × Int)), rc xb xp xs xh l0 = some R → VUpd Tryz.prog G0 118 (fun β => [.agg [.lit (.int .i64 xb.Apprentices), .sl (aa eI xb.Boards) (List.length xb.Boards) false, .sl (aa cGBs xb.Strokes) (List.length xb.Strokes) false, .sl (aa eI xp) (List.length xp) false, .mp β], .lit (.int .i64 xs), .lit (.int .i64 xh)]) (encM aL bO l0) (encM aL bO R.2) (fun _ => .lit (.int .i64 R.1))) (xb : GBk) (xp : List Int) (xs : Int) (xh : Int) (l0 : List (GBe × Int)) (R : (Int) × List (GBe × Int)) (h : qm rc xb xp xs xh l0 = some R) : VUpd Tryz.prog G0 107 (fun β => [.agg [.lit (.int .i64 xb.Apprentices), .sl (aa eI xb.Boards) (List.length xb.Boards) false, .sl (aa cGBs xb.Strokes) (List.length xb.Strokes) false, .sl (aa eI xp) (List.length xp) false, .mp β], .lit (.int .i64 xs), .lit (.int .i64 xh)]) (encM aL bO l0) (encM aL bO R.2) (fun _ => .lit (.int .i64 R.1)) := by
 intro aT nx hlt
 have aO := gm (β := aT) (nx := nx) hlt
 refine aq.run mixed Tryz.call107 Tryz.func107 rfl (by simp [Tryz.ntmps107]; kernel_rfl) ?_
 obtain ⟨KF, h, kF, kN⟩ := bU h
 simp only [qm] at h
 simp only [vz, mq, mqm, vsi, tyf, mqt, aO, nm, seval]
 refine oC (fun tm => tm 1 = .lit (.int .i64 xs) ∧ tm 2 = .lit (.int .i64 xh) ∧ tm 3 = .ptr nx 0 ∧ True) (by refine ⟨?_, ?_, ?_, trivial⟩ <;> first | (simp only [ua, bm, aO, nm, seval] <;> rfl) | rfl) ?_
 rintro tm ⟨e6, e7, e8, _⟩
 obtain ⟨r9, ez, h⟩ := optI h kN
 try simp only [hs] at h
 simp only [vz, mq, mqm, vsi, tyf, mqt, aO, e6, e7, e8, nm, seval]
 refine dkupd (VUpd.at (β := aT) (y := (fun _ => .lit (.int .i64 r9.1))) (Jl rc rc_ok _ _ _ _ _ _ ez) (by omega) (by first | rfl | assumption | (simp only [aX, aY, aO, nm, seval] <;> rfl)) (by first | rfl | (simp only [nrm, aG, @bZ, @d4] <;> rfl)) (dP (fun _ => rfl) _)) ?_
 refine dY (fun tm => tm 1 = .lit (.int .i64 xs) ∧ tm 2 = .lit (.int .i64 xh) ∧ tm 3 = .ptr nx 0 ∧ tm 10 = .lit (.int .i64 r9.1) ∧ True) (by refine ⟨e6, e7, e8, ?_, trivial⟩ <;> first | (simp only [ua, bm, aO, e6, e7, e8, nm, seval] <;> rfl) | rfl) ?_
 rintro tm ⟨bc, bl, br, b3, _⟩
 obtain ⟨Ov, eK, h⟩ := optI h kN
 try simp only [hs] at h
 obtain ⟨iZ, uf, h⟩ := optI h kN
 try simp only [hs] at h
 simp only [vz, mq, mqm, vsi, tyf, mqt, aO, bc, bl, br, b3, (aK eK), nm, seval]
 refine dkupd (VUpd.at (β := aT) (y := (fun _ => .sl (aa eI iZ.1) (List.length iZ.1) false)) (GP rc rc_ok _ _ _ _ _ _ uf) (by omega) (by first | rfl | assumption | (simp only [aX, aY, aO, nm, seval] <;> rfl)) (by first | rfl | (simp only [nrm, aG, @bZ, @d4] <;> rfl)) (dP (fun _ => rfl) _)) ?_
 refine dY (fun tm => tm 10 = .lit (.int .i64 r9.1) ∧ tm 20 = .sl (aa eI iZ.1) (List.length iZ.1) false ∧ True) (by refine ⟨b3, ?_, trivial⟩ <;> first | (simp only [ua, bm, aO, bc, bl, br, b3, nm, seval] <;> rfl) | rfl) ?_
 rintro tm ⟨bI, cR, _⟩
 obtain ⟨hO, nW, h⟩ := optI h kN
 try simp only [hs] at h
 simp only [vz, mq, mqm, vsi, tyf, mqt, aO, (aK eK), bI, cR, nm, seval]
 refine dktree (args0 := [.sl (aa eI iZ.1) (List.length iZ.1) false]) (by first | (simp only [nrm, aG, @bZ] <;> rfl) | rfl) (by simp only [tre, tytre, mqr, Bool.and_self]) (ov _ _ nW) ?_
 refine bx (fun tm => tm 10 = .lit (.int .i64 r9.1) ∧ tm 21 = .lit (.int .i64 hO) ∧ True) (by refine ⟨bI, ?_, trivial⟩ <;> first | (simp only [ua, bm, aO, bI, cR, nm, seval] <;> rfl) | rfl) ?_
 rintro tm ⟨bf, bu, _⟩
 obtain ⟨eL, kS, h⟩ := optI h kN
 try simp only [hs] at h
 simp only [vz, mq, mqm, vsi, tyf, mqt, aO, (aK eK), bf, bu, nm, seval]
 refine dkseen1 (w := 1) (enc := eI) (xs := ([r9.1, hO])) (el := (some 3)) ⟨eI_ok.tree, eI_ok.norm⟩ (fun _ => rfl) (by simp only [List.length_cons, List.length_nil]; decide) (by simp only [aX, aY, eh, aO, nm, seval] <;> rfl) (ov _ _ kS) (by first | rfl | simp only [VV.flat, flatL, Bool.and_self]) ?_
 refine bx (fun tm => tm 23 = .lit (.int .i64 eL) ∧ True) (by refine ⟨?_, trivial⟩ <;> first | (simp only [ua, bm, aO, bf, bu, nm, seval] <;> rfl) | rfl) ?_
 rintro tm ⟨aW, _⟩
 simp only [vz, mq, mqm, vsi, tyf, mqt, aO, (aK eK), aW, nm, seval]
 refine oD ⟨?_, ?_⟩
 ·simp only [gq, gu, cP, gv, and_true, true_and]
  repeat' (first | exact trivial | refine And.intro ?_ ?_ | rw [cP] | rw [gw] | exact Or.inl (by decide +kernel) | exact Or.inl (by dsimp only; decide +kernel) | (refine Or.inr ⟨?_, ?_⟩ <;> simp; done) | (refine Or.inr ⟨?_, ?_⟩ <;> simp <;> omega) | (refine Or.inr ⟨?_, ?_⟩ <;> simp [VEff.wr] <;> omega))
 try simp only [vz, mq, mqm, vsi, tyf, mqt, aO, (aK eK), aW, nm, seval]
 refine bR (x := (.lit (.int .i64 eL))) (by first | (simp only [Tryz.results107, resV, resL, resV1, bS, bT, uw, cr, tyf, mqt, aO, (aK eK), nm, seval] <;> rfl) | rfl) ?_
 obtain rfl := kF _ h
 refine ⟨(by first | rfl | assumption | (simp only [aX, aY, aO, nm, seval] <;> rfl)), ?_⟩
 exact sq_of (fQ (by simp only [tre, tytre, mqr, Bool.and_self]) rfl)
def qn (xb : GBk) (xp : List Int) (xs : Int) : Option (Int) := Option.bind (getI xb.Strokes xs) (fun x1 => some x1.Hours.Low)
theorem MF (xb : GBk) (xp : List Int) (xs : Int) (b : Nat) (R : Int) (h : qn xb xp xs = some R) : ah Tryz.prog G0 139 [.agg [.lit (.int .i64 xb.Apprentices), .sl (aa eI xb.Boards) (List.length xb.Boards) false, .sl (aa cGBs xb.Strokes) (List.length xb.Strokes) false, .sl (aa eI xp) (List.length xp) false, .lit (.map (some b))], .lit (.int .i64 xs)] (.tree (.lit (.int .i64 R))) := by
 refine ah.runR mixed Tryz.call139 Tryz.func139 rfl (by simp [Tryz.ntmps139]; kernel_rfl) ?_
 obtain ⟨KF, h, kF, kN⟩ := bU h
 simp only [qn] at h
 obtain ⟨x2, o3, h⟩ := optI h kN
 try simp only [hs] at h
 try simp only [vz, vsi, tyf, (aK o3), nm, seval]
 refine bR (x := (.lit (.int .i64 x2.Hours.Low))) (by first | (simp only [Tryz.results139, resV, resL, resV1, bS, bT, uw, cr, tyf, (aK o3), nm, seval] <;> rfl) | rfl) ?_
 obtain rfl := kF _ h
 refine eR ?_ ?_
 ·simp only [tre, tytre, Bool.and_self]
 ·first | (simp only [outV, uw, eC, cr, tyf, nrm, aG, (aK o3), nm, seval] <;> rfl) | rfl
def qo (xb : GBk) (xp : List Int) (xs : Int) : Option (Int) := Option.bind (getI xb.Strokes xs) (fun x1 => some x1.Hours.High)
theorem MG (xb : GBk) (xp : List Int) (xs : Int) (b : Nat) (R : Int) (h : qo xb xp xs = some R) : ah Tryz.prog G0 140 [.agg [.lit (.int .i64 xb.Apprentices), .sl (aa eI xb.Boards) (List.length xb.Boards) false, .sl (aa cGBs xb.Strokes) (List.length xb.Strokes) false, .sl (aa eI xp) (List.length xp) false, .lit (.map (some b))], .lit (.int .i64 xs)] (.tree (.lit (.int .i64 R))) := by
 refine ah.runR mixed Tryz.call140 Tryz.func140 rfl (by simp [Tryz.ntmps140]; kernel_rfl) ?_
 obtain ⟨KF, h, kF, kN⟩ := bU h
 simp only [qo] at h
 obtain ⟨x2, o3, h⟩ := optI h kN
 try simp only [hs] at h
 try simp only [vz, vsi, tyf, (aK o3), nm, seval]
 refine bR (x := (.lit (.int .i64 x2.Hours.High))) (by first | (simp only [Tryz.results140, resV, resL, resV1, bS, bT, uw, cr, tyf, (aK o3), nm, seval] <;> rfl) | rfl) ?_
 obtain rfl := kF _ h
 refine eR ?_ ?_
 ·simp only [tre, tytre, Bool.and_self]
 ·first | (simp only [outV, uw, eC, cr, tyf, nrm, aG, (aK o3), nm, seval] <;> rfl) | rfl
def qp (rc : GBk → (List Int) → Int → Int → (List (GBe × Int)) → Option ((Int) × List (GBe × Int))) (xb : GBk) (xp : List Int) (xs : Int) (xh : Int) (l0 : List (GBe × Int)) : Option ((Int) × List (GBe × Int)) := cond (mapHas bV l0 (GBe.mk xs xh)) (some (mapGet bV 0 l0 (GBe.mk xs xh), l0)) (Option.bind (qm rc xb xp xs xh l0) (fun r1 => cond (xh == 0) (Option.bind (qn xb xp xs) (fun r2 => some (i64.wrap (r1.1 + r2), mapSet bV r1.2 (GBe.mk xs xh) (i64.wrap (r1.1 + r2))))) (cond (xh == 1) (Option.bind (qo xb xp xs) (fun r2 => some (i64.wrap (r1.1 + r2), mapSet bV r1.2 (GBe.mk xs xh) (i64.wrap (r1.1 + r2))))) none)))
theorem MH (rc : GBk → (List Int) → Int → Int → (List (GBe × Int)) → Option ((Int) × List (GBe × Int))) (rc_ok : ∀ (xb : GBk) (xp : List Int) (xs : Int) (xh : Int) (l0 : List (GBe × Int)) (R : (Int) × List (GBe × Int)), rc xb xp xs xh l0 = some R → VUpd Tryz.prog G0 118 (fun β => [.agg [.lit (.int .i64 xb.Apprentices), .sl (aa eI xb.Boards) (List.length xb.Boards) false, .sl (aa cGBs xb.Strokes) (List.length xb.Strokes) false, .sl (aa eI xp) (List.length xp) false, .mp β], .lit (.int .i64 xs), .lit (.int .i64 xh)]) (encM aL bO l0) (encM aL bO R.2) (fun _ => .lit (.int .i64 R.1))) (xb : GBk) (xp : List Int) (xs : Int) (xh : Int) (l0 : List (GBe × Int)) (R : (Int) × List (GBe × Int)) (h : qp rc xb xp xs xh l0 = some R) : VUpd Tryz.prog G0 118 (fun β => [.agg [.lit (.int .i64 xb.Apprentices), .sl (aa eI xb.Boards) (List.length xb.Boards) false, .sl (aa cGBs xb.Strokes) (List.length xb.Strokes) false, .sl (aa eI xp) (List.length xp) false, .mp β], .lit (.int .i64 xs), .lit (.int .i64 xh)]) (encM aL bO l0) (encM aL bO R.2) (fun _ => .lit (.int .i64 R.1)) := by
 intro aT nx hlt
 have aO := gm (β := aT) (nx := nx) hlt
 refine aq.run mixed Tryz.call118 Tryz.func118 rfl (by simp [Tryz.ntmps118]; kernel_rfl) ?_
 obtain ⟨KF, h, kF, kN⟩ := bU h
 simp only [qp] at h
 have w2 := fun H => oo (β := aT) l0 (GBe.mk xs xh) H
 try simp only [bm] at w2
 cases d3 : (mapHas bV l0 (GBe.mk xs xh))
 ·simp only [d3, hs] at h
  obtain ⟨r4, o5, h⟩ := optI h kN
  try simp only [hs] at h
  have hk : (xh == 0) = true ∨ ((xh == 0) = false ∧ (xh == 1) = true) := by
   cases c0 : (xh == 0)
   ·cases c1 : (xh == 1)
    ·simp only [c0, c1, hs] at h
     exact absurd h kN
    exact .inr ⟨rfl, rfl⟩
   exact .inl rfl
  rcases hk with c0 | ⟨c0, c1⟩
  ·obtain rfl : xh = 0 := by simpa using c0
   simp only [c0, hs] at h
   simp only [vz, mq, mqm, vsi, tyf, mqt, aO, w2, d3, nm, seval]
   refine oC (fun tm => tm 1 = .lit (.int .i64 xs) ∧ tm 2 = .lit (.int .i64 0) ∧ tm 3 = .ptr nx 0 ∧ tm 7 = .ptr (nx + 5) 0 ∧ tm 10 = .ptr (nx + 19) 0 ∧ True) (by refine ⟨?_, ?_, ?_, ?_, ?_, trivial⟩ <;> first | (simp only [ua, bm, aO, w2, d3, nm, seval] <;> rfl) | rfl) ?_
   rintro tm ⟨e1, e2, e3, e4, aV, _⟩
   simp only [vz, mq, mqm, vsi, tyf, mqt, aO, w2, d3, e1, e2, e3, e4, aV, nm, seval]
   refine dkupd (VUpd.at (β := aT) (y := (fun _ => .lit (.int .i64 r4.1))) (GS rc rc_ok _ _ _ _ _ _ o5) (by omega) (by first | rfl | assumption | (simp only [aX, aY, aO, nm, seval] <;> rfl)) (by first | rfl | (simp only [nrm, aG, @bZ, @d4] <;> rfl)) (dP (fun _ => rfl) _)) ?_
   refine dY (fun tm => tm 1 = .lit (.int .i64 xs) ∧ tm 2 = .lit (.int .i64 0) ∧ tm 3 = .ptr nx 0 ∧ tm 7 = .ptr (nx + 5) 0 ∧ tm 10 = .ptr (nx + 19) 0 ∧ tm 27 = .lit (.int .i64 r4.1) ∧ True) (by refine ⟨e1, e2, e3, e4, aV, ?_, trivial⟩ <;> first | (simp only [ua, bm, aO, e1, e2, e3, e4, aV, nm, seval] <;> rfl) | rfl) ?_
   rintro tm ⟨e1, e2, e3, e4, aV, aW, _⟩
   obtain ⟨r8, o9, h⟩ := optI h kN
   try simp only [hs] at h
   simp only [vz, mq, mqm, vsi, tyf, mqt, aO, w2, d3, e1, e2, e3, e4, aV, aW, nm, seval]
   refine dkupd (VUpd.at (β := aT) (y := (fun _ => .lit (.int .i64 r8))) (VUpd.of_lit (A := fun β => [.agg [.lit (.int .i64 xb.Apprentices), .sl (aa eI xb.Boards) (List.length xb.Boards) false, .sl (aa cGBs xb.Strokes) (List.length xb.Strokes) false, .sl (aa eI xp) (List.length xp) false, .mp β], .lit (.int .i64 xs)]) (x := fun _ => .lit (.int .i64 r8)) (es := encM aL bO r4.2) (A0 := fun _ b => [.agg [.lit (.int .i64 xb.Apprentices), .sl (aa eI xb.Boards) (List.length xb.Boards) false, .sl (aa cGBs xb.Strokes) (List.length xb.Strokes) false, .sl (aa eI xp) (List.length xp) false, .lit (.map (some b))], .lit (.int .i64 xs)]) (fun β b => by simp only [List.map_cons, List.map_nil, vlt, if_true, nrm, aG, @bZ, tyf, mqt] <;> rfl) (fun β b => by simp only [List.map_cons, List.map_nil, vlt, if_true, tre, tytre, tyf, mqt, Bool.and_self]) (fun β b => rfl) (fun β b => MF xb xp xs b r8 o9) (fun _ _ _ _ _ => fQ (by simp only [tre, tytre, mqr, Bool.and_self]) rfl)) (by omega) (by first | rfl | assumption | (simp only [aX, aY, aO, nm, seval] <;> rfl)) (by first | rfl | (simp only [nrm, aG, @bZ, @d4] <;> rfl)) (dP (fun _ => rfl) _)) ?_
   refine dY (fun tm => tm 1 = .lit (.int .i64 xs) ∧ tm 2 = .lit (.int .i64 0) ∧ tm 3 = .ptr nx 0 ∧ tm 7 = .ptr (nx + 5) 0 ∧ tm 27 = .lit (.int .i64 r4.1) ∧ tm 33 = .lit (.int .i64 r8) ∧ True) (by refine ⟨e1, e2, e3, e4, aW, ?_, trivial⟩ <;> first | (simp only [ua, bm, aO, e1, e2, e3, e4, aV, aW, nm, seval] <;> rfl) | rfl) ?_
   rintro tm ⟨e1, e2, e3, e4, aW, dZ, _⟩
   simp only [vz, mq, mqm, vsi, tyf, mqt, aO, w2, d3, e1, e2, e3, e4, aW, dZ, nm, seval]
   refine oD ⟨?_, ?_⟩
   ·simp only [gq, gu, cP, gv, and_true, true_and]
    repeat' (first | exact trivial | refine And.intro ?_ ?_ | rw [cP] | rw [gw] | exact Or.inl (by decide +kernel) | exact Or.inl (by dsimp only; decide +kernel) | (refine Or.inr ⟨?_, ?_⟩ <;> simp; done) | (refine Or.inr ⟨?_, ?_⟩ <;> simp <;> omega) | (refine Or.inr ⟨?_, ?_⟩ <;> simp [VEff.wr] <;> omega) | (refine Or.inr ⟨?_, ?_⟩ <;> simp [rdV, rdO, topName, Op.operands, lV, lW, yX, sC, VEff.wr] <;> omega))
   have w9 := fun H => oq (β := aT) r4.2 (GBe.mk xs 0) (i64.wrap (r4.1 + r8)) H
   try simp only [bm] at w9
   try simp only [vz, mq, mqm, vsi, tyf, mqt, aO, d3, e1, e2, e3, e4, aW, dZ, w9, nm, seval]
   refine bR (x := (.lit (.int .i64 (i64.wrap (r4.1 + r8))))) (by first | (simp only [Tryz.results118, resV, resL, resV1, bS, bT, uw, cr, tyf, mqt, aO, d3, w9, nm, seval] <;> rfl) | rfl) ?_
   obtain rfl := kF _ h
   refine ⟨(by first | rfl | assumption | (simp only [aX, aY, aO, nm, seval] <;> rfl)), ?_⟩
   exact sq_of (fQ (by simp only [tre, tytre, mqr, Bool.and_self]) rfl)
  obtain rfl : xh = 1 := by simpa using c1
  simp only [c0, c1, hs] at h
  simp only [vz, mq, mqm, vsi, tyf, mqt, aO, w2, d3, nm, seval]
  refine oC (fun tm => tm 1 = .lit (.int .i64 xs) ∧ tm 2 = .lit (.int .i64 1) ∧ tm 3 = .ptr nx 0 ∧ tm 7 = .ptr (nx + 5) 0 ∧ tm 10 = .ptr (nx + 19) 0 ∧ True) (by refine ⟨?_, ?_, ?_, ?_, ?_, trivial⟩ <;> first | (simp only [ua, bm, aO, w2, d3, nm, seval] <;> rfl) | rfl) ?_
  rintro tm ⟨e1, e2, e3, e4, aV, _⟩
  simp only [vz, mq, mqm, vsi, tyf, mqt, aO, w2, d3, e1, e2, e3, e4, aV, nm, seval]
  refine dkupd (VUpd.at (β := aT) (y := (fun _ => .lit (.int .i64 r4.1))) (GS rc rc_ok _ _ _ _ _ _ o5) (by omega) (by first | rfl | assumption | (simp only [aX, aY, aO, nm, seval] <;> rfl)) (by first | rfl | (simp only [nrm, aG, @bZ, @d4] <;> rfl)) (dP (fun _ => rfl) _)) ?_
  refine dY (fun tm => tm 1 = .lit (.int .i64 xs) ∧ tm 2 = .lit (.int .i64 1) ∧ tm 3 = .ptr nx 0 ∧ tm 7 = .ptr (nx + 5) 0 ∧ tm 10 = .ptr (nx + 19) 0 ∧ tm 27 = .lit (.int .i64 r4.1) ∧ True) (by refine ⟨e1, e2, e3, e4, aV, ?_, trivial⟩ <;> first | (simp only [ua, bm, aO, e1, e2, e3, e4, aV, nm, seval] <;> rfl) | rfl) ?_
  rintro tm ⟨e1, e2, e3, e4, aV, aW, _⟩
  obtain ⟨r8, o9, h⟩ := optI h kN
  try simp only [hs] at h
  simp only [vz, mq, mqm, vsi, tyf, mqt, aO, w2, d3, e1, e2, e3, e4, aV, aW, nm, seval]
  refine dkupd (VUpd.at (β := aT) (y := (fun _ => .lit (.int .i64 r8))) (VUpd.of_lit (A := fun β => [.agg [.lit (.int .i64 xb.Apprentices), .sl (aa eI xb.Boards) (List.length xb.Boards) false, .sl (aa cGBs xb.Strokes) (List.length xb.Strokes) false, .sl (aa eI xp) (List.length xp) false, .mp β], .lit (.int .i64 xs)]) (x := fun _ => .lit (.int .i64 r8)) (es := encM aL bO r4.2) (A0 := fun _ b => [.agg [.lit (.int .i64 xb.Apprentices), .sl (aa eI xb.Boards) (List.length xb.Boards) false, .sl (aa cGBs xb.Strokes) (List.length xb.Strokes) false, .sl (aa eI xp) (List.length xp) false, .lit (.map (some b))], .lit (.int .i64 xs)]) (fun β b => by simp only [List.map_cons, List.map_nil, vlt, if_true, nrm, aG, @bZ, tyf, mqt] <;> rfl) (fun β b => by simp only [List.map_cons, List.map_nil, vlt, if_true, tre, tytre, tyf, mqt, Bool.and_self]) (fun β b => rfl) (fun β b => MG xb xp xs b r8 o9) (fun _ _ _ _ _ => fQ (by simp only [tre, tytre, mqr, Bool.and_self]) rfl)) (by omega) (by first | rfl | assumption | (simp only [aX, aY, aO, nm, seval] <;> rfl)) (by first | rfl | (simp only [nrm, aG, @bZ, @d4] <;> rfl)) (dP (fun _ => rfl) _)) ?_
  refine dY (fun tm => tm 1 = .lit (.int .i64 xs) ∧ tm 2 = .lit (.int .i64 1) ∧ tm 3 = .ptr nx 0 ∧ tm 7 = .ptr (nx + 5) 0 ∧ tm 27 = .lit (.int .i64 r4.1) ∧ tm 33 = .lit (.int .i64 r8) ∧ True) (by refine ⟨e1, e2, e3, e4, aW, ?_, trivial⟩ <;> first | (simp only [ua, bm, aO, e1, e2, e3, e4, aV, aW, nm, seval] <;> rfl) | rfl) ?_
  rintro tm ⟨e1, e2, e3, e4, aW, dZ, _⟩
  simp only [vz, mq, mqm, vsi, tyf, mqt, aO, w2, d3, e1, e2, e3, e4, aW, dZ, nm, seval]
  refine oD ⟨?_, ?_⟩
  ·simp only [gq, gu, cP, gv, and_true, true_and]
   repeat' (first | exact trivial | refine And.intro ?_ ?_ | rw [cP] | rw [gw] | exact Or.inl (by decide +kernel) | exact Or.inl (by dsimp only; decide +kernel) | (refine Or.inr ⟨?_, ?_⟩ <;> simp; done) | (refine Or.inr ⟨?_, ?_⟩ <;> simp <;> omega) | (refine Or.inr ⟨?_, ?_⟩ <;> simp [VEff.wr] <;> omega) | (refine Or.inr ⟨?_, ?_⟩ <;> simp [rdV, rdO, topName, Op.operands, lV, lW, yX, sC, VEff.wr] <;> omega))
  have w9 := fun H => oq (β := aT) r4.2 (GBe.mk xs 1) (i64.wrap (r4.1 + r8)) H
  try simp only [bm] at w9
  try simp only [vz, mq, mqm, vsi, tyf, mqt, aO, d3, e1, e2, e3, e4, aW, dZ, w9, nm, seval]
  refine bR (x := (.lit (.int .i64 (i64.wrap (r4.1 + r8))))) (by first | (simp only [Tryz.results118, resV, resL, resV1, bS, bT, uw, cr, tyf, mqt, aO, d3, w9, nm, seval] <;> rfl) | rfl) ?_
  obtain rfl := kF _ h
  refine ⟨(by first | rfl | assumption | (simp only [aX, aY, aO, nm, seval] <;> rfl)), ?_⟩
  exact sq_of (fQ (by simp only [tre, tytre, mqr, Bool.and_self]) rfl)
 simp only [d3, hs] at h
 try simp only [vz, mq, mqm, vsi, tyf, mqt, aO, w2, d3, nm, seval]
 refine bR (x := (.lit (.int .i64 (mapGet bV 0 l0 (GBe.mk xs xh))))) (by first | (simp only [Tryz.results118, resV, resL, resV1, bS, bT, uw, cr, tyf, mqt, aO, w2, d3, nm, seval] <;> rfl) | rfl) ?_
 obtain rfl := kF _ h
 refine ⟨(by first | rfl | assumption | (simp only [aX, aY, aO, nm, seval] <;> rfl)), ?_⟩
 exact sq_of (fQ (by simp only [tre, tytre, mqr, Bool.and_self]) rfl)
def gEnd : Nat → GBk → (List Int) → Int → Int → (List (GBe × Int)) → Option ((Int) × List (GBe × Int))
 | 0 => fun _ _ _ _ _ => none
 | n + 1 => qp (gEnd n)
theorem BC : ∀ (n : Nat) (xb : GBk) (xp : List Int) (xs : Int) (xh : Int) (l0 : List (GBe × Int)) (R : (Int) × List (GBe × Int)), gEnd n xb xp xs xh l0 = some R → VUpd Tryz.prog G0 118 (fun β => [.agg [.lit (.int .i64 xb.Apprentices), .sl (aa eI xb.Boards) (List.length xb.Boards) false, .sl (aa cGBs xb.Strokes) (List.length xb.Strokes) false, .sl (aa eI xp) (List.length xp) false, .mp β], .lit (.int .i64 xs), .lit (.int .i64 xh)]) (encM aL bO l0) (encM aL bO R.2) (fun _ => .lit (.int .i64 R.1))
 | 0, _, _, _, _, _, _, h => by cases h
 | n + 1, xb, xp, xs, xh, l0, R, h => MH (gEnd n) (BC n) xb xp xs xh l0 R h
def BD (xb : GBk) (xp : List Int) (xs : Int) (xh : Int) (l0 : List (GBe × Int)) : Option ((Int) × List (GBe × Int)) := gEnd 8 xb xp xs xh l0
theorem MI (xb : GBk) (xp : List Int) (xs : Int) (xh : Int) (l0 : List (GBe × Int)) (R : (Int) × List (GBe × Int)) (h : BD xb xp xs xh l0 = some R) : VUpd Tryz.prog G0 118 (fun β => [.agg [.lit (.int .i64 xb.Apprentices), .sl (aa eI xb.Boards) (List.length xb.Boards) false, .sl (aa cGBs xb.Strokes) (List.length xb.Strokes) false, .sl (aa eI xp) (List.length xp) false, .mp β], .lit (.int .i64 xs), .lit (.int .i64 xh)]) (encM aL bO l0) (encM aL bO R.2) (fun _ => .lit (.int .i64 R.1)) := BC 8 xb xp xs xh l0 R h
def sN (xb : GBk) (xp : List Int) (xss : List Int) (xh : Int) (l0 : List (GBe × Int)) : Option ((List Int) × List (GBe × Int)) := np (gEnd 8) xb xp xss xh l0
theorem GU (xb : GBk) (xp : List Int) (xss : List Int) (xh : Int) (l0 : List (GBe × Int)) (R : (List Int) × List (GBe × Int)) (h : sN xb xp xss xh l0 = some R) : VUpd Tryz.prog G0 106 (fun β => [.agg [.lit (.int .i64 xb.Apprentices), .sl (aa eI xb.Boards) (List.length xb.Boards) false, .sl (aa cGBs xb.Strokes) (List.length xb.Strokes) false, .sl (aa eI xp) (List.length xp) false, .mp β], .sl (aa eI xss) (List.length xss) false, .lit (.int .i64 xh)]) (encM aL bO l0) (encM aL bO R.2) (fun _ => .sl (aa eI R.1) (List.length R.1) false) := GP (gEnd 8) (BC 8) xb xp xss xh l0 R h
end Go.V
end
section
namespace Go.V
open Go Go.Proofs IntKind
section
variable {K V : Type} {q : K → K → Bool} {z : V}
def setR (q : K → K → Bool) (k : K) (v : V) : List (K × V) → List (K × V)
 | [] => [(k, v)]
 | e :: l => if q k e.1 then (k, v) :: l else e :: setR q k v l
theorem qq (k : K) : ∀ (es : List K) (i : Nat), kIdx q k es (i + 1) = (kIdx q k es i).map (· + 1)
 | [], _ => rfl
 | e :: es, i => by
  unfold kIdx
  cases q k e with
  | true => rfl
  | false => exact qq k es (i + 1)
theorem GV (k : K) (v : V) : ∀ l : List (K × V), mapSet q l k v = setR q k v l
 | [] => rfl
 | e :: l => by
  have ih := GV k v l
  unfold mapSet at ih ⊢
  rw [List.map_cons]
  unfold kIdx setR
  cases hq : q k e.1 with
  | true => rfl
  | false =>
   simp only [cond_false, Bool.false_eq_true, if_false]
   rw [qq]
   cases h : kIdx q k (l.map (·.1)) 0 with
   | none => rw [h] at ih; simpa using ih
   | some i => rw [h] at ih; simpa using ih
end
end Go.V
end
section
namespace Go.V
open Go Go.Proofs IntKind
def oX (xb : GBk) (xp : List Int) (xss : List Int) (l0 : List (GBe × Int)) : Option ((GSpan) × List (GBe × Int)) := Option.bind (sN xb xp xss 0 l0) (fun r1 => Option.bind (jf r1.1) (fun r2 => Option.bind (sN xb xp xss 1 r1.2) (fun r3 => Option.bind (jf r3.1) (fun r4 => some ((GSpan.mk r2 r4), r3.2)))))
theorem FL (xb : GBk) (xp : List Int) (xss : List Int) (l0 : List (GBe × Int)) (R : (GSpan) × List (GBe × Int)) (h : oX xb xp xss l0 = some R) : VUpd Tryz.prog G0 70 (fun β => [.agg [.lit (.int .i64 xb.Apprentices), .sl (aa eI xb.Boards) (List.length xb.Boards) false, .sl (aa cGBs xb.Strokes) (List.length xb.Strokes) false, .sl (aa eI xp) (List.length xp) false, .mp β], .sl (aa eI xss) (List.length xss) false]) (encM aL bO l0) (encM aL bO R.2) (fun _ => .agg (cGSpan R.1)) := by
 intro aT nx hlt
 have aO := gm (β := aT) (nx := nx) hlt
 refine aq.run mixed Tryz.call70 Tryz.func70 rfl (by simp [Tryz.ntmps70]; kernel_rfl) ?_
 obtain ⟨KF, h, kF, kN⟩ := bU h
 simp only [oX] at h
 simp only [vz, mq, mqm, vsi, tyf, mqt, aO, nm, seval]
 refine oC (fun tm => tm 1 = .sl (aa eI xss) (List.length xss) false ∧ tm 2 = .ptr nx 0 ∧ tm 4 = .ptr (nx + 1) 0 ∧ True) (by refine ⟨?_, ?_, ?_, trivial⟩ <;> first | (simp only [ua, bm, aO, nm, seval] <;> rfl) | rfl) ?_
 rintro tm ⟨e5, e6, e7, _⟩
 obtain ⟨r8, o9, h⟩ := optI h kN
 try simp only [hs] at h
 simp only [vz, mq, mqm, vsi, tyf, mqt, aO, e5, e6, e7, nm, seval]
 refine dkupd (VUpd.at (β := aT) (y := (fun _ => .sl (aa eI r8.1) (List.length r8.1) false)) (GU _ _ _ _ _ _ o9) (by omega) (by first | rfl | assumption | (simp only [aX, aY, aO, nm, seval] <;> rfl)) (by first | rfl | (simp only [nrm, aG, @bZ, @d4] <;> rfl)) (dP (fun _ => rfl) _)) ?_
 refine dY (fun tm => tm 1 = .sl (aa eI xss) (List.length xss) false ∧ tm 2 = .ptr nx 0 ∧ tm 4 = .ptr (nx + 1) 0 ∧ tm 7 = .sl (aa eI r8.1) (List.length r8.1) false ∧ True) (by refine ⟨e5, e6, e7, ?_, trivial⟩ <;> first | (simp only [ua, bm, aO, e5, e6, e7, nm, seval] <;> rfl) | rfl) ?_
 rintro tm ⟨aV, bc, bl, br, _⟩
 obtain ⟨nt, mj, h⟩ := optI h kN
 try simp only [hs] at h
 simp only [vz, mq, mqm, vsi, tyf, mqt, aO, aV, bc, bl, br, nm, seval]
 refine dktree (args0 := [.sl (aa eI r8.1) (List.length r8.1) false]) (by first | (simp only [nrm, aG, @bZ] <;> rfl) | rfl) (by simp only [tre, tytre, mqr, Bool.and_self]) (ov _ _ mj) ?_
 refine bx (fun tm => tm 1 = .sl (aa eI xss) (List.length xss) false ∧ tm 2 = .ptr nx 0 ∧ tm 4 = .ptr (nx + 1) 0 ∧ tm 8 = .lit (.int .i64 nt) ∧ True) (by refine ⟨aV, bc, bl, ?_, trivial⟩ <;> first | (simp only [ua, bm, aO, aV, bc, bl, br, nm, seval] <;> rfl) | rfl) ?_
 rintro tm ⟨bn, bh, bp, bI, _⟩
 obtain ⟨gM, eO, h⟩ := optI h kN
 try simp only [hs] at h
 simp only [vz, mq, mqm, vsi, tyf, mqt, aO, bn, bh, bp, bI, nm, seval]
 refine dkupd (VUpd.at (β := aT) (y := (fun _ => .sl (aa eI gM.1) (List.length gM.1) false)) (GU _ _ _ _ _ _ eO) (by omega) (by first | rfl | assumption | (simp only [aX, aY, aO, nm, seval] <;> rfl)) (by first | rfl | (simp only [nrm, aG, @bZ, @d4] <;> rfl)) (dP (fun _ => rfl) _)) ?_
 refine dY (fun tm => tm 4 = .ptr (nx + 1) 0 ∧ tm 8 = .lit (.int .i64 nt) ∧ tm 11 = .sl (aa eI gM.1) (List.length gM.1) false ∧ True) (by refine ⟨bp, bI, ?_, trivial⟩ <;> first | (simp only [ua, bm, aO, bn, bh, bp, bI, nm, seval] <;> rfl) | rfl) ?_
 rintro tm ⟨b4, bf, bu, _⟩
 obtain ⟨eL, kS, h⟩ := optI h kN
 try simp only [hs] at h
 simp only [vz, mq, mqm, vsi, tyf, mqt, aO, b4, bf, bu, nm, seval]
 refine dktree (args0 := [.sl (aa eI gM.1) (List.length gM.1) false]) (by first | (simp only [nrm, aG, @bZ] <;> rfl) | rfl) (by simp only [tre, tytre, mqr, Bool.and_self]) (ov _ _ kS) ?_
 refine bx (fun tm => tm 4 = .ptr (nx + 1) 0 ∧ tm 8 = .lit (.int .i64 nt) ∧ tm 12 = .lit (.int .i64 eL) ∧ True) (by refine ⟨b4, bf, ?_, trivial⟩ <;> first | (simp only [ua, bm, aO, b4, bf, bu, nm, seval] <;> rfl) | rfl) ?_
 rintro tm ⟨aW, bQ, bA, _⟩
 simp only [vz, mq, mqm, vsi, tyf, mqt, aO, aW, bQ, bA, nm, seval]
 refine oD ⟨?_, ?_⟩
 ·simp only [gq, gu, cP, gv, and_true, true_and]
  repeat' (first | exact trivial | refine And.intro ?_ ?_ | rw [cP] | rw [gw] | exact Or.inl (by decide +kernel) | exact Or.inl (by dsimp only; decide +kernel) | (refine Or.inr ⟨?_, ?_⟩ <;> simp; done) | (refine Or.inr ⟨?_, ?_⟩ <;> simp <;> omega) | (refine Or.inr ⟨?_, ?_⟩ <;> simp [VEff.wr] <;> omega))
 try simp only [vz, mq, mqm, vsi, tyf, mqt, aO, aW, bQ, bA, nm, seval]
 refine bR (x := (.agg ([.lit (.int .i64 nt)] ++ [.lit (.int .i64 eL)]))) (by first | (simp only [Tryz.results70, resV, resL, resV1, bS, bT, uw, cr, tyf, mqt, aO, aW, bQ, bA, nm, seval] <;> rfl) | rfl) ?_
 obtain rfl := kF _ h
 refine ⟨(by first | rfl | assumption | (simp only [aX, aY, aO, nm, seval] <;> rfl)), ?_⟩
 exact sq_of (fQ (by first | (simp only [tre, tytre, mqr, Bool.and_self]; done) | rfl) rfl)
theorem Frozen.agg3 {H : Nat → Option VObj} {γ n w cp : Nat} {el : Option TypeId} {cs : List VV} {x y : VV} (hx : x.tree = true) (hy : y.tree = true) (hγ : H γ = some (.cells el cs)) (ht : treeL cs = true) (hl : cs.length = n * w) :
  Frozen H (without H γ) (.agg [x, y, .ref γ 0 n w cp]) (.agg [x, y, .sl cs n false]) := by
 refine .inr (.inr ⟨cs.length + 6, ?_⟩)
 have hg : gone H (without H γ) γ = some (.cells el cs) := by simp [gone, without, hγ]
 have h0 : (VV.agg [x, y, .ref γ 0 n w cp]).tree = false := by simp [VV.tree, treeL]
 have h1 : sealV (gone H (without H γ)) (cs.length + 2) (.ref γ 0 n w cp) = some (.sl cs n false) := by
  unfold sealV
  have : (VV.ref γ 0 n w cp).tree = false := rfl
  rw [this]
  simp only [Bool.false_eq_true, if_false, hg, Nat.zero_le, if_true, List.drop_zero]
  rw [List.take_of_length_le (by omega), mZ cs _ ht (by omega)]
  rfl
 unfold sealV
 rw [h0]
 simp only [Bool.false_eq_true, if_false]
 show (sealL _ (cs.length + 4 + 1) _).map _ = _
 unfold sealL
 rw [show cs.length + 4 = (cs.length + 3) + 1 from rfl, G1 hx]
 unfold sealL
 rw [show cs.length + 3 = (cs.length + 2) + 1 from rfl, G1 hy]
 unfold sealL
 rw [h1]
 rfl
theorem kupdF {P : Program} {G : Glob} {H : Nat → Option VObj} {f : FuncId} {args args' cs : List VV} {el : Option TypeId} {y : VV} {d : Option Tmp} {γ β g : Nat} {tm : Nat → VV} {nx : Nat} {df : List VDef} {K : St → Prop} {Qp : VV → St → Prop} {es' : List (Value × VV)} (hγ : H g = some (.cells el cs)) (ha : FrozenL H (without H g) args args')
  (hu : UpdC P G f args' (without H g) nx β es' y) (h : fin d γ tm (without H g) nx df K y (.upd β (.map es'))) : callK P G f args ⟨tm, H, nx, df⟩ d γ K Qp := by
 refine .inr (.inr ?_)
 unfold openK
 refine aq.mono (aq.freeze1 hγ ha hu.open) ?_ (fun _ _ _ h => h.elim)
 rintro v H2 Mp ⟨rfl, rfl, rfl⟩
 rw [← cE (K := K)] at h
 cases d <;> exact h


def ml (xb : GBk) (xp : List Int) : List GBs → Int → Int → (List (GBe × Int)) → Option (LOut ((Int) × List (GBe × Int)) (Int × (List (GBe × Int))))
 | [], mm, cm, b5 => some (.go (cm, b5))
 | e0 :: p0, mm, cm, b5 => Option.bind (BD xb xp mm 1 b5) (fun r3 => Option.bind (jf ([cm, r3.1])) (fun r4 => ml xb xp p0 (mm + 1) r4 r3.2))
def lD (xb : GBk) (xp : List Int) (l0 : List (GBe × Int)) : Option ((Int) × List (GBe × Int)) := cond (lenOk xb.Strokes) (lbind (ml xb xp xb.Strokes 0 0 l0) (fun r6 => some r6) (fun c5 => some (c5.1, c5.2)) (fun _ _ => none)) none
theorem sq (xb : GBk) (xp : List Int) (l0 : List (GBe × Int)) (R : (Int) × List (GBe × Int)) (h : lD xb xp l0 = some R) : VUpd Tryz.prog G0 87 (fun β => [.agg [.lit (.int .i64 xb.Apprentices), .sl (aa eI xb.Boards) (List.length xb.Boards) false, .sl (aa cGBs xb.Strokes) (List.length xb.Strokes) false, .sl (aa eI xp) (List.length xp) false, .mp β]]) (encM aL bO l0) (encM aL bO R.2) (fun _ => .lit (.int .i64 R.1)) := by
 intro aT nx hlt
 have aO := gm (β := aT) (nx := nx) hlt
 refine aq.run mixed Tryz.call87 Tryz.func87 rfl (by simp [Tryz.ntmps87]; kernel_rfl) ?_
 obtain ⟨KF, h, kF, kN⟩ := bU h
 simp only [lD] at h
 cases g8 : (lenOk xb.Strokes)
 ·simp only [g8, hs] at h
  exact absurd h kN
 simp only [g8, hs] at h
 simp only [vz, mq, mqm, vsi, tyf, mqt, aO, g8, nm, seval]
 obtain ⟨K7, h, Ow, MJ, Ox, GW⟩ := fh h kN
 obtain ⟨f7, MK, h⟩ := call4 h
 obtain ⟨I7, BE⟩ : ∃ I : Nat → St → Prop, I = (fun m st => ∃ (p7 : List GBs) (dJ : Int) (fI : Int) (iA : List (GBe × Int)), m = List.length p7 ∧ 0 ≤ dJ ∧ List.drop (Int.toNat dJ) xb.Strokes = p7 ∧ st.df = [] ∧ nx + 8 ≤ st.nx ∧ st.H aT = some (.map (encM aL bO iA)) ∧ st.H nx = some (.cells (some 92) ((cGBk xb) ++ [.sl (aa eI xp) (List.length xp) false] ++ [.mp aT])) ∧ st.tm 1 = .ptr nx 0 ∧ st.tm 8 = .lit (.int .i64 (List.length xb.Strokes : Int)) ∧ st.tm 3 = .lit (.int .i64 fI) ∧ st.tm 9 = .lit (.int .i64 dJ) ∧ K7 (f7 p7 dJ fI iA)) := ⟨_, rfl⟩
 refine loopK mixed (by kernel_rfl) I7 (List.length xb.Strokes) (by rw [BE]; refine ⟨xb.Strokes, 0, 0, l0, rfl, Int.le_refl _, rfl, rfl, (show nx + 8 ≤ nx + 8 by omega), ?_, ?_, ?_, ?_, ?_, ?_, h⟩ <;> first | (simp only [ua, bm, aO, nm, seval] <;> rfl) | rfl) ?_
 rintro m ⟨tm, H, BF, df⟩ hinv
 rw [BE] at hinv
 obtain ⟨p7, dJ, fI, iA, rfl, nu, qs, hdf, ML, H9, kA, bc, bl, br, b3, h⟩ := hinv
 simp only at hdf ML H9 kA bc bl br b3
 have cu := nZ (a := nx) (m := 8) (b := BF) (by omega)
 have db := gm (β := aT) (nx := BF) (by omega)
 subst hdf MK
 cases p7 with
 | nil =>
  have bM : (decide (dJ < (List.length xb.Strokes : Int))) = false := fj nu qs
  simp only [ml, hs, reduceCtorEq] at h
  replace h := MJ _ h
  try dsimp only at h
  try simp only [hs] at h
  try simp only [vz, mq, mqm, vsi, tyf, mqt, aO, g8, cu, db, bc, bl, br, b3, H9, kA, bM, nm, seval]
  refine bR (x := (.lit (.int .i64 fI))) (by first | (simp only [Tryz.results87, resV, resL, resV1, bS, bT, uw, cr, tyf, mqt, aO, g8, cu, db, H9, kA, bM, nm, seval] <;> rfl) | rfl) ?_
  obtain rfl := kF _ h
  refine ⟨(by first | rfl | assumption | (simp only [aX, aY, aO, cu, db, H9, kA, nm, seval] <;> rfl)), ?_⟩
  exact sq_of (fQ (by first | (simp only [tre, tytre, mqr, Bool.and_self]; done) | rfl) rfl)
 | cons e7 p7 =>
  have jC : (decide (dJ < (List.length xb.Strokes : Int))) = true := fk nu qs
  have qt := dg nu qs
  have BG := fm nu qs g8
  simp only [ml, hs, reduceCtorEq] at h
  obtain ⟨hO, nW, h⟩ := optI h GW
  try simp only [hs] at h
  simp only [vz, mq, mqm, vsi, tyf, mqt, aO, g8, cu, db, bc, bl, br, b3, H9, kA, jC, (aK qt), BG, nm, seval]
  refine kupd (VUpd.at (β := aT) (y := (fun _ => .lit (.int .i64 hO.1))) (MI _ _ _ _ _ _ nW) (by omega) (by first | rfl | assumption | (simp only [aX, aY, aO, cu, db, H9, kA, nm, seval] <;> rfl)) (by first | rfl | (simp only [nrm, aG, @bZ, @d4] <;> rfl)) (dP (fun _ => rfl) _)) ?_
  refine dY (fun tm => tm 1 = .ptr nx 0 ∧ tm 8 = .lit (.int .i64 (List.length xb.Strokes : Int)) ∧ tm 9 = .lit (.int .i64 dJ) ∧ tm 12 = .lit (.int .i64 fI) ∧ tm 15 = .lit (.int .i64 hO.1) ∧ True) (by refine ⟨bc, bl, b3, ?_, ?_, trivial⟩ <;> first | (simp only [ua, bm, aO, cu, db, bc, bl, br, b3, H9, kA, jC, BG, nm, seval] <;> rfl) | rfl) ?_
  rintro tm ⟨bf, bu, bB, bY, aW, _⟩
  have eP := And.intro aO (And.intro g8 (And.intro cu (And.intro db (And.intro H9 (And.intro kA (And.intro jC BG))))))
  obtain ⟨GX, od, h⟩ := optI h GW
  try simp only [hs] at h
  simp only [vz, mq, mqm, vsi, tyf, mqt, eP, (aK qt), bf, bu, bB, bY, aW, nm, seval]
  refine kseen (args0 := [.sl (aa eI ([fI, hO.1])) (List.length ([fI, hO.1])) false]) (by simp only [List.map_cons, List.map_nil, eC, aX, aY, cr, tyf, mqt, nrm, aG, eP, (aK qt), bf, bu, bB, bY, aW, nm, seval] <;> rfl) (by simp only [List.map_cons, List.map_nil, eC, aX, aY, cr, tyf, mqt, nrm, aG, eP, (aK qt), bf, bu, bB, bY, aW, nm, seval]; simp only [tre, tytre, mqr, Bool.and_self]) (ov _ _ od) (by first | rfl | simp only [VV.flat, flatL, Bool.and_self]) ?_
  refine bx (fun tm => tm 1 = .ptr nx 0 ∧ tm 8 = .lit (.int .i64 (List.length xb.Strokes : Int)) ∧ tm 9 = .lit (.int .i64 dJ) ∧ tm 17 = .lit (.int .i64 GX) ∧ True) (by refine ⟨bf, bu, bB, ?_, trivial⟩ <;> first | (simp only [ua, bm, eP, bf, bu, bB, bY, aW, nm, seval] <;> rfl) | rfl) ?_
  rintro tm ⟨ca, dW, dZ, fM, _⟩
  simp only [vz, mq, mqm, vsi, tyf, mqt, eP, (aK qt), ca, dW, dZ, fM, nm, seval]
  exact ⟨List.length p7, Nat.lt_succ_self _, by rw [BE]; refine ⟨p7, dJ + 1, GX, hO.2, rfl, Int.le_trans nu (Int.le_add_one (Int.le_refl _)), dh nu qs, rfl, (show nx + 8 ≤ BF + 12 by omega), ?_, ?_, ca, dW, ?_, ?_, (by first | exact h | (simp only [eP]; exact h))⟩ <;> first | (simp only [ua, bm, eP, ca, dW, dZ, fM, nm, seval] <;> rfl) | rfl⟩
end Go.V
end
section
namespace Go.V
open Go Go.Proofs IntKind
theorem Len.of {b : GBk} (h : lenOk b.Boards = true ∧ lenOk b.Strokes = true ∧ ∀ y ∈ b.Strokes, lenOk y.Needs = true) : Len b := ⟨BI h.1, BI h.2.1, fun s hs => BI (h.2.2 s hs)⟩
theorem GY : ∀ (p : List GBs) (c : Int), kT p c = some (.go ()) ∨ kT p c = some (.ret false)
 | [], c => .inl rfl
 | s :: p, c => by
  simp only [kT]
  cases decide (c < 9) with
  | false => exact .inl rfl
  | true =>
   cases decide ((s.Needs.length : Int) > 8) with
   | true => exact .inr rfl
   | false => exact GY p (c + 1)
theorem Jx {b : GBk} (h : Len b) : mF b = some false ∨ (mF b = some true ∧ BOk b) := by
 unfold mF rK
 rw [fO h.st, cond_true, ET h]
 rcases GY b.Strokes 0 with e | e
 ·rw [e]
  simp only [lbind]
  cases h1 : (decide ((b.Boards.length : Int) ≤ 5)) with
  | false => exact .inl rfl
  | true =>
   cases h2 : (decide ((b.Strokes.length : Int) ≤ 8)) with
   | false => exact .inl rfl
   | true =>
    cases h3 : benchB b with
    | false => exact .inl rfl
    | true => exact .inr ⟨rfl, rV.1 h3⟩
 ·rw [e]; exact .inl rfl
theorem BOk.len {b : GBk} (h : BOk b) (hl : ∀ s ∈ b.Strokes, s.Needs.length < 9223372036854775808) : Len b := ⟨by have := h.nb; omega, by have := h.ns; omega, hl⟩
structure HOk (n : Int) (s : GBs) : Prop where
 nd : ∀ k ∈ s.Needs, 0 ≤ k ∧ k < n
 ad : adjB s.Needs = true
 hr : 0 ≤ s.Hours.Low ∧ s.Hours.Low ≤ 15 ∧ 0 ≤ s.Hours.High ∧ s.Hours.High ≤ 15
structure BH (b : GBk) : Prop where
 ns : 1 ≤ b.Strokes.length ∧ b.Strokes.length ≤ 6
 s : ∀ {i : Nat} {s : GBs}, b.Strokes[i]? = some s → HOk i s
theorem BOk.h {b : GBk} (h : BOk b) : BH b := ⟨h.ns, fun hs => by have := h.s hs; have h2 := this.hr; exact ⟨this.nd, this.ad, by omega⟩⟩
def nF (b : GBk) (s : Nat) : List Int := match b.Strokes[s]? with | some x => x.Needs | none => []
def dF (b : GBk) (h : Int) (s : Nat) : Int := match b.Strokes[s]? with | some x => if h = 0 then x.Hours.Low else x.Hours.High | none => 0
def hF (pl : List Int) (s : Nat) : Int := (pl[s]?).getD 0
def EE (b : GBk) (pl : List Int) (h : Int) (s : Nat) : Int := Ed (hF pl) (nF b) (dF b h) s
def BB (b : GBk) (pl : List Int) (h : Int) (s : Nat) : Int := Bg (hF pl) (nF b) (dF b h) s
def FF (b : GBk) (pl : List Int) (h : Int) (s : Nat) : Int := frF (hF pl) (EE b pl h) (hF pl s) s
theorem BH.nd {b : GBk} (h : BH b) : NdOk (nF b) := by
 intro s k hk
 unfold nF at hk
 split at hk
 ·rename_i x hx
  have := (h.s hx).nd k hk
  omega
 ·cases hk
theorem BH.d {b : GBk} (h : BH b) (hr : Int) (s : Nat) : 0 ≤ dF b hr s ∧ dF b hr s ≤ 15 := by
 unfold dF
 split
 ·rename_i x hx
  have := (h.s hx).hr
  split <;> omega
 ·omega
theorem EE_b {b : GBk} (h : BH b) (pl : List Int) (hr : Int) {s : Nat} (hs : s < b.Strokes.length) : 0 ≤ EE b pl hr s ∧ EE b pl hr s ≤ 90 := by
 have h1 := Ed_nn (hd := hF pl) h.nd (fun k => (h.d hr k).1) s
 have h2 := pw (hd := hF pl) h.nd (h.d hr) s
 have := h.ns
 unfold EE
 omega
theorem EE_eq {b : GBk} (h : BH b) (pl : List Int) (hr : Int) (s : Nat) : EE b pl hr s = BB b pl hr s + dF b hr s := Ed_eq h.nd s
theorem BB_b {b : GBk} (h : BH b) (pl : List Int) (hr : Int) {s : Nat} (hs : s < b.Strokes.length) : 0 ≤ BB b pl hr s ∧ BB b pl hr s ≤ 90 := by
 have h1 := EE_b h pl hr hs
 have h2 := h.d hr s
 have h3 := Bg_nn (hd := hF pl) (nd := nF b) (d := dF b hr) s
 rw [EE_eq h] at h1
 have h3 : 0 ≤ BB b pl hr s := h3
 omega
theorem BJ {b : GBk} (pl : List Int) (hr : Int) (s : Nat) : BB b pl hr s = max (max 0 (FF b pl hr s)) (mxL ((nF b s).map fun k => EE b pl hr k.toNat)) := rfl
def InvE (b : GBk) (pl : List Int) (l : List (GBe × Int)) : Prop := ∀ p ∈ l, p.2 = EE b pl p.1.hours p.1.stroke.toNat
theorem InvE.nil {b : GBk} {pl : List Int} : InvE b pl [] := fun _ h => by cases h
theorem InvE.has {b : GBk} {pl : List Int} {l : List (GBe × Int)} (h : InvE b pl l) {k : GBe} (hk : mapHas bV l k = true) : mapGet bV 0 l k = EE b pl k.hours k.stroke.toNat := by
 unfold mapHas at hk
 unfold mapGet
 cases hi : kIdx bV k (l.map (·.1)) 0 with
 | none => rw [hi] at hk; cases hk
 | some i =>
  obtain ⟨_, e, he, hq⟩ := sF _ _ _ hi
  rw [Nat.sub_zero, List.getElem?_map] at he
  cases hg : l[i]? with
  | none => rw [hg] at he; cases he
  | some p =>
   rw [hg] at he
   simp only [Option.map_some, Option.some.injEq] at he
   have hpe := hY _ _ hq
   have hv := h p (List.mem_of_getElem? hg)
   rw [he, ← hpe] at hv
   simp only [hg, hv]
theorem qu {K V : Type} {q : K → K → Bool} {k : K} {v : V} : ∀ {l : List (K × V)} {p : K × V}, p ∈ setR q k v l → p ∈ l ∨ p.2 = v ∧ (p.1 = k ∨ q k p.1 = true)
 | [], p, h => by
  simp only [setR, List.mem_singleton] at h
  exact .inr ⟨by rw [h], .inl (by rw [h])⟩
 | a :: l, p, h => by
  unfold setR at h
  split at h
  ·rename_i hq
   rcases List.mem_cons.1 h with rfl | h
   ·exact .inr ⟨rfl, .inl rfl⟩
   ·exact .inl (List.mem_cons_of_mem _ h)
  ·rcases List.mem_cons.1 h with rfl | h
   ·exact .inl (List.mem_cons_self ..)
   ·exact (qu h).imp (List.mem_cons_of_mem _) id
theorem InvE.set {b : GBk} {pl : List Int} {l : List (GBe × Int)} (h : InvE b pl l) (s hr : Int) : InvE b pl (mapSet bV l ⟨s, hr⟩ (EE b pl hr s.toNat)) := by
 intro p hp
 rw [GV] at hp
 rcases qu hp with hp | ⟨h1, h2⟩
 ·exact h p hp
 ·have e : p.1 = ⟨s, hr⟩ := by
   rcases h2 with h2 | h2
   ·exact h2
   ·exact (hY _ _ h2).symm
  rw [h1, e]
abbrev RC := GBk → List Int → Int → Int → List (GBe × Int) → Option (Int × List (GBe × Int))
def RcOk (rc : RC) (b : GBk) (pl : List Int) (h : Int) (n : Nat) : Prop := ∀ (k : Int) l, 0 ≤ k → k.toNat < n → InvE b pl l → ∃ l', rc b pl k h l = some (EE b pl h k.toNat, l') ∧ InvE b pl l'
theorem room8 {n : Nat} (h : n ≤ 1000) : roomOk 8 n = true := by simp [roomOk]; omega
theorem GZ : ∀ (p : List Int) (i c : Int), mO p i c = some (.go (p.foldl max c))
 | [], _, _ => rfl
 | e :: p, i, c => by
  simp only [mO, GZ p, List.foldl_cons]
  have : (if c < e then e else c) = max c e := by split <;> omega
  rw [this]
theorem qv {l : List Int} (h : l.length < 9223372036854775808) : jf l = some (mxL l) := by
 unfold jf
 rw [fO h, cond_true, GZ]
 rfl
theorem getP {pl : List Int} {n : Nat} {s : Int} (hl : pl.length = n) (h0 : 0 ≤ s) (h1 : s.toNat < n) : getI pl s = some (hF pl s.toNat) := by
 unfold getI hF
 rw [if_pos h0, List.getElem?_eq_getElem (by omega)]
 rfl
theorem qw {rc : RC} {b : GBk} {pl : List Int} {h : Int} {s : Int} {N : Nat} (hp : pl.length = N) (da : 0 ≤ s) (hs : s.toNat < N) (hN : N ≤ 6) (hrc : RcOk rc b pl h s.toNat) {l : List (GBe × Int)} (hl : InvE b pl l) :
  ∀ (k0 k : Nat), k < k0 → k ≤ s.toNat → ∃ l', lbind (lq rc b pl s h l k0 ((k : Int) - 1)) (fun r => some r) (fun _ => some (0, l)) (fun _ _ => none) = some (frF (hF pl) (EE b pl h) (hF pl s.toNat) k, l') ∧ InvE b pl l'
 | 0, _, hk, _ => absurd hk (Nat.not_lt_zero _)
 | k0 + 1, 0, _, _ => by
  simp only [lq]
  rw [decide_eq_false (by omega), cond_false]
  exact ⟨l, rfl, hl⟩
 | k0 + 1, k + 1, hk, hks => by
  simp only [lq]
  rw [decide_eq_true (by omega), cond_true, getP hp (by omega) (by omega), getP hp da hs]
  have e : (((k + 1 : Nat) : Int) - 1).toNat = k := by omega
  simp only [Option.bind_some, e]
  unfold frF
  by_cases hh : hF pl k = hF pl s.toNat
  ·obtain ⟨l', e1, hl'⟩ := hrc (((k + 1 : Nat) : Int) - 1) l (by omega) (by omega) hl
   rw [show (hF pl k == hF pl s.toNat) = true by simpa using hh, cond_true, e1, if_pos hh, e]
   exact ⟨l', rfl, hl'⟩
  ·rw [show (hF pl k == hF pl s.toNat) = false by simpa using hh, cond_false, if_neg hh, fP (by omega) (by omega), show ((k + 1 : Nat) : Int) - 1 - 1 = (k : Int) - 1 by omega]
   exact qw hp da hs hN hrc hl k0 k (by omega) (by omega)
theorem BK {rc : RC} {b : GBk} {pl : List Int} {h : Int} {s : Int} {N : Nat} (hp : pl.length = N) (da : 0 ≤ s) (hs : s.toNat < N) (hN : N ≤ 6) (hrc : RcOk rc b pl h s.toNat) {l : List (GBe × Int)} (hl : InvE b pl l) :
  ∃ l', ou rc b pl s h l = some (FF b pl h s.toNat, l') ∧ InvE b pl l' := by
 unfold ou FF
 have := qw hp da hs hN hrc hl 1000000 s.toNat (by omega) (Nat.le_refl _)
 rw [fP (by omega) (by omega)]
 rw [show ((s.toNat : Nat) : Int) - 1 = s - 1 by omega] at this
 exact this
theorem Ha {rc : RC} {b : GBk} {pl : List Int} {h : Int} {n : Nat} (hrc : RcOk rc b pl h n) : ∀ (p : List Int) (i : Int) (acc : List Int) (l : List (GBe × Int)), (∀ k ∈ p, 0 ≤ k ∧ k.toNat < n) → acc.length + p.length ≤ 1000 → InvE b pl l →
  ∃ l', jx rc b pl h p i acc l = some (.go (acc ++ p.map (fun k => EE b pl h k.toNat), l')) ∧ InvE b pl l'
 | [], i, acc, l, _, _, hl => ⟨l, by simp [jx], hl⟩
 | k :: p, i, acc, l, hk, hn, hl => by
  have h1 := hk k (List.mem_cons_self ..)
  obtain ⟨l1, e1, cF⟩ := hrc k l h1.1 h1.2 hl
  simp only [jx, e1, Option.bind_some]
  rw [room8 (by simp at hn ⊢; omega), cond_true]
  obtain ⟨l2, e2, dC⟩ := Ha hrc p (i + 1) (acc ++ [EE b pl h k.toNat]) l1 (fun k hk' => hk k (List.mem_cons_of_mem _ hk')) (by simp at hn ⊢; omega) cF
  exact ⟨l2, by rw [e2]; simp, dC⟩
theorem Hb {rc : RC} {b : GBk} {pl : List Int} {h : Int} {n : Nat} (hrc : RcOk rc b pl h n) {p : List Int} (hk : ∀ k ∈ p, 0 ≤ k ∧ k.toNat < n) (hn : p.length ≤ 1000) {l : List (GBe × Int)} (hl : InvE b pl l) :
  ∃ l', np rc b pl p h l = some (p.map (fun k => EE b pl h k.toNat), l') ∧ InvE b pl l' := by
 obtain ⟨l', e, hl'⟩ := Ha hrc p 0 [] l hk (by simpa using hn) hl
 unfold np
 rw [fO (by omega), cond_true, e]
 exact ⟨l', rfl, hl'⟩
theorem qx : ∀ (l : List Int) (a : Int), adjB (a :: l) = true → ∀ m : Int, (∀ k ∈ a :: l, k < m) → (l.length : Int) < m - a
 | [], a, _, m, h => by have := h a (by simp); simp; omega
 | e :: l, a, h, m, hm => by
  have h' : (decide (a < e) && adjB (e :: l)) = true := h
  simp only [Bool.and_eq_true, decide_eq_true_eq] at h'
  have := qx l e h'.2 m (fun k hk => hm k (List.mem_cons_of_mem _ hk))
  simp only [List.length_cons]
  omega
theorem HOk.few {n : Int} {s : GBs} (h : HOk n s) (hn : n ≤ 6) : s.Needs.length ≤ 6 := by
 cases e : s.Needs with
 | nil => simp
 | cons a l =>
  have h1 := h.ad
  rw [e] at h1
  have := qx l a h1 n (fun k hk => (h.nd k (by rw [e]; exact hk)).2)
  have h2 := h.nd a (by rw [e]; simp)
  simp only [List.length_cons]
  omega
theorem getS {b : GBk} {s : Int} (h0 : 0 ≤ s) (h1 : s.toNat < b.Strokes.length) : ∃ x, getI b.Strokes s = some x ∧ b.Strokes[s.toNat]? = some x := by
 refine ⟨b.Strokes[s.toNat], ?_, List.getElem?_eq_getElem h1⟩
 unfold getI
 rw [if_pos h0, List.getElem?_eq_getElem h1]
theorem BL {rc : RC} {b : GBk} (hb : BH b) {pl : List Int} (hp : pl.length = b.Strokes.length) {h : Int} {s : Int} (da : 0 ≤ s) (hs : s.toNat < b.Strokes.length) (hrc : RcOk rc b pl h s.toNat) {l : List (GBe × Int)} (hl : InvE b pl l) :
  ∃ l', qm rc b pl s h l = some (BB b pl h s.toNat, l') ∧ InvE b pl l' := by
 have hns := hb.ns
 obtain ⟨x, e1, e2⟩ := getS da hs
 have hx := hb.s e2
 have hfew := hx.few (by omega)
 obtain ⟨l1, f1, cF⟩ := BK hp da hs (by omega) hrc hl
 obtain ⟨l2, f2, dC⟩ := Hb hrc (p := x.Needs) (fun k hk => by have := hx.nd k hk; omega) (by omega) cF
 unfold qm
 simp only [f1, e1, f2, Option.bind_some]
 rw [qv (by simp; omega)]
 simp only [Option.bind_some]
 rw [qv (by simp)]
 refine ⟨l2, ?_, dC⟩
 simp only [Option.bind_some, BJ, nF, e2]
 rfl
theorem BM {b : GBk} {pl : List Int} {s : Int} (h0 : 0 ≤ s) (h1 : s.toNat < b.Strokes.length) : qn b pl s = some (dF b 0 s.toNat) := by
 obtain ⟨x, e1, e2⟩ := getS h0 h1
 simp [qn, e1, dF, e2]
theorem MM {b : GBk} {pl : List Int} {s : Int} (h0 : 0 ≤ s) (h1 : s.toNat < b.Strokes.length) : qo b pl s = some (dF b 1 s.toNat) := by
 obtain ⟨x, e1, e2⟩ := getS h0 h1
 simp [qo, e1, dF, e2]
theorem BN {rc : RC} {b : GBk} (hb : BH b) {pl : List Int} (hp : pl.length = b.Strokes.length) {h : Int} (hh : h = 0 ∨ h = 1) {s : Int} (da : 0 ≤ s) (hs : s.toNat < b.Strokes.length) (hrc : RcOk rc b pl h s.toNat) {l : List (GBe × Int)} (hl : InvE b pl l) :
  ∃ l', qp rc b pl s h l = some (EE b pl h s.toNat, l') ∧ InvE b pl l' := by
 unfold qp
 cases hm : mapHas bV l ⟨s, h⟩ with
 | true =>
  rw [cond_true, hl.has hm]
  exact ⟨l, rfl, hl⟩
 | false =>
  obtain ⟨l1, e1, cF⟩ := BL hb hp da hs hrc hl
  have h1 := BB_b hb pl h hs
  have h2 := hb.d h s.toNat
  rw [cond_false, e1, Option.bind_some]
  rcases hh with rfl | rfl
  ·rw [BM da hs]
   simp only [Option.bind_some, beq_self_eq_true, cond_true]
   rw [fP (by omega) (by omega), ← EE_eq hb]
   exact ⟨_, rfl, cF.set s 0⟩
  ·rw [MM da hs]
   simp only [Option.bind_some, beq_self_eq_true, cond_true, show ((1 : Int) == 0) = false from rfl, cond_false]
   rw [fP (by omega) (by omega), ← EE_eq hb]
   exact ⟨_, rfl, cF.set s 1⟩
theorem BO {b : GBk} (hb : BH b) {pl : List Int} (hp : pl.length = b.Strokes.length) {h : Int} (hh : h = 0 ∨ h = 1) : ∀ (f n : Nat), n ≤ f → n ≤ b.Strokes.length → RcOk (gEnd f) b pl h n
 | 0, n, hn, _ => fun k l h0 h1 hl => absurd h1 (by omega)
 | f + 1, n, hn, hnl => fun k l h0 h1 hl => BN hb hp hh h0 (by omega) (BO hb hp hh f k.toNat (by omega) (by omega)) hl
section
variable {b : GBk} (hb : BH b) {pl : List Int} (hp : pl.length = b.Strokes.length) {h : Int} (hh : h = 0 ∨ h = 1) {l : List (GBe × Int)} (hl : InvE b pl l)
include hb hp hh hl
theorem BP {s : Int} (h0 : 0 ≤ s) (h1 : s.toNat < b.Strokes.length) : ∃ l', BD b pl s h l = some (EE b pl h s.toNat, l') ∧ InvE b pl l' :=
 BO hb hp hh 8 b.Strokes.length (by have := hb.ns; omega) (Nat.le_refl _) s l h0 h1 hl
theorem Hc {p : List Int} (hk : ∀ k ∈ p, 0 ≤ k ∧ k.toNat < b.Strokes.length) (hn : p.length ≤ 1000) : ∃ l', sN b pl p h l = some (p.map (fun k => EE b pl h k.toNat), l') ∧ InvE b pl l' :=
 Hb (BO hb hp hh 8 b.Strokes.length (by have := hb.ns; omega) (Nat.le_refl _)) hk hn hl
end
section
variable {b : GBk} (hb : BH b) {pl : List Int} (hp : pl.length = b.Strokes.length) {l : List (GBe × Int)} (hl : InvE b pl l)
include hb hp hl
theorem xF {p : List Int} (hk : ∀ k ∈ p, 0 ≤ k ∧ k.toNat < b.Strokes.length) (hn : p.length ≤ 1000) : ∃ l', oX b pl p l = some (⟨mxL (p.map fun k => EE b pl 0 k.toNat), mxL (p.map fun k => EE b pl 1 k.toNat)⟩, l') ∧ InvE b pl l' := by
 obtain ⟨l1, e1, cF⟩ := Hc hb hp (.inl rfl) hl hk hn
 obtain ⟨l2, e2, dC⟩ := Hc hb hp (.inr rfl) cF hk hn
 unfold oX
 simp only [e1, Option.bind_some]
 rw [qv (by simp; omega)]
 simp only [e2, Option.bind_some]
 rw [qv (by simp; omega)]
 exact ⟨l2, rfl, dC⟩
end
theorem Hd {b : GBk} (hb : BH b) {pl : List Int} (hp : pl.length = b.Strokes.length) : ∀ (p : List GBs) (i : Nat) (l : List (GBe × Int)), i + p.length = b.Strokes.length → InvE b pl l →
  ∃ l', ml b pl p i (tkF (EE b pl 1) i) l = some (.go (tkF (EE b pl 1) b.Strokes.length, l')) ∧ InvE b pl l'
 | [], i, l, hi, hl => ⟨l, by simp at hi; subst hi; rfl, hl⟩
 | s :: p, i, l, hi, hl => by
  simp only [List.length_cons] at hi
  obtain ⟨l1, e1, cF⟩ := BP hb hp (.inr rfl) hl (s := i) (by omega) (by omega)
  simp only [ml, e1, Option.bind_some]
  rw [qv (by simp)]
  obtain ⟨l2, e2, dC⟩ := Hd hb hp p (i + 1) l1 (by omega) cF
  refine ⟨l2, ?_, dC⟩
  rw [← e2]
  simp only [Option.bind_some, mxL, List.foldl_cons, List.foldl_nil, Int.toNat_natCast]
  have h1 := mn (EE b pl 1) i
  congr 1
  show max (max 0 (tkF (EE b pl 1) i)) (EE b pl 1 i) = max (tkF (EE b pl 1) i) (EE b pl 1 i)
  rw [Int.max_eq_right h1]
def TK (b : GBk) (pl : List Int) : Int := tkF (EE b pl 1) b.Strokes.length
theorem FV {b : GBk} (hb : BH b) {pl : List Int} (hp : pl.length = b.Strokes.length) {l : List (GBe × Int)} (hl : InvE b pl l) : ∃ l', lD b pl l = some (TK b pl, l') ∧ InvE b pl l' := by
 obtain ⟨l', e, hl'⟩ := Hd hb hp b.Strokes 0 l (by simp) hl
 unfold lD
 rw [fO (by have := hb.ns; omega), cond_true]
 have e' : ml b pl b.Strokes 0 0 l = _ := e
 rw [e']
 exact ⟨l', rfl, hl'⟩
end Go.V
end
