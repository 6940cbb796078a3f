/- Part of a proof. -/
import Derived.Test.YtmhlghgbfmcdaaaGreatDoorB1bj
set_option linter.all false
set_option maxRecDepth 4000
set_option maxHeartbeats 40000000
section
namespace Go.V
open Go Go.Proofs IntKind
def lb (rc : GBk → (List Int) → Int → Int → (List (GBe × Int)) → Option ((Int) × List (GBe × Int))) (xb : GBk) (xp : List Int) (xh : Int) : List Int → Int → (List Int) → (List (GBe × Int)) → Option (LOut ((List Int) × List (GBe × Int)) ((List Int) × (List (GBe × Int))))
 | [], m6, bI, bL => some (.go (bI, bL))
 | e0 :: p0, m6, bI, bL => Option.bind (rc xb xp e0 xh bL) (fun r2 => cond (roomOk 8 (List.length (bI ++ [r2.1]))) (lb rc xb xp xh p0 (m6 + 1) (bI ++ [r2.1]) r2.2) none)
def qw (rc : GBk → (List Int) → Int → Int → (List (GBe × Int)) → Option ((Int) × List (GBe × Int))) (xb : GBk) (xp : List Int) (xss : List Int) (xh : Int) (l0 : List (GBe × Int)) : Option ((List Int) × List (GBe × Int)) := cond (aH xss) (lbind (lb rc xb xp xh xss 0 ([] : List Int) l0) (fun r4 => some r4) (fun c3 => some (c3.1, c3.2)) (fun _ _ => none)) none
theorem Iv (rc : GBk → (List Int) → Int → Int → (List (GBe × Int)) → Option ((Int) × List (GBe × Int))) (rc_ok : ∀ (xb : GBk) (xp : List Int) (xs : Int) (xh : Int) (l0 : List (GBe × Int)) (R : (Int) × List (GBe × Int)), rc xb xp xs xh l0 = some R → VUpd Tryz.prog G0 118 (fun β => [.agg [.lit (.int .i64 xb.Apprentices), .sl (aa eI xb.Boards) (List.length xb.Boards) false, .sl (aa cGBs xb.Strokes) (List.length xb.Strokes) false, .sl (aa eI xp) (List.length xp) false, .mp β], .lit (.int .i64 xs), .lit (.int .i64 xh)]) (encM aO cw l0) (encM aO cw R.2) (fun _ => .lit (.int .i64 R.1))) (xb : GBk) (xp : List Int) (xss : List Int) (xh : Int) (l0 : List (GBe × Int)) (R : (List Int) × List (GBe × Int)) (h : qw rc xb xp xss xh l0 = some R) : VUpd Tryz.prog G0 106 (fun β => [.agg [.lit (.int .i64 xb.Apprentices), .sl (aa eI xb.Boards) (List.length xb.Boards) false, .sl (aa cGBs xb.Strokes) (List.length xb.Strokes) false, .sl (aa eI xp) (List.length xp) false, .mp β], .sl (aa eI xss) (List.length xss) false, .lit (.int .i64 xh)]) (encM aO cw l0) (encM aO cw R.2) (fun _ => .sl (aa eI R.1) (List.length R.1) false) := by
 intro bd nx hlt
 have aS := kz (β := bd) (nx := nx) hlt
 refine ar.run mixed Tryz.call106 Tryz.func106 rfl (by simp [Tryz.ntmps106]; kernel_rfl) ?_
 obtain ⟨KF, h, kF, kN⟩ := cl h
 simp only [qw] at h
 cases g6 : (aH xss)
 ·simp only [g6, hs] at h
  exact absurd h kN
 simp only [g6, hs] at h
 simp only [vz, mq, mqm, vsi, tyf, mqt, aS, g6, nm, seval]
 obtain ⟨K5, h, Is, vv, Ma, qp⟩ := eW h kN
 obtain ⟨f5, zL, h⟩ := call4 h
 obtain ⟨I5, m2⟩ : ∃ I : Nat → St → Prop, I = (fun m st => ∃ (p5 : List Int) (bC : Int) (bt : List Int) (jA : List (GBe × Int)) (ld : VV), m = List.length p5 ∧ 0 ≤ bC ∧ List.drop (Int.toNat bC) xss = p5 ∧ st.df = [] ∧ nx + 6 ≤ st.nx ∧ st.H bd = some (.map (encM aO cw jA)) ∧ st.H nx = some (.cells (some 92) ((cGBk xb) ++ [.sl (aa eI xp) (List.length xp) false] ++ [.mp bd])) ∧ st.tm 2 = .lit (.int .i64 xh) ∧ st.tm 3 = .ptr nx 0 ∧ st.tm 10 = .sl (aa eI xss) (List.length xss) false ∧ st.tm 11 = .lit (.int .i64 (List.length xss : Int)) ∧ st.tm 7 = ld ∧ st.tm 12 = .lit (.int .i64 bC) ∧ ((∃ (β : Nat) (el : Option TypeId), ld = .ref β 0 (List.length bt) 1 (List.length bt) ∧ β < st.nx ∧ β ≠ bd ∧ β ≠ nx ∧ st.H β = some (.cells el (aa eI bt))) ∨ (ld = .lit (.slice none 0 0) ∧ bt = [])) ∧ K5 (f5 p5 bC bt jA)) := ⟨_, rfl⟩
 refine loopK mixed (by kernel_rfl) I5 (List.length xss) (by rw [m2]; refine ⟨xss, 0, ([] : List Int), l0, .lit (.slice none 0 0), rfl, Int.le_refl _, rfl, rfl, (show nx + 6 ≤ nx + 6 by omega), ?_, ?_, ?_, ?_, ?_, ?_, ?_, ?_, Or.inr ⟨rfl, rfl⟩, h⟩ <;> first | (simp only [ua, bT, aS, nm, seval] <;> rfl) | rfl) ?_
 rintro m ⟨tm, H, j7, df⟩ hinv
 rw [m2] at hinv
 obtain ⟨p5, bC, bt, jA, ld, rfl, eY, fR, hdf, zM, H7, H8, e9, aV, bh, cm, bV, cn, m7, h⟩ := hinv
 simp only at hdf zM H7 H8 e9 aV bh cm bV cn m7
 have fV := vy (a := nx) (m := 6) (b := j7) (by omega)
 have fW := kz (β := bd) (nx := j7) (by omega)
 subst hdf zL
 rcases m7 with ⟨sw, m8, rfl, zR, zS, zT, lf⟩ | ⟨rfl, rfl⟩
 ·have lg := kz zR
  have lh := ne_f zS
  have lj := ne_f zT
  cases p5 with
  | nil =>
   have kX : (decide (bC < (List.length xss : Int))) = false := eL eY fR
   simp only [lb, hs, reduceCtorEq] at h
   replace h := vv _ h
   try dsimp only at h
   try simp only [hs] at h
   try simp only [vz, mq, mqm, vsi, tyf, mqt, aS, g6, fV, fW, e9, aV, bh, cm, bV, cn, H7, H8, lg, lf, lh, lj, kX, nm, seval]
   refine dU (x := (.ref sw 0 (List.length bt) 1 (List.length bt))) (by first | (simp only [Tryz.results106, resV, resL, resV1, dX, dY, uw, cr, tyf, mqt, aS, g6, fV, fW, H7, H8, lg, lf, lh, lj, kX, nm, seval] <;> rfl) | rfl) ?_
   obtain rfl := kF _ h
   refine ⟨(by first | rfl | assumption | (simp only [bf, bg, aS, fV, fW, H7, H8, lg, lf, lh, lj, nm, seval] <;> rfl)), ?_⟩
   exact zU (by first | rfl | assumption | (simp only [bf, bg, aS, fV, fW, H7, H8, lg, lf, lh, lj, nm, seval] <;> rfl)) (by first | rfl | assumption | (simp only [bf, bg, aS, fV, fW, H7, H8, lg, lf, lh, lj, nm, seval] <;> rfl)) eI_ok (fun _ => rfl)
  | cons e5 p5 =>
   have nB : (decide (bC < (List.length xss : Int))) = true := eM eY fR
   have lk := cL eY fR
   have nC := eN eY fR g6
   simp only [lb, hs, reduceCtorEq] at h
   obtain ⟨fA, gS, h⟩ := optI h qp
   try simp only [hs] at h
   simp only [vz, mq, mqm, vsi, tyf, mqt, aS, g6, fV, fW, e9, aV, bh, cm, bV, cn, H7, H8, lg, lf, lh, lj, nB, (aI lk), nC, nm, seval]
   refine kupd (VUpd.at (β := bd) (y := (fun _ => .lit (.int .i64 fA.1))) (rc_ok _ _ _ _ _ _ gS) (by omega) (by first | rfl | assumption | (simp only [bf, bg, aS, fV, fW, H7, H8, lg, lf, lh, lj, nm, seval] <;> rfl)) (by first | rfl | (simp only [nrm, tynrm, @d6, @gi] <;> rfl)) (gT (fun _ => rfl) _)) ?_
   refine ib (fun tm => tm 2 = .lit (.int .i64 xh) ∧ tm 3 = .ptr nx 0 ∧ tm 10 = .sl (aa eI xss) (List.length xss) false ∧ tm 11 = .lit (.int .i64 (List.length xss : Int)) ∧ tm 12 = .lit (.int .i64 bC) ∧ tm 16 = .ref sw 0 (List.length bt) 1 (List.length bt) ∧ tm 20 = .lit (.int .i64 fA.1) ∧ True) (by refine ⟨e9, aV, bh, cm, cn, ?_, ?_, trivial⟩ <;> first | (simp only [ua, bT, aS, fV, fW, e9, aV, bh, cm, bV, cn, H7, H8, lg, lf, lh, lj, nB, nC, nm, seval] <;> rfl) | rfl) ?_
   rintro tm ⟨ba, du, dc, cM, cN, gQ, ej, _⟩
   have jo := And.intro aS (And.intro g6 (And.intro fV (And.intro fW (And.intro H7 (And.intro H8 (And.intro lg (And.intro lf (And.intro lh (And.intro lj (And.intro nB nC))))))))))
   cases gj : (roomOk 8 (List.length (bt ++ [fA.1])))
   ·simp only [gj, hs] at h
    exact absurd h qp
   simp only [gj, hs] at h
   simp only [vz, mq, mqm, vsi, tyf, mqt, jo, (aI lk), ba, du, dc, cM, cN, gQ, ej, gj, nm, seval]
   refine k_app (w := 1) (enc := eI) (xs := bt) (ys := ([fA.1])) (el := m8) (k6 := (some 3)) (fun _ => rfl) hT hS Tryz.underlying22 (by first | rfl | assumption | (simp only [bf, bg, ct, jo, nm, seval] <;> rfl) | (simp only [bf, bg, fy, fX, fj, fk, tyf, mqt, jo, (aI lk), ba, du, dc, cM, cN, gQ, ej, gj, nm, seval]; done)) (by first | rfl | assumption | (simp only [bf, bg, ct, jo, nm, seval] <;> rfl) | (simp only [bf, bg, fy, fX, fj, fk, tyf, mqt, jo, (aI lk), ba, du, dc, cM, cN, gQ, ej, gj, nm, seval]; done)) (Nat.zero_lt_succ _) gj ?_
   simp only [vz, mq, mqm, vsi, tyf, mqt, jo, (aI lk), ba, du, dc, cM, cN, gQ, ej, gj, nm, seval]
   exact ⟨List.length p5, Nat.lt_succ_self _, by rw [m2]; refine ⟨p5, bC + 1, (bt ++ [fA.1]), fA.2, .ref (j7 + 10) 0 (List.length (bt ++ [fA.1])) 1 (List.length (bt ++ [fA.1])), rfl, Int.le_trans eY (Int.le_add_one (Int.le_refl _)), cy eY fR, rfl, (show nx + 6 ≤ j7 + 14 by omega), ?_, ?_, ba, du, dc, cM, ?_, ?_, Or.inl ⟨j7 + 10, (sameEl m8 3), rfl, (by first | omega | (simp only [nm, seval]; done) | (simp only [nm, seval]; omega)), (by first | omega | (intro hh; simp only [jo, reduceCtorEq] at hh)), (by first | omega | (intro hh; simp only [jo, reduceCtorEq] at hh)), ?_⟩, (by first | exact h | (simp only [jo]; exact h))⟩ <;> first | (simp only [ua, bT, jo, ba, du, dc, cM, cN, gQ, ej, nm, seval] <;> rfl) | rfl⟩
 ·cases p5 with
  | nil =>
   have Iw : (decide (bC < (List.length xss : Int))) = false := eL eY fR
   simp only [lb, hs, reduceCtorEq] at h
   replace h := vv _ h
   try dsimp only at h
   try simp only [hs] at h
   try simp only [vz, mq, mqm, vsi, tyf, mqt, aS, g6, fV, fW, e9, aV, bh, cm, bV, cn, H7, H8, Iw, nm, seval]
   refine dU (x := (.lit (.slice none 0 0))) (by first | (simp only [Tryz.results106, resV, resL, resV1, dX, dY, uw, cr, tyf, mqt, aS, g6, fV, fW, H7, H8, Iw, nm, seval] <;> rfl) | rfl) ?_
   obtain rfl := kF _ h
   refine ⟨(by first | rfl | assumption | (simp only [bf, bg, aS, fV, fW, H7, H8, nm, seval] <;> rfl)), ?_⟩
   exact sq_of zV
  | cons e5 p5 =>
   have bx : (decide (bC < (List.length xss : Int))) = true := eM eY fR
   have qx := cL eY fR
   have zW := eN eY fR g6
   simp only [lb, hs, reduceCtorEq] at h
   obtain ⟨m9, mA, h⟩ := optI h qp
   try simp only [hs] at h
   simp only [vz, mq, mqm, vsi, tyf, mqt, aS, g6, fV, fW, e9, aV, bh, cm, bV, cn, H7, H8, bx, (aI qx), zW, nm, seval]
   refine kupd (VUpd.at (β := bd) (y := (fun _ => .lit (.int .i64 m9.1))) (rc_ok _ _ _ _ _ _ mA) (by omega) (by first | rfl | assumption | (simp only [bf, bg, aS, fV, fW, H7, H8, nm, seval] <;> rfl)) (by first | rfl | (simp only [nrm, tynrm, @d6, @gi] <;> rfl)) (gT (fun _ => rfl) _)) ?_
   refine ib (fun tm => tm 2 = .lit (.int .i64 xh) ∧ tm 3 = .ptr nx 0 ∧ tm 10 = .sl (aa eI xss) (List.length xss) false ∧ tm 11 = .lit (.int .i64 (List.length xss : Int)) ∧ tm 12 = .lit (.int .i64 bC) ∧ tm 16 = .lit (.slice none 0 0) ∧ tm 20 = .lit (.int .i64 m9.1) ∧ True) (by refine ⟨e9, aV, bh, cm, cn, ?_, ?_, trivial⟩ <;> first | (simp only [ua, bT, aS, fV, fW, e9, aV, bh, cm, bV, cn, H7, H8, bx, zW, nm, seval] <;> rfl) | rfl) ?_
   rintro tm ⟨de, di, fp, kZ, v3, ll, dA, _⟩
   have mB := And.intro aS (And.intro g6 (And.intro fV (And.intro fW (And.intro H7 (And.intro H8 (And.intro bx zW))))))
   cases qy : (roomOk 8 (List.length (([] : List Int) ++ [m9.1])))
   ·simp only [qy, hs] at h
    exact absurd h qp
   simp only [qy, hs] at h
   simp only [vz, mq, mqm, vsi, tyf, mqt, mB, (aI qx), de, di, fp, kZ, v3, ll, dA, qy, nm, seval]
   refine ln (w := 1) (enc := eI) (ys := ([m9.1])) (k6 := (some 3)) (fun _ => rfl) hT hS Tryz.underlying22 (by first | rfl | assumption | (simp only [bf, bg, ct, mB, nm, seval] <;> rfl) | (simp only [bf, bg, fy, fX, fj, fk, tyf, mqt, mB, (aI qx), de, di, fp, kZ, v3, ll, dA, qy, nm, seval]; done)) (Nat.zero_lt_succ _) qy ?_
   simp only [vz, mq, mqm, vsi, tyf, mqt, mB, (aI qx), de, di, fp, kZ, v3, ll, dA, qy, nm, seval]
   exact ⟨List.length p5, Nat.lt_succ_self _, by rw [m2]; refine ⟨p5, bC + 1, (([] : List Int) ++ [m9.1]), m9.2, .ref (j7 + 10) 0 (List.length (([] : List Int) ++ [m9.1])) 1 (List.length (([] : List Int) ++ [m9.1])), rfl, Int.le_trans eY (Int.le_add_one (Int.le_refl _)), cy eY fR, rfl, (show nx + 6 ≤ j7 + 14 by omega), ?_, ?_, de, di, fp, kZ, ?_, ?_, Or.inl ⟨j7 + 10, (some 3), rfl, (by first | omega | (simp only [nm, seval]; done) | (simp only [nm, seval]; omega)), (by first | omega | (intro hh; simp only [mB, reduceCtorEq] at hh)), (by first | omega | (intro hh; simp only [mB, reduceCtorEq] at hh)), ?_⟩, (by first | exact h | (simp only [mB]; exact h))⟩ <;> first | (simp only [ua, bT, mB, de, di, fp, kZ, v3, ll, dA, nm, seval] <;> rfl) | rfl⟩
def sx (rc : GBk → (List Int) → Int → Int → (List (GBe × Int)) → Option ((Int) × List (GBe × Int))) (xb : GBk) (xp : List Int) (xs : Int) (xh : Int) (l0 : List (GBe × Int)) : Option ((Int) × List (GBe × Int)) := Option.bind (sy rc xb xp xs xh l0) (fun r1 => Option.bind (getI xb.Strokes xs) (fun x2 => Option.bind (qw rc xb xp x2.Needs xh r1.2) (fun r3 => Option.bind (mC r3.1) (fun r4 => Option.bind (mC ([r1.1, r4])) (fun r5 => some (r5, r3.2))))))
theorem Ix (rc : GBk → (List Int) → Int → Int → (List (GBe × Int)) → Option ((Int) × List (GBe × Int))) (rc_ok : ∀ (xb : GBk) (xp : List Int) (xs : Int) (xh : Int) (l0 : List (GBe × Int)) (R : (Int) × List (GBe × Int)), rc xb xp xs xh l0 = some R → VUpd Tryz.prog G0 118 (fun β => [.agg [.lit (.int .i64 xb.Apprentices), .sl (aa eI xb.Boards) (List.length xb.Boards) false, .sl (aa cGBs xb.Strokes) (List.length xb.Strokes) false, .sl (aa eI xp) (List.length xp) false, .mp β], .lit (.int .i64 xs), .lit (.int .i64 xh)]) (encM aO cw l0) (encM aO cw R.2) (fun _ => .lit (.int .i64 R.1))) (xb : GBk) (xp : List Int) (xs : Int) (xh : Int) (l0 : List (GBe × Int)) (R : (Int) × List (GBe × Int)) (h : sx rc xb xp xs xh l0 = some R) : VUpd Tryz.prog G0 107 (fun β => [.agg [.lit (.int .i64 xb.Apprentices), .sl (aa eI xb.Boards) (List.length xb.Boards) false, .sl (aa cGBs xb.Strokes) (List.length xb.Strokes) false, .sl (aa eI xp) (List.length xp) false, .mp β], .lit (.int .i64 xs), .lit (.int .i64 xh)]) (encM aO cw l0) (encM aO cw R.2) (fun _ => .lit (.int .i64 R.1)) := by
 intro bd nx hlt
 have aS := kz (β := bd) (nx := nx) hlt
 refine ar.run mixed Tryz.call107 Tryz.func107 rfl (by simp [Tryz.ntmps107]; kernel_rfl) ?_
 obtain ⟨KF, h, kF, kN⟩ := cl h
 simp only [sx] at h
 simp only [vz, mq, mqm, vsi, tyf, mqt, aS, nm, seval]
 refine s5 (fun tm => tm 1 = .lit (.int .i64 xs) ∧ tm 2 = .lit (.int .i64 xh) ∧ tm 3 = .ptr nx 0 ∧ True) (by refine ⟨?_, ?_, ?_, trivial⟩ <;> first | (simp only [ua, bT, aS, nm, seval] <;> rfl) | rfl) ?_
 rintro tm ⟨e6, e7, e8, _⟩
 obtain ⟨r9, fq, h⟩ := optI h kN
 try simp only [hs] at h
 simp only [vz, mq, mqm, vsi, tyf, mqt, aS, e6, e7, e8, nm, seval]
 refine dkupd (VUpd.at (β := bd) (y := (fun _ => .lit (.int .i64 r9.1))) (Mj rc rc_ok _ _ _ _ _ _ fq) (by omega) (by first | rfl | assumption | (simp only [bf, bg, aS, nm, seval] <;> rfl)) (by first | rfl | (simp only [nrm, tynrm, @d6, @gi] <;> rfl)) (gT (fun _ => rfl) _)) ?_
 refine ib (fun tm => tm 1 = .lit (.int .i64 xs) ∧ tm 2 = .lit (.int .i64 xh) ∧ tm 3 = .ptr nx 0 ∧ tm 10 = .lit (.int .i64 r9.1) ∧ True) (by refine ⟨e6, e7, e8, ?_, trivial⟩ <;> first | (simp only [ua, bT, aS, e6, e7, e8, nm, seval] <;> rfl) | rfl) ?_
 rintro tm ⟨bh, cm, bV, cn, _⟩
 obtain ⟨qz, dZ, h⟩ := optI h kN
 try simp only [hs] at h
 obtain ⟨lp, zX, h⟩ := optI h kN
 try simp only [hs] at h
 simp only [vz, mq, mqm, vsi, tyf, mqt, aS, bh, cm, bV, cn, (aK dZ), nm, seval]
 refine dkupd (VUpd.at (β := bd) (y := (fun _ => .sl (aa eI lp.1) (List.length lp.1) false)) (Iv rc rc_ok _ _ _ _ _ _ zX) (by omega) (by first | rfl | assumption | (simp only [bf, bg, aS, nm, seval] <;> rfl)) (by first | rfl | (simp only [nrm, tynrm, @d6, @gi] <;> rfl)) (gT (fun _ => rfl) _)) ?_
 refine ib (fun tm => tm 10 = .lit (.int .i64 r9.1) ∧ tm 20 = .sl (aa eI lp.1) (List.length lp.1) false ∧ True) (by refine ⟨cn, ?_, trivial⟩ <;> first | (simp only [ua, bT, aS, bh, cm, bV, cn, nm, seval] <;> rfl) | rfl) ?_
 rintro tm ⟨bG, eX, _⟩
 obtain ⟨s6, mD, h⟩ := optI h kN
 try simp only [hs] at h
 simp only [vz, mq, mqm, vsi, tyf, mqt, aS, (aK dZ), bG, eX, nm, seval]
 refine dktree (args0 := [.sl (aa eI lp.1) (List.length lp.1) false]) (by first | (simp only [nrm, tynrm, @d6] <;> rfl) | rfl) (by simp only [tre, tytre, mqr, Bool.and_self]) (v5 _ _ mD) ?_
 refine br (fun tm => tm 10 = .lit (.int .i64 r9.1) ∧ tm 21 = .lit (.int .i64 s6) ∧ True) (by refine ⟨bG, ?_, trivial⟩ <;> first | (simp only [ua, bT, aS, bG, eX, nm, seval] <;> rfl) | rfl) ?_
 rintro tm ⟨cb, bA, _⟩
 obtain ⟨fA, gS, h⟩ := optI h kN
 try simp only [hs] at h
 simp only [vz, mq, mqm, vsi, tyf, mqt, aS, (aK dZ), cb, bA, nm, seval]
 refine dkseen1 (w := 1) (enc := eI) (xs := ([r9.1, s6])) (el := (some 3)) ⟨eI_ok.tree, eI_ok.norm⟩ (fun _ => rfl) (by simp only [List.length_cons, List.length_nil]; decide) (by simp only [bf, bg, ct, aS, nm, seval] <;> rfl) (v5 _ _ gS) (by first | rfl | simp only [VV.flat, flatL, Bool.and_self]) ?_
 refine br (fun tm => tm 23 = .lit (.int .i64 fA) ∧ True) (by refine ⟨?_, trivial⟩ <;> first | (simp only [ua, bT, aS, cb, bA, nm, seval] <;> rfl) | rfl) ?_
 rintro tm ⟨ba, _⟩
 simp only [vz, mq, mqm, vsi, tyf, mqt, aS, (aK dZ), ba, nm, seval]
 refine s7 ⟨?_, ?_⟩
 ·simp only [s8, s9, k7, sA, and_true, true_and]
  repeat' (first | exact trivial | refine And.intro ?_ ?_ | rw [k7] | rw [sB] | exact Or.inl (by decide +kernel) | exact Or.inl (by dsimp only; decide +kernel) | (refine Or.inr ⟨?_, ?_⟩ <;> simp; done) | (refine Or.inr ⟨?_, ?_⟩ <;> simp <;> omega) | (refine Or.inr ⟨?_, ?_⟩ <;> simp [VEff.wr] <;> omega))
 try simp only [vz, mq, mqm, vsi, tyf, mqt, aS, (aK dZ), ba, nm, seval]
 refine dU (x := (.lit (.int .i64 fA))) (by first | (simp only [Tryz.results107, resV, resL, resV1, dX, dY, uw, cr, tyf, mqt, aS, (aK dZ), nm, seval] <;> rfl) | rfl) ?_
 obtain rfl := kF _ h
 refine ⟨(by first | rfl | assumption | (simp only [bf, bg, aS, nm, seval] <;> rfl)), ?_⟩
 exact sq_of (lq (by simp only [tre, tytre, mqr, Bool.and_self]) rfl)
def sC (xb : GBk) (xp : List Int) (xs : Int) : Option (Int) := Option.bind (getI xb.Strokes xs) (fun x1 => some x1.Hours.Low)
theorem Mk (xb : GBk) (xp : List Int) (xs : Int) (b : Nat) (R : Int) (h : sC xb xp xs = some R) : ah Tryz.prog G0 139 [.agg [.lit (.int .i64 xb.Apprentices), .sl (aa eI xb.Boards) (List.length xb.Boards) false, .sl (aa cGBs xb.Strokes) (List.length xb.Strokes) false, .sl (aa eI xp) (List.length xp) false, .lit (.map (some b))], .lit (.int .i64 xs)] (.tree (.lit (.int .i64 R))) := by
 refine ah.runR mixed Tryz.call139 Tryz.func139 rfl (by simp [Tryz.ntmps139]; kernel_rfl) ?_
 obtain ⟨KF, h, kF, kN⟩ := cl h
 simp only [sC] at h
 obtain ⟨x2, o3, h⟩ := optI h kN
 try simp only [hs] at h
 try simp only [vz, vsi, tyf, (aK o3), nm, seval]
 refine dU (x := (.lit (.int .i64 x2.Hours.Low))) (by first | (simp only [Tryz.results139, resV, resL, resV1, dX, dY, uw, cr, tyf, (aK o3), nm, seval] <;> rfl) | rfl) ?_
 obtain rfl := kF _ h
 refine jk ?_ ?_
 ·simp only [tre, tytre, Bool.and_self]
 ·first | (simp only [outV, uw, jB, cr, tyf, nrm, tynrm, (aK o3), nm, seval] <;> rfl) | rfl
def sD (xb : GBk) (xp : List Int) (xs : Int) : Option (Int) := Option.bind (getI xb.Strokes xs) (fun x1 => some x1.Hours.High)
theorem Ml (xb : GBk) (xp : List Int) (xs : Int) (b : Nat) (R : Int) (h : sD xb xp xs = some R) : ah Tryz.prog G0 140 [.agg [.lit (.int .i64 xb.Apprentices), .sl (aa eI xb.Boards) (List.length xb.Boards) false, .sl (aa cGBs xb.Strokes) (List.length xb.Strokes) false, .sl (aa eI xp) (List.length xp) false, .lit (.map (some b))], .lit (.int .i64 xs)] (.tree (.lit (.int .i64 R))) := by
 refine ah.runR mixed Tryz.call140 Tryz.func140 rfl (by simp [Tryz.ntmps140]; kernel_rfl) ?_
 obtain ⟨KF, h, kF, kN⟩ := cl h
 simp only [sD] at h
 obtain ⟨x2, o3, h⟩ := optI h kN
 try simp only [hs] at h
 try simp only [vz, vsi, tyf, (aK o3), nm, seval]
 refine dU (x := (.lit (.int .i64 x2.Hours.High))) (by first | (simp only [Tryz.results140, resV, resL, resV1, dX, dY, uw, cr, tyf, (aK o3), nm, seval] <;> rfl) | rfl) ?_
 obtain rfl := kF _ h
 refine jk ?_ ?_
 ·simp only [tre, tytre, Bool.and_self]
 ·first | (simp only [outV, uw, jB, cr, tyf, nrm, tynrm, (aK o3), nm, seval] <;> rfl) | rfl
def sE (rc : GBk → (List Int) → Int → Int → (List (GBe × Int)) → Option ((Int) × List (GBe × Int))) (xb : GBk) (xp : List Int) (xs : Int) (xh : Int) (l0 : List (GBe × Int)) : Option ((Int) × List (GBe × Int)) := cond (mapHas bW l0 (GBe.mk xs xh)) (some (mapGet bW 0 l0 (GBe.mk xs xh), l0)) (Option.bind (sx rc xb xp xs xh l0) (fun r1 => cond (xh == 0) (Option.bind (sC xb xp xs) (fun r2 => some (i64.wrap (r1.1 + r2), mapSet bW r1.2 (GBe.mk xs xh) (i64.wrap (r1.1 + r2))))) (cond (xh == 1) (Option.bind (sD xb xp xs) (fun r2 => some (i64.wrap (r1.1 + r2), mapSet bW r1.2 (GBe.mk xs xh) (i64.wrap (r1.1 + r2))))) none)))
theorem Mm (rc : GBk → (List Int) → Int → Int → (List (GBe × Int)) → Option ((Int) × List (GBe × Int))) (rc_ok : ∀ (xb : GBk) (xp : List Int) (xs : Int) (xh : Int) (l0 : List (GBe × Int)) (R : (Int) × List (GBe × Int)), rc xb xp xs xh l0 = some R → VUpd Tryz.prog G0 118 (fun β => [.agg [.lit (.int .i64 xb.Apprentices), .sl (aa eI xb.Boards) (List.length xb.Boards) false, .sl (aa cGBs xb.Strokes) (List.length xb.Strokes) false, .sl (aa eI xp) (List.length xp) false, .mp β], .lit (.int .i64 xs), .lit (.int .i64 xh)]) (encM aO cw l0) (encM aO cw R.2) (fun _ => .lit (.int .i64 R.1))) (xb : GBk) (xp : List Int) (xs : Int) (xh : Int) (l0 : List (GBe × Int)) (R : (Int) × List (GBe × Int)) (h : sE rc xb xp xs xh l0 = some R) : VUpd Tryz.prog G0 118 (fun β => [.agg [.lit (.int .i64 xb.Apprentices), .sl (aa eI xb.Boards) (List.length xb.Boards) false, .sl (aa cGBs xb.Strokes) (List.length xb.Strokes) false, .sl (aa eI xp) (List.length xp) false, .mp β], .lit (.int .i64 xs), .lit (.int .i64 xh)]) (encM aO cw l0) (encM aO cw R.2) (fun _ => .lit (.int .i64 R.1)) := by
 intro bd nx hlt
 have aS := kz (β := bd) (nx := nx) hlt
 refine ar.run mixed Tryz.call118 Tryz.func118 rfl (by simp [Tryz.ntmps118]; kernel_rfl) ?_
 obtain ⟨KF, h, kF, kN⟩ := cl h
 simp only [sE] at h
 have w2 := fun H => sF (β := bd) l0 (GBe.mk xs xh) H
 try simp only [bT] at w2
 cases d3 : (mapHas bW l0 (GBe.mk xs xh))
 ·simp only [d3, hs] at h
  obtain ⟨r4, o5, h⟩ := optI h kN
  try simp only [hs] at h
  have hk : (xh == 0) = true ∨ ((xh == 0) = false ∧ (xh == 1) = true) := by
   cases c0 : (xh == 0)
   ·cases c1 : (xh == 1)
    ·simp only [c0, c1, hs] at h
     exact absurd h kN
    exact .inr ⟨rfl, rfl⟩
   exact .inl rfl
  rcases hk with c0 | ⟨c0, c1⟩
  ·obtain rfl : xh = 0 := by simpa using c0
   simp only [c0, hs] at h
   simp only [vz, mq, mqm, vsi, tyf, mqt, aS, w2, d3, nm, seval]
   refine s5 (fun tm => tm 1 = .lit (.int .i64 xs) ∧ tm 2 = .lit (.int .i64 0) ∧ tm 3 = .ptr nx 0 ∧ tm 7 = .ptr (nx + 5) 0 ∧ tm 10 = .ptr (nx + 19) 0 ∧ True) (by refine ⟨?_, ?_, ?_, ?_, ?_, trivial⟩ <;> first | (simp only [ua, bT, aS, w2, d3, nm, seval] <;> rfl) | rfl) ?_
   rintro tm ⟨e1, e2, e3, e4, aV, _⟩
   simp only [vz, mq, mqm, vsi, tyf, mqt, aS, w2, d3, e1, e2, e3, e4, aV, nm, seval]
   refine dkupd (VUpd.at (β := bd) (y := (fun _ => .lit (.int .i64 r4.1))) (Ix rc rc_ok _ _ _ _ _ _ o5) (by omega) (by first | rfl | assumption | (simp only [bf, bg, aS, nm, seval] <;> rfl)) (by first | rfl | (simp only [nrm, tynrm, @d6, @gi] <;> rfl)) (gT (fun _ => rfl) _)) ?_
   refine ib (fun tm => tm 1 = .lit (.int .i64 xs) ∧ tm 2 = .lit (.int .i64 0) ∧ tm 3 = .ptr nx 0 ∧ tm 7 = .ptr (nx + 5) 0 ∧ tm 10 = .ptr (nx + 19) 0 ∧ tm 27 = .lit (.int .i64 r4.1) ∧ True) (by refine ⟨e1, e2, e3, e4, aV, ?_, trivial⟩ <;> first | (simp only [ua, bT, aS, e1, e2, e3, e4, aV, nm, seval] <;> rfl) | rfl) ?_
   rintro tm ⟨e1, e2, e3, e4, aV, ba, _⟩
   obtain ⟨r8, o9, h⟩ := optI h kN
   try simp only [hs] at h
   simp only [vz, mq, mqm, vsi, tyf, mqt, aS, w2, d3, e1, e2, e3, e4, aV, ba, nm, seval]
   refine dkupd (VUpd.at (β := bd) (y := (fun _ => .lit (.int .i64 r8))) (VUpd.of_lit (A := fun β => [.agg [.lit (.int .i64 xb.Apprentices), .sl (aa eI xb.Boards) (List.length xb.Boards) false, .sl (aa cGBs xb.Strokes) (List.length xb.Strokes) false, .sl (aa eI xp) (List.length xp) false, .mp β], .lit (.int .i64 xs)]) (x := fun _ => .lit (.int .i64 r8)) (es := encM aO cw r4.2) (A0 := fun _ b => [.agg [.lit (.int .i64 xb.Apprentices), .sl (aa eI xb.Boards) (List.length xb.Boards) false, .sl (aa cGBs xb.Strokes) (List.length xb.Strokes) false, .sl (aa eI xp) (List.length xp) false, .lit (.map (some b))], .lit (.int .i64 xs)]) (fun β b => by simp only [List.map_cons, List.map_nil, vlt, if_true, nrm, tynrm, @d6, tyf, mqt] <;> rfl) (fun β b => by simp only [List.map_cons, List.map_nil, vlt, if_true, tre, tytre, tyf, mqt, Bool.and_self]) (fun β b => rfl) (fun β b => Mk xb xp xs b r8 o9) (fun _ _ _ _ _ => lq (by simp only [tre, tytre, mqr, Bool.and_self]) rfl)) (by omega) (by first | rfl | assumption | (simp only [bf, bg, aS, nm, seval] <;> rfl)) (by first | rfl | (simp only [nrm, tynrm, @d6, @gi] <;> rfl)) (gT (fun _ => rfl) _)) ?_
   refine ib (fun tm => tm 1 = .lit (.int .i64 xs) ∧ tm 2 = .lit (.int .i64 0) ∧ tm 3 = .ptr nx 0 ∧ tm 7 = .ptr (nx + 5) 0 ∧ tm 27 = .lit (.int .i64 r4.1) ∧ tm 33 = .lit (.int .i64 r8) ∧ True) (by refine ⟨e1, e2, e3, e4, ba, ?_, trivial⟩ <;> first | (simp only [ua, bT, aS, e1, e2, e3, e4, aV, ba, nm, seval] <;> rfl) | rfl) ?_
   rintro tm ⟨e1, e2, e3, e4, ba, ej, _⟩
   simp only [vz, mq, mqm, vsi, tyf, mqt, aS, w2, d3, e1, e2, e3, e4, ba, ej, nm, seval]
   refine s7 ⟨?_, ?_⟩
   ·simp only [s8, s9, k7, sA, and_true, true_and]
    repeat' (first | exact trivial | refine And.intro ?_ ?_ | rw [k7] | rw [sB] | exact Or.inl (by decide +kernel) | exact Or.inl (by dsimp only; decide +kernel) | (refine Or.inr ⟨?_, ?_⟩ <;> simp; done) | (refine Or.inr ⟨?_, ?_⟩ <;> simp <;> omega) | (refine Or.inr ⟨?_, ?_⟩ <;> simp [VEff.wr] <;> omega) | (refine Or.inr ⟨?_, ?_⟩ <;> simp [rdV, rdO, topName, Op.operands, nD, nE, nG, vd, VEff.wr] <;> omega))
   have w9 := fun H => sG (β := bd) r4.2 (GBe.mk xs 0) (i64.wrap (r4.1 + r8)) H
   try simp only [bT] at w9
   try simp only [vz, mq, mqm, vsi, tyf, mqt, aS, d3, e1, e2, e3, e4, ba, ej, w9, nm, seval]
   refine dU (x := (.lit (.int .i64 (i64.wrap (r4.1 + r8))))) (by first | (simp only [Tryz.results118, resV, resL, resV1, dX, dY, uw, cr, tyf, mqt, aS, d3, w9, nm, seval] <;> rfl) | rfl) ?_
   obtain rfl := kF _ h
   refine ⟨(by first | rfl | assumption | (simp only [bf, bg, aS, nm, seval] <;> rfl)), ?_⟩
   exact sq_of (lq (by simp only [tre, tytre, mqr, Bool.and_self]) rfl)
  obtain rfl : xh = 1 := by simpa using c1
  simp only [c0, c1, hs] at h
  simp only [vz, mq, mqm, vsi, tyf, mqt, aS, w2, d3, nm, seval]
  refine s5 (fun tm => tm 1 = .lit (.int .i64 xs) ∧ tm 2 = .lit (.int .i64 1) ∧ tm 3 = .ptr nx 0 ∧ tm 7 = .ptr (nx + 5) 0 ∧ tm 10 = .ptr (nx + 19) 0 ∧ True) (by refine ⟨?_, ?_, ?_, ?_, ?_, trivial⟩ <;> first | (simp only [ua, bT, aS, w2, d3, nm, seval] <;> rfl) | rfl) ?_
  rintro tm ⟨e1, e2, e3, e4, aV, _⟩
  simp only [vz, mq, mqm, vsi, tyf, mqt, aS, w2, d3, e1, e2, e3, e4, aV, nm, seval]
  refine dkupd (VUpd.at (β := bd) (y := (fun _ => .lit (.int .i64 r4.1))) (Ix rc rc_ok _ _ _ _ _ _ o5) (by omega) (by first | rfl | assumption | (simp only [bf, bg, aS, nm, seval] <;> rfl)) (by first | rfl | (simp only [nrm, tynrm, @d6, @gi] <;> rfl)) (gT (fun _ => rfl) _)) ?_
  refine ib (fun tm => tm 1 = .lit (.int .i64 xs) ∧ tm 2 = .lit (.int .i64 1) ∧ tm 3 = .ptr nx 0 ∧ tm 7 = .ptr (nx + 5) 0 ∧ tm 10 = .ptr (nx + 19) 0 ∧ tm 27 = .lit (.int .i64 r4.1) ∧ True) (by refine ⟨e1, e2, e3, e4, aV, ?_, trivial⟩ <;> first | (simp only [ua, bT, aS, e1, e2, e3, e4, aV, nm, seval] <;> rfl) | rfl) ?_
  rintro tm ⟨e1, e2, e3, e4, aV, ba, _⟩
  obtain ⟨r8, o9, h⟩ := optI h kN
  try simp only [hs] at h
  simp only [vz, mq, mqm, vsi, tyf, mqt, aS, w2, d3, e1, e2, e3, e4, aV, ba, nm, seval]
  refine dkupd (VUpd.at (β := bd) (y := (fun _ => .lit (.int .i64 r8))) (VUpd.of_lit (A := fun β => [.agg [.lit (.int .i64 xb.Apprentices), .sl (aa eI xb.Boards) (List.length xb.Boards) false, .sl (aa cGBs xb.Strokes) (List.length xb.Strokes) false, .sl (aa eI xp) (List.length xp) false, .mp β], .lit (.int .i64 xs)]) (x := fun _ => .lit (.int .i64 r8)) (es := encM aO cw r4.2) (A0 := fun _ b => [.agg [.lit (.int .i64 xb.Apprentices), .sl (aa eI xb.Boards) (List.length xb.Boards) false, .sl (aa cGBs xb.Strokes) (List.length xb.Strokes) false, .sl (aa eI xp) (List.length xp) false, .lit (.map (some b))], .lit (.int .i64 xs)]) (fun β b => by simp only [List.map_cons, List.map_nil, vlt, if_true, nrm, tynrm, @d6, tyf, mqt] <;> rfl) (fun β b => by simp only [List.map_cons, List.map_nil, vlt, if_true, tre, tytre, tyf, mqt, Bool.and_self]) (fun β b => rfl) (fun β b => Ml xb xp xs b r8 o9) (fun _ _ _ _ _ => lq (by simp only [tre, tytre, mqr, Bool.and_self]) rfl)) (by omega) (by first | rfl | assumption | (simp only [bf, bg, aS, nm, seval] <;> rfl)) (by first | rfl | (simp only [nrm, tynrm, @d6, @gi] <;> rfl)) (gT (fun _ => rfl) _)) ?_
  refine ib (fun tm => tm 1 = .lit (.int .i64 xs) ∧ tm 2 = .lit (.int .i64 1) ∧ tm 3 = .ptr nx 0 ∧ tm 7 = .ptr (nx + 5) 0 ∧ tm 27 = .lit (.int .i64 r4.1) ∧ tm 33 = .lit (.int .i64 r8) ∧ True) (by refine ⟨e1, e2, e3, e4, ba, ?_, trivial⟩ <;> first | (simp only [ua, bT, aS, e1, e2, e3, e4, aV, ba, nm, seval] <;> rfl) | rfl) ?_
  rintro tm ⟨e1, e2, e3, e4, ba, ej, _⟩
  simp only [vz, mq, mqm, vsi, tyf, mqt, aS, w2, d3, e1, e2, e3, e4, ba, ej, nm, seval]
  refine s7 ⟨?_, ?_⟩
  ·simp only [s8, s9, k7, sA, and_true, true_and]
   repeat' (first | exact trivial | refine And.intro ?_ ?_ | rw [k7] | rw [sB] | exact Or.inl (by decide +kernel) | exact Or.inl (by dsimp only; decide +kernel) | (refine Or.inr ⟨?_, ?_⟩ <;> simp; done) | (refine Or.inr ⟨?_, ?_⟩ <;> simp <;> omega) | (refine Or.inr ⟨?_, ?_⟩ <;> simp [VEff.wr] <;> omega) | (refine Or.inr ⟨?_, ?_⟩ <;> simp [rdV, rdO, topName, Op.operands, nD, nE, nG, vd, VEff.wr] <;> omega))
  have w9 := fun H => sG (β := bd) r4.2 (GBe.mk xs 1) (i64.wrap (r4.1 + r8)) H
  try simp only [bT] at w9
  try simp only [vz, mq, mqm, vsi, tyf, mqt, aS, d3, e1, e2, e3, e4, ba, ej, w9, nm, seval]
  refine dU (x := (.lit (.int .i64 (i64.wrap (r4.1 + r8))))) (by first | (simp only [Tryz.results118, resV, resL, resV1, dX, dY, uw, cr, tyf, mqt, aS, d3, w9, nm, seval] <;> rfl) | rfl) ?_
  obtain rfl := kF _ h
  refine ⟨(by first | rfl | assumption | (simp only [bf, bg, aS, nm, seval] <;> rfl)), ?_⟩
  exact sq_of (lq (by simp only [tre, tytre, mqr, Bool.and_self]) rfl)
 simp only [d3, hs] at h
 try simp only [vz, mq, mqm, vsi, tyf, mqt, aS, w2, d3, nm, seval]
 refine dU (x := (.lit (.int .i64 (mapGet bW 0 l0 (GBe.mk xs xh))))) (by first | (simp only [Tryz.results118, resV, resL, resV1, dX, dY, uw, cr, tyf, mqt, aS, w2, d3, nm, seval] <;> rfl) | rfl) ?_
 obtain rfl := kF _ h
 refine ⟨(by first | rfl | assumption | (simp only [bf, bg, aS, nm, seval] <;> rfl)), ?_⟩
 exact sq_of (lq (by simp only [tre, tytre, mqr, Bool.and_self]) rfl)
def gEnd : Nat → GBk → (List Int) → Int → Int → (List (GBe × Int)) → Option ((Int) × List (GBe × Int))
 | 0 => fun _ _ _ _ _ => none
 | n + 1 => sE (gEnd n)
theorem sH : ∀ (n : Nat) (xb : GBk) (xp : List Int) (xs : Int) (xh : Int) (l0 : List (GBe × Int)) (R : (Int) × List (GBe × Int)), gEnd n xb xp xs xh l0 = some R → VUpd Tryz.prog G0 118 (fun β => [.agg [.lit (.int .i64 xb.Apprentices), .sl (aa eI xb.Boards) (List.length xb.Boards) false, .sl (aa cGBs xb.Strokes) (List.length xb.Strokes) false, .sl (aa eI xp) (List.length xp) false, .mp β], .lit (.int .i64 xs), .lit (.int .i64 xh)]) (encM aO cw l0) (encM aO cw R.2) (fun _ => .lit (.int .i64 R.1))
 | 0, _, _, _, _, _, _, h => by cases h
 | n + 1, xb, xp, xs, xh, l0, R, h => Mm (gEnd n) (sH n) xb xp xs xh l0 R h
def v7 (xb : GBk) (xp : List Int) (xss : List Int) (xh : Int) (l0 : List (GBe × Int)) : Option ((List Int) × List (GBe × Int)) := qw (gEnd 8) xb xp xss xh l0
theorem Iy (xb : GBk) (xp : List Int) (xss : List Int) (xh : Int) (l0 : List (GBe × Int)) (R : (List Int) × List (GBe × Int)) (h : v7 xb xp xss xh l0 = some R) : VUpd Tryz.prog G0 106 (fun β => [.agg [.lit (.int .i64 xb.Apprentices), .sl (aa eI xb.Boards) (List.length xb.Boards) false, .sl (aa cGBs xb.Strokes) (List.length xb.Strokes) false, .sl (aa eI xp) (List.length xp) false, .mp β], .sl (aa eI xss) (List.length xss) false, .lit (.int .i64 xh)]) (encM aO cw l0) (encM aO cw R.2) (fun _ => .sl (aa eI R.1) (List.length R.1) false) := Iv (gEnd 8) (sH 8) xb xp xss xh l0 R h
end Go.V
end
section
namespace Go.V
open Go Go.Proofs IntKind
section
variable {K V : Type} {q : K → K → Bool} {z : V}
def setR (q : K → K → Bool) (k : K) (v : V) : List (K × V) → List (K × V)
 | [] => [(k, v)]
 | e :: l => if q k e.1 then (k, v) :: l else e :: setR q k v l
theorem sI (k : K) : ∀ (es : List K) (i : Nat), kIdx q k es (i + 1) = (kIdx q k es i).map (· + 1)
 | [], _ => rfl
 | e :: es, i => by
  unfold kIdx
  cases q k e with
  | true => rfl
  | false => exact sI k es (i + 1)
theorem Iz (k : K) (v : V) : ∀ l : List (K × V), mapSet q l k v = setR q k v l
 | [] => rfl
 | e :: l => by
  have ih := Iz k v l
  unfold mapSet at ih ⊢
  rw [List.map_cons]
  unfold kIdx setR
  cases hq : q k e.1 with
  | true => rfl
  | false =>
   simp only [cond_false, Bool.false_eq_true, if_false]
   rw [sI]
   cases h : kIdx q k (l.map (·.1)) 0 with
   | none => rw [h] at ih; simpa using ih
   | some i => rw [h] at ih; simpa using ih
end
end Go.V
end
section
namespace Go.V
open Go Go.Proofs IntKind
def sJ (xb : GBk) (xp : List Int) (xss : List Int) (l0 : List (GBe × Int)) : Option ((GSpan) × List (GBe × Int)) := Option.bind (v7 xb xp xss 0 l0) (fun r1 => Option.bind (mC r1.1) (fun r2 => Option.bind (v7 xb xp xss 1 r1.2) (fun r3 => Option.bind (mC r3.1) (fun r4 => some ((GSpan.mk r2 r4), r3.2)))))
theorem I0 (xb : GBk) (xp : List Int) (xss : List Int) (l0 : List (GBe × Int)) (R : (GSpan) × List (GBe × Int)) (h : sJ xb xp xss l0 = some R) : VUpd Tryz.prog G0 70 (fun β => [.agg [.lit (.int .i64 xb.Apprentices), .sl (aa eI xb.Boards) (List.length xb.Boards) false, .sl (aa cGBs xb.Strokes) (List.length xb.Strokes) false, .sl (aa eI xp) (List.length xp) false, .mp β], .sl (aa eI xss) (List.length xss) false]) (encM aO cw l0) (encM aO cw R.2) (fun _ => .agg (aj R.1)) := by
 intro bd nx hlt
 have aS := kz (β := bd) (nx := nx) hlt
 refine ar.run mixed Tryz.call70 Tryz.func70 rfl (by simp [Tryz.ntmps70]; kernel_rfl) ?_
 obtain ⟨KF, h, kF, kN⟩ := cl h
 simp only [sJ] at h
 simp only [vz, mq, mqm, vsi, tyf, mqt, aS, nm, seval]
 refine s5 (fun tm => tm 1 = .sl (aa eI xss) (List.length xss) false ∧ tm 2 = .ptr nx 0 ∧ tm 4 = .ptr (nx + 1) 0 ∧ True) (by refine ⟨?_, ?_, ?_, trivial⟩ <;> first | (simp only [ua, bT, aS, nm, seval] <;> rfl) | rfl) ?_
 rintro tm ⟨e5, e6, e7, _⟩
 obtain ⟨r8, o9, h⟩ := optI h kN
 try simp only [hs] at h
 simp only [vz, mq, mqm, vsi, tyf, mqt, aS, e5, e6, e7, nm, seval]
 refine dkupd (VUpd.at (β := bd) (y := (fun _ => .sl (aa eI r8.1) (List.length r8.1) false)) (Iy _ _ _ _ _ _ o9) (by omega) (by first | rfl | assumption | (simp only [bf, bg, aS, nm, seval] <;> rfl)) (by first | rfl | (simp only [nrm, tynrm, @d6, @gi] <;> rfl)) (gT (fun _ => rfl) _)) ?_
 refine ib (fun tm => tm 1 = .sl (aa eI xss) (List.length xss) false ∧ tm 2 = .ptr nx 0 ∧ tm 4 = .ptr (nx + 1) 0 ∧ tm 7 = .sl (aa eI r8.1) (List.length r8.1) false ∧ True) (by refine ⟨e5, e6, e7, ?_, trivial⟩ <;> first | (simp only [ua, bT, aS, e5, e6, e7, nm, seval] <;> rfl) | rfl) ?_
 rintro tm ⟨aV, bh, cm, bV, _⟩
 obtain ⟨hY, n0, h⟩ := optI h kN
 try simp only [hs] at h
 simp only [vz, mq, mqm, vsi, tyf, mqt, aS, aV, bh, cm, bV, nm, seval]
 refine dktree (args0 := [.sl (aa eI r8.1) (List.length r8.1) false]) (by first | (simp only [nrm, tynrm, @d6] <;> rfl) | rfl) (by simp only [tre, tytre, mqr, Bool.and_self]) (v5 _ _ n0) ?_
 refine br (fun tm => tm 1 = .sl (aa eI xss) (List.length xss) false ∧ tm 2 = .ptr nx 0 ∧ tm 4 = .ptr (nx + 1) 0 ∧ tm 8 = .lit (.int .i64 hY) ∧ True) (by refine ⟨aV, bh, cm, ?_, trivial⟩ <;> first | (simp only [ua, bT, aS, aV, bh, cm, bV, nm, seval] <;> rfl) | rfl) ?_
 rintro tm ⟨bS, bw, b4, bG, _⟩
 obtain ⟨jq, jr, h⟩ := optI h kN
 try simp only [hs] at h
 simp only [vz, mq, mqm, vsi, tyf, mqt, aS, bS, bw, b4, bG, nm, seval]
 refine dkupd (VUpd.at (β := bd) (y := (fun _ => .sl (aa eI jq.1) (List.length jq.1) false)) (Iy _ _ _ _ _ _ jr) (by omega) (by first | rfl | assumption | (simp only [bf, bg, aS, nm, seval] <;> rfl)) (by first | rfl | (simp only [nrm, tynrm, @d6, @gi] <;> rfl)) (gT (fun _ => rfl) _)) ?_
 refine ib (fun tm => tm 4 = .ptr (nx + 1) 0 ∧ tm 8 = .lit (.int .i64 hY) ∧ tm 11 = .sl (aa eI jq.1) (List.length jq.1) false ∧ True) (by refine ⟨b4, bG, ?_, trivial⟩ <;> first | (simp only [ua, bT, aS, bS, bw, b4, bG, nm, seval] <;> rfl) | rfl) ?_
 rintro tm ⟨cW, cb, bA, _⟩
 obtain ⟨fA, gS, h⟩ := optI h kN
 try simp only [hs] at h
 simp only [vz, mq, mqm, vsi, tyf, mqt, aS, cW, cb, bA, nm, seval]
 refine dktree (args0 := [.sl (aa eI jq.1) (List.length jq.1) false]) (by first | (simp only [nrm, tynrm, @d6] <;> rfl) | rfl) (by simp only [tre, tytre, mqr, Bool.and_self]) (v5 _ _ gS) ?_
 refine br (fun tm => tm 4 = .ptr (nx + 1) 0 ∧ tm 8 = .lit (.int .i64 hY) ∧ tm 12 = .lit (.int .i64 fA) ∧ True) (by refine ⟨cW, cb, ?_, trivial⟩ <;> first | (simp only [ua, bT, aS, cW, cb, bA, nm, seval] <;> rfl) | rfl) ?_
 rintro tm ⟨ba, du, dc, _⟩
 simp only [vz, mq, mqm, vsi, tyf, mqt, aS, ba, du, dc, nm, seval]
 refine s7 ⟨?_, ?_⟩
 ·simp only [s8, s9, k7, sA, and_true, true_and]
  repeat' (first | exact trivial | refine And.intro ?_ ?_ | rw [k7] | rw [sB] | exact Or.inl (by decide +kernel) | exact Or.inl (by dsimp only; decide +kernel) | (refine Or.inr ⟨?_, ?_⟩ <;> simp; done) | (refine Or.inr ⟨?_, ?_⟩ <;> simp <;> omega) | (refine Or.inr ⟨?_, ?_⟩ <;> simp [VEff.wr] <;> omega))
 try simp only [vz, mq, mqm, vsi, tyf, mqt, aS, ba, du, dc, nm, seval]
 refine dU (x := (.agg ([.lit (.int .i64 hY)] ++ [.lit (.int .i64 fA)]))) (by first | (simp only [Tryz.results70, resV, resL, resV1, dX, dY, uw, cr, tyf, mqt, aS, ba, du, dc, nm, seval] <;> rfl) | rfl) ?_
 obtain rfl := kF _ h
 refine ⟨(by first | rfl | assumption | (simp only [bf, bg, aS, nm, seval] <;> rfl)), ?_⟩
 exact sq_of (lq (by first | (simp only [tre, tytre, mqr, Bool.and_self]; done) | rfl) rfl)

theorem kupdF {P : Program} {G : Glob} {H : Nat → Option VObj} {f : FuncId} {args args' cs : List VV} {el : Option TypeId} {y : VV} {d : Option Tmp} {γ β g : Nat} {tm : Nat → VV} {nx : Nat} {df : List VDef} {K : St → Prop} {Qp : VV → St → Prop} {es' : List (Value × VV)} (hγ : H g = some (.cells el cs)) (ha : FrozenL H (without H g) args args')
  (hu : UpdC P G f args' (without H g) nx β es' y) (h : fin d γ tm (without H g) nx df K y (.upd β (.map es'))) : callK P G f args ⟨tm, H, nx, df⟩ d γ K Qp := by
 refine .inr (.inr ?_)
 unfold openK
 refine ar.mono (ar.freeze1 hγ ha hu.open) ?_ (fun _ _ _ h => h.elim)
 rintro v H2 Mn ⟨rfl, rfl, rfl⟩
 rw [← dj (K := K)] at h
 cases d <;> exact h
theorem bk {α : Type} {a : α} {l m : List α} : List.append (a :: l) m = a :: List.append l m := rfl
theorem bl {α : Type} {m : List α} : List.append [] m = m := rfl



end Go.V
end
section
namespace Go.V
open Go Go.Proofs IntKind
theorem Len.of {b : GBk} (h : aH b.Boards = true ∧ aH b.Strokes = true ∧ ∀ y ∈ b.Strokes, aH y.Needs = true) : Len b := ⟨zD h.1, zD h.2.1, fun s hs => zD (h.2.2 s hs)⟩
theorem I1 : ∀ (p : List GBs) (c : Int), nH p c = some (.go ()) ∨ nH p c = some (.ret false)
 | [], c => .inl rfl
 | s :: p, c => by
  simp only [nH]
  cases decide (c < 9) with
  | false => exact .inl rfl
  | true =>
   cases decide ((s.Needs.length : Int) > 8) with
   | true => exact .inr rfl
   | false => exact I1 p (c + 1)
theorem Mo {b : GBk} (h : Len b) : q9 b = some false ∨ (q9 b = some true ∧ BOk b) := by
 unfold q9 v8
 rw [fQ h.st, cond_true, zY h]
 rcases I1 b.Strokes 0 with e | e
 ·rw [e]
  simp only [lbind]
  cases h1 : (decide ((b.Boards.length : Int) ≤ 5)) with
  | false => exact .inl rfl
  | true =>
   cases h2 : (decide ((b.Strokes.length : Int) ≤ 8)) with
   | false => exact .inl rfl
   | true =>
    cases h3 : benchB b with
    | false => exact .inl rfl
    | true => exact .inr ⟨rfl, v9.1 h3⟩
 ·rw [e]; exact .inl rfl
theorem BOk.len {b : GBk} (h : BOk b) (hl : ∀ s ∈ b.Strokes, s.Needs.length < 9223372036854775808) : Len b := ⟨by have := h.nb; omega, by have := h.ns; omega, hl⟩
structure HOk (n : Int) (s : GBs) : Prop where
 nd : ∀ k ∈ s.Needs, 0 ≤ k ∧ k < n
 ad : adjB s.Needs = true
 hr : 0 ≤ s.Hours.Low ∧ s.Hours.Low ≤ 15 ∧ 0 ≤ s.Hours.High ∧ s.Hours.High ≤ 15
structure BH (b : GBk) : Prop where
 ns : 1 ≤ b.Strokes.length ∧ b.Strokes.length ≤ 6
 s : ∀ {i : Nat} {s : GBs}, b.Strokes[i]? = some s → HOk i s
theorem BOk.h {b : GBk} (h : BOk b) : BH b := ⟨h.ns, fun hs => by have := h.s hs; have h2 := this.hr; exact ⟨this.nd, this.ad, by omega⟩⟩
def nF (b : GBk) (s : Nat) : List Int := match b.Strokes[s]? with | some x => x.Needs | none => []
def dF (b : GBk) (h : Int) (s : Nat) : Int := match b.Strokes[s]? with | some x => if h = 0 then x.Hours.Low else x.Hours.High | none => 0
def hF (pl : List Int) (s : Nat) : Int := (pl[s]?).getD 0
def EE (b : GBk) (pl : List Int) (h : Int) (s : Nat) : Int := Ed (hF pl) (nF b) (dF b h) s
def BB (b : GBk) (pl : List Int) (h : Int) (s : Nat) : Int := Bg (hF pl) (nF b) (dF b h) s
def FF (b : GBk) (pl : List Int) (h : Int) (s : Nat) : Int := frF (hF pl) (EE b pl h) (hF pl s) s
theorem BH.nd {b : GBk} (h : BH b) : NdOk (nF b) := by
 intro s k hk
 unfold nF at hk
 split at hk
 ·rename_i x hx
  have := (h.s hx).nd k hk
  omega
 ·cases hk
theorem BH.d {b : GBk} (h : BH b) (hr : Int) (s : Nat) : 0 ≤ dF b hr s ∧ dF b hr s ≤ 15 := by
 unfold dF
 split
 ·rename_i x hx
  have := (h.s hx).hr
  split <;> omega
 ·omega
theorem EE_b {b : GBk} (h : BH b) (pl : List Int) (hr : Int) {s : Nat} (hs : s < b.Strokes.length) : 0 ≤ EE b pl hr s ∧ EE b pl hr s ≤ 90 := by
 have h1 := Ed_nn (hd := hF pl) h.nd (fun k => (h.d hr k).1) s
 have h2 := Ip (hd := hF pl) h.nd (h.d hr) s
 have := h.ns
 unfold EE
 omega
theorem EE_eq {b : GBk} (h : BH b) (pl : List Int) (hr : Int) (s : Nat) : EE b pl hr s = BB b pl hr s + dF b hr s := Ed_eq h.nd s
theorem BB_b {b : GBk} (h : BH b) (pl : List Int) (hr : Int) {s : Nat} (hs : s < b.Strokes.length) : 0 ≤ BB b pl hr s ∧ BB b pl hr s ≤ 90 := by
 have h1 := EE_b h pl hr hs
 have h2 := h.d hr s
 have h3 := Bg_nn (hd := hF pl) (nd := nF b) (d := dF b hr) s
 rw [EE_eq h] at h1
 have h3 : 0 ≤ BB b pl hr s := h3
 omega
theorem zZ {b : GBk} (pl : List Int) (hr : Int) (s : Nat) : BB b pl hr s = max (max 0 (FF b pl hr s)) (mxL ((nF b s).map fun k => EE b pl hr k.toNat)) := rfl
def InvE (b : GBk) (pl : List Int) (l : List (GBe × Int)) : Prop := ∀ p ∈ l, p.2 = EE b pl p.1.hours p.1.stroke.toNat
theorem InvE.nil {b : GBk} {pl : List Int} : InvE b pl [] := fun _ h => by cases h
theorem InvE.has {b : GBk} {pl : List Int} {l : List (GBe × Int)} (h : InvE b pl l) {k : GBe} (hk : mapHas bW l k = true) : mapGet bW 0 l k = EE b pl k.hours k.stroke.toNat := by
 unfold mapHas at hk
 unfold mapGet
 cases hi : kIdx bW k (l.map (·.1)) 0 with
 | none => rw [hi] at hk; cases hk
 | some i =>
  obtain ⟨_, e, he, hq⟩ := vA _ _ _ hi
  rw [Nat.sub_zero, List.getElem?_map] at he
  cases hg : l[i]? with
  | none => rw [hg] at he; cases he
  | some p =>
   rw [hg] at he
   simp only [Option.map_some, Option.some.injEq] at he
   have hpe := jC _ _ hq
   have hv := h p (List.mem_of_getElem? hg)
   rw [he, ← hpe] at hv
   simp only [hg, hv]
theorem I2 {K V : Type} {q : K → K → Bool} {k : K} {v : V} : ∀ {l : List (K × V)} {p : K × V}, p ∈ setR q k v l → p ∈ l ∨ p.2 = v ∧ (p.1 = k ∨ q k p.1 = true)
 | [], p, h => by
  simp only [setR, List.mem_singleton] at h
  exact .inr ⟨by rw [h], .inl (by rw [h])⟩
 | a :: l, p, h => by
  unfold setR at h
  split at h
  ·rename_i hq
   rcases List.mem_cons.1 h with rfl | h
   ·exact .inr ⟨rfl, .inl rfl⟩
   ·exact .inl (List.mem_cons_of_mem _ h)
  ·rcases List.mem_cons.1 h with rfl | h
   ·exact .inl (List.mem_cons_self ..)
   ·exact (I2 h).imp (List.mem_cons_of_mem _) id
theorem InvE.set {b : GBk} {pl : List Int} {l : List (GBe × Int)} (h : InvE b pl l) (s hr : Int) : InvE b pl (mapSet bW l ⟨s, hr⟩ (EE b pl hr s.toNat)) := by
 intro p hp
 rw [Iz] at hp
 rcases I2 hp with hp | ⟨h1, h2⟩
 ·exact h p hp
 ·have e : p.1 = ⟨s, hr⟩ := by
   rcases h2 with h2 | h2
   ·exact h2
   ·exact (jC _ _ h2).symm
  rw [h1, e]
abbrev RC := GBk → List Int → Int → Int → List (GBe × Int) → Option (Int × List (GBe × Int))
def RcOk (rc : RC) (b : GBk) (pl : List Int) (h : Int) (n : Nat) : Prop := ∀ (k : Int) l, 0 ≤ k → k.toNat < n → InvE b pl l → ∃ l', rc b pl k h l = some (EE b pl h k.toNat, l') ∧ InvE b pl l'
theorem room8 {n : Nat} (h : n ≤ 1000) : roomOk 8 n = true := by simp [roomOk]; omega
theorem I7 : ∀ (p : List Int) (i c : Int), qA p i c = some (.go (p.foldl max c))
 | [], _, _ => rfl
 | e :: p, i, c => by
  simp only [qA, I7 p, List.foldl_cons]
  have : (if c < e then e else c) = max c e := by split <;> omega
  rw [this]
theorem vB {l : List Int} (h : l.length < 9223372036854775808) : mC l = some (mxL l) := by
 unfold mC
 rw [fQ h, cond_true, I7]
 rfl
theorem getP {pl : List Int} {n : Nat} {s : Int} (hl : pl.length = n) (h0 : 0 ≤ s) (h1 : s.toNat < n) : getI pl s = some (hF pl s.toNat) := by
 unfold getI hF
 rw [if_pos h0, List.getElem?_eq_getElem (by omega)]
 rfl
theorem sK {rc : RC} {b : GBk} {pl : List Int} {h : Int} {s : Int} {N : Nat} (hp : pl.length = N) (fB : 0 ≤ s) (hs : s.toNat < N) (hN : N ≤ 6) (hrc : RcOk rc b pl h s.toNat) {l : List (GBe × Int)} (hl : InvE b pl l) :
  ∀ (k0 k : Nat), k < k0 → k ≤ s.toNat → ∃ l', lbind (nI rc b pl s h l k0 ((k : Int) - 1)) (fun r => some r) (fun _ => some (0, l)) (fun _ _ => none) = some (frF (hF pl) (EE b pl h) (hF pl s.toNat) k, l') ∧ InvE b pl l'
 | 0, _, hk, _ => absurd hk (Nat.not_lt_zero _)
 | k0 + 1, 0, _, _ => by
  simp only [nI]
  rw [decide_eq_false (by omega), cond_false]
  exact ⟨l, rfl, hl⟩
 | k0 + 1, k + 1, hk, hks => by
  simp only [nI]
  rw [decide_eq_true (by omega), cond_true, getP hp (by omega) (by omega), getP hp fB hs]
  have e : (((k + 1 : Nat) : Int) - 1).toNat = k := by omega
  simp only [Option.bind_some, e]
  unfold frF
  by_cases hh : hF pl k = hF pl s.toNat
  ·obtain ⟨l', e1, hl'⟩ := hrc (((k + 1 : Nat) : Int) - 1) l (by omega) (by omega) hl
   rw [show (hF pl k == hF pl s.toNat) = true by simpa using hh, cond_true, e1, if_pos hh, e]
   exact ⟨l', rfl, hl'⟩
  ·rw [show (hF pl k == hF pl s.toNat) = false by simpa using hh, cond_false, if_neg hh, j6 (by omega) (by omega), show ((k + 1 : Nat) : Int) - 1 - 1 = (k : Int) - 1 by omega]
   exact sK hp fB hs hN hrc hl k0 k (by omega) (by omega)
theorem Aa {rc : RC} {b : GBk} {pl : List Int} {h : Int} {s : Int} {N : Nat} (hp : pl.length = N) (fB : 0 ≤ s) (hs : s.toNat < N) (hN : N ≤ 6) (hrc : RcOk rc b pl h s.toNat) {l : List (GBe × Int)} (hl : InvE b pl l) :
  ∃ l', sy rc b pl s h l = some (FF b pl h s.toNat, l') ∧ InvE b pl l' := by
 unfold sy FF
 have := sK hp fB hs hN hrc hl 1000000 s.toNat (by omega) (Nat.le_refl _)
 rw [j6 (by omega) (by omega)]
 rw [show ((s.toNat : Nat) : Int) - 1 = s - 1 by omega] at this
 exact this
theorem I8 {rc : RC} {b : GBk} {pl : List Int} {h : Int} {n : Nat} (hrc : RcOk rc b pl h n) : ∀ (p : List Int) (i : Int) (acc : List Int) (l : List (GBe × Int)), (∀ k ∈ p, 0 ≤ k ∧ k.toNat < n) → acc.length + p.length ≤ 1000 → InvE b pl l →
  ∃ l', lb rc b pl h p i acc l = some (.go (acc ++ p.map (fun k => EE b pl h k.toNat), l')) ∧ InvE b pl l'
 | [], i, acc, l, _, _, hl => ⟨l, by simp [lb], hl⟩
 | k :: p, i, acc, l, hk, hn, hl => by
  have h1 := hk k (List.mem_cons_self ..)
  obtain ⟨l1, e1, cX⟩ := hrc k l h1.1 h1.2 hl
  simp only [lb, e1, Option.bind_some]
  rw [room8 (by simp at hn ⊢; omega), cond_true]
  obtain ⟨l2, e2, fC⟩ := I8 hrc p (i + 1) (acc ++ [EE b pl h k.toNat]) l1 (fun k hk' => hk k (List.mem_cons_of_mem _ hk')) (by simp at hn ⊢; omega) cX
  exact ⟨l2, by rw [e2]; simp, fC⟩
theorem IA {rc : RC} {b : GBk} {pl : List Int} {h : Int} {n : Nat} (hrc : RcOk rc b pl h n) {p : List Int} (hk : ∀ k ∈ p, 0 ≤ k ∧ k.toNat < n) (hn : p.length ≤ 1000) {l : List (GBe × Int)} (hl : InvE b pl l) :
  ∃ l', qw rc b pl p h l = some (p.map (fun k => EE b pl h k.toNat), l') ∧ InvE b pl l' := by
 obtain ⟨l', e, hl'⟩ := I8 hrc p 0 [] l hk (by simpa using hn) hl
 unfold qw
 rw [fQ (by omega), cond_true, e]
 exact ⟨l', rfl, hl'⟩
theorem IB : ∀ (l : List Int) (a : Int), adjB (a :: l) = true → ∀ m : Int, (∀ k ∈ a :: l, k < m) → (l.length : Int) < m - a
 | [], a, _, m, h => by have := h a (by simp); simp; omega
 | e :: l, a, h, m, hm => by
  have h' : (decide (a < e) && adjB (e :: l)) = true := h
  simp only [Bool.and_eq_true, decide_eq_true_eq] at h'
  have := IB l e h'.2 m (fun k hk => hm k (List.mem_cons_of_mem _ hk))
  simp only [List.length_cons]
  omega
theorem HOk.few {n : Int} {s : GBs} (h : HOk n s) (hn : n ≤ 6) : s.Needs.length ≤ 6 := by
 cases e : s.Needs with
 | nil => simp
 | cons a l =>
  have h1 := h.ad
  rw [e] at h1
  have := IB l a h1 n (fun k hk => (h.nd k (by rw [e]; exact hk)).2)
  have h2 := h.nd a (by rw [e]; simp)
  simp only [List.length_cons]
  omega
theorem getS {b : GBk} {s : Int} (h0 : 0 ≤ s) (h1 : s.toNat < b.Strokes.length) : ∃ x, getI b.Strokes s = some x ∧ b.Strokes[s.toNat]? = some x := by
 refine ⟨b.Strokes[s.toNat], ?_, List.getElem?_eq_getElem h1⟩
 unfold getI
 rw [if_pos h0, List.getElem?_eq_getElem h1]
theorem Ab {rc : RC} {b : GBk} (hb : BH b) {pl : List Int} (hp : pl.length = b.Strokes.length) {h : Int} {s : Int} (fB : 0 ≤ s) (hs : s.toNat < b.Strokes.length) (hrc : RcOk rc b pl h s.toNat) {l : List (GBe × Int)} (hl : InvE b pl l) :
  ∃ l', sx rc b pl s h l = some (BB b pl h s.toNat, l') ∧ InvE b pl l' := by
 have hns := hb.ns
 obtain ⟨x, e1, e2⟩ := getS fB hs
 have hx := hb.s e2
 have hfew := hx.few (by omega)
 obtain ⟨l1, f1, cX⟩ := Aa hp fB hs (by omega) hrc hl
 obtain ⟨l2, f2, fC⟩ := IA hrc (p := x.Needs) (fun k hk => by have := hx.nd k hk; omega) (by omega) cX
 unfold sx
 simp only [f1, e1, f2, Option.bind_some]
 rw [vB (by simp; omega)]
 simp only [Option.bind_some]
 rw [vB (by simp)]
 refine ⟨l2, ?_, fC⟩
 simp only [Option.bind_some, zZ, nF, e2]
 rfl
theorem Ac {b : GBk} {pl : List Int} {s : Int} (h0 : 0 ≤ s) (h1 : s.toNat < b.Strokes.length) : sC b pl s = some (dF b 0 s.toNat) := by
 obtain ⟨x, e1, e2⟩ := getS h0 h1
 simp [sC, e1, dF, e2]
theorem Mp {b : GBk} {pl : List Int} {s : Int} (h0 : 0 ≤ s) (h1 : s.toNat < b.Strokes.length) : sD b pl s = some (dF b 1 s.toNat) := by
 obtain ⟨x, e1, e2⟩ := getS h0 h1
 simp [sD, e1, dF, e2]
theorem Ad {rc : RC} {b : GBk} (hb : BH b) {pl : List Int} (hp : pl.length = b.Strokes.length) {h : Int} (hh : h = 0 ∨ h = 1) {s : Int} (fB : 0 ≤ s) (hs : s.toNat < b.Strokes.length) (hrc : RcOk rc b pl h s.toNat) {l : List (GBe × Int)} (hl : InvE b pl l) :
  ∃ l', sE rc b pl s h l = some (EE b pl h s.toNat, l') ∧ InvE b pl l' := by
 unfold sE
 cases hm : mapHas bW l ⟨s, h⟩ with
 | true =>
  rw [cond_true, hl.has hm]
  exact ⟨l, rfl, hl⟩
 | false =>
  obtain ⟨l1, e1, cX⟩ := Ab hb hp fB hs hrc hl
  have h1 := BB_b hb pl h hs
  have h2 := hb.d h s.toNat
  rw [cond_false, e1, Option.bind_some]
  rcases hh with rfl | rfl
  ·rw [Ac fB hs]
   simp only [Option.bind_some, beq_self_eq_true, cond_true]
   rw [j6 (by omega) (by omega), ← EE_eq hb]
   exact ⟨_, rfl, cX.set s 0⟩
  ·rw [Mp fB hs]
   simp only [Option.bind_some, beq_self_eq_true, cond_true, show ((1 : Int) == 0) = false from rfl, cond_false]
   rw [j6 (by omega) (by omega), ← EE_eq hb]
   exact ⟨_, rfl, cX.set s 1⟩
theorem sL {b : GBk} (hb : BH b) {pl : List Int} (hp : pl.length = b.Strokes.length) {h : Int} (hh : h = 0 ∨ h = 1) : ∀ (f n : Nat), n ≤ f → n ≤ b.Strokes.length → RcOk (gEnd f) b pl h n
 | 0, n, hn, _ => fun k l h0 h1 hl => absurd h1 (by omega)
 | f + 1, n, hn, hnl => fun k l h0 h1 hl => Ad hb hp hh h0 (by omega) (sL hb hp hh f k.toNat (by omega) (by omega)) hl
section
variable {b : GBk} (hb : BH b) {pl : List Int} (hp : pl.length = b.Strokes.length) {h : Int} (hh : h = 0 ∨ h = 1) {l : List (GBe × Int)} (hl : InvE b pl l)
include hb hp hh hl
theorem IC {p : List Int} (hk : ∀ k ∈ p, 0 ≤ k ∧ k.toNat < b.Strokes.length) (hn : p.length ≤ 1000) : ∃ l', v7 b pl p h l = some (p.map (fun k => EE b pl h k.toNat), l') ∧ InvE b pl l' :=
 IA (sL hb hp hh 8 b.Strokes.length (by have := hb.ns; omega) (Nat.le_refl _)) hk hn hl
end
section
variable {b : GBk} (hb : BH b) {pl : List Int} (hp : pl.length = b.Strokes.length) {l : List (GBe × Int)} (hl : InvE b pl l)
include hb hp hl
theorem Ae {p : List Int} (hk : ∀ k ∈ p, 0 ≤ k ∧ k.toNat < b.Strokes.length) (hn : p.length ≤ 1000) : ∃ l', sJ b pl p l = some (⟨mxL (p.map fun k => EE b pl 0 k.toNat), mxL (p.map fun k => EE b pl 1 k.toNat)⟩, l') ∧ InvE b pl l' := by
 obtain ⟨l1, e1, cX⟩ := IC hb hp (.inl rfl) hl hk hn
 obtain ⟨l2, e2, fC⟩ := IC hb hp (.inr rfl) cX hk hn
 unfold sJ
 simp only [e1, Option.bind_some]
 rw [vB (by simp; omega)]
 simp only [e2, Option.bind_some]
 rw [vB (by simp; omega)]
 exact ⟨l2, rfl, fC⟩
end
end Go.V
end
