/- Part of a proof. -/
import Derived.Test.YtmhlghgbfmcdaaaGreatDoorB1bk
set_option linter.all false
set_option maxRecDepth 4000
set_option maxHeartbeats 40000000
section
namespace Go.V
open Go Go.Proofs
def jG (ai : GBk) (ae : List Int) : List GBs → Int → (List GSpan) → (List (GBe × Int)) → Option (LOut ((List GSpan) × Int) ((List GSpan) × (List (GBe × Int))))
 | [], jH, bI, bL => some (.go (bI, bL))
 | e0 :: p0, jH, bI, bL => Option.bind (sJ ai ae ([jH]) bL) (fun r4 => cond (roomOk 16 (List.length (bI ++ [r4.1]))) (jG ai ae p0 (jH + 1) (bI ++ [r4.1]) r4.2) none)
def lu (ai : GBk) (ae : List Int) : Option ((List GSpan) × Int) := Option.bind (ta ai) (fun r1 => cond (r1) (Option.bind (tc ai ae) (fun r2 => cond (r2) (cond (aH ai.Strokes) (lbind (jG ai ae ai.Strokes 0 ([] : List GSpan) ([] : List (GBe × Int))) (fun r6 => some r6) (fun c5 => some (c5.1, 0)) (fun _ _ => none)) none) (some (([] : List GSpan), 2)))) (some (([] : List GSpan), 2)))
theorem vJ (ai : GBk) (ae : List Int) (R : (List GSpan) × Int) (h : lu ai ae = some R) : ah Tryz.prog G0 22 [.agg (cGBk ai), .sl (aa eI ae) (List.length ae) false] (.tree (.tup [.sl (aa aj R.1) (List.length R.1) false, .lit (.int .i64 R.2)])) := by
 refine ah.runR mixed Tryz.call22 Tryz.func22 rfl (by simp [Tryz.ntmps22]; kernel_rfl) ?_
 obtain ⟨KF, h, kF, kN⟩ := cl h
 simp only [lu] at h
 obtain ⟨r7, o8, h⟩ := optI h kN
 try simp only [hs] at h
 simp only [vz, mq, mqm, vsi, tyf, mqt, nm, seval]
 refine ktree (args0 := [.agg (cGBk ai)]) (by first | (simp only [nrm, tynrm, @d6] <;> rfl) | rfl) (by simp only [tre, tytre, mqr, Bool.and_self]) (MG _ _ o8) ?_
 refine br (fun tm => tm 1 = .sl (aa eI ae) (List.length ae) false ∧ tm 2 = .ptr 0 0 ∧ tm 10 = .lit (.bool r7) ∧ True) (by refine ⟨?_, ?_, ?_, trivial⟩ <;> first | (simp only [ua, bT, nm, seval] <;> rfl) | rfl) ?_
 rintro tm ⟨e9, aV, bh, _⟩
 cases b9 : (r7)
 ·simp only [b9, hs] at h
  try simp only [vz, mq, mqm, vsi, tyf, mqt, e9, aV, bh, b9, nm, seval]
  refine dU (x := (.tup [.lit (.slice none 0 0), .lit (.int .i64 2)])) (by first | (simp only [Tryz.results22, resV, resL, resV1, dX, dY, uw, cr, tyf, mqt, b9, nm, seval] <;> rfl) | rfl) ?_
  obtain rfl := kF _ h
  refine jk ?_ ?_
  ·simp only [tre, tytre, mqr, Bool.and_self]
  ·first | (simp only [outV, uw, jB, cr, tyf, mqt, nrm, tynrm, e9, aV, bh, b9, nm, seval] <;> rfl) | rfl
 simp only [b9, hs] at h
 obtain ⟨vK, MH, h⟩ := optI h kN
 try simp only [hs] at h
 simp only [vz, mq, mqm, vsi, tyf, mqt, e9, aV, bh, b9, nm, seval]
 refine ktree (args0 := [.agg (cGBk ai), .sl (aa eI ae) (List.length ae) false]) (by first | (simp only [nrm, tynrm, @d6] <;> rfl) | rfl) (by simp only [tre, tytre, mqr, Bool.and_self]) (MI _ _ _ MH) ?_
 refine br (fun tm => tm 1 = .sl (aa eI ae) (List.length ae) false ∧ tm 2 = .ptr 0 0 ∧ tm 12 = .lit (.bool false) ∧ tm 15 = .lit (.bool vK) ∧ True) (by refine ⟨e9, aV, ?_, ?_, trivial⟩ <;> first | (simp only [ua, bT, e9, aV, bh, b9, nm, seval] <;> rfl) | rfl) ?_
 rintro tm ⟨dy, bS, bw, b4, _⟩
 cases cz : (vK)
 ·simp only [cz, hs] at h
  try simp only [vz, mq, mqm, vsi, tyf, mqt, b9, dy, bS, bw, b4, cz, nm, seval]
  refine dU (x := (.tup [.lit (.slice none 0 0), .lit (.int .i64 2)])) (by first | (simp only [Tryz.results22, resV, resL, resV1, dX, dY, uw, cr, tyf, mqt, b9, cz, nm, seval] <;> rfl) | rfl) ?_
  obtain rfl := kF _ h
  refine jk ?_ ?_
  ·simp only [tre, tytre, mqr, Bool.and_self]
  ·first | (simp only [outV, uw, jB, cr, tyf, mqt, nrm, tynrm, b9, dy, bS, bw, b4, cz, nm, seval] <;> rfl) | rfl
 simp only [cz, hs] at h
 try simp only [vz, mq, mqm, vsi, tyf, mqt, b9, dy, bS, bw, b4, cz, nm, seval]
 refine kopen ?_
 rw [AS]
 refine ar.run mixed Tryz.call69 Tryz.func69 rfl (by simp [Tryz.ntmps69]; kernel_rfl) ?_
 try simp only [vz, mq, mqm, vsi, tyf, mqt, b9, cz, nm, seval]
 refine dU (x := (.agg ((cGBk ai) ++ [.sl (aa eI ae) (List.length ae) false] ++ [.mp 21]))) (by first | (simp only [Tryz.results69, resV, resL, resV1, dX, dY, uw, cr, tyf, mqt, b9, cz, nm, seval] <;> rfl) | rfl) ?_
 cases fc : (aH ai.Strokes)
 ·simp only [fc, hs] at h
  exact absurd h kN
 simp only [fc, hs] at h
 simp only [vz, mq, mqm, vsi, tyf, mqt, b9, cz, dy, bS, bw, b4, fc, nm, seval]
 obtain ⟨MJ, h, MK, td, ML, lv⟩ := eW h kN
 obtain ⟨MM, AT, h⟩ := call4 h
 obtain ⟨MN, lx⟩ : ∃ I : Nat → St → Prop, I = (fun m st => ∃ (jt : List GBs) (aT : Int) (bz : List GSpan) (gm : List (GBe × Int)) (gV : VV), m = List.length jt ∧ 0 ≤ aT ∧ List.drop (Int.toNat aT) ai.Strokes = jt ∧ st.df = [] ∧ 29 ≤ st.nx ∧ st.H 21 = some (.map (encM aO cw gm)) ∧ st.H 15 = some (.cells (some 92) ((cGBk ai) ++ [.sl (aa eI ae) (List.length ae) false] ++ [.mp 21])) ∧ st.tm 6 = .ptr 15 0 ∧ st.tm 23 = .lit (.int .i64 (List.length ai.Strokes : Int)) ∧ st.tm 7 = gV ∧ st.tm 24 = .lit (.int .i64 aT) ∧ ((∃ (β : Nat) (el : Option TypeId), gV = .ref β 0 (List.length bz) 2 (List.length bz) ∧ β < st.nx ∧ β ≠ 21 ∧ β ≠ 15 ∧ st.H β = some (.cells el (aa aj bz))) ∨ (gV = .lit (.slice none 0 0) ∧ bz = [])) ∧ MJ (MM jt aT bz gm)) := ⟨_, rfl⟩
 refine loopK mixed (by kernel_rfl) MN (List.length ai.Strokes) (by rw [lx]; refine ⟨ai.Strokes, 0, ([] : List GSpan), ([] : List (GBe × Int)), .lit (.slice none 0 0), rfl, Int.le_refl _, rfl, rfl, (show 29 ≤ 29 by omega), ?_, ?_, ?_, ?_, ?_, ?_, Or.inr ⟨rfl, rfl⟩, h⟩ <;> first | (simp only [ua, bT, b9, cz, dy, bS, bw, b4, nm, seval] <;> rfl) | rfl) ?_
 rintro m ⟨tm, H, fe, df⟩ hinv
 rw [lx] at hinv
 obtain ⟨jt, aT, bz, gm, gV, rfl, dk, eD, hdf, AU, dE, dG, bA, bN, cv, ba, jI, h⟩ := hinv
 simp only at hdf AU dE dG bA bN cv ba jI
 have ed := f7 (m := 29) (b := fe) (by omega)
 subst hdf AT
 rcases jI with ⟨mI, jJ, rfl, AV, AW, AX, fu⟩ | ⟨rfl, rfl⟩
 ·have jK := kz AV
  have jL := ne_f AW
  have jM := ne_f AX
  cases jt with
  | nil =>
   have dW : (decide (aT < (List.length ai.Strokes : Int))) = false := eL dk eD
   simp only [jG, hs, reduceCtorEq] at h
   replace h := td _ h
   try dsimp only at h
   try simp only [hs] at h
   try simp only [vz, mq, mqm, vsi, tyf, mqt, b9, cz, fc, ed, bA, bN, cv, ba, dE, dG, jK, fu, jL, jM, dW, nm, seval]
   refine dU (x := (.tup [.ref mI 0 (List.length bz) 2 (List.length bz), .lit (.int .i64 0)])) (by first | (simp only [Tryz.results22, resV, resL, resV1, dX, dY, uw, cr, tyf, mqt, b9, cz, fc, ed, dE, dG, jK, fu, jL, jM, dW, nm, seval] <;> rfl) | rfl) ?_
   obtain rfl := kF _ h
   refine jk ?_ ?_
   ·simp only [tre, tytre, mqr, Bool.and_self]
   ·first | (simp only [outV, uw, jB, cr, tyf, mqt, nrm, tynrm, b9, cz, fc, ed, bA, bN, cv, ba, dE, dG, jK, fu, jL, jM, dW, nm, seval] <;> rfl) | rfl
  | cons eX jt =>
   have te : (decide (aT < (List.length ai.Strokes : Int))) = true := eM dk eD
   have nX := cL dk eD
   have tf := eN dk eD fc
   simp only [jG, hs, reduceCtorEq] at h
   obtain ⟨mJ, qE, h⟩ := optI h lv
   try simp only [hs] at h
   simp only [vz, mq, mqm, vsi, tyf, mqt, b9, cz, fc, ed, bA, bN, cv, ba, dE, dG, jK, fu, jL, jM, te, (aK nX), tf, nm, seval]
   refine kupdF (args' := [.agg ((cGBk ai) ++ [.sl (aa eI ae) (List.length ae) false] ++ [.mp 21]), .sl (aa eI ([aT])) (List.length ([aT])) false]) (g := (fe + 6)) (el := (some 3)) (cs := aa eI ([aT])) (by first | rfl | assumption | (simp only [bf, bg, ct, ed, dE, dG, jK, fu, jL, jM, nm, seval] <;> rfl) | (simp only [bf, bg, fy, fX, fj, fk, tyf, mqt, b9, cz, fc, ed, bA, bN, cv, ba, dE, dG, jK, fu, jL, jM, te, (aK nX), tf, nm, seval]; done)) ⟨.same, Frozen.own (el := (some 3)) (cs := aa eI ([aT])) (by first | rfl | assumption | (simp only [bf, bg, ct, ed, dE, dG, jK, fu, jL, jM, nm, seval] <;> rfl) | (simp only [bf, bg, fy, fX, fj, fk, tyf, mqt, b9, cz, fc, ed, bA, bN, cv, ba, dE, dG, jK, fu, jL, jM, te, (aK nX), tf, nm, seval]; done)) (eI_ok.treeL _) (fY (w := 1) (enc := eI) (fun _ => rfl) _), trivial⟩ (VUpd.at (β := 21) (y := (fun _ => .agg (aj mJ.1))) (I0 _ _ _ _ _ qE) (by omega) (by first | rfl | assumption | (simp only [bf, bg, ed, dE, dG, jK, fu, jL, jM, nm, seval] <;> rfl)) (by first | rfl | (simp only [nrm, tynrm, @d6, @gi] <;> rfl) | (simp only [tyf, mqt, List.cons_append, List.nil_append, nrm, tynrm, @d6, @gi] <;> rfl)) (gT (fun _ => rfl) _)) ?_
   refine ib (fun tm => tm 6 = .ptr 15 0 ∧ tm 23 = .lit (.int .i64 (List.length ai.Strokes : Int)) ∧ tm 24 = .lit (.int .i64 aT) ∧ tm 27 = .ref mI 0 (List.length bz) 2 (List.length bz) ∧ tm 31 = .agg (aj mJ.1) ∧ True) (by refine ⟨bA, bN, ba, ?_, ?_, trivial⟩ <;> first | (simp only [ua, bT, b9, cz, ed, bA, bN, cv, ba, dE, dG, jK, fu, jL, jM, te, tf, nm, seval] <;> rfl) | rfl) ?_
   rintro tm ⟨ky, fS, fT, de, di, _⟩
   have k9 := And.intro b9 (And.intro cz (And.intro fc (And.intro ed (And.intro dE (And.intro dG (And.intro jK (And.intro fu (And.intro jL (And.intro jM (And.intro te tf))))))))))
   cases nY : (roomOk 16 (List.length (bz ++ [mJ.1])))
   ·simp only [nY, hs] at h
    exact absurd h lv
   simp only [nY, hs] at h
   simp only [vz, mq, mqm, vsi, tyf, mqt, k9, (aK nX), ky, fS, fT, de, di, nY, nm, seval]
   refine k_app (w := 2) (enc := aj) (xs := bz) (ys := ([mJ.1])) (el := jJ) (k6 := (some 35)) (fun _ => rfl) rL rK Tryz.underlying31 (by first | rfl | assumption | (simp only [bf, bg, kT, k9, nm, seval] <;> rfl) | (simp only [bf, bg, fy, fX, fj, fk, tyf, mqt, k9, (aK nX), ky, fS, fT, de, di, nY, nm, seval]; done)) (by first | rfl | assumption | (simp only [bf, bg, kT, k9, nm, seval] <;> rfl) | (simp only [bf, bg, fy, fX, fj, fk, tyf, mqt, k9, (aK nX), ky, fS, fT, de, di, nY, nm, seval]; done)) (Nat.zero_lt_succ _) nY ?_
   simp only [vz, mq, mqm, vsi, tyf, mqt, k9, (aK nX), ky, fS, fT, de, di, nY, nm, seval]
   exact ⟨List.length jt, Nat.lt_succ_self _, by rw [lx]; refine ⟨jt, aT + 1, (bz ++ [mJ.1]), mJ.2, .ref (fe + 9) 0 (List.length (bz ++ [mJ.1])) 2 (List.length (bz ++ [mJ.1])), rfl, Int.le_trans dk (Int.le_add_one (Int.le_refl _)), cy dk eD, rfl, (show 29 ≤ fe + 13 by omega), ?_, ?_, ky, fS, ?_, ?_, Or.inl ⟨fe + 9, (sameEl jJ 35), rfl, (by first | omega | (simp only [nm, seval]; done) | (simp only [nm, seval]; omega)), (by first | omega | (intro hh; simp only [k9, reduceCtorEq] at hh)), (by first | omega | (intro hh; simp only [k9, reduceCtorEq] at hh)), ?_⟩, (by first | exact h | (simp only [k9]; exact h))⟩ <;> first | (simp only [ua, bT, k9, ky, fS, fT, de, di, nm, seval] <;> rfl) | rfl⟩
 ·cases jt with
  | nil =>
   have ia : (decide (aT < (List.length ai.Strokes : Int))) = false := eL dk eD
   simp only [jG, hs, reduceCtorEq] at h
   replace h := td _ h
   try dsimp only at h
   try simp only [hs] at h
   try simp only [vz, mq, mqm, vsi, tyf, mqt, b9, cz, fc, ed, bA, bN, cv, ba, dE, dG, ia, nm, seval]
   refine dU (x := (.tup [.lit (.slice none 0 0), .lit (.int .i64 0)])) (by first | (simp only [Tryz.results22, resV, resL, resV1, dX, dY, uw, cr, tyf, mqt, b9, cz, fc, ed, dE, dG, ia, nm, seval] <;> rfl) | rfl) ?_
   obtain rfl := kF _ h
   refine jk ?_ ?_
   ·simp only [tre, tytre, mqr, Bool.and_self]
   ·first | (simp only [outV, uw, jB, cr, tyf, mqt, nrm, tynrm, b9, cz, fc, ed, bA, bN, cv, ba, dE, dG, ia, nm, seval] <;> rfl) | rfl
  | cons eX jt =>
   have tg : (decide (aT < (List.length ai.Strokes : Int))) = true := eM dk eD
   have qF := cL dk eD
   have th := eN dk eD fc
   simp only [jG, hs, reduceCtorEq] at h
   obtain ⟨mK, MO, h⟩ := optI h lv
   try simp only [hs] at h
   simp only [vz, mq, mqm, vsi, tyf, mqt, b9, cz, fc, ed, bA, bN, cv, ba, dE, dG, tg, (aK qF), th, nm, seval]
   refine kupdF (args' := [.agg ((cGBk ai) ++ [.sl (aa eI ae) (List.length ae) false] ++ [.mp 21]), .sl (aa eI ([aT])) (List.length ([aT])) false]) (g := (fe + 6)) (el := (some 3)) (cs := aa eI ([aT])) (by first | rfl | assumption | (simp only [bf, bg, ct, ed, dE, dG, nm, seval] <;> rfl) | (simp only [bf, bg, fy, fX, fj, fk, tyf, mqt, b9, cz, fc, ed, bA, bN, cv, ba, dE, dG, tg, (aK qF), th, nm, seval]; done)) ⟨.same, Frozen.own (el := (some 3)) (cs := aa eI ([aT])) (by first | rfl | assumption | (simp only [bf, bg, ct, ed, dE, dG, nm, seval] <;> rfl) | (simp only [bf, bg, fy, fX, fj, fk, tyf, mqt, b9, cz, fc, ed, bA, bN, cv, ba, dE, dG, tg, (aK qF), th, nm, seval]; done)) (eI_ok.treeL _) (fY (w := 1) (enc := eI) (fun _ => rfl) _), trivial⟩ (VUpd.at (β := 21) (y := (fun _ => .agg (aj mK.1))) (I0 _ _ _ _ _ MO) (by omega) (by first | rfl | assumption | (simp only [bf, bg, ed, dE, dG, nm, seval] <;> rfl)) (by first | rfl | (simp only [nrm, tynrm, @d6, @gi] <;> rfl) | (simp only [tyf, mqt, List.cons_append, List.nil_append, nrm, tynrm, @d6, @gi] <;> rfl)) (gT (fun _ => rfl) _)) ?_
   refine ib (fun tm => tm 6 = .ptr 15 0 ∧ tm 23 = .lit (.int .i64 (List.length ai.Strokes : Int)) ∧ tm 24 = .lit (.int .i64 aT) ∧ tm 27 = .lit (.slice none 0 0) ∧ tm 31 = .agg (aj mK.1) ∧ True) (by refine ⟨bA, bN, ba, ?_, ?_, trivial⟩ <;> first | (simp only [ua, bT, b9, cz, ed, bA, bN, cv, ba, dE, dG, tg, th, nm, seval] <;> rfl) | rfl) ?_
   rintro tm ⟨gR, la, m5, vL, kA, _⟩
   have mM := And.intro b9 (And.intro cz (And.intro fc (And.intro ed (And.intro dE (And.intro dG (And.intro tg th))))))
   cases qG : (roomOk 16 (List.length (([] : List GSpan) ++ [mK.1])))
   ·simp only [qG, hs] at h
    exact absurd h lv
   simp only [qG, hs] at h
   simp only [vz, mq, mqm, vsi, tyf, mqt, mM, (aK qF), gR, la, m5, vL, kA, qG, nm, seval]
   refine ln (w := 2) (enc := aj) (ys := ([mK.1])) (k6 := (some 35)) (fun _ => rfl) rL rK Tryz.underlying31 (by first | rfl | assumption | (simp only [bf, bg, kT, mM, nm, seval] <;> rfl) | (simp only [bf, bg, fy, fX, fj, fk, tyf, mqt, mM, (aK qF), gR, la, m5, vL, kA, qG, nm, seval]; done)) (Nat.zero_lt_succ _) qG ?_
   simp only [vz, mq, mqm, vsi, tyf, mqt, mM, (aK qF), gR, la, m5, vL, kA, qG, nm, seval]
   exact ⟨List.length jt, Nat.lt_succ_self _, by rw [lx]; refine ⟨jt, aT + 1, (([] : List GSpan) ++ [mK.1]), mK.2, .ref (fe + 9) 0 (List.length (([] : List GSpan) ++ [mK.1])) 2 (List.length (([] : List GSpan) ++ [mK.1])), rfl, Int.le_trans dk (Int.le_add_one (Int.le_refl _)), cy dk eD, rfl, (show 29 ≤ fe + 13 by omega), ?_, ?_, gR, la, ?_, ?_, Or.inl ⟨fe + 9, (some 35), rfl, (by first | omega | (simp only [nm, seval]; done) | (simp only [nm, seval]; omega)), (by first | omega | (intro hh; simp only [mM, reduceCtorEq] at hh)), (by first | omega | (intro hh; simp only [mM, reduceCtorEq] at hh)), ?_⟩, (by first | exact h | (simp only [mM]; exact h))⟩ <;> first | (simp only [ua, bT, mM, gR, la, m5, vL, kA, nm, seval] <;> rfl) | rfl⟩




theorem setAF {α : Type} {enc : α → List VV} {w : Nat} {xs : List α} {x : α} {i : Int} (o m : Nat) (he : ∀ x, (enc x).length = w) (hm : o + m ≤ w) (h : getI xs i = some x) : (i.toNat * w + o + m ≤ (aa enc xs).length) = True := by
 have h1 := of_eq_true (setA (w := w) (enc := enc) he h)
 exact eq_true (by omega)
theorem MP (A X B : List VV) (o : Nat) (cs : List VV) (h : o + cs.length ≤ X.length) : overwrite (A ++ (X ++ B)) (A.length + o) cs = A ++ (overwrite X o cs ++ B) := by
 unfold overwrite
 rw [List.take_append, List.take_of_length_le (Nat.le_add_right _ _), show A.length + o - A.length = o by omega, List.take_append_of_le_length (by omega),
  List.drop_append, List.drop_of_length_le (by omega), List.nil_append, show A.length + o + cs.length - A.length = o + cs.length by omega, List.drop_append_of_le_length h]
 simp only [List.append_assoc]
theorem setBF {α : Type} {enc : α → List VV} {w : Nat} {xs : List α} {x : α} {i : Int} (o : Nat) (cs : List VV) (v : α) (he : ∀ x, (enc x).length = w) (hc : o + cs.length ≤ w) (h : getI xs i = some x) (hv : enc v = overwrite (enc x) o cs) : overwrite (aa enc xs) (i.toNat * w + o) cs = aa enc (xs.set i.toNat v) := by
 obtain ⟨h0, h1, h2⟩ := my h
 have hn : i.toNat < xs.length := by omega
 have e1 : xs = xs.take i.toNat ++ (x :: xs.drop (i.toNat + 1)) := by
  rw [← h2, List.take_append_drop]
 have e2 : xs.set i.toNat v = xs.take i.toNat ++ (v :: xs.drop (i.toNat + 1)) := by
  rw [List.set_eq_take_append_cons_drop, if_pos hn]
 have hl : (xs.take i.toNat).length = i.toNat := by rw [List.length_take]; omega
 have e3 : aa enc xs = aa enc (xs.take i.toNat) ++ (enc x ++ aa enc (xs.drop (i.toNat + 1))) := by
  conv => lhs; rw [e1, tk]
  rfl
 have e4 : (aa enc (xs.take i.toNat)).length = i.toNat * w := by rw [fY he, hl]
 rw [e3, ← e4, MP _ _ _ _ _ (by rw [he]; exact hc), ← hv, e2, tk]
 rfl




theorem room16 {n : Nat} (h : n ≤ 1000) : roomOk 16 n = true := by simp [roomOk]; omega
theorem room56 {n : Nat} (h : n ≤ 1000) : roomOk 56 n = true := by simp [roomOk]; omega
theorem AY {α : Type} {xs : List α} (h : 1 ≤ xs.length) : neB xs = true := by cases xs with | nil => simp at h | cons a p => rfl
def endS (b : GBk) (pl : List Int) (i : Nat) : GSpan := ⟨EE b pl 0 i, EE b pl 1 i⟩
def endsL (b : GBk) (pl : List Int) : List GSpan := (List.range b.Strokes.length).map (endS b pl)
theorem tl {x : Int} (h : 0 ≤ x) : mxL [x] = x := by show max 0 x = x; omega
theorem tn {b : GBk} (hb : BOk b) {pl : List Int} (hp : pl.length = b.Strokes.length) : ∀ (p : List GBs) (i : Nat) (acc : List GSpan) (l : List (GBe × Int)), i + p.length = b.Strokes.length → acc.length = i → InvE b pl l →
  ∃ l', jG b pl p i acc l = some (.go (acc ++ (List.range' i p.length).map (endS b pl), l'))
 | [], i, acc, l, _, _, _ => ⟨l, by simp [jG]⟩
 | s :: p, i, acc, l, hi, ha, hl => by
  have hns := hb.ns
  simp only [List.length_cons] at hi
  obtain ⟨l1, e1, cX⟩ := Ae hb.h hp hl (p := [(i : Int)]) (fun k hk => by rw [List.mem_singleton.1 hk]; omega) (by simp)
  obtain ⟨l2, e2⟩ := tn hb hp p (i + 1) (acc ++ [endS b pl i]) l1 (by omega) (by simp [ha]) cX
  refine ⟨l2, ?_⟩
  simp only [jG, e1, Option.bind_some]
  have h0 := EE_b hb.h pl 0 (s := i) (by omega)
  have h1 := EE_b hb.h pl 1 (s := i) (by omega)
  simp only [List.map_cons, List.map_nil, Int.toNat_natCast]
  rw [tl h0.1, tl h1.1, room16 (by simp; omega), cond_true]
  have : ((i : Int) + 1) = ((i + 1 : Nat) : Int) := by omega
  rw [this]
  show jG b pl p ((i + 1 : Nat) : Int) (acc ++ [endS b pl i]) l1 = _
  rw [e2]
  simp [List.range'_succ]
theorem tq {b : GBk} (h : Len b) (pl : List Int) : lu b pl = some (if benchB b && planB b pl then (endsL b pl, 0) else ([], 2)) := by
 unfold lu
 rw [AZ h, Ba h]
 cases hB : benchB b with
 | false => rfl
 | true =>
  cases hP : planB b pl with
  | false => rfl
  | true =>
   have hb := v9.1 hB
   obtain ⟨l', e⟩ := tn hb (vM.1 hP).len b.Strokes 0 [] [] (by simp) rfl InvE.nil
   simp only [Option.bind_some, cond_true, Bool.and_self, if_true]
   rw [fQ h.st, cond_true]
   have e' : jG b pl b.Strokes 0 [] [] = _ := e
   rw [e']
   simp [lbind, endsL, List.range_eq_range']
theorem IL (b : GBk) (pl : List Int) : (endsL b pl).length = b.Strokes.length := by simp [endsL]
theorem getEnds {b : GBk} {pl : List Int} {i : Int} (h0 : 0 ≤ i) (h1 : i.toNat < b.Strokes.length) : getI (endsL b pl) i = some (endS b pl i.toNat) := by
 unfold getI endsL
 rw [if_pos h0, List.getElem?_map, List.getElem?_range h1]
 rfl
theorem EE_36 {b : GBk} (hb : BOk b) (pl : List Int) (hr : Int) {s : Nat} (hs : s < b.Strokes.length) : EE b pl hr s ≤ 36 := by
 have h2 := Ip (hd := hF pl) (d := dF b hr) hb.h.nd (m := 6) (fun k => by
  refine ⟨(hb.h.d hr k).1, ?_⟩
  unfold dF
  split
  ·rename_i x hx
   have := (hb.s hx).hr
   split <;> omega
  ·omega) s
 have := hb.ns
 unfold EE
 omega
theorem ah.runRQ {P : Program} {G : Glob} (hm : P.follows .mixedOrders = true) {f : FuncId} {fn : Func} {code : Code} {args : List VV} {r : PRes} (hc : Callable P f) (hf : P.funcs[f]? = some fn) (hb : fn.body = some code)
  (hst : (decide (args.length ≤ fn.ntmps) && codeQ fn.ntmps code) = true) (h : CWp P (G.at (some none)) fn.ntmps code (OpenPostD P G fn (RR r) (RPn r)) { tm := argsTm args, H := fun _ => none, nx := 0, df := [] }) : ah P G f args r := by
 rw [Bool.and_eq_true] at hst
 exact ah.runR hm hc hf hb (by rw [Bool.and_eq_true]; exact ⟨hst.1, jm hst.2⟩) h
def rangeFR (f : FuncId) (cf : an) (jump : Code → RS → ER) (n : Nat) (s : RS) (f0 : FuncId) (first captured : List VV) (ps : Array Tmp) (asg bo : Code) : ER :=
 match cf f0 (first ++ [.yl (s.nx + 1)] ++ captured) ((s.H.put s.nx (some (.deferred (some [])))).put (s.nx + 1) (some (.loopF .ready none (tmL n s.st.tm) ps asg bo f))) (s.nx + 2) with
 | .ret _ H' nx' => match H'.get (s.nx + 1) with
  | some (.loopF .busy _ _ _ _ _ _) => .no (.text 1)
  | some (.loopF _ pe tm ps asg bo fn) => match pe with
   | none => .mk .normal { s with H := H'.put (s.nx + 1) (some (.loopF .exhausted pe tm ps asg bo fn)), nx := nx', df := .coll s.nx :: s.df }
   | some c => jump c { s with H := H'.put (s.nx + 1) (some (.loopF .exhausted pe tm ps asg bo fn)), nx := nx', df := .coll s.nx :: s.df }
  | _ => .no (.text 2)
 | .pan x H' nx' => .mk (.panic x) { s with H := H', nx := nx', df := .coll s.nx :: s.df }
 | .no w => .no w
def GoOk (P : Program) (G : Glob) (f n : Nat) (go : Code → RS → ER) : Prop := ∀ code s e s', go code s = .mk e s' → ∀ Q : VExit → St → Prop, Q e s'.st → VGo P G f n code Q s.st
theorem MQ {P : Program} {G : Glob} {cf : an} (hcf : CallOk P G cf) {f : FuncId} {jump : Code → RS → ER} {n : Nat} (hj : GoOk P G f n jump) {s s' : RS} {e : VExit} {g : Operand} {f0 : FuncId} {first captured : List VV} {ps : Array Tmp} {asg bo : Code}
  (hg : s.st.ρ G g = .fn (.func f0) first captured) (h : rangeFR f cf jump n s f0 first captured ps asg bo = .mk e s') {Q : VExit → St → Prop} (hq : Q e s'.st) : VGo P G f n (.rangeFunc g ps asg bo) Q s.st := by
 refine VGo.range hg ?_
 unfold rangeFR at h
 have eH : ((s.H.put s.nx (some (.deferred (some [])))).put (s.nx + 1) (some (.loopF .ready none (tmL n s.st.tm) ps asg bo f))).get = updH (updH s.st.H s.st.nx (.deferred (some []))) (s.st.nx + 1) (.loopF .ready none (tmL n s.st.tm) ps asg bo f) := by
  rw [jN, jN]; rfl
 split at h
 ·rename_i x H' nx' hc
  have hv := hcf.1 _ _ _ _ _ _ _ hc
  rw [eH] at hv
  refine ar.mono hv ?_ ?_
  ·rintro y H1 n1 ⟨_, rfl, rfl⟩
   split at h
   ·cases h
   ·rename_i st pe gn gp gq gu ie hnb hl
    have e2 : ({ s with H := H'.put (s.nx + 1) (some (.loopF .exhausted pe gn gp gq gu ie)), nx := n1, df := .coll s.nx :: s.df } : RS).st = { s.st with H := updH H'.get (s.st.nx + 1) (.loopF .exhausted pe gn gp gq gu ie), nx := n1, df := .coll s.st.nx :: s.st.df } := by
     simp only [RS.st, jN]
    refine ⟨st, pe, gn, gp, gq, gu, ie, hl, hnb, ?_⟩
    split at h
    ·cases h
     show Q .normal _
     rw [← e2]; exact hq
    ·rename_i c
     show VGo P _ f n c Q _
     rw [← e2]
     exact hj c _ e s' h Q hq
   ·cases h
  ·intro y H1 n1 h; exact h.elim
 ·rename_i x H' nx' hc
  have hv := hcf.2 _ _ _ _ _ _ _ hc
  rw [eH] at hv
  cases h
  refine ar.mono hv ?_ ?_
  ·intro y H1 n1 h; exact h.elim
  ·rintro y H1 n1 ⟨rfl, rfl, rfl⟩
   exact hq
 ·cases h
noncomputable def rangeFF (f : FuncId) (cf : an) (jump : Code → RS → ER) (n : Nat) (s : RS) (ps : Array Tmp) (asg bo : Code) (code : Code) (x : VV) : ER := match x with
 | .fn (.func f0) first captured => rangeFR f cf jump n s f0 first captured ps asg bo
 | _ => .no (.code code)
noncomputable def goF (G : Glob) (f : FuncId) (run : RunR) (cf : an) (n : Nat) (k : Nat) : Code → RS → ER :=
 Nat.rec (motive := fun _ => Code → RS → ER) (fun code s => run none n code s) (fun _ ih code s => match code with
  | .seq a b => thenQ (ih a s) (fun s' => ih b s')
  | .block id a => blockQ (ih a s) id
  | .rangeFunc g ps asg bo => rangeFF f cf (fun c s => run none n c s) n s ps asg bo code (ρQ G s.tm g)
  | code => run none n code s) k
theorem tt {P : Program} {G : Glob} {f n : Nat} {run : RunR} {cf : an} (hrun : RunOk P G run) (hcf : CallOk P G cf) : ∀ (k : Nat), GoOk P G f n (goF G f run cf n k)
 | 0, code, s, e, s', h, Q, hq => VGo.of (hrun none n code s e s' h Q hq)
 | k + 1, code, s, e, s', h, Q, hq => by
  have ih := tt (f := f) (n := n) hrun hcf k
  have dflt : run none n code s = .mk e s' → VGo P G f n code Q s.st := fun h => VGo.of (hrun none n code s e s' h Q hq)
  cases code with
  | seq a b =>
   have h' : thenQ (goF G f run cf n k a s) (fun s' => goF G f run cf n k b s') = .mk e s' := h
   cases hs : goF G f run cf n k a s with
   | no w => rw [hs] at h'; cases h'
   | mk e1 s1 =>
    rw [hs] at h'
    cases e1 with
    | normal => exact VGo.seq (ih a s .normal s1 hs _ (ih b s1 e s' h' Q hq))
    | exit id => cases h'; exact VGo.seq (ih a s _ _ hs _ hq)
    | goto l => cases h'; exact VGo.seq (ih a s _ _ hs _ hq)
    | ret => cases h'; exact VGo.seq (ih a s _ _ hs _ hq)
    | panic x => cases h'; exact VGo.seq (ih a s _ _ hs _ hq)
  | block id a =>
   have h' : blockQ (goF G f run cf n k a s) id = .mk e s' := h
   cases hs : goF G f run cf n k a s with
   | no w => rw [hs] at h'; cases h'
   | mk e1 s1 =>
    rw [hs] at h'
    refine VGo.block (ih a s e1 s1 hs _ ?_)
    cases e1 with
    | normal => cases h'; exact hq
    | goto l => cases h'; exact hq
    | ret => cases h'; exact hq
    | panic x => cases h'; exact hq
    | exit id' =>
     have h'' : Bool.rec (motive := fun _ => ER) (.mk (.exit id') s1) (.mk .normal s1) (Nat.beq id' id) = .mk e s' := h'
     show (if id' = id then _ else _)
     by_cases hid : id' = id
     ·have hb : Nat.beq id' id = true := by simpa using hid
      rw [hb] at h''
      cases h''
      rw [if_pos hid]; exact hq
     ·have hb : Nat.beq id' id = false := by cases hq : Nat.beq id' id with | false => rfl | true => exact absurd (by simpa using hq) hid
      rw [hb] at h''
      cases h''
      rw [if_neg hid]; exact hq
  | rangeFunc g ps asg bo =>
   have h' : rangeFF f cf (fun c s => run none n c s) n s ps asg bo (.rangeFunc g ps asg bo) (ρQ G s.tm g) = .mk e s' := h
   rw [ρQ_eq] at h'
   unfold rangeFF at h'
   split at h'
   ·rename_i f0 first captured hg
    exact MQ hcf (fun c s e s' hs Q hq => VGo.of (hrun none n c s e s' hs Q hq)) hg h' hq
   ·cases h'
  | _ => exact dflt h
noncomputable def enterF (P : Program) (G : Glob) (run : RunR) (cf : an) (k : Nat) (f : FuncId) (fn : Func) (code : Code) (args : List VV) (H : Trie VObj) (nx : Nat) : CR :=
 match goF G f run cf fn.ntmps k code (RS.mk (listV args 0 .nil) H nx []) with
 | .mk .ret s => leaveR P G run fn f s s.df .ret s.H s.nx
 | .mk .normal s => leaveR P G run fn f s s.df .ret s.H s.nx
 | .mk (.panic x) s => leaveR P G run fn f s s.df (.pan x false) s.H s.nx
 | .mk _ _ => .no (.fn f)
 | .no w => .no w
noncomputable def jO (P : Program) (G : Glob) (run : RunR) (cf : an) (k : Nat) : an := fun f args H nx => match textQ P f with
 | some (fn, code) => Bool.rec (motive := fun _ => CR) (.no (.fn f)) (enterF P G run cf k f fn code args H nx) (Nat.ble args.length fn.ntmps)
 | none => .no (.fn f)
theorem Bb {P : Program} {f : FuncId} {fn : Func} {code : Code} (h : textQ P f = some (fn, code)) : P.funcs[f]? = some fn ∧ fn.body = some code ∧ nameQ fn = true := by
 unfold textQ at h
 split at h
 ·cases h
 ·rename_i mF hf
  split at h
  ·cases h
  ·rename_i c1 hb
   split at h
   ·rename_i hn
    cases h
    exact ⟨hf, hb, hn⟩
   ·cases h
theorem IM {P : Program} {G : Glob} {run : RunR} {cf : an} {k : Nat} (hrun : RunOk P G run) (hcf : CallOk P G cf) {f : FuncId} {args : List VV} {H : Trie VObj} {nx : Nat} {R Rp : VV → (Nat → Option VObj) → Nat → Prop}
  (h1 : ∀ x H' nx', jO P (G.at (some none)) run cf k f args H nx = .ret x H' nx' → R x H'.get nx') (h2 : ∀ x H' nx', jO P (G.at (some none)) run cf k f args H nx = .pan x H' nx' → Rp x H'.get nx') (h3 : ∀ w, jO P (G.at (some none)) run cf k f args H nx ≠ .no w) : ar P G f args H.get nx R Rp := by
 unfold jO at h1 h2 h3
 cases ht : textQ P f with
 | none => exact absurd (by simp only [ht]) (h3 (.fn f))
 | some p =>
  obtain ⟨fn, code⟩ := p
  obtain ⟨hf, hb, hn⟩ := Bb ht
  cases hc : Nat.ble args.length fn.ntmps with
  | false => exact absurd (by simp only [ht, hc]) (h3 (.fn f))
  | true =>
   simp only [ht, hc] at h1 h2 h3
   simp only [Nat.ble_eq] at hc
   unfold enterF at h1 h2 h3
   rw [AI] at h1 h2 h3
   cases hr : goF (G.at (some none)) f run cf fn.ntmps k code (RS.mk (Trie.ofList 0 args .nil) H nx []) with
   | no w => exact absurd (by rw [hr]) (h3 w)
   | mk e s =>
    rw [hr] at h1 h2 h3
    have body : OpenPostD P G fn R Rp e s.st → ar P G f args H.get nx R Rp := by
     intro hq
     have := tt (G := G.at (some none)) (f := f) (n := fn.ntmps) hrun hcf k code _ e s hr _ hq
     rw [argsR] at this
     exact ar.of_bodyGo (Bc hf hb hn) hf hb hc this
    cases e with
    | ret => exact body (mN hrun s.df .ret s.H s.nx h1 h2 h3)
    | normal => exact body (mN hrun s.df .ret s.H s.nx h1 h2 h3)
    | panic x => exact body (mN hrun s.df (.pan x false) s.H s.nx h1 h2 h3)
    | exit id => exact absurd rfl (h3 (.fn f))
    | goto l => exact absurd rfl (h3 (.fn f))
noncomputable def cfF (P : Program) (G : Glob) (run : RunR) (fs : List Nat) (k : Nat) : an := fun f args H nx => match fs.elem f with
 | true => jO P G run (cfQ P G run) k f args H nx
 | false => cfQ P G run f args H nx
theorem tu {P : Program} {G : Glob} {run : RunR} {fs : List Nat} {k : Nat} (hrun : RunOk P G run) : CallOk P G (cfF P (G.at (some none)) run fs k) := by
 have hcf : CallOk P G (cfQ P (G.at (some none)) run) := by rw [Bd]; exact MR hrun
 constructor
 ·intro f args H nx x H' nx' h
  unfold cfF at h
  split at h
  ·exact IM hrun hcf (fun y H1 n1 e => by rw [h] at e; cases e; exact ⟨rfl, rfl, rfl⟩) (fun y H1 n1 e => by rw [h] at e; cases e) (fun w e => by rw [h] at e; cases e)
  ·exact hcf.1 _ _ _ _ _ _ _ h
 ·intro f args H nx x H' nx' h
  unfold cfF at h
  split at h
  ·exact IM hrun hcf (fun y H1 n1 e => by rw [h] at e; cases e) (fun y H1 n1 e => by rw [h] at e; cases e; exact ⟨rfl, rfl, rfl⟩) (fun w e => by rw [h] at e; cases e)
  ·exact hcf.2 _ _ _ _ _ _ _ h
noncomputable def runF (P : Program) (G : Glob) (fs : List Nat) (tab : KTab) (k : Nat) : RunR :=
 Nat.rec (motive := fun _ => RunR) (fun _ _ _ _ => .no .fuel) (fun k ih ro n code s => bodyA k ih (cfT tab (cfF P (G.at (some none)) ih fs k)) ro n s (ccB P G code)) k
theorem IN {P : Program} {G : Glob} {fs : List Nat} {tab : KTab} (hm : P.follows .mixedOrders = true) (ht : KTabOk P G tab) : ∀ (k : Nat), RunOk P G (runF P G fs tab k)
 | 0, _, _, _, _, _, _, h => by cases h
 | k + 1, ro, n, code, s, e, s', h => by
  intro Q hq
  have ih := IN (G := G) (fs := fs) hm ht k
  exact MS hm ih (Be ht (tu ih)) h hq
noncomputable def closedF (P : Program) (G : Glob) (fs : List Nat) (tab : KTab) (k : Nat) (f : FuncId) (args : List VV) : PRes ⊕ Why := pureQ (cfF P (G.at (some none)) (runF P G fs tab k) fs k) f args
theorem ah.closedF {P : Program} {G : Glob} {fs : List Nat} {tab : KTab} (hm : P.follows .mixedOrders = true) (ht : KTabOk P G tab) (k : Nat) {f : FuncId} {args : List VV} {r : PRes} (h : closedF P G fs tab k f args = .inl r) : ah P G f args r := by
 unfold Go.V.closedF at h
 rw [Bf] at h
 exact tv (tu (IN hm ht k)) h
theorem hmix : Tryz.prog.follows .mixedOrders = true := by kernel_rfl
def kB : VV := (VV.agg [(VV.lit (Value.int IntKind.i64 (Int.ofNat 1))), (VV.sl [(VV.lit (Value.int IntKind.i64 (Int.ofNat 5))), (VV.lit (Value.int IntKind.i64 (Int.ofNat 6)))] 2 Bool.false), (VV.sl [(VV.lit (Value.int IntKind.i64 (Int.ofNat 1))), (VV.lit (Value.bool Bool.true)), (VV.lit (Value.int IntKind.i64 (Int.ofNat 2))), (VV.lit (Value.int IntKind.i64 (Int.ofNat 2))), (VV.lit (Value.slice Option.none 0 0)), (VV.lit (Value.int IntKind.i64 (Int.ofNat 0))), (VV.lit (Value.bool Bool.false)), (VV.lit (Value.int IntKind.i64 (Int.ofNat 2))), (VV.lit (Value.int IntKind.i64 (Int.ofNat 3))), (VV.lit (Value.slice Option.none 0 0)), (VV.lit (Value.int IntKind.i64 (Int.ofNat 0))), (VV.lit (Value.bool Bool.true)), (VV.lit (Value.int IntKind.i64 (Int.ofNat 1))), (VV.lit (Value.int IntKind.i64 (Int.ofNat 2))), (VV.sl [(VV.lit (Value.int IntKind.i64 (Int.ofNat 1)))] 1 Bool.false), (VV.lit (Value.int IntKind.i64 (Int.ofNat 1))), (VV.lit (Value.bool Bool.false)), (VV.lit (Value.int IntKind.i64 (Int.ofNat 1))), (VV.lit (Value.int IntKind.i64 (Int.ofNat 3))), (VV.sl [(VV.lit (Value.int IntKind.i64 (Int.ofNat 0)))] 1 Bool.false)] 4 Bool.false)])
def kEnds : VV := (VV.tup [(VV.sl [(VV.lit (Value.int IntKind.i64 (Int.ofNat 2))), (VV.lit (Value.int IntKind.i64 (Int.ofNat 2))), (VV.lit (Value.int IntKind.i64 (Int.ofNat 2))), (VV.lit (Value.int IntKind.i64 (Int.ofNat 3))), (VV.lit (Value.int IntKind.i64 (Int.ofNat 3))), (VV.lit (Value.int IntKind.i64 (Int.ofNat 5))), (VV.lit (Value.int IntKind.i64 (Int.ofNat 3))), (VV.lit (Value.int IntKind.i64 (Int.ofNat 6)))] 4 Bool.false), (VV.lit (Value.int IntKind.i64 (Int.ofNat 0)))])
def kDone : VV := (VV.tup [(VV.agg [(VV.lit (Value.int IntKind.i64 (Int.ofNat 3))), (VV.lit (Value.int IntKind.i64 (Int.ofNat 5)))]), (VV.lit (Value.int IntKind.i64 (Int.ofNat 0)))])
def kLate : VV := (VV.tup [(VV.sl [(VV.lit (Value.int IntKind.i64 (Int.ofNat 1))), (VV.lit (Value.int IntKind.i64 (Int.ofNat 2)))] 2 Bool.false), (VV.lit (Value.int IntKind.i64 (Int.ofNat 0)))])
def kWaits : VV := (VV.tup [(VV.sl [(VV.lit (Value.int IntKind.i64 (Int.ofNat 0))), (VV.lit (Value.int IntKind.i64 (Int.ofNat 0))), (VV.lit (Value.int IntKind.i64 (Int.ofNat 1))), (VV.lit (Value.int IntKind.i64 (Int.ofNat 0)))] 4 Bool.false), (VV.lit (Value.int IntKind.i64 (Int.ofNat 0)))])
def kChain : VV := (VV.tup [(VV.sl [(VV.lit (Value.int IntKind.i64 (Int.ofNat 1))), (VV.lit (Value.int IntKind.i64 (Int.ofNat 3)))] 2 Bool.false), (VV.lit (Value.int IntKind.i64 (Int.ofNat 0)))])
def kSpare : VV := (VV.tup [(VV.lit (Value.int IntKind.i64 (Int.ofNat 1))), (VV.lit (Value.int IntKind.i64 (Int.ofNat 0)))])
def kBest : VV := (VV.tup [(VV.sl [(VV.lit (Value.int IntKind.i64 (Int.ofNat 0))), (VV.lit (Value.int IntKind.i64 (Int.ofNat 1))), (VV.lit (Value.int IntKind.i64 (Int.ofNat 0))), (VV.lit (Value.int IntKind.i64 (Int.ofNat 1)))] 4 Bool.false), (VV.lit (Value.int IntKind.i64 (Int.ofNat 6))), (VV.lit (Value.int IntKind.i64 (Int.ofNat 0)))])
def kCount : VV := (VV.tup [(VV.lit (Value.int IntKind.i64 (Int.ofNat 1))), (VV.lit (Value.int IntKind.i64 (Int.ofNat 0)))])
def kWho : VV := (VV.tup [(VV.sl [(VV.lit (Value.int IntKind.i64 (Int.ofNat 1)))] 1 Bool.false), (VV.lit (Value.int IntKind.i64 (Int.ofNat 0)))])
def kGive : VV := (VV.tup [(VV.lit (Value.int IntKind.i64 (Int.ofNat 1))), (VV.lit (Value.int IntKind.i64 (Int.ofNat 8))), (VV.lit (Value.int IntKind.i64 (Int.ofNat 0)))])
def kMore : VV := (VV.tup [(VV.lit (Value.int IntKind.i64 (Int.ofNat 5))), (VV.lit (Value.int IntKind.i64 (Int.ofNat 0)))])
def kLeast : VV := (VV.tup [(VV.lit (Value.int IntKind.i64 (Int.ofNat 2))), (VV.lit (Value.int IntKind.i64 (Int.ofNat 0)))])
def kRead : VV := (VV.tup [(VV.agg [(VV.lit (Value.int IntKind.i64 (Int.ofNat 0))), (VV.sl [(VV.lit (Value.int IntKind.i64 (Int.ofNat 0)))] 1 Bool.false), (VV.sl [(VV.lit (Value.int IntKind.i64 (Int.ofNat 0))), (VV.lit (Value.bool Bool.false)), (VV.lit (Value.int IntKind.i64 (Int.ofNat 1))), (VV.lit (Value.int IntKind.i64 (Int.ofNat 1))), (VV.lit (Value.slice Option.none 0 0))] 1 Bool.false)]), (VV.lit (Value.int IntKind.i64 (Int.ofNat 0)))])
theorem pB : ah Tryz.prog G0 64 [] (.tree kB) := ah.closedF (fs := []) (tab := []) hmix trivial 1000 (by kernel_rfl)
theorem pEnds : ah Tryz.prog G0 22 [kB, .sl [.lit (.int .i64 (0)), .lit (.int .i64 (1)), .lit (.int .i64 (0)), .lit (.int .i64 (1))] 4 false] (.tree kEnds) := ah.closedF (fs := []) (tab := []) hmix trivial 1000 (by kernel_rfl)
theorem pDone : ah Tryz.prog G0 23 [kB, .sl [.lit (.int .i64 (0)), .lit (.int .i64 (1)), .lit (.int .i64 (0)), .lit (.int .i64 (1))] 4 false, .lit (.int .i64 (0))] (.tree kDone) := ah.closedF (fs := []) (tab := []) hmix trivial 1000 (by kernel_rfl)
theorem pLate : ah Tryz.prog G0 36 [kB, .sl [.lit (.int .i64 (0)), .lit (.int .i64 (1)), .lit (.int .i64 (0)), .lit (.int .i64 (0))] 4 false] (.tree kLate) := ah.closedF (fs := []) (tab := []) hmix trivial 1000 (by kernel_rfl)
theorem pWaits : ah Tryz.prog G0 37 [kB, .sl [.lit (.int .i64 (0)), .lit (.int .i64 (1)), .lit (.int .i64 (0)), .lit (.int .i64 (1))] 4 false] (.tree kWaits) := ah.closedF (fs := []) (tab := []) hmix trivial 1000 (by kernel_rfl)
theorem pChain : ah Tryz.prog G0 42 [kB, .sl [.lit (.int .i64 (0)), .lit (.int .i64 (1)), .lit (.int .i64 (0)), .lit (.int .i64 (1))] 4 false] (.tree kChain) := ah.closedF (fs := []) (tab := []) hmix trivial 1000 (by kernel_rfl)
theorem pSpare : ah Tryz.prog G0 43 [kB, .sl [.lit (.int .i64 (0)), .lit (.int .i64 (1)), .lit (.int .i64 (0)), .lit (.int .i64 (1))] 4 false, .lit (.int .i64 (0))] (.tree kSpare) := ah.closedF (fs := []) (tab := []) hmix trivial 1000 (by kernel_rfl)
theorem pBest : ah Tryz.prog G0 51 [kB] (.tree kBest) := ah.closedF (fs := []) (tab := []) hmix trivial 1000 (by kernel_rfl)
theorem pCount : ah Tryz.prog G0 52 [kB] (.tree kCount) := ah.closedF (fs := []) (tab := []) hmix trivial 1000 (by kernel_rfl)
theorem pWho : ah Tryz.prog G0 55 [kB, .lit (.int .i64 (1))] (.tree kWho) := ah.closedF (fs := []) (tab := []) hmix trivial 1000 (by kernel_rfl)
theorem pGive : ah Tryz.prog G0 56 [kB, .sl [.lit (.int .i64 (0)), .lit (.int .i64 (0)), .lit (.int .i64 (0)), .lit (.int .i64 (0))] 4 false, .lit (.int .i64 (1))] (.tree kGive) := ah.closedF (fs := []) (tab := []) hmix trivial 1000 (by kernel_rfl)
theorem pMore : ah Tryz.prog G0 60 [kB] (.tree kMore) := ah.closedF (fs := []) (tab := []) hmix trivial 1000 (by kernel_rfl)
theorem pLeast : ah Tryz.prog G0 61 [kB, .lit (.int .i64 (5))] (.tree kLeast) := ah.closedF (fs := []) (tab := []) hmix trivial 1000 (by kernel_rfl)
theorem pRead : ah Tryz.prog G0 65 [.lit (.string ⟨⟨[98, 101, 110, 99, 104, 32, 48, 10, 98, 111, 97, 114, 100, 32, 48, 10, 115, 116, 114, 97, 105, 103, 104, 116, 32, 48, 32, 49, 32, 49, 32, 45, 10, 101, 110, 100, 32, 49, 55, 53, 10]⟩⟩)] (.tree kRead) := ah.closedF (fs := []) (tab := []) hmix trivial 1000 (by kernel_rfl)
def kTab : KTab := [
  (64, [], kB),
  (22, [kB, .sl [.lit (.int .i64 (0)), .lit (.int .i64 (1)), .lit (.int .i64 (0)), .lit (.int .i64 (1))] 4 false], kEnds),
  (23, [kB, .sl [.lit (.int .i64 (0)), .lit (.int .i64 (1)), .lit (.int .i64 (0)), .lit (.int .i64 (1))] 4 false, .lit (.int .i64 (0))], kDone),
  (36, [kB, .sl [.lit (.int .i64 (0)), .lit (.int .i64 (1)), .lit (.int .i64 (0)), .lit (.int .i64 (0))] 4 false], kLate),
  (37, [kB, .sl [.lit (.int .i64 (0)), .lit (.int .i64 (1)), .lit (.int .i64 (0)), .lit (.int .i64 (1))] 4 false], kWaits),
  (42, [kB, .sl [.lit (.int .i64 (0)), .lit (.int .i64 (1)), .lit (.int .i64 (0)), .lit (.int .i64 (1))] 4 false], kChain),
  (43, [kB, .sl [.lit (.int .i64 (0)), .lit (.int .i64 (1)), .lit (.int .i64 (0)), .lit (.int .i64 (1))] 4 false, .lit (.int .i64 (0))], kSpare),
  (51, [kB], kBest),
  (52, [kB], kCount),
  (55, [kB, .lit (.int .i64 (1))], kWho),
  (56, [kB, .sl [.lit (.int .i64 (0)), .lit (.int .i64 (0)), .lit (.int .i64 (0)), .lit (.int .i64 (0))] 4 false, .lit (.int .i64 (1))], kGive),
  (60, [kB], kMore),
  (61, [kB, .lit (.int .i64 (5))], kLeast),
  (65, [.lit (.string ⟨⟨[98, 101, 110, 99, 104, 32, 48, 10, 98, 111, 97, 114, 100, 32, 48, 10, 115, 116, 114, 97, 105, 103, 104, 116, 32, 48, 32, 49, 32, 49, 32, 45, 10, 101, 110, 100, 32, 49, 55, 53, 10]⟩⟩)], kRead)]
theorem kTabOk : KTabOk Tryz.prog G0 kTab := ⟨⟨by kernel_rfl, pB⟩, ⟨⟨by kernel_rfl, pEnds⟩, ⟨⟨by kernel_rfl, pDone⟩, ⟨⟨by kernel_rfl, pLate⟩, ⟨⟨by kernel_rfl, pWaits⟩, ⟨⟨by kernel_rfl, pChain⟩, ⟨⟨by kernel_rfl, pSpare⟩, ⟨⟨by kernel_rfl, pBest⟩, ⟨⟨by kernel_rfl, pCount⟩, ⟨⟨by kernel_rfl, pWho⟩, ⟨⟨by kernel_rfl, pGive⟩, ⟨⟨by kernel_rfl, pMore⟩, ⟨⟨by kernel_rfl, pLeast⟩, ⟨⟨by kernel_rfl, pRead⟩, trivial⟩⟩⟩⟩⟩⟩⟩⟩⟩⟩⟩⟩⟩⟩
theorem pKnown : ah Tryz.prog G0 20 [] (.tree (.lit (.bool true))) := ah.closedF (fs := []) hmix kTabOk 1000 (by kernel_rfl)
#print axioms pKnown
theorem qH : ah Tryz.prog G0 20 [] (.tree (.lit (.bool true))) := pKnown
def qI (ai : GBk) : List Int → Int → Option (LOut (Bool) (Unit))
 | [], bO => some (.go ())
 | e0 :: p0, bO => Option.bind (getI ai.Strokes bO) (fun x1 => Option.bind (ig e0 x1.Hours.Low x1.Hours.High) (fun r2 => cond (r2) (qI ai p0 (bO + 1)) (some (.ret false))))
def qJ (ai : GBk) (aq : List Int) : Option (Bool) := cond ((List.length aq : Int) != (List.length ai.Strokes : Int)) (some false) (cond (aH aq) (lbind (qI ai aq 0) (fun r4 => some r4) (fun c3 => some true) (fun _ _ => none)) none)
theorem MT (ai : GBk) (aq : List Int) (R : Bool) (h : qJ ai aq = some R) : ah Tryz.prog G0 31 [.agg (cGBk ai), .sl (aa eI aq) (List.length aq) false] (.tree (.lit (.bool R))) := by
 refine ah.runR mixed Tryz.call31 Tryz.func31 rfl (by simp [Tryz.ntmps31]; kernel_rfl) ?_
 obtain ⟨KF, h, kF, kN⟩ := cl h
 simp only [qJ] at h
 cases d5 : ((List.length aq : Int) != (List.length ai.Strokes : Int))
 ·simp only [d5, hs] at h
  cases g7 : (aH aq)
  ·simp only [g7, hs] at h
   exact absurd h kN
  simp only [g7, hs] at h
  simp only [vz, tyf, d5, g7, nm, seval]
  obtain ⟨K6, h, qK, tw, IP, kC⟩ := eW h kN
  obtain ⟨f6, tx, h⟩ := call2 h
  obtain ⟨I6, ju⟩ : ∃ I : Nat → St → Prop, I = (fun m st => ∃ (p6 : List Int) (b6 : Int), m = List.length p6 ∧ 0 ≤ b6 ∧ List.drop (Int.toNat b6) aq = p6 ∧ st.df = [] ∧ 9 ≤ st.nx ∧ st.H 0 = some (.cells (some 25) (cGBk ai)) ∧ st.tm 1 = .sl (aa eI aq) (List.length aq) false ∧ st.tm 2 = .ptr 0 0 ∧ st.tm 5 = .lit (.int .i64 b6) ∧ K6 (f6 p6 b6)) := ⟨_, rfl⟩
  refine loopK mixed (by kernel_rfl) I6 (List.length aq) (by rw [ju]; refine ⟨aq, 0, rfl, Int.le_refl _, rfl, rfl, (show 9 ≤ 9 by omega), ?_, ?_, ?_, ?_, h⟩ <;> first | (simp only [ua, d5, nm, seval] <;> rfl) | rfl) ?_
  rintro m ⟨tm, H, kD, df⟩ hinv
  rw [ju] at hinv
  obtain ⟨p6, b6, rfl, gv, jv, hdf, tz, H8, e9, aV, bh, h⟩ := hinv
  simp only at hdf tz H8 e9 aV bh
  have dt := f7 (m := 9) (b := kD) (by omega)
  subst hdf tx
  cases p6 with
  | nil =>
   have eh : (decide (b6 < (List.length aq : Int))) = false := eL gv jv
   simp only [qI, hs, reduceCtorEq] at h
   replace h := tw _ h
   try dsimp only at h
   try simp only [hs] at h
   try simp only [vz, tyf, d5, g7, dt, e9, aV, bh, H8, eh, nm, seval]
   obtain rfl := kF _ h
   exact aU Tryz.results31 rfl
  | cons e6 p6 =>
   have bp : (decide (b6 < (List.length aq : Int))) = true := eM gv jv
   have dZ := cL gv jv
   have ij := eN gv jv g7
   simp only [qI, hs, reduceCtorEq] at h
   simp only [vz, tyf, d5, g7, dt, e9, aV, bh, H8, bp, (aI dZ), ij, nm, seval]
   refine kq (fun tm => tm 1 = .sl (aa eI aq) (List.length aq) false ∧ tm 2 = .ptr 0 0 ∧ tm 5 = .lit (.int .i64 b6) ∧ True) (by refine ⟨e9, aV, bh, trivial⟩ <;> first | (simp only [ua, d5, dt, e9, aV, bh, H8, bp, ij, nm, seval] <;> rfl) | rfl) ?_
   rintro tm ⟨bw, b4, bG, _⟩
   obtain ⟨IQ, jr, h⟩ := optI h kC
   try simp only [hs] at h
   obtain ⟨IS, gP, h⟩ := optI h kC
   try simp only [hs] at h
   simp only [vz, tyf, d5, g7, dt, H8, bp, (aI dZ), ij, bw, b4, bG, (aK jr), nm, seval]
   refine dktA (kE _ _ _ _ gP) ?_
   refine br (fun tm => tm 1 = .sl (aa eI aq) (List.length aq) false ∧ tm 2 = .ptr 0 0 ∧ tm 5 = .lit (.int .i64 b6) ∧ tm 36 = .lit (.bool IS) ∧ True) (by refine ⟨bw, b4, bG, ?_, trivial⟩ <;> first | (simp only [ua, d5, dt, H8, bp, ij, bw, b4, bG, nm, seval] <;> rfl) | rfl) ?_
   rintro tm ⟨bA, bN, cv, ba, _⟩
   cases vN : (IS)
   ·simp only [vN, hs] at h
    have MU := And.intro d5 (And.intro g7 (And.intro dt (And.intro H8 (And.intro bp (And.intro ij vN)))))
    try simp only [vz, tyf, MU, (aI dZ), (aK jr), bA, bN, cv, ba, nm, seval]
    replace h := qK _ h
    try dsimp only at h
    obtain rfl := kF _ h
    exact aU Tryz.results31 rfl
   simp only [vN, hs] at h
   have Bh := And.intro d5 (And.intro g7 (And.intro dt (And.intro H8 (And.intro bp (And.intro ij vN)))))
   simp only [vz, tyf, Bh, (aI dZ), (aK jr), bA, bN, cv, ba, nm, seval]
   exact ⟨List.length p6, Nat.lt_succ_self _, by rw [ju]; refine ⟨p6, b6 + 1, rfl, Int.le_trans gv (Int.le_add_one (Int.le_refl _)), cy gv jv, rfl, (show 9 ≤ kD + 27 by omega), ?_, bA, bN, ?_, (by first | exact h | (simp only [Bh]; exact h))⟩ <;> first | (simp only [ua, Bh, bA, bN, cv, ba, nm, seval] <;> rfl) | rfl⟩
 simp only [d5, hs] at h
 try simp only [vz, tyf, d5, nm, seval]
 obtain rfl := kF _ h
 exact aU Tryz.results31 rfl
def nZ (dH : Int) (cB : Int) : Option (GSpan) := some (GSpan.mk dH cB)
theorem Bi (dH : Int) (cB : Int) (R : GSpan) (h : nZ dH cB = some R) : ah Tryz.prog G0 34 [.lit (.int .i64 dH), .lit (.int .i64 cB)] (.tree (.agg (aj R))) := by
 refine ah.runR mixed Tryz.call34 Tryz.func34 rfl (by simp [Tryz.ntmps34]; kernel_rfl) ?_
 obtain ⟨KF, h, kF, kN⟩ := cl h
 simp only [nZ] at h
 try simp only [vz, tyf, nm, seval]
 refine dU (x := (.agg ([.lit (.int .i64 dH)] ++ [.lit (.int .i64 cB)]))) (by first | (simp only [Tryz.results34, resV, resL, resV1, dX, dY, uw, cr, tyf, nm, seval] <;> rfl) | rfl) ?_
 obtain rfl := kF _ h
 refine jk ?_ ?_
 ·simp only [tre, tytre, Bool.and_self]
 ·first | (simp only [outV, uw, jB, cr, tyf, nrm, tynrm, nm, seval] <;> rfl) | rfl
def qL  : List Int → Int → (List GBs) → Option (LOut (GBk) ((List GBs)))
 | [], cC, bL => some (.go bL)
 | e0 :: p0, cC, bL => Option.bind (nZ e0 e0) (fun r3 => Option.bind (getI bL cC) (fun x4 => qL p0 (cC + 1) (List.set bL (Int.toNat cC) (GBs.mk x4.Board x4.Round r3 x4.Needs))))
def oa (ai : GBk) (aq : List Int) : Option (GBk) := cond (neB ai.Strokes) (cond (roomOk 56 (List.length ([] ++ ai.Strokes))) (cond (aH aq) (lbind (qL aq 0 ([] ++ ai.Strokes)) (fun r6 => some r6) (fun c5 => some (GBk.mk ai.Apprentices ai.Boards c5)) (fun _ _ => none)) none) none) none
theorem Bj (ai : GBk) (aq : List Int) (R : GBk) (h : oa ai aq = some R) : ah Tryz.prog G0 32 [.agg (cGBk ai), .sl (aa eI aq) (List.length aq) false] (.tree (.agg (cGBk R))) := by
 refine ah.runR mixed Tryz.call32 Tryz.func32 rfl (by simp [Tryz.ntmps32]; kernel_rfl) ?_
 obtain ⟨KF, h, kF, kN⟩ := cl h
 simp only [oa] at h
 cases g7 : (neB ai.Strokes)
 ·simp only [g7, hs] at h
  exact absurd h kN
 simp only [g7, hs] at h
 cases g8 : (roomOk 56 (List.length ([] ++ ai.Strokes)))
 ·simp only [g8, hs] at h
  exact absurd h kN
 simp only [g8, hs] at h
 simp only [vz, tyf, g7, g8, nm, seval]
 refine Bk (w := 5) (enc := cGBs) (ys := ai.Strokes) (fun _ => rfl) xW xU Tryz.underlying23 g7 g8 ?_
 cases ly : (aH aq)
 ·simp only [ly, hs] at h
  exact absurd h kN
 simp only [ly, hs] at h
 simp only [vz, tyf, g7, g8, ly, nm, seval]
 obtain ⟨K9, h, Rw, MV, Rx, IT⟩ := eW h kN
 obtain ⟨f9, MW, h⟩ := call3 h
 obtain ⟨I9, Bl⟩ : ∃ I : Nat → St → Prop, I = (fun m st => ∃ (p9 : List Int) (cY : Int) (bY : List GBs), m = List.length p9 ∧ 0 ≤ cY ∧ List.drop (Int.toNat cY) aq = p9 ∧ st.df = [] ∧ 11 ≤ st.nx ∧ st.H 1 = some (.cells (some 25) ([.lit (.int .i64 0)] ++ [.lit (.slice none 0 0)] ++ [.lit (.slice none 0 0)])) ∧ st.H 3 = some (.cells (some 25) ([.lit (.int .i64 ai.Apprentices)] ++ [.sl (aa eI ai.Boards) (List.length ai.Boards) false] ++ [.ref 7 0 (List.length bY) 5 (List.length bY)])) ∧ st.H 7 = some (.cells ((some 49)) (aa cGBs bY)) ∧ st.tm 1 = .sl (aa eI aq) (List.length aq) false ∧ st.tm 4 = .ptr 1 0 ∧ st.tm 5 = .ptr 3 0 ∧ st.tm 6 = .lit (.int .i64 cY) ∧ K9 (f9 p9 cY bY)) := ⟨_, rfl⟩
 refine loopK mixed (by kernel_rfl) I9 (List.length aq) (by rw [Bl]; refine ⟨aq, 0, ([] ++ ai.Strokes), rfl, Int.le_refl _, rfl, rfl, (show 11 ≤ 11 by omega), ?_, ?_, ?_, ?_, ?_, ?_, ?_, h⟩ <;> first | (simp only [ua, nm, seval] <;> rfl) | rfl) ?_
 rintro m ⟨tm, H, IU, df⟩ hinv
 rw [Bl] at hinv
 obtain ⟨p9, cY, bY, rfl, qM, t0, hdf, MX, ik, oc, od, cn, dy, bS, bw, h⟩ := hinv
 simp only at hdf MX ik oc od cn dy bS bw
 have qN := f7 (m := 11) (b := IU) (by omega)
 subst hdf MW
 cases p9 with
 | nil =>
  have cz : (decide (cY < (List.length aq : Int))) = false := eL qM t0
  simp only [qL, hs, reduceCtorEq] at h
  replace h := MV _ h
  try dsimp only at h
  try simp only [hs] at h
  try simp only [vz, tyf, g7, g8, ly, qN, cn, dy, bS, bw, ik, oc, od, cz, nm, seval]
  refine dU (x := (.agg ([.lit (.int .i64 ai.Apprentices)] ++ [.sl (aa eI ai.Boards) (List.length ai.Boards) false] ++ [.ref 7 0 (List.length bY) 5 (List.length bY)]))) (by first | (simp only [Tryz.results32, resV, resL, resV1, dX, dY, uw, cr, tyf, g7, g8, ly, qN, cn, dy, bS, bw, ik, oc, od, cz, nm, seval] <;> rfl) | rfl) ?_
  obtain rfl := kF _ h
  refine jk ?_ ?_
  ·simp only [tre, tytre, Bool.and_self]
  ·first | (simp only [outV, uw, jB, cr, tyf, nrm, tynrm, g7, g8, ly, qN, cn, dy, bS, bw, ik, oc, od, cz, nm, seval] <;> rfl) | rfl
 | cons e9 p9 =>
  have dz : (decide (cY < (List.length aq : Int))) = true := eM qM t0
  have mD := cL qM t0
  have Bm := eN qM t0 ly
  simp only [qL, hs, reduceCtorEq] at h
  simp only [vz, tyf, g7, g8, ly, qN, cn, dy, bS, bw, ik, oc, od, dz, (aI mD), Bm, nm, seval]
  refine s5 (fun tm => tm 1 = .sl (aa eI aq) (List.length aq) false ∧ tm 4 = .ptr 1 0 ∧ tm 5 = .ptr 3 0 ∧ tm 6 = .lit (.int .i64 cY) ∧ True) (by refine ⟨cn, dy, bS, bw, trivial⟩ <;> first | (simp only [ua, qN, cn, dy, bS, bw, ik, oc, od, dz, Bm, nm, seval] <;> rfl) | rfl) ?_
  rintro tm ⟨cb, bA, bN, cv, _⟩
  have mO := And.intro g7 (And.intro g8 (And.intro ly (And.intro qN (And.intro ik (And.intro oc (And.intro od (And.intro dz Bm)))))))
  obtain ⟨oe, MY, h⟩ := optI h IT
  try simp only [hs] at h
  simp only [vz, tyf, mO, (aI mD), cb, bA, bN, cv, nm, seval]
  refine dktA (Bi _ _ _ MY) ?_
  refine br (fun tm => tm 1 = .sl (aa eI aq) (List.length aq) false ∧ tm 4 = .ptr 1 0 ∧ tm 5 = .ptr 3 0 ∧ tm 6 = .lit (.int .i64 cY) ∧ tm 19 = .ref 7 0 (List.length bY) 5 (List.length bY) ∧ tm 20 = .lit (.int .i64 cY) ∧ tm 29 = .agg (aj oe) ∧ True) (by refine ⟨cb, bA, bN, cv, ?_, ?_, ?_, trivial⟩ <;> first | (simp only [ua, mO, cb, bA, bN, cv, nm, seval] <;> rfl) | rfl) ?_
  rintro tm ⟨cM, cN, gQ, ej, fZ, gw, gW, _⟩
  obtain ⟨lz, qE, h⟩ := optI h IT
  try simp only [hs] at h
  have Bn := setAF (w := 5) (enc := cGBs) 2 2 (fun _ => rfl) (by decide) qE
  have mP := setBF (w := 5) (enc := cGBs) 2 (aj oe) (GBs.mk lz.Board lz.Round oe lz.Needs) (fun _ => rfl) (Nat.le_of_ble_eq_true rfl) qE rfl
  simp only [vz, tyf, nm, seval] at mP
  have Bo := setC (w := 5) (enc := cGBs) bY (Int.toNat cY) (GBs.mk lz.Board lz.Round oe lz.Needs) (fun _ => rfl)
  simp only [vz, tyf, mO, (aI mD), cM, cN, gQ, ej, fZ, gw, gW, (mr qE), Bn, mP, Bo, nm, seval]
  refine s7 ⟨?_, ?_⟩
  ·simp only [s8, s9, k7, sA, and_true, true_and]
   repeat' (first | exact trivial | refine And.intro ?_ ?_ | rw [k7] | rw [sB] | exact Or.inl (by decide +kernel) | exact Or.inl (by dsimp only; decide +kernel) | (refine Or.inr ⟨?_, ?_⟩ <;> simp; done) | (refine Or.inr ⟨?_, ?_⟩ <;> simp <;> omega) | (refine Or.inr ⟨?_, ?_⟩ <;> simp [VEff.wr] <;> omega))
  simp only [vz, tyf, mO, (aI mD), cM, cN, gQ, ej, fZ, gw, gW, (mr qE), Bn, mP, Bo, nm, seval]
  exact ⟨List.length p9, Nat.lt_succ_self _, by rw [Bl]; refine ⟨p9, cY + 1, (List.set bY (Int.toNat cY) (GBs.mk lz.Board lz.Round oe lz.Needs)), rfl, Int.le_trans qM (Int.le_add_one (Int.le_refl _)), cy qM t0, rfl, (show 11 ≤ IU + 22 by omega), ?_, ?_, ?_, cM, cN, gQ, ?_, (by first | exact h | (simp only [mO]; exact h))⟩ <;> first | (simp only [ua, mO, cM, cN, gQ, ej, fZ, gw, gW, Bn, mP, Bo, nm, seval] <;> rfl) | rfl⟩
def kG (aQ : Bool) : List GBs → Int → (List Int) → Option (LOut (List Int) ((List Int)))
 | [], cC, bO => some (.go bO)
 | e0 :: p0, cC, bO => cond (aQ) (cond (roomOk 8 (List.length (bO ++ [e0.Hours.High]))) (kG aQ p0 (cC + 1) (bO ++ [e0.Hours.High])) none) (cond (roomOk 8 (List.length (bO ++ [e0.Hours.Low]))) (kG aQ p0 (cC + 1) (bO ++ [e0.Hours.Low])) none)
def qO (ai : GBk) (aQ : Bool) : Option (List Int) := cond (aH ai.Strokes) (lbind (kG aQ ai.Strokes 0 ([] : List Int)) (fun r2 => some r2) (fun c1 => some c1) (fun _ _ => none)) none
theorem IV (ai : GBk) (aQ : Bool) (R : List Int) (h : qO ai aQ = some R) : ah Tryz.prog G0 33 [.agg (cGBk ai), .lit (.bool aQ)] (.tree (.sl (aa eI R) (List.length R) false)) := by
 refine ah.runR mixed Tryz.call33 Tryz.func33 rfl (by simp [Tryz.ntmps33]; kernel_rfl) ?_
 obtain ⟨KF, h, kF, kN⟩ := cl h
 simp only [qO] at h
 cases g4 : (aH ai.Strokes)
 ·simp only [g4, hs] at h
  exact absurd h kN
 simp only [g4, hs] at h
 simp only [vz, tyf, g4, nm, seval]
 obtain ⟨K3, h, t4, l3, Bp, og⟩ := eW h kN
 obtain ⟨f3, oh, h⟩ := call3 h
 obtain ⟨I3, fv⟩ : ∃ I : Nat → St → Prop, I = (fun m st => ∃ (p3 : List GBs) (cZ : Int) (bm : List Int) (l5 : VV), m = List.length p3 ∧ 0 ≤ cZ ∧ List.drop (Int.toNat cZ) ai.Strokes = p3 ∧ st.df = [] ∧ 4 ≤ st.nx ∧ st.H 0 = some (.cells (some 25) (cGBk ai)) ∧ st.tm 1 = .lit (.bool aQ) ∧ st.tm 2 = .ptr 0 0 ∧ st.tm 5 = l5 ∧ st.tm 6 = .lit (.int .i64 cZ) ∧ ((∃ (β : Nat) (el : Option TypeId), l5 = .ref β 0 (List.length bm) 1 (List.length bm) ∧ β < st.nx ∧ β ≠ 0 ∧ st.H β = some (.cells el (aa eI bm))) ∨ (l5 = .lit (.slice none 0 0) ∧ bm = [])) ∧ K3 (f3 p3 cZ bm)) := ⟨_, rfl⟩
 refine loopK mixed (by kernel_rfl) I3 (List.length ai.Strokes) (by rw [fv]; refine ⟨ai.Strokes, 0, ([] : List Int), .lit (.slice none 0 0), rfl, Int.le_refl _, rfl, rfl, (show 4 ≤ 4 by omega), ?_, ?_, ?_, ?_, ?_, Or.inr ⟨rfl, rfl⟩, h⟩ <;> first | (simp only [ua, nm, seval] <;> rfl) | rfl) ?_
 rintro m ⟨tm, H, eg, df⟩ hinv
 rw [fv] at hinv
 obtain ⟨p3, cZ, bm, l5, rfl, bP, c8, hdf, om, H5, e6, e7, e8, e9, mQ, h⟩ := hinv
 simp only at hdf om H5 e6 e7 e8 e9 mQ
 have eP := f7 (m := 4) (b := eg) (by omega)
 subst hdf oh
 rcases mQ with ⟨Bq, gX, rfl, Br, Bs, ik⟩ | ⟨rfl, rfl⟩
 ·have t5 := kz Br
  have t6 := ne_f Bs
  cases p3 with
  | nil =>
   have bp : (decide (cZ < (List.length ai.Strokes : Int))) = false := eL bP c8
   simp only [kG, hs, reduceCtorEq] at h
   replace h := l3 _ h
   try dsimp only at h
   try simp only [hs] at h
   try simp only [vz, tyf, g4, eP, e6, e7, e8, e9, H5, t5, ik, t6, bp, nm, seval]
   refine dU (x := (.ref Bq 0 (List.length bm) 1 (List.length bm))) (by first | (simp only [Tryz.results33, resV, resL, resV1, dX, dY, uw, cr, tyf, g4, eP, H5, t5, ik, t6, bp, nm, seval] <;> rfl) | rfl) ?_
   obtain rfl := kF _ h
   refine jk ?_ ?_
   ·simp only [tre, tytre, Bool.and_self]
   ·first | (simp only [outV, uw, jB, cr, tyf, nrm, tynrm, g4, eP, e6, e7, e8, e9, H5, t5, ik, t6, bp, nm, seval] <;> rfl) | rfl
  | cons e3 p3 =>
   have ga : (decide (cZ < (List.length ai.Strokes : Int))) = true := eM bP c8
   have ko := cL bP c8
   have IW := eN bP c8 g4
   simp only [kG, hs, reduceCtorEq] at h
   cases l6 : (aQ)
   ·simp only [l6, hs] at h
    have il := And.intro g4 (And.intro eP (And.intro H5 (And.intro t5 (And.intro ik (And.intro t6 (And.intro ga (And.intro IW l6)))))))
    cases oo : (roomOk 8 (List.length (bm ++ [e3.Hours.Low])))
    ·simp only [oo, hs] at h
     exact absurd h og
    simp only [oo, hs] at h
    simp only [vz, tyf, il, e6, e7, e8, e9, (aK ko), oo, nm, seval]
    refine k_app (w := 1) (enc := eI) (xs := bm) (ys := ([e3.Hours.Low])) (el := gX) (k6 := (some 3)) (fun _ => rfl) hT hS Tryz.underlying22 (by first | rfl | assumption | (simp only [bf, bg, ct, il, nm, seval] <;> rfl) | (simp only [bf, bg, fy, fX, fj, fk, tyf, il, e6, e7, e8, e9, (aK ko), oo, nm, seval]; done)) (by first | rfl | assumption | (simp only [bf, bg, ct, il, nm, seval] <;> rfl) | (simp only [bf, bg, fy, fX, fj, fk, tyf, il, e6, e7, e8, e9, (aK ko), oo, nm, seval]; done)) (Nat.zero_lt_succ _) oo ?_
    simp only [vz, tyf, il, e6, e7, e8, e9, (aK ko), oo, nm, seval]
    exact ⟨List.length p3, Nat.lt_succ_self _, by rw [fv]; refine ⟨p3, cZ + 1, (bm ++ [e3.Hours.Low]), .ref (eg + 15) 0 (List.length (bm ++ [e3.Hours.Low])) 1 (List.length (bm ++ [e3.Hours.Low])), rfl, Int.le_trans bP (Int.le_add_one (Int.le_refl _)), cy bP c8, rfl, (show 4 ≤ eg + 20 by omega), ?_, ?_, e7, ?_, ?_, Or.inl ⟨eg + 15, (sameEl gX 3), rfl, (by first | omega | (simp only [nm, seval]; done) | (simp only [nm, seval]; omega)), (by first | omega | (intro hh; simp only [il, reduceCtorEq] at hh)), ?_⟩, (by first | exact h | (simp only [il]; exact h))⟩ <;> first | (simp only [ua, il, e6, e7, e8, e9, nm, seval] <;> rfl) | rfl⟩
   simp only [l6, hs] at h
   have l7 := And.intro g4 (And.intro eP (And.intro H5 (And.intro t5 (And.intro ik (And.intro t6 (And.intro ga (And.intro IW l6)))))))
   cases oq : (roomOk 8 (List.length (bm ++ [e3.Hours.High])))
   ·simp only [oq, hs] at h
    exact absurd h og
   simp only [oq, hs] at h
   simp only [vz, tyf, l7, e6, e7, e8, e9, (aK ko), oq, nm, seval]
   refine k_app (w := 1) (enc := eI) (xs := bm) (ys := ([e3.Hours.High])) (el := gX) (k6 := (some 3)) (fun _ => rfl) hT hS Tryz.underlying22 (by first | rfl | assumption | (simp only [bf, bg, ct, l7, nm, seval] <;> rfl) | (simp only [bf, bg, fy, fX, fj, fk, tyf, l7, e6, e7, e8, e9, (aK ko), oq, nm, seval]; done)) (by first | rfl | assumption | (simp only [bf, bg, ct, l7, nm, seval] <;> rfl) | (simp only [bf, bg, fy, fX, fj, fk, tyf, l7, e6, e7, e8, e9, (aK ko), oq, nm, seval]; done)) (Nat.zero_lt_succ _) oq ?_
   simp only [vz, tyf, l7, e6, e7, e8, e9, (aK ko), oq, nm, seval]
   exact ⟨List.length p3, Nat.lt_succ_self _, by rw [fv]; refine ⟨p3, cZ + 1, (bm ++ [e3.Hours.High]), .ref (eg + 15) 0 (List.length (bm ++ [e3.Hours.High])) 1 (List.length (bm ++ [e3.Hours.High])), rfl, Int.le_trans bP (Int.le_add_one (Int.le_refl _)), cy bP c8, rfl, (show 4 ≤ eg + 20 by omega), ?_, ?_, e7, ?_, ?_, Or.inl ⟨eg + 15, (sameEl gX 3), rfl, (by first | omega | (simp only [nm, seval]; done) | (simp only [nm, seval]; omega)), (by first | omega | (intro hh; simp only [l7, reduceCtorEq] at hh)), ?_⟩, (by first | exact h | (simp only [l7]; exact h))⟩ <;> first | (simp only [ua, l7, e6, e7, e8, e9, nm, seval] <;> rfl) | rfl⟩
 ·cases p3 with
  | nil =>
   have gb : (decide (cZ < (List.length ai.Strokes : Int))) = false := eL bP c8
   simp only [kG, hs, reduceCtorEq] at h
   replace h := l3 _ h
   try dsimp only at h
   try simp only [hs] at h
   try simp only [vz, tyf, g4, eP, e6, e7, e8, e9, H5, gb, nm, seval]
   refine dU (x := (.lit (.slice none 0 0))) (by first | (simp only [Tryz.results33, resV, resL, resV1, dX, dY, uw, cr, tyf, g4, eP, H5, gb, nm, seval] <;> rfl) | rfl) ?_
   obtain rfl := kF _ h
   refine jk ?_ ?_
   ·simp only [tre, tytre, Bool.and_self]
   ·first | (simp only [outV, uw, jB, cr, tyf, nrm, tynrm, g4, eP, e6, e7, e8, e9, H5, gb, nm, seval] <;> rfl) | rfl
  | cons e3 p3 =>
   have dV : (decide (cZ < (List.length ai.Strokes : Int))) = true := eM bP c8
   have gS := cL bP c8
   have mR := eN bP c8 g4
   simp only [kG, hs, reduceCtorEq] at h
   cases jw : (aQ)
   ·simp only [jw, hs] at h
    cases fE : (roomOk 8 (List.length (([] : List Int) ++ [e3.Hours.Low])))
    ·simp only [fE, hs] at h
     exact absurd h og
    simp only [fE, hs] at h
    simp only [vz, tyf, g4, eP, e6, e7, e8, e9, H5, dV, (aK gS), mR, jw, fE, nm, seval]
    refine ln (w := 1) (enc := eI) (ys := ([e3.Hours.Low])) (k6 := (some 3)) (fun _ => rfl) hT hS Tryz.underlying22 (by first | rfl | assumption | (simp only [bf, bg, ct, eP, H5, nm, seval] <;> rfl) | (simp only [bf, bg, fy, fX, fj, fk, tyf, g4, eP, e6, e7, e8, e9, H5, dV, (aK gS), mR, jw, fE, nm, seval]; done)) (Nat.zero_lt_succ _) fE ?_
    simp only [vz, tyf, g4, eP, e6, e7, e8, e9, H5, dV, (aK gS), mR, jw, fE, nm, seval]
    exact ⟨List.length p3, Nat.lt_succ_self _, by rw [fv]; refine ⟨p3, cZ + 1, (([] : List Int) ++ [e3.Hours.Low]), .ref (eg + 15) 0 (List.length (([] : List Int) ++ [e3.Hours.Low])) 1 (List.length (([] : List Int) ++ [e3.Hours.Low])), rfl, Int.le_trans bP (Int.le_add_one (Int.le_refl _)), cy bP c8, rfl, (show 4 ≤ eg + 20 by omega), ?_, ?_, e7, ?_, ?_, Or.inl ⟨eg + 15, (some 3), rfl, (by first | omega | (simp only [nm, seval]; done) | (simp only [nm, seval]; omega)), (by first | omega | (intro hh; simp only [eP, reduceCtorEq] at hh)), ?_⟩, (by first | exact h | (simp only [dV, jw]; exact h))⟩ <;> first | (simp only [ua, eP, e6, e7, e8, e9, H5, dV, mR, jw, nm, seval] <;> rfl) | rfl⟩
   simp only [jw, hs] at h
   cases qP : (roomOk 8 (List.length (([] : List Int) ++ [e3.Hours.High])))
   ·simp only [qP, hs] at h
    exact absurd h og
   simp only [qP, hs] at h
   simp only [vz, tyf, g4, eP, e6, e7, e8, e9, H5, dV, (aK gS), mR, jw, qP, nm, seval]
   refine ln (w := 1) (enc := eI) (ys := ([e3.Hours.High])) (k6 := (some 3)) (fun _ => rfl) hT hS Tryz.underlying22 (by first | rfl | assumption | (simp only [bf, bg, ct, eP, H5, nm, seval] <;> rfl) | (simp only [bf, bg, fy, fX, fj, fk, tyf, g4, eP, e6, e7, e8, e9, H5, dV, (aK gS), mR, jw, qP, nm, seval]; done)) (Nat.zero_lt_succ _) qP ?_
   simp only [vz, tyf, g4, eP, e6, e7, e8, e9, H5, dV, (aK gS), mR, jw, qP, nm, seval]
   exact ⟨List.length p3, Nat.lt_succ_self _, by rw [fv]; refine ⟨p3, cZ + 1, (([] : List Int) ++ [e3.Hours.High]), .ref (eg + 15) 0 (List.length (([] : List Int) ++ [e3.Hours.High])) 1 (List.length (([] : List Int) ++ [e3.Hours.High])), rfl, Int.le_trans bP (Int.le_add_one (Int.le_refl _)), cy bP c8, rfl, (show 4 ≤ eg + 20 by omega), ?_, ?_, e7, ?_, ?_, Or.inl ⟨eg + 15, (some 3), rfl, (by first | omega | (simp only [nm, seval]; done) | (simp only [nm, seval]; omega)), (by first | omega | (intro hh; simp only [eP, reduceCtorEq] at hh)), ?_⟩, (by first | exact h | (simp only [dV, jw]; exact h))⟩ <;> first | (simp only [ua, eP, e6, e7, e8, e9, H5, dV, mR, jw, nm, seval] <;> rfl) | rfl⟩
def qQ (aY : Int) : List Int → Int → Option (LOut (Bool) (Unit))
 | [], bO => some (.go ())
 | e0 :: p0, bO => cond (e0 == aY) (some (.ret true)) (qQ aY p0 (bO + 1))
def t7 (bD : List Int) (aY : Int) : Option (Bool) := cond (aH bD) (lbind (qQ aY bD 0) (fun r2 => some r2) (fun c1 => some false) (fun _ _ => none)) none
theorem MZ (bD : List Int) (aY : Int) (R : Bool) (h : t7 bD aY = some R) : ah Tryz.prog G0 35 [.sl (aa eI bD) (List.length bD) false, .lit (.int .i64 aY)] (.tree (.lit (.bool R))) := by
 refine ah.runR mixed Tryz.call35 Tryz.func35 rfl (by simp [Tryz.ntmps35]; kernel_rfl) ?_
 obtain ⟨KF, h, kF, kN⟩ := cl h
 simp only [t7] at h
 cases g4 : (aH bD)
 ·simp only [g4, hs] at h
  exact absurd h kN
 simp only [g4, hs] at h
 simp only [vz, tyf, g4, nm, seval]
 obtain ⟨K3, h, t4, l3, Bp, og⟩ := eW h kN
 obtain ⟨f3, oh, h⟩ := call2 h
 obtain ⟨I3, fv⟩ : ∃ I : Nat → St → Prop, I = (fun m st => ∃ (p3 : List Int) (bm : Int), m = List.length p3 ∧ 0 ≤ bm ∧ List.drop (Int.toNat bm) bD = p3 ∧ st.df = [] ∧ 2 ≤ st.nx ∧ st.tm 0 = .sl (aa eI bD) (List.length bD) false ∧ st.tm 1 = .lit (.int .i64 aY) ∧ st.tm 5 = .lit (.int .i64 bm) ∧ K3 (f3 p3 bm)) := ⟨_, rfl⟩
 refine loopK mixed (by kernel_rfl) I3 (List.length bD) (by rw [fv]; refine ⟨bD, 0, rfl, Int.le_refl _, rfl, rfl, (show 2 ≤ 2 by omega), ?_, ?_, ?_, h⟩ <;> first | (simp only [ua, nm, seval] <;> rfl) | rfl) ?_
 rintro m ⟨tm, H, eg, df⟩ hinv
 rw [fv] at hinv
 obtain ⟨p3, bm, rfl, bP, c8, hdf, om, e5, e6, e7, h⟩ := hinv
 simp only at hdf om e5 e6 e7
 have n8 := f7 (m := 2) (b := eg) (by omega)
 subst hdf oh
 cases p3 with
 | nil =>
  have d9 : (decide (bm < (List.length bD : Int))) = false := eL bP c8
  simp only [qQ, hs, reduceCtorEq] at h
  replace h := l3 _ h
  try dsimp only at h
  try simp only [hs] at h
  try simp only [vz, tyf, g4, n8, e5, e6, e7, d9, nm, seval]
  obtain rfl := kF _ h
  exact aU Tryz.results35 rfl
 | cons e3 p3 =>
  have im : (decide (bm < (List.length bD : Int))) = true := eM bP c8
  have vO := cL bP c8
  have Bt := eN bP c8 g4
  simp only [qQ, hs, reduceCtorEq] at h
  cases eh : (e3 == aY)
  ·simp only [eh, hs] at h
   simp only [vz, tyf, g4, n8, e5, e6, e7, im, (aI vO), Bt, eh, nm, seval]
   exact ⟨List.length p3, Nat.lt_succ_self _, by rw [fv]; refine ⟨p3, bm + 1, rfl, Int.le_trans bP (Int.le_add_one (Int.le_refl _)), cy bP c8, rfl, (show 2 ≤ eg + 13 by omega), e5, e6, ?_, (by first | exact h | (simp only [im, eh]; exact h))⟩ <;> first | (simp only [ua, n8, e5, e6, e7, im, Bt, eh, nm, seval] <;> rfl) | rfl⟩
  simp only [eh, hs] at h
  try simp only [vz, tyf, g4, n8, e5, e6, e7, im, (aI vO), Bt, eh, nm, seval]
  replace h := t4 _ h
  try dsimp only at h
  obtain rfl := kF _ h
  exact aU Tryz.results35 rfl
end Go.V
end
