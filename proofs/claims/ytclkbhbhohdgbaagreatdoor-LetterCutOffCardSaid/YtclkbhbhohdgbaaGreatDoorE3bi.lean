/- Part of a proof. -/
import Derived.Test.YtclkbhbhohdgbaaGreatDoorE3bh
set_option linter.all false
set_option maxRecDepth 4000
set_option maxHeartbeats 40000000
section
namespace Go.V
open Go Go.Proofs IntKind Tryz
theorem Ek : ∀ (h : List FL) (u : List GLe) (r : Int), u.Pairwise befE → (h.map (·.1)).Pairwise befE → (∀ x ∈ u, x ∈ h.map (·.1)) →
  ∃ (M : List Glm) (r1 : Int), ∀ (t : List GLe) (x : GLe) (b : List FL), x ∉ h.map (·.1) → (mkS (u ++ x :: t) (h ++ b) r).1 = M ++ (mkS (x :: t) b r1).1
 | [], u, r, hu, hh, hm => by
  cases u with
  | nil => exact ⟨[], r, fun t x b _ => rfl⟩
  | cons y u => exact absurd (hm y (qZb ..)) (by simp)
 | f :: h, u, r, hu, hh, hm => by
  rw [List.map_cons, List.pairwise_cons] at hh
  cases u with
  | nil =>
   obtain ⟨M, r1, ih⟩ := Ek h [] r hu hh.2 (fun x hx => by cases hx)
   refine ⟨Glm.mk f.1.Word f.2.1 r false :: M, r1, fun t x b hx => ?_⟩
   simp only [List.map_cons, List.mem_cons, not_or] at hx
   rw [List.nil_append, List.cons_append, sJ hx.1]
   have := ih t x b hx.2
   rw [List.nil_append] at this
   simp only [this, List.cons_append]
  | cons y u =>
   have hu' := List.pairwise_cons.1 hu
   by_cases hy : y = f.1
   ·obtain ⟨M, r1, ih⟩ := Ek h u (r + 1) hu'.2 hh.2 (fun x hx => by
     rcases List.mem_cons.1 (hm x (qZa _ hx)) with hh | hh
     ·exact absurd (hu'.1 x hx) (by rw [hh, hy]; exact jw)
     ·exact hh)
    refine ⟨Glm.mk f.1.Word f.2.1 r f.2.2 :: M, r1, fun t x b hx => ?_⟩
    simp only [List.map_cons, List.mem_cons, not_or] at hx
    rw [List.cons_append, List.cons_append, qG hy]
    simp only [ih t x b hx.2, List.cons_append]
   ·have hyh : y ∈ h.map (·.1) := by
     rcases List.mem_cons.1 (hm y (qZb ..)) with hh | hh
     ·exact absurd hh hy
     ·exact hh
    obtain ⟨M, r1, ih⟩ := Ek h (y :: u) r hu hh.2 (fun x hx => by
     rcases List.mem_cons.1 hx with rfl | hx
     ·exact hyh
     ·rcases List.mem_cons.1 (hm x (qZa _ hx)) with he | he
      ·have a := hh.1 y hyh
       have b := hu'.1 x hx
       rw [he] at b
       exact absurd (yW a b) jw
      ·exact he)
    refine ⟨Glm.mk f.1.Word f.2.1 r false :: M, r1, fun t x b hx => ?_⟩
    simp only [List.map_cons, List.mem_cons, not_or] at hx
    rw [List.cons_append, List.cons_append, sJ hy]
    have := ih t x b hx.2
    rw [List.cons_append] at this
    simp only [this, List.cons_append]
theorem Nt (s : GLs) (k j : Int) {X Y : List Glm} (hXY : ∀ m, spF s k m X.head? = spF s k m Y.head?) : ∀ M : List Glm, (addL s k j (M ++ X)).sum + (addL s k j Y).sum = (addL s k j (M ++ Y)).sum + (addL s k j X).sum
 | [] => by rw [List.nil_append, List.nil_append, Int.add_comm]
 | m :: M => by
  have ih := Nt s k j hXY M
  rw [List.cons_append, List.cons_append, addL, addL, List.sum_append, List.sum_append]
  have : spF s k m (M ++ X).head? = spF s k m (M ++ Y).head? := by
   cases M with
   | nil => exact hXY m
   | cons => rfl
  rw [this]
  omega
theorem UY {s : GLs} (h : Sh s) (j r1 : Int) (w w2 c d : Int) (b : Bool) (hd : 0 ≤ d ∧ d < s.Widths.length) :
  (addL s 0 j [Glm.mk w c r1 false]).sum ≤ (addL s 0 j [Glm.mk w c r1 false, Glm.mk w2 d r1 false]).sum ∧ (addL s 0 j [Glm.mk w c r1 false]).sum ≤ (addL s 0 j [Glm.mk w c r1 b, Glm.mk w2 d (r1 + 1) false]).sum := by
 have hw := vT h hd.1 hd.2
 have a1 := spF_b h (k := 0) (qZg _) (by omega) (Glm.mk w c r1 false) (some (Glm.mk w2 d r1 false))
 have a2 := spF_b h (k := 0) (qZg _) (by omega) (Glm.mk w c r1 b) (some (Glm.mk w2 d (r1 + 1) false))
 have a3 := spF_b h (k := 0) (qZg _) (by omega) (Glm.mk w2 d r1 false) none
 have a4 := spF_b h (k := 0) (qZg _) (by omega) (Glm.mk w2 d (r1 + 1) false) none
 have a5 : spF s 0 (Glm.mk w c r1 false) none = 0 := rfl
 have a6 := h.hyp
 simp only [addL, List.head?_cons, List.head?_nil, a5]
 constructor
 ·by_cases hj : r1 = j
  ·simp only [if_pos hj, cond_false, List.append_nil, List.sum_append, List.sum_cons, List.sum_nil]
   omega
  ·simp only [if_neg hj, List.append_nil, List.sum_nil]
   omega
 ·by_cases hj : r1 = j
  ·by_cases El : r1 + 1 = j
   ·omega
   ·cases b <;> simp only [if_pos hj, if_neg El, cond_false, cond_true, List.append_nil, List.sum_append, List.sum_cons, List.sum_nil] <;> omega
  ·by_cases El : r1 + 1 = j
   ·simp only [if_neg hj, if_pos El, cond_false, List.append_nil, List.nil_append, List.sum_append, List.sum_cons, List.sum_nil]
    omega
   ·simp only [if_neg hj, if_neg El, List.append_nil, List.sum_nil]
    omega
theorem Nu {l : List GLe} (hl : l.Pairwise befE) {e : GLe} (he : l.getLast? = some e) {x : GLe} (hx : x ∈ l) : x = e ∨ befE x e := by
 obtain ⟨a, rfl⟩ := List.getLast?_eq_some_iff.1 he
 rcases List.mem_append.1 hx with hx | hx
 ·exact .inr ((List.pairwise_append.1 hl).2.2 x hx e (by simp))
 ·exact .inl (by simpa using hx)
variable {A : GLs}
theorem Nv (h : Sh A) {n : Int} (h2 : 2 ≤ n) (h3 : n ≤ letsI A.Words) {y : List GLe} (p : PF (NS A (woL A.Words n) A.Wide A.Rows) y) : ∃ y', PF (NS A (woL A.Words (n - 1)) A.Wide A.Rows) y' := by
 have hB := Sh_wo h (n := n) (by omega)
 have hB' := Sh_wo h (n := n - 1) (by omega)
 obtain ⟨hl, e, z, c, d, b, e1, e2, e3⟩ := HH (fun w hw => (h.wlen w hw).1) (fun w hw c hc => ((h.wcut w hw).2.1 c hc).1) h2 h3
 obtain ⟨⟨p1, p2, p3⟩, p4, p5⟩ := p
 have p2 : ∀ x ∈ y, x ∈ possL [] (woL A.Words n) 0 := p2
 have p3 : y.getLast? = (possL [] (woL A.Words n) 0).getLast? := p3
 have lz := Dw [] (woL A.Words n) 0 fun w hw => (hB.wlen w hw).1
 have le := Dw [] (woL A.Words (n - 1)) 0 fun w hw => (hB'.wlen w hw).1
 have pw := Dv [] (woL A.Words n) 0
 have ppw : (possL [] (woL A.Words (n - 1)) 0).Pairwise befE := uq hB' []
 have hasA := G7 [] (woL A.Words n) 0 fun w hw => ⟨(hB.wlen w hw).1, (hB.wcut w hw).2.1⟩
 rw [e1] at lz pw hasA
 rw [e2] at le
 simp only [List.map_append, List.map_cons, List.map_nil] at lz le pw hasA
 rw [show hl.map (·.1) ++ [e, z] = (hl.map (·.1) ++ [e]) ++ [z] by simp, List.getLast?_concat] at lz
 rw [List.getLast?_concat] at le
 have pwh := List.pairwise_append.1 pw
 have hez : befE e z := (List.pairwise_cons.1 pwh.2.1).1 z (by simp)
 have ehl : e ∉ hl.map (·.1) := fun hh => jw (pwh.2.2 e hh e (by simp))
 have zhl : z ∉ hl.map (·.1) := fun hh => jw (pwh.2.2 z hh z (by simp))
 rw [← lz] at p3
 obtain ⟨u, rfl⟩ := List.getLast?_eq_some_iff.1 p3
 have pu := List.pairwise_append.1 p1
 have uz : ∀ x ∈ u, befE x z := fun x hx => pu.2.2 x hx z (by simp)
 have uP : ∀ x ∈ u, x ∈ possL [] (woL A.Words (n - 1)) 0 := fun x hx => by
  rcases e3 x (p2 x (qZf _ hx)) with hh | hh
  ·exact absurd (uz x hx) (by rw [hh]; exact jw)
  ·exact hh
 have ue : ∀ x ∈ u, x = e ∨ befE x e := fun x hx => Nu ppw le.symm (uP x hx)
 obtain ⟨u0, qC, hne, hlt⟩ : ∃ u0, (u = u0 ∨ u = u0 ++ [e]) ∧ (∀ x ∈ u0, x ∈ u) ∧ ∀ x ∈ u0, befE x e := by
  by_cases he : e ∈ u
  ·obtain ⟨a, b', rfl⟩ := List.append_of_mem he
   have pa := List.pairwise_append.1 pu.1
   have hb : b' = [] := by
    cases b' with
    | nil => rfl
    | cons x b' =>
     have zI := (List.pairwise_cons.1 pa.2.1).1 x (by simp)
     rcases ue x (by simp) with hh | hh
     ·rw [hh] at zI; exact absurd zI jw
     ·exact absurd (yW zI hh) jw
   subst hb
   exact ⟨a, .inr rfl, fun x hx => by simp [hx], fun x hx => pa.2.2 x hx e (by simp)⟩
  ·refine ⟨u, .inl rfl, fun x hx => hx, fun x hx => ?_⟩
   rcases ue x hx with hh | hh
   ·rw [hh] at hx; exact absurd hx he
   ·exact hh
 have UZ : u0.Pairwise befE := by
  rcases qC with hh | hh
  ·rw [← hh]; exact pu.1
  ·have := pu.1
   rw [hh] at this
   exact (List.pairwise_append.1 this).1
 have u0h : ∀ x ∈ u0, x ∈ hl.map (·.1) := fun x hx => by
  have := hasA x (p2 x (qZf _ (hne x hx)))
  rcases List.mem_append.1 this with hh | hh
  ·exact hh
  ·rcases List.mem_cons.1 hh with hh | hh
   ·exact absurd (hlt x hx) (by rw [hh]; exact jw)
   ·have hxz : x = z := by simpa using hh
    exact absurd (uz x (hne x hx)) (by rw [hxz]; exact jw)
 obtain ⟨M, r1, hM⟩ := Ek hl u0 0 UZ pwh.1 u0h
 refine ⟨u0 ++ [e], ⟨?_, ?_, ?_⟩, ?_, ?_⟩
 ·refine List.pairwise_append.2 ⟨UZ, List.pairwise_singleton _ _, fun x hx y hy => ?_⟩
  rw [show y = e by simpa using hy]
  exact hlt x hx
 ·intro x hx
  rcases List.mem_append.1 hx with hx | hx
  ·exact uP x (hne x hx)
  ·rw [show x = e by simpa using hx]
   exact List.mem_of_getLast? le.symm
 ·rw [List.getLast?_concat]; exact le
 ·have ba : (u0 ++ [e]).length ≤ (u ++ [z]).length := by rcases qC with rfl | rfl <;> simp
  have p4 : ((u ++ [z]).length : Int) ≤ A.Rows := p4
  show ((u0 ++ [e]).length : Int) ≤ A.Rows
  omega
 ·have ba : (u0 ++ [e]).length ≤ (u ++ [z]).length := by rcases qC with rfl | rfl <;> simp
  unfold fitS at p5 ⊢
  rw [Bool.and_eq_true, GB, decide_eq_true_eq] at p5 ⊢
  refine ⟨fun j j1 j2 => ?_, ?_⟩
  ·have hj := p5.1 j j1 (by simp only at j2 ⊢; omega)
   refine qZm ?_ hj
   unfold rowF marksOf
   rw [uA A (woL A.Words (n - 1)) A.Wide A.Rows, uA A (woL A.Words n) A.Wide A.Rows]
   simp only [e1, e2]
   have hdm : 0 ≤ d ∧ d < A.Widths.length := by
    have : (z, d, false) ∈ ltrsL [] (woL A.Words n) 0 := by rw [e1]; simp
    obtain ⟨_, w, hw, hdw⟩ := yQ this
    exact hB.wsign w hw d hdw
   rw [hM [] e [(e, c, false)] ehl]
   have m1 : (mkS [e] [(e, c, false)] r1).1 = [Glm.mk e.Word c r1 false] := by rw [qG (e := e) (f := (e, c, false)) rfl]; rfl
   rw [m1]
   rcases qC with hh | hh
   ·rw [hh, hM [] z _ zhl]
    have m2 : (mkS [z] [(e, c, b), (z, d, false)] r1).1 = [Glm.mk e.Word c r1 false, Glm.mk z.Word d r1 false] := by
     rw [sJ (e := z) (f := (e, c, b)) (by intro hh; rw [show z = e from hh] at hez; exact jw hez), qG (e := z) (f := (z, d, false)) rfl]; rfl
    rw [m2]
    have a := Nt A 0 j (X := [Glm.mk e.Word c r1 false]) (Y := [Glm.mk e.Word c r1 false, Glm.mk z.Word d r1 false]) (fun m => rfl) M
    have b := (UY h j r1 e.Word z.Word c d b hdm).1
    omega
   ·rw [hh, List.append_assoc, List.singleton_append, hM [z] e _ ehl]
    have m2 : (mkS [e, z] [(e, c, b), (z, d, false)] r1).1 = [Glm.mk e.Word c r1 b, Glm.mk z.Word d (r1 + 1) false] := by
     rw [qG (e := e) (f := (e, c, b)) rfl, qG (e := z) (f := (z, d, false)) rfl]; rfl
    rw [m2]
    have a := Nt A 0 j (X := [Glm.mk e.Word c r1 false]) (Y := [Glm.mk e.Word c r1 b, Glm.mk z.Word d (r1 + 1) false]) (fun m => rfl) M
    have b := (UY h j r1 e.Word z.Word c d b hdm).2
    omega
  ·have := p5.2
   simp only at this ⊢
   omega
def vY  : List GLw → Int → Int → Option (LOut (Int) (Int))
 | [], lk, db => some (.go db)
 | e0 :: p0, lk, db => vY p0 (lk + 1) (i64.wrap (db + (List.length e0.Signs : Int)))
def xU (ae : GLs) : Option (Int) := cond (lenOk ae.Words) (lbind (vY ae.Words 0 0) (fun r2 => some r2) (fun c1 => some c1) (fun _ _ => none)) none
theorem Nw (ae : GLs) (R : Int) (h : xU ae = some R) : ah prog G0 55 [.agg (cGLs ae)] (.tree (.lit (.int .i64 R))) := by
 refine ah.runR mixed call55 func55 rfl (by simp [ntmps55]; kernel_rfl) ?_
 obtain ⟨KF, h, kF, kN⟩ := eN h
 simp only [xU] at h
 cases g4 : (lenOk ae.Words)
 ·simp only [g4, hs] at h
  exact absurd h kN
 simp only [g4, hs] at h
 simp only [vz, tyf, g4, nm, seval]
 obtain ⟨K3, h, rF, oV, zh, zi⟩ := hX h kN
 obtain ⟨f3, pv, h⟩ := call3 h
 obtain ⟨I3, iY⟩ : ∃ I : Nat → St → Prop, I = (fun m st => ∃ (p3 : List GLw) (lH : Int) (cQ : Int), m = List.length p3 ∧ 0 ≤ lH ∧ List.drop (Int.toNat lH) ae.Words = p3 ∧ st.df = [] ∧ 4 ≤ st.nx ∧ st.H 0 = some (.cells (some 28) (cGLs ae)) ∧ st.tm 1 = .ptr 0 0 ∧ st.tm 3 = .lit (.int .i64 cQ) ∧ st.tm 4 = .lit (.int .i64 lH) ∧ K3 (f3 p3 lH cQ)) := ⟨_, rfl⟩
 refine loopK mixed (by kernel_rfl) I3 (List.length ae.Words) (by rw [iY]; refine ⟨ae.Words, 0, 0, rfl, qZg _, rfl, rfl, (show 4 ≤ 4 by omega), ?_, ?_, ?_, ?_, h⟩ <;> first | (simp only [ua, nm, seval] <;> rfl) | rfl) ?_
 rintro m ⟨tm, H, ld, df⟩ aL
 rw [iY] at aL
 obtain ⟨p3, lH, cQ, rfl, eu, fG, hdf, lf, H5, e6, e7, e8, h⟩ := aL
 simp only at hdf lf H5 e6 e7 e8
 have n9 := gQ (m := 4) (b := ld) (by omega)
 subst hdf pv
 cases p3 with
 | nil =>
  have cR : (decide (lH < (List.length ae.Words : Int))) = false := gB eu fG
  simp only [vY, hs, reduceCtorEq] at h
  replace h := oV _ h
  try dsimp only at h
  try simp only [hs] at h
  try simp only [vz, tyf, g4, n9, e6, e7, e8, H5, cR, nm, seval]
  refine cB (x := (.lit (.int .i64 cQ))) (by first | (simp only [results55, resV, resL, aE, cM, cN, uw, cr, tyf, g4, n9, H5, cR, nm, seval] <;> rfl) | rfl) ?_
  obtain rfl := kF _ h
  refine cO ?_ ?_
  ·simp only [tre, au, Bool.and_self]
  ·first | (simp only [outV, uw, dx, cr, tyf, nrm, ar, g4, n9, e6, e7, e8, H5, cR, nm, seval] <;> rfl) | rfl
 | cons e3 p3 =>
  have dt : (decide (lH < (List.length ae.Words : Int))) = true := gq eu fG
  have lg := eV eu fG
  have jO := gu eu fG g4
  simp only [vY, hs, reduceCtorEq] at h
  simp only [vz, tyf, g4, n9, e6, e7, e8, H5, dt, (av lg), jO, nm, seval]
  exact ⟨List.length p3, qZc _, by rw [iY]; refine ⟨p3, lH + 1, i64.wrap (cQ + (List.length e3.Signs : Int)), rfl, qZm eu (qZl (qZg _)), cb eu fG, rfl, (show 4 ≤ ld + 18 by omega), ?_, e6, ?_, ?_, (by first | exact h | (simp only [dt]; exact h))⟩ <;> first | (simp only [ua, n9, e6, e7, e8, H5, dt, jO, nm, seval] <;> rfl) | rfl⟩
def nu (dP : Int) (e0 : GLw) : List Int → Int → (List Int) → Option (LOut (GLs) ((List Int)))
 | [], i5, gy => some (.go gy)
 | e1 :: p1, i5, gy => cond (decide (e1 < (if (List.length e0.Signs : Int) < dP then (List.length e0.Signs : Int) else dP))) (cond (an 8 (List.length (gy ++ [e1]))) (nu dP e0 p1 (i5 + 1) (gy ++ [e1])) none) (nu dP e0 p1 (i5 + 1) gy)
def sw  : List GLw → Int → Int → (List GLw) → Option (LOut (GLs) (Int × (List GLw)))
 | [], nQ, dP, dy => some (.go (dP, dy))
 | e0 :: p0, nQ, dP, dy => cond (decide (dP > 0)) (Option.bind (sliceO e0.Signs 0 (if (List.length e0.Signs : Int) < dP then (List.length e0.Signs : Int) else dP)) (fun s5 => cond (neB s5) (cond (an 8 (List.length (([] : List Int) ++ s5))) (cond (lenOk e0.Cuts) (lbind (nu dP e0 e0.Cuts 0 ([] : List Int)) (fun r7 => some (.ret r7)) (fun c6 => cond (an 56 (List.length (dy ++ [(GLw.mk (([] : List Int) ++ s5) c6 e0.Free)]))) (sw p0 (nQ + 1) (i64.wrap (dP - (if (List.length e0.Signs : Int) < dP then (List.length e0.Signs : Int) else dP))) (dy ++ [(GLw.mk (([] : List Int) ++ s5) c6 e0.Free)])) none) (fun _ _ => none)) none) none) none)) (some (.go (dP, dy)))
def Bx (ae : GLs) (aO : Int) : Option (GLs) := Option.bind (xU (GLs.mk ([] : List Int) ([] : List GLp) (GSpan.mk 0 0) (GSpan.mk 0 0) 0 ae.Words 0 0)) (fun r1 => cond (lenOk ae.Words) (lbind (sw ae.Words 0 (i64.wrap (r1 - aO)) ([] : List GLw)) (fun r9 => some r9) (fun c8 => some (GLs.mk ae.Widths ae.Pairs ae.Other ae.Gap ae.Hyphen c8.2 ae.Wide ae.Rows)) (fun _ _ => none)) none)
theorem ZI (ae : GLs) (aO : Int) (R : GLs) (h : Bx ae aO = some R) : ah prog G0 56 [.agg (cGLs ae), .lit (.int .i64 aO)] (.tree (.agg (cGLs R))) := by
 refine ah.runR mixed call56 func56 rfl (by simp [ntmps56]; kernel_rfl) ?_
 obtain ⟨KF, h, kF, kN⟩ := eN h
 simp only [Bx] at h
 obtain ⟨xu, ZJ, h⟩ := optI h kN
 try simp only [hs] at h
 simp only [vz, tyf, nm, seval]
 refine ktA (Nw _ _ ZJ) ?_
 refine bQ (fun tm => tm 1 = .lit (.int .i64 aO) ∧ tm 2 = .ptr 0 0 ∧ tm 4 = .ptr 1 0 ∧ tm 5 = .sl (ad cGLw ae.Words) (List.length ae.Words) false ∧ tm 16 = .lit (.int .i64 xu) ∧ True) (by refine ⟨?_, ?_, ?_, ?_, ?_, trivial⟩ <;> first | (simp only [ua, nm, seval] <;> rfl) | rfl) ?_
 rintro tm ⟨cj, bA, bK, bW, cD, _⟩
 cases m9 : (lenOk ae.Words)
 ·simp only [m9, hs] at h
  exact absurd h kN
 simp only [m9, hs] at h
 simp only [vz, tyf, cj, bA, bK, bW, cD, m9, nm, seval]
 obtain ⟨ZK, h, ZL, sx, ZM, hC⟩ := hX h kN
 obtain ⟨ZN, Nx, h⟩ := call4 h
 obtain ⟨ZO, om⟩ : ∃ I : Nat → St → Prop, I = (fun m st => ∃ (ma : List GLw) (cl : Int) (bg : Int) (bE : List GLw) (nv : VV), m = List.length ma ∧ 0 ≤ cl ∧ List.drop (Int.toNat cl) ae.Words = ma ∧ st.df = [] ∧ 14 ≤ st.nx ∧ st.H 0 = some (.cells (some 28) ([.sl (ad eI ae.Widths) (List.length ae.Widths) false] ++ [.sl (ad cGLp ae.Pairs) (List.length ae.Pairs) false] ++ (cGSpan ae.Other) ++ (cGSpan ae.Gap) ++ [.lit (.int .i64 ae.Hyphen)] ++ [nv] ++ [.lit (.int .i64 ae.Wide)] ++ [.lit (.int .i64 ae.Rows)])) ∧ st.H 1 = some (.cells (some 28) ([.lit (.slice none 0 0)] ++ [.lit (.slice none 0 0)] ++ [.lit (.int .i64 0)] ++ [.lit (.int .i64 0)] ++ [.lit (.int .i64 0)] ++ [.lit (.int .i64 0)] ++ [.lit (.int .i64 0)] ++ [.lit (.slice none 0 0)] ++ [.lit (.int .i64 0)] ++ [.lit (.int .i64 0)])) ∧ st.tm 2 = .ptr 0 0 ∧ st.tm 4 = .ptr 1 0 ∧ st.tm 5 = .sl (ad cGLw ae.Words) (List.length ae.Words) false ∧ st.tm 6 = .lit (.int .i64 bg) ∧ st.tm 7 = .lit (.int .i64 cl) ∧ ((∃ (β : Nat) (el : Option TypeId), nv = .ref β 0 (List.length bE) 3 (List.length bE) ∧ β < st.nx ∧ β ≠ 0 ∧ β ≠ 1 ∧ st.H β = some (.cells el (ad cGLw bE))) ∨ (nv = .lit (.slice none 0 0) ∧ bE = [])) ∧ ZK (ZN ma cl bg bE)) := ⟨_, rfl⟩
 refine loopK mixed (by kernel_rfl) ZO (List.length ae.Words) (by rw [om]; refine ⟨ae.Words, 0, i64.wrap (xu - aO), ([] : List GLw), .lit (.slice none 0 0), rfl, qZg _, rfl, rfl, (show 14 ≤ 14 by omega), ?_, ?_, bA, bK, bW, ?_, ?_, Or.inr ⟨rfl, rfl⟩, h⟩ <;> first | (simp only [ua, cj, bA, bK, bW, cD, nm, seval] <;> rfl) | rfl) ?_
 rintro m ⟨tm, H, bV, df⟩ aL
 rw [om] at aL
 obtain ⟨ma, cl, bg, bE, nv, rfl, gh, iJ, hdf, Ny, lA, gC, bZ, cW, cI, du, cG, qc, h⟩ := aL
 simp only at hdf Ny lA gC bZ cW cI du cG qc
 have rq := gQ (m := 14) (b := bV) (by omega)
 subst hdf Nx
 rcases qc with ⟨ka, jn, rfl, Nz, N0, N1, By⟩ | ⟨rfl, rfl⟩
 ·have Bz := jx Nz
  have B0 := ne_f N0
  have B1 := ne_f N1
  cases ma with
  | nil =>
   have cT : (decide (cl < (List.length ae.Words : Int))) = false := gB gh iJ
   simp only [sw, hs, reduceCtorEq] at h
   replace h := sx _ h
   try dsimp only at h
   try simp only [hs] at h
   try simp only [vz, tyf, m9, rq, bZ, cW, cI, du, cG, lA, gC, Bz, By, B0, B1, cT, nm, seval]
   refine cB (x := (.agg ([.sl (ad eI ae.Widths) (List.length ae.Widths) false] ++ [.sl (ad cGLp ae.Pairs) (List.length ae.Pairs) false] ++ (cGSpan ae.Other) ++ (cGSpan ae.Gap) ++ [.lit (.int .i64 ae.Hyphen)] ++ [.ref ka 0 (List.length bE) 3 (List.length bE)] ++ [.lit (.int .i64 ae.Wide)] ++ [.lit (.int .i64 ae.Rows)]))) (by first | (simp only [results56, resV, resL, aE, cM, cN, uw, cr, tyf, m9, rq, bZ, cW, cI, du, cG, lA, gC, Bz, By, B0, B1, cT, nm, seval] <;> rfl) | rfl) ?_
   obtain rfl := kF _ h
   refine cO ?_ ?_
   ·simp only [tre, au, Bool.and_self]
   ·first | (simp only [outV, uw, dx, cr, tyf, nrm, ar, m9, rq, bZ, cW, cI, du, cG, lA, gC, Bz, By, B0, B1, cT, nm, seval] <;> rfl) | rfl
  | cons bm ma =>
   have eY : (decide (cl < (List.length ae.Words : Int))) = true := gq gh iJ
   have fH := eV gh iJ
   have Va := gu gh iJ m9
   simp only [sw, hs, reduceCtorEq] at h
   cases iN : (decide (bg > 0))
   ·simp only [iN, hs] at h
    have N2 := qZk m9 (qZk rq (qZk lA (qZk gC (qZk Bz (qZk By (qZk B0 (qZk B1 (qZk eY (qZk Va iN)))))))))
    replace h := sx _ h
    try dsimp only at h
    try simp only [hs] at h
    try simp only [vz, tyf, N2, bZ, cW, cI, du, cG, (av fH), nm, seval]
    refine cB (x := (.agg ([.sl (ad eI ae.Widths) (List.length ae.Widths) false] ++ [.sl (ad cGLp ae.Pairs) (List.length ae.Pairs) false] ++ (cGSpan ae.Other) ++ (cGSpan ae.Gap) ++ [.lit (.int .i64 ae.Hyphen)] ++ [.ref ka 0 (List.length bE) 3 (List.length bE)] ++ [.lit (.int .i64 ae.Wide)] ++ [.lit (.int .i64 ae.Rows)]))) (by first | (simp only [results56, resV, resL, aE, cM, cN, uw, cr, tyf, N2, bZ, cW, cI, du, cG, (av fH), nm, seval] <;> rfl) | rfl) ?_
    obtain rfl := kF _ h
    refine cO ?_ ?_
    ·simp only [tre, au, Bool.and_self]
    ·first | (simp only [outV, uw, dx, cr, tyf, nrm, ar, N2, bZ, cW, cI, du, cG, (av fH), nm, seval] <;> rfl) | rfl
   simp only [iN, hs] at h
   have eZ := qZk m9 (qZk rq (qZk lA (qZk gC (qZk Bz (qZk By (qZk B0 (qZk B1 (qZk eY (qZk Va iN)))))))))
   simp only [vz, tyf, eZ, bZ, cW, cI, du, cG, (av fH), nm, seval]
   refine nH (fun tm => tm 2 = .ptr 0 0 ∧ tm 4 = .ptr 1 0 ∧ tm 5 = .sl (ad cGLw ae.Words) (List.length ae.Words) false ∧ tm 6 = .lit (.int .i64 bg) ∧ tm 7 = .lit (.int .i64 cl) ∧ tm 8 = .ptr (bV + 14) 0 ∧ tm 9 = .lit (.int .i64 (if (List.length bm.Signs : Int) < bg then (List.length bm.Signs : Int) else bg)) ∧ True) (by refine ⟨bZ, cW, cI, du, cG, ?_, ?_, trivial⟩ <;> first | (simp only [ua, eZ, bZ, cW, cI, du, cG, nm, seval] <;> rfl) | rfl) ?_
   rintro tm ⟨bG, bJ, bS, cU, ck, cC, bL, _⟩
   obtain ⟨mb, ZP, h⟩ := optI h hC
   try simp only [hs] at h
   try simp only [vz, tyf, eZ, (av fH), bG, bJ, bS, cU, ck, cC, bL, nm, seval]
   refine k_slT (w := 1) (enc := eI) (xs := bm.Signs) underlying22 (by kernel_rfl) (fun _ => rfl) (by first | (simp only [kV, kW, mW, kM, eZ, (av fH), bG, bJ, bS, cU, ck, cC, bL, nm, seval] <;> rfl) | rfl) (.inl ⟨rfl, rfl⟩) (.inr ⟨.i64, by simp only [Option.map_some]; exact congrArg some (by first | (simp only [kV, kW, mW, kM, eZ, (av fH), bG, bJ, bS, cU, ck, cC, bL, nm, seval] <;> rfl) | rfl)⟩) ZP ?_
   cases kc : (neB mb)
   ·simp only [kc, hs] at h
    exact absurd h hC
   simp only [kc, hs] at h
   cases ke : (an 8 (List.length (([] : List Int) ++ mb)))
   ·simp only [ke, hs] at h
    exact absurd h hC
   simp only [ke, hs] at h
   simp only [vz, tyf, eZ, (av fH), bG, bJ, bS, cU, ck, cC, bL, kc, ke, nm, seval]
   refine B2 (w := 1) (enc := eI) (ys := mb) (fun _ => rfl) ie ig underlying22 kc ke ?_
   simp only [vz, tyf, eZ, (av fH), bG, bJ, bS, cU, ck, cC, bL, kc, ke, nm, seval]
   refine jJ ⟨?_, ?_⟩
   ·simp only [jN, jM, eM, jK, and_true, true_and]
    repeat' (first | exact trivial | refine qZk ?_ ?_ | rw [eM] | rw [jL] | exact Or.inl (by decide +kernel) | exact Or.inl (by dsimp only; decide +kernel) | (refine Or.inr ⟨?_, ?_⟩ <;> simp; done) | (refine Or.inr ⟨?_, ?_⟩ <;> simp <;> omega) | (refine Or.inr ⟨?_, ?_⟩ <;> simp [Ve.wr] <;> omega) | (refine Or.inr ⟨?_, ?_⟩ <;> simp [rdV, rdO, topName, Op.operands, kV, mW, kW, kM, Ve.wr] <;> omega))
   cases kG : (lenOk bm.Cuts)
   ·simp only [kG, hs] at h
    exact absurd h hC
   simp only [kG, hs] at h
   simp only [vz, tyf, eZ, (av fH), bG, bJ, bS, cU, ck, cC, bL, kc, ke, kG, nm, seval]
   obtain ⟨ZQ, h, ZR, B3, ZS, B4⟩ := hX h hC
   obtain ⟨ZT, N3, h⟩ := call3 h
   obtain ⟨ZU, oo⟩ : ∃ I : Nat → St → Prop, I = (fun m st => ∃ (md : List Int) (cu : Int) (bN : List Int) (ny : VV), m = List.length md ∧ 0 ≤ cu ∧ List.drop (Int.toNat cu) bm.Cuts = md ∧ st.df = [] ∧ bV + 38 ≤ st.nx ∧ st.H 0 = some (.cells (some 28) ([.sl (ad eI ae.Widths) (List.length ae.Widths) false] ++ [.sl (ad cGLp ae.Pairs) (List.length ae.Pairs) false] ++ (cGSpan ae.Other) ++ (cGSpan ae.Gap) ++ [.lit (.int .i64 ae.Hyphen)] ++ [.ref ka 0 (List.length bE) 3 (List.length bE)] ++ [.lit (.int .i64 ae.Wide)] ++ [.lit (.int .i64 ae.Rows)])) ∧ st.H 1 = some (.cells (some 28) ([.lit (.slice none 0 0)] ++ [.lit (.slice none 0 0)] ++ [.lit (.int .i64 0)] ++ [.lit (.int .i64 0)] ++ [.lit (.int .i64 0)] ++ [.lit (.int .i64 0)] ++ [.lit (.int .i64 0)] ++ [.lit (.slice none 0 0)] ++ [.lit (.int .i64 0)] ++ [.lit (.int .i64 0)])) ∧ st.H ka = some (.cells (jn) (ad cGLw bE)) ∧ st.H (bV + 14) = some (.cells (some 79) ([.ref (bV + 34) 0 (List.length (([] : List Int) ++ mb)) 1 (List.length (([] : List Int) ++ mb))] ++ [ny] ++ [.lit (.bool bm.Free)])) ∧ st.H (bV + 34) = some (.cells ((some 3)) (ad eI (([] : List Int) ++ mb))) ∧ st.tm 2 = .ptr 0 0 ∧ st.tm 4 = .ptr 1 0 ∧ st.tm 5 = .sl (ad cGLw ae.Words) (List.length ae.Words) false ∧ st.tm 6 = .lit (.int .i64 bg) ∧ st.tm 7 = .lit (.int .i64 cl) ∧ st.tm 8 = .ptr (bV + 14) 0 ∧ st.tm 9 = .lit (.int .i64 (if (List.length bm.Signs : Int) < bg then (List.length bm.Signs : Int) else bg)) ∧ st.tm 10 = .lit (.int .i64 cu) ∧ ((∃ (β : Nat) (el : Option TypeId), ny = .ref β 0 (List.length bN) 1 (List.length bN) ∧ β < st.nx ∧ β ≠ 0 ∧ β ≠ 1 ∧ β ≠ ka ∧ β ≠ bV + 14 ∧ β ≠ bV + 34 ∧ st.H β = some (.cells el (ad eI bN))) ∨ (ny = .lit (.slice none 0 0) ∧ bN = [])) ∧ ZQ (ZT md cu bN)) := ⟨_, rfl⟩
   refine SY ?_
   refine loopK mixed (by kernel_rfl) ZU (List.length bm.Cuts) (by rw [oo]; refine ⟨bm.Cuts, 0, ([] : List Int), .lit (.slice none 0 0), rfl, qZg _, rfl, rfl, (show bV + 38 ≤ bV + 38 by omega), ?_, ?_, ?_, ?_, ?_, bG, bJ, bS, cU, ck, cC, bL, ?_, Or.inr ⟨rfl, rfl⟩, h⟩ <;> first | (simp only [ua, eZ, bG, bJ, bS, cU, ck, cC, bL, nm, seval] <;> rfl) | rfl) ?_
   rintro m ⟨tm, H, fK, df⟩ aL
   rw [oo] at aL
   obtain ⟨md, cu, bN, ny, rfl, gi, iK, hdf, N4, jC, jD, jE, gA, ij, dJ, eR, dR, fa, fy, fz, dN, eD, qd, h⟩ := aL
   simp only at hdf N4 jC jD jE gA ij dJ eR dR fa fy fz dN eD qd
   have iQ := gQ (m := 14) (b := fK) (by omega)
   have iR := sY (a := bV) (m := 38) (b := fK) (by omega)
   have iS := jx (β := ka) (nx := fK) (by omega)
   subst hdf N3
   rcases qd with ⟨qe, mA, rfl, N5, vQ, vR, N6, N7, N8, qf⟩ | ⟨rfl, rfl⟩
   ·have oq := jx N5
    have lF := ne_f vQ
    have lG := ne_f vR
    have ot := ne_f N6
    have ov := ne_f N7
    have ow := ne_f N8
    cases md with
    | nil =>
     have vZ : (decide (cu < (List.length bm.Cuts : Int))) = false := gB gi iK
     simp only [nu, hs, reduceCtorEq] at h
     replace h := B3 _ h
     try dsimp only at h
     try simp only [hs] at h
     cases t8 : (an 56 (List.length (bE ++ [(GLw.mk (([] : List Int) ++ mb) bN bm.Free)])))
     ·simp only [t8, hs] at h
      exact absurd h hC
     simp only [t8, hs] at h
     simp only [vz, tyf, eZ, (av fH), kc, ke, kG, iQ, iR, iS, dJ, eR, dR, fa, fy, fz, dN, eD, jC, jD, jE, gA, ij, oq, qf, lF, lG, ot, ov, ow, vZ, t8, nm, seval]
     refine ⟨_, Look.trans (Look.midI (cs := []) ij (by rw [gA]; rfl) (by omega)) (Look.midI (γ := qe) (cs := [_]) (Z := [_]) (by simp only [bk, bF, qf, oq, lF, lG, ot, ov, ow, nm, seval] <;> rfl) (by rw [bk, if_pos rfl]; rfl) (by omega)), ?_⟩
     simp only [vz, tyf, eZ, (av fH), kc, ke, kG, iQ, iR, iS, dJ, eR, dR, fa, fy, fz, dN, eD, jC, jD, jE, gA, ij, oq, qf, lF, lG, ot, ov, ow, vZ, t8, nm, seval]
     refine k_app (w := 3) (enc := cGLw) (xs := bE) (ys := ([(GLw.mk (([] : List Int) ++ mb) bN bm.Free)])) (el := jn) (ff := (some 79)) (fun _ => rfl) nM nN underlying26 (by first | rfl | assumption | (simp only [bk, bF, j9, eZ, iQ, iR, iS, jC, jD, jE, gA, ij, oq, qf, lF, lG, ot, ov, ow, nm, seval] <;> rfl) | (simp only [bk, bF, fg, eU, eW, eX, tyf, eZ, (av fH), kc, ke, kG, iQ, iR, iS, dJ, eR, dR, fa, fy, fz, dN, eD, jC, jD, jE, gA, ij, oq, qf, lF, lG, ot, ov, ow, vZ, t8, nm, seval]; done)) (by first | rfl | assumption | (simp only [bk, bF, j9, eZ, iQ, iR, iS, jC, jD, jE, gA, ij, oq, qf, lF, lG, ot, ov, ow, nm, seval] <;> rfl) | (simp only [bk, bF, fg, eU, eW, eX, tyf, eZ, (av fH), kc, ke, kG, iQ, iR, iS, dJ, eR, dR, fa, fy, fz, dN, eD, jC, jD, jE, gA, ij, oq, qf, lF, lG, ot, ov, ow, vZ, t8, nm, seval]; done)) (qZn _) t8 ?_
     simp only [vz, tyf, eZ, (av fH), kc, ke, kG, iQ, iR, iS, dJ, eR, dR, fa, fy, fz, dN, eD, jC, jD, jE, gA, ij, oq, qf, lF, lG, ot, ov, ow, vZ, t8, nm, seval]
     exact ⟨List.length ma, qZc _, by rw [om]; refine ⟨ma, cl + 1, i64.wrap (bg - (if (List.length bm.Signs : Int) < bg then (List.length bm.Signs : Int) else bg)), (bE ++ [(GLw.mk (([] : List Int) ++ mb) bN bm.Free)]), .ref (fK + 12) 0 (List.length (bE ++ [(GLw.mk (([] : List Int) ++ mb) bN bm.Free)])) 3 (List.length (bE ++ [(GLw.mk (([] : List Int) ++ mb) bN bm.Free)])), rfl, qZm gh (qZl (qZg _)), cb gh iJ, rfl, (show 14 ≤ fK + 22 by omega), ?_, ?_, dJ, eR, dR, ?_, ?_, Or.inl ⟨fK + 12, (sameEl jn 79), rfl, (by first | omega | (simp only [nm, seval]; done) | (simp only [nm, seval]; omega)), (by first | omega | (intro hh; simp only [eZ, iQ, iR, iS, oq, lF, lG, ot, ov, ow, reduceCtorEq] at hh)), (by first | omega | (intro hh; simp only [eZ, iQ, iR, iS, oq, lF, lG, ot, ov, ow, reduceCtorEq] at hh)), ?_⟩, (by first | exact h | (simp only [eZ, vZ]; exact h))⟩ <;> first | (simp only [ua, eZ, iQ, iR, iS, dJ, eR, dR, fa, fy, fz, dN, eD, jC, jD, jE, gA, ij, oq, qf, lF, lG, ot, ov, ow, vZ, nm, seval] <;> rfl) | rfl⟩
    | cons cA md =>
     have Vb : (decide (cu < (List.length bm.Cuts : Int))) = true := gq gi iK
     have wa := eV gi iK
     have Vc := gu gi iK kG
     simp only [nu, hs, reduceCtorEq] at h
     cases Em : (decide (cA < (if (List.length bm.Signs : Int) < bg then (List.length bm.Signs : Int) else bg)))
     ·simp only [Em, hs] at h
      have t9 := qZk eZ (qZk kc (qZk ke (qZk kG (qZk iQ (qZk iR (qZk iS (qZk jC (qZk jD (qZk jE (qZk gA (qZk ij (qZk oq (qZk qf (qZk lF (qZk lG (qZk ot (qZk ov (qZk ow (qZk Vb (qZk Vc Em))))))))))))))))))))
      simp only [vz, tyf, t9, (av fH), dJ, eR, dR, fa, fy, fz, dN, eD, (aF wa), nm, seval]
      exact ⟨List.length md, qZc _, by rw [oo]; refine ⟨md, cu + 1, bN, .ref qe 0 (List.length bN) 1 (List.length bN), rfl, qZm gi (qZl (qZg _)), cb gi iK, rfl, (show bV + 38 ≤ fK + 21 by omega), ?_, ?_, ?_, ?_, ?_, dJ, eR, dR, fa, fy, fz, dN, ?_, Or.inl ⟨qe, mA, rfl, (by first | omega | (simp only [nm, seval]; done) | (simp only [nm, seval]; omega)), (by first | omega | (intro hh; simp only [t9, reduceCtorEq] at hh)), (by first | omega | (intro hh; simp only [t9, reduceCtorEq] at hh)), (by first | omega | (intro hh; simp only [t9, reduceCtorEq] at hh)), (by first | omega | (intro hh; simp only [t9, reduceCtorEq] at hh)), (by first | omega | (intro hh; simp only [t9, reduceCtorEq] at hh)), ?_⟩, (by first | exact h | (simp only [t9]; exact h))⟩ <;> first | (simp only [ua, t9, dJ, eR, dR, fa, fy, fz, dN, eD, nm, seval] <;> rfl) | rfl⟩
     simp only [Em, hs] at h
     have me := qZk eZ (qZk kc (qZk ke (qZk kG (qZk iQ (qZk iR (qZk iS (qZk jC (qZk jD (qZk jE (qZk gA (qZk ij (qZk oq (qZk qf (qZk lF (qZk lG (qZk ot (qZk ov (qZk ow (qZk Vb (qZk Vc Em))))))))))))))))))))
     simp only [vz, tyf, me, (av fH), dJ, eR, dR, fa, fy, fz, dN, eD, (aF wa), nm, seval]
     refine nH (fun tm => tm 2 = .ptr 0 0 ∧ tm 4 = .ptr 1 0 ∧ tm 5 = .sl (ad cGLw ae.Words) (List.length ae.Words) false ∧ tm 6 = .lit (.int .i64 bg) ∧ tm 7 = .lit (.int .i64 cl) ∧ tm 8 = .ptr (bV + 14) 0 ∧ tm 9 = .lit (.int .i64 (if (List.length bm.Signs : Int) < bg then (List.length bm.Signs : Int) else bg)) ∧ tm 10 = .lit (.int .i64 cu) ∧ True) (by refine ⟨dJ, eR, dR, fa, fy, fz, dN, eD, trivial⟩ <;> first | (simp only [ua, me, dJ, eR, dR, fa, fy, fz, dN, eD, nm, seval] <;> rfl) | rfl) ?_
     rintro tm ⟨f8, fQ, fV, fW, fp, fC, fT, xV, _⟩
     cases tA : (an 8 (List.length (bN ++ [cA])))
     ·simp only [tA, hs] at h
      exact absurd h B4
     simp only [tA, hs] at h
     simp only [vz, tyf, me, (av fH), (aF wa), f8, fQ, fV, fW, fp, fC, fT, xV, tA, nm, seval]
     refine k_app (w := 1) (enc := eI) (xs := bN) (ys := ([cA])) (el := mA) (ff := (some 3)) (fun _ => rfl) ie ig underlying22 (by first | rfl | assumption | (simp only [bk, bF, eT, me, nm, seval] <;> rfl) | (simp only [bk, bF, fg, eU, eW, eX, tyf, me, (av fH), (aF wa), f8, fQ, fV, fW, fp, fC, fT, xV, tA, nm, seval]; done)) (by first | rfl | assumption | (simp only [bk, bF, eT, me, nm, seval] <;> rfl) | (simp only [bk, bF, fg, eU, eW, eX, tyf, me, (av fH), (aF wa), f8, fQ, fV, fW, fp, fC, fT, xV, tA, nm, seval]; done)) (qZn _) tA ?_
     simp only [vz, tyf, me, (av fH), (aF wa), f8, fQ, fV, fW, fp, fC, fT, xV, tA, nm, seval]
     refine jJ ⟨?_, ?_⟩
     ·simp only [jN, jM, eM, jK, and_true, true_and]
      repeat' (first | exact trivial | refine qZk ?_ ?_ | rw [eM] | rw [jL] | exact Or.inl (by decide +kernel) | exact Or.inl (by dsimp only; decide +kernel) | (refine Or.inr ⟨?_, ?_⟩ <;> simp; done) | (refine Or.inr ⟨?_, ?_⟩ <;> simp <;> omega) | (refine Or.inr ⟨?_, ?_⟩ <;> simp [Ve.wr] <;> omega) | (refine Or.inr ⟨?_, ?_⟩ <;> simp [rdV, rdO, topName, Op.operands, kV, mW, kW, kM, Ve.wr] <;> omega))
     simp only [vz, tyf, me, (av fH), (aF wa), f8, fQ, fV, fW, fp, fC, fT, xV, tA, nm, seval]
     exact ⟨List.length md, qZc _, by rw [oo]; refine ⟨md, cu + 1, (bN ++ [cA]), .ref (fK + 29) 0 (List.length (bN ++ [cA])) 1 (List.length (bN ++ [cA])), rfl, qZm gi (qZl (qZg _)), cb gi iK, rfl, (show bV + 38 ≤ fK + 35 by omega), ?_, ?_, ?_, ?_, ?_, f8, fQ, fV, fW, fp, fC, fT, ?_, Or.inl ⟨fK + 29, (sameEl mA 3), rfl, (by first | omega | (simp only [nm, seval]; done) | (simp only [nm, seval]; omega)), (by first | omega | (intro hh; simp only [me, reduceCtorEq] at hh)), (by first | omega | (intro hh; simp only [me, reduceCtorEq] at hh)), (by first | omega | (intro hh; simp only [me, reduceCtorEq] at hh)), (by first | omega | (intro hh; simp only [me, reduceCtorEq] at hh)), (by first | omega | (intro hh; simp only [me, reduceCtorEq] at hh)), ?_⟩, (by first | exact h | (simp only [me]; exact h))⟩ <;> first | (simp only [ua, me, f8, fQ, fV, fW, fp, fC, fT, xV, nm, seval] <;> rfl) | rfl⟩
   ·cases md with
    | nil =>
     have wb : (decide (cu < (List.length bm.Cuts : Int))) = false := gB gi iK
     simp only [nu, hs, reduceCtorEq] at h
     replace h := B3 _ h
     try dsimp only at h
     try simp only [hs] at h
     cases tB : (an 56 (List.length (bE ++ [(GLw.mk (([] : List Int) ++ mb) ([] : List Int) bm.Free)])))
     ·simp only [tB, hs] at h
      exact absurd h hC
     simp only [tB, hs] at h
     simp only [vz, tyf, eZ, (av fH), kc, ke, kG, iQ, iR, iS, dJ, eR, dR, fa, fy, fz, dN, eD, jC, jD, jE, gA, ij, wb, tB, nm, seval]
     refine ⟨_, Look.trans (Look.midI (cs := []) ij (by rw [gA]; rfl) (by omega)) (Look.nil (A := [_]) (Z := [_]) (by rw [bk, if_pos rfl]; rfl)), ?_⟩
     simp only [vz, tyf, eZ, (av fH), kc, ke, kG, iQ, iR, iS, dJ, eR, dR, fa, fy, fz, dN, eD, jC, jD, jE, gA, ij, wb, tB, nm, seval]
     refine k_app (w := 3) (enc := cGLw) (xs := bE) (ys := ([(GLw.mk (([] : List Int) ++ mb) ([] : List Int) bm.Free)])) (el := jn) (ff := (some 79)) (fun _ => rfl) nM nN underlying26 (by first | rfl | assumption | (simp only [bk, bF, j9, eZ, iQ, iR, iS, jC, jD, jE, gA, ij, nm, seval] <;> rfl) | (simp only [bk, bF, fg, eU, eW, eX, tyf, eZ, (av fH), kc, ke, kG, iQ, iR, iS, dJ, eR, dR, fa, fy, fz, dN, eD, jC, jD, jE, gA, ij, wb, tB, nm, seval]; done)) (by first | rfl | assumption | (simp only [bk, bF, j9, eZ, iQ, iR, iS, jC, jD, jE, gA, ij, nm, seval] <;> rfl) | (simp only [bk, bF, fg, eU, eW, eX, tyf, eZ, (av fH), kc, ke, kG, iQ, iR, iS, dJ, eR, dR, fa, fy, fz, dN, eD, jC, jD, jE, gA, ij, wb, tB, nm, seval]; done)) (qZn _) tB ?_
     simp only [vz, tyf, eZ, (av fH), kc, ke, kG, iQ, iR, iS, dJ, eR, dR, fa, fy, fz, dN, eD, jC, jD, jE, gA, ij, wb, tB, nm, seval]
     exact ⟨List.length ma, qZc _, by rw [om]; refine ⟨ma, cl + 1, i64.wrap (bg - (if (List.length bm.Signs : Int) < bg then (List.length bm.Signs : Int) else bg)), (bE ++ [(GLw.mk (([] : List Int) ++ mb) ([] : List Int) bm.Free)]), .ref (fK + 12) 0 (List.length (bE ++ [(GLw.mk (([] : List Int) ++ mb) ([] : List Int) bm.Free)])) 3 (List.length (bE ++ [(GLw.mk (([] : List Int) ++ mb) ([] : List Int) bm.Free)])), rfl, qZm gh (qZl (qZg _)), cb gh iJ, rfl, (show 14 ≤ fK + 22 by omega), ?_, ?_, dJ, eR, dR, ?_, ?_, Or.inl ⟨fK + 12, (sameEl jn 79), rfl, (by first | omega | (simp only [nm, seval]; done) | (simp only [nm, seval]; omega)), (by first | omega | (intro hh; simp only [eZ, iQ, iR, iS, reduceCtorEq] at hh)), (by first | omega | (intro hh; simp only [eZ, iQ, iR, iS, reduceCtorEq] at hh)), ?_⟩, (by first | exact h | (simp only [eZ, wb]; exact h))⟩ <;> first | (simp only [ua, eZ, iQ, iR, iS, dJ, eR, dR, fa, fy, fz, dN, eD, jC, jD, jE, gA, ij, wb, nm, seval] <;> rfl) | rfl⟩
    | cons cA md =>
     have Vd : (decide (cu < (List.length bm.Cuts : Int))) = true := gq gi iK
     have xW := eV gi iK
     have Vf := gu gi iK kG
     simp only [nu, hs, reduceCtorEq] at h
     cases En : (decide (cA < (if (List.length bm.Signs : Int) < bg then (List.length bm.Signs : Int) else bg)))
     ·simp only [En, hs] at h
      have N9 := qZk eZ (qZk kc (qZk ke (qZk kG (qZk iQ (qZk iR (qZk iS (qZk jC (qZk jD (qZk jE (qZk gA (qZk ij (qZk Vd (qZk Vf En)))))))))))))
      simp only [vz, tyf, N9, (av fH), dJ, eR, dR, fa, fy, fz, dN, eD, (aF xW), nm, seval]
      exact ⟨List.length md, qZc _, by rw [oo]; refine ⟨md, cu + 1, ([] : List Int), .lit (.slice none 0 0), rfl, qZm gi (qZl (qZg _)), cb gi iK, rfl, (show bV + 38 ≤ fK + 21 by omega), ?_, ?_, ?_, ?_, ?_, dJ, eR, dR, fa, fy, fz, dN, ?_, Or.inr ⟨rfl, rfl⟩, (by first | exact h | (simp only [N9]; exact h))⟩ <;> first | (simp only [ua, N9, dJ, eR, dR, fa, fy, fz, dN, eD, nm, seval] <;> rfl) | rfl⟩
     simp only [En, hs] at h
     have nz := qZk eZ (qZk kc (qZk ke (qZk kG (qZk iQ (qZk iR (qZk iS (qZk jC (qZk jD (qZk jE (qZk gA (qZk ij (qZk Vd (qZk Vf En)))))))))))))
     simp only [vz, tyf, nz, (av fH), dJ, eR, dR, fa, fy, fz, dN, eD, (aF xW), nm, seval]
     refine nH (fun tm => tm 2 = .ptr 0 0 ∧ tm 4 = .ptr 1 0 ∧ tm 5 = .sl (ad cGLw ae.Words) (List.length ae.Words) false ∧ tm 6 = .lit (.int .i64 bg) ∧ tm 7 = .lit (.int .i64 cl) ∧ tm 8 = .ptr (bV + 14) 0 ∧ tm 9 = .lit (.int .i64 (if (List.length bm.Signs : Int) < bg then (List.length bm.Signs : Int) else bg)) ∧ tm 10 = .lit (.int .i64 cu) ∧ True) (by refine ⟨dJ, eR, dR, fa, fy, fz, dN, eD, trivial⟩ <;> first | (simp only [ua, nz, dJ, eR, dR, fa, fy, fz, dN, eD, nm, seval] <;> rfl) | rfl) ?_
     rintro tm ⟨xX, oy, oz, oA, oB, oC, oD, qg, _⟩
     cases gI : (an 8 (List.length (([] : List Int) ++ [cA])))
     ·simp only [gI, hs] at h
      exact absurd h B4
     simp only [gI, hs] at h
     simp only [vz, tyf, nz, (av fH), (aF xW), xX, oy, oz, oA, oB, oC, oD, qg, gI, nm, seval]
     refine mX (w := 1) (enc := eI) (ys := ([cA])) (ff := (some 3)) (fun _ => rfl) ie ig underlying22 (by first | rfl | assumption | (simp only [bk, bF, eT, nz, nm, seval] <;> rfl) | (simp only [bk, bF, fg, eU, eW, eX, tyf, nz, (av fH), (aF xW), xX, oy, oz, oA, oB, oC, oD, qg, gI, nm, seval]; done)) (qZn _) gI ?_
     simp only [vz, tyf, nz, (av fH), (aF xW), xX, oy, oz, oA, oB, oC, oD, qg, gI, nm, seval]
     refine jJ ⟨?_, ?_⟩
     ·simp only [jN, jM, eM, jK, and_true, true_and]
      repeat' (first | exact trivial | refine qZk ?_ ?_ | rw [eM] | rw [jL] | exact Or.inl (by decide +kernel) | exact Or.inl (by dsimp only; decide +kernel) | (refine Or.inr ⟨?_, ?_⟩ <;> simp; done) | (refine Or.inr ⟨?_, ?_⟩ <;> simp <;> omega) | (refine Or.inr ⟨?_, ?_⟩ <;> simp [Ve.wr] <;> omega) | (refine Or.inr ⟨?_, ?_⟩ <;> simp [rdV, rdO, topName, Op.operands, kV, mW, kW, kM, Ve.wr] <;> omega))
     simp only [vz, tyf, nz, (av fH), (aF xW), xX, oy, oz, oA, oB, oC, oD, qg, gI, nm, seval]
     exact ⟨List.length md, qZc _, by rw [oo]; refine ⟨md, cu + 1, (([] : List Int) ++ [cA]), .ref (fK + 29) 0 (List.length (([] : List Int) ++ [cA])) 1 (List.length (([] : List Int) ++ [cA])), rfl, qZm gi (qZl (qZg _)), cb gi iK, rfl, (show bV + 38 ≤ fK + 35 by omega), ?_, ?_, ?_, ?_, ?_, xX, oy, oz, oA, oB, oC, oD, ?_, Or.inl ⟨fK + 29, (some 3), rfl, (by first | omega | (simp only [nm, seval]; done) | (simp only [nm, seval]; omega)), (by first | omega | (intro hh; simp only [nz, reduceCtorEq] at hh)), (by first | omega | (intro hh; simp only [nz, reduceCtorEq] at hh)), (by first | omega | (intro hh; simp only [nz, reduceCtorEq] at hh)), (by first | omega | (intro hh; simp only [nz, reduceCtorEq] at hh)), (by first | omega | (intro hh; simp only [nz, reduceCtorEq] at hh)), ?_⟩, (by first | exact h | (simp only [nz]; exact h))⟩ <;> first | (simp only [ua, nz, xX, oy, oz, oA, oB, oC, oD, qg, nm, seval] <;> rfl) | rfl⟩
 ·cases ma with
  | nil =>
   have wc : (decide (cl < (List.length ae.Words : Int))) = false := gB gh iJ
   simp only [sw, hs, reduceCtorEq] at h
   replace h := sx _ h
   try dsimp only at h
   try simp only [hs] at h
   try simp only [vz, tyf, m9, rq, bZ, cW, cI, du, cG, lA, gC, wc, nm, seval]
   refine cB (x := (.agg ([.sl (ad eI ae.Widths) (List.length ae.Widths) false] ++ [.sl (ad cGLp ae.Pairs) (List.length ae.Pairs) false] ++ (cGSpan ae.Other) ++ (cGSpan ae.Gap) ++ [.lit (.int .i64 ae.Hyphen)] ++ [.lit (.slice none 0 0)] ++ [.lit (.int .i64 ae.Wide)] ++ [.lit (.int .i64 ae.Rows)]))) (by first | (simp only [results56, resV, resL, aE, cM, cN, uw, cr, tyf, m9, rq, bZ, cW, cI, du, cG, lA, gC, wc, nm, seval] <;> rfl) | rfl) ?_
   obtain rfl := kF _ h
   refine cO ?_ ?_
   ·simp only [tre, au, Bool.and_self]
   ·first | (simp only [outV, uw, dx, cr, tyf, nrm, ar, m9, rq, bZ, cW, cI, du, cG, lA, gC, wc, nm, seval] <;> rfl) | rfl
  | cons bm ma =>
   have B5 : (decide (cl < (List.length ae.Words : Int))) = true := gq gh iJ
   have cv := eV gh iJ
   have B6 := gu gh iJ m9
   simp only [sw, hs, reduceCtorEq] at h
   cases sy : (decide (bg > 0))
   ·simp only [sy, hs] at h
    have we := qZk m9 (qZk rq (qZk lA (qZk gC (qZk B5 (qZk B6 sy)))))
    replace h := sx _ h
    try dsimp only at h
    try simp only [hs] at h
    try simp only [vz, tyf, we, bZ, cW, cI, du, cG, (av cv), nm, seval]
    refine cB (x := (.agg ([.sl (ad eI ae.Widths) (List.length ae.Widths) false] ++ [.sl (ad cGLp ae.Pairs) (List.length ae.Pairs) false] ++ (cGSpan ae.Other) ++ (cGSpan ae.Gap) ++ [.lit (.int .i64 ae.Hyphen)] ++ [.lit (.slice none 0 0)] ++ [.lit (.int .i64 ae.Wide)] ++ [.lit (.int .i64 ae.Rows)]))) (by first | (simp only [results56, resV, resL, aE, cM, cN, uw, cr, tyf, we, bZ, cW, cI, du, cG, (av cv), nm, seval] <;> rfl) | rfl) ?_
    obtain rfl := kF _ h
    refine cO ?_ ?_
    ·simp only [tre, au, Bool.and_self]
    ·first | (simp only [outV, uw, dx, cr, tyf, nrm, ar, we, bZ, cW, cI, du, cG, (av cv), nm, seval] <;> rfl) | rfl
   simp only [sy, hs] at h
   have cw := qZk m9 (qZk rq (qZk lA (qZk gC (qZk B5 (qZk B6 sy)))))
   simp only [vz, tyf, cw, bZ, cW, cI, du, cG, (av cv), nm, seval]
   refine nH (fun tm => tm 2 = .ptr 0 0 ∧ tm 4 = .ptr 1 0 ∧ tm 5 = .sl (ad cGLw ae.Words) (List.length ae.Words) false ∧ tm 6 = .lit (.int .i64 bg) ∧ tm 7 = .lit (.int .i64 cl) ∧ tm 8 = .ptr (bV + 14) 0 ∧ tm 9 = .lit (.int .i64 (if (List.length bm.Signs : Int) < bg then (List.length bm.Signs : Int) else bg)) ∧ True) (by refine ⟨bZ, cW, cI, du, cG, ?_, ?_, trivial⟩ <;> first | (simp only [ua, cw, bZ, cW, cI, du, cG, nm, seval] <;> rfl) | rfl) ?_
   rintro tm ⟨lI, lJ, lK, lL, lM, lN, lO, _⟩
   obtain ⟨gj, NA, h⟩ := optI h hC
   try simp only [hs] at h
   try simp only [vz, tyf, cw, (av cv), lI, lJ, lK, lL, lM, lN, lO, nm, seval]
   refine k_slT (w := 1) (enc := eI) (xs := bm.Signs) underlying22 (by kernel_rfl) (fun _ => rfl) (by first | (simp only [kV, kW, mW, kM, cw, (av cv), lI, lJ, lK, lL, lM, lN, lO, nm, seval] <;> rfl) | rfl) (.inl ⟨rfl, rfl⟩) (.inr ⟨.i64, by simp only [Option.map_some]; exact congrArg some (by first | (simp only [kV, kW, mW, kM, cw, (av cv), lI, lJ, lK, lL, lM, lN, lO, nm, seval] <;> rfl) | rfl)⟩) NA ?_
   cases fA : (neB gj)
   ·simp only [fA, hs] at h
    exact absurd h hC
   simp only [fA, hs] at h
   cases fB : (an 8 (List.length (([] : List Int) ++ gj)))
   ·simp only [fB, hs] at h
    exact absurd h hC
   simp only [fB, hs] at h
   simp only [vz, tyf, cw, (av cv), lI, lJ, lK, lL, lM, lN, lO, fA, fB, nm, seval]
   refine B2 (w := 1) (enc := eI) (ys := gj) (fun _ => rfl) ie ig underlying22 fA fB ?_
   simp only [vz, tyf, cw, (av cv), lI, lJ, lK, lL, lM, lN, lO, fA, fB, nm, seval]
   refine jJ ⟨?_, ?_⟩
   ·simp only [jN, jM, eM, jK, and_true, true_and]
    repeat' (first | exact trivial | refine qZk ?_ ?_ | rw [eM] | rw [jL] | exact Or.inl (by decide +kernel) | exact Or.inl (by dsimp only; decide +kernel) | (refine Or.inr ⟨?_, ?_⟩ <;> simp; done) | (refine Or.inr ⟨?_, ?_⟩ <;> simp <;> omega) | (refine Or.inr ⟨?_, ?_⟩ <;> simp [Ve.wr] <;> omega) | (refine Or.inr ⟨?_, ?_⟩ <;> simp [rdV, rdO, topName, Op.operands, kV, mW, kW, kM, Ve.wr] <;> omega))
   cases fL : (lenOk bm.Cuts)
   ·simp only [fL, hs] at h
    exact absurd h hC
   simp only [fL, hs] at h
   simp only [vz, tyf, cw, (av cv), lI, lJ, lK, lL, lM, lN, lO, fA, fB, fL, nm, seval]
   obtain ⟨NB, h, Vg, tC, Vh, tD⟩ := hX h hC
   obtain ⟨NC, B7, h⟩ := call3 h
   obtain ⟨ND, kf⟩ : ∃ I : Nat → St → Prop, I = (fun m st => ∃ (gk : List Int) (bO : Int) (bD : List Int) (kH : VV), m = List.length gk ∧ 0 ≤ bO ∧ List.drop (Int.toNat bO) bm.Cuts = gk ∧ st.df = [] ∧ bV + 38 ≤ st.nx ∧ st.H 0 = some (.cells (some 28) ([.sl (ad eI ae.Widths) (List.length ae.Widths) false] ++ [.sl (ad cGLp ae.Pairs) (List.length ae.Pairs) false] ++ (cGSpan ae.Other) ++ (cGSpan ae.Gap) ++ [.lit (.int .i64 ae.Hyphen)] ++ [.lit (.slice none 0 0)] ++ [.lit (.int .i64 ae.Wide)] ++ [.lit (.int .i64 ae.Rows)])) ∧ st.H 1 = some (.cells (some 28) ([.lit (.slice none 0 0)] ++ [.lit (.slice none 0 0)] ++ [.lit (.int .i64 0)] ++ [.lit (.int .i64 0)] ++ [.lit (.int .i64 0)] ++ [.lit (.int .i64 0)] ++ [.lit (.int .i64 0)] ++ [.lit (.slice none 0 0)] ++ [.lit (.int .i64 0)] ++ [.lit (.int .i64 0)])) ∧ st.H (bV + 14) = some (.cells (some 79) ([.ref (bV + 34) 0 (List.length (([] : List Int) ++ gj)) 1 (List.length (([] : List Int) ++ gj))] ++ [kH] ++ [.lit (.bool bm.Free)])) ∧ st.H (bV + 34) = some (.cells ((some 3)) (ad eI (([] : List Int) ++ gj))) ∧ st.tm 2 = .ptr 0 0 ∧ st.tm 4 = .ptr 1 0 ∧ st.tm 5 = .sl (ad cGLw ae.Words) (List.length ae.Words) false ∧ st.tm 6 = .lit (.int .i64 bg) ∧ st.tm 7 = .lit (.int .i64 cl) ∧ st.tm 8 = .ptr (bV + 14) 0 ∧ st.tm 9 = .lit (.int .i64 (if (List.length bm.Signs : Int) < bg then (List.length bm.Signs : Int) else bg)) ∧ st.tm 10 = .lit (.int .i64 bO) ∧ ((∃ (β : Nat) (el : Option TypeId), kH = .ref β 0 (List.length bD) 1 (List.length bD) ∧ β < st.nx ∧ β ≠ 0 ∧ β ≠ 1 ∧ β ≠ bV + 14 ∧ β ≠ bV + 34 ∧ st.H β = some (.cells el (ad eI bD))) ∨ (kH = .lit (.slice none 0 0) ∧ bD = [])) ∧ NB (NC gk bO bD)) := ⟨_, rfl⟩
   refine SY ?_
   refine loopK mixed (by kernel_rfl) ND (List.length bm.Cuts) (by rw [kf]; refine ⟨bm.Cuts, 0, ([] : List Int), .lit (.slice none 0 0), rfl, qZg _, rfl, rfl, (show bV + 38 ≤ bV + 38 by omega), ?_, ?_, ?_, ?_, lI, lJ, lK, lL, lM, lN, lO, ?_, Or.inr ⟨rfl, rfl⟩, h⟩ <;> first | (simp only [ua, cw, lI, lJ, lK, lL, lM, lN, lO, nm, seval] <;> rfl) | rfl) ?_
   rintro m ⟨tm, H, dq, df⟩ aL
   rw [kf] at aL
   obtain ⟨gk, bO, bD, kH, rfl, dr, fv, hdf, B8, fM, fN, fc, fe, dg, dh, di, dA, dB, dC, dD, dU, nA, h⟩ := aL
   simp only at hdf B8 fM fN fc fe dg dh di dA dB dC dD dU nA
   have eJ := gQ (m := 14) (b := dq) (by omega)
   have eK := sY (a := bV) (m := 38) (b := dq) (by omega)
   subst hdf B7
   rcases nA with ⟨mB, kI, rfl, B9, BA, BB, BC, BD, kJ⟩ | ⟨rfl, rfl⟩
   ·have jo := jx B9
    have jq := ne_f BA
    have jr := ne_f BB
    have js := ne_f BC
    have jt := ne_f BD
    cases gk with
    | nil =>
     have oE : (decide (bO < (List.length bm.Cuts : Int))) = false := gB dr fv
     simp only [nu, hs, reduceCtorEq] at h
     replace h := tC _ h
     try dsimp only at h
     try simp only [hs] at h
     cases mC : (an 56 (List.length (([] : List GLw) ++ [(GLw.mk (([] : List Int) ++ gj) bD bm.Free)])))
     ·simp only [mC, hs] at h
      exact absurd h hC
     simp only [mC, hs] at h
     simp only [vz, tyf, cw, (av cv), fA, fB, fL, eJ, eK, dg, dh, di, dA, dB, dC, dD, dU, fM, fN, fc, fe, jo, kJ, jq, jr, js, jt, oE, mC, nm, seval]
     refine ⟨_, Look.trans (Look.midI (cs := []) fe (by rw [fc]; rfl) (by omega)) (Look.midI (γ := mB) (cs := [_]) (Z := [_]) (by simp only [bk, bF, kJ, jo, jq, jr, js, jt, nm, seval] <;> rfl) (by rw [bk, if_pos rfl]; rfl) (by omega)), ?_⟩
     simp only [vz, tyf, cw, (av cv), fA, fB, fL, eJ, eK, dg, dh, di, dA, dB, dC, dD, dU, fM, fN, fc, fe, jo, kJ, jq, jr, js, jt, oE, mC, nm, seval]
     refine mX (w := 3) (enc := cGLw) (ys := ([(GLw.mk (([] : List Int) ++ gj) bD bm.Free)])) (ff := (some 79)) (fun _ => rfl) nM nN underlying26 (by first | rfl | assumption | (simp only [bk, bF, j9, cw, eJ, eK, fM, fN, fc, fe, jo, kJ, jq, jr, js, jt, nm, seval] <;> rfl) | (simp only [bk, bF, fg, eU, eW, eX, tyf, cw, (av cv), fA, fB, fL, eJ, eK, dg, dh, di, dA, dB, dC, dD, dU, fM, fN, fc, fe, jo, kJ, jq, jr, js, jt, oE, mC, nm, seval]; done)) (qZn _) mC ?_
     simp only [vz, tyf, cw, (av cv), fA, fB, fL, eJ, eK, dg, dh, di, dA, dB, dC, dD, dU, fM, fN, fc, fe, jo, kJ, jq, jr, js, jt, oE, mC, nm, seval]
     exact ⟨List.length ma, qZc _, by rw [om]; refine ⟨ma, cl + 1, i64.wrap (bg - (if (List.length bm.Signs : Int) < bg then (List.length bm.Signs : Int) else bg)), (([] : List GLw) ++ [(GLw.mk (([] : List Int) ++ gj) bD bm.Free)]), .ref (dq + 12) 0 (List.length (([] : List GLw) ++ [(GLw.mk (([] : List Int) ++ gj) bD bm.Free)])) 3 (List.length (([] : List GLw) ++ [(GLw.mk (([] : List Int) ++ gj) bD bm.Free)])), rfl, qZm gh (qZl (qZg _)), cb gh iJ, rfl, (show 14 ≤ dq + 22 by omega), ?_, ?_, dg, dh, di, ?_, ?_, Or.inl ⟨dq + 12, (some 79), rfl, (by first | omega | (simp only [nm, seval]; done) | (simp only [nm, seval]; omega)), (by first | omega | (intro hh; simp only [cw, eJ, eK, jo, jq, jr, js, jt, reduceCtorEq] at hh)), (by first | omega | (intro hh; simp only [cw, eJ, eK, jo, jq, jr, js, jt, reduceCtorEq] at hh)), ?_⟩, (by first | exact h | (simp only [cw, oE]; exact h))⟩ <;> first | (simp only [ua, cw, eJ, eK, dg, dh, di, dA, dB, dC, dD, dU, fM, fN, fc, fe, jo, kJ, jq, jr, js, jt, oE, nm, seval] <;> rfl) | rfl⟩
    | cons iu gk =>
     have BE : (decide (bO < (List.length bm.Cuts : Int))) = true := gq dr fv
     have mD := eV dr fv
     have BF := gu dr fv fL
     simp only [nu, hs, reduceCtorEq] at h
     cases s6 : (decide (iu < (if (List.length bm.Signs : Int) < bg then (List.length bm.Signs : Int) else bg)))
     ·simp only [s6, hs] at h
      have mF := qZk cw (qZk fA (qZk fB (qZk fL (qZk eJ (qZk eK (qZk fM (qZk fN (qZk fc (qZk fe (qZk jo (qZk kJ (qZk jq (qZk jr (qZk js (qZk jt (qZk BE (qZk BF s6)))))))))))))))))
      simp only [vz, tyf, mF, (av cv), dg, dh, di, dA, dB, dC, dD, dU, (aF mD), nm, seval]
      exact ⟨List.length gk, qZc _, by rw [kf]; refine ⟨gk, bO + 1, bD, .ref mB 0 (List.length bD) 1 (List.length bD), rfl, qZm dr (qZl (qZg _)), cb dr fv, rfl, (show bV + 38 ≤ dq + 21 by omega), ?_, ?_, ?_, ?_, dg, dh, di, dA, dB, dC, dD, ?_, Or.inl ⟨mB, kI, rfl, (by first | omega | (simp only [nm, seval]; done) | (simp only [nm, seval]; omega)), (by first | omega | (intro hh; simp only [mF, reduceCtorEq] at hh)), (by first | omega | (intro hh; simp only [mF, reduceCtorEq] at hh)), (by first | omega | (intro hh; simp only [mF, reduceCtorEq] at hh)), (by first | omega | (intro hh; simp only [mF, reduceCtorEq] at hh)), ?_⟩, (by first | exact h | (simp only [mF]; exact h))⟩ <;> first | (simp only [ua, mF, dg, dh, di, dA, dB, dC, dD, dU, nm, seval] <;> rfl) | rfl⟩
     simp only [s6, hs] at h
     have gJ := qZk cw (qZk fA (qZk fB (qZk fL (qZk eJ (qZk eK (qZk fM (qZk fN (qZk fc (qZk fe (qZk jo (qZk kJ (qZk jq (qZk jr (qZk js (qZk jt (qZk BE (qZk BF s6)))))))))))))))))
     simp only [vz, tyf, gJ, (av cv), dg, dh, di, dA, dB, dC, dD, dU, (aF mD), nm, seval]
     refine nH (fun tm => tm 2 = .ptr 0 0 ∧ tm 4 = .ptr 1 0 ∧ tm 5 = .sl (ad cGLw ae.Words) (List.length ae.Words) false ∧ tm 6 = .lit (.int .i64 bg) ∧ tm 7 = .lit (.int .i64 cl) ∧ tm 8 = .ptr (bV + 14) 0 ∧ tm 9 = .lit (.int .i64 (if (List.length bm.Signs : Int) < bg then (List.length bm.Signs : Int) else bg)) ∧ tm 10 = .lit (.int .i64 bO) ∧ True) (by refine ⟨dg, dh, di, dA, dB, dC, dD, dU, trivial⟩ <;> first | (simp only [ua, gJ, dg, dh, di, dA, dB, dC, dD, dU, nm, seval] <;> rfl) | rfl) ?_
     rintro tm ⟨mG, mH, mI, mJ, mK, mM, mN, oF, _⟩
     cases lP : (an 8 (List.length (bD ++ [iu])))
     ·simp only [lP, hs] at h
      exact absurd h tD
     simp only [lP, hs] at h
     simp only [vz, tyf, gJ, (av cv), (aF mD), mG, mH, mI, mJ, mK, mM, mN, oF, lP, nm, seval]
     refine k_app (w := 1) (enc := eI) (xs := bD) (ys := ([iu])) (el := kI) (ff := (some 3)) (fun _ => rfl) ie ig underlying22 (by first | rfl | assumption | (simp only [bk, bF, eT, gJ, nm, seval] <;> rfl) | (simp only [bk, bF, fg, eU, eW, eX, tyf, gJ, (av cv), (aF mD), mG, mH, mI, mJ, mK, mM, mN, oF, lP, nm, seval]; done)) (by first | rfl | assumption | (simp only [bk, bF, eT, gJ, nm, seval] <;> rfl) | (simp only [bk, bF, fg, eU, eW, eX, tyf, gJ, (av cv), (aF mD), mG, mH, mI, mJ, mK, mM, mN, oF, lP, nm, seval]; done)) (qZn _) lP ?_
     simp only [vz, tyf, gJ, (av cv), (aF mD), mG, mH, mI, mJ, mK, mM, mN, oF, lP, nm, seval]
     refine jJ ⟨?_, ?_⟩
     ·simp only [jN, jM, eM, jK, and_true, true_and]
      repeat' (first | exact trivial | refine qZk ?_ ?_ | rw [eM] | rw [jL] | exact Or.inl (by decide +kernel) | exact Or.inl (by dsimp only; decide +kernel) | (refine Or.inr ⟨?_, ?_⟩ <;> simp; done) | (refine Or.inr ⟨?_, ?_⟩ <;> simp <;> omega) | (refine Or.inr ⟨?_, ?_⟩ <;> simp [Ve.wr] <;> omega) | (refine Or.inr ⟨?_, ?_⟩ <;> simp [rdV, rdO, topName, Op.operands, kV, mW, kW, kM, Ve.wr] <;> omega))
     simp only [vz, tyf, gJ, (av cv), (aF mD), mG, mH, mI, mJ, mK, mM, mN, oF, lP, nm, seval]
     exact ⟨List.length gk, qZc _, by rw [kf]; refine ⟨gk, bO + 1, (bD ++ [iu]), .ref (dq + 29) 0 (List.length (bD ++ [iu])) 1 (List.length (bD ++ [iu])), rfl, qZm dr (qZl (qZg _)), cb dr fv, rfl, (show bV + 38 ≤ dq + 35 by omega), ?_, ?_, ?_, ?_, mG, mH, mI, mJ, mK, mM, mN, ?_, Or.inl ⟨dq + 29, (sameEl kI 3), rfl, (by first | omega | (simp only [nm, seval]; done) | (simp only [nm, seval]; omega)), (by first | omega | (intro hh; simp only [gJ, reduceCtorEq] at hh)), (by first | omega | (intro hh; simp only [gJ, reduceCtorEq] at hh)), (by first | omega | (intro hh; simp only [gJ, reduceCtorEq] at hh)), (by first | omega | (intro hh; simp only [gJ, reduceCtorEq] at hh)), ?_⟩, (by first | exact h | (simp only [gJ]; exact h))⟩ <;> first | (simp only [ua, gJ, mG, mH, mI, mJ, mK, mM, mN, oF, nm, seval] <;> rfl) | rfl⟩
   ·cases gk with
    | nil =>
     have oG : (decide (bO < (List.length bm.Cuts : Int))) = false := gB dr fv
     simp only [nu, hs, reduceCtorEq] at h
     replace h := tC _ h
     try dsimp only at h
     try simp only [hs] at h
     cases mO : (an 56 (List.length (([] : List GLw) ++ [(GLw.mk (([] : List Int) ++ gj) ([] : List Int) bm.Free)])))
     ·simp only [mO, hs] at h
      exact absurd h hC
     simp only [mO, hs] at h
     simp only [vz, tyf, cw, (av cv), fA, fB, fL, eJ, eK, dg, dh, di, dA, dB, dC, dD, dU, fM, fN, fc, fe, oG, mO, nm, seval]
     refine ⟨_, Look.trans (Look.midI (cs := []) fe (by rw [fc]; rfl) (by omega)) (Look.nil (A := [_]) (Z := [_]) (by rw [bk, if_pos rfl]; rfl)), ?_⟩
     simp only [vz, tyf, cw, (av cv), fA, fB, fL, eJ, eK, dg, dh, di, dA, dB, dC, dD, dU, fM, fN, fc, fe, oG, mO, nm, seval]
     refine mX (w := 3) (enc := cGLw) (ys := ([(GLw.mk (([] : List Int) ++ gj) ([] : List Int) bm.Free)])) (ff := (some 79)) (fun _ => rfl) nM nN underlying26 (by first | rfl | assumption | (simp only [bk, bF, j9, cw, eJ, eK, fM, fN, fc, fe, nm, seval] <;> rfl) | (simp only [bk, bF, fg, eU, eW, eX, tyf, cw, (av cv), fA, fB, fL, eJ, eK, dg, dh, di, dA, dB, dC, dD, dU, fM, fN, fc, fe, oG, mO, nm, seval]; done)) (qZn _) mO ?_
     simp only [vz, tyf, cw, (av cv), fA, fB, fL, eJ, eK, dg, dh, di, dA, dB, dC, dD, dU, fM, fN, fc, fe, oG, mO, nm, seval]
     exact ⟨List.length ma, qZc _, by rw [om]; refine ⟨ma, cl + 1, i64.wrap (bg - (if (List.length bm.Signs : Int) < bg then (List.length bm.Signs : Int) else bg)), (([] : List GLw) ++ [(GLw.mk (([] : List Int) ++ gj) ([] : List Int) bm.Free)]), .ref (dq + 12) 0 (List.length (([] : List GLw) ++ [(GLw.mk (([] : List Int) ++ gj) ([] : List Int) bm.Free)])) 3 (List.length (([] : List GLw) ++ [(GLw.mk (([] : List Int) ++ gj) ([] : List Int) bm.Free)])), rfl, qZm gh (qZl (qZg _)), cb gh iJ, rfl, (show 14 ≤ dq + 22 by omega), ?_, ?_, dg, dh, di, ?_, ?_, Or.inl ⟨dq + 12, (some 79), rfl, (by first | omega | (simp only [nm, seval]; done) | (simp only [nm, seval]; omega)), (by first | omega | (intro hh; simp only [cw, eJ, eK, reduceCtorEq] at hh)), (by first | omega | (intro hh; simp only [cw, eJ, eK, reduceCtorEq] at hh)), ?_⟩, (by first | exact h | (simp only [cw, oG]; exact h))⟩ <;> first | (simp only [ua, cw, eJ, eK, dg, dh, di, dA, dB, dC, dD, dU, fM, fN, fc, fe, oG, nm, seval] <;> rfl) | rfl⟩
    | cons iu gk =>
     have BG : (decide (bO < (List.length bm.Cuts : Int))) = true := gq dr fv
     have oH := eV dr fv
     have BH := gu dr fv fL
     simp only [nu, hs, reduceCtorEq] at h
     cases s8 : (decide (iu < (if (List.length bm.Signs : Int) < bg then (List.length bm.Signs : Int) else bg)))
     ·simp only [s8, hs] at h
      have wg := qZk cw (qZk fA (qZk fB (qZk fL (qZk eJ (qZk eK (qZk fM (qZk fN (qZk fc (qZk fe (qZk BG (qZk BH s8)))))))))))
      simp only [vz, tyf, wg, (av cv), dg, dh, di, dA, dB, dC, dD, dU, (aF oH), nm, seval]
      exact ⟨List.length gk, qZc _, by rw [kf]; refine ⟨gk, bO + 1, ([] : List Int), .lit (.slice none 0 0), rfl, qZm dr (qZl (qZg _)), cb dr fv, rfl, (show bV + 38 ≤ dq + 21 by omega), ?_, ?_, ?_, ?_, dg, dh, di, dA, dB, dC, dD, ?_, Or.inr ⟨rfl, rfl⟩, (by first | exact h | (simp only [wg]; exact h))⟩ <;> first | (simp only [ua, wg, dg, dh, di, dA, dB, dC, dD, dU, nm, seval] <;> rfl) | rfl⟩
     simp only [s8, hs] at h
     have iv := qZk cw (qZk fA (qZk fB (qZk fL (qZk eJ (qZk eK (qZk fM (qZk fN (qZk fc (qZk fe (qZk BG (qZk BH s8)))))))))))
     simp only [vz, tyf, iv, (av cv), dg, dh, di, dA, dB, dC, dD, dU, (aF oH), nm, seval]
     refine nH (fun tm => tm 2 = .ptr 0 0 ∧ tm 4 = .ptr 1 0 ∧ tm 5 = .sl (ad cGLw ae.Words) (List.length ae.Words) false ∧ tm 6 = .lit (.int .i64 bg) ∧ tm 7 = .lit (.int .i64 cl) ∧ tm 8 = .ptr (bV + 14) 0 ∧ tm 9 = .lit (.int .i64 (if (List.length bm.Signs : Int) < bg then (List.length bm.Signs : Int) else bg)) ∧ tm 10 = .lit (.int .i64 bO) ∧ True) (by refine ⟨dg, dh, di, dA, dB, dC, dD, dU, trivial⟩ <;> first | (simp only [ua, iv, dg, dh, di, dA, dB, dC, dD, dU, nm, seval] <;> rfl) | rfl) ?_
     rintro tm ⟨oI, oJ, oL, oM, oN, oO, oP, qh, _⟩
     cases mP : (an 8 (List.length (([] : List Int) ++ [iu])))
     ·simp only [mP, hs] at h
      exact absurd h tD
     simp only [mP, hs] at h
     simp only [vz, tyf, iv, (av cv), (aF oH), oI, oJ, oL, oM, oN, oO, oP, qh, mP, nm, seval]
     refine mX (w := 1) (enc := eI) (ys := ([iu])) (ff := (some 3)) (fun _ => rfl) ie ig underlying22 (by first | rfl | assumption | (simp only [bk, bF, eT, iv, nm, seval] <;> rfl) | (simp only [bk, bF, fg, eU, eW, eX, tyf, iv, (av cv), (aF oH), oI, oJ, oL, oM, oN, oO, oP, qh, mP, nm, seval]; done)) (qZn _) mP ?_
     simp only [vz, tyf, iv, (av cv), (aF oH), oI, oJ, oL, oM, oN, oO, oP, qh, mP, nm, seval]
     refine jJ ⟨?_, ?_⟩
     ·simp only [jN, jM, eM, jK, and_true, true_and]
      repeat' (first | exact trivial | refine qZk ?_ ?_ | rw [eM] | rw [jL] | exact Or.inl (by decide +kernel) | exact Or.inl (by dsimp only; decide +kernel) | (refine Or.inr ⟨?_, ?_⟩ <;> simp; done) | (refine Or.inr ⟨?_, ?_⟩ <;> simp <;> omega) | (refine Or.inr ⟨?_, ?_⟩ <;> simp [Ve.wr] <;> omega) | (refine Or.inr ⟨?_, ?_⟩ <;> simp [rdV, rdO, topName, Op.operands, kV, mW, kW, kM, Ve.wr] <;> omega))
     simp only [vz, tyf, iv, (av cv), (aF oH), oI, oJ, oL, oM, oN, oO, oP, qh, mP, nm, seval]
     exact ⟨List.length gk, qZc _, by rw [kf]; refine ⟨gk, bO + 1, (([] : List Int) ++ [iu]), .ref (dq + 29) 0 (List.length (([] : List Int) ++ [iu])) 1 (List.length (([] : List Int) ++ [iu])), rfl, qZm dr (qZl (qZg _)), cb dr fv, rfl, (show bV + 38 ≤ dq + 35 by omega), ?_, ?_, ?_, ?_, oI, oJ, oL, oM, oN, oO, oP, ?_, Or.inl ⟨dq + 29, (some 3), rfl, (by first | omega | (simp only [nm, seval]; done) | (simp only [nm, seval]; omega)), (by first | omega | (intro hh; simp only [iv, reduceCtorEq] at hh)), (by first | omega | (intro hh; simp only [iv, reduceCtorEq] at hh)), (by first | omega | (intro hh; simp only [iv, reduceCtorEq] at hh)), (by first | omega | (intro hh; simp only [iv, reduceCtorEq] at hh)), ?_⟩, (by first | exact h | (simp only [iv]; exact h))⟩ <;> first | (simp only [ua, iv, oI, oJ, oL, oM, oN, oO, oP, qh, nm, seval] <;> rfl) | rfl⟩
def Eo (ae : GLs) (aO : Int) : Option (Bool) := Option.bind (yS ae) (fun r1 => cond (r1) (Option.bind (Af ae) (fun r2 => cond (r2) (cond (decide (aO < 0)) (some true) (Option.bind (xU ae) (fun r3 => cond (decide (aO ≥ r3)) (some true) (Option.bind (zu ae) (fun r4 => Option.bind (Bx ae aO) (fun r5 => Option.bind (wQ r5) (fun r6 => cond (r4.2 == 0) (cond (r6.2) (cond (decide (r4.1 ≥ 0)) (cond (decide (r4.1 ≤ r3)) (cond (r6.1 == (decide (aO ≥ r4.1))) (some true) (some false)) (some false)) (some false)) (some false)) (some false)))))))) (some true))) (some true))
theorem ZV (ae : GLs) (aO : Int) (R : Bool) (h : Eo ae aO = some R) : ah prog G0 14 [.agg (cGLs ae), .lit (.int .i64 aO)] (.tree (.lit (.bool R))) := by
 refine ah.runR mixed call14 func14 rfl (by simp [ntmps14]; kernel_rfl) ?_
 obtain ⟨KF, h, kF, kN⟩ := eN h
 simp only [Eo] at h
 obtain ⟨r7, o8, h⟩ := optI h kN
 try simp only [hs] at h
 simp only [vz, tyf, nm, seval]
 refine ktA (Yu _ _ o8) ?_
 refine bQ (fun tm => tm 1 = .lit (.int .i64 aO) ∧ tm 2 = .ptr 0 0 ∧ tm 10 = .lit (.bool r7) ∧ True) (by refine ⟨?_, ?_, ?_, trivial⟩ <;> first | (simp only [ua, nm, seval] <;> rfl) | rfl) ?_
 rintro tm ⟨e9, bx, br, _⟩
 cases dK : (r7)
 ·simp only [dK, hs] at h
  simp only [vz, tyf, e9, bx, br, dK, nm, seval]
  refine ktree0 yT ?_
  try simp only [vz, tyf, e9, bx, br, dK, nm, seval]
  obtain rfl := kF _ h
  exact bR results14 rfl
 simp only [dK, hs] at h
 obtain ⟨xt, te, h⟩ := optI h kN
 try simp only [hs] at h
 simp only [vz, tyf, e9, bx, br, dK, nm, seval]
 refine ktA (Yc _ _ te) ?_
 refine bQ (fun tm => tm 1 = .lit (.int .i64 aO) ∧ tm 2 = .ptr 0 0 ∧ tm 12 = .lit (.bool false) ∧ tm 14 = .lit (.bool xt) ∧ True) (by refine ⟨e9, bx, ?_, ?_, trivial⟩ <;> first | (simp only [ua, e9, bx, br, dK, nm, seval] <;> rfl) | rfl) ?_
 rintro tm ⟨bW, cD, bm, cq, _⟩
 cases dL : (xt)
 ·simp only [dL, hs] at h
  simp only [vz, tyf, dK, bW, cD, bm, cq, dL, nm, seval]
  refine ktree0 yT ?_
  try simp only [vz, tyf, dK, bW, cD, bm, cq, dL, nm, seval]
  obtain rfl := kF _ h
  exact bR results14 rfl
 simp only [dL, hs] at h
 cases cH : (decide (aO < 0))
 ·simp only [cH, hs] at h
  obtain ⟨qT, iG, h⟩ := optI h kN
  try simp only [hs] at h
  simp only [vz, tyf, dK, bW, cD, bm, cq, dL, cH, nm, seval]
  refine ktA (Nw _ _ iG) ?_
  refine bQ (fun tm => tm 1 = .lit (.int .i64 aO) ∧ tm 2 = .ptr 0 0 ∧ tm 21 = .lit (.bool false) ∧ tm 22 = .lit (.int .i64 aO) ∧ tm 24 = .lit (.int .i64 qT) ∧ True) (by refine ⟨bW, cD, ?_, ?_, ?_, trivial⟩ <;> first | (simp only [ua, dK, bW, cD, bm, cq, dL, cH, nm, seval] <;> rfl) | rfl) ?_
  rintro tm ⟨cI, du, cG, dG, fj, _⟩
  cases eA : (decide (aO ≥ qT))
  ·simp only [eA, hs] at h
   obtain ⟨iL, iF, h⟩ := optI h kN
   try simp only [hs] at h
   simp only [vz, tyf, dK, dL, cH, cI, du, cG, dG, fj, eA, nm, seval]
   refine ktA (Xc _ _ iF) ?_
   refine bQ (fun tm => tm 1 = .lit (.int .i64 aO) ∧ tm 2 = .ptr 0 0 ∧ tm 30 = .tup [.lit (.int .i64 iL.1), .lit (.int .i64 iL.2)] ∧ True) (by refine ⟨cI, du, ?_, trivial⟩ <;> first | (simp only [ua, dK, dL, cH, cI, du, cG, dG, fj, eA, nm, seval] <;> rfl) | rfl) ?_
   rintro tm ⟨gM, gD, fx, _⟩
   obtain ⟨vd, qP, h⟩ := optI h kN
   try simp only [hs] at h
   simp only [vz, tyf, dK, dL, cH, eA, gM, gD, fx, nm, seval]
   refine ktA (ZI _ _ _ qP) ?_
   refine bQ (fun tm => tm 1 = .lit (.int .i64 aO) ∧ tm 2 = .ptr 0 0 ∧ tm 5 = .lit (.int .i64 iL.1) ∧ tm 6 = .lit (.int .i64 iL.2) ∧ tm 36 = .agg (cGLs vd) ∧ True) (by refine ⟨gM, gD, ?_, ?_, ?_, trivial⟩ <;> first | (simp only [ua, dK, dL, cH, eA, gM, gD, fx, nm, seval] <;> rfl) | rfl) ?_
   rintro tm ⟨cg, bT, bG, bJ, bS, _⟩
   obtain ⟨BI, ZW, h⟩ := optI h kN
   try simp only [hs] at h
   simp only [vz, tyf, dK, dL, cH, eA, cg, bT, bG, bJ, bS, nm, seval]
   refine ktA (WT _ _ ZW) ?_
   refine bQ (fun tm => tm 1 = .lit (.int .i64 aO) ∧ tm 2 = .ptr 0 0 ∧ tm 5 = .lit (.int .i64 iL.1) ∧ tm 6 = .lit (.int .i64 iL.2) ∧ tm 37 = .tup [.lit (.bool BI.1), .lit (.bool BI.2)] ∧ True) (by refine ⟨cg, bT, bG, bJ, ?_, trivial⟩ <;> first | (simp only [ua, dK, dL, cH, eA, cg, bT, bG, bJ, bS, nm, seval] <;> rfl) | rfl) ?_
   rintro tm ⟨cC, bL, eE, eP, eQ, _⟩
   cases lp : (iL.2 == 0)
   ·simp only [lp, hs] at h
    try simp only [vz, tyf, dK, dL, cH, eA, cC, bL, eE, eP, eQ, lp, nm, seval]
    obtain rfl := kF _ h
    exact bR results14 rfl
   simp only [lp, hs] at h
   cases jU : (BI.2)
   ·simp only [jU, hs] at h
    try simp only [vz, tyf, dK, dL, cH, eA, cC, bL, eE, eP, eQ, lp, jU, nm, seval]
    obtain rfl := kF _ h
    exact bR results14 rfl
   simp only [jU, hs] at h
   cases pM : (decide (iL.1 ≥ 0))
   ·simp only [pM, hs] at h
    have zV := qZk dK (qZk dL (qZk cH (qZk eA (qZk lp (qZk jU pM)))))
    try simp only [vz, tyf, zV, cC, bL, eE, eP, eQ, nm, seval]
    obtain rfl := kF _ h
    exact bR results14 rfl
   simp only [pM, hs] at h
   have tE := qZk dK (qZk dL (qZk cH (qZk eA (qZk lp (qZk jU pM)))))
   simp only [vz, tyf, tE, cC, bL, eE, eP, eQ, nm, seval]
   refine ktree (args0 := [.agg (cGLs ae)]) (by first | (simp only [nrm, ar, tyf, tE] <;> rfl) | rfl) (by simp only [tre, au, Bool.and_self]) (Nw _ _ iG) ?_
   refine bQ (fun tm => tm 1 = .lit (.int .i64 aO) ∧ tm 5 = .lit (.int .i64 iL.1) ∧ tm 7 = .lit (.bool BI.1) ∧ tm 49 = .lit (.bool true) ∧ tm 50 = .lit (.int .i64 iL.1) ∧ tm 52 = .lit (.int .i64 qT) ∧ True) (by refine ⟨cC, eE, ?_, ?_, ?_, ?_, trivial⟩ <;> first | (simp only [ua, tE, cC, bL, eE, eP, eQ, nm, seval] <;> rfl) | rfl | (simp only [ua, tyf, tE, cC, bL, eE, eP, eQ, nm, seval] <;> rfl)) ?_
   rintro tm ⟨nP, jT, mn, dJ, eR, dR, _⟩
   cases nh : (decide (iL.1 ≤ qT))
   ·simp only [nh, hs] at h
    try simp only [vz, tyf, tE, nP, jT, mn, dJ, eR, dR, nh, nm, seval]
    obtain rfl := kF _ h
    exact bR results14 rfl
   simp only [nh, hs] at h
   cases BJ : (BI.1 == (decide (aO ≥ iL.1)))
   ·simp only [BJ, hs] at h
    try simp only [vz, tyf, tE, nP, jT, mn, dJ, eR, dR, nh, BJ, nm, seval]
    obtain rfl := kF _ h
    exact bR results14 rfl
   simp only [BJ, hs] at h
   simp only [vz, tyf, tE, nP, jT, mn, dJ, eR, dR, nh, BJ, nm, seval]
   refine ktree0 yT ?_
   try simp only [vz, tyf, tE, nP, jT, mn, dJ, eR, dR, nh, BJ, nm, seval]
   obtain rfl := kF _ h
   exact bR results14 rfl
  simp only [eA, hs] at h
  simp only [vz, tyf, dK, dL, cH, cI, du, cG, dG, fj, eA, nm, seval]
  refine ktree0 yT ?_
  try simp only [vz, tyf, dK, dL, cH, cI, du, cG, dG, fj, eA, nm, seval]
  obtain rfl := kF _ h
  exact bR results14 rfl
 simp only [cH, hs] at h
 simp only [vz, tyf, dK, bW, cD, bm, cq, dL, cH, nm, seval]
 refine ktree0 yT ?_
 try simp only [vz, tyf, dK, bW, cD, bm, cq, dL, cH, nm, seval]
 obtain rfl := kF _ h
 exact bR results14 rfl
theorem BK : ∀ (p : List GLw) (i c : Int), (∀ w ∈ p, w.Signs.length ≤ 6) → 0 ≤ c → c + 6 * p.length ≤ 1000 → vY p i c = some (.go (c + letsI p))
 | [], _, c, _, _, _ => by simp [vY, letsI]
 | w :: p, i, c, h, h0, h1 => by
  have hw := h w (qZb ..)
  simp only [List.length_cons] at h1
  rw [vY, jS (by omega) (by omega), BK p (i + 1) _ (fun x hx => h x (qZa _ hx)) (by omega) (by omega), letsI]
  congr 2
  omega
theorem BL (hn : A.Words.length ≤ 4) (hl : ∀ w ∈ A.Words, w.Signs.length ≤ 6) : xU A = some (letsI A.Words) := by
 rw [xU, km (by omega), cond_true, BK A.Words 0 0 hl (qZg _) (by omega), lR]
 congr 1
 omega
theorem wh (n : Int) (w : GLw) : ∀ (p : List Int) (i : Int) (acc : List Int), acc.length + p.length ≤ 1000 → nu n w p i acc = some (.go (acc ++ p.filter fun c => decide (c < minL w n)))
 | [], _, acc, _ => by simp [nu]
 | e :: p, i, acc, h => by
  simp only [List.length_cons] at h
  rw [nu, show (if (List.length w.Signs : Int) < n then (List.length w.Signs : Int) else n) = minL w n from rfl]
  by_cases he : e < minL w n
  ·rw [decide_eq_true he, cond_true, roomOk8 (by simp; omega), cond_true, wh n w p (i + 1) _ (by simp; omega), List.filter_cons_of_pos (by simpa using he)]
   simp
  ·rw [decide_eq_false he, cond_false, wh n w p (i + 1) acc (by omega), List.filter_cons_of_neg (by simpa using he)]
theorem BM : ∀ (p : List GLw) (i n : Int) (acc : List GLw), (∀ w ∈ p, (1 ≤ w.Signs.length ∧ w.Signs.length ≤ 6) ∧ w.Cuts.length ≤ 5) → 0 ≤ n → n ≤ 1000 → acc.length + p.length ≤ 1000 → ∃ m, sw p i n acc = some (.go (m, acc ++ woL p n))
 | [], i, n, acc, _, _, _, _ => ⟨n, by simp [sw, woL]⟩
 | w :: p, i, n, acc, h, h0, h1, h2 => by
  have hw := h w (qZb ..)
  simp only [List.length_cons] at h2
  rw [sw, woL]
  by_cases hn : n = 0
  ·refine ⟨n, ?_⟩
   rw [if_pos hn, decide_eq_false (by omega), cond_false, List.append_nil]
  ·rw [if_neg hn, decide_eq_true (by omega), cond_true]
   have hm : 1 ≤ minL w n ∧ minL w n ≤ w.Signs.length ∧ minL w n ≤ n := by unfold minL; split <;> omega
   obtain ⟨m, ih⟩ := BM p (i + 1) (n - minL w n) (acc ++ [shW w (minL w n)]) (fun x hx => h x (qZa _ hx)) (by omega) (by omega) (by simp; omega)
   refine ⟨m, ?_⟩
   have hs : sliceO w.Signs 0 (minL w n) = some (w.Signs.take (minL w n).toNat) := by
    unfold sliceO
    rw [if_pos ⟨qZg _, by omega, hm.2.1⟩]
    simp
   have ba : (w.Signs.take (minL w n).toNat).length = (minL w n).toNat := by rw [List.length_take]; omega
   have hne : neB (w.Signs.take (minL w n).toNat) = true := by
    cases hh : w.Signs.take (minL w n).toNat with
    | nil => rw [hh] at ba; simp only [List.length_nil] at ba; omega
    | cons => rfl
   rw [show (if (List.length w.Signs : Int) < n then (List.length w.Signs : Int) else n) = minL w n from rfl, hs, Option.bind_some, hne, cond_true, List.nil_append, roomOk8 (by omega), cond_true, km (by omega), cond_true, wh n w w.Cuts 0 [] (by simp; omega), lR, List.nil_append, roomOk56 (by simp; omega), cond_true, jS (by omega) (by omega)]
   rw [show GLw.mk (w.Signs.take (minL w n).toNat) (w.Cuts.filter fun c => decide (c < minL w n)) w.Free = shW w (minL w n) from rfl, ih]
   simp
theorem NF (h : Sh A) {k : Int} (h0 : 0 ≤ k) (h1 : k ≤ letsI A.Words) : Bx A k = some (NS A (woL A.Words (letsI A.Words - k)) A.Wide A.Rows) := by
 have hn := h.nw
 have hb := z1 A.Words fun w hw => (h.wlen w hw).2
 obtain ⟨m, e⟩ := BM A.Words 0 (letsI A.Words - k) [] (fun w hw => ⟨h.wlen w hw, (h.wcut w hw).2.2⟩) (by omega) (by omega) (by simp; omega)
 rw [Bx, BL (A := GLs.mk [] [] (GSpan.mk 0 0) (GSpan.mk 0 0) 0 A.Words 0 0) hn.2 fun w hw => (h.wlen w hw).2]
 simp only [Option.bind_some]
 rw [km (by omega), cond_true, jS (by omega) (by omega), e, lR, List.nil_append]
theorem NG (hs : sheetB A = true) {n : Int} (h1 : 1 ≤ n) : sheetB (NS A (woL A.Words n) A.Wide A.Rows) = true := by
 have h := sh_of hs
 have h' := Sh_wo h h1
 have hw := h.nwid
 unfold sheetB at hs ⊢
 simp only [Bool.and_eq_true, rb] at hs ⊢
 obtain ⟨⟨⟨⟨⟨⟨⟨⟨⟨a1, a2⟩, a3⟩, a4⟩, a5⟩, a6⟩, a7⟩, a8, a9⟩, HW⟩, HX⟩ := hs
 have nw := h'.nw
 simp only at nw
 refine ⟨⟨⟨⟨⟨⟨⟨⟨⟨a1, a2⟩, a3⟩, a4⟩, a5⟩, a6⟩, a7⟩, by omega, ?_⟩, HW⟩, HX⟩
 rw [List.all_eq_true]
 intro v hv
 have b1 := h'.wlen v hv
 have b2 := h'.wsign v hv
 have b3 := h'.wcut v hv
 simp only at b2
 unfold wordB
 simp only [Bool.and_eq_true, rb, List.all_eq_true]
 refine ⟨by omega, fun c hc => ?_, b3.1, fun c hc => ?_⟩
 ·have := b2 c hc
  rw [jS (by omega) (by omega)]
  omega
 ·have := b3.2.1 c hc
  rw [jS (by omega) (by omega)]
  omega
theorem BN {A : GLs} (ha : Sh A) : ∀ (n : Nat) (i : Int), 0 ≤ i → i + n = letsI A.Words → ∃ c, uN A n i = some (.go c) ∧ i ≤ c ∧ c ≤ letsI A.Words ∧ (∀ k, i ≤ k → k < c → ¬ ∃ y, PF (NS A (woL A.Words (letsI A.Words - k)) A.Wide A.Rows) y) ∧ (c < letsI A.Words → ∃ y, PF (NS A (woL A.Words (letsI A.Words - c)) A.Wide A.Rows) y)
 | 0, i, _, hn => ⟨i, rfl, qZg _, by omega, fun k h1 h2 => by omega, fun h => by omega⟩
 | n + 1, i, h0, hn => by
  obtain ⟨x, x1, x2⟩ := He (Sh_wo ha (n := letsI A.Words - i) (by omega))
  rw [uN, wo_eq ha h0 (by omega), Option.bind_some, x1, Option.bind_some]
  cases x with
  | true => exact ⟨i, rfl, qZg _, by omega, fun k h1 h2 => by omega, fun _ => x2.1 rfl⟩
  | false =>
   obtain ⟨c, e1, e2, e3, e4, e5⟩ := BN ha n (i + 1) (by omega) (by omega)
   refine ⟨c, e1, by omega, e3, fun k h1 h2 => ?_, e5⟩
   by_cases hk : k = i
   ·rw [hk]
    intro hh
    have := x2.2 hh
    cases this
   ·exact e4 k (by omega) h2
theorem NH (hf : FineS A) (hs : sheetB A = true) {c : Int} (e : uN A (letsI A.Words).toNat 0 = some (.go c)) : zu A = some (c, 0) := by
 have h := sh_of hs
 have hb := z1 A.Words fun w hw => (h.wlen w hw).2
 have hn := h.nw
 rw [zu, GY A hf, hs, Option.bind_some, cond_true, z3 h, Option.bind_some, show boundOk (letsI A.Words) = true by simp [boundOk]; omega, cond_true, Int.sub_zero, e, lR]
theorem BO {A : GLs} (h : Sh A) : ∀ (m : Nat) (n : Int), 1 ≤ n → n + m ≤ letsI A.Words → (∃ y, PF (NS A (woL A.Words (n + m)) A.Wide A.Rows) y) → ∃ y, PF (NS A (woL A.Words n) A.Wide A.Rows) y
 | 0, n, _, _, p => by simpa using p
 | m + 1, n, h1, h2, ⟨y, p⟩ => by
  obtain ⟨z, hz⟩ := Nv h (n := n + ((m + 1 : Nat) : Int)) (by omega) (by omega) p
  exact BO h m n h1 (by omega) ⟨z, by rwa [show n + ((m + 1 : Nat) : Int) - 1 = n + (m : Int) by omega] at hz⟩
theorem ZX (s : GLs) (k : Int) (h : FineS s) : Eo s k = some true := by
 obtain ⟨b, hb⟩ := GD s h.2.2.1
 rw [Eo, hb, Option.bind_some, IU s h]
 cases b with
 | false => rfl
 | true =>
 rw [cond_true, Option.bind_some]
 cases hs : sheetB s with
 | false => rfl
 | true =>
 have hsh := sh_of hs
 have hlb := z1 s.Words fun w hw => (hsh.wlen w hw).2
 rw [cond_true]
 by_cases c1 : k < 0
 ·rw [decide_eq_true c1]; rfl
 rw [decide_eq_false c1, cond_false, BL hsh.nw.2 (fun w hw => (hsh.wlen w hw).2), Option.bind_some]
 by_cases c2 : k ≥ letsI s.Words
 ·rw [decide_eq_true c2]; rfl
 rw [decide_eq_false c2, cond_false]
 obtain ⟨c, e1, e2, e3, e4, e5⟩ := BN hsh (letsI s.Words).toNat 0 (qZg _) (by omega)
 have hw' := NG hs (n := letsI s.Words - k) (by omega)
 have hF : FineS (NS s (woL s.Words (letsI s.Words - k)) s.Wide s.Rows) := by
  have h' := Sh_wo hsh (n := letsI s.Words - k) (by omega)
  have nw := h'.nw
  simp only at nw
  refine ⟨h.1, h.2.1, km (by simp only; omega), fun v hv => ?_⟩
  have a := h'.wlen v hv
  have b := h'.wcut v hv
  exact ⟨km (by omega), km (by omega)⟩
 obtain ⟨b, f1, f2⟩ := Hd hF hw' (zg (sh_of hw'))
 have hbk : b = decide (k ≥ c) := by
  rw [Bool.eq_iff_iff, decide_eq_true_eq, f2]
  constructor
  ·rintro ⟨y, hy⟩
   apply Int.not_lt.1
   intro hlt
   exact e4 k (by omega) hlt ⟨y, hy⟩
  ·intro hk
   have := BO hsh (k - c).toNat (letsI s.Words - k) (by omega) (by omega) (by
    rw [show letsI s.Words - k + ((k - c).toNat : Int) = letsI s.Words - c by omega]
    exact e5 (by omega))
   exact this
 rw [NH h hs e1, Option.bind_some, NF hsh (by omega) (by omega), Option.bind_some, f1, Option.bind_some, hbk]
 simp only [show ((0 : Int) == 0) = true from rfl, cond_true, decide_eq_true e2, decide_eq_true e3, beq_self_eq_true]
end Go.V
end
