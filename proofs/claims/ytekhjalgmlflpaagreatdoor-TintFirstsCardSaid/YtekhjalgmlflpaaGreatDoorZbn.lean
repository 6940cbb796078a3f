/- Part of a proof. -/
import Derived.Test.YtekhjalgmlflpaaGreatDoorZbm
import Derived.Test.YtekhjalgmlflpaaGreatDoorZbl
set_option linter.all false
set_option maxRecDepth 4000
set_option maxHeartbeats 40000000
section
namespace Go.V
open Go Go.Proofs IntKind
def Aa (db : Gm) (dE : Gm) : Option (Bool) := Option.bind (xo db) (fun r1 => Option.bind (xo dE) (fun r2 => Option.bind (CJ (List.length r1 : Int) (List.length r2 : Int)) (fun r3 => Option.bind (HQ r1 r2) (fun r4 => Option.bind (HP ([r3, r4])) (fun r5 => some (decide (r5 < 0)))))))
theorem Wl (db : Gm) (dE : Gm) (R : Bool) (h : Aa db dE = some R) : ad Tryz.prog G0 83 [.agg (cGm db), .agg (cGm dE)] (.tree (.lit (.bool R))) := by
 refine ad.runR mixed Tryz.call83 Tryz.func83 rfl (by simp [Tryz.ntmps83]; kernel_rfl) ?_
 obtain ⟨KF, h, kF, kN⟩ := dp h
 simp only [Aa] at h
 simp only [vz, tyf, nm, seval]
 refine lP (fun tm => tm 2 = .ptr 0 0 ∧ tm 3 = .ptr 1 0 ∧ True) (by refine ⟨?_, ?_, trivial⟩ <;> first | (simp only [ua, nm, seval] <;> rfl) | rfl) ?_
 rintro tm ⟨e6, e7, _⟩
 obtain ⟨r8, o9, h⟩ := optI h kN
 try simp only [hs] at h
 simp only [vz, tyf, e6, e7, nm, seval]
 refine dktA (zB _ _ o9) ?_
 refine aZ (fun tm => tm 2 = .ptr 0 0 ∧ tm 3 = .ptr 1 0 ∧ tm 6 = .sl (aa eI r8) (List.length r8) false ∧ True) (by refine ⟨e6, e7, ?_, trivial⟩ <;> first | (simp only [ua, e6, e7, nm, seval] <;> rfl) | rfl) ?_
 rintro tm ⟨bm, bg, aW, _⟩
 obtain ⟨fc, s8, h⟩ := optI h kN
 try simp only [hs] at h
 simp only [vz, tyf, bm, bg, aW, nm, seval]
 refine dktA (zB _ _ s8) ?_
 refine aZ (fun tm => tm 2 = .ptr 0 0 ∧ tm 3 = .ptr 1 0 ∧ tm 7 = .lit (.int .i64 (List.length r8 : Int)) ∧ tm 9 = .sl (aa eI fc) (List.length fc) false ∧ True) (by refine ⟨bm, bg, ?_, ?_, trivial⟩ <;> first | (simp only [ua, bm, bg, aW, nm, seval] <;> rfl) | rfl) ?_
 rintro tm ⟨bQ, bu, bC, cv, _⟩
 obtain ⟨Ab, od, h⟩ := optI h kN
 try simp only [hs] at h
 simp only [vz, tyf, bQ, bu, bC, cv, nm, seval]
 refine dktA (RK _ _ _ od) ?_
 refine aZ (fun tm => tm 2 = .ptr 0 0 ∧ tm 3 = .ptr 1 0 ∧ tm 11 = .lit (.int .i64 Ab) ∧ True) (by refine ⟨bQ, bu, ?_, trivial⟩ <;> first | (simp only [ua, bQ, bu, bC, cv, nm, seval] <;> rfl) | rfl) ?_
 rintro tm ⟨bz, bK, bD, _⟩
 simp only [vz, tyf, bz, bK, bD, nm, seval]
 refine dktA (zB _ _ o9) ?_
 refine aZ (fun tm => tm 3 = .ptr 1 0 ∧ tm 11 = .lit (.int .i64 Ab) ∧ tm 13 = .sl (aa eI r8) (List.length r8) false ∧ True) (by refine ⟨bK, bD, ?_, trivial⟩ <;> first | (simp only [ua, bz, bK, bD, nm, seval] <;> rfl) | rfl) ?_
 rintro tm ⟨cF, cD, cH, _⟩
 simp only [vz, tyf, cF, cD, cH, nm, seval]
 refine dktA (zB _ _ s8) ?_
 refine aZ (fun tm => tm 11 = .lit (.int .i64 Ab) ∧ tm 13 = .sl (aa eI r8) (List.length r8) false ∧ tm 15 = .sl (aa eI fc) (List.length fc) false ∧ True) (by refine ⟨cD, cH, ?_, trivial⟩ <;> first | (simp only [ua, cF, cD, cH, nm, seval] <;> rfl) | rfl) ?_
 rintro tm ⟨bY, bE, bA, _⟩
 obtain ⟨fb, yh, h⟩ := optI h kN
 try simp only [hs] at h
 simp only [vz, tyf, bY, bE, bA, nm, seval]
 refine dktA (VC _ _ _ yh) ?_
 refine aZ (fun tm => tm 11 = .lit (.int .i64 Ab) ∧ tm 16 = .lit (.int .i64 fb) ∧ True) (by refine ⟨bY, ?_, trivial⟩ <;> first | (simp only [ua, bY, bE, bA, nm, seval] <;> rfl) | rfl) ?_
 rintro tm ⟨cQ, cK, _⟩
 obtain ⟨zf, G5, h⟩ := optI h kN
 try simp only [hs] at h
 simp only [vz, tyf, cQ, cK, nm, seval]
 refine dkseen1 (w := 1) (enc := eI) (xs := ([Ab, fb])) (el := (some 3)) ⟨eI_ok.tree, eI_ok.norm⟩ (fun _ => rfl) (by simp only [List.length_cons, List.length_nil]; decide) (by simp only [bp, cO, ct, nm, seval] <;> rfl) (VB _ _ G5) (by first | rfl | simp only [VV.flat, flatL, Bool.and_self]) ?_
 refine aZ (fun tm => tm 18 = .lit (.int .i64 zf) ∧ True) (by refine ⟨?_, trivial⟩ <;> first | (simp only [ua, cQ, cK, nm, seval] <;> rfl) | rfl) ?_
 rintro tm ⟨dP, _⟩
 simp only [vz, tyf, dP, nm, seval]
 refine ja ⟨?_, ?_⟩
 ·simp only [iQ, iR, dy, iS, and_true, true_and]
  repeat' (first | exact trivial | refine And.intro ?_ ?_ | rw [dy] | rw [iT] | exact Or.inl (by decide +kernel) | exact Or.inl (by dsimp only; decide +kernel) | (refine Or.inr ⟨?_, ?_⟩ <;> simp; done) | (refine Or.inr ⟨?_, ?_⟩ <;> simp <;> omega) | (refine Or.inr ⟨?_, ?_⟩ <;> simp [VEff.wr] <;> omega))
 try simp only [vz, tyf, dP, nm, seval]
 obtain rfl := kF _ h
 exact bB Tryz.results83 rfl
theorem ktreeP {P : Program} {G : Glob} {f : FuncId} {args : List VV} {x : VV} {d : Option Tmp} {γ : Nat} {tm : Nat → VV} {H : Nat → Option VObj} {nx : Nat} {df : List VDef} {K : St → Prop} {Qp : VV → St → Prop} (ht : treeL args = true) (hp : ad P G f args (.tree x)) (h : fin d γ tm H nx df K x .none) : callK P G f args ⟨tm, H, nx, df⟩ d γ K Qp := by
 refine .inl ⟨ht, .tree x, hp, ?_⟩
 rw [← jR (K := K), jQ] at h
 exact h
def KG (s : Gs) : Option (List Int × Int × Int) := Option.bind (mh s) fun b1 => cond b1
 (Option.bind (sS s) fun L => Option.bind (bestO zA L (zM, false)) fun r => Option.bind (xn r.1) fun n => some (r.1.mix, n, 0))
 (some ([], 0, 2))
theorem Wm (s : Gs) (R : List Int × Int × Int) (h : KG s = some R) : ad Tryz.prog G0 50 [.agg (cGs s)] (.tree (.tup [.sl (aa eI R.1) (List.length R.1) false, .lit (.int .i64 R.2.1), .lit (.int .i64 R.2.2)])) := by
 refine ad.runR mixed Tryz.call50 Tryz.func50 rfl (by simp [Tryz.ntmps50]; kernel_rfl) ?_
 unfold KG at h
 rcases o0 : mh s with _ | b
 ·rw [o0] at h; cases h
 rw [o0, Option.bind_some] at h
 simp only [vz, tyf, seval, ua, rg]
 refine ktA (wH _ _ o0) ?_
 cases b with
 | false =>
  simp only [cond_false, Option.some.injEq] at h
  subst h
  simp only [vz, tyf, seval, ua, rg, Bool.not_false]
  refine bG (x := .tup [.lit (.slice none 0 0), .lit (.int .i64 0), .lit (.int .i64 2)]) (by simp only [Tryz.results50, resV, resL, av, bL, bM, uw, cr, tyf, nm, seval] <;> rfl) ?_
  refine bO (by simp only [tre, ar]; rfl) ?_
  simp only [outV, nrm, seval, List.map_cons, List.map_nil, kd, List.length_nil]
 | true =>
 rw [cond_true] at h
 rcases o2 : sS s with _ | L
 ·rw [o2] at h; cases h
 rw [o2, Option.bind_some] at h
 rcases o6 : bestO zA L (zM, false) with _ | r
 ·rw [o6] at h; cases h
 rw [o6, Option.bind_some] at h
 rcases o7 : xn r.1 with _ | n
 ·rw [o7] at h; cases h
 rw [o7, Option.bind_some, Option.some.injEq] at h
 have hbo := RH (bf := 80) (mc := []) (HL s L o2) rfl (better := zA) (fun a b t ht => VA a b t ht) r o6
 simp only [vz, tyf, seval, ua, rg, Bool.not_true]
 refine ktA (HM s) ?_
 simp only [vz, tyf, seval, ua, rg]
 refine ktreeP (by simp only [uX, xj, tn]; rfl) hbo ?_
 simp only [vz, tyf, seval, ua, rg]
 refine mN (fun tm => tm 5 = .ptr 13 0) (by simp only [ua, seval]) ?_
 intro tm e5
 simp only [vz, tyf, seval, ua, rg, e5]
 refine dktA (HO _ _ o7) ?_
 simp only [vz, tyf, seval, ua, rg, e5]
 subst h
 refine bG (x := .tup [.sl (aa eI r.1.mix) r.1.mix.length false, .lit (.int .i64 n), .lit (.int .i64 0)]) (by simp only [Tryz.results50, resV, resL, av, bL, bM, uw, cr, tyf, nm, seval] <;> rfl) ?_
 refine bO (by simp only [tre, ar, Bool.and_self]) ?_
 simp only [outV, nrm, seval, List.map_cons, List.map_nil]
def KH (s : Gs) : Option (List Int × Int) := Option.bind (mh s) fun b1 => cond b1
 (Option.bind (qm s) fun L => Option.bind (bestO Aa L (zM, false)) fun r => cond r.2 (Option.bind (xo r.1) fun n => some (n, 0)) (some ([], 5)))
 (some ([], 2))
theorem Wn (s : Gs) (R : List Int × Int) (h : KH s = some R) : ad Tryz.prog G0 55 [.agg (cGs s)] (.tree (.tup [.sl (aa eI R.1) (List.length R.1) false, .lit (.int .i64 R.2)])) := by
 refine ad.runR mixed Tryz.call55 Tryz.func55 rfl (by simp [Tryz.ntmps55]; kernel_rfl) ?_
 unfold KH at h
 rcases o0 : mh s with _ | b
 ·rw [o0] at h; cases h
 rw [o0, Option.bind_some] at h
 simp only [vz, tyf, seval, ua, rg]
 refine ktA (wH _ _ o0) ?_
 cases b with
 | false =>
  simp only [cond_false, Option.some.injEq] at h
  subst h
  simp only [vz, tyf, seval, ua, rg, Bool.not_false]
  refine bG (x := .tup [.lit (.slice none 0 0), .lit (.int .i64 2)]) (by simp only [Tryz.results55, resV, resL, av, bL, bM, uw, cr, tyf, nm, seval] <;> rfl) ?_
  refine bO (by simp only [tre, ar]; rfl) ?_
  simp only [outV, nrm, seval, List.map_cons, List.map_nil, kd, List.length_nil]
 | true =>
 rw [cond_true] at h
 rcases o2 : qm s with _ | L
 ·rw [o2] at h; cases h
 rw [o2, Option.bind_some] at h
 rcases o6 : bestO Aa L (zM, false) with _ | r
 ·rw [o6] at h; cases h
 rw [o6, Option.bind_some] at h
 obtain ⟨hp, hi⟩ := uW s L o2
 have hbo := RH (bf := 83) (mc := []) hi rfl (better := Aa) (fun a b t ht => Wl a b t ht) r o6
 simp only [vz, tyf, seval, ua, rg, Bool.not_true]
 refine ktA hp ?_
 simp only [vz, tyf, seval, ua, rg]
 refine ktreeP (by simp only [uX, xj, V5]; rfl) hbo ?_
 simp only [vz, tyf, seval, ua, rg]
 obtain ⟨r1, r2⟩ := r
 cases r2 with
 | false =>
  simp only [cond_false, Option.some.injEq] at h
  subst h
  simp only [vz, tyf, seval, nm, ua, rg, Bool.not_false]
  refine bG (x := .tup [.lit (.slice none 0 0), .lit (.int .i64 5)]) (by simp only [Tryz.results55, resV, resL, av, bL, bM, uw, cr, tyf, nm, seval] <;> rfl) ?_
  refine bO (by simp only [tre, ar]; rfl) ?_
  simp only [outV, nrm, seval, List.map_cons, List.map_nil, kd, List.length_nil]
 | true =>
  simp only [cond_true] at h
  rcases o7 : xo r1 with _ | n
  ·rw [o7] at h; cases h
  rw [o7, Option.bind_some, Option.some.injEq] at h
  subst h
  simp only [vz, tyf, seval, nm, ua, rg, Bool.not_true]
  refine ktA (zB _ _ o7) ?_
  simp only [vz, tyf, seval, nm, ua, rg]
  refine bG (x := .tup [.sl (aa eI n) n.length false, .lit (.int .i64 0)]) (by simp only [Tryz.results55, resV, resL, av, bL, bM, uw, cr, tyf, nm, seval] <;> rfl) ?_
  refine bO (by simp only [tre, ar, Bool.and_self]) ?_
  simp only [outV, nrm, seval, List.map_cons, List.map_nil]
def xx (ae : Gs) : List (List Int) → Int → Option (LOut ((List Int) × Bool) (Unit))
 | [], bS => some (.go ())
 | e0 :: p0, bS => Option.bind (tX ae e0) (fun r2 => cond (decide (r2 ≤ ae.Off)) (some (.ret (e0, true))) (xx ae p0 (bS + 1)))
def Ac (ae : Gs) : Option ((List Int) × Bool) := Option.bind (u6 ae) (fun r1 => cond (lenOk r1) (aN (xx ae r1 0) (fun r4 => some r4) (fun c3 => some (([] : List Int), false)) (fun _ _ => none)) none)
theorem Wo (ae : Gs) (R : (List Int) × Bool) (h : Ac ae = some R) : ad Tryz.prog G0 45 [.agg (cGs ae)] (.tree (.tup [.sl (aa eI R.1) (List.length R.1) false, .lit (.bool R.2)])) := by
 refine ad.runR mixed Tryz.call45 Tryz.func45 rfl (by simp [Tryz.ntmps45]; kernel_rfl) ?_
 obtain ⟨KF, h, kF, kN⟩ := dp h
 simp only [Ac] at h
 obtain ⟨r5, o6, h⟩ := optI h kN
 try simp only [hs] at h
 simp only [vz, tyf, nm, seval]
 refine ktA (FP _ _ o6) ?_
 refine aZ (fun tm => tm 1 = .ptr 0 0 ∧ tm 7 = .sl (aa (eSl eI) r5) (List.length r5) false ∧ True) (by refine ⟨?_, ?_, trivial⟩ <;> first | (simp only [ua, nm, seval] <;> rfl) | rfl) ?_
 rintro tm ⟨e7, e8, _⟩
 cases eX : (lenOk r5)
 ·simp only [eX, hs] at h
  exact absurd h kN
 simp only [eX, hs] at h
 simp only [vz, tyf, e7, e8, eX, nm, seval]
 obtain ⟨K9, h, xy, qx, CX, mz⟩ := fp h kN
 obtain ⟨f9, rQ, h⟩ := call2 h
 obtain ⟨I9, fU⟩ : ∃ I : Nat → St → Prop, I = (fun m st => ∃ (p9 : List (List Int)) (bd : Int), m = List.length p9 ∧ 0 ≤ bd ∧ List.drop (Int.toNat bd) r5 = p9 ∧ st.df = [] ∧ 7 ≤ st.nx ∧ st.H 0 = some (.cells (some 28) (cGs ae)) ∧ st.tm 1 = .ptr 0 0 ∧ st.tm 4 = .sl (aa (eSl eI) r5) (List.length r5) false ∧ st.tm 5 = .lit (.int .i64 bd) ∧ K9 (f9 p9 bd)) := ⟨_, rfl⟩
 refine loopK mixed (by kernel_rfl) I9 (List.length r5) (by rw [fU]; refine ⟨r5, 0, rfl, Int.le_refl _, rfl, rfl, (show 7 ≤ 7 by omega), ?_, e7, ?_, ?_, h⟩ <;> first | (simp only [ua, e7, e8, nm, seval] <;> rfl) | rfl) ?_
 rintro m ⟨tm, H, gX, df⟩ hinv
 rw [fU] at hinv
 obtain ⟨p9, bd, rfl, jL, kT, hdf, rR, cY, aW, ba, bj, h⟩ := hinv
 simp only at hdf rR cY aW ba bj
 have cN := fu (m := 7) (b := gX) (by omega)
 subst hdf rQ
 cases p9 with
 | nil =>
  have cC : (decide (bd < (List.length r5 : Int))) = false := jX jL kT
  simp only [xx, hs, reduceCtorEq] at h
  replace h := qx _ h
  try dsimp only at h
  try simp only [hs] at h
  try simp only [vz, tyf, eX, cN, aW, ba, bj, cY, cC, nm, seval]
  refine bG (x := (.tup [.lit (.slice none 0 0), .lit (.bool false)])) (by first | (simp only [Tryz.results45, resV, resL, av, bL, bM, uw, cr, tyf, eX, cN, cY, cC, nm, seval] <;> rfl) | rfl) ?_
  obtain rfl := kF _ h
  refine bO ?_ ?_
  ·simp only [tre, ar, Bool.and_self]
  ·first | (simp only [outV, uw, bT, cr, tyf, nrm, au, eX, cN, aW, ba, bj, cY, cC, nm, seval] <;> rfl) | rfl
 | cons e9 p9 =>
  have cP : (decide (bd < (List.length r5 : Int))) = true := jY jL kT
  have fa := iC jL kT
  have hC := jZ jL kT eX
  simp only [xx, hs, reduceCtorEq] at h
  simp only [vz, tyf, eX, cN, aW, ba, bj, cY, cP, (d5 fa), hC, nm, seval]
  refine mN (fun tm => tm 1 = .ptr 0 0 ∧ tm 4 = .sl (aa (eSl eI) r5) (List.length r5) false ∧ tm 5 = .lit (.int .i64 bd) ∧ True) (by refine ⟨aW, ba, bj, trivial⟩ <;> first | (simp only [ua, cN, aW, ba, bj, cY, cP, hC, nm, seval] <;> rfl) | rfl) ?_
  rintro tm ⟨ck, bz, bK, _⟩
  obtain ⟨kX, qY, h⟩ := optI h mz
  try simp only [hs] at h
  simp only [vz, tyf, eX, cN, cY, cP, (d5 fa), hC, ck, bz, bK, nm, seval]
  refine dktA (Eu _ _ _ qY) ?_
  refine aZ (fun tm => tm 1 = .ptr 0 0 ∧ tm 4 = .sl (aa (eSl eI) r5) (List.length r5) false ∧ tm 5 = .lit (.int .i64 bd) ∧ tm 19 = .lit (.int .i64 kX) ∧ True) (by refine ⟨ck, bz, bK, ?_, trivial⟩ <;> first | (simp only [ua, cN, cY, cP, hC, ck, bz, bK, nm, seval] <;> rfl) | rfl) ?_
  rintro tm ⟨cD, cH, bY, bE, _⟩
  cases en : (decide (kX ≤ ae.Off))
  ·simp only [en, hs] at h
   simp only [vz, tyf, eX, cN, cY, cP, (d5 fa), hC, cD, cH, bY, bE, en, nm, seval]
   exact ⟨List.length p9, Nat.lt_succ_self _, by rw [fU]; refine ⟨p9, bd + 1, rfl, Int.le_trans jL (Int.le_add_one (Int.le_refl _)), fM jL kT, rfl, (show 7 ≤ gX + 16 by omega), ?_, cD, cH, ?_, h⟩ <;> first | (simp only [ua, cN, cY, cP, hC, cD, cH, bY, bE, en, nm, seval] <;> rfl) | rfl⟩
  simp only [en, hs] at h
  try simp only [vz, tyf, eX, cN, cY, cP, (d5 fa), hC, cD, cH, bY, bE, en, nm, seval]
  refine bG (x := (.tup [.sl (aa eI e9) (List.length e9) false, .lit (.bool true)])) (by first | (simp only [Tryz.results45, resV, resL, av, bL, bM, uw, cr, tyf, eX, cN, cY, cP, (d5 fa), hC, en, nm, seval] <;> rfl) | rfl) ?_
  replace h := xy _ h
  try dsimp only at h
  obtain rfl := kF _ h
  refine bO ?_ ?_
  ·simp only [tre, ar, Bool.and_self]
  ·first | (simp only [outV, uw, bT, cr, tyf, nrm, au, eX, cN, cY, cP, (d5 fa), hC, cD, cH, bY, bE, en, nm, seval] <;> rfl) | rfl
def xz (ae : Gs) : List (List Int) → Int → Option (LOut ((List Int) × Bool) (Unit))
 | [], bS => some (.go ())
 | e0 :: p0, bS => Option.bind (Ad ae e0) (fun r2 => cond (r2 != 1) (some (.ret (e0, true))) (xz ae p0 (bS + 1)))
def Ae (ae : Gs) : Option ((List Int) × Bool) := Option.bind (u6 ae) (fun r1 => cond (lenOk r1) (aN (xz ae r1 0) (fun r4 => some r4) (fun c3 => some (([] : List Int), false)) (fun _ _ => none)) none)
theorem Wp (ae : Gs) (R : (List Int) × Bool) (h : Ae ae = some R) : ad Tryz.prog G0 46 [.agg (cGs ae)] (.tree (.tup [.sl (aa eI R.1) (List.length R.1) false, .lit (.bool R.2)])) := by
 refine ad.runR mixed Tryz.call46 Tryz.func46 rfl (by simp [Tryz.ntmps46]; kernel_rfl) ?_
 obtain ⟨KF, h, kF, kN⟩ := dp h
 simp only [Ae] at h
 obtain ⟨r5, o6, h⟩ := optI h kN
 try simp only [hs] at h
 simp only [vz, tyf, nm, seval]
 refine ktA (FP _ _ o6) ?_
 refine aZ (fun tm => tm 1 = .ptr 0 0 ∧ tm 7 = .sl (aa (eSl eI) r5) (List.length r5) false ∧ True) (by refine ⟨?_, ?_, trivial⟩ <;> first | (simp only [ua, nm, seval] <;> rfl) | rfl) ?_
 rintro tm ⟨e7, e8, _⟩
 cases eX : (lenOk r5)
 ·simp only [eX, hs] at h
  exact absurd h kN
 simp only [eX, hs] at h
 simp only [vz, tyf, e7, e8, eX, nm, seval]
 obtain ⟨K9, h, xy, qx, CX, mz⟩ := fp h kN
 obtain ⟨f9, rQ, h⟩ := call2 h
 obtain ⟨I9, fU⟩ : ∃ I : Nat → St → Prop, I = (fun m st => ∃ (p9 : List (List Int)) (bd : Int), m = List.length p9 ∧ 0 ≤ bd ∧ List.drop (Int.toNat bd) r5 = p9 ∧ st.df = [] ∧ 7 ≤ st.nx ∧ st.H 0 = some (.cells (some 28) (cGs ae)) ∧ st.tm 1 = .ptr 0 0 ∧ st.tm 4 = .sl (aa (eSl eI) r5) (List.length r5) false ∧ st.tm 5 = .lit (.int .i64 bd) ∧ K9 (f9 p9 bd)) := ⟨_, rfl⟩
 refine loopK mixed (by kernel_rfl) I9 (List.length r5) (by rw [fU]; refine ⟨r5, 0, rfl, Int.le_refl _, rfl, rfl, (show 7 ≤ 7 by omega), ?_, e7, ?_, ?_, h⟩ <;> first | (simp only [ua, e7, e8, nm, seval] <;> rfl) | rfl) ?_
 rintro m ⟨tm, H, gX, df⟩ hinv
 rw [fU] at hinv
 obtain ⟨p9, bd, rfl, jL, kT, hdf, rR, cY, aW, ba, bj, h⟩ := hinv
 simp only at hdf rR cY aW ba bj
 have cN := fu (m := 7) (b := gX) (by omega)
 subst hdf rQ
 cases p9 with
 | nil =>
  have cC : (decide (bd < (List.length r5 : Int))) = false := jX jL kT
  simp only [xz, hs, reduceCtorEq] at h
  replace h := qx _ h
  try dsimp only at h
  try simp only [hs] at h
  try simp only [vz, tyf, eX, cN, aW, ba, bj, cY, cC, nm, seval]
  refine bG (x := (.tup [.lit (.slice none 0 0), .lit (.bool false)])) (by first | (simp only [Tryz.results46, resV, resL, av, bL, bM, uw, cr, tyf, eX, cN, cY, cC, nm, seval] <;> rfl) | rfl) ?_
  obtain rfl := kF _ h
  refine bO ?_ ?_
  ·simp only [tre, ar, Bool.and_self]
  ·first | (simp only [outV, uw, bT, cr, tyf, nrm, au, eX, cN, aW, ba, bj, cY, cC, nm, seval] <;> rfl) | rfl
 | cons e9 p9 =>
  have cP : (decide (bd < (List.length r5 : Int))) = true := jY jL kT
  have fa := iC jL kT
  have hC := jZ jL kT eX
  simp only [xz, hs, reduceCtorEq] at h
  simp only [vz, tyf, eX, cN, aW, ba, bj, cY, cP, (d5 fa), hC, nm, seval]
  refine mN (fun tm => tm 1 = .ptr 0 0 ∧ tm 4 = .sl (aa (eSl eI) r5) (List.length r5) false ∧ tm 5 = .lit (.int .i64 bd) ∧ True) (by refine ⟨aW, ba, bj, trivial⟩ <;> first | (simp only [ua, cN, aW, ba, bj, cY, cP, hC, nm, seval] <;> rfl) | rfl) ?_
  rintro tm ⟨ck, bz, bK, _⟩
  obtain ⟨kX, qY, h⟩ := optI h mz
  try simp only [hs] at h
  simp only [vz, tyf, eX, cN, cY, cP, (d5 fa), hC, ck, bz, bK, nm, seval]
  refine dktA (Wq _ _ _ qY) ?_
  refine aZ (fun tm => tm 1 = .ptr 0 0 ∧ tm 4 = .sl (aa (eSl eI) r5) (List.length r5) false ∧ tm 5 = .lit (.int .i64 bd) ∧ tm 19 = .lit (.int .i64 kX) ∧ True) (by refine ⟨ck, bz, bK, ?_, trivial⟩ <;> first | (simp only [ua, cN, cY, cP, hC, ck, bz, bK, nm, seval] <;> rfl) | rfl) ?_
  rintro tm ⟨cD, cH, bY, bE, _⟩
  cases en : (kX != 1)
  ·simp only [en, hs] at h
   simp only [vz, tyf, eX, cN, cY, cP, (d5 fa), hC, cD, cH, bY, bE, en, nm, seval]
   exact ⟨List.length p9, Nat.lt_succ_self _, by rw [fU]; refine ⟨p9, bd + 1, rfl, Int.le_trans jL (Int.le_add_one (Int.le_refl _)), fM jL kT, rfl, (show 7 ≤ gX + 14 by omega), ?_, cD, cH, ?_, h⟩ <;> first | (simp only [ua, cN, cY, cP, hC, cD, cH, bY, bE, en, nm, seval] <;> rfl) | rfl⟩
  simp only [en, hs] at h
  try simp only [vz, tyf, eX, cN, cY, cP, (d5 fa), hC, cD, cH, bY, bE, en, nm, seval]
  refine bG (x := (.tup [.sl (aa eI e9) (List.length e9) false, .lit (.bool true)])) (by first | (simp only [Tryz.results46, resV, resL, av, bL, bM, uw, cr, tyf, eX, cN, cY, cP, (d5 fa), hC, en, nm, seval] <;> rfl) | rfl) ?_
  replace h := xy _ h
  try dsimp only at h
  obtain rfl := kF _ h
  refine bO ?_ ?_
  ·simp only [tre, ar, Bool.and_self]
  ·first | (simp only [outV, uw, bT, cr, tyf, nrm, au, eX, cN, cY, cP, (d5 fa), hC, cD, cH, bY, bE, en, nm, seval] <;> rfl) | rfl
def tx (ae : Gs) : List (List Int) → Int → Int → Option (LOut (Int) (Int))
 | [], bS, dt => some (.go dt)
 | e0 :: p0, bS, dt => Option.bind (tX ae e0) (fun r2 => cond (decide (r2 ≤ ae.Off)) (tx ae p0 (bS + 1) (i64.wrap (dt + 1))) (tx ae p0 (bS + 1) dt))
def tz (ae : Gs) : Option (Int) := Option.bind (u6 ae) (fun r1 => cond (lenOk r1) (aN (tx ae r1 0 0) (fun r4 => some r4) (fun c3 => some c3) (fun _ _ => none)) none)
theorem CY (ae : Gs) (R : Int) (h : tz ae = some R) : ad Tryz.prog G0 48 [.agg (cGs ae)] (.tree (.lit (.int .i64 R))) := by
 refine ad.runR mixed Tryz.call48 Tryz.func48 rfl (by simp [Tryz.ntmps48]; kernel_rfl) ?_
 obtain ⟨KF, h, kF, kN⟩ := dp h
 simp only [tz] at h
 obtain ⟨r5, o6, h⟩ := optI h kN
 try simp only [hs] at h
 simp only [vz, tyf, nm, seval]
 refine ktA (FP _ _ o6) ?_
 refine aZ (fun tm => tm 1 = .ptr 0 0 ∧ tm 7 = .sl (aa (eSl eI) r5) (List.length r5) false ∧ True) (by refine ⟨?_, ?_, trivial⟩ <;> first | (simp only [ua, nm, seval] <;> rfl) | rfl) ?_
 rintro tm ⟨e7, e8, _⟩
 cases eX : (lenOk r5)
 ·simp only [eX, hs] at h
  exact absurd h kN
 simp only [eX, hs] at h
 simp only [vz, tyf, e7, e8, eX, nm, seval]
 obtain ⟨K9, h, xy, qx, CX, mz⟩ := fp h kN
 obtain ⟨f9, rQ, h⟩ := call3 h
 obtain ⟨I9, fU⟩ : ∃ I : Nat → St → Prop, I = (fun m st => ∃ (p9 : List (List Int)) (bd : Int) (lp : Int), m = List.length p9 ∧ 0 ≤ bd ∧ List.drop (Int.toNat bd) r5 = p9 ∧ st.df = [] ∧ 7 ≤ st.nx ∧ st.H 0 = some (.cells (some 28) (cGs ae)) ∧ st.tm 1 = .ptr 0 0 ∧ st.tm 3 = .sl (aa (eSl eI) r5) (List.length r5) false ∧ st.tm 4 = .lit (.int .i64 lp) ∧ st.tm 5 = .lit (.int .i64 bd) ∧ K9 (f9 p9 bd lp)) := ⟨_, rfl⟩
 refine loopK mixed (by kernel_rfl) I9 (List.length r5) (by rw [fU]; refine ⟨r5, 0, 0, rfl, Int.le_refl _, rfl, rfl, (show 7 ≤ 7 by omega), ?_, e7, ?_, ?_, ?_, h⟩ <;> first | (simp only [ua, e7, e8, nm, seval] <;> rfl) | rfl) ?_
 rintro m ⟨tm, H, gX, df⟩ hinv
 rw [fU] at hinv
 obtain ⟨p9, bd, lp, rfl, jL, kT, hdf, rR, cY, aW, ba, bj, bQ, h⟩ := hinv
 simp only at hdf rR cY aW ba bj bQ
 have pc := fu (m := 7) (b := gX) (by omega)
 subst hdf rQ
 cases p9 with
 | nil =>
  have cP : (decide (bd < (List.length r5 : Int))) = false := jX jL kT
  simp only [tx, hs, reduceCtorEq] at h
  replace h := qx _ h
  try dsimp only at h
  try simp only [hs] at h
  try simp only [vz, tyf, eX, pc, aW, ba, bj, bQ, cY, cP, nm, seval]
  refine bG (x := (.lit (.int .i64 lp))) (by first | (simp only [Tryz.results48, resV, resL, av, bL, bM, uw, cr, tyf, eX, pc, cY, cP, nm, seval] <;> rfl) | rfl) ?_
  obtain rfl := kF _ h
  refine bO ?_ ?_
  ·simp only [tre, ar, Bool.and_self]
  ·first | (simp only [outV, uw, bT, cr, tyf, nrm, au, eX, pc, aW, ba, bj, bQ, cY, cP, nm, seval] <;> rfl) | rfl
 | cons e9 p9 =>
  have cG : (decide (bd < (List.length r5 : Int))) = true := jY jL kT
  have od := iC jL kT
  have t0 := jZ jL kT eX
  simp only [tx, hs, reduceCtorEq] at h
  simp only [vz, tyf, eX, pc, aW, ba, bj, bQ, cY, cG, (d5 od), t0, nm, seval]
  refine mN (fun tm => tm 1 = .ptr 0 0 ∧ tm 3 = .sl (aa (eSl eI) r5) (List.length r5) false ∧ tm 4 = .lit (.int .i64 lp) ∧ tm 5 = .lit (.int .i64 bd) ∧ True) (by refine ⟨aW, ba, bj, bQ, trivial⟩ <;> first | (simp only [ua, pc, aW, ba, bj, bQ, cY, cG, t0, nm, seval] <;> rfl) | rfl) ?_
  rintro tm ⟨bz, bK, bD, cF, _⟩
  obtain ⟨Sq, Wr, h⟩ := optI h mz
  try simp only [hs] at h
  simp only [vz, tyf, eX, pc, cY, cG, (d5 od), t0, bz, bK, bD, cF, nm, seval]
  refine dktA (Eu _ _ _ Wr) ?_
  refine aZ (fun tm => tm 1 = .ptr 0 0 ∧ tm 3 = .sl (aa (eSl eI) r5) (List.length r5) false ∧ tm 4 = .lit (.int .i64 lp) ∧ tm 5 = .lit (.int .i64 bd) ∧ tm 19 = .lit (.int .i64 Sq) ∧ True) (by refine ⟨bz, bK, bD, cF, ?_, trivial⟩ <;> first | (simp only [ua, pc, cY, cG, t0, bz, bK, bD, cF, nm, seval] <;> rfl) | rfl) ?_
  rintro tm ⟨bY, bE, bA, bN, bZ, _⟩
  cases x6 : (decide (Sq ≤ ae.Off))
  ·simp only [x6, hs] at h
   simp only [vz, tyf, eX, pc, cY, cG, (d5 od), t0, bY, bE, bA, bN, bZ, x6, nm, seval]
   exact ⟨List.length p9, Nat.lt_succ_self _, by rw [fU]; refine ⟨p9, bd + 1, lp, rfl, Int.le_trans jL (Int.le_add_one (Int.le_refl _)), fM jL kT, rfl, (show 7 ≤ gX + 16 by omega), ?_, bY, bE, bA, ?_, h⟩ <;> first | (simp only [ua, pc, cY, cG, t0, bY, bE, bA, bN, bZ, x6, nm, seval] <;> rfl) | rfl⟩
  simp only [x6, hs] at h
  simp only [vz, tyf, eX, pc, cY, cG, (d5 od), t0, bY, bE, bA, bN, bZ, x6, nm, seval]
  exact ⟨List.length p9, Nat.lt_succ_self _, by rw [fU]; refine ⟨p9, bd + 1, i64.wrap (lp + 1), rfl, Int.le_trans jL (Int.le_add_one (Int.le_refl _)), fM jL kT, rfl, (show 7 ≤ gX + 19 by omega), ?_, bY, bE, ?_, ?_, h⟩ <;> first | (simp only [ua, pc, cY, cG, t0, bY, bE, bA, bN, bZ, x6, nm, seval] <;> rfl) | rfl⟩

theorem Sr {β : Type} {f : Int → List β} {B : Nat} : ∀ (k : Nat) (c : Int), (∀ j, c ≤ j → j < c + k → (f j).length ≤ B) → (flatR f k c).length ≤ k * B
 | 0, c, _ => by simp [flatR]
 | k + 1, c, h => by
  have ih := Sr (f := f) (B := B) k (c + 1) (fun j h1 h2 => h j (by omega) (by omega))
  have h0 := h c (Int.le_refl _) (by omega)
  simp only [flatR, List.length_append, Nat.succ_mul]
  omega
theorem CZ {parts : Int} : ∀ (d : Nat) (l : List Int), sumL l ≤ parts → parts - sumL l ≤ 8 → (mixL parts (d + 1) l).length ≤ 9 ^ d
 | 0, l, _, _ => by simp [mixL]
 | d + 1, l, h, h8 => by
  have := Sr (f := fun j => mixL parts (d + 1) (l ++ [j])) (B := 9 ^ d) (parts - sumL l + 1).toNat 0 (fun j h1 h2 => CZ d _ (by rw [nv, mT]; omega) (by rw [nv, mT]; omega))
  rw [mixL]
  refine Nat.le_trans this ?_
  rw [Nat.pow_succ, Nat.mul_comm (9 ^ d)]
  exact Nat.mul_le_mul_right _ (by omega)
theorem vp {parts : Int} : ∀ (d : Nat) (l : List Int), sumL l ≤ parts → neB (mixL parts (d + 1) l) = true
 | 0, l, _ => rfl
 | d + 1, l, h => by
  obtain ⟨k, hk⟩ : ∃ k, (parts - sumL l + 1).toNat = k + 1 := ⟨(parts - sumL l + 1).toNat - 1, by omega⟩
  have ih := vp (parts := parts) d (l ++ [0]) (by rw [nv, mT]; omega)
  rw [mixL, hk, flatR]
  revert ih
  cases mixL parts (d + 1) (l ++ [0]) with
  | nil => intro ih; cases ih
  | cons a x => intro _; rfl
theorem x7 {α : Type} {b : Nat} {l : List α} (hb : b ≤ 1000) (h : l.length ≤ 100000000) : aw b l.length = true := by
 unfold aw
 rw [decide_eq_true_eq]
 exact Nat.le_trans (Nat.mul_le_mul h hb) (by omega)
theorem Ss {rc : Gs → List Int → Int → Option (List (List Int))} {s : Gs} {now : List Int} {parts r1 : Int} {F : Int → List (List Int)} {B : Nat} (hB : B ≤ 1000) (hn : now.length ≤ 1000) (hd : parts - r1 ≤ 8) (Ws : -1000 ≤ parts - r1) : ∀ (k fuel : Nat) (c : Int) (acc : List (List Int)), k < fuel → 0 ≤ c → c + k = parts - r1 + 1 → (∀ j, c ≤ j → j < c + k → rc s (now ++ [j]) parts = some (F j) ∧ neB (F j) = true ∧ (F j).length ≤ B) → acc.length + k * B ≤ 1000000 → nR rc s now parts r1 fuel acc c = some (.go (acc ++ flatR F k c, c + k))
 | 0, fuel + 1, c, acc, _, h0, hc, _, _ => by
  simp only [nR]
  rw [cB (by omega) (by omega), decide_eq_false (by show ¬ c ≤ parts - r1; omega)]
  simp [flatR]
 | k + 1, fuel + 1, c, acc, hf, h0, hc, hr, hl => by
  obtain ⟨e1, e2, e3⟩ := hr c (Int.le_refl _) (by omega)
  rw [Nat.succ_mul] at hl
  have ih := Ss (rc := rc) (s := s) (now := now) (F := F) hB hn hd Ws k fuel (c + 1) (acc ++ F c) (by omega) (by omega) (by omega) (fun j h1 h2 => hr j (by omega) (by omega)) (by simp only [List.length_append]; omega)
  have e6 : i64.wrap (c + 1) = c + 1 := cB (by omega) (by omega)
  have r1' : aw 24 (List.length (acc ++ F c)) = true := x7 (by omega) (by simp only [List.length_append]; omega)
  have r2' : aw 8 (List.length (now ++ [c])) = true := x7 (by omega) (by simp only [List.length_append, List.length_cons, List.length_nil]; omega)
  have r3' : aw 8 (List.length now) = true := x7 (by omega) (by omega)
  have e7 : c + 1 + (k : Int) = c + ((k + 1 : Nat) : Int) := by omega
  simp only [nR, List.nil_append]
  rw [cB (show -9223372036854775808 ≤ parts - r1 by omega) (by omega), decide_eq_true (show c ≤ parts - r1 by omega), e6]
  cases hne : neB now with
  | true =>
   simp only [cond_true, r2', r3', e1, Option.bind_some, e2, r1', ih, e7, flatR, List.append_assoc]
  | false =>
   have : now = [] := by
    cases now with
    | nil => rfl
    | cons a l => cases hne
   subst this
   simp only [List.nil_append] at e1 r2'
   simp only [cond_true, cond_false, r2', e1, Option.bind_some, e2, r1', ih, e7, flatR, List.append_assoc]
 | _, 0, _, _, hf, _, _, _, _ => by omega
theorem Su {s : Gs} (hs : ShOk s) {parts : Int} (hp : 0 ≤ parts ∧ parts ≤ 8) : ∀ (d fuel : Nat) (now : List Int), d < fuel → now.length + (d + 1) = s.Tins.length → (∀ e ∈ now, 0 ≤ e ∧ e ≤ 8) → sumL now ≤ parts → u4 fuel s now parts = some (mixL parts (d + 1) now)
 | d, fuel + 1, now, hf, hn, hb, hsum => by
  have hN := hs.n
  have h0 := mZ hb
  have hw : i64.wrap ((s.Tins.length : Int) - 1) = (s.Tins.length : Int) - 1 := cB (by omega) (by omega)
  have Wt : i64.wrap (parts - sumL now) = parts - sumL now := cB (by omega) (by omega)
  have r3' : aw 8 (List.length now) = true := x7 (by omega) (by omega)
  have r2' : aw 8 (List.length (now ++ [parts - sumL now])) = true := x7 (by omega) (by simp only [List.length_append, List.length_cons, List.length_nil]; omega)
  simp only [u4, C4]
  rw [KI hb (by omega)]
  simp only [Option.bind_some, hw, Wt, List.nil_append]
  cases d with
  | zero =>
   rw [show ((now.length : Int) == (s.Tins.length : Int) - 1) = true by rw [beq_iff_eq]; omega]
   simp only [cond_true, r3', r2', mixL]
   cases hne : neB now with
   | true => rfl
   | false =>
    have : now = [] := by
     cases now with
     | nil => rfl
     | cons a l => cases hne
    subst this
    simp only [List.nil_append] at r2'
    simp only [cond_false, r2', cond_true, List.nil_append]
  | succ d =>
   rw [show ((now.length : Int) == (s.Tins.length : Int) - 1) = false by rw [beq_eq_false_iff_ne]; omega]
   simp only [cond_false]
   have h9 : 9 ^ d ≤ 1000 := by
    have : d ≤ 3 := by omega
    match d, this with
    | 0, _ => omega
    | 1, _ => omega
    | 2, _ => omega
    | 3, _ => omega
   have hL := Ss (rc := u4 fuel) (s := s) (now := now) (parts := parts) (r1 := sumL now) (F := fun j => mixL parts (d + 1) (now ++ [j])) (B := 9 ^ d) h9 (by omega) (by omega) (by omega) (parts - sumL now + 1).toNat 1000000 0 [] (by omega) (Int.le_refl _) (by omega) (fun j h1 h2 => by
    refine ⟨Su hs hp d fuel (now ++ [j]) (by omega) (by simp only [List.length_append, List.length_cons, List.length_nil]; omega) (fun e he => ?_) (by rw [nv, mT]; omega), vp d _ (by rw [nv, mT]; omega), CZ d _ (by rw [nv, mT]; omega) (by rw [nv, mT]; omega)⟩
    rcases List.mem_append.1 he with he | he
    ·exact hb e he
    ·rw [List.mem_singleton] at he
     omega) (by
    have yy : (parts - sumL now + 1).toNat ≤ 9 := by omega
    have := Nat.mul_le_mul yy h9
    simp only [List.length_nil]
    omega)
   rw [hL]
   simp only [aN, List.nil_append, mixL]
 | _, 0, _, hf, _, _, _ => by omega
theorem Af {s : Gs} (hs : ShOk s) : ∀ (k : Nat) (c : Int), 0 ≤ c → c + k ≤ 9 → (allR s.Tins.length k c).length ≤ k * 729
 | 0, c, _, _ => by simp [allR]
 | k + 1, c, h0, h => by
  have ih := Af hs k (c + 1) (by omega) (by omega)
  have hN := hs.n
  obtain ⟨d, hd⟩ : ∃ d, s.Tins.length = d + 1 := ⟨s.Tins.length - 1, by omega⟩
  have h1 := CZ (parts := c) d [] (by simp only [sumL]; omega) (by simp only [sumL]; omega)
  have h9 : 9 ^ d ≤ 729 := by
   have : d ≤ 3 := by omega
   match d, this with
   | 0, _ => omega
   | 1, _ => omega
   | 2, _ => omega
   | 3, _ => omega
  simp only [allR, List.length_append, Nat.succ_mul]
  rw [hd] at ih ⊢
  omega
theorem Ag {s : Gs} (hs : ShOk s) : ∀ (k fuel : Nat) (c : Int) (acc : List (List Int)), k < fuel → 0 ≤ c → c + k = 9 → acc.length + k * 729 ≤ 100000 → rj s fuel acc c = some (.go (acc ++ allR s.Tins.length k c, c + k))
 | 0, fuel + 1, c, acc, _, h0, hc, _ => by
  simp only [rj]
  rw [decide_eq_false (by show ¬ c ≤ 8; omega)]
  simp [allR]
 | k + 1, fuel + 1, c, acc, hf, h0, hc, hl => by
  have hN := hs.n
  obtain ⟨d, hd⟩ : ∃ d, s.Tins.length = d + 1 := ⟨s.Tins.length - 1, by omega⟩
  have h1 := CZ (parts := c) d [] (by simp only [sumL]; omega) (by simp only [sumL]; omega)
  have h9 : 9 ^ d ≤ 729 := by
   have : d ≤ 3 := by omega
   match d, this with
   | 0, _ => omega
   | 1, _ => omega
   | 2, _ => omega
   | 3, _ => omega
  rw [Nat.succ_mul] at hl
  have hlen : (acc ++ mixL c (d + 1) []).length + k * 729 ≤ 100000 := by simp only [List.length_append]; omega
  have ih := Ag hs k fuel (c + 1) (acc ++ mixL c (d + 1) []) (by omega) (by omega) (by omega) hlen
  have e6 : i64.wrap (c + 1) = c + 1 := cB (by omega) (by omega)
  have r1' : aw 24 (List.length (acc ++ mixL c (d + 1) [])) = true := x7 (by omega) (by omega)
  have hr : FO s [] c = some (mixL c (d + 1) []) := Su hs ⟨h0, by omega⟩ d 16 [] (by omega) (by simp only [List.length_nil]; omega) (fun e he => by cases he) (by simp only [sumL]; omega)
  have hne := vp (parts := c) d [] (by simp only [sumL]; omega)
  simp only [rj]
  rw [decide_eq_true (show c ≤ 8 by omega), hr, e6]
  simp only [cond_true, Option.bind_some, hne, r1', ih, allR, hd, List.append_assoc]
  rw [show c + 1 + (k : Int) = c + ((k + 1 : Nat) : Int) by omega]
 | _, 0, _, _, hf, _, _, _ => by omega
theorem vq {s : Gs} (hs : ShOk s) : u6 s = some (allL s) := by
 unfold u6
 rw [Ag hs 8 1000000 1 [] (by omega) (by omega) (by omega) (by simp only [List.length_nil]; omega)]
 simp only [aN, List.nil_append]
 rfl
theorem KJ {s : Gs} (hs : ShOk s) : (allL s).length ≤ 5832 := Af hs 8 1 (by omega) (by omega)
theorem KK {s : Gs} (hs : ShOk s) : lenOk (allL s) = true := by
 have := KJ hs
 unfold lenOk
 rw [decide_eq_true_eq]
 omega
theorem Ah {n : Nat} {q : List Int} : ∀ (k : Nat) (c : Int), q ∈ allR n k c ↔ ∃ j : Int, c ≤ j ∧ j < c + k ∧ q ∈ mixL j n []
 | 0, c => by
  simp only [allR, List.not_mem_nil, false_iff]
  rintro ⟨j, h1, h2, _⟩
  omega
 | k + 1, c => by
  simp only [allR, List.mem_append, Ah k (c + 1)]
  constructor
  ·rintro (h | ⟨j, h1, h2, h3⟩)
   ·exact ⟨c, by omega, by omega, h⟩
   ·exact ⟨j, by omega, by omega, h3⟩
  ·rintro ⟨j, h1, h2, h3⟩
   by_cases e : j = c
   ·subst e; exact .inl h3
   ·exact .inr ⟨j, by omega, by omega, h3⟩
theorem Sv : ∀ {l : List Int}, (∀ e ∈ l, 0 ≤ e) → ∀ e ∈ l, e ≤ sumL l
 | a :: l, h, e, he => by
  have h1 := h a (List.mem_cons_self ..)
  have h2 := FR (l := l) fun x hx => h x (List.mem_cons_of_mem _ hx)
  rw [sumL]
  rcases List.mem_cons.1 he with rfl | he
  ·omega
  ·have := Sv (l := l) (fun x hx => h x (List.mem_cons_of_mem _ hx)) e he
   omega
theorem vr {s : Gs} (hs : ShOk s) {q : List Int} : q ∈ allL s ↔ MixOk s q := by
 have hN := hs.n
 obtain ⟨d, hd⟩ : ∃ d, s.Tins.length = d + 1 := ⟨s.Tins.length - 1, by omega⟩
 unfold allL
 rw [Ah]
 constructor
 ·rintro ⟨j, h1, h2, h3⟩
  rw [hd] at h3
  obtain ⟨t, hq, ht, h4, h5⟩ := (C7 d [] q (by simp only [sumL]; omega)).1 h3
  rw [List.nil_append] at hq
  subst hq
  simp only [sumL] at h5
  refine ⟨by omega, fun e he => ?_, by omega⟩
  have := Sv h4 e he
  have := h4 e he
  omega
 ·intro h
  have h1 := h.n; have h2 := h.b; have h3 := h.s
  refine ⟨sumL q, by omega, by omega, ?_⟩
  rw [hd]
  exact (C7 d [] q (by simp only [sumL]; omega)).2 ⟨q, rfl, by omega, fun e he => (h2 e he).1, by simp only [sumL]; omega⟩

theorem hmix : Tryz.prog.follows .mixedOrders = true := by kernel_rfl
def kA : VV := (VV.agg [(.lit (.int .i64 (.ofNat 60))), (.lit (.int .i64 (.ofNat 40))), (.lit (.int .i64 (.ofNat 20))), (.lit (.int .i64 (.ofNat 1))), (.lit (.int .i64 (.ofNat 2))), (.lit (.int .i64 (.ofNat 1))), (.lit (.int .i64 (.ofNat 1))), (.lit (.int .i64 (.ofNat 0))), (.lit (.int .i64 (.ofNat 0))), (.lit (.int .i64 (.ofNat 5))), (.lit (.int .i64 (.ofNat 5))), (.lit (.int .i64 (.ofNat 5))), (VV.sl [(.lit (.int .i64 (.ofNat 80))), (.lit (.int .i64 (.ofNat 82))), (.lit (.int .i64 (.ofNat 20))), (.lit (.int .i64 (.ofNat 20))), (.lit (.int .i64 (.ofNat 0))), (.lit (.int .i64 (.ofNat 2))), (.lit (.int .i64 (.ofNat 20))), (.lit (.int .i64 (.ofNat 22))), (.lit (.int .i64 (.ofNat 60))), (.lit (.int .i64 (.ofNat 60))), (.lit (.int .i64 (.ofNat 40))), (.lit (.int .i64 (.ofNat 40))), (.lit (.int .i64 (.ofNat 50))), (.lit (.int .i64 (.ofNat 50))), (.lit (.int .i64 (.ofNat 10))), (.lit (.int .i64 (.ofNat 12))), (.lit (.int .i64 (.ofNat 30))), (.lit (.int .i64 (.ofNat 30)))] 3 Bool.false)])
def kB : VV := (VV.agg [(.lit (.int .i64 (.ofNat 60))), (.lit (.int .i64 (.ofNat 40))), (.lit (.int .i64 (.ofNat 20))), (.lit (.int .i64 (.ofNat 1))), (.lit (.int .i64 (.ofNat 2))), (.lit (.int .i64 (.ofNat 1))), (.lit (.int .i64 (.ofNat 1))), (.lit (.int .i64 (.ofNat 0))), (.lit (.int .i64 (.ofNat 0))), (.lit (.int .i64 (.ofNat 5))), (.lit (.int .i64 (.ofNat 5))), (.lit (.int .i64 (.ofNat 5))), (VV.sl [(.lit (.int .i64 (.ofNat 20))), (.lit (.int .i64 (.ofNat 22))), (.lit (.int .i64 (.ofNat 60))), (.lit (.int .i64 (.ofNat 60))), (.lit (.int .i64 (.ofNat 40))), (.lit (.int .i64 (.ofNat 40))), (.lit (.int .i64 (.ofNat 50))), (.lit (.int .i64 (.ofNat 50))), (.lit (.int .i64 (.ofNat 10))), (.lit (.int .i64 (.ofNat 12))), (.lit (.int .i64 (.ofNat 30))), (.lit (.int .i64 (.ofNat 30)))] 2 Bool.false)])
def kD : VV := (VV.agg [(.lit (.int .i64 (.ofNat 60))), (.lit (.int .i64 (.ofNat 40))), (.lit (.int .i64 (.ofNat 20))), (.lit (.int .i64 (.ofNat 1))), (.lit (.int .i64 (.ofNat 2))), (.lit (.int .i64 (.ofNat 1))), (.lit (.int .i64 (.ofNat 1))), (.lit (.int .i64 (.ofNat 0))), (.lit (.int .i64 (.ofNat 0))), (.lit (.int .i64 (.ofNat 2))), (.lit (.int .i64 (.ofNat 9))), (.lit (.int .i64 (.ofNat 5))), (VV.sl [(.lit (.int .i64 (.ofNat 80))), (.lit (.int .i64 (.ofNat 82))), (.lit (.int .i64 (.ofNat 20))), (.lit (.int .i64 (.ofNat 20))), (.lit (.int .i64 (.ofNat 0))), (.lit (.int .i64 (.ofNat 2))), (.lit (.int .i64 (.ofNat 20))), (.lit (.int .i64 (.ofNat 22))), (.lit (.int .i64 (.ofNat 60))), (.lit (.int .i64 (.ofNat 60))), (.lit (.int .i64 (.ofNat 40))), (.lit (.int .i64 (.ofNat 40))), (.lit (.int .i64 (.ofNat 50))), (.lit (.int .i64 (.ofNat 50))), (.lit (.int .i64 (.ofNat 10))), (.lit (.int .i64 (.ofNat 12))), (.lit (.int .i64 (.ofNat 30))), (.lit (.int .i64 (.ofNat 30)))] 3 Bool.false)])
def kAim : VV := (VV.tup [(VV.agg [(.lit (.int .i64 (.ofNat 42))), (.lit (.int .i64 (.ofNat 58))), (.lit (.int .i64 (.ofNat 31))), (.lit (.int .i64 (.ofNat 38))), (.lit (.int .i64 (.ofNat 20))), (.lit (.int .i64 (.ofNat 20)))]), (.lit (.int .i64 (.ofNat 0)))])
def kSums : VV := (VV.tup [(VV.agg [(.lit (.int .i64 (.ofNat 100))), (.lit (.int .i64 (.ofNat 104))), (.lit (.int .i64 (.ofNat 80))), (.lit (.int .i64 (.ofNat 80))), (.lit (.int .i64 (.ofNat 40))), (.lit (.int .i64 (.ofNat 42)))]), (.lit (.int .i64 (.ofNat 0)))])
def kTrue : VV := (VV.tup [(VV.lit (Value.bool Bool.true)), (.lit (.int .i64 (.ofNat 0)))])
def kWord : VV := (VV.tup [(.lit (.int .i64 (.ofNat 2))), (.lit (.int .i64 (.ofNat 0)))])
def kYears : VV := (VV.tup [(VV.agg [(.lit (.int .i64 (.ofNat 2))), (.lit (.int .i64 (.ofNat 5)))]), (.lit (.int .i64 (.ofNat 0)))])
def kRead : VV := (VV.tup [(VV.agg [(.lit (.int .i64 (.ofNat 1))), (.lit (.int .i64 (.ofNat 2))), (.lit (.int .i64 (.ofNat 3))), (.lit (.int .i64 (.ofNat 0))), (.lit (.int .i64 (.ofNat 0))), (.lit (.int .i64 (.ofNat 0))), (.lit (.int .i64 (.ofNat 0))), (.lit (.int .i64 (.ofNat 0))), (.lit (.int .i64 (.ofNat 0))), (.lit (.int .i64 (.ofNat 0))), (.lit (.int .i64 (.ofNat 0))), (.lit (.int .i64 (.ofNat 1))), (VV.sl [(.lit (.int .i64 (.ofNat 1))), (.lit (.int .i64 (.ofNat 1))), (.lit (.int .i64 (.ofNat 2))), (.lit (.int .i64 (.ofNat 2))), (.lit (.int .i64 (.ofNat 3))), (.lit (.int .i64 (.ofNat 3)))] 1 Bool.false)]), (.lit (.int .i64 (.ofNat 0)))])
def kCount : VV := .tup [.lit (.int .i64 9), .lit (.int .i64 0)]
def kNear : VV := .tup [.sl [.lit (.int .i64 1), .lit (.int .i64 1), .lit (.int .i64 0)] 3 false, .lit (.int .i64 5), .lit (.int .i64 0)]
def kNeeds : VV := .tup [.sl [.lit (.int .i64 0), .lit (.int .i64 1)] 2 false, .lit (.int .i64 0)]
def kProof : VV := .tup [.agg [.lit (.int .i64 0), .lit (.int .i64 0), .lit (.int .i64 (-2))], .lit (.int .i64 0)]
def kFirst : VV := .tup [.sl [.lit (.int .i64 1), .lit (.int .i64 1), .lit (.int .i64 0)] 3 false, .lit (.int .i64 0)]
def kMay : VV := .tup [.sl [.lit (.int .i64 1), .lit (.int .i64 1), .lit (.int .i64 0)] 3 false, .lit (.int .i64 0)]
theorem pA : ad Tryz.prog G0 54 [] (.tree kA) := ad.closedB hmix 1000 (by kernel_rfl)
theorem pB : ad Tryz.prog G0 56 [] (.tree kB) := ad.closedB hmix 1000 (by kernel_rfl)
theorem pD : ad Tryz.prog G0 53 [] (.tree kD) := ad.closedB hmix 1000 (by kernel_rfl)
theorem pAim : ad Tryz.prog G0 18 [kD] (.tree kAim) := ad.closedB hmix 1000 (by kernel_rfl)
theorem pSums : ad Tryz.prog G0 19 [kA, .sl [.lit (.int .i64 (1)), .lit (.int .i64 (1)), .lit (.int .i64 (0))] 3 false] (.tree kSums) := ad.closedB hmix 1000 (by kernel_rfl)
theorem pWord : ad Tryz.prog G0 27 [kA, .sl [.lit (.int .i64 (3)), .lit (.int .i64 (2)), .lit (.int .i64 (0))] 3 false] (.tree kWord) := ad.closedB hmix 1000 (by kernel_rfl)
theorem pTrue : ad Tryz.prog G0 24 [kA, .sl [.lit (.int .i64 (1)), .lit (.int .i64 (1)), .lit (.int .i64 (0))] 3 false, .agg [.sl [.lit (.int .i64 80),.lit (.int .i64 20),.lit (.int .i64 0),.lit (.int .i64 20),.lit (.int .i64 60),.lit (.int .i64 40),.lit (.int .i64 50),.lit (.int .i64 10),.lit (.int .i64 30)] 3 false,.lit (.int .i64 5),.lit (.int .i64 2),.lit (.int .i64 1),.lit (.int .i64 0)]] (.tree kTrue) := ad.closedB hmix 1000 (by kernel_rfl)
theorem pYears : ad Tryz.prog G0 28 [kD, .sl [.lit (.int .i64 (1)), .lit (.int .i64 (1)), .lit (.int .i64 (0))] 3 false] (.tree kYears) := ad.closedB hmix 1000 (by kernel_rfl)
theorem pRead : ad Tryz.prog G0 57 [.lit (.string ⟨⟨[98, 111, 97, 114, 100, 32, 49, 32, 50, 32, 51, 32, 48, 32, 48, 32, 49, 10, 102, 97, 100, 101, 32, 48, 32, 48, 32, 48, 32, 48, 32, 48, 32, 48, 10, 116, 105, 110, 32, 49, 32, 49, 32, 50, 32, 50, 32, 51, 32, 51, 10, 101, 110, 100, 32, 49, 54, 52, 10]⟩⟩)] (.tree kRead) := ad.closedB hmix 1000 (by kernel_rfl)
def Da (mW : List Int) (pd : Int) : Option (Bool) := some true
theorem Wu (mW : List Int) (pd : Int) (R : Bool) (h : Da mW pd = some R) : ad Tryz.prog G0 124 [.sl (aa eI mW) (List.length mW) false, .lit (.int .i64 pd)] (.tree (.lit (.bool R))) := by
 refine ad.runR mixed Tryz.call124 Tryz.func124 rfl (by simp [Tryz.ntmps124]; kernel_rfl) ?_
 obtain ⟨KF, h, kF, kN⟩ := dp h
 simp only [Da] at h
 try simp only [vz, tyf, nm, seval]
 obtain rfl := kF _ h
 exact bB Tryz.results124 rfl
abbrev sD (x : Gi) : VV := .agg (cGi x)
def dirL : List (List Int) → Option (List Gi)
 | [] => some []
 | [a, b, c] :: L => Option.bind (dirL L) fun r => some (⟨i64.wrap (a - 2), i64.wrap (b - 2), i64.wrap (c - 2)⟩ :: r)
 | _ => none
def Db : Option (List Gi) := Option.bind (listsO (fun l j => Da l j) 5 3 []) dirL
def itD : VV := .fn (.func 123) [] []
def itDL : VV := .fn (.func 138) [] [.tp [.lit (.int .i64 3)], .tp [.lit (.int .i64 5)], .tp [.fn (.func 124) [] []]]
theorem KL : ad Tryz.prog G0 104 [] (.tree itD) := by
 refine ad.run mixed Tryz.call104 Tryz.func104 rfl (by simp [Tryz.ntmps104]; kernel_rfl) ?_
 simp only [vz, tyf, seval, ua, rg]
 exact ⟨rfl, itD, by simp [Tryz.results104, resV, resL, av, upd]; rfl, 20, rfl⟩
theorem KM {e : List Int} {p : List (List Int)} {r : List Gi} (h : dirL (e :: p) = some r) : ∃ a b c r', e = [a, b, c] ∧ dirL p = some r' ∧ r = ⟨i64.wrap (a - 2), i64.wrap (b - 2), i64.wrap (c - 2)⟩ :: r' := by
 match e, h with
 | [a, b, c], h =>
  simp only [dirL] at h
  rcases hr : dirL p with _ | r'
  ·rw [hr] at h; cases h
  rw [hr, Option.bind_some, Option.some.injEq] at h
  exact ⟨a, b, c, r', rfl, rfl, h.symm⟩
 | [], h => cases h
 | [_], h => cases h
 | [_, _], h => cases h
 | _ :: _ :: _ :: _ :: _, h => cases h
theorem KN (R : List Gi) (h : Db = some R) : Iter Tryz.prog G0 itD (R.map sD) := by
 unfold Db at h
 rcases hL : listsO (fun l j => Da l j) 5 3 [] with _ | L
 ·rw [hL] at h; cases h
 rw [hL, Option.bind_some] at h
 have hit : Iter Tryz.prog G0 itDL (L.map sI) := Sw (ln := 3) (lim := 5) (mc := []) rfl (by omega) (by omega) (by omega) hL (fun p j b hb => Wu p j b hb)
 refine ⟨123, [], [], rfl, fun β I hst hr H nx hβ hI => ?_⟩
 refine aE.run mixed Tryz.call123 Tryz.func123 rfl (by simp [Tryz.ntmps123]; kernel_rfl) ?_
 simp only [List.nil_append, List.cons_append, argsTm1, vz, tyf, seval, ua, rg]
 refine ktree (args0 := [.lit (.int .i64 3), .lit (.int .i64 5), .fn (.func 124) [] []]) (by simp only [nrm, au, z6] <;> rfl) rfl (Ai (mc := []) (mf := 124) rfl) ?_
 simp only [vz, tyf, seval, ua, rg]
 refine sN (fun tm => tm 5 = itDL ∧ tm 1 = .ptr nx 0) (by refine ⟨?_, ?_⟩ <;> simp only [ua, seval, Nat.add_zero] <;> rfl) ?_
 rintro tm ⟨e5, e1⟩
 refine sU hit (by first | (simp only [nN, nO, e5, nh, seval] <;> rfl) | rfl) ?_
 intro LO hLO
 obtain ⟨J, hJ⟩ : ∃ J : Option (List VV) → Option (List VV) → List (Nat × VObj) → Prop, J = (fun o o' hp => match o with
  | some l => ∃ (p : List (List Int)) (L2 : List Gi), l = p.map sI ∧ dirL p = some L2 ∧ o' = some (L2.map sD) ∧ hp = [(nx, .cells (some 162) [.yl β]), (nx + 4, .deferred (some [])), (nx + 5, LO)]
  | none => ∃ LD : Code → VObj, (∃ tml ps az bo d, LD = fun c => VObj.loop .done (some c) tml ps az bo d) ∧ o' = none ∧ hp = [(nx, .cells (some 162) [.yl β]), (nx + 4, .deferred (some [])), (nx + 5, LD .ret)]) := ⟨_, rfl⟩
 have hfr : ∀ (O : VObj) γ, (∃ q ∈ [(nx, .cells (some 162) [.yl β]), (nx + 4, .deferred (some [])), (nx + 5, O)], (q : Nat × VObj).1 = γ) ↔ γ = nx ∨ γ = nx + 4 ∨ γ = nx + 5 := by
  intro O γ
  simp [eq_comm]
 refine ⟨ownI2 I J, FU hst, ?_, ?_, ?_⟩
 ·rintro v rest Fr H1 bl hFr ⟨hp, o', hown, hj, hi⟩
  rw [hJ] at hj
  obtain ⟨p, L2, hl, hf, rfl, rfl⟩ := hj
  cases p with
  | nil => cases hl
  | cons e p =>
  simp only [List.map_cons, List.cons.injEq] at hl
  obtain ⟨rfl, rfl⟩ := hl
  obtain ⟨a, b, c, L3, rfl, xd, rfl⟩ := KM hf
  obtain ⟨la, na, Ha⟩ := hown.head
  obtain ⟨lb, nb, Hb⟩ := hown.tail.head
  obtain ⟨lc, nc, Hc⟩ := hown.tail.tail.head
  simp only [hfr] at hi
  refine sT mixed (psl := [6]) hLO Hc tf rfl (by kernel_rfl) (by kernel_rfl) ?_
  intro LB LD hLB hLD
  refine tg (fun tm => tm 6 = sI [a, b, c] ∧ tm 1 = .ptr nx 0) (by refine ⟨?_, ?_⟩ <;> simp only [th, tk, Tryz.ntmps123, e1, seval]) ?_
  clear e5 e1
  rintro tm ⟨e6, e1⟩
  have i0 : getI [a, b, c] 0 = some a := rfl
  have i1 : getI [a, b, c] 1 = some b := rfl
  have i2 : getI [a, b, c] 2 = some c := rfl
  have hne : (nx = nx + 5) = False := by simp
  simp only [vz, tyf, seval, ua, nm, rg, RStart, e6, e1, Ha, Hc, hne]
  refine sN (fun tm => tm 3 = sI [a, b, c] ∧ tm 1 = .ptr nx 0) (by refine ⟨?_, ?_⟩ <;> simp only [ua, seval, e6, e1]) ?_
  clear e6 e1
  rintro tm ⟨e3, e1⟩
  refine Sx mixed 14 rfl rfl rfl (by kernel_rfl) ?_
  simp only [vz, tyf, seval, ua, nm, rg, e3, e1, Ha, hne, (br i0), (br i1), (br i2)]
  obtain ⟨D, hD⟩ : ∃ D : Gi, D = ⟨i64.wrap (a - 2), i64.wrap (b - 2), i64.wrap (c - 2)⟩ := ⟨_, rfl⟩
  rw [← hD] at hi
  have hDc : sD D = VV.agg [.lit (.int .i64 (i64.wrap (a - 2))), .lit (.int .i64 (i64.wrap (b - 2))), .lit (.int .i64 (i64.wrap (c - 2)))] := by rw [hD]; rfl
  rw [← hDc]
  have KP : I (some (sD D :: L3.map sD)) (fun γ => Fr γ ∨ γ = nx ∨ γ = nx + 4 ∨ γ = nx + 5) (updH H1 (nx + 5) LB) (bl + 17) := by
   refine hst _ _ _ _ _ _ _ hi ?_ (by omega) (fun γ h => .inl h)
   intro γ _ hn
   have g3 : γ ≠ nx + 5 := fun e => hn (.inr (.inr (.inr e)))
   simp only [updH]
   rw [if_neg g3]
  refine (hr (sD D) (L3.map sD) _ _ _ ?_ KP) (some (some (nx + 5))) _ _ _ rfl rfl ?_
  ·rintro γ (hγ | rfl | rfl | rfl)
   ·have := hFr γ hγ; omega
   ·omega
   ·omega
   ·omega
  rintro t H2 gW ⟨q1, q2, q3⟩
  have Ka : H2 nx = some (.cells (some 162) [.yl β]) := by
   rw [q2 nx (.inr (.inl rfl))]
   simp only [updH]
   rw [if_neg (by omega)]
   exact Ha
  have Kb : H2 (nx + 4) = some (.deferred (some [])) := by
   rw [q2 _ (.inr (.inr (.inl rfl)))]
   simp only [updH]
   rw [if_neg (by omega)]
   exact Hb
  have Kc : H2 (nx + 5) = some LB := by
   rw [q2 _ (.inr (.inr (.inr rfl)))]
   simp only [bp, seval]
  have KF : ∀ γ, Fr γ → H2 γ = H1 γ := by
   intro γ hγ
   have g3 : γ ≠ nx + 5 := fun e => nc (e ▸ hγ)
   rw [q2 γ (.inl hγ)]
   simp only [updH]
   rw [if_neg g3]
  have KO : ∀ (O : VObj), Own [(nx, .cells (some 162) [.yl β]), (nx + 4, .deferred (some [])), (nx + 5, O)] Fr (updH H2 (nx + 5) O) gW := by
   intro O
   refine Own.cons (show nx < gW by omega) na ?_ (Own.cons (show nx + 4 < gW by omega) nb ?_ (Own.cons (show nx + 5 < gW by omega) nc ?_ Own.nil))
   ·simp only [updH]
    rw [if_neg (by omega)]
    exact Ka
   ·simp only [updH]
    rw [if_neg (by omega)]
    exact Kb
   ·simp only [bp, seval]
  cases t with
  | true =>
   simp only [vz, tyf, seval, ua, nm, rg, Bool.not_true]
   refine ⟨Kc, (show bl ≤ gW by omega), fun γ hγ => ?_, ?_⟩
   ·have g3 : γ ≠ nx + 5 := fun e => nc (e ▸ hγ)
    simp only [updH]
    rw [if_neg g3]
    exact KF γ hγ
   ·simp only [if_true] at q3 ⊢
    refine ⟨_, _, KO LO, by rw [hJ]; exact ⟨p, L3, rfl, xd, rfl, rfl⟩, ?_⟩
    simp only [hfr]
    refine hst _ _ _ _ _ _ _ q3 ?_ (by omega) (fun γ h => .inl h)
    intro γ _ hn
    have g3 : γ ≠ nx + 5 := fun e => hn (.inr (.inr (.inr e)))
    simp only [updH]
    rw [if_neg g3]
  | false =>
   simp only [vz, tyf, seval, ua, nm, rg, Bool.not_false]
   refine ⟨Kc, (show bl ≤ gW by omega), fun γ hγ => ?_, ?_⟩
   ·have g3 : γ ≠ nx + 5 := fun e => nc (e ▸ hγ)
    simp only [updH]
    rw [if_neg g3]
    exact KF γ hγ
   ·simp only [Bool.false_eq_true, if_false] at q3 ⊢
    refine ⟨_, _, KO (LD .ret), by rw [hJ]; exact ⟨LD, ⟨_, _, _, _, _, hLD⟩, rfl, rfl⟩, ?_⟩
    simp only [hfr]
    refine hst _ _ _ _ _ _ _ q3 ?_ (by omega) (fun γ h => .inl h)
    intro γ _ hn
    have g3 : γ ≠ nx + 5 := fun e => hn (.inr (.inr (.inr e)))
    simp only [updH]
    rw [if_neg g3]
 ·refine ⟨_, _, ?_, by rw [hJ]; exact ⟨L, R, rfl, h, rfl, rfl⟩, ?_⟩
  ·refine Own.cons (show nx < nx + 4 + 2 by omega) (fun h => h) ?_ (Own.cons (show nx + 4 < nx + 4 + 2 by omega) (fun h => h) ?_ (Own.cons (show nx + 5 < nx + 4 + 2 by omega) (fun h => h) ?_ Own.nil))
   ·simp only [updH]
    rw [if_neg (by omega), if_neg (by omega)]
    simp
   ·simp only [updH]
    simp
   ·simp only [updH]
    simp
  ·simp only [hfr]
   refine hst _ _ _ _ _ _ _ hI ?_ (by omega) ?_
   ·intro γ hγ _
    simp only [updH]
    repeat rw [if_neg (by omega)]
   ·rintro γ (h | rfl | rfl | rfl)
    ·exact h.elim
    ·right; omega
    ·right; omega
    ·right; omega
 ·rintro H' nx' (⟨hp, o', hown, hj, hi⟩ | ⟨hp, o', hown, hj, hi⟩)
  ·rw [hJ] at hj
   obtain ⟨p, L2, hl, hf, rfl, rfl⟩ := hj
   cases p with
   | cons e p => cases hl
   | nil =>
   simp only [dirL, Option.some.injEq] at hf
   subst hf
   obtain ⟨la, na, Ha⟩ := hown.head
   obtain ⟨lb, nb, Hb⟩ := hown.tail.head
   obtain ⟨lc, nc, Hc⟩ := hown.tail.tail.head
   simp only [hfr] at hi
   refine rG hLO Hc ?_
   intro LX
   simp only [vz, tyf, seval, ua, nm, rg]
   refine HK (by simp only [bp, nm, seval, Hb]) ?_
   refine ym (x := .tup []) (by simp [Tryz.results123, resV, resL]) (.inl ?_)
   refine hst _ _ _ _ _ _ _ hi ?_ (Nat.le_refl _) (fun γ h => h.elim)
   intro γ _ hn
   have g2 : γ ≠ nx + 4 := fun e => hn (.inr (.inr (.inl e)))
   have g3 : γ ≠ nx + 5 := fun e => hn (.inr (.inr (.inr e)))
   simp only [updH]
   repeat rw [if_neg (by first | assumption | omega)]
  ·rw [hJ] at hj
   obtain ⟨LD, ⟨tml, ps, az, bo, d, hLD⟩, rfl, rfl⟩ := hj
   obtain ⟨la, na, Ha⟩ := hown.head
   obtain ⟨lb, nb, Hb⟩ := hown.tail.head
   obtain ⟨lc, nc, Hc⟩ := hown.tail.tail.head
   simp only [hfr] at hi
   refine xg hLD Hc ?_
   intro LX
   simp only [vz, tyf, seval, ua, nm, rg]
   refine oc (by simp only [bp, nm, seval, Hb]) ?_
   refine bG (x := .tup []) (by simp [Tryz.results123, resV, resL]) (.inr ?_)
   refine hst _ _ _ _ _ _ _ hi ?_ (Nat.le_refl _) (fun γ h => h.elim)
   intro γ _ hn
   have g2 : γ ≠ nx + 4 := fun e => hn (.inr (.inr (.inl e)))
   have g3 : γ ≠ nx + 5 := fun e => hn (.inr (.inr (.inr e)))
   simp only [updH]
   repeat rw [if_neg (by first | assumption | omega)]
def x8 (aL : Gi) (aj : Ga) : Option (GSpan) := some (GSpan.mk (i64.wrap ((i64.wrap ((i64.wrap (0 + (if (i64.wrap (aL.a0 * aj.a0.High)) < (i64.wrap (aL.a0 * aj.a0.Low)) then (i64.wrap (aL.a0 * aj.a0.High)) else (i64.wrap (aL.a0 * aj.a0.Low))))) + (if (i64.wrap (aL.a1 * aj.a1.High)) < (i64.wrap (aL.a1 * aj.a1.Low)) then (i64.wrap (aL.a1 * aj.a1.High)) else (i64.wrap (aL.a1 * aj.a1.Low))))) + (if (i64.wrap (aL.a2 * aj.a2.High)) < (i64.wrap (aL.a2 * aj.a2.Low)) then (i64.wrap (aL.a2 * aj.a2.High)) else (i64.wrap (aL.a2 * aj.a2.Low))))) (i64.wrap ((i64.wrap ((i64.wrap (0 + (if (i64.wrap (aL.a0 * aj.a0.Low)) < (i64.wrap (aL.a0 * aj.a0.High)) then (i64.wrap (aL.a0 * aj.a0.High)) else (i64.wrap (aL.a0 * aj.a0.Low))))) + (if (i64.wrap (aL.a1 * aj.a1.Low)) < (i64.wrap (aL.a1 * aj.a1.High)) then (i64.wrap (aL.a1 * aj.a1.High)) else (i64.wrap (aL.a1 * aj.a1.Low))))) + (if (i64.wrap (aL.a2 * aj.a2.Low)) < (i64.wrap (aL.a2 * aj.a2.High)) then (i64.wrap (aL.a2 * aj.a2.High)) else (i64.wrap (aL.a2 * aj.a2.Low))))))
theorem Sy (aL : Gi) (aj : Ga) (R : GSpan) (h : x8 aL aj = some R) : ad Tryz.prog G0 105 [.agg (cGi aL), .agg (cGa aj)] (.tree (.agg (aK R))) := by
 refine ad.runR mixed Tryz.call105 Tryz.func105 rfl (by simp [Tryz.ntmps105]; kernel_rfl) ?_
 obtain ⟨KF, h, kF, kN⟩ := dp h
 simp only [x8] at h
 simp only [vz, tyf, nm, seval]
 refine qN mixed (by kernel_rfl) 4 ?_
 simp only [vz, tyf, nm, seval]
 refine mN (fun tm => tm 3 = .ptr 1 0 ∧ tm 4 = .ptr 2 0 ∧ tm 5 = .ptr 3 0 ∧ tm 6 = .lit (.int .i64 0) ∧ tm 7 = .lit (.int .i64 aL.a0) ∧ tm 10 = .agg (cGi aL) ∧ tm 11 = .lit (.int .i64 0) ∧ True) (by refine ⟨?_, ?_, ?_, ?_, ?_, ?_, ?_, trivial⟩ <;> first | (simp only [ua, nm, seval] <;> rfl) | rfl) ?_
 rintro tm ⟨e1, e2, e3, e4, e5, e6, e7, _⟩
 simp only [vz, tyf, e1, e2, e3, e4, e5, e6, e7, nm, seval]
 refine mN (fun tm => tm 3 = .ptr 1 0 ∧ tm 4 = .ptr 2 0 ∧ tm 5 = .ptr 3 0 ∧ tm 6 = .lit (.int .i64 1) ∧ tm 7 = .lit (.int .i64 aL.a1) ∧ tm 10 = .agg (cGi aL) ∧ tm 11 = .lit (.int .i64 1) ∧ True) (by refine ⟨e1, e2, e3, ?_, ?_, e6, ?_, trivial⟩ <;> first | (simp only [ua, e1, e2, e3, e4, e5, e6, e7, nm, seval] <;> rfl) | rfl) ?_
 rintro tm ⟨e8, e9, bm, bg, aW, ba, bj, _⟩
 simp only [vz, tyf, e8, e9, bm, bg, aW, ba, bj, nm, seval]
 refine mN (fun tm => tm 3 = .ptr 1 0 ∧ tm 4 = .ptr 2 0 ∧ tm 5 = .ptr 3 0 ∧ tm 6 = .lit (.int .i64 2) ∧ tm 7 = .lit (.int .i64 aL.a2) ∧ tm 10 = .agg (cGi aL) ∧ tm 11 = .lit (.int .i64 2) ∧ True) (by refine ⟨e8, e9, bm, ?_, ?_, ba, ?_, trivial⟩ <;> first | (simp only [ua, e8, e9, bm, bg, aW, ba, bj, nm, seval] <;> rfl) | rfl) ?_
 rintro tm ⟨bQ, bu, bC, cv, dn, ck, bz, _⟩
 try simp only [vz, tyf, bQ, bu, bC, cv, dn, ck, bz, nm, seval]
 refine bG (x := (.agg ([.lit (.int .i64 (i64.wrap ((i64.wrap ((i64.wrap (0 + (if (i64.wrap (aL.a0 * aj.a0.High)) < (i64.wrap (aL.a0 * aj.a0.Low)) then (i64.wrap (aL.a0 * aj.a0.High)) else (i64.wrap (aL.a0 * aj.a0.Low))))) + (if (i64.wrap (aL.a1 * aj.a1.High)) < (i64.wrap (aL.a1 * aj.a1.Low)) then (i64.wrap (aL.a1 * aj.a1.High)) else (i64.wrap (aL.a1 * aj.a1.Low))))) + (if (i64.wrap (aL.a2 * aj.a2.High)) < (i64.wrap (aL.a2 * aj.a2.Low)) then (i64.wrap (aL.a2 * aj.a2.High)) else (i64.wrap (aL.a2 * aj.a2.Low))))))] ++ [.lit (.int .i64 (i64.wrap ((i64.wrap ((i64.wrap (0 + (if (i64.wrap (aL.a0 * aj.a0.Low)) < (i64.wrap (aL.a0 * aj.a0.High)) then (i64.wrap (aL.a0 * aj.a0.High)) else (i64.wrap (aL.a0 * aj.a0.Low))))) + (if (i64.wrap (aL.a1 * aj.a1.Low)) < (i64.wrap (aL.a1 * aj.a1.High)) then (i64.wrap (aL.a1 * aj.a1.High)) else (i64.wrap (aL.a1 * aj.a1.Low))))) + (if (i64.wrap (aL.a2 * aj.a2.Low)) < (i64.wrap (aL.a2 * aj.a2.High)) then (i64.wrap (aL.a2 * aj.a2.High)) else (i64.wrap (aL.a2 * aj.a2.Low))))))]))) (by first | (simp only [Tryz.results105, resV, resL, av, bL, bM, uw, cr, tyf, bQ, bu, bC, cv, dn, ck, bz, nm, seval] <;> rfl) | rfl) ?_
 obtain rfl := kF _ h
 refine bO ?_ ?_
 ·simp only [tre, ar, Bool.and_self]
 ·first | (simp only [outV, uw, bT, cr, tyf, nrm, au, bQ, bu, bC, cv, dn, ck, bz, nm, seval] <;> rfl) | rfl
def Dc (aL : Gi) : Option (Int) := some (i64.wrap ((i64.wrap ((i64.wrap (0 + (if aL.a0 < (i64.wrap (-aL.a0)) then (i64.wrap (-aL.a0)) else aL.a0))) + (if aL.a1 < (i64.wrap (-aL.a1)) then (i64.wrap (-aL.a1)) else aL.a1))) + (if aL.a2 < (i64.wrap (-aL.a2)) then (i64.wrap (-aL.a2)) else aL.a2)))
theorem Wv (aL : Gi) (R : Int) (h : Dc aL = some R) : ad Tryz.prog G0 106 [.agg (cGi aL)] (.tree (.lit (.int .i64 R))) := by
 refine ad.runR mixed Tryz.call106 Tryz.func106 rfl (by simp [Tryz.ntmps106]; kernel_rfl) ?_
 obtain ⟨KF, h, kF, kN⟩ := dp h
 simp only [Dc] at h
 simp only [vz, qr, tyf, nm, seval]
 refine qN mixed (by kernel_rfl) 4 ?_
 try simp only [vz, qr, tyf, nm, seval]
 refine bG (x := (.lit (.int .i64 (i64.wrap ((i64.wrap ((i64.wrap (0 + (if aL.a0 < (i64.wrap (-aL.a0)) then (i64.wrap (-aL.a0)) else aL.a0))) + (if aL.a1 < (i64.wrap (-aL.a1)) then (i64.wrap (-aL.a1)) else aL.a1))) + (if aL.a2 < (i64.wrap (-aL.a2)) then (i64.wrap (-aL.a2)) else aL.a2)))))) (by first | (simp only [Tryz.results106, resV, resL, av, bL, bM, uw, cr, tyf, nm, seval] <;> rfl) | rfl) ?_
 obtain rfl := kF _ h
 refine bO ?_ ?_
 ·simp only [tre, ar, Bool.and_self]
 ·first | (simp only [outV, uw, bT, cr, tyf, nrm, au, nm, seval] <;> rfl) | rfl
end Go.V
end
