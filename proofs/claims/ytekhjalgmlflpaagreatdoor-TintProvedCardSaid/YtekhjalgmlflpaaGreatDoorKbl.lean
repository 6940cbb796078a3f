/- Part of a proof. -/
import Derived.Test.YtekhjalgmlflpaaGreatDoorKbk
set_option linter.all false
set_option maxRecDepth 4000
set_option maxHeartbeats 40000000
section
namespace Go.V
open Go Go.Proofs IntKind
def He (dh : List Int) : List Int → Int → Option (LOut (Int) (Unit))
 | [], bS => some (.go ())
 | e0 :: p0, bS => cond (decide (bS ≥ (List.length dh : Int))) (some (.ret 1)) (Option.bind (getI dh bS) (fun x1 => Option.bind (Gy e0 x1) (fun r2 => cond (r2 != 0) (some (.ret r2)) (He dh p0 (bS + 1)))))
def RO (cg : List Int) (dh : List Int) : Option (Int) := cond (lenOk cg) (aK (He dh cg 0) (fun r4 => some r4) (fun c3 => cond (decide ((List.length cg : Int) < (List.length dh : Int))) (some (-1)) (some 0)) (fun _ _ => none)) none
theorem zie (cg : List Int) (dh : List Int) (R : Int) (h : RO cg dh = some R) : ad Tryz.prog G0 114 [.sl (aa eI cg) (List.length cg) false, .sl (aa eI dh) (List.length dh) false] (.tree (.lit (.int .i64 R))) := by
 refine ad.runR mixed Tryz.call114 Tryz.func114 rfl (by simp [Tryz.ntmps114]; kernel_rfl) ?_
 obtain ⟨KF, h, kF, kN⟩ := cQ h
 simp only [RO] at h
 cases g6 : (lenOk cg)
 ·simp only [g6, hs] at h
  exact absurd h kN
 simp only [g6, hs] at h
 simp only [vz, tyf, g6, nm, seval]
 obtain ⟨K5, h, XF, kG5, kB5, XG⟩ := eO h kN
 obtain ⟨f5, hf5, h⟩ := call2 h
 obtain ⟨I5, RP⟩ : ∃ I : Nat → St → Prop, I = (fun m st => ∃ (p5 : List Int) (gh : Int), m = List.length p5 ∧ 0 ≤ gh ∧ List.drop (Int.toNat gh) cg = p5 ∧ st.df = [] ∧ 4 ≤ st.nx ∧ st.tm 0 = .sl (aa eI cg) (List.length cg) false ∧ st.tm 1 = .sl (aa eI dh) (List.length dh) false ∧ st.tm 9 = .sl (aa eI cg) (List.length cg) false ∧ st.tm 10 = .lit (.int .i64 (List.length cg : Int)) ∧ st.tm 11 = .lit (.int .i64 gh) ∧ K5 (f5 p5 gh)) := ⟨_, rfl⟩
 refine loopK mixed (by kernel_rfl) I5 (List.length cg) (by rw [RP]; refine ⟨cg, 0, rfl, Int.le_refl _, rfl, rfl, (show 4 ≤ 4 by omega), ?_, ?_, ?_, ?_, ?_, h⟩ <;> first | (simp only [ua, nm, seval] <;> rfl) | rfl) ?_
 rintro m ⟨tm, H, XH, df⟩ hinv
 rw [RP] at hinv
 obtain ⟨p5, gh, rfl, Ar, DU, hdf, hn5, e7, e8, e9, aW, aX, h⟩ := hinv
 simp only at hdf hn5 e7 e8 e9 aW aX
 have ic := eN (m := 4) (b := XH) (by omega)
 subst hdf hf5
 cases p5 with
 | nil =>
  have cV : (decide (gh < (List.length cg : Int))) = false := iG Ar DU
  simp only [He, hs, reduceCtorEq] at h
  replace h := kG5 _ h
  try dsimp only at h
  try simp only [hs] at h
  cases bH : (decide ((List.length cg : Int) < (List.length dh : Int)))
  ·simp only [bH, hs] at h
   try simp only [vz, tyf, g6, ic, e7, e8, e9, aW, aX, cV, bH, nm, seval]
   refine bP (x := (.lit (.int .i64 0))) (by first | (simp only [Tryz.results114, resV, resL, ar, bV, bU, uw, cr, tyf, g6, ic, cV, bH, nm, seval] <;> rfl) | rfl) ?_
   obtain rfl := kF _ h
   refine bZ ?_ ?_
   ·simp only [tre, au, Bool.and_self]
   ·first | (simp only [outV, uw, cA, cr, tyf, nrm, av, g6, ic, e7, e8, e9, aW, aX, cV, bH, nm, seval] <;> rfl) | rfl
  simp only [bH, hs] at h
  try simp only [vz, tyf, g6, ic, e7, e8, e9, aW, aX, cV, bH, nm, seval]
  refine bP (x := (.lit (.int .i64 (-1)))) (by first | (simp only [Tryz.results114, resV, resL, ar, bV, bU, uw, cr, tyf, g6, ic, cV, bH, nm, seval] <;> rfl) | rfl) ?_
  obtain rfl := kF _ h
  refine bZ ?_ ?_
  ·simp only [tre, au, Bool.and_self]
  ·first | (simp only [outV, uw, cA, cr, tyf, nrm, av, g6, ic, e7, e8, e9, aW, aX, cV, bH, nm, seval] <;> rfl) | rfl
 | cons e5 p5 =>
  have bu : (decide (gh < (List.length cg : Int))) = true := iH Ar DU
  have jf := fp Ar DU
  have jX := iI Ar DU g6
  simp only [He, hs, reduceCtorEq] at h
  cases cD : (decide (gh ≥ (List.length dh : Int)))
  ·simp only [cD, hs] at h
   obtain ⟨x19, pQ, h⟩ := optI h XG
   try simp only [hs] at h
   obtain ⟨ma, se, h⟩ := optI h XG
   try simp only [hs] at h
   simp only [vz, tyf, g6, ic, e7, e8, e9, aW, aX, bu, (bp jf), jX, cD, (bp pQ), nm, seval]
   refine ktA (Wv _ _ _ se) ?_
   refine aV (fun tm => tm 0 = .sl (aa eI cg) (List.length cg) false ∧ tm 1 = .sl (aa eI dh) (List.length dh) false ∧ tm 9 = .sl (aa eI cg) (List.length cg) false ∧ tm 10 = .lit (.int .i64 (List.length cg : Int)) ∧ tm 11 = .lit (.int .i64 gh) ∧ tm 26 = .lit (.int .i64 ma) ∧ True) (by refine ⟨e7, e8, e9, aW, aX, ?_, trivial⟩ <;> first | (simp only [ua, ic, e7, e8, e9, aW, aX, bu, jX, cD, nm, seval] <;> rfl) | rfl) ?_
   rintro tm ⟨bz, cS, cq, da, cn, bA, _⟩
   cases iB : (ma != 0)
   ·simp only [iB, hs] at h
    simp only [vz, tyf, g6, ic, bu, (bp jf), jX, cD, (bp pQ), bz, cS, cq, da, cn, bA, iB, nm, seval]
    exact ⟨List.length p5, Nat.lt_succ_self _, by rw [RP]; refine ⟨p5, gh + 1, rfl, Int.le_trans Ar (Int.le_add_one (Int.le_refl _)), eE Ar DU, rfl, (show 4 ≤ XH + 23 by omega), bz, cS, cq, da, ?_, h⟩ <;> first | (simp only [ua, ic, bu, jX, cD, bz, cS, cq, da, cn, bA, iB, nm, seval] <;> rfl) | rfl⟩
   simp only [iB, hs] at h
   try simp only [vz, tyf, g6, ic, bu, (bp jf), jX, cD, (bp pQ), bz, cS, cq, da, cn, bA, iB, nm, seval]
   refine bP (x := (.lit (.int .i64 ma))) (by first | (simp only [Tryz.results114, resV, resL, ar, bV, bU, uw, cr, tyf, g6, ic, bu, (bp jf), jX, cD, (bp pQ), iB, nm, seval] <;> rfl) | rfl) ?_
   replace h := XF _ h
   try dsimp only at h
   obtain rfl := kF _ h
   refine bZ ?_ ?_
   ·simp only [tre, au, Bool.and_self]
   ·first | (simp only [outV, uw, cA, cr, tyf, nrm, av, g6, ic, bu, (bp jf), jX, cD, (bp pQ), bz, cS, cq, da, cn, bA, iB, nm, seval] <;> rfl) | rfl
  simp only [cD, hs] at h
  try simp only [vz, tyf, g6, ic, e7, e8, e9, aW, aX, bu, (bp jf), jX, cD, nm, seval]
  refine bP (x := (.lit (.int .i64 1))) (by first | (simp only [Tryz.results114, resV, resL, ar, bV, bU, uw, cr, tyf, g6, ic, bu, (bp jf), jX, cD, nm, seval] <;> rfl) | rfl) ?_
  replace h := XF _ h
  try dsimp only at h
  obtain rfl := kF _ h
  refine bZ ?_ ?_
  ·simp only [tre, au, Bool.and_self]
  ·first | (simp only [outV, uw, cA, cr, tyf, nrm, av, g6, ic, e7, e8, e9, aW, aX, bu, (bp jf), jX, cD, nm, seval] <;> rfl) | rfl
def DV (cN : Gm) (cW : Gm) : Option (Bool) := Option.bind (zL cN) (fun r1 => Option.bind (zL cW) (fun r2 => Option.bind (Gy (List.length r1 : Int) (List.length r2 : Int)) (fun r3 => Option.bind (RO r1 r2) (fun r4 => Option.bind (Po ([r3, r4])) (fun r5 => some (decide (r5 < 0)))))))
theorem zkm (cN : Gm) (cW : Gm) (R : Bool) (h : DV cN cW = some R) : ad Tryz.prog G0 83 [.agg (cGm cN), .agg (cGm cW)] (.tree (.lit (.bool R))) := by
 refine ad.runR mixed Tryz.call83 Tryz.func83 rfl (by simp [Tryz.ntmps83]; kernel_rfl) ?_
 obtain ⟨KF, h, kF, kN⟩ := cQ h
 simp only [DV] at h
 simp only [vz, tyf, nm, seval]
 refine mZ (fun tm => tm 2 = .ptr 0 0 ∧ tm 3 = .ptr 1 0 ∧ True) (by refine ⟨?_, ?_, trivial⟩ <;> first | (simp only [ua, nm, seval] <;> rfl) | rfl) ?_
 rintro tm ⟨e6, e7, _⟩
 obtain ⟨r8, o9, h⟩ := optI h kN
 try simp only [hs] at h
 simp only [vz, tyf, e6, e7, nm, seval]
 refine dktA (CW _ _ o9) ?_
 refine aV (fun tm => tm 2 = .ptr 0 0 ∧ tm 3 = .ptr 1 0 ∧ tm 6 = .sl (aa eI r8) (List.length r8) false ∧ True) (by refine ⟨e6, e7, ?_, trivial⟩ <;> first | (simp only [ua, e6, e7, nm, seval] <;> rfl) | rfl) ?_
 rintro tm ⟨aW, aX, aY, _⟩
 obtain ⟨p8, Hf, h⟩ := optI h kN
 try simp only [hs] at h
 simp only [vz, tyf, aW, aX, aY, nm, seval]
 refine dktA (CW _ _ Hf) ?_
 refine aV (fun tm => tm 2 = .ptr 0 0 ∧ tm 3 = .ptr 1 0 ∧ tm 7 = .lit (.int .i64 (List.length r8 : Int)) ∧ tm 9 = .sl (aa eI p8) (List.length p8) false ∧ True) (by refine ⟨aW, aX, ?_, ?_, trivial⟩ <;> first | (simp only [ua, aW, aX, aY, nm, seval] <;> rfl) | rfl) ?_
 rintro tm ⟨bK, bw, bI, cv, _⟩
 obtain ⟨oU, pQ, h⟩ := optI h kN
 try simp only [hs] at h
 simp only [vz, tyf, bK, bw, bI, cv, nm, seval]
 refine dktA (Wv _ _ _ pQ) ?_
 refine aV (fun tm => tm 2 = .ptr 0 0 ∧ tm 3 = .ptr 1 0 ∧ tm 11 = .lit (.int .i64 oU) ∧ True) (by refine ⟨bK, bw, ?_, trivial⟩ <;> first | (simp only [ua, bK, bw, bI, cv, nm, seval] <;> rfl) | rfl) ?_
 rintro tm ⟨bJ, bR, bz, _⟩
 simp only [vz, tyf, bJ, bR, bz, nm, seval]
 refine dktA (CW _ _ o9) ?_
 refine aV (fun tm => tm 3 = .ptr 1 0 ∧ tm 11 = .lit (.int .i64 oU) ∧ tm 13 = .sl (aa eI r8) (List.length r8) false ∧ True) (by refine ⟨bR, bz, ?_, trivial⟩ <;> first | (simp only [ua, bJ, bR, bz, nm, seval] <;> rfl) | rfl) ?_
 rintro tm ⟨cS, cq, da, _⟩
 simp only [vz, tyf, cS, cq, da, nm, seval]
 refine dktA (CW _ _ Hf) ?_
 refine aV (fun tm => tm 11 = .lit (.int .i64 oU) ∧ tm 13 = .sl (aa eI r8) (List.length r8) false ∧ tm 15 = .sl (aa eI p8) (List.length p8) false ∧ True) (by refine ⟨cq, da, ?_, trivial⟩ <;> first | (simp only [ua, cS, cq, da, nm, seval] <;> rfl) | rfl) ?_
 rintro tm ⟨cn, bA, bW, _⟩
 obtain ⟨tu, RQ, h⟩ := optI h kN
 try simp only [hs] at h
 simp only [vz, tyf, cn, bA, bW, nm, seval]
 refine dktA (zie _ _ _ RQ) ?_
 refine aV (fun tm => tm 11 = .lit (.int .i64 oU) ∧ tm 16 = .lit (.int .i64 tu) ∧ True) (by refine ⟨cn, ?_, trivial⟩ <;> first | (simp only [ua, cn, bA, bW, nm, seval] <;> rfl) | rfl) ?_
 rintro tm ⟨fC, iS, _⟩
 obtain ⟨tY, CD, h⟩ := optI h kN
 try simp only [hs] at h
 simp only [vz, tyf, fC, iS, nm, seval]
 refine dkseen1 (w := 1) (enc := eI) (xs := ([oU, tu])) (el := (some 3)) ⟨eI_ok.tree, eI_ok.norm⟩ (fun _ => rfl) (by simp only [List.length_cons, List.length_nil]; decide) (by simp only [bG, fm, ll, nm, seval] <;> rfl) (zqn _ _ CD) (by first | rfl | simp only [VV.flat, flatL, Bool.and_self]) ?_
 refine aV (fun tm => tm 18 = .lit (.int .i64 tY) ∧ True) (by refine ⟨?_, trivial⟩ <;> first | (simp only [ua, fC, iS, nm, seval] <;> rfl) | rfl) ?_
 rintro tm ⟨eh, _⟩
 simp only [vz, tyf, eh, nm, seval]
 refine jS ⟨?_, ?_⟩
 ·simp only [jT, jU, eA, jV, and_true, true_and]
  repeat' (first | exact trivial | refine And.intro ?_ ?_ | rw [eA] | rw [jW] | exact Or.inl (by decide +kernel) | exact Or.inl (by dsimp only; decide +kernel) | (refine Or.inr ⟨?_, ?_⟩ <;> simp; done) | (refine Or.inr ⟨?_, ?_⟩ <;> simp <;> omega) | (refine Or.inr ⟨?_, ?_⟩ <;> simp [VEff.wr] <;> omega))
 try simp only [vz, tyf, eh, nm, seval]
 obtain rfl := kF _ h
 exact bl Tryz.results83 rfl
theorem ktreeP {P : Program} {G : Glob} {f : FuncId} {args : List VV} {x : VV} {d : Option Tmp} {γ : Nat} {tm : Nat → VV} {H : Nat → Option VObj} {nx : Nat} {df : List VDef} {K : St → Prop} {Qp : VV → St → Prop} (ht : treeL args = true) (hp : ad P G f args (.tree x)) (h : fin d γ tm H nx df K x .none) : callK P G f args ⟨tm, H, nx, df⟩ d γ K Qp := by
 refine .inl ⟨ht, .tree x, hp, ?_⟩
 rw [← jM (K := K), jN] at h
 exact h
def RT (s : Gs) : Option (List Int × Int × Int) := Option.bind (my s) fun b1 => cond b1
 (Option.bind (CM s) fun L => Option.bind (bestO CV L (zM, false)) fun r => Option.bind (zK r.1) fun n => some (r.1.mix, n, 0))
 (some ([], 0, 2))
theorem ztd (s : Gs) (R : List Int × Int × Int) (h : RT s = some R) : ad Tryz.prog G0 50 [.agg (cGs s)] (.tree (.tup [.sl (aa eI R.1) (List.length R.1) false, .lit (.int .i64 R.2.1), .lit (.int .i64 R.2.2)])) := by
 refine ad.runR mixed Tryz.call50 Tryz.func50 rfl (by simp [Tryz.ntmps50]; kernel_rfl) ?_
 unfold RT at h
 rcases o0 : my s with _ | b
 ·rw [o0] at h; cases h
 rw [o0, Option.bind_some] at h
 simp only [vz, tyf, seval, ua, rg]
 refine ktA (wA _ _ o0) ?_
 cases b with
 | false =>
  simp only [cond_false, Option.some.injEq] at h
  subst h
  simp only [vz, tyf, seval, ua, rg, Bool.not_false]
  refine bP (x := .tup [.lit (.slice none 0 0), .lit (.int .i64 0), .lit (.int .i64 2)]) (by simp only [Tryz.results50, resV, resL, ar, bV, bU, uw, cr, tyf, nm, seval] <;> rfl) ?_
  refine bZ (by simp only [tre, au]; rfl) ?_
  simp only [outV, nrm, seval, List.map_cons, List.map_nil, lk, List.length_nil]
 | true =>
 rw [cond_true] at h
 rcases o2 : CM s with _ | L
 ·rw [o2] at h; cases h
 rw [o2, Option.bind_some] at h
 rcases o6 : bestO CV L (zM, false) with _ | r
 ·rw [o6] at h; cases h
 rw [o6, Option.bind_some] at h
 rcases o7 : zK r.1 with _ | n
 ·rw [o7] at h; cases h
 rw [o7, Option.bind_some, Option.some.injEq] at h
 have hbo := Wt (bf := 80) (mc := []) (Wr s L o2) rfl (better := CV) (fun a b t ht => zpx a b t ht) r o6
 simp only [vz, tyf, seval, ua, rg, Bool.not_true]
 refine ktA (Wo s) ?_
 simp only [vz, tyf, seval, ua, rg]
 refine ktreeP (by simp only [zn, Br, CN]; rfl) hbo ?_
 simp only [vz, tyf, seval, ua, rg]
 refine fu (fun tm => tm 5 = .ptr 13 0) (by simp only [ua, seval]) ?_
 intro tm e5
 simp only [vz, tyf, seval, ua, rg, e5]
 refine dktA (Pm _ _ o7) ?_
 simp only [vz, tyf, seval, ua, rg, e5]
 subst h
 refine bP (x := .tup [.sl (aa eI r.1.mix) r.1.mix.length false, .lit (.int .i64 n), .lit (.int .i64 0)]) (by simp only [Tryz.results50, resV, resL, ar, bV, bU, uw, cr, tyf, nm, seval] <;> rfl) ?_
 refine bZ (by simp only [tre, au, Bool.and_self]) ?_
 simp only [outV, nrm, seval, List.map_cons, List.map_nil]
def RU (s : Gs) : Option (List Int × Int) := Option.bind (my s) fun b1 => cond b1
 (Option.bind (ud s) fun L => Option.bind (bestO DV L (zM, false)) fun r => cond r.2 (Option.bind (zL r.1) fun n => some (n, 0)) (some ([], 5)))
 (some ([], 2))
theorem zql (s : Gs) (R : List Int × Int) (h : RU s = some R) : ad Tryz.prog G0 55 [.agg (cGs s)] (.tree (.tup [.sl (aa eI R.1) (List.length R.1) false, .lit (.int .i64 R.2)])) := by
 refine ad.runR mixed Tryz.call55 Tryz.func55 rfl (by simp [Tryz.ntmps55]; kernel_rfl) ?_
 unfold RU at h
 rcases o0 : my s with _ | b
 ·rw [o0] at h; cases h
 rw [o0, Option.bind_some] at h
 simp only [vz, tyf, seval, ua, rg]
 refine ktA (wA _ _ o0) ?_
 cases b with
 | false =>
  simp only [cond_false, Option.some.injEq] at h
  subst h
  simp only [vz, tyf, seval, ua, rg, Bool.not_false]
  refine bP (x := .tup [.lit (.slice none 0 0), .lit (.int .i64 2)]) (by simp only [Tryz.results55, resV, resL, ar, bV, bU, uw, cr, tyf, nm, seval] <;> rfl) ?_
  refine bZ (by simp only [tre, au]; rfl) ?_
  simp only [outV, nrm, seval, List.map_cons, List.map_nil, lk, List.length_nil]
 | true =>
 rw [cond_true] at h
 rcases o2 : ud s with _ | L
 ·rw [o2] at h; cases h
 rw [o2, Option.bind_some] at h
 rcases o6 : bestO DV L (zM, false) with _ | r
 ·rw [o6] at h; cases h
 rw [o6, Option.bind_some] at h
 obtain ⟨hp, hi⟩ := w8 s L o2
 have hbo := Wt (bf := 83) (mc := []) hi rfl (better := DV) (fun a b t ht => zkm a b t ht) r o6
 simp only [vz, tyf, seval, ua, rg, Bool.not_true]
 refine ktA hp ?_
 simp only [vz, tyf, seval, ua, rg]
 refine ktreeP (by simp only [zn, Br, zuk]; rfl) hbo ?_
 simp only [vz, tyf, seval, ua, rg]
 obtain ⟨r1, r2⟩ := r
 cases r2 with
 | false =>
  simp only [cond_false, Option.some.injEq] at h
  subst h
  simp only [vz, tyf, seval, nm, ua, rg, Bool.not_false]
  refine bP (x := .tup [.lit (.slice none 0 0), .lit (.int .i64 5)]) (by simp only [Tryz.results55, resV, resL, ar, bV, bU, uw, cr, tyf, nm, seval] <;> rfl) ?_
  refine bZ (by simp only [tre, au]; rfl) ?_
  simp only [outV, nrm, seval, List.map_cons, List.map_nil, lk, List.length_nil]
 | true =>
  simp only [cond_true] at h
  rcases o7 : zL r1 with _ | n
  ·rw [o7] at h; cases h
  rw [o7, Option.bind_some, Option.some.injEq] at h
  subst h
  simp only [vz, tyf, seval, nm, ua, rg, Bool.not_true]
  refine ktA (CW _ _ o7) ?_
  simp only [vz, tyf, seval, nm, ua, rg]
  refine bP (x := .tup [.sl (aa eI n) n.length false, .lit (.int .i64 0)]) (by simp only [Tryz.results55, resV, resL, ar, bV, bU, uw, cr, tyf, nm, seval] <;> rfl) ?_
  refine bZ (by simp only [tre, au, Bool.and_self]) ?_
  simp only [outV, nrm, seval, List.map_cons, List.map_nil]






theorem hmix : Tryz.prog.follows .mixedOrders = true := by kernel_rfl
def kA : VV := (VV.agg [(.lit (.int .i64 (.ofNat 60))), (.lit (.int .i64 (.ofNat 40))), (.lit (.int .i64 (.ofNat 20))), (.lit (.int .i64 (.ofNat 1))), (.lit (.int .i64 (.ofNat 2))), (.lit (.int .i64 (.ofNat 1))), (.lit (.int .i64 (.ofNat 1))), (.lit (.int .i64 (.ofNat 0))), (.lit (.int .i64 (.ofNat 0))), (.lit (.int .i64 (.ofNat 5))), (.lit (.int .i64 (.ofNat 5))), (.lit (.int .i64 (.ofNat 5))), (VV.sl [(.lit (.int .i64 (.ofNat 80))), (.lit (.int .i64 (.ofNat 82))), (.lit (.int .i64 (.ofNat 20))), (.lit (.int .i64 (.ofNat 20))), (.lit (.int .i64 (.ofNat 0))), (.lit (.int .i64 (.ofNat 2))), (.lit (.int .i64 (.ofNat 20))), (.lit (.int .i64 (.ofNat 22))), (.lit (.int .i64 (.ofNat 60))), (.lit (.int .i64 (.ofNat 60))), (.lit (.int .i64 (.ofNat 40))), (.lit (.int .i64 (.ofNat 40))), (.lit (.int .i64 (.ofNat 50))), (.lit (.int .i64 (.ofNat 50))), (.lit (.int .i64 (.ofNat 10))), (.lit (.int .i64 (.ofNat 12))), (.lit (.int .i64 (.ofNat 30))), (.lit (.int .i64 (.ofNat 30)))] 3 Bool.false)])
def kB : VV := (VV.agg [(.lit (.int .i64 (.ofNat 60))), (.lit (.int .i64 (.ofNat 40))), (.lit (.int .i64 (.ofNat 20))), (.lit (.int .i64 (.ofNat 1))), (.lit (.int .i64 (.ofNat 2))), (.lit (.int .i64 (.ofNat 1))), (.lit (.int .i64 (.ofNat 1))), (.lit (.int .i64 (.ofNat 0))), (.lit (.int .i64 (.ofNat 0))), (.lit (.int .i64 (.ofNat 5))), (.lit (.int .i64 (.ofNat 5))), (.lit (.int .i64 (.ofNat 5))), (VV.sl [(.lit (.int .i64 (.ofNat 20))), (.lit (.int .i64 (.ofNat 22))), (.lit (.int .i64 (.ofNat 60))), (.lit (.int .i64 (.ofNat 60))), (.lit (.int .i64 (.ofNat 40))), (.lit (.int .i64 (.ofNat 40))), (.lit (.int .i64 (.ofNat 50))), (.lit (.int .i64 (.ofNat 50))), (.lit (.int .i64 (.ofNat 10))), (.lit (.int .i64 (.ofNat 12))), (.lit (.int .i64 (.ofNat 30))), (.lit (.int .i64 (.ofNat 30)))] 2 Bool.false)])
def kD : VV := (VV.agg [(.lit (.int .i64 (.ofNat 60))), (.lit (.int .i64 (.ofNat 40))), (.lit (.int .i64 (.ofNat 20))), (.lit (.int .i64 (.ofNat 1))), (.lit (.int .i64 (.ofNat 2))), (.lit (.int .i64 (.ofNat 1))), (.lit (.int .i64 (.ofNat 1))), (.lit (.int .i64 (.ofNat 0))), (.lit (.int .i64 (.ofNat 0))), (.lit (.int .i64 (.ofNat 2))), (.lit (.int .i64 (.ofNat 9))), (.lit (.int .i64 (.ofNat 5))), (VV.sl [(.lit (.int .i64 (.ofNat 80))), (.lit (.int .i64 (.ofNat 82))), (.lit (.int .i64 (.ofNat 20))), (.lit (.int .i64 (.ofNat 20))), (.lit (.int .i64 (.ofNat 0))), (.lit (.int .i64 (.ofNat 2))), (.lit (.int .i64 (.ofNat 20))), (.lit (.int .i64 (.ofNat 22))), (.lit (.int .i64 (.ofNat 60))), (.lit (.int .i64 (.ofNat 60))), (.lit (.int .i64 (.ofNat 40))), (.lit (.int .i64 (.ofNat 40))), (.lit (.int .i64 (.ofNat 50))), (.lit (.int .i64 (.ofNat 50))), (.lit (.int .i64 (.ofNat 10))), (.lit (.int .i64 (.ofNat 12))), (.lit (.int .i64 (.ofNat 30))), (.lit (.int .i64 (.ofNat 30)))] 3 Bool.false)])
def kAim : VV := (VV.tup [(VV.agg [(.lit (.int .i64 (.ofNat 42))), (.lit (.int .i64 (.ofNat 58))), (.lit (.int .i64 (.ofNat 31))), (.lit (.int .i64 (.ofNat 38))), (.lit (.int .i64 (.ofNat 20))), (.lit (.int .i64 (.ofNat 20)))]), (.lit (.int .i64 (.ofNat 0)))])
def kSums : VV := (VV.tup [(VV.agg [(.lit (.int .i64 (.ofNat 100))), (.lit (.int .i64 (.ofNat 104))), (.lit (.int .i64 (.ofNat 80))), (.lit (.int .i64 (.ofNat 80))), (.lit (.int .i64 (.ofNat 40))), (.lit (.int .i64 (.ofNat 42)))]), (.lit (.int .i64 (.ofNat 0)))])
def kTrue : VV := (VV.tup [(VV.lit (Value.bool Bool.true)), (.lit (.int .i64 (.ofNat 0)))])
def kWord : VV := (VV.tup [(.lit (.int .i64 (.ofNat 2))), (.lit (.int .i64 (.ofNat 0)))])
def kYears : VV := (VV.tup [(VV.agg [(.lit (.int .i64 (.ofNat 2))), (.lit (.int .i64 (.ofNat 5)))]), (.lit (.int .i64 (.ofNat 0)))])
def kRead : VV := (VV.tup [(VV.agg [(.lit (.int .i64 (.ofNat 1))), (.lit (.int .i64 (.ofNat 2))), (.lit (.int .i64 (.ofNat 3))), (.lit (.int .i64 (.ofNat 0))), (.lit (.int .i64 (.ofNat 0))), (.lit (.int .i64 (.ofNat 0))), (.lit (.int .i64 (.ofNat 0))), (.lit (.int .i64 (.ofNat 0))), (.lit (.int .i64 (.ofNat 0))), (.lit (.int .i64 (.ofNat 0))), (.lit (.int .i64 (.ofNat 0))), (.lit (.int .i64 (.ofNat 1))), (VV.sl [(.lit (.int .i64 (.ofNat 1))), (.lit (.int .i64 (.ofNat 1))), (.lit (.int .i64 (.ofNat 2))), (.lit (.int .i64 (.ofNat 2))), (.lit (.int .i64 (.ofNat 3))), (.lit (.int .i64 (.ofNat 3)))] 1 Bool.false)]), (.lit (.int .i64 (.ofNat 0)))])
def kCount : VV := .tup [.lit (.int .i64 9), .lit (.int .i64 0)]
def kNear : VV := .tup [.sl [.lit (.int .i64 1), .lit (.int .i64 1), .lit (.int .i64 0)] 3 false, .lit (.int .i64 5), .lit (.int .i64 0)]
def kNeeds : VV := .tup [.sl [.lit (.int .i64 0), .lit (.int .i64 1)] 2 false, .lit (.int .i64 0)]
def kProof : VV := .tup [.agg [.lit (.int .i64 0), .lit (.int .i64 0), .lit (.int .i64 (-2))], .lit (.int .i64 0)]
def kFirst : VV := .tup [.sl [.lit (.int .i64 1), .lit (.int .i64 1), .lit (.int .i64 0)] 3 false, .lit (.int .i64 0)]
def kMay : VV := .tup [.sl [.lit (.int .i64 1), .lit (.int .i64 1), .lit (.int .i64 0)] 3 false, .lit (.int .i64 0)]
theorem pA : ad Tryz.prog G0 54 [] (.tree kA) := ad.closedB hmix 1000 (by kernel_rfl)
theorem pB : ad Tryz.prog G0 56 [] (.tree kB) := ad.closedB hmix 1000 (by kernel_rfl)
theorem pD : ad Tryz.prog G0 53 [] (.tree kD) := ad.closedB hmix 1000 (by kernel_rfl)
theorem pAim : ad Tryz.prog G0 18 [kD] (.tree kAim) := ad.closedB hmix 1000 (by kernel_rfl)
theorem pSums : ad Tryz.prog G0 19 [kA, .sl [.lit (.int .i64 (1)), .lit (.int .i64 (1)), .lit (.int .i64 (0))] 3 false] (.tree kSums) := ad.closedB hmix 1000 (by kernel_rfl)
theorem pWord : ad Tryz.prog G0 27 [kA, .sl [.lit (.int .i64 (3)), .lit (.int .i64 (2)), .lit (.int .i64 (0))] 3 false] (.tree kWord) := ad.closedB hmix 1000 (by kernel_rfl)
theorem pTrue : ad Tryz.prog G0 24 [kA, .sl [.lit (.int .i64 (1)), .lit (.int .i64 (1)), .lit (.int .i64 (0))] 3 false, .agg [.sl [.lit (.int .i64 80),.lit (.int .i64 20),.lit (.int .i64 0),.lit (.int .i64 20),.lit (.int .i64 60),.lit (.int .i64 40),.lit (.int .i64 50),.lit (.int .i64 10),.lit (.int .i64 30)] 3 false,.lit (.int .i64 5),.lit (.int .i64 2),.lit (.int .i64 1),.lit (.int .i64 0)]] (.tree kTrue) := ad.closedB hmix 1000 (by kernel_rfl)
theorem pYears : ad Tryz.prog G0 28 [kD, .sl [.lit (.int .i64 (1)), .lit (.int .i64 (1)), .lit (.int .i64 (0))] 3 false] (.tree kYears) := ad.closedB hmix 1000 (by kernel_rfl)
theorem pRead : ad Tryz.prog G0 57 [.lit (.string ⟨⟨[98, 111, 97, 114, 100, 32, 49, 32, 50, 32, 51, 32, 48, 32, 48, 32, 49, 10, 102, 97, 100, 101, 32, 48, 32, 48, 32, 48, 32, 48, 32, 48, 32, 48, 10, 116, 105, 110, 32, 49, 32, 49, 32, 50, 32, 50, 32, 51, 32, 51, 10, 101, 110, 100, 32, 49, 54, 52, 10]⟩⟩)] (.tree kRead) := ad.closedB hmix 1000 (by kernel_rfl)
def Hg (nj : List Int) (ai : Int) : Option (Bool) := some true
theorem zji (nj : List Int) (ai : Int) (R : Bool) (h : Hg nj ai = some R) : ad Tryz.prog G0 124 [.sl (aa eI nj) (List.length nj) false, .lit (.int .i64 ai)] (.tree (.lit (.bool R))) := by
 refine ad.runR mixed Tryz.call124 Tryz.func124 rfl (by simp [Tryz.ntmps124]; kernel_rfl) ?_
 obtain ⟨KF, h, kF, kN⟩ := cQ h
 simp only [Hg] at h
 try simp only [vz, tyf, nm, seval]
 obtain rfl := kF _ h
 exact bl Tryz.results124 rfl
abbrev sD (x : Gi) : VV := .agg (cGi x)
def dirL : List (List Int) → Option (List Gi)
 | [] => some []
 | [a, b, c] :: L => Option.bind (dirL L) fun r => some (⟨i64.wrap (a - 2), i64.wrap (b - 2), i64.wrap (c - 2)⟩ :: r)
 | _ => none
def DG : Option (List Gi) := Option.bind (listsO (fun l j => Hg l j) 5 3 []) dirL
def itD : VV := .fn (.func 123) [] []
def itDL : VV := .fn (.func 138) [] [.tp [.lit (.int .i64 3)], .tp [.lit (.int .i64 5)], .tp [.fn (.func 124) [] []]]
theorem RV : ad Tryz.prog G0 104 [] (.tree itD) := by
 refine ad.run mixed Tryz.call104 Tryz.func104 rfl (by simp [Tryz.ntmps104]; kernel_rfl) ?_
 simp only [vz, tyf, seval, ua, rg]
 exact ⟨rfl, itD, by simp [Tryz.results104, resV, resL, ar, upd]; rfl, 20, rfl⟩
theorem RW {e : List Int} {p : List (List Int)} {r : List Gi} (h : dirL (e :: p) = some r) : ∃ a b c r', e = [a, b, c] ∧ dirL p = some r' ∧ r = ⟨i64.wrap (a - 2), i64.wrap (b - 2), i64.wrap (c - 2)⟩ :: r' := by
 match e, h with
 | [a, b, c], h =>
  simp only [dirL] at h
  rcases hr : dirL p with _ | r'
  ·rw [hr] at h; cases h
  rw [hr, Option.bind_some, Option.some.injEq] at h
  exact ⟨a, b, c, r', rfl, rfl, h.symm⟩
 | [], h => cases h
 | [_], h => cases h
 | [_, _], h => cases h
 | _ :: _ :: _ :: _ :: _, h => cases h
theorem RX (R : List Gi) (h : DG = some R) : Iter Tryz.prog G0 itD (R.map sD) := by
 unfold DG at h
 rcases hL : listsO (fun l j => Hg l j) 5 3 [] with _ | L
 ·rw [hL] at h; cases h
 rw [hL, Option.bind_some] at h
 have hit : Iter Tryz.prog G0 itDL (L.map sI) := Xd (ln := 3) (lim := 5) (mc := []) rfl (by omega) (by omega) (by omega) hL (fun p j b hb => zji p j b hb)
 refine ⟨123, [], [], rfl, fun β I hst hr H nx hβ hI => ?_⟩
 refine aB.run mixed Tryz.call123 Tryz.func123 rfl (by simp [Tryz.ntmps123]; kernel_rfl) ?_
 simp only [List.nil_append, List.cons_append, argsTm1, vz, tyf, seval, ua, rg]
 refine ktree (args0 := [.lit (.int .i64 3), .lit (.int .i64 5), .fn (.func 124) [] []]) (by simp only [nrm, av, Bl] <;> rfl) rfl (D3 (mc := []) (mf := 124) rfl) ?_
 simp only [vz, tyf, seval, ua, rg]
 refine zk (fun tm => tm 5 = itDL ∧ tm 1 = .ptr nx 0) (by refine ⟨?_, ?_⟩ <;> simp only [ua, seval, Nat.add_zero] <;> rfl) ?_
 rintro tm ⟨e5, e1⟩
 refine wh hit (by first | (simp only [nu, nw, e5, mQ, seval] <;> rfl) | rfl) ?_
 intro LO hLO
 obtain ⟨J, hJ⟩ : ∃ J : Option (List VV) → Option (List VV) → List (Nat × VObj) → Prop, J = (fun o o' hp => match o with
  | some l => ∃ (p : List (List Int)) (L2 : List Gi), l = p.map sI ∧ dirL p = some L2 ∧ o' = some (L2.map sD) ∧ hp = [(nx, .cells (some 162) [.yl β]), (nx + 4, .deferred (some [])), (nx + 5, LO)]
  | none => ∃ LD : Code → VObj, (∃ tml ps az bo d, LD = fun c => VObj.loop .done (some c) tml ps az bo d) ∧ o' = none ∧ hp = [(nx, .cells (some 162) [.yl β]), (nx + 4, .deferred (some [])), (nx + 5, LD .ret)]) := ⟨_, rfl⟩
 have hfr : ∀ (O : VObj) γ, (∃ q ∈ [(nx, .cells (some 162) [.yl β]), (nx + 4, .deferred (some [])), (nx + 5, O)], (q : Nat × VObj).1 = γ) ↔ γ = nx ∨ γ = nx + 4 ∨ γ = nx + 5 := by
  intro O γ
  simp [eq_comm]
 refine ⟨ownI2 I J, Ol hst, ?_, ?_, ?_⟩
 ·rintro v rest Fr H1 bc hFr ⟨hp, o', hown, hj, hi⟩
  rw [hJ] at hj
  obtain ⟨p, L2, hl, hf, rfl, rfl⟩ := hj
  cases p with
  | nil => cases hl
  | cons e p =>
  simp only [List.map_cons, List.cons.injEq] at hl
  obtain ⟨rfl, rfl⟩ := hl
  obtain ⟨a, b, c, L3, rfl, w5, rfl⟩ := RW hf
  obtain ⟨la, na, Ha⟩ := hown.head
  obtain ⟨lb, nb, Hb⟩ := hown.tail.head
  obtain ⟨lc, nc, Hc⟩ := hown.tail.tail.head
  simp only [hfr] at hi
  refine wg mixed (psl := [6]) hLO Hc wz rfl (by kernel_rfl) (by kernel_rfl) ?_
  intro LB LD hLB hLD
  refine w1 (fun tm => tm 6 = sI [a, b, c] ∧ tm 1 = .ptr nx 0) (by refine ⟨?_, ?_⟩ <;> simp only [w2, w4, Tryz.ntmps123, e1, seval]) ?_
  clear e5 e1
  rintro tm ⟨e6, e1⟩
  have i0 : getI [a, b, c] 0 = some a := rfl
  have i1 : getI [a, b, c] 1 = some b := rfl
  have i2 : getI [a, b, c] 2 = some c := rfl
  have hne : (nx = nx + 5) = False := by simp
  simp only [vz, tyf, seval, ua, nm, rg, RStart, e6, e1, Ha, Hc, hne]
  refine zk (fun tm => tm 3 = sI [a, b, c] ∧ tm 1 = .ptr nx 0) (by refine ⟨?_, ?_⟩ <;> simp only [ua, seval, e6, e1]) ?_
  clear e6 e1
  rintro tm ⟨e3, e1⟩
  refine UY mixed 14 rfl rfl rfl (by kernel_rfl) ?_
  simp only [vz, tyf, seval, ua, nm, rg, e3, e1, Ha, hne, (bp i0), (bp i1), (bp i2)]
  obtain ⟨D, hD⟩ : ∃ D : Gi, D = ⟨i64.wrap (a - 2), i64.wrap (b - 2), i64.wrap (c - 2)⟩ := ⟨_, rfl⟩
  rw [← hD] at hi
  have hDc : sD D = VV.agg [.lit (.int .i64 (i64.wrap (a - 2))), .lit (.int .i64 (i64.wrap (b - 2))), .lit (.int .i64 (i64.wrap (c - 2)))] := by rw [hD]; rfl
  rw [← hDc]
  have Pe : I (some (sD D :: L3.map sD)) (fun γ => Fr γ ∨ γ = nx ∨ γ = nx + 4 ∨ γ = nx + 5) (updH H1 (nx + 5) LB) (bc + 17) := by
   refine hst _ _ _ _ _ _ _ hi ?_ (by omega) (fun γ h => .inl h)
   intro γ _ hn
   have g3 : γ ≠ nx + 5 := fun e => hn (.inr (.inr (.inr e)))
   simp only [updH]
   rw [if_neg g3]
  refine (hr (sD D) (L3.map sD) _ _ _ ?_ Pe) (some (some (nx + 5))) _ _ _ rfl rfl ?_
  ·rintro γ (hγ | rfl | rfl | rfl)
   ·have := hFr γ hγ; omega
   ·omega
   ·omega
   ·omega
  rintro t H2 gZ ⟨q1, q2, q3⟩
  have Ka : H2 nx = some (.cells (some 162) [.yl β]) := by
   rw [q2 nx (.inr (.inl rfl))]
   simp only [updH]
   rw [if_neg (by omega)]
   exact Ha
  have Kb : H2 (nx + 4) = some (.deferred (some [])) := by
   rw [q2 _ (.inr (.inr (.inl rfl)))]
   simp only [updH]
   rw [if_neg (by omega)]
   exact Hb
  have Kc : H2 (nx + 5) = some LB := by
   rw [q2 _ (.inr (.inr (.inr rfl)))]
   simp only [bG, seval]
  have KF : ∀ γ, Fr γ → H2 γ = H1 γ := by
   intro γ hγ
   have g3 : γ ≠ nx + 5 := fun e => nc (e ▸ hγ)
   rw [q2 γ (.inl hγ)]
   simp only [updH]
   rw [if_neg g3]
  have KO : ∀ (O : VObj), Own [(nx, .cells (some 162) [.yl β]), (nx + 4, .deferred (some [])), (nx + 5, O)] Fr (updH H2 (nx + 5) O) gZ := by
   intro O
   refine Own.cons (show nx < gZ by omega) na ?_ (Own.cons (show nx + 4 < gZ by omega) nb ?_ (Own.cons (show nx + 5 < gZ by omega) nc ?_ Own.nil))
   ·simp only [updH]
    rw [if_neg (by omega)]
    exact Ka
   ·simp only [updH]
    rw [if_neg (by omega)]
    exact Kb
   ·simp only [bG, seval]
  cases t with
  | true =>
   simp only [vz, tyf, seval, ua, nm, rg, Bool.not_true]
   refine ⟨Kc, (show bc ≤ gZ by omega), fun γ hγ => ?_, ?_⟩
   ·have g3 : γ ≠ nx + 5 := fun e => nc (e ▸ hγ)
    simp only [updH]
    rw [if_neg g3]
    exact KF γ hγ
   ·simp only [if_true] at q3 ⊢
    refine ⟨_, _, KO LO, by rw [hJ]; exact ⟨p, L3, rfl, w5, rfl, rfl⟩, ?_⟩
    simp only [hfr]
    refine hst _ _ _ _ _ _ _ q3 ?_ (by omega) (fun γ h => .inl h)
    intro γ _ hn
    have g3 : γ ≠ nx + 5 := fun e => hn (.inr (.inr (.inr e)))
    simp only [updH]
    rw [if_neg g3]
  | false =>
   simp only [vz, tyf, seval, ua, nm, rg, Bool.not_false]
   refine ⟨Kc, (show bc ≤ gZ by omega), fun γ hγ => ?_, ?_⟩
   ·have g3 : γ ≠ nx + 5 := fun e => nc (e ▸ hγ)
    simp only [updH]
    rw [if_neg g3]
    exact KF γ hγ
   ·simp only [Bool.false_eq_true, if_false] at q3 ⊢
    refine ⟨_, _, KO (LD .ret), by rw [hJ]; exact ⟨LD, ⟨_, _, _, _, _, hLD⟩, rfl, rfl⟩, ?_⟩
    simp only [hfr]
    refine hst _ _ _ _ _ _ _ q3 ?_ (by omega) (fun γ h => .inl h)
    intro γ _ hn
    have g3 : γ ≠ nx + 5 := fun e => hn (.inr (.inr (.inr e)))
    simp only [updH]
    rw [if_neg g3]
 ·refine ⟨_, _, ?_, by rw [hJ]; exact ⟨L, R, rfl, h, rfl, rfl⟩, ?_⟩
  ·refine Own.cons (show nx < nx + 4 + 2 by omega) (fun h => h) ?_ (Own.cons (show nx + 4 < nx + 4 + 2 by omega) (fun h => h) ?_ (Own.cons (show nx + 5 < nx + 4 + 2 by omega) (fun h => h) ?_ Own.nil))
   ·simp only [updH]
    rw [if_neg (by omega), if_neg (by omega)]
    simp
   ·simp only [updH]
    simp
   ·simp only [updH]
    simp
  ·simp only [hfr]
   refine hst _ _ _ _ _ _ _ hI ?_ (by omega) ?_
   ·intro γ hγ _
    simp only [updH]
    repeat rw [if_neg (by omega)]
   ·rintro γ (h | rfl | rfl | rfl)
    ·exact h.elim
    ·right; omega
    ·right; omega
    ·right; omega
 ·rintro H' nx' (⟨hp, o', hown, hj, hi⟩ | ⟨hp, o', hown, hj, hi⟩)
  ·rw [hJ] at hj
   obtain ⟨p, L2, hl, hf, rfl, rfl⟩ := hj
   cases p with
   | cons e p => cases hl
   | nil =>
   simp only [dirL, Option.some.injEq] at hf
   subst hf
   obtain ⟨la, na, Ha⟩ := hown.head
   obtain ⟨lb, nb, Hb⟩ := hown.tail.head
   obtain ⟨lc, nc, Hc⟩ := hown.tail.tail.head
   simp only [hfr] at hi
   refine uc hLO Hc ?_
   intro LX
   simp only [vz, tyf, seval, ua, nm, rg]
   refine Pb (by simp only [bG, nm, seval, Hb]) ?_
   refine Bh (x := .tup []) (by simp [Tryz.results123, resV, resL]) (.inl ?_)
   refine hst _ _ _ _ _ _ _ hi ?_ (Nat.le_refl _) (fun γ h => h.elim)
   intro γ _ hn
   have g2 : γ ≠ nx + 4 := fun e => hn (.inr (.inr (.inl e)))
   have g3 : γ ≠ nx + 5 := fun e => hn (.inr (.inr (.inr e)))
   simp only [updH]
   repeat rw [if_neg (by first | assumption | omega)]
  ·rw [hJ] at hj
   obtain ⟨LD, ⟨tml, ps, az, bo, d, hLD⟩, rfl, rfl⟩ := hj
   obtain ⟨la, na, Ha⟩ := hown.head
   obtain ⟨lb, nb, Hb⟩ := hown.tail.head
   obtain ⟨lc, nc, Hc⟩ := hown.tail.tail.head
   simp only [hfr] at hi
   refine CQ hLD Hc ?_
   intro LX
   simp only [vz, tyf, seval, ua, nm, rg]
   refine rA (by simp only [bG, nm, seval, Hb]) ?_
   refine bP (x := .tup []) (by simp [Tryz.results123, resV, resL]) (.inr ?_)
   refine hst _ _ _ _ _ _ _ hi ?_ (Nat.le_refl _) (fun γ h => h.elim)
   intro γ _ hn
   have g2 : γ ≠ nx + 4 := fun e => hn (.inr (.inr (.inl e)))
   have g3 : γ ≠ nx + 5 := fun e => hn (.inr (.inr (.inr e)))
   simp only [updH]
   repeat rw [if_neg (by first | assumption | omega)]
def nY (aJ : Gi) (aj : Ga) : Option (GSpan) := some (GSpan.mk (i64.wrap ((i64.wrap ((i64.wrap (0 + (if (i64.wrap (aJ.a0 * aj.a0.High)) < (i64.wrap (aJ.a0 * aj.a0.Low)) then (i64.wrap (aJ.a0 * aj.a0.High)) else (i64.wrap (aJ.a0 * aj.a0.Low))))) + (if (i64.wrap (aJ.a1 * aj.a1.High)) < (i64.wrap (aJ.a1 * aj.a1.Low)) then (i64.wrap (aJ.a1 * aj.a1.High)) else (i64.wrap (aJ.a1 * aj.a1.Low))))) + (if (i64.wrap (aJ.a2 * aj.a2.High)) < (i64.wrap (aJ.a2 * aj.a2.Low)) then (i64.wrap (aJ.a2 * aj.a2.High)) else (i64.wrap (aJ.a2 * aj.a2.Low))))) (i64.wrap ((i64.wrap ((i64.wrap (0 + (if (i64.wrap (aJ.a0 * aj.a0.Low)) < (i64.wrap (aJ.a0 * aj.a0.High)) then (i64.wrap (aJ.a0 * aj.a0.High)) else (i64.wrap (aJ.a0 * aj.a0.Low))))) + (if (i64.wrap (aJ.a1 * aj.a1.Low)) < (i64.wrap (aJ.a1 * aj.a1.High)) then (i64.wrap (aJ.a1 * aj.a1.High)) else (i64.wrap (aJ.a1 * aj.a1.Low))))) + (if (i64.wrap (aJ.a2 * aj.a2.Low)) < (i64.wrap (aJ.a2 * aj.a2.High)) then (i64.wrap (aJ.a2 * aj.a2.High)) else (i64.wrap (aJ.a2 * aj.a2.Low))))))
theorem XI (aJ : Gi) (aj : Ga) (R : GSpan) (h : nY aJ aj = some R) : ad Tryz.prog G0 105 [.agg (cGi aJ), .agg (cGa aj)] (.tree (.agg (aF R))) := by
 refine ad.runR mixed Tryz.call105 Tryz.func105 rfl (by simp [Tryz.ntmps105]; kernel_rfl) ?_
 obtain ⟨KF, h, kF, kN⟩ := cQ h
 simp only [nY] at h
 simp only [vz, tyf, nm, seval]
 refine pv mixed (by kernel_rfl) 4 ?_
 simp only [vz, tyf, nm, seval]
 refine fu (fun tm => tm 3 = .ptr 1 0 ∧ tm 4 = .ptr 2 0 ∧ tm 5 = .ptr 3 0 ∧ tm 6 = .lit (.int .i64 0) ∧ tm 7 = .lit (.int .i64 aJ.a0) ∧ tm 10 = .agg (cGi aJ) ∧ tm 11 = .lit (.int .i64 0) ∧ True) (by refine ⟨?_, ?_, ?_, ?_, ?_, ?_, ?_, trivial⟩ <;> first | (simp only [ua, nm, seval] <;> rfl) | rfl) ?_
 rintro tm ⟨e1, e2, e3, e4, e5, e6, e7, _⟩
 simp only [vz, tyf, e1, e2, e3, e4, e5, e6, e7, nm, seval]
 refine fu (fun tm => tm 3 = .ptr 1 0 ∧ tm 4 = .ptr 2 0 ∧ tm 5 = .ptr 3 0 ∧ tm 6 = .lit (.int .i64 1) ∧ tm 7 = .lit (.int .i64 aJ.a1) ∧ tm 10 = .agg (cGi aJ) ∧ tm 11 = .lit (.int .i64 1) ∧ True) (by refine ⟨e1, e2, e3, ?_, ?_, e6, ?_, trivial⟩ <;> first | (simp only [ua, e1, e2, e3, e4, e5, e6, e7, nm, seval] <;> rfl) | rfl) ?_
 rintro tm ⟨e8, e9, aW, aX, aY, bd, bg, _⟩
 simp only [vz, tyf, e8, e9, aW, aX, aY, bd, bg, nm, seval]
 refine fu (fun tm => tm 3 = .ptr 1 0 ∧ tm 4 = .ptr 2 0 ∧ tm 5 = .ptr 3 0 ∧ tm 6 = .lit (.int .i64 2) ∧ tm 7 = .lit (.int .i64 aJ.a2) ∧ tm 10 = .agg (cGi aJ) ∧ tm 11 = .lit (.int .i64 2) ∧ True) (by refine ⟨e8, e9, aW, ?_, ?_, bd, ?_, trivial⟩ <;> first | (simp only [ua, e8, e9, aW, aX, aY, bd, bg, nm, seval] <;> rfl) | rfl) ?_
 rintro tm ⟨bK, bw, bI, cv, cT, cB, bJ, _⟩
 try simp only [vz, tyf, bK, bw, bI, cv, cT, cB, bJ, nm, seval]
 refine bP (x := (.agg ([.lit (.int .i64 (i64.wrap ((i64.wrap ((i64.wrap (0 + (if (i64.wrap (aJ.a0 * aj.a0.High)) < (i64.wrap (aJ.a0 * aj.a0.Low)) then (i64.wrap (aJ.a0 * aj.a0.High)) else (i64.wrap (aJ.a0 * aj.a0.Low))))) + (if (i64.wrap (aJ.a1 * aj.a1.High)) < (i64.wrap (aJ.a1 * aj.a1.Low)) then (i64.wrap (aJ.a1 * aj.a1.High)) else (i64.wrap (aJ.a1 * aj.a1.Low))))) + (if (i64.wrap (aJ.a2 * aj.a2.High)) < (i64.wrap (aJ.a2 * aj.a2.Low)) then (i64.wrap (aJ.a2 * aj.a2.High)) else (i64.wrap (aJ.a2 * aj.a2.Low))))))] ++ [.lit (.int .i64 (i64.wrap ((i64.wrap ((i64.wrap (0 + (if (i64.wrap (aJ.a0 * aj.a0.Low)) < (i64.wrap (aJ.a0 * aj.a0.High)) then (i64.wrap (aJ.a0 * aj.a0.High)) else (i64.wrap (aJ.a0 * aj.a0.Low))))) + (if (i64.wrap (aJ.a1 * aj.a1.Low)) < (i64.wrap (aJ.a1 * aj.a1.High)) then (i64.wrap (aJ.a1 * aj.a1.High)) else (i64.wrap (aJ.a1 * aj.a1.Low))))) + (if (i64.wrap (aJ.a2 * aj.a2.Low)) < (i64.wrap (aJ.a2 * aj.a2.High)) then (i64.wrap (aJ.a2 * aj.a2.High)) else (i64.wrap (aJ.a2 * aj.a2.Low))))))]))) (by first | (simp only [Tryz.results105, resV, resL, ar, bV, bU, uw, cr, tyf, bK, bw, bI, cv, cT, cB, bJ, nm, seval] <;> rfl) | rfl) ?_
 obtain rfl := kF _ h
 refine bZ ?_ ?_
 ·simp only [tre, au, Bool.and_self]
 ·first | (simp only [outV, uw, cA, cr, tyf, nrm, av, bK, bw, bI, cv, cT, cB, bJ, nm, seval] <;> rfl) | rfl
def xj (aJ : Gi) : Option (Int) := some (i64.wrap ((i64.wrap ((i64.wrap (0 + (if aJ.a0 < (i64.wrap (-aJ.a0)) then (i64.wrap (-aJ.a0)) else aJ.a0))) + (if aJ.a1 < (i64.wrap (-aJ.a1)) then (i64.wrap (-aJ.a1)) else aJ.a1))) + (if aJ.a2 < (i64.wrap (-aJ.a2)) then (i64.wrap (-aJ.a2)) else aJ.a2)))
theorem zjh (aJ : Gi) (R : Int) (h : xj aJ = some R) : ad Tryz.prog G0 106 [.agg (cGi aJ)] (.tree (.lit (.int .i64 R))) := by
 refine ad.runR mixed Tryz.call106 Tryz.func106 rfl (by simp [Tryz.ntmps106]; kernel_rfl) ?_
 obtain ⟨KF, h, kF, kN⟩ := cQ h
 simp only [xj] at h
 simp only [vz, qr, tyf, nm, seval]
 refine pv mixed (by kernel_rfl) 4 ?_
 try simp only [vz, qr, tyf, nm, seval]
 refine bP (x := (.lit (.int .i64 (i64.wrap ((i64.wrap ((i64.wrap (0 + (if aJ.a0 < (i64.wrap (-aJ.a0)) then (i64.wrap (-aJ.a0)) else aJ.a0))) + (if aJ.a1 < (i64.wrap (-aJ.a1)) then (i64.wrap (-aJ.a1)) else aJ.a1))) + (if aJ.a2 < (i64.wrap (-aJ.a2)) then (i64.wrap (-aJ.a2)) else aJ.a2)))))) (by first | (simp only [Tryz.results106, resV, resL, ar, bV, bU, uw, cr, tyf, nm, seval] <;> rfl) | rfl) ?_
 obtain rfl := kF _ h
 refine bZ ?_ ?_
 ·simp only [tre, au, Bool.and_self]
 ·first | (simp only [outV, uw, cA, cr, tyf, nrm, av, nm, seval] <;> rfl) | rfl
theorem qD {a b : VV} : vfield Tryz.prog 24 (.agg [a, b]) 0 = some a := by
 have h1 : aggT Tryz.prog 3 = some false := by kernel_rfl
 have h2 : szT Tryz.prog 3 = some 1 := by kernel_rfl
 simp [vfield, Tryz.underlying24, vpart, h1, h2]
theorem qE {a b : VV} : vfield Tryz.prog 24 (.agg [a, b]) 1 = some b := by
 have h1 : aggT Tryz.prog 3 = some false := by kernel_rfl
 have h2 : szT Tryz.prog 3 = some 1 := by kernel_rfl
 simp [vfield, Tryz.underlying24, vpart, h1, h2]
def fdL (s : Gs) (am : Ga) (d : Gi) : List Gt → Option Bool
 | [] => some true
 | t :: p => Option.bind (nY d t.pg) fun v => Option.bind (xj d) fun z => Option.bind (nY d am) fun w => cond (decide (i64.wrap (v.High + i64.wrap (s.Off * z)) ≥ w.Low)) (some false) (fdL s am d p)
def fdirL (s : Gs) (am : Ga) : List Gi → Option (Gi × Bool)
 | [] => some (⟨0, 0, 0⟩, false)
 | d :: L => Option.bind (fdL s am d s.Tins) fun t => cond t (some (d, true)) (fdirL s am L)
def GR (s : Gs) : Option (Gi × Bool) := Option.bind (tf s) fun am => Option.bind DG fun L => cond (lenOk s.Tins) (fdirL s am L) none
theorem zjs (s : Gs) (R : Gi × Bool) (h : GR s = some R) : ad Tryz.prog G0 73 [.agg (cGs s)] (.tree (.tup [.agg (cGi R.1), .lit (.bool R.2)])) := by
 refine ad.runR mixed Tryz.call73 Tryz.func73 rfl (by simp [Tryz.ntmps73]; kernel_rfl) ?_
 unfold GR at h
 rcases o1 : tf s with _ | am
 ·rw [o1] at h; cases h
 rw [o1, Option.bind_some] at h
 rcases o2 : DG with _ | L
 ·rw [o2] at h; cases h
 rw [o2, Option.bind_some] at h
 cases o3 : lenOk s.Tins with
 | false => rw [o3] at h; cases h
 | true =>
 rw [o3, cond_true] at h
 have hi := RX L o2
 simp only [vz, tyf, seval, ua, rg]
 refine UR mixed (by kernel_rfl) ?_
 simp only [vz, tyf, seval, ua, rg]
 refine ktA (G7 _ _ o1) ?_
 simp only [vz, tyf, seval, ua, rg]
 refine ktree (args0 := []) (by simp only [nrm]) rfl RV ?_
 refine aV (fun tm => tm 1 = .ptr 0 0 ∧ tm 2 = .ptr 1 0 ∧ tm 3 = .ptr 2 0 ∧ tm 4 = .ptr 5 0 ∧ tm 10 = itD) (by refine ⟨?_, ?_, ?_, ?_, ?_⟩ <;> simp only [ua, seval]) ?_
 rintro tm ⟨e1, e2, e3, e4, aW⟩
 simp only [vz, tyf, seval, ua, rg]
 refine wh hi (by first | (simp only [nu, nw, aW, mQ, seval] <;> rfl) | rfl) ?_
 intro LO hLO
 obtain ⟨J, hJ⟩ : ∃ J : Option (List VV) → List (Nat × VObj) → Prop, J = (fun o hp => match o with
  | some l => ∃ p : List Gi, l = p.map sD ∧ hp = [(8, .deferred (some [])), (9, LO), (0, .cells (some 28) (cGs s)), (1, .cells (some 99) (cGi ⟨0, 0, 0⟩)), (2, .cells (some 4) [.lit (.bool false)]), (5, .cells (some 25) (cGa am))] ∧ fdirL s am p = some R
  | none => ∃ LD : Code → VObj, (∃ tml ps az bo d, LD = fun c => VObj.loop .done (some c) tml ps az bo d) ∧ hp = [(8, .deferred (some [])), (9, LD .ret), (0, .cells (some 28) (cGs s)), (1, .cells (some 99) (cGi R.1)), (2, .cells (some 4) [.lit (.bool true)]), (5, .cells (some 25) (cGa am))] ∧ R.2 = true) := ⟨_, rfl⟩
 refine ⟨ownI J, Gc, ?_, ?_, ?_⟩
 ·rintro v rest Fr H nx hFr ⟨hp, hown, hj⟩
  rw [hJ] at hj
  obtain ⟨p, hl, rfl, hR⟩ := hj
  cases p with
  | nil => cases hl
  | cons d p =>
  simp only [List.map_cons, List.cons.injEq] at hl
  obtain ⟨rfl, rfl⟩ := hl
  obtain ⟨l8, n8, H8⟩ := hown.head
  obtain ⟨l9, n9, H9⟩ := hown.tail.head
  obtain ⟨l0, n0, H0⟩ := hown.tail.tail.head
  obtain ⟨l1, n1, H1⟩ := hown.tail.tail.tail.head
  obtain ⟨l2, n2, H2⟩ := hown.tail.tail.tail.tail.head
  obtain ⟨l5, n5, H5⟩ := hown.tail.tail.tail.tail.tail.head
  refine wg mixed (psl := [11]) hLO H9 wz rfl (by kernel_rfl) (by kernel_rfl) ?_
  intro LB LD hLB hLD
  refine w1 (fun tm => tm 1 = .ptr 0 0 ∧ tm 2 = .ptr 1 0 ∧ tm 3 = .ptr 2 0 ∧ tm 4 = .ptr 5 0 ∧ tm 11 = sD d) (by refine ⟨?_, ?_, ?_, ?_, ?_⟩ <;> simp only [w2, w4, Tryz.ntmps73, e1, e2, e3, e4, seval]) ?_
  clear e1 e2 e3 e4 aW
  rintro tm ⟨e1, e2, e3, e4, aX⟩
  have m1 : (9 = nx) = False := by simp; omega
  have m2 : (nx = 9) = False := by simp; omega
  have m3 : (0 = nx) = False := by simp; omega
  have m4 : (nx = 0) = False := by simp; omega
  simp only [vz, tyf, seval, ua, nm, rg, RStart, e1, e2, e3, e4, aX, H9, H0, Nat.add_zero, m1, m2, m3, m4]
  unfold fdirL at hR
  rcases hT : fdL s am d s.Tins with _ | t
  ·rw [hT] at hR; cases hR
  rw [hT, Option.bind_some] at hR
  obtain ⟨I0, RY⟩ : ∃ I0 : Nat → St → Prop, I0 = (fun m st => ∃ (q : List Gt) (c : Int), m = q.length ∧ 0 ≤ c ∧ List.drop (Int.toNat c) s.Tins = q ∧ st.df = [] ∧ nx + 6 ≤ st.nx ∧ (∀ γ, γ < nx → st.H γ = updH H 9 LB γ) ∧ st.H nx = some (.cells (some 99) (cGi d)) ∧
   st.tm 1 = .ptr 0 0 ∧ st.tm 2 = .ptr 1 0 ∧ st.tm 3 = .ptr 2 0 ∧ st.tm 4 = .ptr 5 0 ∧ st.tm 5 = .ptr nx 0 ∧ st.tm 13 = .sl (aa cGt s.Tins) (List.length s.Tins) false ∧ st.tm 14 = .lit (.int .i64 (List.length s.Tins)) ∧ st.tm 15 = .lit (.int .i64 c) ∧ fdL s am d q = some t) := ⟨_, rfl⟩
  refine loopK mixed (by kernel_rfl) I0 (List.length s.Tins) (by
   rw [RY]
   refine ⟨s.Tins, 0, rfl, Int.le_refl _, rfl, rfl, (by show nx + 6 ≤ nx + 6; omega), ?_, ?_, ?_, ?_, ?_, ?_, ?_, ?_, ?_, ?_, hT⟩
   ·intro γ hγ
    simp only [updH]
    by_cases g9 : γ = 9
    ·rw [if_pos g9, if_pos g9]
    ·rw [if_neg g9, if_neg (by omega), if_neg (by omega), if_neg g9]
   ·simp only [bG, Nat.add_zero, m1, m2, seval] <;> rfl
   all_goals simp only [ua, seval, e1, e2, e3, e4]) ?_
  rintro m ⟨tm, K, kx, df⟩ hinv
  rw [RY] at hinv
  obtain ⟨q, c, rfl, hc, hq, hdf, hkx, hK, Kx, f1, f2, f3, f4, f5, lT, lU, kK, lV⟩ := hinv
  simp only at hdf hkx hK Kx f1 f2 f3 f4 f5 lT lU kK
  subst hdf
  have K0 : K 0 = some (.cells (some 28) (cGs s)) := by
   rw [hK 0 (by omega)]
   simp only [updH]
   rw [if_neg (by omega)]
   exact H0
  have K5 : K 5 = some (.cells (some 25) (cGa am)) := by
   rw [hK 5 (by omega)]
   simp only [updH]
   rw [if_neg (by omega)]
   exact H5
  have K8 : K 8 = some (.deferred (some [])) := by
   rw [hK 8 (by omega)]
   simp only [updH]
   rw [if_neg (by omega)]
   exact H8
  have K9 : K 9 = some LB := by
   rw [hK 9 (by omega)]
   simp only [bG, seval]
  have K1 : K 1 = some (.cells (some 99) (cGi ⟨0, 0, 0⟩)) := by
   rw [hK 1 (by omega)]
   simp only [updH]
   rw [if_neg (by omega)]
   exact H1
  have K2 : K 2 = some (.cells (some 4) [.lit (.bool false)]) := by
   rw [hK 2 (by omega)]
   simp only [updH]
   rw [if_neg (by omega)]
   exact H2
  cases q with
  | nil =>
   have mw : decide (c < (List.length s.Tins : Int)) = false := iG hc hq
   simp only [fdL, Option.some.injEq] at lV
   subst lV
   simp only [cond_true, Option.some.injEq] at hR
   subst hR
   simp only [vz, tyf, seval, ua, nm, rg, f1, f2, f3, f4, f5, lT, lU, kK, mw, K1, K2, Kx]
   refine ⟨?_, (show nx ≤ kx + 4 by omega), fun γ hγ => ?_, ?_⟩
   ·simp only [updH]
    repeat rw [if_neg (by omega)]
    exact K9
   ·have gx := hFr γ hγ
    have g9 : γ ≠ 9 := fun e => n9 (e ▸ hγ)
    have g1 : γ ≠ 1 := fun e => n1 (e ▸ hγ)
    have g2 : γ ≠ 2 := fun e => n2 (e ▸ hγ)
    simp only [updH]
    rw [if_neg g9, if_neg g2, if_neg g1, hK γ gx]
    simp only [updH]
    rw [if_neg g9]
   ·simp only [Bool.false_eq_true, if_false]
    refine ⟨[(8, .deferred (some [])), (9, LD .ret), (0, .cells (some 28) (cGs s)), (1, .cells (some 99) (cGi d)), (2, .cells (some 4) [.lit (.bool true)]), (5, .cells (some 25) (cGa am))], Own.cons (show 8 < kx + 4 by omega) n8 ?_ (Own.cons (show 9 < kx + 4 by omega) n9 ?_ (Own.cons (show 0 < kx + 4 by omega) n0 ?_ (Own.cons (show 1 < kx + 4 by omega) n1 ?_ (Own.cons (show 2 < kx + 4 by omega) n2 ?_ (Own.cons (show 5 < kx + 4 by omega) n5 ?_ Own.nil))))), ?_⟩
    rotate_left 6
    ·rw [hJ]
     exact ⟨LD, ⟨_, _, _, _, _, hLD⟩, rfl, rfl⟩
    all_goals (simp only [bG, seval, K8, K0, K5] <;> rfl)
  | cons x q =>
   have mw : decide (c < (List.length s.Tins : Int)) = true := iH hc hq
   have o := fp hc hq
   have hw := iI hc hq o3
   have x1 : (0 = kx + 3) = False := by simp
   have x2 : (5 = kx + 3) = False := by simp; omega
   have x3 : (nx = kx + 3) = False := by simp; omega
   simp only [vz, tyf, seval, ua, nm, rg, f1, f2, f3, f4, f5, lT, lU, kK, mw, K0, K5, Kx, (bB o)]
   refine fu (fun tm => tm 1 = .ptr 0 0 ∧ tm 2 = .ptr 1 0 ∧ tm 3 = .ptr 2 0 ∧ tm 4 = .ptr 5 0 ∧ tm 5 = .ptr nx 0 ∧ tm 7 = .ptr (kx + 3) 0 ∧ tm 13 = .sl (aa cGt s.Tins) (List.length s.Tins) false ∧ tm 14 = .lit (.int .i64 (List.length s.Tins)) ∧ tm 15 = .lit (.int .i64 c)) (by refine ⟨?_, ?_, ?_, ?_, ?_, ?_, ?_, ?_, ?_⟩ <;> simp only [ua, seval, f1, f2, f3, f4, f5, lT, lU, kK]) ?_
   clear f1 f2 f3 f4 f5 lT lU kK tm
   rintro tm ⟨f1, f2, f3, f4, f5, f7, lT, lU, kK⟩
   simp only [fdL] at lV
   rcases ov : nY d x.pg with _ | v
   ·rw [ov] at lV; cases lV
   rw [ov, Option.bind_some] at lV
   rcases oz : xj d with _ | z
   ·rw [oz] at lV; cases lV
   rw [oz, Option.bind_some] at lV
   rcases ow : nY d am with _ | w
   ·rw [ow] at lV; cases lV
   rw [ow, Option.bind_some] at lV
   simp only [vz, tyf, seval, ua, nm, rg, f1, f4, f5, f7, K0, K5, Kx, x1, x2, x3, qD, qE]
   refine dktA (XI _ _ _ ov) ?_
   refine aV (fun tm => tm 1 = .ptr 0 0 ∧ tm 2 = .ptr 1 0 ∧ tm 3 = .ptr 2 0 ∧ tm 4 = .ptr 5 0 ∧ tm 5 = .ptr nx 0 ∧ tm 13 = .sl (aa cGt s.Tins) (List.length s.Tins) false ∧ tm 14 = .lit (.int .i64 (List.length s.Tins)) ∧ tm 15 = .lit (.int .i64 c) ∧ tm 22 = .agg (aF v)) (by refine ⟨?_, ?_, ?_, ?_, ?_, ?_, ?_, ?_, ?_⟩ <;> (simp only [ua, seval, f1, f2, f3, f4, f5, lT, lU, kK, f7] <;> rfl)) ?_
   clear f1 f2 f3 f4 f5 lT lU kK  f7 tm
   rintro tm ⟨f1, f2, f3, f4, f5, lT, lU, kK, De⟩
   simp only [vz, tyf, seval, ua, nm, rg, f1, f4, f5, De, K0, K5, Kx, x1, x2, x3, qD, qE]
   refine dktA (zjh _ _ oz) ?_
   refine aV (fun tm => tm 1 = .ptr 0 0 ∧ tm 2 = .ptr 1 0 ∧ tm 3 = .ptr 2 0 ∧ tm 4 = .ptr 5 0 ∧ tm 5 = .ptr nx 0 ∧ tm 13 = .sl (aa cGt s.Tins) (List.length s.Tins) false ∧ tm 14 = .lit (.int .i64 (List.length s.Tins)) ∧ tm 15 = .lit (.int .i64 c) ∧ tm 23 = .lit (.int .i64 v.High) ∧ tm 25 = .lit (.int .i64 s.Off) ∧ tm 27 = .lit (.int .i64 z)) (by refine ⟨?_, ?_, ?_, ?_, ?_, ?_, ?_, ?_, ?_, ?_, ?_⟩ <;> (simp only [ua, seval, f1, f2, f3, f4, f5, lT, lU, kK, De] <;> rfl)) ?_
   clear f1 f2 f3 f4 f5 lT lU kK  De tm
   rintro tm ⟨f1, f2, f3, f4, f5, lT, lU, kK, DW, DB, Ca⟩
   simp only [vz, tyf, seval, ua, nm, rg, f1, f4, f5, DW, DB, Ca, K0, K5, Kx, x1, x2, x3, qD, qE]
   refine dktA (XI _ _ _ ow) ?_
   refine aV (fun tm => tm 1 = .ptr 0 0 ∧ tm 2 = .ptr 1 0 ∧ tm 3 = .ptr 2 0 ∧ tm 4 = .ptr 5 0 ∧ tm 5 = .ptr nx 0 ∧ tm 13 = .sl (aa cGt s.Tins) (List.length s.Tins) false ∧ tm 14 = .lit (.int .i64 (List.length s.Tins)) ∧ tm 15 = .lit (.int .i64 c) ∧ tm 29 = .lit (.int .i64 (i64.wrap (v.High + i64.wrap (s.Off * z)))) ∧ tm 32 = .agg (aF w)) (by refine ⟨?_, ?_, ?_, ?_, ?_, ?_, ?_, ?_, ?_, ?_⟩ <;> (simp only [ua, seval, f1, f2, f3, f4, f5, lT, lU, kK, DW, DB, Ca] <;> rfl)) ?_
   clear f1 f2 f3 f4 f5 lT lU kK  DW  DB  Ca tm
   rintro tm ⟨f1, f2, f3, f4, f5, lT, lU, kK, XJ, XK⟩
   cases hcmp : decide (i64.wrap (v.High + i64.wrap (s.Off * z)) ≥ w.Low) with
   | true =>
    rw [hcmp, cond_true, Option.some.injEq] at lV
    subst lV
    rw [cond_false] at hR
    simp only [vz, tyf, seval, ua, nm, rg, f1, f4, f5, XJ, XK, K0, K5, Kx, x1, x2, x3, qD, qE, hcmp]
    refine ⟨?_, (show nx ≤ kx + 21 by omega), fun γ hγ => ?_, ?_⟩
    ·simp only [updH]
     repeat rw [if_neg (by omega)]
     exact K9
    ·have gx := hFr γ hγ
     have g9 : γ ≠ 9 := fun e => n9 (e ▸ hγ)
     simp only [updH]
     rw [if_neg g9, if_neg (by omega), if_neg (by omega), hK γ gx]
     simp only [updH]
     rw [if_neg g9]
    ·simp only [if_true]
     refine ⟨[(8, .deferred (some [])), (9, LO), (0, .cells (some 28) (cGs s)), (1, .cells (some 99) (cGi ⟨0, 0, 0⟩)), (2, .cells (some 4) [.lit (.bool false)]), (5, .cells (some 25) (cGa am))], Own.cons (show 8 < kx + 21 by omega) n8 ?_ (Own.cons (show 9 < kx + 21 by omega) n9 ?_ (Own.cons (show 0 < kx + 21 by omega) n0 ?_ (Own.cons (show 1 < kx + 21 by omega) n1 ?_ (Own.cons (show 2 < kx + 21 by omega) n2 ?_ (Own.cons (show 5 < kx + 21 by omega) n5 ?_ Own.nil))))), ?_⟩
     rotate_left 6
     ·rw [hJ]
      exact ⟨p, rfl, rfl, hR⟩
     ·simp only [updH]
      repeat rw [if_neg (by omega)]
      exact K8
     ·simp only [bG, seval]
     ·simp only [updH]
      repeat rw [if_neg (by omega)]
      exact K0
     ·simp only [updH]
      repeat rw [if_neg (by omega)]
      exact K1
     ·simp only [updH]
      repeat rw [if_neg (by omega)]
      exact K2
     ·simp only [updH]
      repeat rw [if_neg (by omega)]
      exact K5
   | false =>
    rw [hcmp, cond_false] at lV
    simp only [vz, tyf, seval, ua, nm, rg, f1, f4, f5, XJ, XK, kK, K0, K5, Kx, x1, x2, x3, qD, qE, hcmp, hw]
    refine ⟨q.length, Nat.lt_succ_self _, ?_⟩
    rw [RY]
    refine ⟨q, c + 1, rfl, by omega, eE hc hq, rfl, (by show nx + 6 ≤ kx + 23; omega), ?_, ?_, ?_, ?_, ?_, ?_, ?_, ?_, ?_, ?_, lV⟩
    ·intro γ hγ
     simp only [updH]
     rw [if_neg (by omega), if_neg (by omega)]
     exact hK γ hγ
    ·simp only [updH]
     rw [if_neg (by omega), if_neg (by omega)]
     exact Kx
    all_goals simp only [ua, seval, f1, f2, f3, f4, f5, lT, lU]
 ·refine ⟨[(8, .deferred (some [])), (9, LO), (0, .cells (some 28) (cGs s)), (1, .cells (some 99) (cGi ⟨0, 0, 0⟩)), (2, .cells (some 4) [.lit (.bool false)]), (5, .cells (some 25) (cGa am))], Own.cons (show 8 < 10 by omega) (fun h => h) ?_ (Own.cons (show 9 < 10 by omega) (fun h => h) ?_ (Own.cons (show 0 < 10 by omega) (fun h => h) ?_ (Own.cons (show 1 < 10 by omega) (fun h => h) ?_ (Own.cons (show 2 < 10 by omega) (fun h => h) ?_ (Own.cons (show 5 < 10 by omega) (fun h => h) ?_ Own.nil))))), ?_⟩
  rotate_left 6
  ·rw [hJ]
   exact ⟨L, rfl, rfl, h⟩
  all_goals (simp only [bG, seval] <;> rfl)
 ·rintro H' nx' (⟨hp, hown, hj⟩ | ⟨hp, hown, hj⟩)
  ·rw [hJ] at hj
   obtain ⟨p, hl, rfl, hR⟩ := hj
   cases p with
   | cons e p => cases hl
   | nil =>
   simp only [fdirL, Option.some.injEq] at hR
   subst hR
   obtain ⟨l8, n8, H8⟩ := hown.head
   obtain ⟨l9, n9, H9⟩ := hown.tail.head
   obtain ⟨l0, n0, H0⟩ := hown.tail.tail.head
   obtain ⟨l1, n1, H1⟩ := hown.tail.tail.tail.head
   obtain ⟨l2, n2, H2⟩ := hown.tail.tail.tail.tail.head
   refine uc hLO H9 ?_
   intro LX
   simp only [vz, tyf, seval, ua, rg, e1, e2, e3, e4, H1, H2]
   refine rA (by simp only [bG, seval, H8]) ?_
   refine bP (x := .tup [.agg (cGi ⟨0, 0, 0⟩), .lit (.bool false)]) (by simp only [Tryz.results73, resV, resL, ar, bV, bU, uw, cr, tyf, e2, e3, H1, H2, nm, seval] <;> rfl) ?_
   refine bZ (by simp only [tre, au, Bool.and_self]) ?_
   simp only [outV, nrm, av, seval, List.map_cons, List.map_nil]
   rfl
  ·rw [hJ] at hj
   obtain ⟨LD, ⟨tml, ps, az, bo, d, hLD⟩, rfl, XL⟩ := hj
   obtain ⟨l8, n8, H8⟩ := hown.head
   obtain ⟨l9, n9, H9⟩ := hown.tail.head
   obtain ⟨l0, n0, H0⟩ := hown.tail.tail.head
   obtain ⟨l1, n1, H1⟩ := hown.tail.tail.tail.head
   obtain ⟨l2, n2, H2⟩ := hown.tail.tail.tail.tail.head
   obtain ⟨R1, R2⟩ := R
   simp only at XL H1
   subst XL
   refine CQ hLD H9 ?_
   intro LX
   simp only [vz, tyf, seval, ua, rg, e1, e2, e3, e4, H1, H2]
   refine rA (by simp only [bG, seval, H8]) ?_
   refine bP (x := .tup [.agg (cGi R1), .lit (.bool true)]) (by simp only [Tryz.results73, resV, resL, ar, bV, bU, uw, cr, tyf, e2, e3, H1, H2, nm, seval] <;> rfl) ?_
   refine bZ (by simp only [tre, au, Bool.and_self]) ?_
   simp only [outV, nrm, av, seval, List.map_cons, List.map_nil]
   rfl
def Am (ae : Gs) : Option (Gi × Int) := Option.bind (my ae) (fun r1 => cond (r1) (Option.bind (GR ae) (fun r2 => cond (r2.2) (some (r2.1, 0)) (some ((Gi.mk 0 0 0), 5)))) (some ((Gi.mk 0 0 0), 2)))
theorem XM (ae : Gs) (R : Gi × Int) (h : Am ae = some R) : ad Tryz.prog G0 37 [.agg (cGs ae)] (.tree (.tup [.agg (cGi R.1), .lit (.int .i64 R.2)])) := by
 refine ad.runR mixed Tryz.call37 Tryz.func37 rfl (by simp [Tryz.ntmps37]; kernel_rfl) ?_
 obtain ⟨KF, h, kF, kN⟩ := cQ h
 simp only [Am] at h
 obtain ⟨r3, o4, h⟩ := optI h kN
 try simp only [hs] at h
 simp only [vz, tyf, nm, seval]
 refine ktA (wA _ _ o4) ?_
 refine aV (fun tm => tm 1 = .ptr 0 0 ∧ tm 2 = .ptr 1 0 ∧ tm 7 = .lit (.bool r3) ∧ True) (by refine ⟨?_, ?_, ?_, trivial⟩ <;> first | (simp only [ua, nm, seval] <;> rfl) | rfl) ?_
 rintro tm ⟨e5, e6, e7, _⟩
 cases d8 : (r3)
 ·simp only [d8, hs] at h
  try simp only [vz, tyf, e5, e6, e7, d8, nm, seval]
  refine bP (x := (.tup [.agg ([.lit (.int .i64 0)] ++ [.lit (.int .i64 0)] ++ [.lit (.int .i64 0)]), .lit (.int .i64 2)])) (by first | (simp only [Tryz.results37, resV, resL, ar, bV, bU, uw, cr, tyf, e5, e6, e7, d8, nm, seval] <;> rfl) | rfl) ?_
  obtain rfl := kF _ h
  refine bZ ?_ ?_
  ·simp only [tre, au, Bool.and_self]
  ·first | (simp only [outV, uw, cA, cr, tyf, nrm, av, e5, e6, e7, d8, nm, seval] <;> rfl) | rfl
 simp only [d8, hs] at h
 obtain ⟨r9, vb, h⟩ := optI h kN
 try simp only [hs] at h
 simp only [vz, tyf, e5, e6, e7, d8, nm, seval]
 refine ktA (zjs _ _ vb) ?_
 refine aV (fun tm => tm 2 = .ptr 1 0 ∧ tm 12 = .tup [.agg (cGi r9.1), .lit (.bool r9.2)] ∧ True) (by refine ⟨e6, ?_, trivial⟩ <;> first | (simp only [ua, e5, e6, e7, d8, nm, seval] <;> rfl) | rfl) ?_
 rintro tm ⟨aX, aY, _⟩
 cases cV : (r9.2)
 ·simp only [cV, hs] at h
  try simp only [vz, tyf, d8, aX, aY, cV, nm, seval]
  refine bP (x := (.tup [.agg ([.lit (.int .i64 0)] ++ [.lit (.int .i64 0)] ++ [.lit (.int .i64 0)]), .lit (.int .i64 5)])) (by first | (simp only [Tryz.results37, resV, resL, ar, bV, bU, uw, cr, tyf, d8, aX, aY, cV, nm, seval] <;> rfl) | rfl) ?_
  obtain rfl := kF _ h
  refine bZ ?_ ?_
  ·simp only [tre, au, Bool.and_self]
  ·first | (simp only [outV, uw, cA, cr, tyf, nrm, av, d8, aX, aY, cV, nm, seval] <;> rfl) | rfl
 simp only [cV, hs] at h
 try simp only [vz, tyf, d8, aX, aY, cV, nm, seval]
 refine bP (x := (.tup [.agg (cGi r9.1), .lit (.int .i64 0)])) (by first | (simp only [Tryz.results37, resV, resL, ar, bV, bU, uw, cr, tyf, d8, aX, aY, cV, nm, seval] <;> rfl) | rfl) ?_
 obtain rfl := kF _ h
 refine bZ ?_ ?_
 ·simp only [tre, au, Bool.and_self]
 ·first | (simp only [outV, uw, cA, cr, tyf, nrm, av, d8, aX, aY, cV, nm, seval] <;> rfl) | rfl
def sA : Gs := ⟨⟨60, 40, 20⟩, ⟨⟨1, 2⟩, ⟨1, 1⟩, ⟨0, 0⟩⟩, ⟨5, 5⟩, 5, [⟨⟨⟨80, 82⟩, ⟨20, 20⟩, ⟨0, 2⟩⟩⟩, ⟨⟨⟨20, 22⟩, ⟨60, 60⟩, ⟨40, 40⟩⟩⟩, ⟨⟨⟨50, 50⟩, ⟨10, 12⟩, ⟨30, 30⟩⟩⟩]⟩
def sB : Gs := ⟨⟨60, 40, 20⟩, ⟨⟨1, 2⟩, ⟨1, 1⟩, ⟨0, 0⟩⟩, ⟨5, 5⟩, 5, [⟨⟨⟨20, 22⟩, ⟨60, 60⟩, ⟨40, 40⟩⟩⟩, ⟨⟨⟨50, 50⟩, ⟨10, 12⟩, ⟨30, 30⟩⟩⟩]⟩
theorem RZ : Am sB = some (⟨0, 0, -2⟩, 0) := by kernel_rfl
theorem Sa : Pl sA = some (9, 0) := by kernel_rfl
theorem Sb : RT sA = some ([1, 1, 0], 5, 0) := by kernel_rfl
theorem Sc : RU sA = some ([0, 1], 0) := by kernel_rfl
theorem Sd : Pk sA = some ([1, 1, 0], 0) := by kernel_rfl
theorem qshA : VV.agg (cGs sA) = kA := by kernel_rfl
theorem qshB : VV.agg (cGs sB) = kB := by kernel_rfl
theorem pCount : ad Tryz.prog G0 44 [kA] (.tree kCount) := qshA ▸ zqq sA (9, 0) Sa
theorem pNear : ad Tryz.prog G0 50 [kA] (.tree kNear) := qshA ▸ ztd sA ([1, 1, 0], 5, 0) Sb
theorem pNeeds : ad Tryz.prog G0 55 [kA] (.tree kNeeds) := qshA ▸ zql sA ([0, 1], 0) Sc
theorem pFirst : ad Tryz.prog G0 42 [kA] (.tree kFirst) := qshA ▸ zqk sA ([1, 1, 0], 0) Sd
theorem pProof : ad Tryz.prog G0 37 [kB] (.tree kProof) := qshB ▸ XM sB (⟨0, 0, -2⟩, 0) RZ
theorem pMay : ad Tryz.prog G0 43 [kA] (.tree kMay) := ad.closedB hmix 1000 (by kernel_rfl)
def kTab : KTab := [
  (54, [], kA),
  (56, [], kB),
  (53, [], kD),
  (18, [kD], kAim),
  (19, [kA, .sl [.lit (.int .i64 (1)), .lit (.int .i64 (1)), .lit (.int .i64 (0))] 3 false], kSums),
  (27, [kA, .sl [.lit (.int .i64 (3)), .lit (.int .i64 (2)), .lit (.int .i64 (0))] 3 false], kWord),
  (24, [kA, .sl [.lit (.int .i64 (1)), .lit (.int .i64 (1)), .lit (.int .i64 (0))] 3 false, .agg [.sl [.lit (.int .i64 80),.lit (.int .i64 20),.lit (.int .i64 0),.lit (.int .i64 20),.lit (.int .i64 60),.lit (.int .i64 40),.lit (.int .i64 50),.lit (.int .i64 10),.lit (.int .i64 30)] 3 false,.lit (.int .i64 5),.lit (.int .i64 2),.lit (.int .i64 1),.lit (.int .i64 0)]], kTrue),
  (28, [kD, .sl [.lit (.int .i64 (1)), .lit (.int .i64 (1)), .lit (.int .i64 (0))] 3 false], kYears),
  (57, [.lit (.string ⟨⟨[98, 111, 97, 114, 100, 32, 49, 32, 50, 32, 51, 32, 48, 32, 48, 32, 49, 10, 102, 97, 100, 101, 32, 48, 32, 48, 32, 48, 32, 48, 32, 48, 32, 48, 10, 116, 105, 110, 32, 49, 32, 49, 32, 50, 32, 50, 32, 51, 32, 51, 10, 101, 110, 100, 32, 49, 54, 52, 10]⟩⟩)], kRead),
  (44, [kA], kCount),
  (50, [kA], kNear),
  (55, [kA], kNeeds),
  (37, [kB], kProof),
  (42, [kA], kFirst),
  (43, [kA], kMay)]
theorem kTabOk : KTabOk Tryz.prog G0 kTab := ⟨⟨by kernel_rfl, pA⟩, ⟨⟨by kernel_rfl, pB⟩, ⟨⟨by kernel_rfl, pD⟩, ⟨⟨by kernel_rfl, pAim⟩, ⟨⟨by kernel_rfl, pSums⟩, ⟨⟨by kernel_rfl, pWord⟩, ⟨⟨by kernel_rfl, pTrue⟩, ⟨⟨by kernel_rfl, pYears⟩, ⟨⟨by kernel_rfl, pRead⟩, ⟨⟨by kernel_rfl, pCount⟩, ⟨⟨by kernel_rfl, pNear⟩, ⟨⟨by kernel_rfl, pNeeds⟩, ⟨⟨by kernel_rfl, pProof⟩, ⟨⟨by kernel_rfl, pFirst⟩, ⟨⟨by kernel_rfl, pMay⟩, trivial⟩⟩⟩⟩⟩⟩⟩⟩⟩⟩⟩⟩⟩⟩⟩
theorem pKnown : ad Tryz.prog G0 16 [] (.tree (.lit (.bool true))) := ad.closedT hmix kTabOk 1000 (by kernel_rfl)
#print axioms pKnown
theorem xo : ad Tryz.prog G0 16 [] (.tree (.lit (.bool true))) := pKnown

def z3 : Ga := ⟨⟨0, 0⟩, ⟨0, 0⟩, ⟨0, 0⟩⟩
theorem TrOk.b {s : Gs} (hs : ShOk s) {t : Gu} (ht : TrOk s t) (p : P3) : ∀ a ∈ t.Tins, 0 ≤ selI a p ∧ selI a p ≤ 99 := by
 intro a ha
 obtain ⟨i, hi⟩ := List.mem_iff_getElem?.1 ha
 have hlt := (List.getElem?_eq_some_iff.1 hi).1
 obtain ⟨c, hc⟩ : ∃ c, s.Tins[i]? = some c := ⟨_, List.getElem?_eq_getElem (by rw [← ht.n]; exact hlt)⟩
 have h1 := ht.tin i a c hi hc p
 have h2 := hs.low p c (List.mem_of_getElem? hc)
 have h3 := hs.high p c (List.mem_of_getElem? hc)
 omega
theorem As {s : Gs} (hs : ShOk s) {t : Gu} (ht : TrOk s t) (p : P3) : ld s p.i t.Years (selI t.Fade p) = some (fadT s t p) := by
 have h1 := hs.yrs
 have h2 := ht.y
 have h3 := hs.fade p
 have h4 := ht.fade p
 exact xp hs p (by omega) (by omega)
theorem Se {s : Gs} (h : lenOk s.Tins = true) (mix : List Int) {t : Gu} (ht : lenOk t.Tins = true) : DX s mix t = some (cond (sheetB s && (mixB s mix && truthB s t)) (trueB s mix t, 0) (false, 2)) := by
 unfold DX
 rw [Q3 h]
 cases hb : sheetB s with
 | false => rfl
 | true =>
  have hs := ShOk.of hb
  simp only [Option.bind_some, cond_true, Dz hs, Bool.true_and]
  cases hx : mixB s mix with
  | false => rfl
  | true =>
   have hm := MixOk.of hx
   simp only [cond_true, Oc s ht, Option.bind_some, Bool.true_and]
   cases hy : truthB s t with
   | false => rfl
   | true =>
    have hT := TrOk.of hy
    simp only [cond_true, Oe hs hT, Option.bind_some, VP (knOk hs hT) (knMix hT hm), Ok hs hm hT]
theorem Rl {s : Gs} (hs : ShOk s) {mix : List Int} (hm : MixOk s mix) (h : surelyB s mix = true) {y : Int} (hy : s.Years.Low ≤ y ∧ y ≤ s.Years.High) : allC s mix y = true := by
 rw [VQ hs hm] at h
 have key : ∀ p, canB s mix p y = true := by
  intro p
  have h1 := h p
  have hf := hs.fade p
  have hyr := hs.yrs
  have h2 := FY hs hm p
  have hP := hm.s
  have l1 := u3 (old := selI s.Old p) (y := y) (y' := s.Years.High) (f := (selS s.Fade p).Low) (f' := (selS s.Fade p).High) (by omega) (by omega) (by omega) (by omega)
  have l2 := u3 (old := selI s.Old p) (y := s.Years.Low) (y' := y) (f := (selS s.Fade p).Low) (f' := (selS s.Fade p).Low) (by omega) (by omega) (by omega) (by omega)
  have e1 : (aimP s p).Low = aI (selI s.Old p) s.Years.High (selS s.Fade p).High := rfl
  have e2 : (aimP s p).High = aI (selI s.Old p) s.Years.Low (selS s.Fade p).Low := rfl
  have m1 := Int.mul_le_mul_of_nonneg_left l1 (show 0 ≤ sumL mix by omega)
  have m2 := Int.mul_le_mul_of_nonneg_left l2 (show 0 ≤ sumL mix by omega)
  have h5 : (aN s mix p).High - sumL mix * (aimP s p).Low ≤ s.Off * sumL mix ∧ sumL mix * (aimP s p).High - (aN s mix p).Low ≤ s.Off * sumL mix := by
   unfold mostI at h1
   split at h1 <;> omega
  rw [e1, e2, Int.mul_comm s.Off] at h5
  unfold canB
  rw [GJ]
  refine ⟨(selS s.Fade p).Low, by omega, by omega, ?_⟩
  simp only [canT, Bool.and_eq_true, decide_eq_true_eq]
  omega
 simp only [allC, key, Bool.and_self]
theorem Sf {s : Gs} (hs : ShOk s) {mix : List Int} (hm : MixOk s mix) {t : Gu} (ht : TrOk s t) (p : P3) : (aN s mix p).Low ≤ sumT mix t p ∧ sumT mix t p ≤ (aN s mix p).High := by
 constructor
 ·exact FZ mix s.Tins t.Tins ht.n.symm hm.b (fun i c a hc ha => (ht.tin i a c ha hc p).1)
 ·exact FZ mix t.Tins s.Tins ht.n hm.b (fun i a c ha hc => (ht.tin i a c ha hc p).2)
theorem nZ {s : Gs} (hs : ShOk s) {t : Gu} (ht : TrOk s t) (p : P3) : (aimP s p).Low ≤ fadT s t p ∧ fadT s t p ≤ (aimP s p).High := by
 have h1 := hs.yrs
 have h2 := ht.y
 have h3 := hs.fade p
 have h4 := ht.fade p
 exact ⟨u3 (by omega) (by omega) (by omega) (by omega), u3 (by omega) (by omega) (by omega) (by omega)⟩
theorem Rm {s : Gs} (hs : ShOk s) {mix : List Int} (hm : MixOk s mix) {t : Gu} (ht : TrOk s t) (h : trueB s mix t = true) : allC s mix t.Years = true := by
 rw [VR] at h
 have key : ∀ p, canB s mix p t.Years = true := by
  intro p
  have h1 := h p
  have hf := hs.fade p
  have w5 := ht.fade p
  have hb := Sf hs hm ht p
  unfold canB
  rw [GJ]
  refine ⟨selI t.Fade p, by omega, by omega, ?_⟩
  have e : aI (selI s.Old p) t.Years (selI t.Fade p) = fadT s t p := rfl
  simp only [canT, e, Bool.and_eq_true, decide_eq_true_eq]
  rw [Int.mul_comm s.Off] at h1
  unfold absI at h1
  split at h1 <;> omega
 simp only [allC, key, Bool.and_self]

theorem MixOk.lenOk {s : Gs} (hs : ShOk s) {q : List Int} (h : MixOk s q) : lenOk q = true := by
 have := hs.n; have := h.n
 unfold Go.V.lenOk
 rw [decide_eq_true_eq]
 omega
def Af (cW : List Int) : List Int → Int → Option (LOut (Bool) (Unit))
 | [], bx => some (.go ())
 | e0 :: p0, bx => cond (decide (bx < (List.length cW : Int))) (Option.bind (getI cW bx) (fun x1 => cond (e0 != x1) (some (.ret (decide (e0 < x1)))) (Af cW p0 (bx + 1)))) (some (.go ()))
def Ag (cN : List Int) (cW : List Int) : Option (Bool) := cond (lenOk cN) (aK (Af cW cN 0) (fun r3 => some r3) (fun c2 => some (decide ((List.length cN : Int) < (List.length cW : Int)))) (fun _ _ => none)) none
theorem znr (cN : List Int) (cW : List Int) (R : Bool) (h : Ag cN cW = some R) : ad Tryz.prog G0 41 [.sl (aa eI cN) (List.length cN) false, .sl (aa eI cW) (List.length cW) false] (.tree (.lit (.bool R))) := by
 refine ad.runR mixed Tryz.call41 Tryz.func41 rfl (by simp [Tryz.ntmps41]; kernel_rfl) ?_
 obtain ⟨KF, h, kF, kN⟩ := cQ h
 simp only [Ag] at h
 cases g5 : (lenOk cN)
 ·simp only [g5, hs] at h
  exact absurd h kN
 simp only [g5, hs] at h
 simp only [vz, tyf, g5, nm, seval]
 obtain ⟨K4, h, wH, rD, G2, qo⟩ := eO h kN
 obtain ⟨f4, sY, h⟩ := call2 h
 obtain ⟨I4, jr⟩ : ∃ I : Nat → St → Prop, I = (fun m st => ∃ (p4 : List Int) (cX : Int), m = List.length p4 ∧ 0 ≤ cX ∧ List.drop (Int.toNat cX) cN = p4 ∧ st.df = [] ∧ 2 ≤ st.nx ∧ st.tm 0 = .sl (aa eI cN) (List.length cN) false ∧ st.tm 1 = .sl (aa eI cW) (List.length cW) false ∧ st.tm 5 = .lit (.int .i64 cX) ∧ K4 (f4 p4 cX)) := ⟨_, rfl⟩
 refine loopK mixed (by kernel_rfl) I4 (List.length cN) (by rw [jr]; refine ⟨cN, 0, rfl, Int.le_refl _, rfl, rfl, (show 2 ≤ 2 by omega), ?_, ?_, ?_, h⟩ <;> first | (simp only [ua, nm, seval] <;> rfl) | rfl) ?_
 rintro m ⟨tm, H, kM, df⟩ hinv
 rw [jr] at hinv
 obtain ⟨p4, cX, rfl, eg, fQ, hdf, sZ, e6, e7, e8, h⟩ := hinv
 simp only at hdf sZ e6 e7 e8
 have n9 := eN (m := 2) (b := kM) (by omega)
 subst hdf sY
 cases p4 with
 | nil =>
  have bX : (decide (cX < (List.length cN : Int))) = false := iG eg fQ
  simp only [Af, hs, reduceCtorEq] at h
  replace h := rD _ h
  try dsimp only at h
  try simp only [hs] at h
  try simp only [vz, tyf, g5, n9, e6, e7, e8, bX, nm, seval]
  obtain rfl := kF _ h
  exact bl Tryz.results41 rfl
 | cons e4 p4 =>
  have lp : (decide (cX < (List.length cN : Int))) = true := iH eg fQ
  have kL := fp eg fQ
  have lq := iI eg fQ g5
  simp only [Af, hs, reduceCtorEq] at h
  cases bH : (decide (cX < (List.length cW : Int)))
  ·simp only [bH, hs] at h
   replace h := rD _ h
   try dsimp only at h
   try simp only [hs] at h
   try simp only [vz, tyf, g5, n9, e6, e7, e8, lp, (bp kL), lq, bH, nm, seval]
   obtain rfl := kF _ h
   exact bl Tryz.results41 rfl
  simp only [bH, hs] at h
  simp only [vz, tyf, g5, n9, e6, e7, e8, lp, (bp kL), lq, bH, nm, seval]
  refine fu (fun tm => tm 0 = .sl (aa eI cN) (List.length cN) false ∧ tm 1 = .sl (aa eI cW) (List.length cW) false ∧ tm 5 = .lit (.int .i64 cX) ∧ True) (by refine ⟨e6, e7, e8, trivial⟩ <;> first | (simp only [ua, n9, e6, e7, e8, lp, lq, bH, nm, seval] <;> rfl) | rfl) ?_
  rintro tm ⟨bK, bw, bI, _⟩
  obtain ⟨td, iT, h⟩ := optI h qo
  try simp only [hs] at h
  cases cw : (e4 != td)
  ·simp only [cw, hs] at h
   simp only [vz, tyf, g5, n9, lp, (bp kL), lq, bH, bK, bw, bI, (bp iT), cw, nm, seval]
   exact ⟨List.length p4, Nat.lt_succ_self _, by rw [jr]; refine ⟨p4, cX + 1, rfl, Int.le_trans eg (Int.le_add_one (Int.le_refl _)), eE eg fQ, rfl, (show 2 ≤ kM + 22 by omega), bK, bw, ?_, h⟩ <;> first | (simp only [ua, n9, lp, lq, bH, bK, bw, bI, cw, nm, seval] <;> rfl) | rfl⟩
  simp only [cw, hs] at h
  simp only [vz, tyf, g5, n9, lp, (bp kL), lq, bH, bK, bw, bI, (bp iT), cw, nm, seval]
  refine fu (fun tm => tm 0 = .sl (aa eI cN) (List.length cN) false ∧ tm 1 = .sl (aa eI cW) (List.length cW) false ∧ tm 5 = .lit (.int .i64 cX) ∧ True) (by refine ⟨bK, bw, bI, trivial⟩ <;> first | (simp only [ua, n9, lp, lq, bH, bK, bw, bI, cw, nm, seval] <;> rfl) | rfl) ?_
  rintro tm ⟨bJ, bR, bz, _⟩
  try simp only [vz, tyf, g5, n9, lp, (bp kL), lq, bH, (bp iT), cw, bJ, bR, bz, nm, seval]
  replace h := wH _ h
  try dsimp only at h
  obtain rfl := kF _ h
  exact bl Tryz.results41 rfl

def D7 (ae : Gs) (an : List Int) : Option (Int × Bool) := Option.bind (Dt ae an) (fun r1 => cond (r1.2 == 0) (cond (decide (r1.1 ≥ 1)) (some (r1.1, decide (r1.1 ≤ 3))) (some (r1.1, false))) (some (r1.1, false)))
theorem zqf (ae : Gs) (an : List Int) (R : Int × Bool) (h : D7 ae an = some R) : ad Tryz.prog G0 36 [.agg (cGs ae), .sl (aa eI an) (List.length an) false] (.tree (.tup [.lit (.int .i64 R.1), .lit (.bool R.2)])) := by
 refine ad.runR mixed Tryz.call36 Tryz.func36 rfl (by simp [Tryz.ntmps36]; kernel_rfl) ?_
 obtain ⟨KF, h, kF, kN⟩ := cQ h
 simp only [D7] at h
 obtain ⟨r2, o3, h⟩ := optI h kN
 try simp only [hs] at h
 simp only [vz, tyf, nm, seval]
 refine ktA (zte _ _ _ o3) ?_
 refine aV (fun tm => tm 11 = .tup [.lit (.int .i64 r2.1), .lit (.int .i64 r2.2)] ∧ True) (by refine ⟨?_, trivial⟩ <;> first | (simp only [ua, nm, seval] <;> rfl) | rfl) ?_
 rintro tm ⟨e4, _⟩
 cases d5 : (r2.2 == 0)
 ·simp only [d5, hs] at h
  try simp only [vz, tyf, e4, d5, nm, seval]
  refine bP (x := (.tup [.lit (.int .i64 r2.1), .lit (.bool false)])) (by first | (simp only [Tryz.results36, resV, resL, ar, bV, bU, uw, cr, tyf, d5, nm, seval] <;> rfl) | rfl) ?_
  obtain rfl := kF _ h
  refine bZ ?_ ?_
  ·simp only [tre, au, Bool.and_self]
  ·first | (simp only [outV, uw, cA, cr, tyf, nrm, av, e4, d5, nm, seval] <;> rfl) | rfl
 simp only [d5, hs] at h
 cases d6 : (decide (r2.1 ≥ 1))
 ·simp only [d6, hs] at h
  try simp only [vz, tyf, e4, d5, d6, nm, seval]
  refine bP (x := (.tup [.lit (.int .i64 r2.1), .lit (.bool false)])) (by first | (simp only [Tryz.results36, resV, resL, ar, bV, bU, uw, cr, tyf, d5, d6, nm, seval] <;> rfl) | rfl) ?_
  obtain rfl := kF _ h
  refine bZ ?_ ?_
  ·simp only [tre, au, Bool.and_self]
  ·first | (simp only [outV, uw, cA, cr, tyf, nrm, av, e4, d5, d6, nm, seval] <;> rfl) | rfl
 simp only [d6, hs] at h
 try simp only [vz, tyf, e4, d5, d6, nm, seval]
 refine bP (x := (.tup [.lit (.int .i64 r2.1), .lit (.bool (decide (r2.1 ≤ 3)))])) (by first | (simp only [Tryz.results36, resV, resL, ar, bV, bU, uw, cr, tyf, d5, d6, nm, seval] <;> rfl) | rfl) ?_
 obtain rfl := kF _ h
 refine bZ ?_ ?_
 ·simp only [tre, au, Bool.and_self]
 ·first | (simp only [outV, uw, cA, cr, tyf, nrm, av, e4, d5, d6, nm, seval] <;> rfl) | rfl
end Go.V
end
