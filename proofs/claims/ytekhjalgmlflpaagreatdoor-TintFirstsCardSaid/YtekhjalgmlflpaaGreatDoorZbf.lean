/- Part of a proof. -/
import Derived.Test.YtekhjalgmlflpaaGreatDoorZbe
set_option linter.all false
set_option maxRecDepth 4000
set_option maxHeartbeats 40000000
section
namespace Go.V
open Go Go.Proofs IntKind
def wB (aI : Int) (aY : Int) : List Int → Int → Option (LOut (Bool) (Unit))
 | [], bw => some (.go ())
 | e0 :: p0, bw => Option.bind (wC aI e0 aY) (fun r1 => cond (r1) (wB aI aY p0 (bw + 1)) (some (.ret false)))
def yz (aI : Int) (aX : List Int) (aY : Int) : Option (Bool) := cond (lenOk aX) (aN (wB aI aY aX 0) (fun r3 => some r3) (fun c2 => some true) (fun _ _ => none)) none
theorem Un (aI : Int) (aX : List Int) (aY : Int) (R : Bool) (h : yz aI aX aY = some R) : ad Tryz.prog G0 89 [.lit (.int .i64 aI), .sl (aa eI aX) (List.length aX) false, .lit (.int .i64 aY)] (.tree (.lit (.bool R))) := by
 refine ad.runR mixed Tryz.call89 Tryz.func89 rfl (by simp [Tryz.ntmps89]; kernel_rfl) ?_
 obtain ⟨KF, h, kF, kN⟩ := dp h
 simp only [yz] at h
 cases g5 : (lenOk aX)
 ·simp only [g5, hs] at h
  exact absurd h kN
 simp only [g5, hs] at h
 simp only [vz, tyf, g5, nm, seval]
 obtain ⟨K4, h, wD, qb, Cu, kO⟩ := fp h kN
 obtain ⟨f4, qU, h⟩ := call2 h
 obtain ⟨I4, jd⟩ : ∃ I : Nat → St → Prop, I = (fun m st => ∃ (p4 : List Int) (bh : Int), m = List.length p4 ∧ 0 ≤ bh ∧ List.drop (Int.toNat bh) aX = p4 ∧ st.df = [] ∧ 4 ≤ st.nx ∧ st.tm 0 = .lit (.int .i64 aI) ∧ st.tm 2 = .lit (.int .i64 aY) ∧ st.tm 9 = .sl (aa eI aX) (List.length aX) false ∧ st.tm 10 = .lit (.int .i64 (List.length aX : Int)) ∧ st.tm 11 = .lit (.int .i64 bh) ∧ K4 (f4 p4 bh)) := ⟨_, rfl⟩
 refine loopK mixed (by kernel_rfl) I4 (List.length aX) (by rw [jd]; refine ⟨aX, 0, rfl, Int.le_refl _, rfl, rfl, (show 4 ≤ 4 by omega), ?_, ?_, ?_, ?_, ?_, h⟩ <;> first | (simp only [ua, nm, seval] <;> rfl) | rfl) ?_
 rintro m ⟨tm, H, jj, df⟩ hinv
 rw [jd] at hinv
 obtain ⟨p4, bh, rfl, fv, ig, hdf, qV, e6, e7, e8, e9, bm, h⟩ := hinv
 simp only at hdf qV e6 e7 e8 e9 bm
 have kV := fu (m := 4) (b := jj) (by omega)
 subst hdf qU
 cases p4 with
 | nil =>
  have ng : (decide (bh < (List.length aX : Int))) = false := jX fv ig
  simp only [wB, hs, reduceCtorEq] at h
  replace h := qb _ h
  try dsimp only at h
  try simp only [hs] at h
  try simp only [vz, tyf, g5, kV, e6, e7, e8, e9, bm, ng, nm, seval]
  obtain rfl := kF _ h
  exact bB Tryz.results89 rfl
 | cons e4 p4 =>
  have cn : (decide (bh < (List.length aX : Int))) = true := jY fv ig
  have me := iC fv ig
  have mP := jZ fv ig g5
  simp only [wB, hs, reduceCtorEq] at h
  obtain ⟨oC, jE, h⟩ := optI h kO
  try simp only [hs] at h
  simp only [vz, tyf, g5, kV, e6, e7, e8, e9, bm, cn, (br me), mP, nm, seval]
  refine ktA (EJ _ _ _ _ jE) ?_
  refine aZ (fun tm => tm 0 = .lit (.int .i64 aI) ∧ tm 2 = .lit (.int .i64 aY) ∧ tm 9 = .sl (aa eI aX) (List.length aX) false ∧ tm 10 = .lit (.int .i64 (List.length aX : Int)) ∧ tm 11 = .lit (.int .i64 bh) ∧ tm 18 = .lit (.bool oC) ∧ True) (by refine ⟨e6, e7, e8, e9, bm, ?_, trivial⟩ <;> first | (simp only [ua, kV, e6, e7, e8, e9, bm, cn, mP, nm, seval] <;> rfl) | rfl) ?_
  rintro tm ⟨cv, dn, ck, bz, bK, bD, _⟩
  cases gR : (oC)
  ·simp only [gR, hs] at h
   try simp only [vz, tyf, g5, kV, cn, (br me), mP, cv, dn, ck, bz, bK, bD, gR, nm, seval]
   replace h := wD _ h
   try dsimp only at h
   obtain rfl := kF _ h
   exact bB Tryz.results89 rfl
  simp only [gR, hs] at h
  simp only [vz, tyf, g5, kV, cn, (br me), mP, cv, dn, ck, bz, bK, bD, gR, nm, seval]
  exact ⟨List.length p4, Nat.lt_succ_self _, by rw [jd]; refine ⟨p4, bh + 1, rfl, Int.le_trans fv (Int.le_add_one (Int.le_refl _)), fM fv ig, rfl, (show 4 ≤ jj + 11 by omega), cv, dn, ck, bz, ?_, h⟩ <;> first | (simp only [ua, kV, cn, mP, cv, dn, ck, bz, bK, bD, gR, nm, seval] <;> rfl) | rfl⟩
def wE (aI : Int) (jN : GSpan) (aY : Int) : Option (Bool) := cond (decide (aI ≤ jN.Low)) (cond (decide (jN.Low ≤ jN.High)) (some (decide (jN.High ≤ aY))) (some false)) (some false)
theorem QK (aI : Int) (jN : GSpan) (aY : Int) (R : Bool) (h : wE aI jN aY = some R) : ad Tryz.prog G0 91 [.lit (.int .i64 aI), .agg (aK jN), .lit (.int .i64 aY)] (.tree (.lit (.bool R))) := by
 refine ad.runR mixed Tryz.call91 Tryz.func91 rfl (by simp [Tryz.ntmps91]; kernel_rfl) ?_
 obtain ⟨KF, h, kF, kN⟩ := dp h
 simp only [wE] at h
 cases d1 : (decide (aI ≤ jN.Low))
 ·simp only [d1, hs] at h
  try simp only [vz, tyf, d1, nm, seval]
  obtain rfl := kF _ h
  exact bB Tryz.results91 rfl
 simp only [d1, hs] at h
 cases d2 : (decide (jN.Low ≤ jN.High))
 ·simp only [d2, hs] at h
  try simp only [vz, tyf, d1, d2, nm, seval]
  obtain rfl := kF _ h
  exact bB Tryz.results91 rfl
 simp only [d2, hs] at h
 try simp only [vz, tyf, d1, d2, nm, seval]
 obtain rfl := kF _ h
 exact bB Tryz.results91 rfl
def wF (aI : Int) (aY : Int) : List GSpan → Int → Option (LOut (Bool) (Unit))
 | [], bw => some (.go ())
 | e0 :: p0, bw => Option.bind (wE aI e0 aY) (fun r1 => cond (r1) (wF aI aY p0 (bw + 1)) (some (.ret false)))
def uf (aI : Int) (bn : List GSpan) (aY : Int) : Option (Bool) := cond (lenOk bn) (aN (wF aI aY bn 0) (fun r3 => some r3) (fun c2 => some true) (fun _ _ => none)) none
theorem QL (aI : Int) (bn : List GSpan) (aY : Int) (R : Bool) (h : uf aI bn aY = some R) : ad Tryz.prog G0 90 [.lit (.int .i64 aI), .sl (aa aK bn) (List.length bn) false, .lit (.int .i64 aY)] (.tree (.lit (.bool R))) := by
 refine ad.runR mixed Tryz.call90 Tryz.func90 rfl (by simp [Tryz.ntmps90]; kernel_rfl) ?_
 obtain ⟨KF, h, kF, kN⟩ := dp h
 simp only [uf] at h
 cases g5 : (lenOk bn)
 ·simp only [g5, hs] at h
  exact absurd h kN
 simp only [g5, hs] at h
 simp only [vz, tyf, g5, nm, seval]
 obtain ⟨K4, h, wD, qb, Cu, kO⟩ := fp h kN
 obtain ⟨f4, qU, h⟩ := call2 h
 obtain ⟨I4, jd⟩ : ∃ I : Nat → St → Prop, I = (fun m st => ∃ (p4 : List GSpan) (bh : Int), m = List.length p4 ∧ 0 ≤ bh ∧ List.drop (Int.toNat bh) bn = p4 ∧ st.df = [] ∧ 4 ≤ st.nx ∧ st.tm 0 = .lit (.int .i64 aI) ∧ st.tm 2 = .lit (.int .i64 aY) ∧ st.tm 9 = .sl (aa aK bn) (List.length bn) false ∧ st.tm 10 = .lit (.int .i64 (List.length bn : Int)) ∧ st.tm 11 = .lit (.int .i64 bh) ∧ K4 (f4 p4 bh)) := ⟨_, rfl⟩
 refine loopK mixed (by kernel_rfl) I4 (List.length bn) (by rw [jd]; refine ⟨bn, 0, rfl, Int.le_refl _, rfl, rfl, (show 4 ≤ 4 by omega), ?_, ?_, ?_, ?_, ?_, h⟩ <;> first | (simp only [ua, nm, seval] <;> rfl) | rfl) ?_
 rintro m ⟨tm, H, jj, df⟩ hinv
 rw [jd] at hinv
 obtain ⟨p4, bh, rfl, fv, ig, hdf, qV, e6, e7, e8, e9, bm, h⟩ := hinv
 simp only at hdf qV e6 e7 e8 e9 bm
 have kV := fu (m := 4) (b := jj) (by omega)
 subst hdf qU
 cases p4 with
 | nil =>
  have ng : (decide (bh < (List.length bn : Int))) = false := jX fv ig
  simp only [wF, hs, reduceCtorEq] at h
  replace h := qb _ h
  try dsimp only at h
  try simp only [hs] at h
  try simp only [vz, tyf, g5, kV, e6, e7, e8, e9, bm, ng, nm, seval]
  obtain rfl := kF _ h
  exact bB Tryz.results90 rfl
 | cons e4 p4 =>
  have cn : (decide (bh < (List.length bn : Int))) = true := jY fv ig
  have me := iC fv ig
  have mP := jZ fv ig g5
  simp only [wF, hs, reduceCtorEq] at h
  obtain ⟨oC, jE, h⟩ := optI h kO
  try simp only [hs] at h
  simp only [vz, tyf, g5, kV, e6, e7, e8, e9, bm, cn, (oD me), mP, nm, seval]
  refine ktA (QK _ _ _ _ jE) ?_
  refine aZ (fun tm => tm 0 = .lit (.int .i64 aI) ∧ tm 2 = .lit (.int .i64 aY) ∧ tm 9 = .sl (aa aK bn) (List.length bn) false ∧ tm 10 = .lit (.int .i64 (List.length bn : Int)) ∧ tm 11 = .lit (.int .i64 bh) ∧ tm 18 = .lit (.bool oC) ∧ True) (by refine ⟨e6, e7, e8, e9, bm, ?_, trivial⟩ <;> first | (simp only [ua, kV, e6, e7, e8, e9, bm, cn, mP, nm, seval] <;> rfl) | rfl) ?_
  rintro tm ⟨cv, dn, ck, bz, bK, bD, _⟩
  cases gR : (oC)
  ·simp only [gR, hs] at h
   try simp only [vz, tyf, g5, kV, cn, (oD me), mP, cv, dn, ck, bz, bK, bD, gR, nm, seval]
   replace h := wD _ h
   try dsimp only at h
   obtain rfl := kF _ h
   exact bB Tryz.results90 rfl
  simp only [gR, hs] at h
  simp only [vz, tyf, g5, kV, cn, (oD me), mP, cv, dn, ck, bz, bK, bD, gR, nm, seval]
  exact ⟨List.length p4, Nat.lt_succ_self _, by rw [jd]; refine ⟨p4, bh + 1, rfl, Int.le_trans fv (Int.le_add_one (Int.le_refl _)), fM fv ig, rfl, (show 4 ≤ jj + 12 by omega), cv, dn, ck, bz, ?_, h⟩ <;> first | (simp only [ua, kV, cn, mP, cv, dn, ck, bz, bK, bD, gR, nm, seval] <;> rfl) | rfl⟩
def wG  : List Gt → Int → Option (LOut (Bool) (Unit))
 | [], bw => some (.go ())
 | e0 :: p0, bw => Option.bind (uf 0 ([e0.pg.a0, e0.pg.a1, e0.pg.a2]) 99) (fun r2 => cond (r2) (wG p0 (bw + 1)) (some (.ret false)))
def Cv (bt : List Gt) : Option (Bool) := Option.bind (wC 1 (List.length bt : Int) 4) (fun r1 => cond (r1) (cond (lenOk bt) (aN (wG bt 0) (fun r4 => some r4) (fun c3 => some true) (fun _ _ => none)) none) (some false))
theorem Uo (bt : List Gt) (R : Bool) (h : Cv bt = some R) : ad Tryz.prog G0 93 [.sl (aa cGt bt) (List.length bt) false] (.tree (.lit (.bool R))) := by
 refine ad.runR mixed Tryz.call93 Tryz.func93 rfl (by simp [Tryz.ntmps93]; kernel_rfl) ?_
 obtain ⟨KF, h, kF, kN⟩ := dp h
 simp only [Cv] at h
 obtain ⟨r5, o6, h⟩ := optI h kN
 try simp only [hs] at h
 simp only [vz, tyf, nm, seval]
 refine ktA (EJ _ _ _ _ o6) ?_
 refine aZ (fun tm => tm 0 = .sl (aa cGt bt) (List.length bt) false ∧ tm 7 = .lit (.bool r5) ∧ True) (by refine ⟨?_, ?_, trivial⟩ <;> first | (simp only [ua, nm, seval] <;> rfl) | rfl) ?_
 rintro tm ⟨e7, e8, _⟩
 cases d9 : (r5)
 ·simp only [d9, hs] at h
  try simp only [vz, tyf, e7, e8, d9, nm, seval]
  obtain rfl := kF _ h
  exact bB Tryz.results93 rfl
 simp only [d9, hs] at h
 cases iV : (lenOk bt)
 ·simp only [iV, hs] at h
  exact absurd h kN
 simp only [iV, hs] at h
 simp only [vz, tyf, e7, e8, d9, iV, nm, seval]
 obtain ⟨EK, h, y6, ug, EL, qW⟩ := fp h kN
 obtain ⟨EM, uh, h⟩ := call2 h
 obtain ⟨EN, mg⟩ : ∃ I : Nat → St → Prop, I = (fun m st => ∃ (kW : List Gt) (eN : Int), m = List.length kW ∧ 0 ≤ eN ∧ List.drop (Int.toNat eN) bt = kW ∧ st.df = [] ∧ 8 ≤ st.nx ∧ st.tm 9 = .sl (aa cGt bt) (List.length bt) false ∧ st.tm 10 = .lit (.int .i64 (List.length bt : Int)) ∧ st.tm 11 = .lit (.int .i64 eN) ∧ EK (EM kW eN)) := ⟨_, rfl⟩
 refine loopK mixed (by kernel_rfl) EN (List.length bt) (by rw [mg]; refine ⟨bt, 0, rfl, Int.le_refl _, rfl, rfl, (show 8 ≤ 8 by omega), ?_, ?_, ?_, h⟩ <;> first | (simp only [ua, e7, e8, d9, nm, seval] <;> rfl) | rfl) ?_
 rintro m ⟨tm, H, jk, df⟩ hinv
 rw [mg] at hinv
 obtain ⟨kW, eN, rfl, ki, jO, hdf, ui, aW, ba, bj, h⟩ := hinv
 simp only at hdf ui aW ba bj
 have cN := fu (m := 8) (b := jk) (by omega)
 subst hdf uh
 cases kW with
 | nil =>
  have cC : (decide (eN < (List.length bt : Int))) = false := jX ki jO
  simp only [wG, hs, reduceCtorEq] at h
  replace h := ug _ h
  try dsimp only at h
  try simp only [hs] at h
  try simp only [vz, tyf, d9, iV, cN, aW, ba, bj, cC, nm, seval]
  obtain rfl := kF _ h
  exact bB Tryz.results93 rfl
 | cons bm kW =>
  have cP : (decide (eN < (List.length bt : Int))) = true := jY ki jO
  have fa := iC ki jO
  have hC := jZ ki jO iV
  simp only [wG, hs, reduceCtorEq] at h
  try simp only [vz, tyf, d9, iV, cN, aW, ba, bj, cP, (cw fa), hC, nm, seval]
  refine k_slA (n := 3) (w := 2) (off := 0) (cs := cGt bm) (el := some 94) Tryz.underlying25 (by kernel_rfl) (by first | (simp only [nN, nO, qX, nh, d9, iV, cN, aW, ba, bj, cP, (cw fa), hC, nm, seval] <;> rfl) | rfl) (by first | rfl | assumption | (simp only [bp, cO, cN, nm, seval] <;> rfl)) (by decide) (Nat.le_of_ble_eq_true rfl) ?_
  obtain ⟨ib, EO, h⟩ := optI h qW
  try simp only [hs] at h
  simp only [vz, tyf, d9, iV, cN, aW, ba, bj, cP, (cw fa), hC, nm, seval]
  refine kseen (args0 := [.lit (.int .i64 0), .sl (aa aK ([bm.pg.a0, bm.pg.a1, bm.pg.a2])) (List.length ([bm.pg.a0, bm.pg.a1, bm.pg.a2])) false, .lit (.int .i64 99)]) (by simp only [List.map_cons, List.map_nil, List.drop_succ_cons, List.drop_zero, List.take_succ_cons, List.take_zero, List.length_cons, List.length_nil, bT, bp, cO, cr, tyf, nrm, au, d9, iV, cN, aW, ba, bj, cP, (cw fa), hC, nm, seval] <;> rfl) (by simp only [List.map_cons, List.map_nil, List.drop_succ_cons, List.drop_zero, List.take_succ_cons, List.take_zero, List.length_cons, List.length_nil, bT, bp, cO, cr, tyf, nrm, au, d9, iV, cN, aW, ba, bj, cP, (cw fa), hC, nm, seval]; simp only [tre, ar, Bool.and_self]) (QL _ _ _ _ EO) (by first | rfl | simp only [VV.flat, flatL, Bool.and_self]) ?_
  refine aZ (fun tm => tm 9 = .sl (aa cGt bt) (List.length bt) false ∧ tm 10 = .lit (.int .i64 (List.length bt : Int)) ∧ tm 11 = .lit (.int .i64 eN) ∧ tm 17 = .lit (.bool ib) ∧ True) (by refine ⟨aW, ba, bj, ?_, trivial⟩ <;> first | (simp only [ua, d9, cN, aW, ba, bj, cP, hC, nm, seval] <;> rfl) | rfl) ?_
  rintro tm ⟨bK, bD, cF, cD, _⟩
  cases cy : (ib)
  ·simp only [cy, hs] at h
   try simp only [vz, tyf, d9, iV, cN, cP, (cw fa), hC, bK, bD, cF, cD, cy, nm, seval]
   replace h := y6 _ h
   try dsimp only at h
   obtain rfl := kF _ h
   exact bB Tryz.results93 rfl
  simp only [cy, hs] at h
  simp only [vz, tyf, d9, iV, cN, cP, (cw fa), hC, bK, bD, cF, cD, cy, nm, seval]
  exact ⟨List.length kW, Nat.lt_succ_self _, by rw [mg]; refine ⟨kW, eN + 1, rfl, Int.le_trans ki (Int.le_add_one (Int.le_refl _)), fM ki jO, rfl, (show 8 ≤ jk + 11 by omega), bK, bD, ?_, h⟩ <;> first | (simp only [ua, d9, cN, cP, hC, bK, bD, cF, cD, cy, nm, seval] <;> rfl) | rfl⟩
def mh (ae : Gs) : Option (Bool) := Option.bind (yz 0 ([ae.Old.a0, ae.Old.a1, ae.Old.a2]) 99) (fun r1 => cond (r1) (Option.bind (uf 0 ([ae.Fade.a0, ae.Fade.a1, ae.Fade.a2]) 9) (fun r2 => cond (r2) (Option.bind (wE 0 ae.Years 20) (fun r3 => cond (r3) (Option.bind (wC 1 ae.Off 20) (fun r4 => cond (r4) (Option.bind (Cv ae.Tins) (fun r5 => some r5)) (some false))) (some false))) (some false))) (some false))
theorem wH (ae : Gs) (R : Bool) (h : mh ae = some R) : ad Tryz.prog G0 60 [.agg (cGs ae)] (.tree (.lit (.bool R))) := by
 refine ad.runR mixed Tryz.call60 Tryz.func60 rfl (by simp [Tryz.ntmps60]; kernel_rfl) ?_
 obtain ⟨KF, h, kF, kN⟩ := dp h
 simp only [mh] at h
 try simp only [vz, tyf, nm, seval]
 refine k_slA (n := 3) (w := 1) (off := 0) (cs := cGs ae) (el := some 28) Tryz.underlying22 (by kernel_rfl) (by first | (simp only [nN, nO, qX, nh, nm, seval] <;> rfl) | rfl) (by first | rfl | assumption | (simp only [bp, cO, nm, seval] <;> rfl)) (by decide) (Nat.le_of_ble_eq_true rfl) ?_
 obtain ⟨r6, o7, h⟩ := optI h kN
 try simp only [hs] at h
 simp only [vz, tyf, nm, seval]
 refine kseen (args0 := [.lit (.int .i64 0), .sl (aa eI ([ae.Old.a0, ae.Old.a1, ae.Old.a2])) (List.length ([ae.Old.a0, ae.Old.a1, ae.Old.a2])) false, .lit (.int .i64 99)]) (by simp only [List.map_cons, List.map_nil, List.drop_succ_cons, List.drop_zero, List.take_succ_cons, List.take_zero, List.length_cons, List.length_nil, bT, bp, cO, cr, tyf, nrm, au, nm, seval] <;> rfl) (by simp only [List.map_cons, List.map_nil, List.drop_succ_cons, List.drop_zero, List.take_succ_cons, List.take_zero, List.length_cons, List.length_nil, bT, bp, cO, cr, tyf, nrm, au, nm, seval]; simp only [tre, ar, Bool.and_self]) (Un _ _ _ _ o7) (by first | rfl | simp only [VV.flat, flatL, Bool.and_self]) ?_
 refine aZ (fun tm => tm 1 = .ptr 0 0 ∧ tm 5 = .lit (.bool r6) ∧ True) (by refine ⟨?_, ?_, trivial⟩ <;> first | (simp only [ua, nm, seval] <;> rfl) | rfl) ?_
 rintro tm ⟨e8, e9, _⟩
 cases dX : (r6)
 ·simp only [dX, hs] at h
  try simp only [vz, tyf, e8, e9, dX, nm, seval]
  obtain rfl := kF _ h
  exact bB Tryz.results60 rfl
 simp only [dX, hs] at h
 try simp only [vz, tyf, e8, e9, dX, nm, seval]
 refine k_slA (n := 3) (w := 2) (off := 3) (cs := cGs ae) (el := some 28) Tryz.underlying25 (by kernel_rfl) (by first | (simp only [nN, nO, qX, nh, e8, e9, dX, nm, seval] <;> rfl) | rfl) (by first | rfl | assumption | (simp only [bp, cO, nm, seval] <;> rfl)) (by decide) (Nat.le_of_ble_eq_true rfl) ?_
 obtain ⟨eK, uj, h⟩ := optI h kN
 try simp only [hs] at h
 simp only [vz, tyf, e8, e9, dX, nm, seval]
 refine kseen (args0 := [.lit (.int .i64 0), .sl (aa aK ([ae.Fade.a0, ae.Fade.a1, ae.Fade.a2])) (List.length ([ae.Fade.a0, ae.Fade.a1, ae.Fade.a2])) false, .lit (.int .i64 9)]) (by simp only [List.map_cons, List.map_nil, List.drop_succ_cons, List.drop_zero, List.take_succ_cons, List.take_zero, List.length_cons, List.length_nil, bT, bp, cO, cr, tyf, nrm, au, e8, e9, dX, nm, seval] <;> rfl) (by simp only [List.map_cons, List.map_nil, List.drop_succ_cons, List.drop_zero, List.take_succ_cons, List.take_zero, List.length_cons, List.length_nil, bT, bp, cO, cr, tyf, nrm, au, e8, e9, dX, nm, seval]; simp only [tre, ar, Bool.and_self]) (QL _ _ _ _ uj) (by first | rfl | simp only [VV.flat, flatL, Bool.and_self]) ?_
 refine aZ (fun tm => tm 1 = .ptr 0 0 ∧ tm 6 = .lit (.bool true) ∧ tm 9 = .lit (.bool eK) ∧ True) (by refine ⟨e8, ?_, ?_, trivial⟩ <;> first | (simp only [ua, e8, e9, dX, nm, seval] <;> rfl) | rfl) ?_
 rintro tm ⟨ba, bj, bQ, _⟩
 cases cC : (eK)
 ·simp only [cC, hs] at h
  try simp only [vz, tyf, dX, ba, bj, bQ, cC, nm, seval]
  obtain rfl := kF _ h
  exact bB Tryz.results60 rfl
 simp only [cC, hs] at h
 obtain ⟨Ci, Cj, h⟩ := optI h kN
 try simp only [hs] at h
 simp only [vz, tyf, dX, ba, bj, bQ, cC, nm, seval]
 refine ktA (QK _ _ _ _ Cj) ?_
 refine aZ (fun tm => tm 1 = .ptr 0 0 ∧ tm 11 = .lit (.bool true) ∧ tm 14 = .lit (.bool Ci) ∧ True) (by refine ⟨ba, ?_, ?_, trivial⟩ <;> first | (simp only [ua, dX, ba, bj, bQ, cC, nm, seval] <;> rfl) | rfl) ?_
 rintro tm ⟨dn, ck, bz, _⟩
 cases ij : (Ci)
 ·simp only [ij, hs] at h
  try simp only [vz, tyf, dX, cC, dn, ck, bz, ij, nm, seval]
  obtain rfl := kF _ h
  exact bB Tryz.results60 rfl
 simp only [ij, hs] at h
 obtain ⟨kX, qY, h⟩ := optI h kN
 try simp only [hs] at h
 simp only [vz, tyf, dX, cC, dn, ck, bz, ij, nm, seval]
 refine ktA (EJ _ _ _ _ qY) ?_
 refine aZ (fun tm => tm 1 = .ptr 0 0 ∧ tm 16 = .lit (.bool true) ∧ tm 19 = .lit (.bool kX) ∧ True) (by refine ⟨dn, ?_, ?_, trivial⟩ <;> first | (simp only [ua, dX, cC, dn, ck, bz, ij, nm, seval] <;> rfl) | rfl) ?_
 rintro tm ⟨cD, cH, bY, _⟩
 cases kY : (kX)
 ·simp only [kY, hs] at h
  try simp only [vz, tyf, dX, cC, ij, cD, cH, bY, kY, nm, seval]
  obtain rfl := kF _ h
  exact bB Tryz.results60 rfl
 simp only [kY, hs] at h
 obtain ⟨Up, Uq, h⟩ := optI h kN
 try simp only [hs] at h
 simp only [vz, tyf, dX, cC, ij, cD, cH, bY, kY, nm, seval]
 refine ktA (Uo _ _ Uq) ?_
 refine aZ (fun tm => tm 21 = .lit (.bool true) ∧ tm 24 = .lit (.bool Up) ∧ True) (by refine ⟨?_, ?_, trivial⟩ <;> first | (simp only [ua, dX, cC, ij, cD, cH, bY, kY, nm, seval] <;> rfl) | rfl) ?_
 rintro tm ⟨bZ, cQ, _⟩
 try simp only [vz, tyf, dX, cC, ij, kY, bZ, cQ, nm, seval]
 obtain rfl := kF _ h
 exact bB Tryz.results60 rfl
def uk  : List Int → Int → Int → Option (LOut (Int) (Int))
 | [], bW, cz => some (.go cz)
 | e0 :: p0, bW, cz => uk p0 (bW + 1) (i64.wrap (cz + e0))
def wI (bc : List Int) : Option (Int) := cond (lenOk bc) (aN (uk bc 0 0) (fun r2 => some r2) (fun c1 => some c1) (fun _ _ => none)) none
theorem QM (bc : List Int) (R : Int) (h : wI bc = some R) : ad Tryz.prog G0 95 [.sl (aa eI bc) (List.length bc) false] (.tree (.lit (.int .i64 R))) := by
 refine ad.runR mixed Tryz.call95 Tryz.func95 rfl (by simp [Tryz.ntmps95]; kernel_rfl) ?_
 obtain ⟨KF, h, kF, kN⟩ := dp h
 simp only [wI] at h
 cases g4 : (lenOk bc)
 ·simp only [g4, hs] at h
  exact absurd h kN
 simp only [g4, hs] at h
 simp only [vz, tyf, g4, nm, seval]
 obtain ⟨K3, h, Cw, sF, EP, y7⟩ := fp h kN
 obtain ⟨f3, um, h⟩ := call3 h
 obtain ⟨I3, kP⟩ : ∃ I : Nat → St → Prop, I = (fun m st => ∃ (p3 : List Int) (fw : Int) (cZ : Int), m = List.length p3 ∧ 0 ≤ fw ∧ List.drop (Int.toNat fw) bc = p3 ∧ st.df = [] ∧ 5 ≤ st.nx ∧ st.tm 6 = .sl (aa eI bc) (List.length bc) false ∧ st.tm 7 = .lit (.int .i64 (List.length bc : Int)) ∧ st.tm 3 = .lit (.int .i64 cZ) ∧ st.tm 8 = .lit (.int .i64 fw) ∧ K3 (f3 p3 fw cZ)) := ⟨_, rfl⟩
 refine loopK mixed (by kernel_rfl) I3 (List.length bc) (by rw [kP]; refine ⟨bc, 0, 0, rfl, Int.le_refl _, rfl, rfl, (show 5 ≤ 5 by omega), ?_, ?_, ?_, ?_, h⟩ <;> first | (simp only [ua, nm, seval] <;> rfl) | rfl) ?_
 rintro m ⟨tm, H, iW, df⟩ hinv
 rw [kP] at hinv
 obtain ⟨p3, fw, cZ, rfl, fg, gS, hdf, uo, e5, e6, e7, e8, h⟩ := hinv
 simp only at hdf uo e5 e6 e7 e8
 have n9 := fu (m := 5) (b := iW) (by omega)
 subst hdf um
 cases p3 with
 | nil =>
  have dX : (decide (fw < (List.length bc : Int))) = false := jX fg gS
  simp only [uk, hs, reduceCtorEq] at h
  replace h := sF _ h
  try dsimp only at h
  try simp only [hs] at h
  try simp only [vz, tyf, g4, n9, e5, e6, e7, e8, dX, nm, seval]
  refine bG (x := (.lit (.int .i64 cZ))) (by first | (simp only [Tryz.results95, resV, resL, av, bL, bM, uw, cr, tyf, g4, n9, dX, nm, seval] <;> rfl) | rfl) ?_
  obtain rfl := kF _ h
  refine bO ?_ ?_
  ·simp only [tre, ar, Bool.and_self]
  ·first | (simp only [outV, uw, bT, cr, tyf, nrm, au, g4, n9, e5, e6, e7, e8, dX, nm, seval] <;> rfl) | rfl
 | cons e3 p3 =>
  have qc : (decide (fw < (List.length bc : Int))) = true := jY fg gS
  have qd := iC fg gS
  have sG := jZ fg gS g4
  simp only [uk, hs, reduceCtorEq] at h
  simp only [vz, tyf, g4, n9, e5, e6, e7, e8, qc, (br qd), sG, nm, seval]
  exact ⟨List.length p3, Nat.lt_succ_self _, by rw [kP]; refine ⟨p3, fw + 1, i64.wrap (cZ + e3), rfl, Int.le_trans fg (Int.le_add_one (Int.le_refl _)), fM fg gS, rfl, (show 5 ≤ iW + 10 by omega), e5, e6, ?_, ?_, h⟩ <;> first | (simp only [ua, n9, e5, e6, e7, e8, qc, sG, nm, seval] <;> rfl) | rfl⟩



def qH (ah : Gm) (xpg : Int) : List Int → Int → Int → Option (LOut (Int) (Int))
 | [], bw, bS => some (.go bS)
 | e0 :: p0, bw, bS => Option.bind (getI ah.sh.Tins bw) (fun x1 => cond (xpg == 0) (qH ah xpg p0 (bw + 1) (i64.wrap (bS + (i64.wrap (e0 * x1.pg.a0.Low))))) (cond (xpg == 1) (qH ah xpg p0 (bw + 1) (i64.wrap (bS + (i64.wrap (e0 * x1.pg.a1.Low))))) (cond (xpg == 2) (qH ah xpg p0 (bw + 1) (i64.wrap (bS + (i64.wrap (e0 * x1.pg.a2.Low))))) (none))))
def tQ (ah : Gm) (xpg : Int) : Option (Int) := cond (lenOk ah.mix) (aN (qH ah xpg ah.mix 0 0) (fun r3 => some r3) (fun c2 => some c2) (fun _ _ => none)) none
theorem ES (ah : Gm) (xpg : Int) (R : Int) (h : tQ ah xpg = some R) : ad Tryz.prog G0 96 [.agg (cGm ah), .lit (.int .i64 xpg)] (.tree (.lit (.int .i64 R))) := by
 refine ad.runR mixed Tryz.call96 Tryz.func96 rfl (by simp [Tryz.ntmps96]; kernel_rfl) ?_
 obtain ⟨KF, h, kF, kN⟩ := dp h
 simp only [tQ] at h
 cases g5 : (lenOk ah.mix)
 ·simp only [g5, hs] at h
  exact absurd h kN
 simp only [g5, hs] at h
 simp only [vz, tyf, g5, nm, seval]
 obtain ⟨K4, h, wD, qb, Cu, kO⟩ := fp h kN
 obtain ⟨f4, qU, h⟩ := call3 h
 obtain ⟨I4, jd⟩ : ∃ I : Nat → St → Prop, I = (fun m st => ∃ (p4 : List Int) (bh : Int) (gm : Int), m = List.length p4 ∧ 0 ≤ bh ∧ List.drop (Int.toNat bh) ah.mix = p4 ∧ st.df = [] ∧ 7 ≤ st.nx ∧ st.H 0 = some (.cells (some 89) (cGm ah)) ∧ st.tm 1 = .lit (.int .i64 xpg) ∧ st.tm 2 = .ptr 0 0 ∧ st.tm 9 = .sl (aa eI ah.mix) (List.length ah.mix) false ∧ st.tm 10 = .lit (.int .i64 (List.length ah.mix : Int)) ∧ st.tm 5 = .lit (.int .i64 gm) ∧ st.tm 11 = .lit (.int .i64 bh) ∧ K4 (f4 p4 bh gm)) := ⟨_, rfl⟩
 refine loopK mixed (by kernel_rfl) I4 (List.length ah.mix) (by rw [jd]; refine ⟨ah.mix, 0, 0, rfl, Int.le_refl _, rfl, rfl, (show 7 ≤ 7 by omega), ?_, ?_, ?_, ?_, ?_, ?_, ?_, h⟩ <;> first | (simp only [ua, nm, seval] <;> rfl) | rfl) ?_
 rintro m ⟨tm, H, jj, df⟩ hinv
 rw [jd] at hinv
 obtain ⟨p4, bh, gm, rfl, fv, ig, hdf, qV, H6, e7, e8, e9, bm, bg, aW, h⟩ := hinv
 simp only at hdf qV H6 e7 e8 e9 bm bg aW
 have mi := fu (m := 7) (b := jj) (by omega)
 subst hdf qU
 cases p4 with
 | nil =>
  have cT : (decide (bh < (List.length ah.mix : Int))) = false := jX fv ig
  simp only [qH, hs, reduceCtorEq] at h
  replace h := qb _ h
  try dsimp only at h
  try simp only [hs] at h
  try simp only [vz, tyf, g5, mi, e7, e8, e9, bm, bg, aW, H6, cT, nm, seval]
  refine bG (x := (.lit (.int .i64 gm))) (by first | (simp only [Tryz.results96, resV, resL, av, bL, bM, uw, cr, tyf, g5, mi, H6, cT, nm, seval] <;> rfl) | rfl) ?_
  obtain rfl := kF _ h
  refine bO ?_ ?_
  ·simp only [tre, ar, Bool.and_self]
  ·first | (simp only [outV, uw, bT, cr, tyf, nrm, au, g5, mi, e7, e8, e9, bm, bg, aW, H6, cT, nm, seval] <;> rfl) | rfl
 | cons e4 p4 =>
  have cm : (decide (bh < (List.length ah.mix : Int))) = true := jY fv ig
  have jE := iC fv ig
  have ka := jZ fv ig g5
  simp only [qH, hs, reduceCtorEq] at h
  obtain ⟨qZ, fa, h⟩ := optI h kO
  try simp only [hs] at h
  cases cI : (xpg == 0)
  ·simp only [cI, hs] at h
   cases jF : (xpg == 1)
   ·simp only [jF, hs] at h
    have kc := And.intro g5 (And.intro mi (And.intro H6 (And.intro cm (And.intro ka (And.intro cI jF)))))
    cases jl : (xpg == 2)
    ·simp only [jl, hs] at h
     exact absurd h kO
    simp only [jl, hs] at h
    simp only [vz, tyf, kc, e7, e8, e9, bm, bg, aW, (br jE), (cw fa), jl, (sH jl), nm, seval]
    exact ⟨List.length p4, Nat.lt_succ_self _, by rw [jd]; refine ⟨p4, bh + 1, i64.wrap (gm + (i64.wrap (e4 * qZ.pg.a2.Low))), rfl, Int.le_trans fv (Int.le_add_one (Int.le_refl _)), fM fv ig, rfl, (show 7 ≤ jj + 23 by omega), ?_, e7, e8, e9, bm, ?_, ?_, h⟩ <;> first | (simp only [ua, kc, e7, e8, e9, bm, bg, aW, jl, nm, seval] <;> rfl) | rfl⟩
   simp only [jF, hs] at h
   have y8 := And.intro g5 (And.intro mi (And.intro H6 (And.intro cm (And.intro ka (And.intro cI jF)))))
   simp only [vz, tyf, y8, e7, e8, e9, bm, bg, aW, (br jE), (cw fa), (sJ jF), nm, seval]
   exact ⟨List.length p4, Nat.lt_succ_self _, by rw [jd]; refine ⟨p4, bh + 1, i64.wrap (gm + (i64.wrap (e4 * qZ.pg.a1.Low))), rfl, Int.le_trans fv (Int.le_add_one (Int.le_refl _)), fM fv ig, rfl, (show 7 ≤ jj + 23 by omega), ?_, e7, e8, e9, bm, ?_, ?_, h⟩ <;> first | (simp only [ua, y8, e7, e8, e9, bm, bg, aW, nm, seval] <;> rfl) | rfl⟩
  simp only [cI, hs] at h
  simp only [vz, tyf, g5, mi, e7, e8, e9, bm, bg, aW, H6, cm, (br jE), ka, (cw fa), cI, (sK cI), nm, seval]
  exact ⟨List.length p4, Nat.lt_succ_self _, by rw [jd]; refine ⟨p4, bh + 1, i64.wrap (gm + (i64.wrap (e4 * qZ.pg.a0.Low))), rfl, Int.le_trans fv (Int.le_add_one (Int.le_refl _)), fM fv ig, rfl, (show 7 ≤ jj + 23 by omega), ?_, e7, e8, e9, bm, ?_, ?_, h⟩ <;> first | (simp only [ua, mi, e7, e8, e9, bm, bg, aW, H6, cm, ka, cI, nm, seval] <;> rfl) | rfl⟩
def qI (ah : Gm) (xpg : Int) : List Int → Int → Int → Option (LOut (Int) (Int))
 | [], bw, bS => some (.go bS)
 | e0 :: p0, bw, bS => Option.bind (getI ah.sh.Tins bw) (fun x1 => cond (xpg == 0) (qI ah xpg p0 (bw + 1) (i64.wrap (bS + (i64.wrap (e0 * x1.pg.a0.High))))) (cond (xpg == 1) (qI ah xpg p0 (bw + 1) (i64.wrap (bS + (i64.wrap (e0 * x1.pg.a1.High))))) (cond (xpg == 2) (qI ah xpg p0 (bw + 1) (i64.wrap (bS + (i64.wrap (e0 * x1.pg.a2.High))))) (none))))
def tR (ah : Gm) (xpg : Int) : Option (Int) := cond (lenOk ah.mix) (aN (qI ah xpg ah.mix 0 0) (fun r3 => some r3) (fun c2 => some c2) (fun _ _ => none)) none
theorem ET (ah : Gm) (xpg : Int) (R : Int) (h : tR ah xpg = some R) : ad Tryz.prog G0 97 [.agg (cGm ah), .lit (.int .i64 xpg)] (.tree (.lit (.int .i64 R))) := by
 refine ad.runR mixed Tryz.call97 Tryz.func97 rfl (by simp [Tryz.ntmps97]; kernel_rfl) ?_
 obtain ⟨KF, h, kF, kN⟩ := dp h
 simp only [tR] at h
 cases g5 : (lenOk ah.mix)
 ·simp only [g5, hs] at h
  exact absurd h kN
 simp only [g5, hs] at h
 simp only [vz, tyf, g5, nm, seval]
 obtain ⟨K4, h, wD, qb, Cu, kO⟩ := fp h kN
 obtain ⟨f4, qU, h⟩ := call3 h
 obtain ⟨I4, jd⟩ : ∃ I : Nat → St → Prop, I = (fun m st => ∃ (p4 : List Int) (bh : Int) (gm : Int), m = List.length p4 ∧ 0 ≤ bh ∧ List.drop (Int.toNat bh) ah.mix = p4 ∧ st.df = [] ∧ 7 ≤ st.nx ∧ st.H 0 = some (.cells (some 89) (cGm ah)) ∧ st.tm 1 = .lit (.int .i64 xpg) ∧ st.tm 2 = .ptr 0 0 ∧ st.tm 9 = .sl (aa eI ah.mix) (List.length ah.mix) false ∧ st.tm 10 = .lit (.int .i64 (List.length ah.mix : Int)) ∧ st.tm 5 = .lit (.int .i64 gm) ∧ st.tm 11 = .lit (.int .i64 bh) ∧ K4 (f4 p4 bh gm)) := ⟨_, rfl⟩
 refine loopK mixed (by kernel_rfl) I4 (List.length ah.mix) (by rw [jd]; refine ⟨ah.mix, 0, 0, rfl, Int.le_refl _, rfl, rfl, (show 7 ≤ 7 by omega), ?_, ?_, ?_, ?_, ?_, ?_, ?_, h⟩ <;> first | (simp only [ua, nm, seval] <;> rfl) | rfl) ?_
 rintro m ⟨tm, H, jj, df⟩ hinv
 rw [jd] at hinv
 obtain ⟨p4, bh, gm, rfl, fv, ig, hdf, qV, H6, e7, e8, e9, bm, bg, aW, h⟩ := hinv
 simp only at hdf qV H6 e7 e8 e9 bm bg aW
 have mi := fu (m := 7) (b := jj) (by omega)
 subst hdf qU
 cases p4 with
 | nil =>
  have cT : (decide (bh < (List.length ah.mix : Int))) = false := jX fv ig
  simp only [qI, hs, reduceCtorEq] at h
  replace h := qb _ h
  try dsimp only at h
  try simp only [hs] at h
  try simp only [vz, tyf, g5, mi, e7, e8, e9, bm, bg, aW, H6, cT, nm, seval]
  refine bG (x := (.lit (.int .i64 gm))) (by first | (simp only [Tryz.results97, resV, resL, av, bL, bM, uw, cr, tyf, g5, mi, H6, cT, nm, seval] <;> rfl) | rfl) ?_
  obtain rfl := kF _ h
  refine bO ?_ ?_
  ·simp only [tre, ar, Bool.and_self]
  ·first | (simp only [outV, uw, bT, cr, tyf, nrm, au, g5, mi, e7, e8, e9, bm, bg, aW, H6, cT, nm, seval] <;> rfl) | rfl
 | cons e4 p4 =>
  have cm : (decide (bh < (List.length ah.mix : Int))) = true := jY fv ig
  have jE := iC fv ig
  have ka := jZ fv ig g5
  simp only [qI, hs, reduceCtorEq] at h
  obtain ⟨qZ, fa, h⟩ := optI h kO
  try simp only [hs] at h
  cases cI : (xpg == 0)
  ·simp only [cI, hs] at h
   cases jF : (xpg == 1)
   ·simp only [jF, hs] at h
    have kc := And.intro g5 (And.intro mi (And.intro H6 (And.intro cm (And.intro ka (And.intro cI jF)))))
    cases jl : (xpg == 2)
    ·simp only [jl, hs] at h
     exact absurd h kO
    simp only [jl, hs] at h
    simp only [vz, tyf, kc, e7, e8, e9, bm, bg, aW, (br jE), (cw fa), jl, (sH jl), nm, seval]
    exact ⟨List.length p4, Nat.lt_succ_self _, by rw [jd]; refine ⟨p4, bh + 1, i64.wrap (gm + (i64.wrap (e4 * qZ.pg.a2.High))), rfl, Int.le_trans fv (Int.le_add_one (Int.le_refl _)), fM fv ig, rfl, (show 7 ≤ jj + 23 by omega), ?_, e7, e8, e9, bm, ?_, ?_, h⟩ <;> first | (simp only [ua, kc, e7, e8, e9, bm, bg, aW, jl, nm, seval] <;> rfl) | rfl⟩
   simp only [jF, hs] at h
   have y8 := And.intro g5 (And.intro mi (And.intro H6 (And.intro cm (And.intro ka (And.intro cI jF)))))
   simp only [vz, tyf, y8, e7, e8, e9, bm, bg, aW, (br jE), (cw fa), (sJ jF), nm, seval]
   exact ⟨List.length p4, Nat.lt_succ_self _, by rw [jd]; refine ⟨p4, bh + 1, i64.wrap (gm + (i64.wrap (e4 * qZ.pg.a1.High))), rfl, Int.le_trans fv (Int.le_add_one (Int.le_refl _)), fM fv ig, rfl, (show 7 ≤ jj + 23 by omega), ?_, e7, e8, e9, bm, ?_, ?_, h⟩ <;> first | (simp only [ua, y8, e7, e8, e9, bm, bg, aW, nm, seval] <;> rfl) | rfl⟩
  simp only [cI, hs] at h
  simp only [vz, tyf, g5, mi, e7, e8, e9, bm, bg, aW, H6, cm, (br jE), ka, (cw fa), cI, (sK cI), nm, seval]
  exact ⟨List.length p4, Nat.lt_succ_self _, by rw [jd]; refine ⟨p4, bh + 1, i64.wrap (gm + (i64.wrap (e4 * qZ.pg.a0.High))), rfl, Int.le_trans fv (Int.le_add_one (Int.le_refl _)), fM fv ig, rfl, (show 7 ≤ jj + 23 by omega), ?_, e7, e8, e9, bm, ?_, ?_, h⟩ <;> first | (simp only [ua, mi, e7, e8, e9, bm, bg, aW, H6, cm, ka, cI, nm, seval] <;> rfl) | rfl⟩
def wu (ah : Gm) : Option (Ga) := Option.bind (tQ ah 0) (fun r1 => Option.bind (tR ah 0) (fun r2 => Option.bind (tQ ah 1) (fun r3 => Option.bind (tR ah 1) (fun r4 => Option.bind (tQ ah 2) (fun r5 => Option.bind (tR ah 2) (fun r6 => some (Ga.mk (GSpan.mk r1 r2) (GSpan.mk r3 r4) (GSpan.mk r5 r6))))))))
theorem QG (ah : Gm) (R : Ga) (h : wu ah = some R) : ad Tryz.prog G0 63 [.agg (cGm ah)] (.tree (.agg (cGa R))) := by
 refine ad.runR mixed Tryz.call63 Tryz.func63 rfl (by simp [Tryz.ntmps63]; kernel_rfl) ?_
 obtain ⟨KF, h, kF, kN⟩ := dp h
 simp only [wu] at h
 simp only [vz, tyf, nm, seval]
 refine qN mixed (by kernel_rfl) 4 ?_
 simp only [vz, tyf, nm, seval]
 refine lP (fun tm => tm 2 = .ptr 1 0 ∧ tm 3 = .ptr 7 0 ∧ tm 4 = .ptr 9 0 ∧ tm 5 = .lit (.int .i64 0) ∧ tm 11 = .lit (.int .i64 0) ∧ True) (by refine ⟨?_, ?_, ?_, ?_, ?_, trivial⟩ <;> first | (simp only [ua, nm, seval] <;> rfl) | rfl) ?_
 rintro tm ⟨e7, e8, e9, bm, bg, _⟩
 obtain ⟨jP, qd, h⟩ := optI h kN
 try simp only [hs] at h
 simp only [vz, tyf, e7, e8, e9, bm, bg, nm, seval]
 refine dktA (ES _ _ _ qd) ?_
 refine aZ (fun tm => tm 2 = .ptr 1 0 ∧ tm 3 = .ptr 7 0 ∧ tm 4 = .ptr 9 0 ∧ tm 5 = .lit (.int .i64 0) ∧ tm 11 = .lit (.int .i64 0) ∧ tm 14 = .lit (.int .i64 0) ∧ tm 18 = .lit (.int .i64 jP) ∧ True) (by refine ⟨e7, e8, e9, bm, bg, ?_, ?_, trivial⟩ <;> first | (simp only [ua, e7, e8, e9, bm, bg, nm, seval] <;> rfl) | rfl) ?_
 rintro tm ⟨bj, bQ, bu, bC, cv, dn, ck, _⟩
 obtain ⟨nP, uq, h⟩ := optI h kN
 try simp only [hs] at h
 simp only [vz, tyf, bj, bQ, bu, bC, cv, dn, ck, nm, seval]
 refine dktA (ET _ _ _ uq) ?_
 refine aZ (fun tm => tm 2 = .ptr 1 0 ∧ tm 3 = .ptr 7 0 ∧ tm 4 = .ptr 9 0 ∧ tm 11 = .lit (.int .i64 0) ∧ tm 14 = .lit (.int .i64 0) ∧ tm 18 = .lit (.int .i64 jP) ∧ tm 22 = .lit (.int .i64 nP) ∧ True) (by refine ⟨bj, bQ, bu, cv, dn, ck, ?_, trivial⟩ <;> first | (simp only [ua, bj, bQ, bu, bC, cv, dn, ck, nm, seval] <;> rfl) | rfl) ?_
 rintro tm ⟨bD, cF, cD, cH, bY, bE, bA, _⟩
 simp only [vz, tyf, bD, cF, cD, cH, bY, bE, bA, nm, seval]
 refine ja ⟨?_, ?_⟩
 ·simp only [iQ, iR, dy, iS, and_true, true_and]
  repeat' (first | exact trivial | refine And.intro ?_ ?_ | rw [dy] | rw [iT] | exact Or.inl (by decide +kernel) | exact Or.inl (by dsimp only; decide +kernel) | (refine Or.inr ⟨?_, ?_⟩ <;> simp; done) | (refine Or.inr ⟨?_, ?_⟩ <;> simp <;> omega) | (refine Or.inr ⟨?_, ?_⟩ <;> simp [VEff.wr] <;> omega))
 simp only [vz, tyf, bD, cF, cD, cH, bY, bE, bA, nm, seval]
 refine lP (fun tm => tm 2 = .ptr 1 0 ∧ tm 3 = .ptr 7 0 ∧ tm 4 = .ptr 9 0 ∧ tm 5 = .lit (.int .i64 1) ∧ tm 11 = .lit (.int .i64 1) ∧ True) (by refine ⟨bD, cF, cD, ?_, ?_, trivial⟩ <;> first | (simp only [ua, bD, cF, cD, cH, bY, bE, bA, nm, seval] <;> rfl) | rfl) ?_
 rintro tm ⟨bN, bZ, cQ, cK, bV, _⟩
 obtain ⟨EU, Ur, h⟩ := optI h kN
 try simp only [hs] at h
 simp only [vz, tyf, bN, bZ, cQ, cK, bV, nm, seval]
 refine dktA (ES _ _ _ Ur) ?_
 refine aZ (fun tm => tm 2 = .ptr 1 0 ∧ tm 3 = .ptr 7 0 ∧ tm 4 = .ptr 9 0 ∧ tm 5 = .lit (.int .i64 1) ∧ tm 11 = .lit (.int .i64 1) ∧ tm 14 = .lit (.int .i64 1) ∧ tm 18 = .lit (.int .i64 EU) ∧ True) (by refine ⟨bN, bZ, cQ, cK, bV, ?_, ?_, trivial⟩ <;> first | (simp only [ua, bN, bZ, cQ, cK, bV, nm, seval] <;> rfl) | rfl) ?_
 rintro tm ⟨eu, dq, cR, cb, cU, cV, dQ, _⟩
 obtain ⟨nQ, ur, h⟩ := optI h kN
 try simp only [hs] at h
 simp only [vz, tyf, eu, dq, cR, cb, cU, cV, dQ, nm, seval]
 refine dktA (ET _ _ _ ur) ?_
 refine aZ (fun tm => tm 2 = .ptr 1 0 ∧ tm 3 = .ptr 7 0 ∧ tm 4 = .ptr 9 0 ∧ tm 11 = .lit (.int .i64 1) ∧ tm 14 = .lit (.int .i64 1) ∧ tm 18 = .lit (.int .i64 EU) ∧ tm 22 = .lit (.int .i64 nQ) ∧ True) (by refine ⟨eu, dq, cR, cU, cV, dQ, ?_, trivial⟩ <;> first | (simp only [ua, eu, dq, cR, cb, cU, cV, dQ, nm, seval] <;> rfl) | rfl) ?_
 rintro tm ⟨eM, ep, ic, fe, cL, cM, cS, _⟩
 simp only [vz, tyf, eM, ep, ic, fe, cL, cM, cS, nm, seval]
 refine ja ⟨?_, ?_⟩
 ·simp only [iQ, iR, dy, iS, and_true, true_and]
  repeat' (first | exact trivial | refine And.intro ?_ ?_ | rw [dy] | rw [iT] | exact Or.inl (by decide +kernel) | exact Or.inl (by dsimp only; decide +kernel) | (refine Or.inr ⟨?_, ?_⟩ <;> simp; done) | (refine Or.inr ⟨?_, ?_⟩ <;> simp <;> omega) | (refine Or.inr ⟨?_, ?_⟩ <;> simp [VEff.wr] <;> omega))
 simp only [vz, tyf, eM, ep, ic, fe, cL, cM, cS, nm, seval]
 refine lP (fun tm => tm 2 = .ptr 1 0 ∧ tm 3 = .ptr 7 0 ∧ tm 4 = .ptr 9 0 ∧ tm 5 = .lit (.int .i64 2) ∧ tm 11 = .lit (.int .i64 2) ∧ True) (by refine ⟨eM, ep, ic, ?_, ?_, trivial⟩ <;> first | (simp only [ua, eM, ep, ic, fe, cL, cM, cS, nm, seval] <;> rfl) | rfl) ?_
 rintro tm ⟨dc, dH, eO, ie, jm, _⟩
 obtain ⟨EV, Us, h⟩ := optI h kN
 try simp only [hs] at h
 simp only [vz, tyf, dc, dH, eO, ie, jm, nm, seval]
 refine dktA (ES _ _ _ Us) ?_
 refine aZ (fun tm => tm 2 = .ptr 1 0 ∧ tm 3 = .ptr 7 0 ∧ tm 4 = .ptr 9 0 ∧ tm 5 = .lit (.int .i64 2) ∧ tm 11 = .lit (.int .i64 2) ∧ tm 14 = .lit (.int .i64 2) ∧ tm 18 = .lit (.int .i64 EV) ∧ True) (by refine ⟨dc, dH, eO, ie, jm, ?_, ?_, trivial⟩ <;> first | (simp only [ua, dc, dH, eO, ie, jm, nm, seval] <;> rfl) | rfl) ?_
 rintro tm ⟨fN, jn, fO, dR, d7, dJ, dS, _⟩
 obtain ⟨oE, EW, h⟩ := optI h kN
 try simp only [hs] at h
 simp only [vz, tyf, fN, jn, fO, dR, d7, dJ, dS, nm, seval]
 refine dktA (ET _ _ _ EW) ?_
 refine aZ (fun tm => tm 2 = .ptr 1 0 ∧ tm 3 = .ptr 7 0 ∧ tm 4 = .ptr 9 0 ∧ tm 11 = .lit (.int .i64 2) ∧ tm 14 = .lit (.int .i64 2) ∧ tm 18 = .lit (.int .i64 EV) ∧ tm 22 = .lit (.int .i64 oE) ∧ True) (by refine ⟨fN, jn, fO, d7, dJ, dS, ?_, trivial⟩ <;> first | (simp only [ua, fN, jn, fO, dR, d7, dJ, dS, nm, seval] <;> rfl) | rfl) ?_
 rintro tm ⟨dA, fX, gn, fk, fY, dI, dw, _⟩
 simp only [vz, tyf, dA, fX, gn, fk, fY, dI, dw, nm, seval]
 refine ja ⟨?_, ?_⟩
 ·simp only [iQ, iR, dy, iS, and_true, true_and]
  repeat' (first | exact trivial | refine And.intro ?_ ?_ | rw [dy] | rw [iT] | exact Or.inl (by decide +kernel) | exact Or.inl (by dsimp only; decide +kernel) | (refine Or.inr ⟨?_, ?_⟩ <;> simp; done) | (refine Or.inr ⟨?_, ?_⟩ <;> simp <;> omega) | (refine Or.inr ⟨?_, ?_⟩ <;> simp [VEff.wr] <;> omega))
 try simp only [vz, tyf, dA, fX, gn, fk, fY, dI, dw, nm, seval]
 refine bG (x := (.agg ([.lit (.int .i64 jP)] ++ [.lit (.int .i64 nP)] ++ [.lit (.int .i64 EU)] ++ [.lit (.int .i64 nQ)] ++ [.lit (.int .i64 EV)] ++ [.lit (.int .i64 oE)]))) (by first | (simp only [Tryz.results63, resV, resL, av, bL, bM, uw, cr, tyf, dA, fX, gn, fk, fY, dI, dw, nm, seval] <;> rfl) | rfl) ?_
 obtain rfl := kF _ h
 refine bO ?_ ?_
 ·simp only [tre, ar, Bool.and_self]
 ·first | (simp only [outV, uw, bT, cr, tyf, nrm, au, dA, fX, gn, fk, fY, dI, dw, nm, seval] <;> rfl) | rfl

def lO (gp : Int) (aG : Int) (eP : Int) : Option (Int) := some (if 0 < (i64.wrap (gp - (i64.wrap (aG * eP)))) then (i64.wrap (gp - (i64.wrap (aG * eP)))) else 0)
theorem ra (gp : Int) (aG : Int) (eP : Int) (R : Int) (h : lO gp aG eP = some R) : ad Tryz.prog G0 94 [.lit (.int .i64 gp), .lit (.int .i64 aG), .lit (.int .i64 eP)] (.tree (.lit (.int .i64 R))) := by
 refine ad.runR mixed Tryz.call94 Tryz.func94 rfl (by simp [Tryz.ntmps94]; kernel_rfl) ?_
 obtain ⟨KF, h, kF, kN⟩ := dp h
 simp only [lO] at h
 try simp only [vz, tyf, nm, seval]
 refine bG (x := (.lit (.int .i64 (if 0 < (i64.wrap (gp - (i64.wrap (aG * eP)))) then (i64.wrap (gp - (i64.wrap (aG * eP)))) else 0)))) (by first | (simp only [Tryz.results94, resV, resL, av, bL, bM, uw, cr, tyf, nm, seval] <;> rfl) | rfl) ?_
 obtain rfl := kF _ h
 refine bO ?_ ?_
 ·simp only [tre, ar, Bool.and_self]
 ·first | (simp only [outV, uw, bT, cr, tyf, nrm, au, nm, seval] <;> rfl) | rfl
def qJ (ae : Gs) : Option (Ga) := Option.bind (lO ae.Old.a0 ae.Years.High ae.Fade.a0.High) (fun r1 => Option.bind (lO ae.Old.a0 ae.Years.Low ae.Fade.a0.Low) (fun r2 => Option.bind (lO ae.Old.a1 ae.Years.High ae.Fade.a1.High) (fun r3 => Option.bind (lO ae.Old.a1 ae.Years.Low ae.Fade.a1.Low) (fun r4 => Option.bind (lO ae.Old.a2 ae.Years.High ae.Fade.a2.High) (fun r5 => Option.bind (lO ae.Old.a2 ae.Years.Low ae.Fade.a2.Low) (fun r6 => some (Ga.mk (GSpan.mk r1 r2) (GSpan.mk r3 r4) (GSpan.mk r5 r6))))))))
theorem Cg (ae : Gs) (R : Ga) (h : qJ ae = some R) : ad Tryz.prog G0 61 [.agg (cGs ae)] (.tree (.agg (cGa R))) := by
 refine ad.runR mixed Tryz.call61 Tryz.func61 rfl (by simp [Tryz.ntmps61]; kernel_rfl) ?_
 obtain ⟨KF, h, kF, kN⟩ := dp h
 simp only [qJ] at h
 simp only [vz, tyf, nm, seval]
 refine qN mixed (by kernel_rfl) 4 ?_
 simp only [vz, tyf, nm, seval]
 refine lP (fun tm => tm 1 = .ptr 0 0 ∧ tm 2 = .ptr 1 0 ∧ tm 3 = .ptr 2 0 ∧ tm 4 = .lit (.int .i64 0) ∧ tm 5 = .lit (.int .i64 ae.Old.a0) ∧ tm 6 = .ptr 15 0 ∧ tm 8 = .agg (cGi ae.Old) ∧ tm 9 = .lit (.int .i64 0) ∧ True) (by refine ⟨?_, ?_, ?_, ?_, ?_, ?_, ?_, ?_, trivial⟩ <;> first | (simp only [ua, nm, seval] <;> rfl) | rfl) ?_
 rintro tm ⟨e7, e8, e9, bm, bg, aW, ba, bj, _⟩
 obtain ⟨sL, EX, h⟩ := optI h kN
 try simp only [hs] at h
 simp only [vz, tyf, e7, e8, e9, bm, bg, aW, ba, bj, nm, seval]
 refine dktA (ra _ _ _ _ EX) ?_
 refine aZ (fun tm => tm 1 = .ptr 0 0 ∧ tm 2 = .ptr 1 0 ∧ tm 3 = .ptr 2 0 ∧ tm 5 = .lit (.int .i64 ae.Old.a0) ∧ tm 6 = .ptr 15 0 ∧ tm 8 = .agg (cGi ae.Old) ∧ tm 9 = .lit (.int .i64 0) ∧ tm 17 = .lit (.int .i64 0) ∧ tm 24 = .lit (.int .i64 sL) ∧ True) (by refine ⟨e7, e8, e9, bg, aW, ba, bj, ?_, ?_, trivial⟩ <;> first | (simp only [ua, e7, e8, e9, bm, bg, aW, ba, bj, nm, seval] <;> rfl) | rfl) ?_
 rintro tm ⟨bC, cv, dn, ck, bz, bK, bD, cF, cD, _⟩
 obtain ⟨y9, EY, h⟩ := optI h kN
 try simp only [hs] at h
 simp only [vz, tyf, bC, cv, dn, ck, bz, bK, bD, cF, cD, nm, seval]
 refine dktA (ra _ _ _ _ EY) ?_
 refine aZ (fun tm => tm 1 = .ptr 0 0 ∧ tm 2 = .ptr 1 0 ∧ tm 3 = .ptr 2 0 ∧ tm 8 = .agg (cGi ae.Old) ∧ tm 9 = .lit (.int .i64 0) ∧ tm 17 = .lit (.int .i64 0) ∧ tm 24 = .lit (.int .i64 sL) ∧ tm 31 = .lit (.int .i64 y9) ∧ True) (by refine ⟨bC, cv, dn, bK, bD, cF, cD, ?_, trivial⟩ <;> first | (simp only [ua, bC, cv, dn, ck, bz, bK, bD, cF, cD, nm, seval] <;> rfl) | rfl) ?_
 rintro tm ⟨bE, bA, bN, bZ, cQ, cK, bV, gZ, _⟩
 simp only [vz, tyf, bE, bA, bN, bZ, cQ, cK, bV, gZ, nm, seval]
 refine ja ⟨?_, ?_⟩
 ·simp only [iQ, iR, dy, iS, and_true, true_and]
  repeat' (first | exact trivial | refine And.intro ?_ ?_ | rw [dy] | rw [iT] | exact Or.inl (by decide +kernel) | exact Or.inl (by dsimp only; decide +kernel) | (refine Or.inr ⟨?_, ?_⟩ <;> simp; done) | (refine Or.inr ⟨?_, ?_⟩ <;> simp <;> omega) | (refine Or.inr ⟨?_, ?_⟩ <;> simp [VEff.wr] <;> omega))
 simp only [vz, tyf, bE, bA, bN, bZ, cQ, cK, bV, gZ, nm, seval]
 refine lP (fun tm => tm 1 = .ptr 0 0 ∧ tm 2 = .ptr 1 0 ∧ tm 3 = .ptr 2 0 ∧ tm 4 = .lit (.int .i64 1) ∧ tm 5 = .lit (.int .i64 ae.Old.a1) ∧ tm 6 = .ptr 46 0 ∧ tm 8 = .agg (cGi ae.Old) ∧ tm 9 = .lit (.int .i64 1) ∧ True) (by refine ⟨bE, bA, bN, ?_, ?_, ?_, bZ, ?_, trivial⟩ <;> first | (simp only [ua, bE, bA, bN, bZ, cQ, cK, bV, gZ, nm, seval] <;> rfl) | rfl) ?_
 rintro tm ⟨dP, eu, dq, cR, cb, cU, cV, dQ, _⟩
 obtain ⟨nQ, ur, h⟩ := optI h kN
 try simp only [hs] at h
 simp only [vz, tyf, dP, eu, dq, cR, cb, cU, cV, dQ, nm, seval]
 refine dktA (ra _ _ _ _ ur) ?_
 refine aZ (fun tm => tm 1 = .ptr 0 0 ∧ tm 2 = .ptr 1 0 ∧ tm 3 = .ptr 2 0 ∧ tm 5 = .lit (.int .i64 ae.Old.a1) ∧ tm 6 = .ptr 46 0 ∧ tm 8 = .agg (cGi ae.Old) ∧ tm 9 = .lit (.int .i64 1) ∧ tm 17 = .lit (.int .i64 1) ∧ tm 24 = .lit (.int .i64 nQ) ∧ True) (by refine ⟨dP, eu, dq, cb, cU, cV, dQ, ?_, ?_, trivial⟩ <;> first | (simp only [ua, dP, eu, dq, cR, cb, cU, cV, dQ, nm, seval] <;> rfl) | rfl) ?_
 rintro tm ⟨eM, ep, ic, fe, cL, cM, cS, dc, dH, _⟩
 obtain ⟨QN, Ut, h⟩ := optI h kN
 try simp only [hs] at h
 simp only [vz, tyf, eM, ep, ic, fe, cL, cM, cS, dc, dH, nm, seval]
 refine dktA (ra _ _ _ _ Ut) ?_
 refine aZ (fun tm => tm 1 = .ptr 0 0 ∧ tm 2 = .ptr 1 0 ∧ tm 3 = .ptr 2 0 ∧ tm 8 = .agg (cGi ae.Old) ∧ tm 9 = .lit (.int .i64 1) ∧ tm 17 = .lit (.int .i64 1) ∧ tm 24 = .lit (.int .i64 nQ) ∧ tm 31 = .lit (.int .i64 QN) ∧ True) (by refine ⟨eM, ep, ic, cM, cS, dc, dH, ?_, trivial⟩ <;> first | (simp only [ua, eM, ep, ic, fe, cL, cM, cS, dc, dH, nm, seval] <;> rfl) | rfl) ?_
 rintro tm ⟨jm, ni, hO, fN, jn, fO, dR, d7, _⟩
 simp only [vz, tyf, jm, ni, hO, fN, jn, fO, dR, d7, nm, seval]
 refine ja ⟨?_, ?_⟩
 ·simp only [iQ, iR, dy, iS, and_true, true_and]
  repeat' (first | exact trivial | refine And.intro ?_ ?_ | rw [dy] | rw [iT] | exact Or.inl (by decide +kernel) | exact Or.inl (by dsimp only; decide +kernel) | (refine Or.inr ⟨?_, ?_⟩ <;> simp; done) | (refine Or.inr ⟨?_, ?_⟩ <;> simp <;> omega) | (refine Or.inr ⟨?_, ?_⟩ <;> simp [VEff.wr] <;> omega))
 simp only [vz, tyf, jm, ni, hO, fN, jn, fO, dR, d7, nm, seval]
 refine lP (fun tm => tm 1 = .ptr 0 0 ∧ tm 2 = .ptr 1 0 ∧ tm 3 = .ptr 2 0 ∧ tm 4 = .lit (.int .i64 2) ∧ tm 5 = .lit (.int .i64 ae.Old.a2) ∧ tm 6 = .ptr 77 0 ∧ tm 8 = .agg (cGi ae.Old) ∧ tm 9 = .lit (.int .i64 2) ∧ True) (by refine ⟨jm, ni, hO, ?_, ?_, ?_, fN, ?_, trivial⟩ <;> first | (simp only [ua, jm, ni, hO, fN, jn, fO, dR, d7, nm, seval] <;> rfl) | rfl) ?_
 rintro tm ⟨dJ, dS, fP, gT, dA, fX, gn, fk, _⟩
 obtain ⟨EZ, Uu, h⟩ := optI h kN
 try simp only [hs] at h
 simp only [vz, tyf, dJ, dS, fP, gT, dA, fX, gn, fk, nm, seval]
 refine dktA (ra _ _ _ _ Uu) ?_
 refine aZ (fun tm => tm 1 = .ptr 0 0 ∧ tm 2 = .ptr 1 0 ∧ tm 3 = .ptr 2 0 ∧ tm 5 = .lit (.int .i64 ae.Old.a2) ∧ tm 6 = .ptr 77 0 ∧ tm 8 = .agg (cGi ae.Old) ∧ tm 9 = .lit (.int .i64 2) ∧ tm 17 = .lit (.int .i64 2) ∧ tm 24 = .lit (.int .i64 EZ) ∧ True) (by refine ⟨dJ, dS, fP, dA, fX, gn, fk, ?_, ?_, trivial⟩ <;> first | (simp only [ua, dJ, dS, fP, gT, dA, fX, gn, fk, nm, seval] <;> rfl) | rfl) ?_
 rintro tm ⟨dw, eQ, eR, eC, ik, fJ, je, kj, kl, _⟩
 obtain ⟨yA, Fa, h⟩ := optI h kN
 try simp only [hs] at h
 simp only [vz, tyf, dw, eQ, eR, eC, ik, fJ, je, kj, kl, nm, seval]
 refine dktA (ra _ _ _ _ Fa) ?_
 refine aZ (fun tm => tm 1 = .ptr 0 0 ∧ tm 2 = .ptr 1 0 ∧ tm 3 = .ptr 2 0 ∧ tm 8 = .agg (cGi ae.Old) ∧ tm 9 = .lit (.int .i64 2) ∧ tm 17 = .lit (.int .i64 2) ∧ tm 24 = .lit (.int .i64 EZ) ∧ tm 31 = .lit (.int .i64 yA) ∧ True) (by refine ⟨dw, eQ, eR, fJ, je, kj, kl, ?_, trivial⟩ <;> first | (simp only [ua, dw, eQ, eR, eC, ik, fJ, je, kj, kl, nm, seval] <;> rfl) | rfl) ?_
 rintro tm ⟨gU, iG, lQ, fx, fy, eT, fK, fZ, _⟩
 simp only [vz, tyf, gU, iG, lQ, fx, fy, eT, fK, fZ, nm, seval]
 refine ja ⟨?_, ?_⟩
 ·simp only [iQ, iR, dy, iS, and_true, true_and]
  repeat' (first | exact trivial | refine And.intro ?_ ?_ | rw [dy] | rw [iT] | exact Or.inl (by decide +kernel) | exact Or.inl (by dsimp only; decide +kernel) | (refine Or.inr ⟨?_, ?_⟩ <;> simp; done) | (refine Or.inr ⟨?_, ?_⟩ <;> simp <;> omega) | (refine Or.inr ⟨?_, ?_⟩ <;> simp [VEff.wr] <;> omega))
 try simp only [vz, tyf, gU, iG, lQ, fx, fy, eT, fK, fZ, nm, seval]
 refine bG (x := (.agg ([.lit (.int .i64 sL)] ++ [.lit (.int .i64 y9)] ++ [.lit (.int .i64 nQ)] ++ [.lit (.int .i64 QN)] ++ [.lit (.int .i64 EZ)] ++ [.lit (.int .i64 yA)]))) (by first | (simp only [Tryz.results61, resV, resL, av, bL, bM, uw, cr, tyf, gU, iG, lQ, fx, fy, eT, fK, fZ, nm, seval] <;> rfl) | rfl) ?_
 obtain rfl := kF _ h
 refine bO ?_ ?_
 ·simp only [tre, ar, Bool.and_self]
 ·first | (simp only [outV, uw, bT, cr, tyf, nrm, au, gU, iG, lQ, fx, fy, eT, fK, fZ, nm, seval] <;> rfl) | rfl

def s7 (ah : Gm) : Option (Int) := Option.bind (wI ah.mix) (fun r1 => some r1)
theorem Ch (ah : Gm) (R : Int) (h : s7 ah = some R) : ad Tryz.prog G0 128 [.agg (cGm ah)] (.tree (.lit (.int .i64 R))) := by
 refine ad.runR mixed Tryz.call128 Tryz.func128 rfl (by simp [Tryz.ntmps128]; kernel_rfl) ?_
 obtain ⟨KF, h, kF, kN⟩ := dp h
 simp only [s7] at h
 obtain ⟨r2, o3, h⟩ := optI h kN
 try simp only [hs] at h
 simp only [vz, tyf, nm, seval]
 refine ktA (QM _ _ o3) ?_
 refine aZ (fun tm => tm 5 = .lit (.int .i64 r2) ∧ True) (by refine ⟨?_, trivial⟩ <;> first | (simp only [ua, nm, seval] <;> rfl) | rfl) ?_
 rintro tm ⟨e4, _⟩
 try simp only [vz, tyf, e4, nm, seval]
 refine bG (x := (.lit (.int .i64 r2))) (by first | (simp only [Tryz.results128, resV, resL, av, bL, bM, uw, cr, tyf, nm, seval] <;> rfl) | rfl) ?_
 obtain rfl := kF _ h
 refine bO ?_ ?_
 ·simp only [tre, ar, Bool.and_self]
 ·first | (simp only [outV, uw, bT, cr, tyf, nrm, au, e4, nm, seval] <;> rfl) | rfl
def qe (jo : Int) (jq : Int) (jf : Int) : Option (Bool) := cond (decide (jo ≥ jq)) (some (decide (jo ≤ jf))) (some false)
theorem uu (jo : Int) (jq : Int) (jf : Int) (R : Bool) (h : qe jo jq jf = some R) : ad Tryz.prog G0 65 [.lit (.int .i64 jo), .lit (.int .i64 jq), .lit (.int .i64 jf)] (.tree (.lit (.bool R))) := by
 refine ad.runR mixed Tryz.call65 Tryz.func65 rfl (by simp [Tryz.ntmps65]; kernel_rfl) ?_
 obtain ⟨KF, h, kF, kN⟩ := dp h
 simp only [qe] at h
 cases d1 : (decide (jo ≥ jq))
 ·simp only [d1, hs] at h
  try simp only [vz, tyf, d1, nm, seval]
  obtain rfl := kF _ h
  exact bB Tryz.results65 rfl
 simp only [d1, hs] at h
 try simp only [vz, tyf, d1, nm, seval]
 obtain rfl := kF _ h
 exact bB Tryz.results65 rfl
def oF (ae : GSpan) (fL : Int) : Option (Bool) := Option.bind (qe ae.Low 0 fL) (fun r1 => cond (r1) (Option.bind (qe ae.High ae.Low fL) (fun r2 => some r2)) (some false))
theorem uv (ae : GSpan) (fL : Int) (R : Bool) (h : oF ae fL = some R) : ad Tryz.prog G0 64 [.agg (aK ae), .lit (.int .i64 fL)] (.tree (.lit (.bool R))) := by
 refine ad.runR mixed Tryz.call64 Tryz.func64 rfl (by simp [Tryz.ntmps64]; kernel_rfl) ?_
 obtain ⟨KF, h, kF, kN⟩ := dp h
 simp only [oF] at h
 obtain ⟨r3, o4, h⟩ := optI h kN
 try simp only [hs] at h
 simp only [vz, tyf, nm, seval]
 refine ktA (uu _ _ _ _ o4) ?_
 refine aZ (fun tm => tm 1 = .lit (.int .i64 fL) ∧ tm 2 = .ptr 0 0 ∧ tm 8 = .lit (.bool r3) ∧ True) (by refine ⟨?_, ?_, ?_, trivial⟩ <;> first | (simp only [ua, nm, seval] <;> rfl) | rfl) ?_
 rintro tm ⟨e5, e6, e7, _⟩
 cases d8 : (r3)
 ·simp only [d8, hs] at h
  try simp only [vz, tyf, e5, e6, e7, d8, nm, seval]
  obtain rfl := kF _ h
  exact bB Tryz.results64 rfl
 simp only [d8, hs] at h
 obtain ⟨r9, yB, h⟩ := optI h kN
 try simp only [hs] at h
 simp only [vz, tyf, e5, e6, e7, d8, nm, seval]
 refine ktA (uu _ _ _ _ yB) ?_
 refine aZ (fun tm => tm 9 = .lit (.bool true) ∧ tm 15 = .lit (.bool r9) ∧ True) (by refine ⟨?_, ?_, trivial⟩ <;> first | (simp only [ua, e5, e6, e7, d8, nm, seval] <;> rfl) | rfl) ?_
 rintro tm ⟨bg, aW, _⟩
 try simp only [vz, tyf, d8, bg, aW, nm, seval]
 obtain rfl := kF _ h
 exact bB Tryz.results64 rfl
def Cx (jo : Int) : Option (Bool) := Option.bind (qe jo 1 20) (fun r1 => some r1)
theorem Uv (jo : Int) (R : Bool) (h : Cx jo = some R) : ad Tryz.prog G0 52 [.lit (.int .i64 jo)] (.tree (.lit (.bool R))) := by
 refine ad.runR mixed Tryz.call52 Tryz.func52 rfl (by simp [Tryz.ntmps52]; kernel_rfl) ?_
 obtain ⟨KF, h, kF, kN⟩ := dp h
 simp only [Cx] at h
 obtain ⟨r2, o3, h⟩ := optI h kN
 try simp only [hs] at h
 simp only [vz, tyf, nm, seval]
 refine ktA (uu _ _ _ _ o3) ?_
 refine aZ (fun tm => tm 4 = .lit (.bool r2) ∧ True) (by refine ⟨?_, trivial⟩ <;> first | (simp only [ua, nm, seval] <;> rfl) | rfl) ?_
 rintro tm ⟨e4, _⟩
 try simp only [vz, tyf, e4, nm, seval]
 obtain rfl := kF _ h
 exact bB Tryz.results52 rfl
end Go.V
end
