/- Part of a proof. -/
import Derived.Test.YtlkognggeadanaaGreatDoorGbi
set_option linter.all false
set_option maxRecDepth 4000
set_option maxHeartbeats 40000000
section
namespace Go.V
open Go Go.Proofs IntKind
def vq  : List GLw → Int → Option (LOut (Bool) (Unit))
 | [], fp => some (.go ())
 | e0 :: p0, fp => cond (decide (fp < 6)) (cond (decide ((List.length e0.Signs : Int) > 8)) (some (.ret false)) (cond (decide ((List.length e0.Cuts : Int) > 8)) (some (.ret false)) (vq p0 (fp + 1)))) (some (.go ()))
def xb (ag : GLs) : Option (Bool) := cond (lenOk ag.Words) (lbind (vq ag.Words 0) (fun r2 => some r2) (fun c1 => cond (decide ((List.length ag.Widths : Int) ≤ 8)) (cond (decide ((List.length ag.Pairs : Int) ≤ 8)) (some (decide ((List.length ag.Words : Int) ≤ 6))) (some false)) (some false)) (fun _ _ => none)) none
theorem VQ (ag : GLs) (R : Bool) (h : xb ag = some R) : ad Tryz.prog G0 17 [.agg (cGLs ag)] (.tree (.lit (.bool R))) := by
 refine ad.runR mixed Tryz.call17 Tryz.func17 rfl (by simp [Tryz.ntmps17]; kernel_rfl) ?_
 obtain ⟨KF, h, kF, kN⟩ := dC h
 simp only [xb] at h
 cases g4 : (lenOk ag.Words)
 ·simp only [g4, hs] at h
  exact absurd h kN
 simp only [g4, hs] at h
 simp only [vz, tyf, g4, nm, seval]
 obtain ⟨K3, h, oP, oh, xJ, xK⟩ := fW h kN
 obtain ⟨f3, oQ, h⟩ := call2 h
 obtain ⟨I3, iJ⟩ : ∃ I : Nat → St → Prop, I = (fun m st => ∃ (p3 : List GLw) (gh : Int), m = List.length p3 ∧ 0 ≤ gh ∧ List.drop (Int.toNat gh) ag.Words = p3 ∧ st.df = [] ∧ 3 ≤ st.nx ∧ st.H 0 = some (.cells (some 28) (cGLs ag)) ∧ st.tm 1 = .ptr 0 0 ∧ st.tm 3 = .lit (.int .i64 gh) ∧ K3 (f3 p3 gh)) := ⟨_, rfl⟩
 refine loopK mixed (by kernel_rfl) I3 (List.length ag.Words) (by rw [iJ]; refine ⟨ag.Words, 0, rfl, qZf _, rfl, rfl, (show 3 ≤ 3 by omega), ?_, ?_, ?_, h⟩ <;> first | (simp only [ua, nm, seval] <;> rfl) | rfl) ?_
 rintro m ⟨tm, H, kI, df⟩ hinv
 rw [iJ] at hinv
 obtain ⟨p3, gh, rfl, eG, fj, hdf, oR, H5, e6, e7, h⟩ := hinv
 simp only at hdf oR H5 e6 e7
 have n8 := fX (m := 3) (b := kI) (by omega)
 subst hdf oQ
 cases p3 with
 | nil =>
  have d9 : (decide (gh < (List.length ag.Words : Int))) = false := fc eG fj
  simp only [vq, hs, reduceCtorEq] at h
  replace h := oh _ h
  try dsimp only at h
  try simp only [hs] at h
  cases cm : (decide ((List.length ag.Widths : Int) ≤ 8))
  ·simp only [cm, hs] at h
   try simp only [vz, tyf, g4, n8, e6, e7, H5, d9, cm, nm, seval]
   obtain rfl := kF _ h
   exact bk Tryz.results17 rfl
  simp only [cm, hs] at h
  cases eR : (decide ((List.length ag.Pairs : Int) ≤ 8))
  ·simp only [eR, hs] at h
   try simp only [vz, tyf, g4, n8, e6, e7, H5, d9, cm, eR, nm, seval]
   obtain rfl := kF _ h
   exact bk Tryz.results17 rfl
  simp only [eR, hs] at h
  try simp only [vz, tyf, g4, n8, e6, e7, H5, d9, cm, eR, nm, seval]
  obtain rfl := kF _ h
  exact bk Tryz.results17 rfl
 | cons e3 p3 =>
  have bz : (decide (gh < (List.length ag.Words : Int))) = true := fb eG fj
  have jl := dZ eG fj
  have iD := fe eG fj g4
  simp only [vq, hs, reduceCtorEq] at h
  cases eh : (decide (gh < 6))
  ·simp only [eh, hs] at h
   replace h := oh _ h
   try dsimp only at h
   try simp only [hs] at h
   cases gO : (decide ((List.length ag.Widths : Int) ≤ 8))
   ·simp only [gO, hs] at h
    have VR := And.intro g4 (And.intro n8 (And.intro H5 (And.intro bz (And.intro iD (And.intro eh gO)))))
    try simp only [vz, tyf, VR, e6, e7, (aE jl), nm, seval]
    obtain rfl := kF _ h
    exact bk Tryz.results17 rfl
   simp only [gO, hs] at h
   have RQ := And.intro g4 (And.intro n8 (And.intro H5 (And.intro bz (And.intro iD (And.intro eh gO)))))
   cases f8 : (decide ((List.length ag.Pairs : Int) ≤ 8))
   ·simp only [f8, hs] at h
    try simp only [vz, tyf, RQ, e6, e7, (aE jl), f8, nm, seval]
    obtain rfl := kF _ h
    exact bk Tryz.results17 rfl
   simp only [f8, hs] at h
   try simp only [vz, tyf, RQ, e6, e7, (aE jl), f8, nm, seval]
   obtain rfl := kF _ h
   exact bk Tryz.results17 rfl
  simp only [eh, hs] at h
  cases cw : (decide ((List.length e3.Signs : Int) > 8))
  ·simp only [cw, hs] at h
   have Dv := And.intro g4 (And.intro n8 (And.intro H5 (And.intro bz (And.intro iD (And.intro eh cw)))))
   cases rB : (decide ((List.length e3.Cuts : Int) > 8))
   ·simp only [rB, hs] at h
    simp only [vz, tyf, Dv, e6, e7, (aE jl), rB, nm, seval]
    exact ⟨List.length p3, qZc _, by rw [iJ]; refine ⟨p3, gh + 1, rfl, Int.le_trans eG (Int.le_add_one (qZf _)), bW eG fj, rfl, (show 3 ≤ kI + 30 by omega), ?_, e6, ?_, (by first | exact h | (simp only [Dv, rB]; exact h))⟩ <;> first | (simp only [ua, Dv, e6, e7, rB, nm, seval] <;> rfl) | rfl⟩
   simp only [rB, hs] at h
   try simp only [vz, tyf, Dv, e6, e7, (aE jl), rB, nm, seval]
   replace h := oP _ h
   try dsimp only at h
   obtain rfl := kF _ h
   exact bk Tryz.results17 rfl
  simp only [cw, hs] at h
  have zA := And.intro g4 (And.intro n8 (And.intro H5 (And.intro bz (And.intro iD (And.intro eh cw)))))
  try simp only [vz, tyf, zA, e6, e7, (aE jl), nm, seval]
  replace h := oP _ h
  try dsimp only at h
  obtain rfl := kF _ h
  exact bk Tryz.results17 rfl
def xc (dP : GLx) : Option (Bool) := cond (decide ((List.length dP.Out : Int) ≤ 6)) (some (decide ((List.length dP.Ends : Int) ≤ 10))) (some false)
theorem VS (dP : GLx) (R : Bool) (h : xc dP = some R) : ad Tryz.prog G0 18 [.agg (cGLx dP)] (.tree (.lit (.bool R))) := by
 refine ad.runR mixed Tryz.call18 Tryz.func18 rfl (by simp [Tryz.ntmps18]; kernel_rfl) ?_
 obtain ⟨KF, h, kF, kN⟩ := dC h
 simp only [xc] at h
 cases d1 : (decide ((List.length dP.Out : Int) ≤ 6))
 ·simp only [d1, hs] at h
  try simp only [vz, tyf, d1, nm, seval]
  obtain rfl := kF _ h
  exact bk Tryz.results18 rfl
 simp only [d1, hs] at h
 try simp only [vz, tyf, d1, nm, seval]
 obtain rfl := kF _ h
 exact bk Tryz.results18 rfl
def rl (ag : GLs) (dL : List Int) : List Int → Int → Option (LOut (Bool) (Unit))
 | [], bE => some (.go ())
 | e0 :: p0, bE => Option.bind (kM e0 0 (i64.wrap ((List.length ag.Words : Int) - 1))) (fun r1 => cond (r1) (Option.bind (getI ag.Words e0) (fun x2 => cond (x2.Free) (cond (decide (bE > 0)) (Option.bind (getI dL (i64.wrap (bE - 1))) (fun x3 => cond (decide (e0 ≤ x3)) (some (.ret false)) (rl ag dL p0 (bE + 1)))) (rl ag dL p0 (bE + 1))) (some (.ret false)))) (some (.ret false)))
def zt (ag : GLs) (dL : List Int) : Option (Bool) := cond (lenOk dL) (lbind (rl ag dL dL 0) (fun r5 => some r5) (fun c4 => some (decide ((List.length dL : Int) < (List.length ag.Words : Int)))) (fun _ _ => none)) none
theorem VT (ag : GLs) (dL : List Int) (R : Bool) (h : zt ag dL = some R) : ad Tryz.prog G0 50 [.agg (cGLs ag), .sl (aa eI dL) (List.length dL) false] (.tree (.lit (.bool R))) := by
 refine ad.runRQ mixed Tryz.call50 Tryz.func50 rfl (by simp [Tryz.ntmps50]; kernel_rfl) ?_
 obtain ⟨KF, h, kF, kN⟩ := dC h
 simp only [zt] at h
 cases g7 : (lenOk dL)
 ·simp only [g7, hs] at h
  exact absurd h kN
 simp only [g7, hs] at h
 simp only [vz, tyf, g7, nm, seval]
 obtain ⟨K6, h, uc, ra, GR, iu⟩ := fW h kN
 obtain ⟨f6, ud, h⟩ := call2 h
 obtain ⟨I6, ik⟩ : ∃ I : Nat → St → Prop, I = (fun m st => ∃ (p6 : List Int) (bp : Int), m = List.length p6 ∧ 0 ≤ bp ∧ List.drop (Int.toNat bp) dL = p6 ∧ st.df = [] ∧ 3 ≤ st.nx ∧ st.H 0 = some (.cells (some 28) (cGLs ag)) ∧ st.tm 1 = .sl (aa eI dL) (List.length dL) false ∧ st.tm 2 = .ptr 0 0 ∧ st.tm 5 = .lit (.int .i64 bp) ∧ K6 (f6 p6 bp)) := ⟨_, rfl⟩
 refine loopK mixed (nr (by kernel_rfl)) I6 (List.length dL) (by rw [ik]; refine ⟨dL, 0, rfl, qZf _, rfl, rfl, (show 3 ≤ 3 by omega), ?_, ?_, ?_, ?_, h⟩ <;> first | (simp only [ua, nm, seval] <;> rfl) | rfl) ?_
 rintro m ⟨tm, H, ez, df⟩ hinv
 rw [ik] at hinv
 obtain ⟨p6, bp, rfl, cK, eA, hdf, oe, H8, e9, aZ, bc, h⟩ := hinv
 simp only at hdf oe H8 e9 aZ bc
 have ig := fX (m := 3) (b := ez) (by omega)
 subst hdf ud
 cases p6 with
 | nil =>
  have br : (decide (bp < (List.length dL : Int))) = false := fc cK eA
  simp only [rl, hs, reduceCtorEq] at h
  replace h := ra _ h
  try dsimp only at h
  try simp only [hs] at h
  try simp only [vz, tyf, g7, ig, e9, aZ, bc, H8, br, nm, seval]
  obtain rfl := kF _ h
  exact bk Tryz.results50 rfl
 | cons e6 p6 =>
  have bQ : (decide (bp < (List.length dL : Int))) = true := fb cK eA
  have ia := dZ cK eA
  have ma := fe cK eA g7
  simp only [rl, hs, reduceCtorEq] at h
  simp only [vz, tyf, g7, ig, e9, aZ, bc, H8, bQ, (aA ia), ma, nm, seval]
  refine m3 (fun tm => tm 1 = .sl (aa eI dL) (List.length dL) false ∧ tm 2 = .ptr 0 0 ∧ tm 5 = .lit (.int .i64 bp) ∧ True) (by refine ⟨e9, aZ, bc, trivial⟩ <;> first | (simp only [ua, ig, e9, aZ, bc, H8, bQ, ma, nm, seval] <;> rfl) | rfl) ?_
  rintro tm ⟨cI, cj, dv, _⟩
  obtain ⟨ss, iQ, h⟩ := optI h iu
  try simp only [hs] at h
  simp only [vz, tyf, g7, ig, H8, bQ, (aA ia), ma, cI, cj, dv, nm, seval]
  refine dktA (nn _ _ _ _ iQ) ?_
  refine bw (fun tm => tm 1 = .sl (aa eI dL) (List.length dL) false ∧ tm 2 = .ptr 0 0 ∧ tm 5 = .lit (.int .i64 bp) ∧ tm 20 = .lit (.bool ss) ∧ True) (by refine ⟨cI, cj, dv, ?_, trivial⟩ <;> first | (simp only [ua, ig, H8, bQ, ma, cI, cj, dv, nm, seval] <;> rfl) | rfl) ?_
  rintro tm ⟨cg, cZ, dH, dN, _⟩
  cases ot : (ss)
  ·simp only [ot, hs] at h
   try simp only [vz, tyf, g7, ig, H8, bQ, (aA ia), ma, cg, cZ, dH, dN, ot, nm, seval]
   replace h := uc _ h
   try dsimp only at h
   obtain rfl := kF _ h
   exact bk Tryz.results50 rfl
  simp only [ot, hs] at h
  obtain ⟨VU, Dw, h⟩ := optI h iu
  try simp only [hs] at h
  cases iV : (VU.Free)
  ·simp only [iV, hs] at h
   have VW := And.intro g7 (And.intro ig (And.intro H8 (And.intro bQ (And.intro ma (And.intro ot iV)))))
   try simp only [vz, tyf, VW, (aA ia), cg, cZ, dH, dN, (aE Dw), nm, seval]
   replace h := uc _ h
   try dsimp only at h
   obtain rfl := kF _ h
   exact bk Tryz.results50 rfl
  simp only [iV, hs] at h
  have dJ := And.intro g7 (And.intro ig (And.intro H8 (And.intro bQ (And.intro ma (And.intro ot iV)))))
  cases eJ : (decide (bp > 0))
  ·simp only [eJ, hs] at h
   simp only [vz, tyf, dJ, (aA ia), cg, cZ, dH, dN, (aE Dw), eJ, nm, seval]
   exact ⟨List.length p6, qZc _, by rw [ik]; refine ⟨p6, bp + 1, rfl, Int.le_trans cK (Int.le_add_one (qZf _)), bW cK eA, rfl, (show 3 ≤ ez + 45 by omega), ?_, cg, cZ, ?_, (by first | exact h | (simp only [dJ, eJ]; exact h))⟩ <;> first | (simp only [ua, dJ, cg, cZ, dH, dN, eJ, nm, seval] <;> rfl) | rfl | (simp only [ua, tyf, dJ, cg, cZ, dH, dN, eJ, nm, seval] <;> rfl)⟩
  simp only [eJ, hs] at h
  obtain ⟨VX, RT, h⟩ := optI h iu
  try simp only [hs] at h
  cases gU : (decide (e6 ≤ VX))
  ·simp only [gU, hs] at h
   simp only [vz, tyf, dJ, (aA ia), cg, cZ, dH, dN, (aE Dw), eJ, (aA RT), gU, nm, seval]
   exact ⟨List.length p6, qZc _, by rw [ik]; refine ⟨p6, bp + 1, rfl, Int.le_trans cK (Int.le_add_one (qZf _)), bW cK eA, rfl, (show 3 ≤ ez + 45 by omega), ?_, cg, cZ, ?_, (by first | exact h | (simp only [dJ, eJ, gU]; exact h))⟩ <;> first | (simp only [ua, dJ, cg, cZ, dH, dN, eJ, gU, nm, seval] <;> rfl) | rfl | (simp only [ua, tyf, dJ, cg, cZ, dH, dN, eJ, gU, nm, seval] <;> rfl)⟩
  simp only [gU, hs] at h
  try simp only [vz, tyf, dJ, (aA ia), cg, cZ, dH, dN, (aE Dw), eJ, (aA RT), gU, nm, seval]
  replace h := uc _ h
  try dsimp only at h
  obtain rfl := kF _ h
  exact bk Tryz.results50 rfl
def w9 (ej : Int) : List Int → Int → Option (LOut (Bool) (Unit))
 | [], bE => some (.go ())
 | e0 :: p0, bE => cond (e0 == ej) (some (.ret true)) (w9 ej p0 (bE + 1))
def sA (aq : List Int) (ej : Int) : Option (Bool) := cond (lenOk aq) (lbind (w9 ej aq 0) (fun r2 => some r2) (fun c1 => some false) (fun _ _ => none)) none
theorem Dx (aq : List Int) (ej : Int) (R : Bool) (h : sA aq ej = some R) : ad Tryz.prog G0 77 [.sl (aa eI aq) (List.length aq) false, .lit (.int .i64 ej)] (.tree (.lit (.bool R))) := by
 refine ad.runR mixed Tryz.call77 Tryz.func77 rfl (by simp [Tryz.ntmps77]; kernel_rfl) ?_
 obtain ⟨KF, h, kF, kN⟩ := dC h
 simp only [sA] at h
 cases g4 : (lenOk aq)
 ·simp only [g4, hs] at h
  exact absurd h kN
 simp only [g4, hs] at h
 simp only [vz, tyf, g4, nm, seval]
 obtain ⟨K3, h, oP, oh, xJ, xK⟩ := fW h kN
 obtain ⟨f3, oQ, h⟩ := call2 h
 obtain ⟨I3, iJ⟩ : ∃ I : Nat → St → Prop, I = (fun m st => ∃ (p3 : List Int) (lg : Int), m = List.length p3 ∧ 0 ≤ lg ∧ List.drop (Int.toNat lg) aq = p3 ∧ st.df = [] ∧ 2 ≤ st.nx ∧ st.tm 0 = .sl (aa eI aq) (List.length aq) false ∧ st.tm 1 = .lit (.int .i64 ej) ∧ st.tm 5 = .lit (.int .i64 lg) ∧ K3 (f3 p3 lg)) := ⟨_, rfl⟩
 refine loopK mixed (by kernel_rfl) I3 (List.length aq) (by rw [iJ]; refine ⟨aq, 0, rfl, qZf _, rfl, rfl, (show 2 ≤ 2 by omega), ?_, ?_, ?_, h⟩ <;> first | (simp only [ua, nm, seval] <;> rfl) | rfl) ?_
 rintro m ⟨tm, H, kI, df⟩ hinv
 rw [iJ] at hinv
 obtain ⟨p3, lg, rfl, eG, fj, hdf, oR, e5, e6, e7, h⟩ := hinv
 simp only at hdf oR e5 e6 e7
 have n8 := fX (m := 2) (b := kI) (by omega)
 subst hdf oQ
 cases p3 with
 | nil =>
  have d9 : (decide (lg < (List.length aq : Int))) = false := fc eG fj
  simp only [w9, hs, reduceCtorEq] at h
  replace h := oh _ h
  try dsimp only at h
  try simp only [hs] at h
  try simp only [vz, tyf, g4, n8, e5, e6, e7, d9, nm, seval]
  obtain rfl := kF _ h
  exact bk Tryz.results77 rfl
 | cons e3 p3 =>
  have cm : (decide (lg < (List.length aq : Int))) = true := fb eG fj
  have iz := dZ eG fj
  have Lf := fe eG fj g4
  simp only [w9, hs, reduceCtorEq] at h
  cases br : (e3 == ej)
  ·simp only [br, hs] at h
   simp only [vz, tyf, g4, n8, e5, e6, e7, cm, (aA iz), Lf, br, nm, seval]
   exact ⟨List.length p3, qZc _, by rw [iJ]; refine ⟨p3, lg + 1, rfl, Int.le_trans eG (Int.le_add_one (qZf _)), bW eG fj, rfl, (show 2 ≤ kI + 13 by omega), e5, e6, ?_, (by first | exact h | (simp only [cm, br]; exact h))⟩ <;> first | (simp only [ua, n8, e5, e6, e7, cm, Lf, br, nm, seval] <;> rfl) | rfl⟩
  simp only [br, hs] at h
  try simp only [vz, tyf, g4, n8, e5, e6, e7, cm, (aA iz), Lf, br, nm, seval]
  replace h := oP _ h
  try dsimp only at h
  obtain rfl := kF _ h
  exact bk Tryz.results77 rfl
def Bd (bg : GLe) (bn : GLe) : Option (Bool) := cond (decide (bg.Word < bn.Word)) (some true) (cond (bg.Word == bn.Word) (some (decide (bg.Letters < bn.Letters))) (some false))
theorem VY (bg : GLe) (bn : GLe) (R : Bool) (h : Bd bg bn = some R) : ad Tryz.prog G0 78 [.agg (cGLe bg), .agg (cGLe bn)] (.tree (.lit (.bool R))) := by
 refine ad.runR mixed Tryz.call78 Tryz.func78 rfl (by simp [Tryz.ntmps78]; kernel_rfl) ?_
 obtain ⟨KF, h, kF, kN⟩ := dC h
 simp only [Bd] at h
 cases d1 : (decide (bg.Word < bn.Word))
 ·simp only [d1, hs] at h
  cases d2 : (bg.Word == bn.Word)
  ·simp only [d2, hs] at h
   try simp only [vz, tyf, d1, d2, nm, seval]
   obtain rfl := kF _ h
   exact bk Tryz.results78 rfl
  simp only [d2, hs] at h
  try simp only [vz, tyf, d1, d2, nm, seval]
  obtain rfl := kF _ h
  exact bk Tryz.results78 rfl
 simp only [d1, hs] at h
 try simp only [vz, tyf, d1, nm, seval]
 obtain rfl := kF _ h
 exact bk Tryz.results78 rfl
def wP (aD : List Int) : Nat → Int → Option (LOut (Int) (Int))
 | 0, _ => none
 | k0 + 1, bE => Option.bind (sA aD bE) (fun r1 => cond (r1) (wP aD k0 (i64.wrap (bE - 1))) (some (.go bE)))
def Dy (ag : GLs) (aD : List Int) : Option (Int) := lbind (wP aD 1000000 (i64.wrap ((List.length ag.Words : Int) - 1))) (fun r3 => some r3) (fun c2 => some c2) (fun _ _ => none)
theorem VZ (ag : GLs) (aD : List Int) (R : Int) (h : Dy ag aD = some R) : ad Tryz.prog G0 79 [.agg (cGLs ag), .sl (aa eI aD) (List.length aD) false] (.tree (.lit (.int .i64 R))) := by
 refine ad.runR mixed Tryz.call79 Tryz.func79 rfl (by simp [Tryz.ntmps79]; kernel_rfl) ?_
 obtain ⟨KF, h, kF, kN⟩ := dC h
 simp only [Dy] at h
 simp only [vz, tyf, nm, seval]
 obtain ⟨K4, h, R7, Kv, Vy, Dl⟩ := fW h kN
 obtain ⟨f4, Kw, h⟩ := call2 h
 obtain ⟨I4, uX⟩ : ∃ I : Nat → St → Prop, I = (fun m st => ∃ (p4 : Nat) (nD : Int), p4 = m ∧ st.df = [] ∧ 7 ≤ st.nx ∧ st.tm 1 = .sl (aa eI aD) (List.length aD) false ∧ st.tm 5 = .lit (.int .i64 nD) ∧ K4 (f4 p4 nD)) := ⟨_, rfl⟩
 refine loopK mixed (by kernel_rfl) I4 1000000 (by rw [uX]; refine ⟨1000000, i64.wrap ((List.length ag.Words : Int) - 1), rfl, rfl, (show 7 ≤ 7 by omega), ?_, ?_, h⟩ <;> first | (simp only [ua, nm, seval] <;> rfl) | rfl) ?_
 rintro m ⟨tm, H, AX, df⟩ hinv
 rw [uX] at hinv
 obtain ⟨p4, nD, rfl, hdf, Kx, e5, e6, h⟩ := hinv
 simp only at hdf Kx e5 e6
 have n7 := fX (m := 7) (b := AX) (by omega)
 subst hdf Kw
 cases p4 with
 | zero =>
  simp only [wP, hs, reduceCtorEq] at h
  exact absurd h Dl
 | succ p4 =>
  simp only [wP, hs, reduceCtorEq] at h
  obtain ⟨r8, o9, h⟩ := optI h Dl
  try simp only [hs] at h
  simp only [vz, tyf, n7, e5, e6, nm, seval]
  refine ktA (Dx _ _ _ o9) ?_
  refine bw (fun tm => tm 1 = .sl (aa eI aD) (List.length aD) false ∧ tm 5 = .lit (.int .i64 nD) ∧ tm 12 = .lit (.bool r8) ∧ True) (by refine ⟨e5, e6, ?_, trivial⟩ <;> first | (simp only [ua, n7, e5, e6, nm, seval] <;> rfl) | rfl) ?_
  rintro tm ⟨aZ, bc, bT, _⟩
  cases br : (r8)
  ·simp only [br, hs] at h
   replace h := Kv _ h
   try dsimp only at h
   try simp only [hs] at h
   try simp only [vz, tyf, n7, aZ, bc, bT, br, nm, seval]
   refine cX (x := (.lit (.int .i64 nD))) (by first | (simp only [Tryz.results79, resV, resL, aG, d6, dA, uw, cr, tyf, n7, br, nm, seval] <;> rfl) | rfl) ?_
   obtain rfl := kF _ h
   refine dB ?_ ?_
   ·simp only [tre, ar, Bool.and_self]
   ·first | (simp only [outV, uw, eF, cr, tyf, nrm, an, n7, aZ, bc, bT, br, nm, seval] <;> rfl) | rfl
  simp only [br, hs] at h
  simp only [vz, tyf, n7, aZ, bc, bT, br, nm, seval]
  exact ⟨p4, qZc _, by rw [uX]; refine ⟨p4, i64.wrap (nD - 1), rfl, rfl, (show 7 ≤ AX + 6 by omega), aZ, ?_, (by first | exact h | (simp only [br]; exact h))⟩ <;> first | (simp only [ua, n7, aZ, bc, bT, br, nm, seval] <;> rfl) | rfl⟩
def pW (ag : GLs) (aB : GLx) : List GLe → Int → Option (LOut (Bool) (Unit))
 | [], bE => some (.go ())
 | e0 :: p0, bE => Option.bind (kM e0.Word 0 (i64.wrap ((List.length ag.Words : Int) - 1))) (fun r2 => cond (r2) (Option.bind (sA aB.Out e0.Word) (fun r3 => cond (r3) (some (.ret false)) (cond (decide (bE > 0)) (Option.bind (getI aB.Ends (i64.wrap (bE - 1))) (fun x4 => Option.bind (Bd x4 e0) (fun r5 => cond (r5) (Option.bind (getI ag.Words e0.Word) (fun x6 => cond (e0.Letters != (List.length x6.Signs : Int)) (Option.bind (sA x6.Cuts e0.Letters) (fun r7 => cond (r7) (pW ag aB p0 (bE + 1)) (some (.ret false)))) (pW ag aB p0 (bE + 1)))) (some (.ret false))))) (Option.bind (getI ag.Words e0.Word) (fun x8 => cond (e0.Letters != (List.length x8.Signs : Int)) (Option.bind (sA x8.Cuts e0.Letters) (fun r9 => cond (r9) (pW ag aB p0 (bE + 1)) (some (.ret false)))) (pW ag aB p0 (bE + 1))))))) (some (.ret false)))
def Be (ag : GLs) (aB : GLx) : Option (Bool) := Option.bind (zt ag aB.Out) (fun r1 => cond (r1) (cond ((List.length aB.Ends : Int) == 0) (some false) (cond (lenOk aB.Ends) (lbind (pW ag aB aB.Ends 0) (fun iO => some iO) (fun JB => Option.bind (Dy ag aB.Out) (fun nh => Option.bind (getI aB.Ends (i64.wrap ((List.length aB.Ends : Int) - 1))) (fun RU => Option.bind (getI ag.Words nh) (fun Wa => some (RU.Word == nh && (RU.Letters == (List.length Wa.Signs : Int))))))) (fun _ _ => none)) none)) (some false))
theorem Wb (ag : GLs) (aB : GLx) (R : Bool) (h : Be ag aB = some R) : ad Tryz.prog G0 23 [.agg (cGLs ag), .agg (cGLx aB)] (.tree (.lit (.bool R))) := by
 refine ad.runRQ mixed Tryz.call23 Tryz.func23 rfl (by simp [Tryz.ntmps23]; kernel_rfl) ?_
 obtain ⟨KF, h, kF, kN⟩ := dC h
 simp only [Be] at h
 obtain ⟨th, ia, h⟩ := optI h kN
 try simp only [hs] at h
 simp only [vz, tyf, nm, seval]
 refine ktA (VT _ _ _ ia) ?_
 refine bw (fun tm => tm 2 = .ptr 0 0 ∧ tm 3 = .ptr 1 0 ∧ tm 12 = .lit (.bool th) ∧ True) (by refine ⟨?_, ?_, ?_, trivial⟩ <;> first | (simp only [ua, nm, seval] <;> rfl) | rfl) ?_
 rintro tm ⟨cI, cj, dv, _⟩
 cases cw : (th)
 ·simp only [cw, hs] at h
  try simp only [vz, tyf, cI, cj, dv, cw, nm, seval]
  obtain rfl := kF _ h
  exact bk Tryz.results23 rfl
 simp only [cw, hs] at h
 cases gj : ((List.length aB.Ends : Int) == 0)
 ·simp only [gj, hs] at h
  cases kR : (lenOk aB.Ends)
  ·simp only [kR, hs] at h
   exact absurd h kN
  simp only [kR, hs] at h
  simp only [vz, tyf, cI, cj, dv, cw, gj, kR, nm, seval]
  obtain ⟨Fq, h, md, tP, Fs, j0⟩ := fW h kN
  obtain ⟨Ft, tQ, h⟩ := call2 h
  obtain ⟨Fu, j1⟩ : ∃ I : Nat → St → Prop, I = (fun m st => ∃ (iT : List GLe) (cP : Int), m = List.length iT ∧ 0 ≤ cP ∧ List.drop (Int.toNat cP) aB.Ends = iT ∧ st.df = [] ∧ 15 ≤ st.nx ∧ st.H 0 = some (.cells (some 28) (cGLs ag)) ∧ st.H 1 = some (.cells (some 31) (cGLx aB)) ∧ st.tm 2 = .ptr 0 0 ∧ st.tm 3 = .ptr 1 0 ∧ st.tm 5 = .lit (.int .i64 cP) ∧ Fq (Ft iT cP)) := ⟨_, rfl⟩
  refine loopK mixed (nr (by kernel_rfl)) Fu (List.length aB.Ends) (by rw [j1]; refine ⟨aB.Ends, 0, rfl, qZf _, rfl, rfl, (show 15 ≤ 15 by omega), ?_, ?_, cI, cj, ?_, h⟩ <;> first | (simp only [ua, cI, cj, dv, cw, gj, nm, seval] <;> rfl) | rfl) ?_
  rintro m ⟨tm, H, gT, df⟩ hinv
  rw [j1] at hinv
  obtain ⟨iT, cP, rfl, eT, gu, hdf, tR, me, uY, dI, ec, eQ, h⟩ := hinv
  simp only at hdf tR me uY dI ec eQ
  have wQ := fX (m := 15) (b := gT) (by omega)
  subst hdf tQ
  cases iT with
  | nil =>
   have tL : (decide (cP < (List.length aB.Ends : Int))) = false := fc eT gu
   simp only [pW, hs, reduceCtorEq] at h
   replace h := tP _ h
   try dsimp only at h
   try simp only [hs] at h
   obtain ⟨RV, sw, h⟩ := optI h kN
   try simp only [hs] at h
   simp only [vz, tyf, cw, gj, kR, wQ, dI, ec, eQ, me, uY, tL, nm, seval]
   refine ktA (VZ _ _ _ sw) ?_
   refine bw (fun tm => tm 2 = .ptr 0 0 ∧ tm 3 = .ptr 1 0 ∧ tm 85 = .lit (.int .i64 RV) ∧ True) (by refine ⟨dI, ec, ?_, trivial⟩ <;> first | (simp only [ua, cw, gj, wQ, dI, ec, eQ, me, uY, tL, nm, seval] <;> rfl) | rfl) ?_
   rintro tm ⟨ga, gQ, lT, _⟩
   have Lg := And.intro cw (And.intro gj (And.intro kR (And.intro wQ (And.intro me (And.intro uY tL)))))
   simp only [vz, tyf, Lg, ga, gQ, lT, nm, seval]
   refine m3 (fun tm => tm 2 = .ptr 0 0 ∧ tm 3 = .ptr 1 0 ∧ tm 8 = .lit (.int .i64 RV) ∧ True) (by refine ⟨ga, gQ, ?_, trivial⟩ <;> first | (simp only [ua, Lg, ga, gQ, lT, nm, seval] <;> rfl) | rfl) ?_
   rintro tm ⟨cb, bH, bR, _⟩
   obtain ⟨XL, Wc, h⟩ := optI h kN
   try simp only [hs] at h
   obtain ⟨XM, Fv, h⟩ := optI h kN
   try simp only [hs] at h
   try simp only [vz, tyf, Lg, cb, bH, bR, (aJ Wc), (aE Fv), nm, seval]
   obtain rfl := kF _ h
   exact bk Tryz.results23 rfl
  | cons cg iT =>
   have sq : (decide (cP < (List.length aB.Ends : Int))) = true := fb eT gu
   have mn := dZ eT gu
   have Lh := fe eT gu kR
   simp only [pW, hs, reduceCtorEq] at h
   simp only [vz, tyf, cw, gj, kR, wQ, dI, ec, eQ, me, uY, sq, (aJ mn), Lh, nm, seval]
   refine m3 (fun tm => tm 2 = .ptr 0 0 ∧ tm 3 = .ptr 1 0 ∧ tm 5 = .lit (.int .i64 cP) ∧ tm 6 = .ptr (gT + 10) 0 ∧ True) (by refine ⟨dI, ec, eQ, ?_, trivial⟩ <;> first | (simp only [ua, cw, gj, wQ, dI, ec, eQ, me, uY, sq, Lh, nm, seval] <;> rfl) | rfl) ?_
   rintro tm ⟨jx, ie, fZ, jk, _⟩
   have gm := And.intro cw (And.intro gj (And.intro kR (And.intro wQ (And.intro me (And.intro uY (And.intro sq Lh))))))
   obtain ⟨tJ, xY, h⟩ := optI h j0
   try simp only [hs] at h
   simp only [vz, tyf, gm, (aJ mn), jx, ie, fZ, jk, nm, seval]
   refine dktA (nn _ _ _ _ xY) ?_
   refine bw (fun tm => tm 2 = .ptr 0 0 ∧ tm 3 = .ptr 1 0 ∧ tm 5 = .lit (.int .i64 cP) ∧ tm 6 = .ptr (gT + 10) 0 ∧ tm 38 = .lit (.bool tJ) ∧ True) (by refine ⟨jx, ie, fZ, jk, ?_, trivial⟩ <;> first | (simp only [ua, gm, jx, ie, fZ, jk, nm, seval] <;> rfl) | rfl) ?_
   rintro tm ⟨jA, lU, kK, jz, jB, _⟩
   cases fE : (tJ)
   ·simp only [fE, hs] at h
    try simp only [vz, tyf, gm, (aJ mn), jA, lU, kK, jz, jB, fE, nm, seval]
    replace h := md _ h
    try dsimp only at h
    obtain rfl := kF _ h
    exact bk Tryz.results23 rfl
   simp only [fE, hs] at h
   obtain ⟨yj, Fx, h⟩ := optI h j0
   try simp only [hs] at h
   simp only [vz, tyf, gm, (aJ mn), jA, lU, kK, jz, jB, fE, nm, seval]
   refine dktA (Dx _ _ _ Fx) ?_
   refine bw (fun tm => tm 2 = .ptr 0 0 ∧ tm 3 = .ptr 1 0 ∧ tm 5 = .lit (.int .i64 cP) ∧ tm 6 = .ptr (gT + 10) 0 ∧ tm 40 = .lit (.bool false) ∧ tm 45 = .lit (.bool yj) ∧ True) (by refine ⟨jA, lU, kK, jz, ?_, ?_, trivial⟩ <;> first | (simp only [ua, gm, jA, lU, kK, jz, jB, fE, nm, seval] <;> rfl) | rfl) ?_
   rintro tm ⟨fC, fS, gI, kG, kW, lH, _⟩
   cases jn : (yj)
   ·simp only [jn, hs] at h
    cases eW : (decide (cP > 0))
    ·simp only [eW, hs] at h
     obtain ⟨nC, mP, h⟩ := optI h j0
     try simp only [hs] at h
     cases pZ : (cg.Letters != (List.length nC.Signs : Int))
     ·simp only [pZ, hs] at h
      simp only [vz, tyf, gm, (aJ mn), fE, fC, fS, gI, kG, kW, lH, jn, eW, (aE mP), pZ, nm, seval]
      exact ⟨List.length iT, qZc _, by rw [j1]; refine ⟨iT, cP + 1, rfl, Int.le_trans eT (Int.le_add_one (qZf _)), bW eT gu, rfl, (show 15 ≤ gT + 67 by omega), ?_, ?_, fC, fS, ?_, (by first | exact h | (simp only [gm, fE, jn, eW, pZ]; exact h))⟩ <;> first | (simp only [ua, gm, fE, fC, fS, gI, kG, kW, lH, jn, eW, pZ, nm, seval] <;> rfl) | rfl⟩
     simp only [pZ, hs] at h
     obtain ⟨RW, Wd, h⟩ := optI h j0
     try simp only [hs] at h
     simp only [vz, tyf, gm, (aJ mn), fE, fC, fS, gI, kG, kW, lH, jn, eW, (aE mP), pZ, nm, seval]
     refine ktA (Dx _ _ _ Wd) ?_
     refine bw (fun tm => tm 2 = .ptr 0 0 ∧ tm 3 = .ptr 1 0 ∧ tm 5 = .lit (.int .i64 cP) ∧ tm 74 = .lit (.bool true) ∧ tm 79 = .lit (.bool RW) ∧ True) (by refine ⟨fC, fS, gI, ?_, ?_, trivial⟩ <;> first | (simp only [ua, gm, fE, fC, fS, gI, kG, kW, lH, jn, eW, pZ, nm, seval] <;> rfl) | rfl) ?_
     rintro tm ⟨iM, fm, dD, dO, bZ, _⟩
     cases wR : (RW)
     ·simp only [wR, hs] at h
      try simp only [vz, tyf, gm, (aJ mn), fE, jn, eW, (aE mP), pZ, iM, fm, dD, dO, bZ, wR, nm, seval]
      replace h := md _ h
      try dsimp only at h
      obtain rfl := kF _ h
      exact bk Tryz.results23 rfl
     simp only [wR, hs] at h
     simp only [vz, tyf, gm, (aJ mn), fE, jn, eW, (aE mP), pZ, iM, fm, dD, dO, bZ, wR, nm, seval]
     exact ⟨List.length iT, qZc _, by rw [j1]; refine ⟨iT, cP + 1, rfl, Int.le_trans eT (Int.le_add_one (qZf _)), bW eT gu, rfl, (show 15 ≤ gT + 67 by omega), ?_, ?_, iM, fm, ?_, (by first | exact h | (simp only [gm, fE, jn, eW, pZ, wR]; exact h))⟩ <;> first | (simp only [ua, gm, fE, jn, eW, pZ, iM, fm, dD, dO, bZ, wR, nm, seval] <;> rfl) | rfl⟩
    simp only [eW, hs] at h
    obtain ⟨XN, wS, h⟩ := optI h j0
    try simp only [hs] at h
    obtain ⟨RX, We, h⟩ := optI h j0
    try simp only [hs] at h
    simp only [vz, tyf, gm, (aJ mn), fE, fC, fS, gI, kG, kW, lH, jn, eW, (aJ wS), nm, seval]
    refine dktA (VY _ _ _ We) ?_
    refine bw (fun tm => tm 2 = .ptr 0 0 ∧ tm 3 = .ptr 1 0 ∧ tm 5 = .lit (.int .i64 cP) ∧ tm 6 = .ptr (gT + 10) 0 ∧ tm 47 = .lit (.bool false) ∧ tm 50 = .lit (.bool true) ∧ tm 58 = .lit (.bool RX) ∧ True) (by refine ⟨fC, fS, gI, kG, ?_, ?_, ?_, trivial⟩ <;> first | (simp only [ua, gm, fE, fC, fS, gI, kG, kW, lH, jn, eW, nm, seval] <;> rfl) | rfl) ?_
    rintro tm ⟨cM, cy, cH, fF, Bf, Bg, Bh, _⟩
    cases qF : (RX)
    ·simp only [qF, hs] at h
     try simp only [vz, tyf, gm, (aJ mn), fE, jn, eW, (aJ wS), cM, cy, cH, fF, Bf, Bg, Bh, qF, nm, seval]
     replace h := md _ h
     try dsimp only at h
     obtain rfl := kF _ h
     exact bk Tryz.results23 rfl
    simp only [qF, hs] at h
    obtain ⟨Wf, vW, h⟩ := optI h j0
    try simp only [hs] at h
    cases lE : (cg.Letters != (List.length Wf.Signs : Int))
    ·simp only [lE, hs] at h
     simp only [vz, tyf, gm, (aJ mn), fE, jn, eW, (aJ wS), cM, cy, cH, fF, Bf, Bg, Bh, qF, (aE vW), lE, nm, seval]
     exact ⟨List.length iT, qZc _, by rw [j1]; refine ⟨iT, cP + 1, rfl, Int.le_trans eT (Int.le_add_one (qZf _)), bW eT gu, rfl, (show 15 ≤ gT + 67 by omega), ?_, ?_, cM, cy, ?_, (by first | exact h | (simp only [gm, fE, jn, eW, qF, lE]; exact h))⟩ <;> first | (simp only [ua, gm, fE, jn, eW, cM, cy, cH, fF, Bf, Bg, Bh, qF, lE, nm, seval] <;> rfl) | rfl⟩
    simp only [lE, hs] at h
    obtain ⟨RY, w8, h⟩ := optI h j0
    try simp only [hs] at h
    simp only [vz, tyf, gm, (aJ mn), fE, jn, eW, (aJ wS), cM, cy, cH, fF, Bf, Bg, Bh, qF, (aE vW), lE, nm, seval]
    refine ktA (Dx _ _ _ w8) ?_
    refine bw (fun tm => tm 2 = .ptr 0 0 ∧ tm 3 = .ptr 1 0 ∧ tm 5 = .lit (.int .i64 cP) ∧ tm 74 = .lit (.bool true) ∧ tm 79 = .lit (.bool RY) ∧ True) (by refine ⟨cM, cy, cH, ?_, ?_, trivial⟩ <;> first | (simp only [ua, gm, fE, jn, eW, cM, cy, cH, fF, Bf, Bg, Bh, qF, lE, nm, seval] <;> rfl) | rfl) ?_
    rintro tm ⟨Dz, D0, uZ, va, vb, _⟩
    cases rC : (RY)
    ·simp only [rC, hs] at h
     have Li := And.intro gm (And.intro fE (And.intro jn (And.intro eW (And.intro qF (And.intro lE rC)))))
     try simp only [vz, tyf, Li, (aJ mn), (aJ wS), (aE vW), Dz, D0, uZ, va, vb, nm, seval]
     replace h := md _ h
     try dsimp only at h
     obtain rfl := kF _ h
     exact bk Tryz.results23 rfl
    simp only [rC, hs] at h
    have vc := And.intro gm (And.intro fE (And.intro jn (And.intro eW (And.intro qF (And.intro lE rC)))))
    simp only [vz, tyf, vc, (aJ mn), (aJ wS), (aE vW), Dz, D0, uZ, va, vb, nm, seval]
    exact ⟨List.length iT, qZc _, by rw [j1]; refine ⟨iT, cP + 1, rfl, Int.le_trans eT (Int.le_add_one (qZf _)), bW eT gu, rfl, (show 15 ≤ gT + 67 by omega), ?_, ?_, Dz, D0, ?_, (by first | exact h | (simp only [vc]; exact h))⟩ <;> first | (simp only [ua, vc, Dz, D0, uZ, va, vb, nm, seval] <;> rfl) | rfl⟩
   simp only [jn, hs] at h
   try simp only [vz, tyf, gm, (aJ mn), fE, fC, fS, gI, kG, kW, lH, jn, nm, seval]
   replace h := md _ h
   try dsimp only at h
   obtain rfl := kF _ h
   exact bk Tryz.results23 rfl
 simp only [gj, hs] at h
 try simp only [vz, tyf, cI, cj, dv, cw, gj, nm, seval]
 obtain rfl := kF _ h
 exact bk Tryz.results23 rfl
def vr (ag : GLs) (bF : GLx) : Option (Bool) := Option.bind (xb ag) (fun r1 => cond (r1) (Option.bind (xc bF) (fun r2 => cond (r2) (Option.bind (yi ag) (fun r3 => cond (r3) (Option.bind (Be ag bF) (fun r4 => some r4)) (some false))) (some false))) (some false))
theorem U4 (ag : GLs) (bF : GLx) (R : Bool) (h : vr ag bF = some R) : ad Tryz.prog G0 27 [.agg (cGLs ag), .agg (cGLx bF)] (.tree (.lit (.bool R))) := by
 refine ad.runR mixed Tryz.call27 Tryz.func27 rfl (by simp [Tryz.ntmps27]; kernel_rfl) ?_
 obtain ⟨KF, h, kF, kN⟩ := dC h
 simp only [vr] at h
 obtain ⟨r5, o6, h⟩ := optI h kN
 try simp only [hs] at h
 simp only [vz, tyf, nm, seval]
 refine ktA (VQ _ _ o6) ?_
 refine bw (fun tm => tm 2 = .ptr 0 0 ∧ tm 3 = .ptr 1 0 ∧ tm 6 = .lit (.bool r5) ∧ True) (by refine ⟨?_, ?_, ?_, trivial⟩ <;> first | (simp only [ua, nm, seval] <;> rfl) | rfl) ?_
 rintro tm ⟨e7, e8, e9, _⟩
 cases cm : (r5)
 ·simp only [cm, hs] at h
  try simp only [vz, tyf, e7, e8, e9, cm, nm, seval]
  obtain rfl := kF _ h
  exact bk Tryz.results27 rfl
 simp only [cm, hs] at h
 obtain ⟨nh, iz, h⟩ := optI h kN
 try simp only [hs] at h
 simp only [vz, tyf, e7, e8, e9, cm, nm, seval]
 refine ktA (VS _ _ iz) ?_
 refine bw (fun tm => tm 2 = .ptr 0 0 ∧ tm 3 = .ptr 1 0 ∧ tm 7 = .lit (.bool true) ∧ tm 9 = .lit (.bool nh) ∧ True) (by refine ⟨e7, e8, ?_, ?_, trivial⟩ <;> first | (simp only [ua, e7, e8, e9, cm, nm, seval] <;> rfl) | rfl) ?_
 rintro tm ⟨bC, cG, dM, da, _⟩
 cases fg : (nh)
 ·simp only [fg, hs] at h
  try simp only [vz, tyf, cm, bC, cG, dM, da, fg, nm, seval]
  obtain rfl := kF _ h
  exact bk Tryz.results27 rfl
 simp only [fg, hs] at h
 obtain ⟨RZ, oV, h⟩ := optI h kN
 try simp only [hs] at h
 simp only [vz, tyf, cm, bC, cG, dM, da, fg, nm, seval]
 refine ktA (TN _ _ oV) ?_
 refine bw (fun tm => tm 2 = .ptr 0 0 ∧ tm 3 = .ptr 1 0 ∧ tm 11 = .lit (.bool true) ∧ tm 13 = .lit (.bool RZ) ∧ True) (by refine ⟨bC, cG, ?_, ?_, trivial⟩ <;> first | (simp only [ua, cm, bC, cG, dM, da, fg, nm, seval] <;> rfl) | rfl) ?_
 rintro tm ⟨gJ, dQ, cg, cZ, _⟩
 cases lG : (RZ)
 ·simp only [lG, hs] at h
  try simp only [vz, tyf, cm, fg, gJ, dQ, cg, cZ, lG, nm, seval]
  obtain rfl := kF _ h
  exact bk Tryz.results27 rfl
 simp only [lG, hs] at h
 obtain ⟨CK, ke, h⟩ := optI h kN
 try simp only [hs] at h
 simp only [vz, tyf, cm, fg, gJ, dQ, cg, cZ, lG, nm, seval]
 refine ktA (Wb _ _ _ ke) ?_
 refine bw (fun tm => tm 15 = .lit (.bool true) ∧ tm 18 = .lit (.bool CK) ∧ True) (by refine ⟨?_, ?_, trivial⟩ <;> first | (simp only [ua, cm, fg, gJ, dQ, cg, cZ, lG, nm, seval] <;> rfl) | rfl) ?_
 rintro tm ⟨ec, eQ, _⟩
 try simp only [vz, tyf, cm, fg, lG, ec, eQ, nm, seval]
 obtain rfl := kF _ h
 exact bk Tryz.results27 rfl
theorem sJ (a n b : Int) : m7 a n b = some (inB a b n) := by
 unfold m7 inB
 cases decide (a ≤ n) <;> rfl
theorem in_eq (n a b : Int) : kM n a b = some (inB a b n) := by
 unfold kM inB
 show cond (decide (a ≤ n)) _ _ = _
 cases decide (a ≤ n) <;> rfl
def spanB (m : Int) (x : GSpan) : Bool := decide (0 ≤ x.Low) && (decide (x.Low ≤ x.High) && decide (x.High ≤ m))
theorem Lj (x : GSpan) (m : Int) : t7 0 x m = some (spanB m x) := by
 unfold t7 spanB
 cases decide (0 ≤ x.Low) <;> cases decide (x.Low ≤ x.High) <;> rfl
theorem vd (x : GSpan) (m : Int) : tM x m = some (spanB m x) := by
 unfold tM
 simp only [in_eq, Option.bind_some]
 by_cases h1 : 0 ≤ x.Low <;> by_cases h2 : x.Low ≤ x.High <;> by_cases h3 : x.High ≤ m <;> by_cases h4 : x.Low ≤ m <;> simp [inB, spanB, h1, h2, h3, h4] <;> omega
theorem Sa (a b : Int) : ∀ (p : List Int) (i : Int), wN a b p i = goB (p.all (inB a b))
 | [], _ => rfl
 | e :: p, i => by
  simp only [wN, lF, cnot, cand, sJ, Option.bind_some, Sa a b p, List.all_cons]
theorem Lk (a b : Int) (xs : List Int) (h : lenOk xs = true) : tB a xs b = some (xs.all (inB a b)) := by
 simp only [tB, h, cond_true, Sa]
 cases xs.all (inB a b) <;> rfl
def incr : Int → List Int → Bool
 | _, [] => true
 | q, e :: p => !decide (e ≤ q) && incr e p
def incrL : List Int → Bool
 | [] => true
 | e :: p => incr e p
theorem wD {α : Type} {xs p : List α} {q : α} {i : Int} (h0 : 1 ≤ i) (hi : i < 9223372036854775808) (h : xs.drop (i - 1).toNat = q :: p) : getI xs (i64.wrap (i - 1)) = some q := by
 rw [ka (by omega) (by omega)]
 exact dZ (by omega) h
theorem wC {α : Type} {xs p : List α} {n : Nat} (h : xs.drop n = p) : n + p.length ≤ xs.length ∨ p = [] := by
 subst h
 by_cases hn : n ≤ xs.length
 ·left; simp; omega
 ·right; exact List.drop_eq_nil_of_le (by omega)
theorem Sb (xs : List Int) (hl : lenOk xs = true) : ∀ (p : List Int) (q i : Int), 1 ≤ i → xs.drop (i - 1).toNat = q :: p → vB xs p i = goB (incr q p)
 | [], _, _, _, _ => rfl
 | e :: p, q, i, h0, h => by
  have hb := uu hl
  have hle := wC h
  simp only [List.length_cons] at hle
  have hi : i < 9223372036854775808 := by
   rcases hle with hle | hle
   ·omega
   ·cases hle
  have hn : xs.drop (i + 1 - 1).toNat = e :: p := by
   have := bW (i := i - 1) (by omega) h
   rwa [show i - 1 + 1 = i + 1 - 1 by omega] at this
  simp only [vB, lF, cnot, cand, wD h0 hi h, Option.bind_some, Sb xs hl p e (i + 1) (by omega) hn, incr]
theorem QF (a b : Int) (xs : List Int) (h : lenOk xs = true) : vC a xs b = some (incrL xs && xs.all (inB a b)) := by
 have h1 : leB 0 1 = true := rfl
 simp only [vC, h, h1, cond_true, Lk a b xs h]
 cases xs with
 | nil => rfl
 | cons e p =>
  have := Sb (e :: p) h p e 1 (by omega) (by rfl)
  rw [show List.drop (Int.toNat 1) (e :: p) = p from rfl, this]
  simp only [incrL]
  cases incr e p <;> rfl
def cutsB (hi : Int) : Option Int → List Int → Bool
 | _, [] => true
 | none, e :: p => inB 1 hi e && cutsB hi (some e) p
 | some q, e :: p => inB 1 hi e && (!decide (e ≤ q) && cutsB hi (some e) p)
theorem Sc (hi : Int) : ∀ (p : List Int) (q : Int), cutsB hi (some q) p = (incr q p && p.all (inB 1 hi))
 | [], _ => rfl
 | e :: p, q => by
  simp only [cutsB, Sc hi p e, incr, List.all_cons]
  cases h1 : inB 1 hi e <;> cases h2 : decide (e ≤ q) <;> cases h3 : incr e p <;> simp [h1, h2, h3]
theorem Ll (hi : Int) : ∀ (p : List Int), cutsB hi none p = (incrL p && p.all (inB 1 hi))
 | [] => rfl
 | e :: p => by
  simp only [cutsB, Sc, incrL, List.all_cons]
  cases h1 : inB 1 hi e <;> cases h2 : incr e p <;> simp [h1, h2]
theorem Sd (w : GLw) (hl : lenOk w.Cuts = true) : ∀ (p : List Int) (q : Int) (i : Int), 1 ≤ i → w.Cuts.drop (i - 1).toNat = q :: p →
  qP w p i = goB (cutsB (i64.wrap ((w.Signs.length : Int) - 1)) (some q) p)
 | [], _, _, _, _ => rfl
 | e :: p, q, i, h0, h => by
  have hb := uu hl
  have hle := wC h
  simp only [List.length_cons] at hle
  have hi : i < 9223372036854775808 := by
   rcases hle with hle | hle
   ·omega
   ·cases hle
  have hn : w.Cuts.drop (i + 1 - 1).toNat = e :: p := by
   have := bW (i := i - 1) (by omega) h
   rwa [show i - 1 + 1 = i + 1 - 1 by omega] at this
  have hp : decide (i > 0) = true := by simp; omega
  simp only [qP, lF, cnot, cand, in_eq, wD h0 hi h, hp, Option.bind_some, Sd w hl p e (i + 1) (by omega) hn, cutsB, cond_true]
theorem Lm (w : GLw) (hl : lenOk w.Cuts = true) : qP w w.Cuts 0 = goB (cutsB (i64.wrap ((w.Signs.length : Int) - 1)) none w.Cuts) := by
 generalize hc : w.Cuts = cs
 cases cs with
 | nil => rfl
 | cons e p =>
  have := Sd w hl p e (0 + 1) (by omega) (by rw [hc]; rfl)
  simp only [qP, lF, cnot, cand, in_eq, Option.bind_some, this, cutsB, show decide ((0 : Int) > 0) = false from rfl, cond_false]
theorem vf (s : GLs) (n : Int) : tK s n = some (inB 0 (i64.wrap ((s.Widths.length : Int) - 1)) n) := by
 simp only [tK, in_eq, Option.bind_some]
theorem Se (s : GLs) : ∀ (p : List Int) (i : Int), vH s p i = goB (p.all (inB 0 (i64.wrap ((s.Widths.length : Int) - 1))))
 | [], _ => rfl
 | e :: p, i => by
  simp only [vH, lF, cnot, cand, vf, Option.bind_some, Se s p, List.all_cons]
def wordB (n : Int) (w : GLw) : Bool := inB 1 6 w.Signs.length && (w.Signs.all (inB 0 n) && (incrL w.Cuts && w.Cuts.all (inB 1 (i64.wrap ((w.Signs.length : Int) - 1)))))
theorem Ln (s : GLs) (w : GLw) (h1 : lenOk w.Signs = true) (h2 : lenOk w.Cuts = true) : xZ s w = some (wordB (i64.wrap ((s.Widths.length : Int) - 1)) w) := by
 simp only [xZ, h1, h2, cond_true, Se, Lm w h2, in_eq, Option.bind_some, Ll, wordB]
 cases w.Signs.all _ <;> cases (incrL w.Cuts && w.Cuts.all _) <;> cases inB 1 6 _ <;> rfl
def Fine (w : GLw) : Prop := lenOk w.Signs = true ∧ lenOk w.Cuts = true
theorem Sf (s : GLs) : ∀ (p : List GLw) (i : Int), (∀ w ∈ p, Fine w) → vM s p i = goB (p.all (wordB (i64.wrap ((s.Widths.length : Int) - 1))))
 | [], _, _ => rfl
 | e :: p, i, h => by
  have he := h e (qZb ..)
  simp only [vM, lF, cnot, cand, Ln s e he.1 he.2, Option.bind_some, Sf s p (i + 1) (fun w hw => h w (qZa _ hw)), List.all_cons]
theorem Sg (n : Int) : ∀ (p : List GLw) (i : Int), (∀ w ∈ p, Fine w) → vD n p i = goB (p.all (wordB (i64.wrap (n - 1))))
 | [], _, _ => rfl
 | e :: p, i, h => by
  have he := h e (qZb ..)
  simp only [vD, lF, cnot, cand, sJ, Lk _ _ _ he.1, QF _ _ _ he.2, Option.bind_some, Sg n p (i + 1) (fun w hw => h w (qZa _ hw)), List.all_cons, wordB]
theorem Si : ∀ (p : List Int) (i : Int), vN p i = goB (p.all (inB 1 20))
 | [], _ => rfl
 | e :: p, i => by
  simp only [vN, lF, cnot, cand, in_eq, Option.bind_some, Si p, List.all_cons]
def sgn (a b : Int) : Int := if a < b then -1 else if a > b then 1 else 0
theorem P8 (a b : Int) : rZ a b = some (sgn a b) := by
 unfold rZ xH sgn
 by_cases h1 : a < b <;> by_cases h2 : a > b <;> simp [h1, h2]
def pairGe (a b : GLp) : Bool := cond (decide (a.Left > b.Left)) true (cond (a.Left == b.Left) (decide (a.Right ≥ b.Right)) false)
theorem or_eq (a b : Int) : vv [a, b] = some (if a = 0 then b else a) := by
 have e : (fun x : Int => x != 0) a = !decide (a = 0) := by by_cases h : a = 0 <;> simp [h]
 have e' : (b != 0) = !decide (b = 0) := by by_cases h : b = 0 <;> simp [h]
 simp only [] at e
 by_cases h : a = 0 <;> by_cases h' : b = 0 <;> simp [vv, xI, lenOk, lbind, e, e', h, h']
theorem Wg (a b : GLp) : ∃ r, xL a b = some r ∧ decide (r ≥ 0) = pairGe a b := by
 refine ⟨_, by simp only [xL, P8, or_eq, Option.bind_some]; rfl, ?_⟩
 unfold sgn pairGe
 by_cases h1 : a.Left < b.Left
 ·have : ¬ a.Left > b.Left := by omega
  have h3 : ¬ a.Left = b.Left := by omega
  simp [h1, this, h3]
 ·by_cases h2 : a.Left > b.Left
  ·simp [h1, h2]
  ·have h3 : a.Left = b.Left := by omega
   by_cases h4 : a.Right < b.Right
   ·have : ¬ a.Right ≥ b.Right := by omega
    simp [h3, h4]
   ·by_cases h5 : a.Right > b.Right
    ·simp [h3, h4, h5]; omega
    ·simp [h3, h4, h5]; omega
def pairB (m : Int) (e : GLp) : Bool := inB 0 m e.Left && (inB 0 m e.Right && spanB 9 e.Space)
def pairsG (m : Int) : Option GLp → List GLp → Bool
 | _, [] => true
 | none, e :: p => pairB m e && pairsG m (some e) p
 | some q, e :: p => pairB m e && (!pairGe q e && pairsG m (some e) p)
theorem Sj (s : GLs) (hl : lenOk s.Pairs = true) : ∀ (p : List GLp) (q : GLp) (i : Int), 1 ≤ i → s.Pairs.drop (i - 1).toNat = q :: p →
  qw s p i = goB (pairsG (i64.wrap ((s.Widths.length : Int) - 1)) (some q) p)
 | [], _, _, _, _ => rfl
 | e :: p, q, i, h0, h => by
  have hb := uu hl
  have hle := wC h
  simp only [List.length_cons] at hle
  have hi : i < 9223372036854775808 := by
   rcases hle with hle | hle
   ·omega
   ·cases hle
  have hn : s.Pairs.drop (i + 1 - 1).toNat = e :: p := by
   have := bW (i := i - 1) (by omega) h
   rwa [show i - 1 + 1 = i + 1 - 1 by omega] at this
  have hp : decide (i > 0) = true := by simp; omega
  simp only [qw, lF, cnot, vf, vd, wD h0 hi h, hp, Option.bind_some, Sj s hl p e (i + 1) (by omega) hn, pairsG, pairB, cand, cond_true, pairGe]
  cases decide (q.Left > e.Left) <;> cases (q.Left == e.Left) <;> rfl
theorem Wh (s : GLs) (hl : lenOk s.Pairs = true) : qw s s.Pairs 0 = goB (pairsG (i64.wrap ((s.Widths.length : Int) - 1)) none s.Pairs) := by
 generalize hc : s.Pairs = cs
 cases cs with
 | nil => rfl
 | cons e p =>
  have := Sj s hl p e (0 + 1) (by omega) (by rw [hc]; rfl)
  simp only [qw, lF, cnot, cand, vf, vd, Option.bind_some, this, pairsG, pairB, show decide ((0 : Int) > 0) = false from rfl, cond_false]
theorem Sk (xs : List GLp) (n : Int) (hl : lenOk xs = true) : ∀ (p : List GLp) (q : GLp) (i : Int), 1 ≤ i → xs.drop (i - 1).toNat = q :: p →
  qO xs n p i = goB (pairsG (i64.wrap (n - 1)) (some q) p)
 | [], _, _, _, _ => rfl
 | e :: p, q, i, h0, h => by
  have hb := uu hl
  have hle := wC h
  simp only [List.length_cons] at hle
  have hi : i < 9223372036854775808 := by
   rcases hle with hle | hle
   ·omega
   ·cases hle
  have hn : xs.drop (i + 1 - 1).toNat = e :: p := by
   have := bW (i := i - 1) (by omega) h
   rwa [show i - 1 + 1 = i + 1 - 1 by omega] at this
  have hp : decide (i > 0) = true := by simp; omega
  obtain ⟨r, hr, hr'⟩ := Wg q e
  simp only [qO, lF, cnot, sJ, Lj, wD h0 hi h, hp, hr, hr', Option.bind_some, Sk xs n hl p e (i + 1) (by omega) hn, pairsG, pairB, cand, cond_true]
theorem Wi (xs : List GLp) (n : Int) (hl : lenOk xs = true) : qO xs n xs 0 = goB (pairsG (i64.wrap (n - 1)) none xs) := by
 cases xs with
 | nil => rfl
 | cons e p =>
  have := Sk (e :: p) n hl p e (0 + 1) (by omega) rfl
  simp only [qO, lF, cnot, cand, sJ, Lj, Option.bind_some, this, pairsG, pairB, show decide ((0 : Int) > 0) = false from rfl, cond_false]
def FineS (s : GLs) : Prop := lenOk s.Widths = true ∧ lenOk s.Pairs = true ∧ lenOk s.Words = true ∧ ∀ w ∈ s.Words, Fine w
def sheetB (s : GLs) : Bool :=
 inB 1 6 s.Widths.length && s.Widths.all (inB 1 20) &&
 (decide ((s.Pairs.length : Int) ≤ 6) && pairsG (i64.wrap ((s.Widths.length : Int) - 1)) none s.Pairs) &&
 spanB 9 s.Other && spanB 20 s.Gap && inB 1 20 s.Hyphen &&
 (inB 1 4 s.Words.length && s.Words.all (wordB (i64.wrap ((s.Widths.length : Int) - 1)))) &&
 inB 1 400 s.Wide && inB 1 3 s.Rows
theorem Lo (n : Int) : yg n = some (inB 1 400 n) := by
 simp only [yg, in_eq, Option.bind_some]
theorem Lp (s : GLs) (h : lenOk s.Pairs = true) : yd s = some (decide ((s.Pairs.length : Int) ≤ 6) && pairsG (i64.wrap ((s.Widths.length : Int) - 1)) none s.Pairs) := by
 simp only [yd, h, cond_true, Wh s h, sB, csome]
 rw [Bool.and_comm]
theorem Lq (xs : List GLp) (n : Int) (h : lenOk xs = true) : xM xs n = some (decide ((xs.length : Int) ≤ 6) && pairsG (i64.wrap (n - 1)) none xs) := by
 simp only [xM, h, cond_true, Wi xs n h, sB]
 by_cases hn : (xs.length : Int) ≤ 6
 ·have : ¬ (xs.length : Int) > 6 := by omega
  simp only [hn, this, decide_true, decide_false, cond_false, Bool.true_and]
  cases pairsG _ _ xs <;> rfl
 ·have : (xs.length : Int) > 6 := by omega
  simp only [hn, this, decide_true, decide_false, cond_true, Bool.false_and]
theorem D8 (s : GLs) (h : FineS s) : yi s = some (sheetB s) := by
 obtain ⟨h1, h2, h3, h4⟩ := h
 simp only [yi, h1, h3, cond_true, Si, Sf s _ _ h4, sB, in_eq, vd, Lo, Lp s h2, Option.bind_some, csome, sheetB, ← Bool.and_assoc]
 congr 1
 simp only [Bool.and_assoc]
 cases s.Widths.all _ <;> cases s.Words.all _ <;> simp [Bool.and_comm, Bool.and_left_comm]
theorem Wj (xs : List Int) (h : lenOk xs = true) : xV xs = some (inB 1 6 xs.length && xs.all (inB 1 20)) := by
 simp only [xV, sJ, Lk _ _ _ h, Option.bind_some, csome]
theorem Ls (xs : List GLw) (n : Int) (h : lenOk xs = true) (hw : ∀ w ∈ xs, Fine w) : xS xs n = some (inB 1 4 xs.length && xs.all (wordB (i64.wrap (n - 1)))) := by
 simp only [xS, sJ, Option.bind_some, h, cond_true, Sg n xs 0 hw, sB, csome, Bool.and_true]
theorem BW (s : GLs) (h : FineS s) : qL s = some (sheetB s) := by
 obtain ⟨h1, h2, h3, h4⟩ := h
 simp only [qL, Wj _ h1, Lq _ _ h2, Ls _ _ h3 h4, sJ, Lj, Option.bind_some, csome, sheetB, Bool.and_assoc]
def wB (ag : GLs) : List Int → Int → Option (LOut (Bool) (Unit))
 | [], lh => some (.go ())
 | e0 :: p0, lh => Option.bind (getI ag.Words e0) (fun x2 => cond (x2.Free) (wB ag p0 (lh + 1)) (some (.ret false)))
def zl (ag : GLs) (aD : List Int) : Option (Bool) := cond (decide ((List.length aD : Int) ≥ (List.length ag.Words : Int))) (some false) (Option.bind (vC 0 aD (i64.wrap ((List.length ag.Words : Int) - 1))) (fun r1 => cond (r1) (cond (lenOk aD) (lbind (wB ag aD 0) (fun r4 => some r4) (fun c3 => some true) (fun _ _ => none)) none) (some false)))
theorem UO (ag : GLs) (aD : List Int) (R : Bool) (h : zl ag aD = some R) : ad Tryz.prog G0 114 [.agg (cGLs ag), .sl (aa eI aD) (List.length aD) false] (.tree (.lit (.bool R))) := by
 refine ad.runR mixed Tryz.call114 Tryz.func114 rfl (by simp [Tryz.ntmps114]; kernel_rfl) ?_
 obtain ⟨KF, h, kF, kN⟩ := dC h
 simp only [zl] at h
 cases d5 : (decide ((List.length aD : Int) ≥ (List.length ag.Words : Int)))
 ·simp only [d5, hs] at h
  obtain ⟨r6, o7, h⟩ := optI h kN
  try simp only [hs] at h
  simp only [vz, tyf, d5, nm, seval]
  refine ktA (PW _ _ _ _ o7) ?_
  refine bw (fun tm => tm 1 = .sl (aa eI aD) (List.length aD) false ∧ tm 2 = .ptr 0 0 ∧ tm 13 = .lit (.bool false) ∧ tm 19 = .lit (.bool r6) ∧ True) (by refine ⟨?_, ?_, ?_, ?_, trivial⟩ <;> first | (simp only [ua, d5, nm, seval] <;> rfl) | rfl) ?_
  rintro tm ⟨e8, e9, aZ, bc, _⟩
  cases bz : (r6)
  ·simp only [bz, hs] at h
   try simp only [vz, tyf, d5, e8, e9, aZ, bc, bz, nm, seval]
   obtain rfl := kF _ h
   exact bk Tryz.results114 rfl
  simp only [bz, hs] at h
  cases k9 : (lenOk aD)
  ·simp only [k9, hs] at h
   exact absurd h kN
  simp only [k9, hs] at h
  simp only [vz, tyf, d5, e8, e9, aZ, bc, bz, k9, nm, seval]
  obtain ⟨EU, h, oW, tF, EV, oX⟩ := fW h kN
  obtain ⟨EW, tG, h⟩ := call2 h
  obtain ⟨EX, lX⟩ : ∃ I : Nat → St → Prop, I = (fun m st => ∃ (kL : List Int) (fu : Int), m = List.length kL ∧ 0 ≤ fu ∧ List.drop (Int.toNat fu) aD = kL ∧ st.df = [] ∧ 20 ≤ st.nx ∧ st.H 0 = some (.cells (some 28) (cGLs ag)) ∧ st.tm 2 = .ptr 0 0 ∧ st.tm 22 = .sl (aa eI aD) (List.length aD) false ∧ st.tm 23 = .lit (.int .i64 (List.length aD : Int)) ∧ st.tm 24 = .lit (.int .i64 fu) ∧ EU (EW kL fu)) := ⟨_, rfl⟩
  refine loopK mixed (by kernel_rfl) EX (List.length aD) (by rw [lX]; refine ⟨aD, 0, rfl, qZf _, rfl, rfl, (show 20 ≤ 20 by omega), ?_, e9, ?_, ?_, ?_, h⟩ <;> first | (simp only [ua, d5, e8, e9, aZ, bc, bz, nm, seval] <;> rfl) | rfl) ?_
  rintro m ⟨tm, H, lY, df⟩ hinv
  rw [lX] at hinv
  obtain ⟨kL, fu, rfl, gS, iP, hdf, tH, ph, da, cI, cj, dv, h⟩ := hinv
  simp only at hdf tH ph da cI cj dv
  have kQ := fX (m := 20) (b := lY) (by omega)
  subst hdf tG
  cases kL with
  | nil =>
   have gj : (decide (fu < (List.length aD : Int))) = false := fc gS iP
   simp only [wB, hs, reduceCtorEq] at h
   replace h := tF _ h
   try dsimp only at h
   try simp only [hs] at h
   try simp only [vz, tyf, d5, bz, k9, kQ, da, cI, cj, dv, ph, gj, nm, seval]
   obtain rfl := kF _ h
   exact bk Tryz.results114 rfl
  | cons bC kL =>
   have rB : (decide (fu < (List.length aD : Int))) = true := fb gS iP
   have Sl := dZ gS iP
   have Sm := fe gS iP k9
   simp only [wB, hs, reduceCtorEq] at h
   obtain ⟨Wk, ke, h⟩ := optI h oX
   try simp only [hs] at h
   cases rn : (Wk.Free)
   ·simp only [rn, hs] at h
    have gX := And.intro d5 (And.intro bz (And.intro k9 (And.intro kQ (And.intro ph (And.intro rB (And.intro Sm rn))))))
    try simp only [vz, tyf, gX, da, cI, cj, dv, (aA Sl), (aE ke), nm, seval]
    replace h := oW _ h
    try dsimp only at h
    obtain rfl := kF _ h
    exact bk Tryz.results114 rfl
   simp only [rn, hs] at h
   have vK := And.intro d5 (And.intro bz (And.intro k9 (And.intro kQ (And.intro ph (And.intro rB (And.intro Sm rn))))))
   simp only [vz, tyf, vK, da, cI, cj, dv, (aA Sl), (aE ke), nm, seval]
   exact ⟨List.length kL, qZc _, by rw [lX]; refine ⟨kL, fu + 1, rfl, Int.le_trans gS (Int.le_add_one (qZf _)), bW gS iP, rfl, (show 20 ≤ lY + 13 by omega), ?_, da, cI, cj, ?_, (by first | exact h | (simp only [vK]; exact h))⟩ <;> first | (simp only [ua, vK, da, cI, cj, dv, nm, seval] <;> rfl) | rfl | (simp only [ua, tyf, vK, da, cI, cj, dv, nm, seval] <;> rfl)⟩
 simp only [d5, hs] at h
 try simp only [vz, tyf, d5, nm, seval]
 obtain rfl := kF _ h
 exact bk Tryz.results114 rfl
def wA (db : Int) : List Int → Int → Option (LOut (Int) (Unit))
 | [], gP => some (.go ())
 | e0 :: p0, gP => cond (db == e0) (some (.ret gP)) (wA db p0 (gP + 1))
def CA (ag : List Int) (db : Int) : Option (Int) := cond (lenOk ag) (lbind (wA db ag 0) (fun r2 => some r2) (fun c1 => some (-1)) (fun _ _ => none)) none
theorem Wl (ag : List Int) (db : Int) (R : Int) (h : CA ag db = some R) : ad Tryz.prog G0 151 [.sl (aa eI ag) (List.length ag) false, .lit (.int .i64 db)] (.tree (.lit (.int .i64 R))) := by
 refine ad.runR mixed Tryz.call151 Tryz.func151 rfl (by simp [Tryz.ntmps151]; kernel_rfl) ?_
 obtain ⟨KF, h, kF, kN⟩ := dC h
 simp only [CA] at h
 cases g4 : (lenOk ag)
 ·simp only [g4, hs] at h
  exact absurd h kN
 simp only [g4, hs] at h
 simp only [vz, tyf, g4, nm, seval]
 obtain ⟨K3, h, oP, oh, xJ, xK⟩ := fW h kN
 obtain ⟨f3, oQ, h⟩ := call2 h
 obtain ⟨I3, iJ⟩ : ∃ I : Nat → St → Prop, I = (fun m st => ∃ (p3 : List Int) (bN : Int), m = List.length p3 ∧ 0 ≤ bN ∧ List.drop (Int.toNat bN) ag = p3 ∧ st.df = [] ∧ 4 ≤ st.nx ∧ st.tm 0 = .sl (aa eI ag) (List.length ag) false ∧ st.tm 1 = .lit (.int .i64 db) ∧ st.tm 7 = .lit (.int .i64 (List.length ag : Int)) ∧ st.tm 8 = .lit (.int .i64 bN) ∧ K3 (f3 p3 bN)) := ⟨_, rfl⟩
 refine loopK mixed (by kernel_rfl) I3 (List.length ag) (by rw [iJ]; refine ⟨ag, 0, rfl, qZf _, rfl, rfl, (show 4 ≤ 4 by omega), ?_, ?_, ?_, ?_, h⟩ <;> first | (simp only [ua, nm, seval] <;> rfl) | rfl) ?_
 rintro m ⟨tm, H, kI, df⟩ hinv
 rw [iJ] at hinv
 obtain ⟨p3, bN, rfl, eG, fj, hdf, oR, e5, e6, e7, e8, h⟩ := hinv
 simp only at hdf oR e5 e6 e7 e8
 have n9 := fX (m := 4) (b := kI) (by omega)
 subst hdf oQ
 cases p3 with
 | nil =>
  have cm : (decide (bN < (List.length ag : Int))) = false := fc eG fj
  simp only [wA, hs, reduceCtorEq] at h
  replace h := oh _ h
  try dsimp only at h
  try simp only [hs] at h
  try simp only [vz, tyf, g4, n9, e5, e6, e7, e8, cm, nm, seval]
  refine cX (x := (.lit (.int .i64 (-1)))) (by first | (simp only [Tryz.results151, resV, resL, aG, d6, dA, uw, cr, tyf, g4, n9, cm, nm, seval] <;> rfl) | rfl) ?_
  obtain rfl := kF _ h
  refine dB ?_ ?_
  ·simp only [tre, ar, Bool.and_self]
  ·first | (simp only [outV, uw, eF, cr, tyf, nrm, an, g4, n9, e5, e6, e7, e8, cm, nm, seval] <;> rfl) | rfl
 | cons e3 p3 =>
  have eR : (decide (bN < (List.length ag : Int))) = true := fb eG fj
  have nk := dZ eG fj
  have m6 := fe eG fj g4
  simp only [wA, hs, reduceCtorEq] at h
  cases bQ : (db == e3)
  ·simp only [bQ, hs] at h
   simp only [vz, tyf, g4, n9, e5, e6, e7, e8, eR, (aA nk), m6, bQ, nm, seval]
   exact ⟨List.length p3, qZc _, by rw [iJ]; refine ⟨p3, bN + 1, rfl, Int.le_trans eG (Int.le_add_one (qZf _)), bW eG fj, rfl, (show 4 ≤ kI + 11 by omega), e5, e6, e7, ?_, (by first | exact h | (simp only [eR, bQ]; exact h))⟩ <;> first | (simp only [ua, n9, e5, e6, e7, e8, eR, m6, bQ, nm, seval] <;> rfl) | rfl⟩
  simp only [bQ, hs] at h
  try simp only [vz, tyf, g4, n9, e5, e6, e7, e8, eR, (aA nk), m6, bQ, nm, seval]
  refine cX (x := (.lit (.int .i64 bN))) (by first | (simp only [Tryz.results151, resV, resL, aG, d6, dA, uw, cr, tyf, g4, n9, eR, (aA nk), m6, bQ, nm, seval] <;> rfl) | rfl) ?_
  replace h := oP _ h
  try dsimp only at h
  obtain rfl := kF _ h
  refine dB ?_ ?_
  ·simp only [tre, ar, Bool.and_self]
  ·first | (simp only [outV, uw, eF, cr, tyf, nrm, an, g4, n9, e5, e6, e7, e8, eR, (aA nk), m6, bQ, nm, seval] <;> rfl) | rfl
def wy (ag : List Int) (db : Int) : Option (Bool) := Option.bind (CA ag db) (fun r1 => some (decide (r1 ≥ 0)))
theorem C7 (ag : List Int) (db : Int) (R : Bool) (h : wy ag db = some R) : ad Tryz.prog G0 117 [.sl (aa eI ag) (List.length ag) false, .lit (.int .i64 db)] (.tree (.lit (.bool R))) := by
 refine ad.runR mixed Tryz.call117 Tryz.func117 rfl (by simp [Tryz.ntmps117]; kernel_rfl) ?_
 obtain ⟨KF, h, kF, kN⟩ := dC h
 simp only [wy] at h
 obtain ⟨r2, o3, h⟩ := optI h kN
 try simp only [hs] at h
 simp only [vz, tyf, nm, seval]
 refine ktA (Wl _ _ _ o3) ?_
 refine bw (fun tm => tm 7 = .lit (.int .i64 r2) ∧ True) (by refine ⟨?_, trivial⟩ <;> first | (simp only [ua, nm, seval] <;> rfl) | rfl) ?_
 rintro tm ⟨e4, _⟩
 try simp only [vz, tyf, e4, nm, seval]
 obtain rfl := kF _ h
 exact bk Tryz.results117 rfl
end Go.V
end
