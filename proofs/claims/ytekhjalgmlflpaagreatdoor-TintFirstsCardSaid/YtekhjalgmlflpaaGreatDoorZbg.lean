/- Part of a proof. -/
import Derived.Test.YtekhjalgmlflpaaGreatDoorZbf
set_option linter.all false
set_option maxRecDepth 4000
set_option maxHeartbeats 40000000
section
namespace Go.V
open Go Go.Proofs IntKind
def qy  : List Gt → Int → Option (LOut (Bool) (Unit))
 | [], jx => some (.go ())
 | e3 :: p3, jx => Option.bind (oF e3.pg.a2 99) (fun oC => cond (oC) (qy p3 (jx + 1)) (some (.ret false)))
def qz  : List Gt → Int → Option (LOut (Bool) (Unit))
 | [], Ao => some (.go ())
 | e2 :: p2, Ao => Option.bind (oF e2.pg.a1 99) (fun eK => cond (eK) (qz p2 (Ao + 1)) (some (.ret false)))
def q9  : List Gt → Int → Option (LOut (Bool) (Unit))
 | [], Ap => some (.go ())
 | e1 :: p1, Ap => Option.bind (oF e1.pg.a0 99) (fun r6 => cond (r6) (q9 p1 (Ap + 1)) (some (.ret false)))
def vv (ae : Gs) : Nat → Int → Option (LOut (Bool) (Unit))
 | 0, cz => some (.go ())
 | k0 + 1, cz => cond (cz == 0) (Option.bind (qe ae.Old.a0 0 99) (fun r4 => cond (r4) (Option.bind (oF ae.Fade.a0 9) (fun r5 => cond (r5) (cond (lenOk ae.Tins) (aN (q9 ae.Tins 0) (fun r8 => some (.ret r8)) (fun c7 => vv ae k0 (cz + 1)) (fun _ _ => none)) none) (some (.ret false)))) (some (.ret false)))) (cond (cz == 1) (Option.bind (qe ae.Old.a1 0 99) (fun r9 => cond (r9) (Option.bind (oF ae.Fade.a1 9) (fun dG => cond (dG) (cond (lenOk ae.Tins) (aN (qz ae.Tins 0) (fun fc => some (.ret fc)) (fun vw => vv ae k0 (cz + 1)) (fun _ _ => none)) none) (some (.ret false)))) (some (.ret false)))) (cond (cz == 2) (Option.bind (qe ae.Old.a2 0 99) (fun mS => cond (mS) (Option.bind (oF ae.Fade.a2 9) (fun sL => cond (sL) (cond (lenOk ae.Tins) (aN (qy ae.Tins 0) (fun cu => some (.ret cu)) (fun Zc => vv ae k0 (cz + 1)) (fun _ _ => none)) none) (some (.ret false)))) (some (.ret false)))) (none)))
def Aq (ae : Gs) : Option (Bool) := Option.bind (oF ae.Years 20) (fun r1 => cond (r1) (Option.bind (Cx ae.Off) (fun r2 => cond (r2) (Option.bind (qe (List.length ae.Tins : Int) 1 4) (fun r3 => cond (r3) (cond (boundOk 3) (aN (vv ae (Int.toNat (3 - 0)) 0) (fun ib => some ib) (fun Zd => some true) (fun _ _ => none)) none) (some false))) (some false))) (some false))
theorem Wz (ae : Gs) (R : Bool) (h : Aq ae = some R) : ad Tryz.prog G0 20 [.agg (cGs ae)] (.tree (.lit (.bool R))) := by
 refine ad.runR mixed Tryz.call20 Tryz.func20 rfl (by simp [Tryz.ntmps20]; kernel_rfl) ?_
 obtain ⟨KF, h, kF, kN⟩ := dp h
 simp only [Aq] at h
 obtain ⟨nP, uq, h⟩ := optI h kN
 try simp only [hs] at h
 simp only [vz, tyf, nm, seval]
 refine ktA (uv _ _ _ uq) ?_
 refine aZ (fun tm => tm 1 = .ptr 0 0 ∧ tm 7 = .lit (.bool nP) ∧ True) (by refine ⟨?_, ?_, trivial⟩ <;> first | (simp only [ua, nm, seval] <;> rfl) | rfl) ?_
 rintro tm ⟨bD, cF, _⟩
 cases cE : (nP)
 ·simp only [cE, hs] at h
  try simp only [vz, tyf, bD, cF, cE, nm, seval]
  obtain rfl := kF _ h
  exact bB Tryz.results20 rfl
 simp only [cE, hs] at h
 obtain ⟨y9, EY, h⟩ := optI h kN
 try simp only [hs] at h
 simp only [vz, tyf, bD, cF, cE, nm, seval]
 refine ktA (Uv _ _ EY) ?_
 refine aZ (fun tm => tm 1 = .ptr 0 0 ∧ tm 9 = .lit (.bool false) ∧ tm 12 = .lit (.bool y9) ∧ True) (by refine ⟨bD, ?_, ?_, trivial⟩ <;> first | (simp only [ua, bD, cF, cE, nm, seval] <;> rfl) | rfl) ?_
 rintro tm ⟨bE, bA, bN, _⟩
 cases lS : (y9)
 ·simp only [lS, hs] at h
  try simp only [vz, tyf, cE, bE, bA, bN, lS, nm, seval]
  obtain rfl := kF _ h
  exact bB Tryz.results20 rfl
 simp only [lS, hs] at h
 obtain ⟨Sz, W5, h⟩ := optI h kN
 try simp only [hs] at h
 simp only [vz, tyf, cE, bE, bA, bN, lS, nm, seval]
 refine ktA (uu _ _ _ _ W5) ?_
 refine aZ (fun tm => tm 1 = .ptr 0 0 ∧ tm 15 = .lit (.bool false) ∧ tm 19 = .lit (.bool Sz) ∧ True) (by refine ⟨bE, ?_, ?_, trivial⟩ <;> first | (simp only [ua, cE, bE, bA, bN, lS, nm, seval] <;> rfl) | rfl) ?_
 rintro tm ⟨bV, gZ, dP, _⟩
 cases pf : (Sz)
 ·simp only [pf, hs] at h
  try simp only [vz, tyf, cE, lS, bV, gZ, dP, pf, nm, seval]
  obtain rfl := kF _ h
  exact bB Tryz.results20 rfl
 simp only [pf, hs] at h
 cases vy : (boundOk 3)
 ·simp only [vy, hs] at h
  exact absurd h kN
 simp only [vy, hs] at h
 simp only [vz, tyf, cE, lS, bV, gZ, dP, pf, vy, nm, seval]
 obtain ⟨W6, h, k8, Lc, W7, iw⟩ := fp h kN
 obtain ⟨W8, Ld, h⟩ := call2 h
 obtain ⟨W9, ph⟩ : ∃ I : Nat → St → Prop, I = (fun m st => ∃ (og : Nat) (bP : Int), og = m ∧ loOk bP = true ∧ Int.toNat (3 - bP) = og ∧ st.df = [] ∧ 20 ≤ st.nx ∧ st.H 0 = some (.cells (some 28) (cGs ae)) ∧ st.tm 1 = .ptr 0 0 ∧ st.tm 3 = .lit (.int .i64 bP) ∧ W6 (W8 og bP)) := ⟨_, rfl⟩
 refine loopK mixed (by kernel_rfl) W9 (Int.toNat (3 - 0)) (by rw [ph]; refine ⟨Int.toNat (3 - 0), 0, rfl, (by rfl), rfl, rfl, (show 20 ≤ 20 by omega), ?_, bV, ?_, h⟩ <;> first | (simp only [ua, cE, lS, bV, gZ, dP, pf, nm, seval] <;> rfl) | rfl) ?_
 rintro m ⟨tm, H, fV, df⟩ hinv
 rw [ph] at hinv
 obtain ⟨og, bP, rfl, rS, nz, hdf, Le, Dd, cU, cV, h⟩ := hinv
 simp only at hdf Le Dd cU cV
 have Lf := fu (m := 20) (b := fV) (by omega)
 subst hdf Ld
 cases og with
 | zero =>
  have md : (decide (bP < 3)) = false := Cm nz
  simp only [vv, hs, reduceCtorEq] at h
  replace h := Lc _ h
  try dsimp only at h
  try simp only [hs] at h
  try simp only [vz, tyf, cE, lS, pf, vy, Lf, cU, cV, Dd, md, nm, seval]
  obtain rfl := kF _ h
  exact bB Tryz.results20 rfl
 | succ og =>
  have gz : (decide (bP < 3)) = true := qS nz
  have S0 := Co rS nz vy
  simp only [vv, hs, reduceCtorEq] at h
  cases jy : (bP == 0)
  ·simp only [jy, hs] at h
   have iJ := And.intro cE (And.intro lS (And.intro pf (And.intro vy (And.intro Lf (And.intro Dd (And.intro gz (And.intro S0 jy)))))))
   cases di : (bP == 1)
   ·simp only [di, hs] at h
    cases ez : (bP == 2)
    ·simp only [ez, hs] at h
     exact absurd h iw
    simp only [ez, hs] at h
    obtain ⟨S1, WA, h⟩ := optI h iw
    try simp only [hs] at h
    simp only [vz, tyf, iJ, cU, cV, di, ez, (lT ez), nm, seval]
    refine ktA (uu _ _ _ _ WA) ?_
    refine aZ (fun tm => tm 1 = .ptr 0 0 ∧ tm 3 = .lit (.int .i64 bP) ∧ tm 30 = .lit (.bool S1) ∧ True) (by refine ⟨cU, cV, ?_, trivial⟩ <;> first | (simp only [ua, iJ, cU, cV, di, ez, nm, seval] <;> rfl) | rfl) ?_
    rintro tm ⟨dc, dH, eO, _⟩
    cases ir : (S1)
    ·simp only [ir, hs] at h
     try simp only [vz, tyf, iJ, di, ez, (lT ez), dc, dH, eO, ir, nm, seval]
     replace h := k8 _ h
     try dsimp only at h
     obtain rfl := kF _ h
     exact bB Tryz.results20 rfl
    simp only [ir, hs] at h
    obtain ⟨mU, zi, h⟩ := optI h iw
    try simp only [hs] at h
    simp only [vz, tyf, iJ, di, ez, (lT ez), dc, dH, eO, ir, (iD ez), nm, seval]
    refine ktA (uv _ _ _ zi) ?_
    refine aZ (fun tm => tm 1 = .ptr 0 0 ∧ tm 3 = .lit (.int .i64 bP) ∧ tm 32 = .lit (.bool false) ∧ tm 37 = .lit (.bool mU) ∧ True) (by refine ⟨dc, dH, ?_, ?_, trivial⟩ <;> first | (simp only [ua, iJ, di, ez, dc, dH, eO, ir, nm, seval] <;> rfl) | rfl) ?_
    rintro tm ⟨hO, fN, jn, fO, _⟩
    cases qA : (mU)
    ·simp only [qA, hs] at h
     try simp only [vz, tyf, iJ, di, ez, (lT ez), ir, (iD ez), hO, fN, jn, fO, qA, nm, seval]
     replace h := k8 _ h
     try dsimp only at h
     obtain rfl := kF _ h
     exact bB Tryz.results20 rfl
    simp only [qA, hs] at h
    cases v3 : (lenOk ae.Tins)
    ·simp only [v3, hs] at h
     exact absurd h iw
    simp only [v3, hs] at h
    simp only [vz, tyf, iJ, di, ez, (lT ez), ir, (iD ez), hO, fN, jn, fO, qA, v3, nm, seval]
    obtain ⟨WB, h, Lg, Lh, WC, Li⟩ := fp h iw
    obtain ⟨WD, Lj, h⟩ := call2 h
    obtain ⟨WE, v5⟩ : ∃ I : Nat → St → Prop, I = (fun m st => ∃ (t5 : List Gt) (hY : Int), m = List.length t5 ∧ 0 ≤ hY ∧ List.drop (Int.toNat hY) ae.Tins = t5 ∧ st.df = [] ∧ fV + 17 ≤ st.nx ∧ st.H 0 = some (.cells (some 28) (cGs ae)) ∧ st.tm 1 = .ptr 0 0 ∧ st.tm 3 = .lit (.int .i64 bP) ∧ st.tm 4 = .lit (.int .i64 hY) ∧ WB (WD t5 hY)) := ⟨_, rfl⟩
    refine loopK mixed (by kernel_rfl) WE (List.length ae.Tins) (by rw [v5]; refine ⟨ae.Tins, 0, rfl, Int.le_refl _, rfl, rfl, (show fV + 17 ≤ fV + 17 by omega), ?_, hO, fN, ?_, h⟩ <;> first | (simp only [ua, iJ, di, ez, ir, hO, fN, jn, fO, qA, nm, seval] <;> rfl) | rfl) ?_
    rintro m ⟨tm, H, rT, df⟩ hinv
    rw [v5] at hinv
    obtain ⟨t5, hY, rfl, nA, pj, hdf, Lk, xA, fP, gT, dA, h⟩ := hinv
    simp only at hdf Lk xA fP gT dA
    have Ar := fu (m := 20) (b := rT) (by omega)
    have As := uO (a := fV) (m := 17) (b := rT) (by omega)
    subst hdf Lj
    cases t5 with
    | nil =>
     have S2 : (decide (hY < (List.length ae.Tins : Int))) = false := jX nA pj
     simp only [q9, qz, qy, hs, reduceCtorEq] at h
     replace h := Lh _ h
     try dsimp only at h
     try simp only [hs] at h
     simp only [vz, tyf, iJ, di, ez, (lT ez), ir, (iD ez), qA, v3, Ar, As, fP, gT, dA, xA, S2, nm, seval]
     exact ⟨og, Nat.lt_succ_self _, by rw [ph]; refine ⟨og, bP + 1, rfl, pY rS, pZ nz, rfl, (show 20 ≤ rT + 8 by omega), ?_, fP, ?_, h⟩ <;> first | (simp only [ua, iJ, di, ez, ir, qA, Ar, As, fP, gT, dA, xA, S2, nm, seval] <;> rfl) | rfl⟩
    | cons d7 t5 =>
     have Ll : (decide (hY < (List.length ae.Tins : Int))) = true := jY nA pj
     have Lm := iC nA pj
     have uR := jZ nA pj v3
     simp only [q9, qz, qy, hs, reduceCtorEq] at h
     obtain ⟨xa, GX, h⟩ := optI h Li
     try simp only [hs] at h
     simp only [vz, tyf, iJ, di, ez, (lT ez), ir, (iD ez), qA, v3, Ar, As, fP, gT, dA, xA, Ll, (cw Lm), uR, (sH ez), nm, seval]
     refine ktA (uv _ _ _ GX) ?_
     refine aZ (fun tm => tm 1 = .ptr 0 0 ∧ tm 3 = .lit (.int .i64 bP) ∧ tm 4 = .lit (.int .i64 hY) ∧ tm 55 = .lit (.bool xa) ∧ True) (by refine ⟨fP, gT, dA, ?_, trivial⟩ <;> first | (simp only [ua, iJ, di, ez, ir, qA, Ar, As, fP, gT, dA, xA, Ll, uR, nm, seval] <;> rfl) | rfl) ?_
     rintro tm ⟨eC, ik, fJ, je, _⟩
     have Ln := And.intro iJ (And.intro di (And.intro ez (And.intro ir (And.intro qA (And.intro v3 (And.intro Ar (And.intro As (And.intro xA (And.intro Ll uR)))))))))
     cases qB : (xa)
     ·simp only [qB, hs] at h
      try simp only [vz, tyf, Ln, (lT ez), (iD ez), (cw Lm), (sH ez), eC, ik, fJ, je, qB, nm, seval]
      replace h := Lg _ h
      try dsimp only at h
      replace h := k8 _ h
      try dsimp only at h
      obtain rfl := kF _ h
      exact bB Tryz.results20 rfl
     simp only [qB, hs] at h
     simp only [vz, tyf, Ln, (lT ez), (iD ez), (cw Lm), (sH ez), eC, ik, fJ, je, qB, nm, seval]
     exact ⟨List.length t5, Nat.lt_succ_self _, by rw [v5]; refine ⟨t5, hY + 1, rfl, Int.le_trans nA (Int.le_add_one (Int.le_refl _)), fM nA pj, rfl, (show fV + 17 ≤ rT + 18 by omega), ?_, eC, ik, ?_, h⟩ <;> first | (simp only [ua, Ln, eC, ik, fJ, je, qB, nm, seval] <;> rfl) | rfl⟩
   simp only [di, hs] at h
   obtain ⟨yA, Fa, h⟩ := optI h iw
   try simp only [hs] at h
   simp only [vz, tyf, iJ, cU, cV, di, (lU di), nm, seval]
   refine ktA (uu _ _ _ _ Fa) ?_
   refine aZ (fun tm => tm 1 = .ptr 0 0 ∧ tm 3 = .lit (.int .i64 bP) ∧ tm 30 = .lit (.bool yA) ∧ True) (by refine ⟨cU, cV, ?_, trivial⟩ <;> first | (simp only [ua, iJ, cU, cV, di, nm, seval] <;> rfl) | rfl) ?_
   rintro tm ⟨gU, iG, lQ, _⟩
   cases nB : (yA)
   ·simp only [nB, hs] at h
    try simp only [vz, tyf, iJ, di, (lU di), gU, iG, lQ, nB, nm, seval]
    replace h := k8 _ h
    try dsimp only at h
    obtain rfl := kF _ h
    exact bB Tryz.results20 rfl
   simp only [nB, hs] at h
   obtain ⟨S3, WG, h⟩ := optI h iw
   try simp only [hs] at h
   simp only [vz, tyf, iJ, di, (lU di), gU, iG, lQ, nB, (iE di), nm, seval]
   refine ktA (uv _ _ _ WG) ?_
   refine aZ (fun tm => tm 1 = .ptr 0 0 ∧ tm 3 = .lit (.int .i64 bP) ∧ tm 32 = .lit (.bool false) ∧ tm 37 = .lit (.bool S3) ∧ True) (by refine ⟨gU, iG, ?_, ?_, trivial⟩ <;> first | (simp only [ua, iJ, di, gU, iG, lQ, nB, nm, seval] <;> rfl) | rfl) ?_
   rintro tm ⟨fK, fZ, fR, oS, _⟩
   cases qC : (S3)
   ·simp only [qC, hs] at h
    try simp only [vz, tyf, iJ, di, (lU di), nB, (iE di), fK, fZ, fR, oS, qC, nm, seval]
    replace h := k8 _ h
    try dsimp only at h
    obtain rfl := kF _ h
    exact bB Tryz.results20 rfl
   simp only [qC, hs] at h
   cases v7 : (lenOk ae.Tins)
   ·simp only [v7, hs] at h
    exact absurd h iw
   simp only [v7, hs] at h
   simp only [vz, tyf, iJ, di, (lU di), nB, (iE di), fK, fZ, fR, oS, qC, v7, nm, seval]
   obtain ⟨WH, h, Lo, Lp, WI, Lq⟩ := fp h iw
   obtain ⟨WJ, Ls, h⟩ := call2 h
   obtain ⟨WK, v8⟩ : ∃ I : Nat → St → Prop, I = (fun m st => ∃ (t6 : List Gt) (hZ : Int), m = List.length t6 ∧ 0 ≤ hZ ∧ List.drop (Int.toNat hZ) ae.Tins = t6 ∧ st.df = [] ∧ fV + 17 ≤ st.nx ∧ st.H 0 = some (.cells (some 28) (cGs ae)) ∧ st.tm 1 = .ptr 0 0 ∧ st.tm 3 = .lit (.int .i64 bP) ∧ st.tm 4 = .lit (.int .i64 hZ) ∧ WH (WJ t6 hZ)) := ⟨_, rfl⟩
   refine loopK mixed (by kernel_rfl) WK (List.length ae.Tins) (by rw [v8]; refine ⟨ae.Tins, 0, rfl, Int.le_refl _, rfl, rfl, (show fV + 17 ≤ fV + 17 by omega), ?_, fK, fZ, ?_, h⟩ <;> first | (simp only [ua, iJ, di, nB, fK, fZ, fR, oS, qC, nm, seval] <;> rfl) | rfl) ?_
   rintro m ⟨tm, H, rU, df⟩ hinv
   rw [v8] at hinv
   obtain ⟨t6, hZ, rfl, nC, pk, hdf, Lt, xB, dj, dK, cW, h⟩ := hinv
   simp only at hdf Lt xB dj dK cW
   have pn := fu (m := 20) (b := rU) (by omega)
   have po := uO (a := fV) (m := 17) (b := rU) (by omega)
   subst hdf Ls
   cases t6 with
   | nil =>
    have iZ : (decide (hZ < (List.length ae.Tins : Int))) = false := jX nC pk
    simp only [q9, qz, qy, hs, reduceCtorEq] at h
    replace h := Lp _ h
    try dsimp only at h
    try simp only [hs] at h
    simp only [vz, tyf, iJ, di, (lU di), nB, (iE di), qC, v7, pn, po, dj, dK, cW, xB, iZ, nm, seval]
    exact ⟨og, Nat.lt_succ_self _, by rw [ph]; refine ⟨og, bP + 1, rfl, pY rS, pZ nz, rfl, (show 20 ≤ rU + 8 by omega), ?_, dj, ?_, h⟩ <;> first | (simp only [ua, iJ, di, nB, qC, pn, po, dj, dK, cW, xB, iZ, nm, seval] <;> rfl) | rfl⟩
   | cons te t6 =>
    have dx : (decide (hZ < (List.length ae.Tins : Int))) = true := jY nC pk
    have pq := iC nC pk
    have v9 := jZ nC pk v7
    simp only [q9, qz, qy, hs, reduceCtorEq] at h
    obtain ⟨At, Lu, h⟩ := optI h Lq
    try simp only [hs] at h
    simp only [vz, tyf, iJ, di, (lU di), nB, (iE di), qC, v7, pn, po, dj, dK, cW, xB, dx, (cw pq), v9, (sJ di), nm, seval]
    refine ktA (uv _ _ _ Lu) ?_
    refine aZ (fun tm => tm 1 = .ptr 0 0 ∧ tm 3 = .lit (.int .i64 bP) ∧ tm 4 = .lit (.int .i64 hZ) ∧ tm 55 = .lit (.bool At) ∧ True) (by refine ⟨dj, dK, cW, ?_, trivial⟩ <;> first | (simp only [ua, iJ, di, nB, qC, pn, po, dj, dK, cW, xB, dx, v9, nm, seval] <;> rfl) | rfl) ?_
    rintro tm ⟨eF, dC, dL, eg, _⟩
    have vA := And.intro iJ (And.intro di (And.intro nB (And.intro qC (And.intro v7 (And.intro pn (And.intro po (And.intro xB (And.intro dx v9))))))))
    cases pr : (At)
    ·simp only [pr, hs] at h
     try simp only [vz, tyf, vA, (lU di), (iE di), (cw pq), (sJ di), eF, dC, dL, eg, pr, nm, seval]
     replace h := Lo _ h
     try dsimp only at h
     replace h := k8 _ h
     try dsimp only at h
     obtain rfl := kF _ h
     exact bB Tryz.results20 rfl
    simp only [pr, hs] at h
    simp only [vz, tyf, vA, (lU di), (iE di), (cw pq), (sJ di), eF, dC, dL, eg, pr, nm, seval]
    exact ⟨List.length t6, Nat.lt_succ_self _, by rw [v8]; refine ⟨t6, hZ + 1, rfl, Int.le_trans nC (Int.le_add_one (Int.le_refl _)), fM nC pk, rfl, (show fV + 17 ≤ rU + 18 by omega), ?_, eF, dC, ?_, h⟩ <;> first | (simp only [ua, vA, eF, dC, dL, eg, pr, nm, seval] <;> rfl) | rfl⟩
  simp only [jy, hs] at h
  have ix := And.intro cE (And.intro lS (And.intro pf (And.intro vy (And.intro Lf (And.intro Dd (And.intro gz (And.intro S0 jy)))))))
  obtain ⟨Au, Lv, h⟩ := optI h iw
  try simp only [hs] at h
  simp only [vz, tyf, ix, cU, cV, (lV jy), nm, seval]
  refine ktA (uu _ _ _ _ Lv) ?_
  refine aZ (fun tm => tm 1 = .ptr 0 0 ∧ tm 3 = .lit (.int .i64 bP) ∧ tm 30 = .lit (.bool Au) ∧ True) (by refine ⟨cU, cV, ?_, trivial⟩ <;> first | (simp only [ua, ix, cU, cV, nm, seval] <;> rfl) | rfl) ?_
  rintro tm ⟨gC, gD, iy, _⟩
  cases iz : (Au)
  ·simp only [iz, hs] at h
   try simp only [vz, tyf, ix, (lV jy), gC, gD, iy, iz, nm, seval]
   replace h := k8 _ h
   try dsimp only at h
   obtain rfl := kF _ h
   exact bB Tryz.results20 rfl
  simp only [iz, hs] at h
  obtain ⟨Av, Lw, h⟩ := optI h iw
  try simp only [hs] at h
  simp only [vz, tyf, ix, (lV jy), gC, gD, iy, iz, (iF jy), nm, seval]
  refine ktA (uv _ _ _ Lw) ?_
  refine aZ (fun tm => tm 1 = .ptr 0 0 ∧ tm 3 = .lit (.int .i64 bP) ∧ tm 32 = .lit (.bool false) ∧ tm 37 = .lit (.bool Av) ∧ True) (by refine ⟨gC, gD, ?_, ?_, trivial⟩ <;> first | (simp only [ua, ix, gC, gD, iy, iz, nm, seval] <;> rfl) | rfl) ?_
  rintro tm ⟨dr, dD, il, im, _⟩
  cases da : (Av)
  ·simp only [da, hs] at h
   try simp only [vz, tyf, ix, (lV jy), iz, (iF jy), dr, dD, il, im, da, nm, seval]
   replace h := k8 _ h
   try dsimp only at h
   obtain rfl := kF _ h
   exact bB Tryz.results20 rfl
  simp only [da, hs] at h
  cases mA : (lenOk ae.Tins)
  ·simp only [mA, hs] at h
   exact absurd h iw
  simp only [mA, hs] at h
  simp only [vz, tyf, ix, (lV jy), iz, (iF jy), dr, dD, il, im, da, mA, nm, seval]
  obtain ⟨Lx, h, Aw, Ax, S4, Ay⟩ := fp h iw
  obtain ⟨Ly, Az, h⟩ := call2 h
  obtain ⟨Lz, pv⟩ : ∃ I : Nat → St → Prop, I = (fun m st => ∃ (lq : List Gt) (eY : Int), m = List.length lq ∧ 0 ≤ eY ∧ List.drop (Int.toNat eY) ae.Tins = lq ∧ st.df = [] ∧ fV + 17 ≤ st.nx ∧ st.H 0 = some (.cells (some 28) (cGs ae)) ∧ st.tm 1 = .ptr 0 0 ∧ st.tm 3 = .lit (.int .i64 bP) ∧ st.tm 4 = .lit (.int .i64 eY) ∧ Lx (Ly lq eY)) := ⟨_, rfl⟩
  refine loopK mixed (by kernel_rfl) Lz (List.length ae.Tins) (by rw [pv]; refine ⟨ae.Tins, 0, rfl, Int.le_refl _, rfl, rfl, (show fV + 17 ≤ fV + 17 by omega), ?_, dr, dD, ?_, h⟩ <;> first | (simp only [ua, ix, iz, dr, dD, il, im, da, nm, seval] <;> rfl) | rfl) ?_
  rintro m ⟨tm, H, mX, df⟩ hinv
  rw [pv] at hinv
  obtain ⟨lq, eY, rfl, kf, lr, hdf, AA, nD, eW, fj, dU, h⟩ := hinv
  simp only at hdf AA nD eW fj dU
  have pw := fu (m := 20) (b := mX) (by omega)
  have px := uO (a := fV) (m := 17) (b := mX) (by omega)
  subst hdf Az
  cases lq with
  | nil =>
   have lu : (decide (eY < (List.length ae.Tins : Int))) = false := jX kf lr
   simp only [q9, qz, qy, hs, reduceCtorEq] at h
   replace h := Ax _ h
   try dsimp only at h
   try simp only [hs] at h
   simp only [vz, tyf, ix, (lV jy), iz, (iF jy), da, mA, pw, px, eW, fj, dU, nD, lu, nm, seval]
   exact ⟨og, Nat.lt_succ_self _, by rw [ph]; refine ⟨og, bP + 1, rfl, pY rS, pZ nz, rfl, (show 20 ≤ mX + 8 by omega), ?_, eW, ?_, h⟩ <;> first | (simp only [ua, ix, iz, da, pw, px, eW, fj, dU, nD, lu, nm, seval] <;> rfl) | rfl⟩
  | cons WL lq =>
   have vB : (decide (eY < (List.length ae.Tins : Int))) = true := jY kf lr
   have vC := iC kf lr
   have vD := jZ kf lr mA
   simp only [q9, qz, qy, hs, reduceCtorEq] at h
   obtain ⟨py, vE, h⟩ := optI h Ay
   try simp only [hs] at h
   simp only [vz, tyf, ix, (lV jy), iz, (iF jy), da, mA, pw, px, eW, fj, dU, nD, vB, (cw vC), vD, (sK jy), nm, seval]
   refine ktA (uv _ _ _ vE) ?_
   refine aZ (fun tm => tm 1 = .ptr 0 0 ∧ tm 3 = .lit (.int .i64 bP) ∧ tm 4 = .lit (.int .i64 eY) ∧ tm 55 = .lit (.bool py) ∧ True) (by refine ⟨eW, fj, dU, ?_, trivial⟩ <;> first | (simp only [ua, ix, iz, da, pw, px, eW, fj, dU, nD, vB, vD, nm, seval] <;> rfl) | rfl) ?_
   rintro tm ⟨k9, kC, lv, lx, _⟩
   have vF := And.intro ix (And.intro iz (And.intro da (And.intro mA (And.intro pw (And.intro px (And.intro nD (And.intro vB vD)))))))
   cases pz : (py)
   ·simp only [pz, hs] at h
    try simp only [vz, tyf, vF, (lV jy), (iF jy), (cw vC), (sK jy), k9, kC, lv, lx, pz, nm, seval]
    replace h := Aw _ h
    try dsimp only at h
    replace h := k8 _ h
    try dsimp only at h
    obtain rfl := kF _ h
    exact bB Tryz.results20 rfl
   simp only [pz, hs] at h
   simp only [vz, tyf, vF, (lV jy), (iF jy), (cw vC), (sK jy), k9, kC, lv, lx, pz, nm, seval]
   exact ⟨List.length lq, Nat.lt_succ_self _, by rw [pv]; refine ⟨lq, eY + 1, rfl, Int.le_trans kf (Int.le_add_one (Int.le_refl _)), fM kf lr, rfl, (show fV + 17 ≤ mX + 18 by omega), ?_, k9, kC, ?_, h⟩ <;> first | (simp only [ua, vF, k9, kC, lv, lx, pz, nm, seval] <;> rfl) | rfl⟩
def vG  : List Int → Int → Int → Option (LOut (Int) (Int))
 | [], dt, cz => some (.go cz)
 | e0 :: p0, dt, cz => vG p0 (dt + 1) (i64.wrap (cz + e0))
def qO (cX : List Int) : Option (Int) := cond (lenOk cX) (aN (vG cX 0 0) (fun r2 => some r2) (fun c1 => some c1) (fun _ _ => none)) none
theorem yo (cX : List Int) (R : Int) (h : qO cX = some R) : ad Tryz.prog G0 35 [.sl (aa eI cX) (List.length cX) false] (.tree (.lit (.int .i64 R))) := by
 refine ad.runR mixed Tryz.call35 Tryz.func35 rfl (by simp [Tryz.ntmps35]; kernel_rfl) ?_
 obtain ⟨KF, h, kF, kN⟩ := dp h
 simp only [qO] at h
 cases g4 : (lenOk cX)
 ·simp only [g4, hs] at h
  exact absurd h kN
 simp only [g4, hs] at h
 simp only [vz, tyf, g4, nm, seval]
 obtain ⟨K3, h, Cw, sF, EP, y7⟩ := fp h kN
 obtain ⟨f3, um, h⟩ := call3 h
 obtain ⟨I3, kP⟩ : ∃ I : Nat → St → Prop, I = (fun m st => ∃ (p3 : List Int) (jx : Int) (cZ : Int), m = List.length p3 ∧ 0 ≤ jx ∧ List.drop (Int.toNat jx) cX = p3 ∧ st.df = [] ∧ 3 ≤ st.nx ∧ st.tm 0 = .sl (aa eI cX) (List.length cX) false ∧ st.tm 3 = .lit (.int .i64 cZ) ∧ st.tm 4 = .lit (.int .i64 jx) ∧ K3 (f3 p3 jx cZ)) := ⟨_, rfl⟩
 refine loopK mixed (by kernel_rfl) I3 (List.length cX) (by rw [kP]; refine ⟨cX, 0, 0, rfl, Int.le_refl _, rfl, rfl, (show 3 ≤ 3 by omega), ?_, ?_, ?_, h⟩ <;> first | (simp only [ua, nm, seval] <;> rfl) | rfl) ?_
 rintro m ⟨tm, H, iW, df⟩ hinv
 rw [kP] at hinv
 obtain ⟨p3, jx, cZ, rfl, fg, gS, hdf, uo, e5, e6, e7, h⟩ := hinv
 simp only at hdf uo e5 e6 e7
 have n8 := fu (m := 3) (b := iW) (by omega)
 subst hdf um
 cases p3 with
 | nil =>
  have d9 : (decide (jx < (List.length cX : Int))) = false := jX fg gS
  simp only [vG, hs, reduceCtorEq] at h
  replace h := sF _ h
  try dsimp only at h
  try simp only [hs] at h
  try simp only [vz, tyf, g4, n8, e5, e6, e7, d9, nm, seval]
  refine bG (x := (.lit (.int .i64 cZ))) (by first | (simp only [Tryz.results35, resV, resL, av, bL, bM, uw, cr, tyf, g4, n8, d9, nm, seval] <;> rfl) | rfl) ?_
  obtain rfl := kF _ h
  refine bO ?_ ?_
  ·simp only [tre, ar, Bool.and_self]
  ·first | (simp only [outV, uw, bT, cr, tyf, nrm, au, g4, n8, e5, e6, e7, d9, nm, seval] <;> rfl) | rfl
 | cons e3 p3 =>
  have dX : (decide (jx < (List.length cX : Int))) = true := jY fg gS
  have uj := iC fg gS
  have S5 := jZ fg gS g4
  simp only [vG, hs, reduceCtorEq] at h
  simp only [vz, tyf, g4, n8, e5, e6, e7, dX, (br uj), S5, nm, seval]
  exact ⟨List.length p3, Nat.lt_succ_self _, by rw [kP]; refine ⟨p3, jx + 1, i64.wrap (cZ + e3), rfl, Int.le_trans fg (Int.le_add_one (Int.le_refl _)), fM fg gS, rfl, (show 3 ≤ iW + 14 by omega), e5, ?_, ?_, h⟩ <;> first | (simp only [ua, n8, e5, e6, e7, dX, S5, nm, seval] <;> rfl) | rfl⟩


theorem ad.runRQ {P : Program} {G : Glob} (hm : P.follows .mixedOrders = true) {f : FuncId} {fn : Func} {code : Code} {args : List VV} {r : PRes} (hc : Callable P f) (hf : P.funcs[f]? = some fn) (hb : fn.body = some code)
  (hst : (decide (args.length ≤ fn.ntmps) && codeQ fn.ntmps code) = true) (h : CWp P (G.at (some none)) fn.ntmps code (OpenPostD P G fn (RR r) (RPn r)) { tm := aQ args, H := fun _ => none, nx := 0, df := [] }) : ad P G f args r := by
 rw [Bool.and_eq_true] at hst
 exact ad.runR hm hc hf hb (by rw [Bool.and_eq_true]; exact ⟨hst.1, qD hst.2⟩) h
def qL (ae : Gs) (fT : Int) : List Int → Int → Int → Int → Int → Int → Int → Int → Option (LOut (Ga) (Int × Int × Int × Int × Int × Int))
 | [], p6, iI, ly, lz, lA, lB, lC => some (.go (iI, ly, lz, lA, lB, lC))
 | e1 :: p1, p6, iI, ly, lz, lA, lB, lC => Option.bind (getI ae.Tins p6) (fun x5 => cond (fT == 0) (qL ae fT p1 (p6 + 1) (i64.wrap (iI + (i64.wrap (e1 * x5.pg.a0.Low)))) (i64.wrap (ly + (i64.wrap (e1 * x5.pg.a0.High)))) lz lA lB lC) (cond (fT == 1) (qL ae fT p1 (p6 + 1) iI ly (i64.wrap (lz + (i64.wrap (e1 * x5.pg.a1.Low)))) (i64.wrap (lA + (i64.wrap (e1 * x5.pg.a1.High)))) lB lC) (cond (fT == 2) (qL ae fT p1 (p6 + 1) iI ly lz lA (i64.wrap (lB + (i64.wrap (e1 * x5.pg.a2.Low)))) (i64.wrap (lC + (i64.wrap (e1 * x5.pg.a2.High))))) (none))))
def yg (ae : Gs) (aq : List Int) : Nat → Int → Int → Int → Int → Int → Int → Int → Option (LOut (Ga) (Int × Int × Int × Int × Int × Int))
 | 0, fT, dv, eG, iK, iL, iM, iN => some (.go (dv, eG, iK, iL, iM, iN))
 | k0 + 1, fT, dv, eG, iK, iL, iM, iN => cond (lenOk aq) (aN (qL ae fT aq 0 dv eG iK iL iM iN) (fun r7 => some (.ret r7)) (fun c6 => yg ae aq k0 (fT + 1) c6.1 c6.2.1 c6.2.2.1 c6.2.2.2.1 c6.2.2.2.2.1 c6.2.2.2.2.2) (fun _ _ => none)) none
def wx (ae : Gs) (aq : List Int) : Option (Ga) := cond (boundOk 3) (aN (yg ae aq (Int.toNat (3 - 0)) 0 0 0 0 0 0 0) (fun r9 => some r9) (fun c8 => some (Ga.mk (GSpan.mk c8.1 c8.2.1) (GSpan.mk c8.2.2.1 c8.2.2.2.1) (GSpan.mk c8.2.2.2.2.1 c8.2.2.2.2.2))) (fun _ _ => none)) none
theorem QH (ae : Gs) (aq : List Int) (R : Ga) (h : wx ae aq = some R) : ad Tryz.prog G0 23 [.agg (cGs ae), .sl (aa eI aq) (List.length aq) false] (.tree (.agg (cGa R))) := by
 refine ad.runRQ mixed Tryz.call23 Tryz.func23 rfl (by simp [Tryz.ntmps23]; kernel_rfl) ?_
 obtain ⟨KF, h, kF, kN⟩ := dp h
 simp only [wx] at h
 cases iV : (boundOk 3)
 ·simp only [iV, hs] at h
  exact absurd h kN
 simp only [iV, hs] at h
 simp only [vz, tyf, iV, nm, seval]
 obtain ⟨EK, h, y6, ug, EL, qW⟩ := fp h kN
 obtain ⟨EM, uh, h⟩ := call8 h
 obtain ⟨EN, mg⟩ : ∃ I : Nat → St → Prop, I = (fun m st => ∃ (kW : Nat) (dO : Int) (jz : Int) (j0 : Int) (j1 : Int) (j2 : Int) (j3 : Int) (j4 : Int), kW = m ∧ loOk dO = true ∧ Int.toNat (3 - dO) = kW ∧ st.df = [] ∧ 4 ≤ st.nx ∧ st.H 0 = some (.cells (some 28) (cGs ae)) ∧ st.H 1 = some (.cells (some 25) ([.lit (.int .i64 0)] ++ [.lit (.int .i64 0)] ++ [.lit (.int .i64 0)] ++ [.lit (.int .i64 0)] ++ [.lit (.int .i64 0)] ++ [.lit (.int .i64 0)])) ∧ st.H 2 = some (.cells (some 25) ([.lit (.int .i64 jz)] ++ [.lit (.int .i64 j0)] ++ [.lit (.int .i64 j1)] ++ [.lit (.int .i64 j2)] ++ [.lit (.int .i64 j3)] ++ [.lit (.int .i64 j4)])) ∧ st.tm 1 = .sl (aa eI aq) (List.length aq) false ∧ st.tm 2 = .ptr 0 0 ∧ st.tm 4 = .ptr 1 0 ∧ st.tm 5 = .ptr 2 0 ∧ st.tm 6 = .lit (.int .i64 dO) ∧ EK (EM kW dO jz j0 j1 j2 j3 j4)) := ⟨_, rfl⟩
 refine loopK mixed (by kernel_rfl) EN (Int.toNat (3 - 0)) (by rw [mg]; refine ⟨Int.toNat (3 - 0), 0, 0, 0, 0, 0, 0, 0, rfl, (by rfl), rfl, rfl, (show 4 ≤ 4 by omega), ?_, ?_, ?_, ?_, ?_, ?_, ?_, ?_, h⟩ <;> first | (simp only [ua, nm, seval] <;> rfl) | rfl) ?_
 rintro m ⟨tm, H, jk, df⟩ hinv
 rw [mg] at hinv
 obtain ⟨kW, dO, jz, j0, j1, j2, j3, j4, rfl, ki, jO, hdf, ui, kE, xC, xD, bQ, bu, bC, cv, dn, h⟩ := hinv
 simp only at hdf ui kE xC xD bQ bu bC cv dn
 have rV := fu (m := 4) (b := jk) (by omega)
 subst hdf uh
 cases kW with
 | zero =>
  have jF : (decide (dO < 3)) = false := Cm jO
  simp only [yg, hs, reduceCtorEq] at h
  replace h := ug _ h
  try dsimp only at h
  try simp only [hs] at h
  try simp only [vz, tyf, iV, rV, bQ, bu, bC, cv, dn, kE, xC, xD, jF, nm, seval]
  refine bG (x := (.agg ([.lit (.int .i64 jz)] ++ [.lit (.int .i64 j0)] ++ [.lit (.int .i64 j1)] ++ [.lit (.int .i64 j2)] ++ [.lit (.int .i64 j3)] ++ [.lit (.int .i64 j4)]))) (by first | (simp only [Tryz.results23, resV, resL, av, bL, bM, uw, cr, tyf, iV, rV, bQ, bu, bC, cv, dn, kE, xC, xD, jF, nm, seval] <;> rfl) | rfl) ?_
  obtain rfl := kF _ h
  refine bO ?_ ?_
  ·simp only [tre, ar, Bool.and_self]
  ·first | (simp only [outV, uw, bT, cr, tyf, nrm, au, iV, rV, bQ, bu, bC, cv, dn, kE, xC, xD, jF, nm, seval] <;> rfl) | rfl
 | succ kW =>
  have ij : (decide (dO < 3)) = true := qS jO
  have xE := Co ki jO iV
  simp only [yg, hs, reduceCtorEq] at h
  cases jK : (lenOk aq)
  ·simp only [jK, hs] at h
   exact absurd h qW
  simp only [jK, hs] at h
  simp only [vz, tyf, iV, rV, bQ, bu, bC, cv, dn, kE, xC, xD, ij, xE, jK, nm, seval]
  obtain ⟨WM, h, WN, L0, WO, AB⟩ := fp h qW
  obtain ⟨De, L4, h⟩ := call8 h
  obtain ⟨WQ, p7⟩ : ∃ I : Nat → St → Prop, I = (fun m st => ∃ (mY : List Int) (eJ : Int) (gE : Int) (gF : Int) (gG : Int) (gH : Int) (gI : Int) (gJ : Int), m = List.length mY ∧ 0 ≤ eJ ∧ List.drop (Int.toNat eJ) aq = mY ∧ st.df = [] ∧ jk + 3 ≤ st.nx ∧ st.H 0 = some (.cells (some 28) (cGs ae)) ∧ st.H 1 = some (.cells (some 25) ([.lit (.int .i64 0)] ++ [.lit (.int .i64 0)] ++ [.lit (.int .i64 0)] ++ [.lit (.int .i64 0)] ++ [.lit (.int .i64 0)] ++ [.lit (.int .i64 0)])) ∧ st.H 2 = some (.cells (some 25) ([.lit (.int .i64 gE)] ++ [.lit (.int .i64 gF)] ++ [.lit (.int .i64 gG)] ++ [.lit (.int .i64 gH)] ++ [.lit (.int .i64 gI)] ++ [.lit (.int .i64 gJ)])) ∧ st.tm 1 = .sl (aa eI aq) (List.length aq) false ∧ st.tm 2 = .ptr 0 0 ∧ st.tm 4 = .ptr 1 0 ∧ st.tm 5 = .ptr 2 0 ∧ st.tm 6 = .lit (.int .i64 dO) ∧ st.tm 7 = .lit (.int .i64 eJ) ∧ WM (De mY eJ gE gF gG gH gI gJ)) := ⟨_, rfl⟩
  refine loopK mixed (by kernel_rfl) WQ (List.length aq) (by rw [p7]; refine ⟨aq, 0, jz, j0, j1, j2, j3, j4, rfl, Int.le_refl _, rfl, rfl, (show jk + 3 ≤ jk + 3 by omega), ?_, ?_, ?_, bQ, bu, bC, cv, dn, ?_, h⟩ <;> first | (simp only [ua, rV, bQ, bu, bC, cv, dn, kE, xC, xD, ij, xE, nm, seval] <;> rfl) | rfl) ?_
  rintro m ⟨tm, H, kG, df⟩ hinv
  rw [p7] at hinv
  obtain ⟨mY, eJ, gE, gF, gG, gH, gI, gJ, rfl, jT, mB, hdf, L5, mO, AD, AE, bA, bN, bZ, cQ, cK, bV, h⟩ := hinv
  simp only at hdf L5 mO AD AE bA bN bZ cQ cK bV
  have Df := fu (m := 4) (b := kG) (by omega)
  have Dg := uO (a := jk) (m := 3) (b := kG) (by omega)
  subst hdf L4
  cases mY with
  | nil =>
   have pf : (decide (eJ < (List.length aq : Int))) = false := jX jT mB
   simp only [qL, hs, reduceCtorEq] at h
   replace h := L0 _ h
   try dsimp only at h
   try simp only [hs] at h
   simp only [vz, tyf, iV, rV, ij, xE, jK, Df, Dg, bA, bN, bZ, cQ, cK, bV, mO, AD, AE, pf, nm, seval]
   exact ⟨kW, Nat.lt_succ_self _, by rw [mg]; refine ⟨kW, dO + 1, gE, gF, gG, gH, gI, gJ, rfl, pY ki, pZ jO, rfl, (show 4 ≤ kG + 7 by omega), ?_, ?_, ?_, bA, bN, bZ, cQ, ?_, h⟩ <;> first | (simp only [ua, rV, ij, xE, Df, Dg, bA, bN, bZ, cQ, cK, bV, mO, AD, AE, pf, nm, seval] <;> rfl) | rfl⟩
  | cons cF mY =>
   have S6 : (decide (eJ < (List.length aq : Int))) = true := jY jT mB
   have rW := iC jT mB
   have S7 := jZ jT mB jK
   simp only [qL, hs, reduceCtorEq] at h
   obtain ⟨xF, rX, h⟩ := optI h AB
   try simp only [hs] at h
   cases jD : (dO == 0)
   ·simp only [jD, hs] at h
    have mr := And.intro iV (And.intro rV (And.intro ij (And.intro xE (And.intro jK (And.intro Df (And.intro Dg (And.intro mO (And.intro AD (And.intro AE (And.intro S6 (And.intro S7 jD)))))))))))
    cases gz : (dO == 1)
    ·simp only [gz, hs] at h
     cases iX : (dO == 2)
     ·simp only [iX, hs] at h
      exact absurd h AB
     simp only [iX, hs] at h
     simp only [vz, tyf, mr, bA, bN, bZ, cQ, cK, bV, (br rW), (cw rX), gz, iX, (sH iX), nm, seval]
     refine lP (fun tm => tm 1 = .sl (aa eI aq) (List.length aq) false ∧ tm 2 = .ptr 0 0 ∧ tm 4 = .ptr 1 0 ∧ tm 5 = .ptr 2 0 ∧ tm 6 = .lit (.int .i64 dO) ∧ tm 7 = .lit (.int .i64 eJ) ∧ tm 8 = .ptr (kG + 12) 0 ∧ True) (by refine ⟨bA, bN, bZ, cQ, cK, bV, ?_, trivial⟩ <;> first | (simp only [ua, mr, bA, bN, bZ, cQ, cK, bV, gz, iX, nm, seval] <;> rfl) | rfl) ?_
     rintro tm ⟨ep, ic, fe, cL, cM, cS, dc, _⟩
     simp only [vz, tyf, mr, (br rW), (cw rX), gz, iX, (sH iX), ep, ic, fe, cL, cM, cS, dc, (iD iX), nm, seval]
     refine ja ⟨?_, ?_⟩
     ·simp only [iQ, iR, dy, iS, and_true, true_and]
      repeat' (first | exact trivial | refine And.intro ?_ ?_ | rw [dy] | rw [iT] | exact Or.inl (by decide +kernel) | exact Or.inl (by dsimp only; decide +kernel) | (refine Or.inr ⟨?_, ?_⟩ <;> simp; done) | (refine Or.inr ⟨?_, ?_⟩ <;> simp <;> omega) | (refine Or.inr ⟨?_, ?_⟩ <;> simp [VEff.wr] <;> omega))
     simp only [vz, tyf, mr, (br rW), (cw rX), gz, iX, (sH iX), ep, ic, fe, cL, cM, cS, dc, (iD iX), nm, seval]
     exact ⟨List.length mY, Nat.lt_succ_self _, by rw [p7]; refine ⟨mY, eJ + 1, gE, gF, gG, gH, i64.wrap (gI + (i64.wrap (cF * xF.pg.a2.Low))), i64.wrap (gJ + (i64.wrap (cF * xF.pg.a2.High))), rfl, Int.le_trans jT (Int.le_add_one (Int.le_refl _)), fM jT mB, rfl, (show jk + 3 ≤ kG + 49 by omega), ?_, ?_, ?_, ep, ic, fe, cL, cM, ?_, h⟩ <;> first | (simp only [ua, mr, gz, iX, ep, ic, fe, cL, cM, cS, dc, nm, seval] <;> rfl) | rfl⟩
    simp only [gz, hs] at h
    simp only [vz, tyf, mr, bA, bN, bZ, cQ, cK, bV, (br rW), (cw rX), gz, (sJ gz), nm, seval]
    refine lP (fun tm => tm 1 = .sl (aa eI aq) (List.length aq) false ∧ tm 2 = .ptr 0 0 ∧ tm 4 = .ptr 1 0 ∧ tm 5 = .ptr 2 0 ∧ tm 6 = .lit (.int .i64 dO) ∧ tm 7 = .lit (.int .i64 eJ) ∧ tm 8 = .ptr (kG + 12) 0 ∧ True) (by refine ⟨bA, bN, bZ, cQ, cK, bV, ?_, trivial⟩ <;> first | (simp only [ua, mr, bA, bN, bZ, cQ, cK, bV, gz, nm, seval] <;> rfl) | rfl) ?_
    rintro tm ⟨dH, eO, ie, jm, ni, hO, fN, _⟩
    simp only [vz, tyf, mr, (br rW), (cw rX), gz, (sJ gz), dH, eO, ie, jm, ni, hO, fN, (iE gz), nm, seval]
    refine ja ⟨?_, ?_⟩
    ·simp only [iQ, iR, dy, iS, and_true, true_and]
     repeat' (first | exact trivial | refine And.intro ?_ ?_ | rw [dy] | rw [iT] | exact Or.inl (by decide +kernel) | exact Or.inl (by dsimp only; decide +kernel) | (refine Or.inr ⟨?_, ?_⟩ <;> simp; done) | (refine Or.inr ⟨?_, ?_⟩ <;> simp <;> omega) | (refine Or.inr ⟨?_, ?_⟩ <;> simp [VEff.wr] <;> omega))
    simp only [vz, tyf, mr, (br rW), (cw rX), gz, (sJ gz), dH, eO, ie, jm, ni, hO, fN, (iE gz), nm, seval]
    exact ⟨List.length mY, Nat.lt_succ_self _, by rw [p7]; refine ⟨mY, eJ + 1, gE, gF, i64.wrap (gG + (i64.wrap (cF * xF.pg.a1.Low))), i64.wrap (gH + (i64.wrap (cF * xF.pg.a1.High))), gI, gJ, rfl, Int.le_trans jT (Int.le_add_one (Int.le_refl _)), fM jT mB, rfl, (show jk + 3 ≤ kG + 49 by omega), ?_, ?_, ?_, dH, eO, ie, jm, ni, ?_, h⟩ <;> first | (simp only [ua, mr, gz, dH, eO, ie, jm, ni, hO, fN, nm, seval] <;> rfl) | rfl⟩
   simp only [jD, hs] at h
   have qj := And.intro iV (And.intro rV (And.intro ij (And.intro xE (And.intro jK (And.intro Df (And.intro Dg (And.intro mO (And.intro AD (And.intro AE (And.intro S6 (And.intro S7 jD)))))))))))
   simp only [vz, tyf, qj, bA, bN, bZ, cQ, cK, bV, (br rW), (cw rX), (sK jD), nm, seval]
   refine lP (fun tm => tm 1 = .sl (aa eI aq) (List.length aq) false ∧ tm 2 = .ptr 0 0 ∧ tm 4 = .ptr 1 0 ∧ tm 5 = .ptr 2 0 ∧ tm 6 = .lit (.int .i64 dO) ∧ tm 7 = .lit (.int .i64 eJ) ∧ tm 8 = .ptr (kG + 12) 0 ∧ True) (by refine ⟨bA, bN, bZ, cQ, cK, bV, ?_, trivial⟩ <;> first | (simp only [ua, qj, bA, bN, bZ, cQ, cK, bV, nm, seval] <;> rfl) | rfl) ?_
   rintro tm ⟨fO, dR, d7, dJ, dS, fP, gT, _⟩
   simp only [vz, tyf, qj, (br rW), (cw rX), (sK jD), fO, dR, d7, dJ, dS, fP, gT, (iF jD), nm, seval]
   refine ja ⟨?_, ?_⟩
   ·simp only [iQ, iR, dy, iS, and_true, true_and]
    repeat' (first | exact trivial | refine And.intro ?_ ?_ | rw [dy] | rw [iT] | exact Or.inl (by decide +kernel) | exact Or.inl (by dsimp only; decide +kernel) | (refine Or.inr ⟨?_, ?_⟩ <;> simp; done) | (refine Or.inr ⟨?_, ?_⟩ <;> simp <;> omega) | (refine Or.inr ⟨?_, ?_⟩ <;> simp [VEff.wr] <;> omega))
   simp only [vz, tyf, qj, (br rW), (cw rX), (sK jD), fO, dR, d7, dJ, dS, fP, gT, (iF jD), nm, seval]
   exact ⟨List.length mY, Nat.lt_succ_self _, by rw [p7]; refine ⟨mY, eJ + 1, i64.wrap (gE + (i64.wrap (cF * xF.pg.a0.Low))), i64.wrap (gF + (i64.wrap (cF * xF.pg.a0.High))), gG, gH, gI, gJ, rfl, Int.le_trans jT (Int.le_add_one (Int.le_refl _)), fM jT mB, rfl, (show jk + 3 ≤ kG + 49 by omega), ?_, ?_, ?_, fO, dR, d7, dJ, dS, ?_, h⟩ <;> first | (simp only [ua, qj, fO, dR, d7, dJ, dS, fP, gT, nm, seval] <;> rfl) | rfl⟩

def nd (ae : Gs) (kH : Int) (bx : Int) (bJ : Int) : Option (Int) := cond (kH == 0) (some (if 0 < (i64.wrap (ae.Old.a0 - (i64.wrap (bx * bJ)))) then (i64.wrap (ae.Old.a0 - (i64.wrap (bx * bJ)))) else 0)) (cond (kH == 1) (some (if 0 < (i64.wrap (ae.Old.a1 - (i64.wrap (bx * bJ)))) then (i64.wrap (ae.Old.a1 - (i64.wrap (bx * bJ)))) else 0)) (cond (kH == 2) (some (if 0 < (i64.wrap (ae.Old.a2 - (i64.wrap (bx * bJ)))) then (i64.wrap (ae.Old.a2 - (i64.wrap (bx * bJ)))) else 0)) (none)))
theorem rY (ae : Gs) (kH : Int) (bx : Int) (bJ : Int) (R : Int) (h : nd ae kH bx bJ = some R) : ad Tryz.prog G0 32 [.agg (cGs ae), .lit (.int .i64 kH), .lit (.int .i64 bx), .lit (.int .i64 bJ)] (.tree (.lit (.int .i64 R))) := by
 refine ad.runR mixed Tryz.call32 Tryz.func32 rfl (by simp [Tryz.ntmps32]; kernel_rfl) ?_
 obtain ⟨KF, h, kF, kN⟩ := dp h
 simp only [nd] at h
 cases d1 : (kH == 0)
 ·simp only [d1, hs] at h
  cases d2 : (kH == 1)
  ·simp only [d2, hs] at h
   cases d3 : (kH == 2)
   ·simp only [d3, hs] at h
    exact absurd h kN
   simp only [d3, hs] at h
   try simp only [vz, tyf, d1, d2, d3, (lT d3), nm, seval]
   refine bG (x := (.lit (.int .i64 (if 0 < (i64.wrap (ae.Old.a2 - (i64.wrap (bx * bJ)))) then (i64.wrap (ae.Old.a2 - (i64.wrap (bx * bJ)))) else 0)))) (by first | (simp only [Tryz.results32, resV, resL, av, bL, bM, uw, cr, tyf, d1, d2, d3, (lT d3), nm, seval] <;> rfl) | rfl) ?_
   obtain rfl := kF _ h
   refine bO ?_ ?_
   ·simp only [tre, ar, Bool.and_self]
   ·first | (simp only [outV, uw, bT, cr, tyf, nrm, au, d1, d2, d3, (lT d3), nm, seval] <;> rfl) | rfl
  simp only [d2, hs] at h
  try simp only [vz, tyf, d1, d2, (lU d2), nm, seval]
  refine bG (x := (.lit (.int .i64 (if 0 < (i64.wrap (ae.Old.a1 - (i64.wrap (bx * bJ)))) then (i64.wrap (ae.Old.a1 - (i64.wrap (bx * bJ)))) else 0)))) (by first | (simp only [Tryz.results32, resV, resL, av, bL, bM, uw, cr, tyf, d1, d2, (lU d2), nm, seval] <;> rfl) | rfl) ?_
  obtain rfl := kF _ h
  refine bO ?_ ?_
  ·simp only [tre, ar, Bool.and_self]
  ·first | (simp only [outV, uw, bT, cr, tyf, nrm, au, d1, d2, (lU d2), nm, seval] <;> rfl) | rfl
 simp only [d1, hs] at h
 try simp only [vz, tyf, d1, (lV d1), nm, seval]
 refine bG (x := (.lit (.int .i64 (if 0 < (i64.wrap (ae.Old.a0 - (i64.wrap (bx * bJ)))) then (i64.wrap (ae.Old.a0 - (i64.wrap (bx * bJ)))) else 0)))) (by first | (simp only [Tryz.results32, resV, resL, av, bL, bM, uw, cr, tyf, d1, (lV d1), nm, seval] <;> rfl) | rfl) ?_
 obtain rfl := kF _ h
 refine bO ?_ ?_
 ·simp only [tre, ar, Bool.and_self]
 ·first | (simp only [outV, uw, bT, cr, tyf, nrm, au, d1, (lV d1), nm, seval] <;> rfl) | rfl
def tU (ae : Gs) : Nat → Int → Int → Int → Int → Int → Int → Int → Option (LOut (Ga) (Int × Int × Int × Int × Int × Int))
 | 0, dt, dv, eG, iK, iL, iM, iN => some (.go (dv, eG, iK, iL, iM, iN))
 | k0 + 1, dt, dv, eG, iK, iL, iM, iN => cond (dt == 0) (Option.bind (nd ae dt ae.Years.High ae.Fade.a0.High) (fun r7 => Option.bind (nd ae dt ae.Years.Low ae.Fade.a0.Low) (fun r8 => tU ae k0 (dt + 1) r7 r8 iK iL iM iN))) (cond (dt == 1) (Option.bind (nd ae dt ae.Years.High ae.Fade.a1.High) (fun r9 => Option.bind (nd ae dt ae.Years.Low ae.Fade.a1.Low) (fun dG => tU ae k0 (dt + 1) dv eG r9 dG iM iN))) (cond (dt == 2) (Option.bind (nd ae dt ae.Years.High ae.Fade.a2.High) (fun eK => Option.bind (nd ae dt ae.Years.Low ae.Fade.a2.Low) (fun jP => tU ae k0 (dt + 1) dv eG iK iL eK jP))) (none)))
def ye (ae : Gs) : Option (Ga) := cond (boundOk 3) (aN (tU ae (Int.toNat (3 - 0)) 0 0 0 0 0 0 0) (fun mS => some mS) (fun rZ => some (Ga.mk (GSpan.mk rZ.1 rZ.2.1) (GSpan.mk rZ.2.2.1 rZ.2.2.2.1) (GSpan.mk rZ.2.2.2.2.1 rZ.2.2.2.2.2))) (fun _ _ => none)) none
theorem Ud (ae : Gs) (R : Ga) (h : ye ae = some R) : ad Tryz.prog G0 21 [.agg (cGs ae)] (.tree (.agg (cGa R))) := by
 refine ad.runR mixed Tryz.call21 Tryz.func21 rfl (by simp [Tryz.ntmps21]; kernel_rfl) ?_
 obtain ⟨KF, h, kF, kN⟩ := dp h
 simp only [ye] at h
 cases sa : (boundOk 3)
 ·simp only [sa, hs] at h
  exact absurd h kN
 simp only [sa, hs] at h
 simp only [vz, tyf, sa, nm, seval]
 obtain ⟨WR, h, WS, L6, WT, mC⟩ := fp h kN
 obtain ⟨kU, L7, h⟩ := call8 h
 obtain ⟨WU, p8⟩ : ∃ I : Nat → St → Prop, I = (fun m st => ∃ (oh : Nat) (bH : Int) (i5 : Int) (i6 : Int) (i7 : Int) (i9 : Int) (iA : Int) (iB : Int), oh = m ∧ loOk bH = true ∧ Int.toNat (3 - bH) = oh ∧ st.df = [] ∧ 4 ≤ st.nx ∧ st.H 0 = some (.cells (some 28) (cGs ae)) ∧ st.H 1 = some (.cells (some 25) ([.lit (.int .i64 0)] ++ [.lit (.int .i64 0)] ++ [.lit (.int .i64 0)] ++ [.lit (.int .i64 0)] ++ [.lit (.int .i64 0)] ++ [.lit (.int .i64 0)])) ∧ st.H 2 = some (.cells (some 25) ([.lit (.int .i64 i5)] ++ [.lit (.int .i64 i6)] ++ [.lit (.int .i64 i7)] ++ [.lit (.int .i64 i9)] ++ [.lit (.int .i64 iA)] ++ [.lit (.int .i64 iB)])) ∧ st.tm 1 = .ptr 0 0 ∧ st.tm 2 = .ptr 1 0 ∧ st.tm 3 = .ptr 2 0 ∧ st.tm 4 = .lit (.int .i64 bH) ∧ WR (kU oh bH i5 i6 i7 i9 iA iB)) := ⟨_, rfl⟩
 refine loopK mixed (by kernel_rfl) WU (Int.toNat (3 - 0)) (by rw [p8]; refine ⟨Int.toNat (3 - 0), 0, 0, 0, 0, 0, 0, 0, rfl, (by rfl), rfl, rfl, (show 4 ≤ 4 by omega), ?_, ?_, ?_, ?_, ?_, ?_, ?_, h⟩ <;> first | (simp only [ua, nm, seval] <;> rfl) | rfl) ?_
 rintro m ⟨tm, H, sb, df⟩ hinv
 rw [p8] at hinv
 obtain ⟨oh, bH, i5, i6, i7, i9, iA, iB, rfl, sc, nE, hdf, L8, vH, mn, mo, ck, bz, bK, bD, h⟩ := hinv
 simp only at hdf L8 vH mn mo ck bz bK bD
 have xG := fu (m := 4) (b := sb) (by omega)
 subst hdf L7
 cases oh with
 | zero =>
  have cE : (decide (bH < 3)) = false := Cm nE
  simp only [tU, hs, reduceCtorEq] at h
  replace h := L6 _ h
  try dsimp only at h
  try simp only [hs] at h
  try simp only [vz, tyf, sa, xG, ck, bz, bK, bD, vH, mn, mo, cE, nm, seval]
  refine bG (x := (.agg ([.lit (.int .i64 i5)] ++ [.lit (.int .i64 i6)] ++ [.lit (.int .i64 i7)] ++ [.lit (.int .i64 i9)] ++ [.lit (.int .i64 iA)] ++ [.lit (.int .i64 iB)]))) (by first | (simp only [Tryz.results21, resV, resL, av, bL, bM, uw, cr, tyf, sa, xG, ck, bz, bK, bD, vH, mn, mo, cE, nm, seval] <;> rfl) | rfl) ?_
  obtain rfl := kF _ h
  refine bO ?_ ?_
  ·simp only [tre, ar, Bool.and_self]
  ·first | (simp only [outV, uw, bT, cr, tyf, nrm, au, sa, xG, ck, bz, bK, bD, vH, mn, mo, cE, nm, seval] <;> rfl) | rfl
 | succ oh =>
  have cy : (decide (bH < 3)) = true := qS nE
  have Cl := Co sc nE sa
  simp only [tU, hs, reduceCtorEq] at h
  simp only [vz, tyf, sa, xG, ck, bz, bK, bD, vH, mn, mo, cy, Cl, nm, seval]
  refine lP (fun tm => tm 1 = .ptr 0 0 ∧ tm 2 = .ptr 1 0 ∧ tm 3 = .ptr 2 0 ∧ tm 4 = .lit (.int .i64 bH) ∧ True) (by refine ⟨ck, bz, bK, bD, trivial⟩ <;> first | (simp only [ua, xG, ck, bz, bK, bD, vH, mn, mo, cy, Cl, nm, seval] <;> rfl) | rfl) ?_
  rintro tm ⟨bE, bA, bN, bZ, _⟩
  have js := And.intro sa (And.intro xG (And.intro vH (And.intro mn (And.intro mo (And.intro cy Cl)))))
  cases gk : (bH == 0)
  ·simp only [gk, hs] at h
   cases iU : (bH == 1)
   ·simp only [iU, hs] at h
    cases cj : (bH == 2)
    ·simp only [cj, hs] at h
     exact absurd h mC
    simp only [cj, hs] at h
    obtain ⟨nK, Ej, h⟩ := optI h mC
    try simp only [hs] at h
    simp only [vz, tyf, js, bE, bA, bN, bZ, gk, iU, cj, (iD cj), nm, seval]
    refine dktA (rY _ _ _ _ _ Ej) ?_
    refine aZ (fun tm => tm 1 = .ptr 0 0 ∧ tm 2 = .ptr 1 0 ∧ tm 3 = .ptr 2 0 ∧ tm 4 = .lit (.int .i64 bH) ∧ tm 9 = .lit (.int .i64 bH) ∧ tm 20 = .lit (.int .i64 nK) ∧ True) (by refine ⟨bE, bA, bN, bZ, ?_, ?_, trivial⟩ <;> first | (simp only [ua, js, bE, bA, bN, bZ, gk, iU, cj, nm, seval] <;> rfl) | rfl) ?_
    rintro tm ⟨dq, cR, cb, cU, cV, dQ, _⟩
    obtain ⟨nQ, ur, h⟩ := optI h mC
    try simp only [hs] at h
    simp only [vz, tyf, js, gk, iU, cj, (iD cj), dq, cR, cb, cU, cV, dQ, nm, seval]
    refine dktA (rY _ _ _ _ _ ur) ?_
    refine aZ (fun tm => tm 1 = .ptr 0 0 ∧ tm 2 = .ptr 1 0 ∧ tm 3 = .ptr 2 0 ∧ tm 4 = .lit (.int .i64 bH) ∧ tm 9 = .lit (.int .i64 bH) ∧ tm 20 = .lit (.int .i64 nK) ∧ tm 31 = .lit (.int .i64 nQ) ∧ True) (by refine ⟨dq, cR, cb, cU, cV, dQ, ?_, trivial⟩ <;> first | (simp only [ua, js, gk, iU, cj, dq, cR, cb, cU, cV, dQ, nm, seval] <;> rfl) | rfl) ?_
    rintro tm ⟨eM, ep, ic, fe, cL, cM, cS, _⟩
    simp only [vz, tyf, js, gk, iU, cj, (iD cj), eM, ep, ic, fe, cL, cM, cS, nm, seval]
    refine ja ⟨?_, ?_⟩
    ·simp only [iQ, iR, dy, iS, and_true, true_and]
     repeat' (first | exact trivial | refine And.intro ?_ ?_ | rw [dy] | rw [iT] | exact Or.inl (by decide +kernel) | exact Or.inl (by dsimp only; decide +kernel) | (refine Or.inr ⟨?_, ?_⟩ <;> simp; done) | (refine Or.inr ⟨?_, ?_⟩ <;> simp <;> omega) | (refine Or.inr ⟨?_, ?_⟩ <;> simp [VEff.wr] <;> omega))
    simp only [vz, tyf, js, gk, iU, cj, (iD cj), eM, ep, ic, fe, cL, cM, cS, nm, seval]
    exact ⟨oh, Nat.lt_succ_self _, by rw [p8]; refine ⟨oh, bH + 1, i5, i6, i7, i9, nK, nQ, rfl, pY sc, pZ nE, rfl, (show 4 ≤ sb + 31 by omega), ?_, ?_, ?_, eM, ep, ic, ?_, h⟩ <;> first | (simp only [ua, js, gk, iU, cj, eM, ep, ic, fe, cL, cM, cS, nm, seval] <;> rfl) | rfl⟩
   simp only [iU, hs] at h
   obtain ⟨L9, WV, h⟩ := optI h mC
   try simp only [hs] at h
   simp only [vz, tyf, js, bE, bA, bN, bZ, gk, iU, (iE iU), nm, seval]
   refine dktA (rY _ _ _ _ _ WV) ?_
   refine aZ (fun tm => tm 1 = .ptr 0 0 ∧ tm 2 = .ptr 1 0 ∧ tm 3 = .ptr 2 0 ∧ tm 4 = .lit (.int .i64 bH) ∧ tm 9 = .lit (.int .i64 bH) ∧ tm 20 = .lit (.int .i64 L9) ∧ True) (by refine ⟨bE, bA, bN, bZ, ?_, ?_, trivial⟩ <;> first | (simp only [ua, js, bE, bA, bN, bZ, gk, iU, nm, seval] <;> rfl) | rfl) ?_
   rintro tm ⟨eO, ie, jm, ni, hO, fN, _⟩
   obtain ⟨nT, FI, h⟩ := optI h mC
   try simp only [hs] at h
   simp only [vz, tyf, js, gk, iU, (iE iU), eO, ie, jm, ni, hO, fN, nm, seval]
   refine dktA (rY _ _ _ _ _ FI) ?_
   refine aZ (fun tm => tm 1 = .ptr 0 0 ∧ tm 2 = .ptr 1 0 ∧ tm 3 = .ptr 2 0 ∧ tm 4 = .lit (.int .i64 bH) ∧ tm 9 = .lit (.int .i64 bH) ∧ tm 20 = .lit (.int .i64 L9) ∧ tm 31 = .lit (.int .i64 nT) ∧ True) (by refine ⟨eO, ie, jm, ni, hO, fN, ?_, trivial⟩ <;> first | (simp only [ua, js, gk, iU, eO, ie, jm, ni, hO, fN, nm, seval] <;> rfl) | rfl) ?_
   rintro tm ⟨dR, d7, dJ, dS, fP, gT, dA, _⟩
   simp only [vz, tyf, js, gk, iU, (iE iU), dR, d7, dJ, dS, fP, gT, dA, nm, seval]
   refine ja ⟨?_, ?_⟩
   ·simp only [iQ, iR, dy, iS, and_true, true_and]
    repeat' (first | exact trivial | refine And.intro ?_ ?_ | rw [dy] | rw [iT] | exact Or.inl (by decide +kernel) | exact Or.inl (by dsimp only; decide +kernel) | (refine Or.inr ⟨?_, ?_⟩ <;> simp; done) | (refine Or.inr ⟨?_, ?_⟩ <;> simp <;> omega) | (refine Or.inr ⟨?_, ?_⟩ <;> simp [VEff.wr] <;> omega))
   simp only [vz, tyf, js, gk, iU, (iE iU), dR, d7, dJ, dS, fP, gT, dA, nm, seval]
   exact ⟨oh, Nat.lt_succ_self _, by rw [p8]; refine ⟨oh, bH + 1, i5, i6, L9, nT, iA, iB, rfl, pY sc, pZ nE, rfl, (show 4 ≤ sb + 31 by omega), ?_, ?_, ?_, dR, d7, dJ, ?_, h⟩ <;> first | (simp only [ua, js, gk, iU, dR, d7, dJ, dS, fP, gT, dA, nm, seval] <;> rfl) | rfl⟩
  simp only [gk, hs] at h
  obtain ⟨LA, WW, h⟩ := optI h mC
  try simp only [hs] at h
  simp only [vz, tyf, js, bE, bA, bN, bZ, gk, (iF gk), nm, seval]
  refine dktA (rY _ _ _ _ _ WW) ?_
  refine aZ (fun tm => tm 1 = .ptr 0 0 ∧ tm 2 = .ptr 1 0 ∧ tm 3 = .ptr 2 0 ∧ tm 4 = .lit (.int .i64 bH) ∧ tm 9 = .lit (.int .i64 bH) ∧ tm 20 = .lit (.int .i64 LA) ∧ True) (by refine ⟨bE, bA, bN, bZ, ?_, ?_, trivial⟩ <;> first | (simp only [ua, js, bE, bA, bN, bZ, gk, nm, seval] <;> rfl) | rfl) ?_
  rintro tm ⟨fk, fY, dI, dw, eQ, eR, _⟩
  obtain ⟨xH, LC, h⟩ := optI h mC
  try simp only [hs] at h
  simp only [vz, tyf, js, gk, (iF gk), fk, fY, dI, dw, eQ, eR, nm, seval]
  refine dktA (rY _ _ _ _ _ LC) ?_
  refine aZ (fun tm => tm 1 = .ptr 0 0 ∧ tm 2 = .ptr 1 0 ∧ tm 3 = .ptr 2 0 ∧ tm 4 = .lit (.int .i64 bH) ∧ tm 9 = .lit (.int .i64 bH) ∧ tm 20 = .lit (.int .i64 LA) ∧ tm 31 = .lit (.int .i64 xH) ∧ True) (by refine ⟨fk, fY, dI, dw, eQ, eR, ?_, trivial⟩ <;> first | (simp only [ua, js, gk, fk, fY, dI, dw, eQ, eR, nm, seval] <;> rfl) | rfl) ?_
  rintro tm ⟨fJ, je, kj, kl, jt, ke, gU, _⟩
  simp only [vz, tyf, js, gk, (iF gk), fJ, je, kj, kl, jt, ke, gU, nm, seval]
  refine ja ⟨?_, ?_⟩
  ·simp only [iQ, iR, dy, iS, and_true, true_and]
   repeat' (first | exact trivial | refine And.intro ?_ ?_ | rw [dy] | rw [iT] | exact Or.inl (by decide +kernel) | exact Or.inl (by dsimp only; decide +kernel) | (refine Or.inr ⟨?_, ?_⟩ <;> simp; done) | (refine Or.inr ⟨?_, ?_⟩ <;> simp <;> omega) | (refine Or.inr ⟨?_, ?_⟩ <;> simp [VEff.wr] <;> omega))
  simp only [vz, tyf, js, gk, (iF gk), fJ, je, kj, kl, jt, ke, gU, nm, seval]
  exact ⟨oh, Nat.lt_succ_self _, by rw [p8]; refine ⟨oh, bH + 1, LA, xH, i7, i9, iA, iB, rfl, pY sc, pZ nE, rfl, (show 4 ≤ sb + 31 by omega), ?_, ?_, ?_, fJ, je, kj, ?_, h⟩ <;> first | (simp only [ua, js, gk, fJ, je, kj, kl, jt, ke, gU, nm, seval] <;> rfl) | rfl⟩
def Dh (ae : Gs) : Option (Bool) := some (decide ((List.length ae.Tins : Int) ≤ 6))
theorem WX (ae : Gs) (R : Bool) (h : Dh ae = some R) : ad Tryz.prog G0 15 [.agg (cGs ae)] (.tree (.lit (.bool R))) := by
 refine ad.runR mixed Tryz.call15 Tryz.func15 rfl (by simp [Tryz.ntmps15]; kernel_rfl) ?_
 obtain ⟨KF, h, kF, kN⟩ := dp h
 simp only [Dh] at h
 try simp only [vz, tyf, nm, seval]
 obtain rfl := kF _ h
 exact bB Tryz.results15 rfl

inductive P3 where
 | p0
 | p1
 | p2
def P3.i : P3 → Int
 | .p0 => 0
 | .p1 => 1
 | .p2 => 2
def selS (c : Ga) : P3 → GSpan
 | .p0 => c.a0
 | .p1 => c.a1
 | .p2 => c.a2
def selI (c : Gi) : P3 → Int
 | .p0 => c.a0
 | .p1 => c.a1
 | .p2 => c.a2
theorem LF (a n b : Int) : wC a n b = some (inB a b n) := csome _ _
theorem AF (n a b : Int) : qe n a b = some (inB a b n) := csome _ _
def spB (m : Int) (x : GSpan) : Bool := decide (0 ≤ x.Low) && (decide (x.Low ≤ x.High) && decide (x.High ≤ m))
theorem vI {m : Int} {x : GSpan} : spB m x = true ↔ 0 ≤ x.Low ∧ x.Low ≤ x.High ∧ x.High ≤ m := by simp [spB]
theorem S8 (x : GSpan) (m : Int) : wE 0 x m = some (spB m x) := by
 unfold wE spB
 cases decide (0 ≤ x.Low) <;> cases decide (x.Low ≤ x.High) <;> rfl
theorem Di (x : GSpan) (m : Int) : oF x m = some (spB m x) := by
 unfold oF
 simp only [AF, Option.bind_some]
 rw [csome]
 congr 1
 rw [Bool.eq_iff_iff]
 simp only [Bool.and_eq_true, sC, vI]
 omega
theorem S9 (a b : Int) : ∀ (p : List Int) (c : Int), wB a b p c = goB (p.all (inB a b))
 | [], _ => rfl
 | e :: p, c => by
  simp only [wB, LF, Option.bind_some, S9 a b p, List.all_cons, xI]
theorem LG (a b : Int) {x : List Int} (h : lenOk x = true) : yz a x b = some (x.all (inB a b)) := by
 unfold yz
 rw [h, S9, Dj]
 cases x.all (inB a b) <;> rfl
theorem SA (b : Int) : ∀ (p : List GSpan) (c : Int), wF 0 b p c = goB (p.all (spB b))
 | [], _ => rfl
 | e :: p, c => by
  simp only [wF, S8, Option.bind_some, SA b p, List.all_cons, xI]
theorem SB (b : Int) {x : List GSpan} (h : lenOk x = true) : uf 0 x b = some (x.all (spB b)) := by
 unfold uf
 rw [h, SA, Dj]
 cases x.all (spB b) <;> rfl
def tinB (t : Gt) : Bool := spB 99 t.pg.a0 && (spB 99 t.pg.a1 && spB 99 t.pg.a2)
def sheetB (s : Gs) : Bool := (inB 0 99 s.Old.a0 && (inB 0 99 s.Old.a1 && inB 0 99 s.Old.a2)) && ((spB 9 s.Fade.a0 && (spB 9 s.Fade.a1 && spB 9 s.Fade.a2)) && (spB 20 s.Years && (inB 1 20 s.Off && (inB 1 4 s.Tins.length && s.Tins.all tinB))))
theorem SC : ∀ (p : List Gt) (c : Int), wG p c = goB (p.all tinB)
 | [], _ => rfl
 | e :: p, c => by
  have h : uf 0 [e.pg.a0, e.pg.a1, e.pg.a2] 99 = some (tinB e) := by
   rw [SB 99 (s6 (by simp only [List.length_cons, List.length_nil]; decide))]
   simp only [List.all_cons, List.all_nil, Bool.and_true]
   rfl
  simp only [wG, h, Option.bind_some, SC p, List.all_cons, xI]
theorem LH {s : Gs} (h : lenOk s.Tins = true) : mh s = some (sheetB s) := by
 unfold mh Cv
 rw [LG 0 99 (s6 (by simp only [List.length_cons, List.length_nil]; decide)), SB 9 (s6 (by simp only [List.length_cons, List.length_nil]; decide)), S8, LF, LF, h, SC, Dj]
 simp only [List.all_cons, List.all_nil, Bool.and_true, Option.bind_some, sheetB]
 cases (inB 0 99 s.Old.a0 && (inB 0 99 s.Old.a1 && inB 0 99 s.Old.a2)) <;> cases (spB 9 s.Fade.a0 && (spB 9 s.Fade.a1 && spB 9 s.Fade.a2)) <;> cases spB 20 s.Years <;> cases inB 1 20 s.Off <;> cases inB 1 4 (s.Tins.length : Int) <;> cases s.Tins.all tinB <;> rfl
theorem SD : ∀ (p : List Gt) (c : Int), q9 p c = goB (p.all fun t => spB 99 t.pg.a0)
 | [], _ => rfl
 | e :: p, c => by simp only [q9, Di, Option.bind_some, SD p, List.all_cons, xI]
theorem SE : ∀ (p : List Gt) (c : Int), qz p c = goB (p.all fun t => spB 99 t.pg.a1)
 | [], _ => rfl
 | e :: p, c => by simp only [qz, Di, Option.bind_some, SE p, List.all_cons, xI]
theorem SF : ∀ (p : List Gt) (c : Int), qy p c = goB (p.all fun t => spB 99 t.pg.a2)
 | [], _ => rfl
 | e :: p, c => by simp only [qy, Di, Option.bind_some, SF p, List.all_cons, xI]
theorem AG : ∀ (p : List Gt), p.all tinB = ((p.all fun t => spB 99 t.pg.a0) && ((p.all fun t => spB 99 t.pg.a1) && (p.all fun t => spB 99 t.pg.a2)))
 | [] => rfl
 | e :: p => by
  simp only [List.all_cons, AG p, tinB]
  cases spB 99 e.pg.a0 <;> cases spB 99 e.pg.a1 <;> cases spB 99 e.pg.a2 <;> simp
theorem LI {s : Gs} (h : lenOk s.Tins = true) : Aq s = some (sheetB s) := by
 unfold Aq Cx sheetB
 rw [AG, show Int.toNat (3 - 0) = 3 from rfl, show boundOk 3 = true from rfl]
 simp only [vv, h, SD, SE, SF, Dj, Di, AF, Option.bind_some, Int.reduceAdd, Int.reduceBEq, cond_true, cond_false]
 cases inB 0 99 s.Old.a0 <;> cases inB 0 99 s.Old.a1 <;> cases inB 0 99 s.Old.a2 <;> cases spB 9 s.Fade.a0 <;> cases spB 9 s.Fade.a1 <;> cases spB 9 s.Fade.a2 <;> simp only [cond_true, cond_false, Bool.false_and, Bool.true_and, Bool.and_false, aN] <;> first | (cases spB 20 s.Years <;> cases inB 1 20 s.Off <;> cases inB 1 4 (s.Tins.length : Int) <;> rfl) | (cases spB 20 s.Years <;> cases inB 1 20 s.Off <;> cases inB 1 4 (s.Tins.length : Int) <;> cases (s.Tins.all fun t => spB 99 t.pg.a0) <;> first | rfl | (cases (s.Tins.all fun t => spB 99 t.pg.a1) <;> first | rfl | (cases (s.Tins.all fun t => spB 99 t.pg.a2) <;> rfl)))
structure ShOk (s : Gs) : Prop where
 old : ∀ p, 0 ≤ selI s.Old p ∧ selI s.Old p ≤ 99
 fade : ∀ p, 0 ≤ (selS s.Fade p).Low ∧ (selS s.Fade p).Low ≤ (selS s.Fade p).High ∧ (selS s.Fade p).High ≤ 9
 yrs : 0 ≤ s.Years.Low ∧ s.Years.Low ≤ s.Years.High ∧ s.Years.High ≤ 20
 off : 1 ≤ s.Off ∧ s.Off ≤ 20
 n : 1 ≤ s.Tins.length ∧ s.Tins.length ≤ 4
 tin : ∀ t ∈ s.Tins, ∀ p, 0 ≤ (selS t.pg p).Low ∧ (selS t.pg p).Low ≤ (selS t.pg p).High ∧ (selS t.pg p).High ≤ 99
theorem ShOk.of {s : Gs} (h : sheetB s = true) : ShOk s := by
 simp only [sheetB, Bool.and_eq_true, List.all_eq_true, tinB, sC, vI] at h
 obtain ⟨⟨h1, h2, h3⟩, ⟨h4, h5, h6⟩, h7, h8, h9, yy⟩ := h
 refine ⟨fun p => ?_, fun p => ?_, h7, h8, by omega, fun t ht p => ?_⟩
 ·cases p <;> assumption
 ·cases p <;> assumption
 ·obtain ⟨a, b, c⟩ := yy t ht
  cases p <;> assumption
theorem ShOk.ok {s : Gs} (h : ShOk s) : sheetB s = true := by
 simp only [sheetB, Bool.and_eq_true, List.all_eq_true, tinB, sC, vI]
 exact ⟨⟨h.old .p0, h.old .p1, h.old .p2⟩, ⟨h.fade .p0, h.fade .p1, h.fade .p2⟩, h.yrs, h.off, by have := h.n; omega, fun t ht => ⟨h.tin t ht .p0, h.tin t ht .p1, h.tin t ht .p2⟩⟩
def sumL : List Int → Int
 | [] => 0
 | e :: l => e + sumL l
theorem mZ : ∀ {l : List Int}, (∀ e ∈ l, 0 ≤ e ∧ e ≤ 8) → 0 ≤ sumL l ∧ sumL l ≤ 8 * l.length
 | [], _ => by simp [sumL]
 | e :: l, h => by
  have h1 := h e (List.mem_cons_self ..)
  have h2 := mZ fun x hx => h x (List.mem_cons_of_mem _ hx)
  simp only [sumL, List.length_cons]
  omega
theorem AH : ∀ (l : List Int) (c acc : Int), (∀ e ∈ l, 0 ≤ e ∧ e ≤ 8) → 0 ≤ acc → acc + 8 * l.length ≤ 1000000 → uk l c acc = some (.go (acc + sumL l))
 | [], c, acc, _, _, _ => by simp [uk, sumL]
 | e :: l, c, acc, h, h0, hb => by
  have h1 := h e (List.mem_cons_self ..)
  simp only [List.length_cons] at hb
  simp only [uk]
  rw [cB (by omega) (by omega), AH l _ _ (fun x hx => h x (List.mem_cons_of_mem _ hx)) (by omega) (by omega)]
  simp only [sumL, Int.add_assoc]
theorem yc {l : List Int} (h : ∀ e ∈ l, 0 ≤ e ∧ e ≤ 8) (hl : l.length ≤ 1000) : wI l = some (sumL l) := by
 unfold wI
 rw [s6 (by omega), AH l 0 0 h (by omega) (by omega)]
 simp [aN]
theorem AI : ∀ (l : List Int) (c acc : Int), (∀ e ∈ l, 0 ≤ e ∧ e ≤ 8) → 0 ≤ acc → acc + 8 * l.length ≤ 1000000 → vG l c acc = some (.go (acc + sumL l))
 | [], c, acc, _, _, _ => by simp [vG, sumL]
 | e :: l, c, acc, h, h0, hb => by
  have h1 := h e (List.mem_cons_self ..)
  simp only [List.length_cons] at hb
  simp only [vG]
  rw [cB (by omega) (by omega), AI l _ _ (fun x hx => h x (List.mem_cons_of_mem _ hx)) (by omega) (by omega)]
  simp only [sumL, Int.add_assoc]
theorem KI {l : List Int} (h : ∀ e ∈ l, 0 ≤ e ∧ e ≤ 8) (hl : l.length ≤ 1000) : qO l = some (sumL l) := by
 unfold qO
 rw [s6 (by omega), AI l 0 0 h (by omega) (by omega)]
 simp [aN]
def mixB (s : Gs) (mix : List Int) : Bool := decide (mix.length = s.Tins.length) && (mix.all (inB 0 8) && inB 1 8 (sumL mix))
structure MixOk (s : Gs) (mix : List Int) : Prop where
 n : mix.length = s.Tins.length
 b : ∀ e ∈ mix, 0 ≤ e ∧ e ≤ 8
 s : 1 ≤ sumL mix ∧ sumL mix ≤ 8
theorem MixOk.of {s : Gs} {mix : List Int} (h : mixB s mix = true) : MixOk s mix := by
 simp only [mixB, Bool.and_eq_true, List.all_eq_true, sC, decide_eq_true_eq] at h
 exact ⟨h.1, h.2.1, h.2.2⟩
theorem MixOk.ok {s : Gs} {mix : List Int} (h : MixOk s mix) : mixB s mix = true := by
 simp only [mixB, Bool.and_eq_true, List.all_eq_true, sC, decide_eq_true_eq]
 exact ⟨h.n, h.b, h.s⟩
end Go.V
end
