/- Part of a proof. -/
import Derived.Test.YtmhlghgbfmcdaaaGreatDoorG3bn
set_option linter.all false
set_option maxRecDepth 4000
set_option maxHeartbeats 40000000
section
namespace Go.V
open Go Go.Proofs IntKind
theorem uG {α : Type} (f : Nat → List α) : ∀ (l k : Nat), 0 < k → ((List.range' k l).flatMap fun i => if (decide (((i : Nat) : Int) = 0)) then f i else []) = []
 | 0, _, _ => rfl
 | l + 1, k, hk => by
  rw [List.range'_succ, List.flatMap_cons, uG f l (k + 1) (by omega), if_neg (by simp; omega)]
  rfl
theorem EV {b : GBk} (rn : 0 ≤ b.Apprentices) {i d : Nat} (hi : i < b.Strokes.length) {p : List Int} (hp : p.length = i) : listsB (mF b) (b.Apprentices.toNat + 1) (d + 1) p = (exF p ((ltF b i).toNat + 1)).flatMap (listsB (mF b) (b.Apprentices.toNat + 1) d) := by
 have hg : b.Strokes[p.length]? = some b.Strokes[i] := by rw [hp]; exact List.getElem?_eq_getElem hi
 have hl : ltF b i = if b.Strokes[i].Round then 0 else b.Apprentices := by unfold ltF; rw [List.getElem?_eq_getElem hi]
 unfold listsB exF
 rw [List.flatMap_map, List.range_eq_range']
 cases hr : b.Strokes[i].Round with
 | false =>
  have e : ltF b i = b.Apprentices := by rw [hl, hr]; rfl
  rw [e]
  congr 1
  funext j
  have : mF b p j = true := by unfold mF; rw [hg]; simp [hr]
  rw [this]; rfl
 | true =>
  have e : ltF b i = 0 := by rw [hl, hr]; rfl
  rw [e]
  have e2 : ∀ j : Nat, mF b p j = decide ((j : Int) = 0) := fun j => by
   unfold mF; rw [hg]; dsimp only; rw [hr]
   by_cases h : j = 0
   ·subst h; rfl
   ·rw [decide_eq_false (show ¬ (j : Int) = 0 by omega), show ((j : Int) == 0) = false by simp; omega]; rfl
  simp only [e2]
  rw [List.range'_succ, List.flatMap_cons, uG _ _ _ (by omega)]
  simp
theorem uH {b : GBk} (rn : 0 ≤ b.Apprentices) : ∀ (d i : Nat), i + d = b.Strokes.length → (plF b i).flatMap (listsB (mF b) (b.Apprentices.toNat + 1) d) = plF b b.Strokes.length
 | 0, i, h => by
  obtain rfl : i = b.Strokes.length := by omega
  show ((plF b b.Strokes.length).flatMap fun p => [p]) = _
  simp
 | d + 1, i, h => by
  rw [← uH rn d (i + 1) (by omega)]
  have hm := xl (b := b) i
  show _ = ((plF b i).flatMap fun x => exF x ((ltF b i).toNat + 1)).flatMap _
  rw [List.flatMap_assoc]
  generalize plF b i = L at hm ⊢
  induction L with
  | nil => rfl
  | cons x L ih =>
   rw [List.flatMap_cons, List.flatMap_cons, ih (fun y hy => hm y (List.mem_cons_of_mem _ hy)), EV rn (by omega) (hm x (List.mem_cons_self ..))]
theorem LQ {b : GBk} (hB : BOk b) : rp b = some (LA b b.Apprentices) := by
 have hA := hB.ap
 have hn := hB.ns
 unfold rp
 rw [decide_eq_true hA.1, decide_eq_true hA.2, decide_eq_true hn.2, ← uH hA.1 b.Strokes.length 0 (by omega)]
 simp [plF, LA]
theorem xm {b : GBk} (h : Len b) (hB : BOk b) : ∀ (p : List (List Int)) (c : Int) (out : List (List Int)) (ls : Int), 1 ≤ c → (∀ q ∈ p, q.length = b.Strokes.length) → out.length + p.length ≤ 100000 →
  ∃ m, m ≤ ls ∧ (∀ q ∈ p, m ≤ TK b q) ∧ i6 b p c out ls = some (.go ((if m < ls then [] else out) ++ p.filter (fun q => TK b q == m), m)) ∧ (m = ls ∨ ∃ q ∈ p, TK b q = m)
 | [], c, out, ls, _, _, _ => ⟨ls, Int.le_refl _, (fun q hq => by cases hq), by simp [i6], .inl rfl⟩
 | e :: p, c, out, ls, hc, hl, hn => by
  have hle := hl e (List.mem_cons_self ..)
  have hl' : ∀ q ∈ p, q.length = b.Strokes.length := fun q hq => hl q (List.mem_cons_of_mem _ hq)
  simp only [List.length_cons] at hn
  simp only [i6, EW h hB hle, Option.bind_some, show (c == 0) = false by simp; omega, cond_false, beq_self_eq_true, cond_true]
  by_cases hlt : TK b e < ls
  ·rw [decide_eq_true hlt, cond_true, me (by simp), cond_true]
   obtain ⟨m, m1, m2, m3, m4⟩ := xm h hB p (c + 1) [e] (TK b e) (by omega) hl' (by simp; omega)
   refine ⟨m, by omega, fun q hq => ?_, ?_, ?_⟩
   ·rcases List.mem_cons.1 hq with rfl | hq
    ·exact m1
    ·exact m2 q hq
   ·rw [List.nil_append, m3, if_pos (show m < ls by omega), List.filter_cons]
    by_cases hm : m < TK b e
    ·rw [if_pos hm, if_neg (by simp; omega)]
    ·rw [if_neg hm, if_pos (by simp; omega)]; rfl
   ·rcases m4 with h4 | ⟨q, hq, h4⟩
    ·exact .inr ⟨e, List.mem_cons_self .., h4.symm⟩
    ·exact .inr ⟨q, List.mem_cons_of_mem _ hq, h4⟩
  ·rw [decide_eq_false hlt, cond_false]
   by_cases heq : TK b e = ls
   ·rw [show (TK b e == ls) = true by simpa using heq, cond_true, me (by simp; omega), cond_true]
    obtain ⟨m, m1, m2, m3, m4⟩ := xm h hB p (c + 1) (out ++ [e]) ls (by omega) hl' (by simp; omega)
    refine ⟨m, m1, fun q hq => ?_, ?_, ?_⟩
    ·rcases List.mem_cons.1 hq with rfl | hq
     ·omega
     ·exact m2 q hq
    ·rw [m3, List.filter_cons]
     by_cases hm : m < ls
     ·rw [if_pos hm, if_pos hm, if_neg (by simp; omega)]
     ·rw [if_neg hm, if_neg hm, if_pos (by simp; omega)]; simp
    ·rcases m4 with h4 | ⟨q, hq, h4⟩
     ·exact .inl h4
     ·exact .inr ⟨q, List.mem_cons_of_mem _ hq, h4⟩
   ·rw [show (TK b e == ls) = false by simpa using heq, cond_false]
    obtain ⟨m, m1, m2, m3, m4⟩ := xm h hB p (c + 1) out ls (by omega) hl' (by omega)
    refine ⟨m, m1, fun q hq => ?_, ?_, ?_⟩
    ·rcases List.mem_cons.1 hq with rfl | hq
     ·omega
     ·exact m2 q hq
    ·rw [m3, List.filter_cons, if_neg (show ¬ ((TK b e == m) = true) by simp; omega)]
    ·rcases m4 with h4 | ⟨q, hq, h4⟩
     ·exact .inl h4
     ·exact .inr ⟨q, List.mem_cons_of_mem _ hq, h4⟩
theorem uI {b : GBk} (hB : BOk b) : (∀ q ∈ LA b b.Apprentices, q.length = b.Strokes.length) ∧ 0 < (LA b b.Apprentices).length ∧ (LA b b.Apprentices).length ≤ 4096 := by
 have h := LQ hB
 have hA := hB.ap
 have hn := hB.ns
 unfold rp at h
 rw [decide_eq_true hA.1, decide_eq_true hA.2, decide_eq_true hn.2] at h
 have e : plF b b.Strokes.length = LA b b.Apprentices := Option.some.inj h
 rw [← e]
 obtain ⟨h1, h2⟩ := pQ hA.1 hA.2 b.Strokes.length
 exact ⟨xl _, h1, Nat.le_trans h2 (Nat.pow_le_pow_right (n := 4) (by omega) (show b.Strokes.length ≤ 6 from hn.2))⟩
theorem EX {b : GBk} (h : Len b) (hB : BOk b) {R : List Int} (hR : IsB b b.Apprentices R) : ∃ L, pR b = some (R :: L) ∧ R :: L = (LA b b.Apprentices).filter (fun q => TK b q == TK b R) ∧ (R :: L).length ≤ 4096 := by
 obtain ⟨k1, k2, k3⟩ := uI hB
 obtain ⟨r1, r2, r3⟩ := hR
 rcases xn _ _ r1 with ⟨h0, _⟩ | ⟨L1, L2, eL, hlt, hle, _⟩
 ·cases h0
 have r1' : ∀ p ∈ L1, TK b R < TK b p := hlt
 have ef : (LA b b.Apprentices).filter (fun q => TK b q == TK b R) = R :: L2.filter (fun q => TK b q == TK b R) := by
  rw [eL, List.filter_append, List.filter_cons, if_pos (by simp)]
  rw [List.filter_eq_nil_iff.2 (fun p hp => by have := r1' p hp; simp; omega)]
  rfl
 have hlen : (R :: L2.filter (fun q => TK b q == TK b R)).length ≤ 4096 := by
  rw [← ef]; exact Nat.le_trans (List.length_filter_le _ _) k3
 refine ⟨_, ?_, ef.symm, hlen⟩
 rw [← ef]
 unfold pR
 rw [LQ hB, Option.bind_some, gA (by omega), cond_true]
 generalize LA b b.Apprentices = A at *
 cases A with
 | nil => simp at k2
 | cons e A =>
  have EY := k1 e (List.mem_cons_self ..)
  simp only [List.length_cons] at k3
  simp only [i6, EW h hB EY, Option.bind_some, beq_self_eq_true, cond_true, List.nil_append]
  rw [me (by simp), cond_true]
  obtain ⟨m, m1, m2, m3, m4⟩ := xm h hB A (0 + 1) [e] (TK b e) (by omega) (fun q hq => k1 q (List.mem_cons_of_mem _ hq)) (by simp; omega)
  rw [m3]
  have hmR : m = TK b R := by
   have h1 : m ≤ TK b R := by
    rcases List.mem_cons.1 r2 with rfl | hq
    ·exact m1
    ·exact m2 R hq
   have h2 : TK b R ≤ m := by
    rcases m4 with h4 | ⟨q, hq, h4⟩
    ·rw [h4]; exact r3 e (List.mem_cons_self ..)
    ·rw [← h4]; exact r3 q (List.mem_cons_of_mem _ hq)
   omega
  subst hmR
  simp only [lbind]
  rw [List.filter_cons]
  by_cases hm : TK b R < TK b e
  ·rw [if_pos hm, if_neg (by simp; omega)]; rfl
  ·rw [if_neg hm, if_pos (by simp; omega)]; rfl
def pS (al : GBk) (aF : Int) : Nat → Int → Option (LOut (Int × Bool) (Int))
 | 0, _ => none
 | k0 + 1, cb => cond (decide (cb ≤ 3)) (Option.bind (rq al cb) (fun r1 => Option.bind (pR r1) (fun r2 => Option.bind (getI r2 0) (fun x3 => Option.bind (nv r1 x3) (fun r4 => cond (decide (r4 ≤ aF)) (some (.ret (cb, true))) (pS al aF k0 (i64.wrap (cb + 1)))))))) (some (.go cb))
def ru (al : GBk) (aF : Int) : Option (Int × Bool) := lbind (pS al aF 1000000 0) (fun r6 => some r6) (fun c5 => some (0, false)) (fun _ _ => none)
theorem LS (al : GBk) (aF : Int) (R : Int × Bool) (h : ru al aF = some R) : ak Tryz.prog G0 63 [.agg (cGBk al), .lit (.int .i64 aF)] (.tree (.tup [.lit (.int .i64 R.1), .lit (.bool R.2)])) := by
 refine ak.runR mixed Tryz.call63 Tryz.func63 rfl (by simp [Tryz.ntmps63]; kernel_rfl) ?_
 obtain ⟨KF, h, kF, kN⟩ := cV h
 simp only [ru] at h
 simp only [vz, tyf, nm, seval]
 obtain ⟨K7, h, LL, DT, Pv, nu⟩ := fZ h kN
 obtain ⟨f7, DU, h⟩ := call2 h
 obtain ⟨I7, pN⟩ : ∃ I : Nat → St → Prop, I = (fun m st => ∃ (p7 : Nat) (fN : Int), p7 = m ∧ st.df = [] ∧ 4 ≤ st.nx ∧ st.H 0 = some (.cells (some 25) (cGBk al)) ∧ st.tm 1 = .lit (.int .i64 aF) ∧ st.tm 2 = .ptr 0 0 ∧ st.tm 6 = .lit (.int .i64 fN) ∧ K7 (f7 p7 fN)) := ⟨_, rfl⟩
 refine loopK mixed (by kernel_rfl) I7 1000000 (by rw [pN]; refine ⟨1000000, 0, rfl, rfl, (show 4 ≤ 4 by omega), ?_, ?_, ?_, ?_, h⟩ <;> first | (simp only [ua, nm, seval] <;> rfl) | rfl) ?_
 rintro m ⟨tm, H, pO, df⟩ hinv
 rw [pN] at hinv
 obtain ⟨p7, fN, rfl, hdf, DV, H8, e9, bB, bT, h⟩ := hinv
 simp only at hdf DV H8 e9 bB bT
 have eM := eR (m := 4) (b := pO) (by omega)
 subst hdf DU
 cases p7 with
 | zero =>
  simp only [pS, hs, reduceCtorEq] at h
  exact absurd h nu
 | succ p7 =>
  simp only [pS, hs, reduceCtorEq] at h
  cases cM : (decide (fN ≤ 3))
  ·simp only [cM, hs] at h
   replace h := DT _ h
   try dsimp only at h
   try simp only [hs] at h
   try simp only [vz, tyf, eM, e9, bB, bT, H8, cM, nm, seval]
   refine cn (x := (.tup [.lit (.int .i64 0), .lit (.bool false)])) (by first | (simp only [Tryz.results63, resV, resL, aR, cw, cv, uw, cr, tyf, eM, H8, cM, nm, seval] <;> rfl) | rfl) ?_
   obtain rfl := kF _ h
   refine eJ ?_ ?_
   ·simp only [tre, tytre, Bool.and_self]
   ·first | (simp only [outV, uw, eD, cr, tyf, nrm, aN, eM, e9, bB, bT, H8, cM, nm, seval] <;> rfl) | rfl
  simp only [cM, hs] at h
  obtain ⟨pa, lI, h⟩ := optI h nu
  try simp only [hs] at h
  simp only [vz, tyf, eM, e9, bB, bT, H8, cM, nm, seval]
  refine ktA (LU _ _ _ lI) ?_
  refine bS (fun tm => tm 1 = .lit (.int .i64 aF) ∧ tm 2 = .ptr 0 0 ∧ tm 6 = .lit (.int .i64 fN) ∧ tm 14 = .agg (cGBk pa) ∧ True) (by refine ⟨e9, bB, bT, ?_, trivial⟩ <;> first | (simp only [ua, eM, e9, bB, bT, H8, cM, nm, seval] <;> rfl) | rfl) ?_
  rintro tm ⟨bF, cq, db, cO, _⟩
  simp only [vz, tyf, eM, H8, cM, bF, cq, db, cO, nm, seval]
  refine kL (fun tm => tm 1 = .lit (.int .i64 aF) ∧ tm 2 = .ptr 0 0 ∧ tm 6 = .lit (.int .i64 fN) ∧ tm 7 = .ptr (pO + 5) 0 ∧ True) (by refine ⟨bF, cq, db, ?_, trivial⟩ <;> first | (simp only [ua, eM, H8, cM, bF, cq, db, cO, nm, seval] <;> rfl) | rfl) ?_
  rintro tm ⟨eh, fv, hX, eU, _⟩
  obtain ⟨kM, mS, h⟩ := optI h nu
  try simp only [hs] at h
  simp only [vz, tyf, eM, H8, cM, eh, fv, hX, eU, nm, seval]
  refine dktA (LV _ _ mS) ?_
  refine bS (fun tm => tm 1 = .lit (.int .i64 aF) ∧ tm 2 = .ptr 0 0 ∧ tm 6 = .lit (.int .i64 fN) ∧ tm 15 = .agg (cGBk pa) ∧ tm 17 = .sl (ae (eSl eI) kM) (List.length kM) false ∧ True) (by refine ⟨eh, fv, hX, ?_, ?_, trivial⟩ <;> first | (simp only [ua, eM, H8, cM, eh, fv, hX, eU, nm, seval] <;> rfl) | rfl) ?_
  rintro tm ⟨ez, bV, eC, eW, dR, _⟩
  obtain ⟨Tg, pT, h⟩ := optI h nu
  try simp only [hs] at h
  obtain ⟨LW, PT, h⟩ := optI h nu
  try simp only [hs] at h
  simp only [vz, tyf, eM, H8, cM, ez, bV, eC, eW, dR, (bh pT), nm, seval]
  refine dktA (xo _ _ _ PT) ?_
  refine bS (fun tm => tm 1 = .lit (.int .i64 aF) ∧ tm 2 = .ptr 0 0 ∧ tm 6 = .lit (.int .i64 fN) ∧ tm 20 = .lit (.int .i64 LW) ∧ True) (by refine ⟨ez, bV, eC, ?_, trivial⟩ <;> first | (simp only [ua, eM, H8, cM, ez, bV, eC, eW, dR, nm, seval] <;> rfl) | rfl) ?_
  rintro tm ⟨bH, bL, bX, cP, _⟩
  cases cg : (decide (LW ≤ aF))
  ·simp only [cg, hs] at h
   simp only [vz, tyf, eM, H8, cM, (bh pT), bH, bL, bX, cP, cg, nm, seval]
   exact ⟨p7, Nat.lt_succ_self _, by rw [pN]; refine ⟨p7, i64.wrap (fN + 1), rfl, rfl, (show 4 ≤ pO + 18 by omega), ?_, bH, bL, ?_, (by first | exact h | (simp only [cM, cg]; exact h))⟩ <;> first | (simp only [ua, eM, H8, cM, bH, bL, bX, cP, cg, nm, seval] <;> rfl) | rfl⟩
  simp only [cg, hs] at h
  try simp only [vz, tyf, eM, H8, cM, (bh pT), bH, bL, bX, cP, cg, nm, seval]
  refine cn (x := (.tup [.lit (.int .i64 fN), .lit (.bool true)])) (by first | (simp only [Tryz.results63, resV, resL, aR, cw, cv, uw, cr, tyf, eM, H8, cM, (bh pT), cg, nm, seval] <;> rfl) | rfl) ?_
  replace h := LL _ h
  try dsimp only at h
  obtain rfl := kF _ h
  refine eJ ?_ ?_
  ·simp only [tre, tytre, Bool.and_self]
  ·first | (simp only [outV, uw, eD, cr, tyf, nrm, aN, eM, H8, cM, (bh pT), bH, bL, bX, cP, cg, nm, seval] <;> rfl) | rfl
def rangeFR (f : FuncId) (cf : aw) (jump : Code → RS → ER) (n : Nat) (s : RS) (f0 : FuncId) (first captured : List VV) (ps : Array Tmp) (asg bo : Code) : ER :=
 match cf f0 (first ++ [.yl (s.nx + 1)] ++ captured) ((s.H.put s.nx (some (.deferred (some [])))).put (s.nx + 1) (some (.loopF .ready none (tmL n s.st.tm) ps asg bo f))) (s.nx + 2) with
 | .ret _ H' nx' => match H'.get (s.nx + 1) with
  | some (.loopF .busy _ _ _ _ _ _) => .no (.text 1)
  | some (.loopF _ pe tm ps asg bo fn) => match pe with
   | none => .mk .normal { s with H := H'.put (s.nx + 1) (some (.loopF .exhausted pe tm ps asg bo fn)), nx := nx', df := .coll s.nx :: s.df }
   | some c => jump c { s with H := H'.put (s.nx + 1) (some (.loopF .exhausted pe tm ps asg bo fn)), nx := nx', df := .coll s.nx :: s.df }
  | _ => .no (.text 2)
 | .pan x H' nx' => .mk (.panic x) { s with H := H', nx := nx', df := .coll s.nx :: s.df }
 | .no w => .no w
def GoOk (P : Program) (G : Glob) (f n : Nat) (go : Code → RS → ER) : Prop := ∀ code s e s', go code s = .mk e s' → ∀ Q : VExit → St → Prop, Q e s'.st → VGo P G f n code Q s.st
theorem PU {P : Program} {G : Glob} {cf : aw} (hcf : CallOk P G cf) {f : FuncId} {jump : Code → RS → ER} {n : Nat} (hj : GoOk P G f n jump) {s s' : RS} {e : VExit} {g : Operand} {f0 : FuncId} {first captured : List VV} {ps : Array Tmp} {asg bo : Code}
  (hg : s.st.ρ G g = .fn (.func f0) first captured) (h : rangeFR f cf jump n s f0 first captured ps asg bo = .mk e s') {Q : VExit → St → Prop} (hq : Q e s'.st) : VGo P G f n (.rangeFunc g ps asg bo) Q s.st := by
 refine VGo.range hg ?_
 unfold rangeFR at h
 have eH : ((s.H.put s.nx (some (.deferred (some [])))).put (s.nx + 1) (some (.loopF .ready none (tmL n s.st.tm) ps asg bo f))).get = updH (updH s.st.H s.st.nx (.deferred (some []))) (s.st.nx + 1) (.loopF .ready none (tmL n s.st.tm) ps asg bo f) := by
  rw [jX, jX]; rfl
 split at h
 ·rename_i x H' nx' hc
  have hv := hcf.1 _ _ _ _ _ _ _ hc
  rw [eH] at hv
  refine au.mono hv ?_ ?_
  ·rintro y H1 n1 ⟨_, rfl, rfl⟩
   split at h
   ·cases h
   ·rename_i st pe iy iz i0 i5 jg hnb hl
    have e2 : ({ s with H := H'.put (s.nx + 1) (some (.loopF .exhausted pe iy iz i0 i5 jg)), nx := n1, df := .coll s.nx :: s.df } : RS).st = { s.st with H := updH H'.get (s.st.nx + 1) (.loopF .exhausted pe iy iz i0 i5 jg), nx := n1, df := .coll s.st.nx :: s.st.df } := by
     simp only [RS.st, jX]
    refine ⟨st, pe, iy, iz, i0, i5, jg, hl, hnb, ?_⟩
    split at h
    ·cases h
     show Q .normal _
     rw [← e2]; exact hq
    ·rename_i c
     show VGo P _ f n c Q _
     rw [← e2]
     exact hj c _ e s' h Q hq
   ·cases h
  ·intro y H1 n1 h; exact h.elim
 ·rename_i x H' nx' hc
  have hv := hcf.2 _ _ _ _ _ _ _ hc
  rw [eH] at hv
  cases h
  refine au.mono hv ?_ ?_
  ·intro y H1 n1 h; exact h.elim
  ·rintro y H1 n1 ⟨rfl, rfl, rfl⟩
   exact hq
 ·cases h
noncomputable def rangeFF (f : FuncId) (cf : aw) (jump : Code → RS → ER) (n : Nat) (s : RS) (ps : Array Tmp) (asg bo : Code) (code : Code) (x : VV) : ER := match x with
 | .fn (.func f0) first captured => rangeFR f cf jump n s f0 first captured ps asg bo
 | _ => .no (.code code)
noncomputable def goF (G : Glob) (f : FuncId) (run : RunR) (cf : aw) (n : Nat) (k : Nat) : Code → RS → ER :=
 Nat.rec (motive := fun _ => Code → RS → ER) (fun code s => run none n code s) (fun _ ih code s => match code with
  | .seq a b => thenQ (ih a s) (fun s' => ih b s')
  | .block id a => blockQ (ih a s) id
  | .rangeFunc g ps asg bo => rangeFF f cf (fun c s => run none n c s) n s ps asg bo code (ρQ G s.tm g)
  | code => run none n code s) k
theorem uJ {P : Program} {G : Glob} {f n : Nat} {run : RunR} {cf : aw} (hrun : RunOk P G run) (hcf : CallOk P G cf) : ∀ (k : Nat), GoOk P G f n (goF G f run cf n k)
 | 0, code, s, e, s', h, Q, hq => VGo.of (hrun none n code s e s' h Q hq)
 | k + 1, code, s, e, s', h, Q, hq => by
  have ih := uJ (f := f) (n := n) hrun hcf k
  have dflt : run none n code s = .mk e s' → VGo P G f n code Q s.st := fun h => VGo.of (hrun none n code s e s' h Q hq)
  cases code with
  | seq a b =>
   have h' : thenQ (goF G f run cf n k a s) (fun s' => goF G f run cf n k b s') = .mk e s' := h
   cases hs : goF G f run cf n k a s with
   | no w => rw [hs] at h'; cases h'
   | mk e1 s1 =>
    rw [hs] at h'
    cases e1 with
    | normal => exact VGo.seq (ih a s .normal s1 hs _ (ih b s1 e s' h' Q hq))
    | exit id => cases h'; exact VGo.seq (ih a s _ _ hs _ hq)
    | goto l => cases h'; exact VGo.seq (ih a s _ _ hs _ hq)
    | ret => cases h'; exact VGo.seq (ih a s _ _ hs _ hq)
    | panic x => cases h'; exact VGo.seq (ih a s _ _ hs _ hq)
  | block id a =>
   have h' : blockQ (goF G f run cf n k a s) id = .mk e s' := h
   cases hs : goF G f run cf n k a s with
   | no w => rw [hs] at h'; cases h'
   | mk e1 s1 =>
    rw [hs] at h'
    refine VGo.block (ih a s e1 s1 hs _ ?_)
    cases e1 with
    | normal => cases h'; exact hq
    | goto l => cases h'; exact hq
    | ret => cases h'; exact hq
    | panic x => cases h'; exact hq
    | exit id' =>
     have h'' : Bool.rec (motive := fun _ => ER) (.mk (.exit id') s1) (.mk .normal s1) (Nat.beq id' id) = .mk e s' := h'
     show (if id' = id then _ else _)
     by_cases hid : id' = id
     ·have hb : Nat.beq id' id = true := by simpa using hid
      rw [hb] at h''
      cases h''
      rw [if_pos hid]; exact hq
     ·have hb : Nat.beq id' id = false := by cases hq : Nat.beq id' id with | false => rfl | true => exact absurd (by simpa using hq) hid
      rw [hb] at h''
      cases h''
      rw [if_neg hid]; exact hq
  | rangeFunc g ps asg bo =>
   have h' : rangeFF f cf (fun c s => run none n c s) n s ps asg bo (.rangeFunc g ps asg bo) (ρQ G s.tm g) = .mk e s' := h
   rw [ρQ_eq] at h'
   unfold rangeFF at h'
   split at h'
   ·rename_i f0 first captured hg
    exact PU hcf (fun c s e s' hs Q hq => VGo.of (hrun none n c s e s' hs Q hq)) hg h' hq
   ·cases h'
  | _ => exact dflt h
noncomputable def enterF (P : Program) (G : Glob) (run : RunR) (cf : aw) (k : Nat) (f : FuncId) (fn : Func) (code : Code) (args : List VV) (H : Trie VObj) (nx : Nat) : CR :=
 match goF G f run cf fn.ntmps k code (RS.mk (listV args 0 .nil) H nx []) with
 | .mk .ret s => leaveR P G run fn f s s.df .ret s.H s.nx
 | .mk .normal s => leaveR P G run fn f s s.df .ret s.H s.nx
 | .mk (.panic x) s => leaveR P G run fn f s s.df (.pan x false) s.H s.nx
 | .mk _ _ => .no (.fn f)
 | .no w => .no w
noncomputable def ke (P : Program) (G : Glob) (run : RunR) (cf : aw) (k : Nat) : aw := fun f args H nx => match textQ P f with
 | some (fn, code) => Bool.rec (motive := fun _ => CR) (.no (.fn f)) (enterF P G run cf k f fn code args H nx) (Nat.ble args.length fn.ntmps)
 | none => .no (.fn f)
theorem EZ {P : Program} {f : FuncId} {fn : Func} {code : Code} (h : textQ P f = some (fn, code)) : P.funcs[f]? = some fn ∧ fn.body = some code ∧ nameQ fn = true := by
 unfold textQ at h
 split at h
 ·cases h
 ·rename_i mN hf
  split at h
  ·cases h
  ·rename_i c1 hb
   split at h
   ·rename_i hn
    cases h
    exact ⟨hf, hb, hn⟩
   ·cases h
theorem LY {P : Program} {G : Glob} {run : RunR} {cf : aw} {k : Nat} (hrun : RunOk P G run) (hcf : CallOk P G cf) {f : FuncId} {args : List VV} {H : Trie VObj} {nx : Nat} {R Rp : VV → (Nat → Option VObj) → Nat → Prop}
  (h1 : ∀ x H' nx', ke P (G.at (some none)) run cf k f args H nx = .ret x H' nx' → R x H'.get nx') (h2 : ∀ x H' nx', ke P (G.at (some none)) run cf k f args H nx = .pan x H' nx' → Rp x H'.get nx') (h3 : ∀ w, ke P (G.at (some none)) run cf k f args H nx ≠ .no w) : au P G f args H.get nx R Rp := by
 unfold ke at h1 h2 h3
 cases ht : textQ P f with
 | none => exact absurd (by simp only [ht]) (h3 (.fn f))
 | some p =>
  obtain ⟨fn, code⟩ := p
  obtain ⟨hf, hb, hn⟩ := EZ ht
  cases hc : Nat.ble args.length fn.ntmps with
  | false => exact absurd (by simp only [ht, hc]) (h3 (.fn f))
  | true =>
   simp only [ht, hc] at h1 h2 h3
   simp only [Nat.ble_eq] at hc
   unfold enterF at h1 h2 h3
   rw [AI] at h1 h2 h3
   cases hr : goF (G.at (some none)) f run cf fn.ntmps k code (RS.mk (Trie.ofList 0 args .nil) H nx []) with
   | no w => exact absurd (by rw [hr]) (h3 w)
   | mk e s =>
    rw [hr] at h1 h2 h3
    have body : OpenPostD P G fn R Rp e s.st → au P G f args H.get nx R Rp := by
     intro hq
     have := uJ (G := G.at (some none)) (f := f) (n := fn.ntmps) hrun hcf k code _ e s hr _ hq
     rw [argsR] at this
     exact au.of_bodyGo (D0 hf hb hn) hf hb hc this
    cases e with
    | ret => exact body (ni hrun s.df .ret s.H s.nx h1 h2 h3)
    | normal => exact body (ni hrun s.df .ret s.H s.nx h1 h2 h3)
    | panic x => exact body (ni hrun s.df (.pan x false) s.H s.nx h1 h2 h3)
    | exit id => exact absurd rfl (h3 (.fn f))
    | goto l => exact absurd rfl (h3 (.fn f))
noncomputable def cfF (P : Program) (G : Glob) (run : RunR) (fs : List Nat) (k : Nat) : aw := fun f args H nx => match fs.elem f with
 | true => ke P G run (cfQ P G run) k f args H nx
 | false => cfQ P G run f args H nx
theorem uK {P : Program} {G : Glob} {run : RunR} {fs : List Nat} {k : Nat} (hrun : RunOk P G run) : CallOk P G (cfF P (G.at (some none)) run fs k) := by
 have hcf : CallOk P G (cfQ P (G.at (some none)) run) := by rw [AH]; exact OY hrun
 constructor
 ·intro f args H nx x H' nx' h
  unfold cfF at h
  split at h
  ·exact LY hrun hcf (fun y H1 n1 e => by rw [h] at e; cases e; exact ⟨rfl, rfl, rfl⟩) (fun y H1 n1 e => by rw [h] at e; cases e) (fun w e => by rw [h] at e; cases e)
  ·exact hcf.1 _ _ _ _ _ _ _ h
 ·intro f args H nx x H' nx' h
  unfold cfF at h
  split at h
  ·exact LY hrun hcf (fun y H1 n1 e => by rw [h] at e; cases e) (fun y H1 n1 e => by rw [h] at e; cases e; exact ⟨rfl, rfl, rfl⟩) (fun w e => by rw [h] at e; cases e)
  ·exact hcf.2 _ _ _ _ _ _ _ h
noncomputable def runF (P : Program) (G : Glob) (fs : List Nat) (tab : KTab) (k : Nat) : RunR :=
 Nat.rec (motive := fun _ => RunR) (fun _ _ _ _ => .no .fuel) (fun k ih ro n code s => bodyA k ih (cfT tab (cfF P (G.at (some none)) ih fs k)) ro n s (ccB P G code)) k
theorem LZ {P : Program} {G : Glob} {fs : List Nat} {tab : KTab} (hm : P.follows .mixedOrders = true) (ht : KTabOk P G tab) : ∀ (k : Nat), RunOk P G (runF P G fs tab k)
 | 0, _, _, _, _, _, _, h => by cases h
 | k + 1, ro, n, code, s, e, s', h => by
  intro Q hq
  have ih := LZ (G := G) (fs := fs) hm ht k
  exact NW hm ih (Fa ht (uK ih)) h hq
noncomputable def closedF (P : Program) (G : Glob) (fs : List Nat) (tab : KTab) (k : Nat) (f : FuncId) (args : List VV) : PRes ⊕ Why := pureQ (cfF P (G.at (some none)) (runF P G fs tab k) fs k) f args
theorem ak.closedF {P : Program} {G : Glob} {fs : List Nat} {tab : KTab} (hm : P.follows .mixedOrders = true) (ht : KTabOk P G tab) (k : Nat) {f : FuncId} {args : List VV} {r : PRes} (h : closedF P G fs tab k f args = .inl r) : ak P G f args r := by
 unfold Go.V.closedF at h
 rw [AE] at h
 exact uo (uK (LZ hm ht k)) h
theorem hmix : Tryz.prog.follows .mixedOrders = true := by kernel_rfl
def kB : VV := (VV.agg [(VV.lit (Value.int IntKind.i64 (Int.ofNat 1))), (VV.sl [(VV.lit (Value.int IntKind.i64 (Int.ofNat 5))), (VV.lit (Value.int IntKind.i64 (Int.ofNat 6)))] 2 Bool.false), (VV.sl [(VV.lit (Value.int IntKind.i64 (Int.ofNat 1))), (VV.lit (Value.bool Bool.true)), (VV.lit (Value.int IntKind.i64 (Int.ofNat 2))), (VV.lit (Value.int IntKind.i64 (Int.ofNat 2))), (VV.lit (Value.slice Option.none 0 0)), (VV.lit (Value.int IntKind.i64 (Int.ofNat 0))), (VV.lit (Value.bool Bool.false)), (VV.lit (Value.int IntKind.i64 (Int.ofNat 2))), (VV.lit (Value.int IntKind.i64 (Int.ofNat 3))), (VV.lit (Value.slice Option.none 0 0)), (VV.lit (Value.int IntKind.i64 (Int.ofNat 0))), (VV.lit (Value.bool Bool.true)), (VV.lit (Value.int IntKind.i64 (Int.ofNat 1))), (VV.lit (Value.int IntKind.i64 (Int.ofNat 2))), (VV.sl [(VV.lit (Value.int IntKind.i64 (Int.ofNat 1)))] 1 Bool.false), (VV.lit (Value.int IntKind.i64 (Int.ofNat 1))), (VV.lit (Value.bool Bool.false)), (VV.lit (Value.int IntKind.i64 (Int.ofNat 1))), (VV.lit (Value.int IntKind.i64 (Int.ofNat 3))), (VV.sl [(VV.lit (Value.int IntKind.i64 (Int.ofNat 0)))] 1 Bool.false)] 4 Bool.false)])
def kEnds : VV := (VV.tup [(VV.sl [(VV.lit (Value.int IntKind.i64 (Int.ofNat 2))), (VV.lit (Value.int IntKind.i64 (Int.ofNat 2))), (VV.lit (Value.int IntKind.i64 (Int.ofNat 2))), (VV.lit (Value.int IntKind.i64 (Int.ofNat 3))), (VV.lit (Value.int IntKind.i64 (Int.ofNat 3))), (VV.lit (Value.int IntKind.i64 (Int.ofNat 5))), (VV.lit (Value.int IntKind.i64 (Int.ofNat 3))), (VV.lit (Value.int IntKind.i64 (Int.ofNat 6)))] 4 Bool.false), (VV.lit (Value.int IntKind.i64 (Int.ofNat 0)))])
def kDone : VV := (VV.tup [(VV.agg [(VV.lit (Value.int IntKind.i64 (Int.ofNat 3))), (VV.lit (Value.int IntKind.i64 (Int.ofNat 5)))]), (VV.lit (Value.int IntKind.i64 (Int.ofNat 0)))])
def kLate : VV := (VV.tup [(VV.sl [(VV.lit (Value.int IntKind.i64 (Int.ofNat 1))), (VV.lit (Value.int IntKind.i64 (Int.ofNat 2)))] 2 Bool.false), (VV.lit (Value.int IntKind.i64 (Int.ofNat 0)))])
def kWaits : VV := (VV.tup [(VV.sl [(VV.lit (Value.int IntKind.i64 (Int.ofNat 0))), (VV.lit (Value.int IntKind.i64 (Int.ofNat 0))), (VV.lit (Value.int IntKind.i64 (Int.ofNat 1))), (VV.lit (Value.int IntKind.i64 (Int.ofNat 0)))] 4 Bool.false), (VV.lit (Value.int IntKind.i64 (Int.ofNat 0)))])
def kChain : VV := (VV.tup [(VV.sl [(VV.lit (Value.int IntKind.i64 (Int.ofNat 1))), (VV.lit (Value.int IntKind.i64 (Int.ofNat 3)))] 2 Bool.false), (VV.lit (Value.int IntKind.i64 (Int.ofNat 0)))])
def kSpare : VV := (VV.tup [(VV.lit (Value.int IntKind.i64 (Int.ofNat 1))), (VV.lit (Value.int IntKind.i64 (Int.ofNat 0)))])
def kBest : VV := (VV.tup [(VV.sl [(VV.lit (Value.int IntKind.i64 (Int.ofNat 0))), (VV.lit (Value.int IntKind.i64 (Int.ofNat 1))), (VV.lit (Value.int IntKind.i64 (Int.ofNat 0))), (VV.lit (Value.int IntKind.i64 (Int.ofNat 1)))] 4 Bool.false), (VV.lit (Value.int IntKind.i64 (Int.ofNat 6))), (VV.lit (Value.int IntKind.i64 (Int.ofNat 0)))])
def kCount : VV := (VV.tup [(VV.lit (Value.int IntKind.i64 (Int.ofNat 1))), (VV.lit (Value.int IntKind.i64 (Int.ofNat 0)))])
def kWho : VV := (VV.tup [(VV.sl [(VV.lit (Value.int IntKind.i64 (Int.ofNat 1)))] 1 Bool.false), (VV.lit (Value.int IntKind.i64 (Int.ofNat 0)))])
def kGive : VV := (VV.tup [(VV.lit (Value.int IntKind.i64 (Int.ofNat 1))), (VV.lit (Value.int IntKind.i64 (Int.ofNat 8))), (VV.lit (Value.int IntKind.i64 (Int.ofNat 0)))])
def kMore : VV := (VV.tup [(VV.lit (Value.int IntKind.i64 (Int.ofNat 5))), (VV.lit (Value.int IntKind.i64 (Int.ofNat 0)))])
def kLeast : VV := (VV.tup [(VV.lit (Value.int IntKind.i64 (Int.ofNat 2))), (VV.lit (Value.int IntKind.i64 (Int.ofNat 0)))])
def kRead : VV := (VV.tup [(VV.agg [(VV.lit (Value.int IntKind.i64 (Int.ofNat 0))), (VV.sl [(VV.lit (Value.int IntKind.i64 (Int.ofNat 0)))] 1 Bool.false), (VV.sl [(VV.lit (Value.int IntKind.i64 (Int.ofNat 0))), (VV.lit (Value.bool Bool.false)), (VV.lit (Value.int IntKind.i64 (Int.ofNat 1))), (VV.lit (Value.int IntKind.i64 (Int.ofNat 1))), (VV.lit (Value.slice Option.none 0 0))] 1 Bool.false)]), (VV.lit (Value.int IntKind.i64 (Int.ofNat 0)))])
theorem pB : ak Tryz.prog G0 64 [] (.tree kB) := ak.closedF (fs := []) (tab := []) hmix trivial 1000 (by kernel_rfl)
theorem pEnds : ak Tryz.prog G0 22 [kB, .sl [.lit (.int .i64 (0)), .lit (.int .i64 (1)), .lit (.int .i64 (0)), .lit (.int .i64 (1))] 4 false] (.tree kEnds) := ak.closedF (fs := []) (tab := []) hmix trivial 1000 (by kernel_rfl)
theorem pDone : ak Tryz.prog G0 23 [kB, .sl [.lit (.int .i64 (0)), .lit (.int .i64 (1)), .lit (.int .i64 (0)), .lit (.int .i64 (1))] 4 false, .lit (.int .i64 (0))] (.tree kDone) := ak.closedF (fs := []) (tab := []) hmix trivial 1000 (by kernel_rfl)
theorem pLate : ak Tryz.prog G0 36 [kB, .sl [.lit (.int .i64 (0)), .lit (.int .i64 (1)), .lit (.int .i64 (0)), .lit (.int .i64 (0))] 4 false] (.tree kLate) := ak.closedF (fs := []) (tab := []) hmix trivial 1000 (by kernel_rfl)
theorem pWaits : ak Tryz.prog G0 37 [kB, .sl [.lit (.int .i64 (0)), .lit (.int .i64 (1)), .lit (.int .i64 (0)), .lit (.int .i64 (1))] 4 false] (.tree kWaits) := ak.closedF (fs := []) (tab := []) hmix trivial 1000 (by kernel_rfl)
theorem pChain : ak Tryz.prog G0 42 [kB, .sl [.lit (.int .i64 (0)), .lit (.int .i64 (1)), .lit (.int .i64 (0)), .lit (.int .i64 (1))] 4 false] (.tree kChain) := ak.closedF (fs := []) (tab := []) hmix trivial 1000 (by kernel_rfl)
theorem pSpare : ak Tryz.prog G0 43 [kB, .sl [.lit (.int .i64 (0)), .lit (.int .i64 (1)), .lit (.int .i64 (0)), .lit (.int .i64 (1))] 4 false, .lit (.int .i64 (0))] (.tree kSpare) := ak.closedF (fs := []) (tab := []) hmix trivial 1000 (by kernel_rfl)
theorem pBest : ak Tryz.prog G0 51 [kB] (.tree kBest) := ak.closedF (fs := []) (tab := []) hmix trivial 1000 (by kernel_rfl)
theorem pCount : ak Tryz.prog G0 52 [kB] (.tree kCount) := ak.closedF (fs := []) (tab := []) hmix trivial 1000 (by kernel_rfl)
theorem pWho : ak Tryz.prog G0 55 [kB, .lit (.int .i64 (1))] (.tree kWho) := ak.closedF (fs := []) (tab := []) hmix trivial 1000 (by kernel_rfl)
theorem pGive : ak Tryz.prog G0 56 [kB, .sl [.lit (.int .i64 (0)), .lit (.int .i64 (0)), .lit (.int .i64 (0)), .lit (.int .i64 (0))] 4 false, .lit (.int .i64 (1))] (.tree kGive) := ak.closedF (fs := []) (tab := []) hmix trivial 1000 (by kernel_rfl)
theorem pMore : ak Tryz.prog G0 60 [kB] (.tree kMore) := ak.closedF (fs := []) (tab := []) hmix trivial 1000 (by kernel_rfl)
theorem pLeast : ak Tryz.prog G0 61 [kB, .lit (.int .i64 (5))] (.tree kLeast) := ak.closedF (fs := []) (tab := []) hmix trivial 1000 (by kernel_rfl)
theorem pRead : ak Tryz.prog G0 65 [.lit (.string ⟨⟨[98, 101, 110, 99, 104, 32, 48, 10, 98, 111, 97, 114, 100, 32, 48, 10, 115, 116, 114, 97, 105, 103, 104, 116, 32, 48, 32, 49, 32, 49, 32, 45, 10, 101, 110, 100, 32, 49, 55, 53, 10]⟩⟩)] (.tree kRead) := ak.closedF (fs := []) (tab := []) hmix trivial 1000 (by kernel_rfl)
def kTab : KTab := [
  (64, [], kB),
  (22, [kB, .sl [.lit (.int .i64 (0)), .lit (.int .i64 (1)), .lit (.int .i64 (0)), .lit (.int .i64 (1))] 4 false], kEnds),
  (23, [kB, .sl [.lit (.int .i64 (0)), .lit (.int .i64 (1)), .lit (.int .i64 (0)), .lit (.int .i64 (1))] 4 false, .lit (.int .i64 (0))], kDone),
  (36, [kB, .sl [.lit (.int .i64 (0)), .lit (.int .i64 (1)), .lit (.int .i64 (0)), .lit (.int .i64 (0))] 4 false], kLate),
  (37, [kB, .sl [.lit (.int .i64 (0)), .lit (.int .i64 (1)), .lit (.int .i64 (0)), .lit (.int .i64 (1))] 4 false], kWaits),
  (42, [kB, .sl [.lit (.int .i64 (0)), .lit (.int .i64 (1)), .lit (.int .i64 (0)), .lit (.int .i64 (1))] 4 false], kChain),
  (43, [kB, .sl [.lit (.int .i64 (0)), .lit (.int .i64 (1)), .lit (.int .i64 (0)), .lit (.int .i64 (1))] 4 false, .lit (.int .i64 (0))], kSpare),
  (51, [kB], kBest),
  (52, [kB], kCount),
  (55, [kB, .lit (.int .i64 (1))], kWho),
  (56, [kB, .sl [.lit (.int .i64 (0)), .lit (.int .i64 (0)), .lit (.int .i64 (0)), .lit (.int .i64 (0))] 4 false, .lit (.int .i64 (1))], kGive),
  (60, [kB], kMore),
  (61, [kB, .lit (.int .i64 (5))], kLeast),
  (65, [.lit (.string ⟨⟨[98, 101, 110, 99, 104, 32, 48, 10, 98, 111, 97, 114, 100, 32, 48, 10, 115, 116, 114, 97, 105, 103, 104, 116, 32, 48, 32, 49, 32, 49, 32, 45, 10, 101, 110, 100, 32, 49, 55, 53, 10]⟩⟩)], kRead)]
theorem kTabOk : KTabOk Tryz.prog G0 kTab := ⟨⟨by kernel_rfl, pB⟩, ⟨⟨by kernel_rfl, pEnds⟩, ⟨⟨by kernel_rfl, pDone⟩, ⟨⟨by kernel_rfl, pLate⟩, ⟨⟨by kernel_rfl, pWaits⟩, ⟨⟨by kernel_rfl, pChain⟩, ⟨⟨by kernel_rfl, pSpare⟩, ⟨⟨by kernel_rfl, pBest⟩, ⟨⟨by kernel_rfl, pCount⟩, ⟨⟨by kernel_rfl, pWho⟩, ⟨⟨by kernel_rfl, pGive⟩, ⟨⟨by kernel_rfl, pMore⟩, ⟨⟨by kernel_rfl, pLeast⟩, ⟨⟨by kernel_rfl, pRead⟩, trivial⟩⟩⟩⟩⟩⟩⟩⟩⟩⟩⟩⟩⟩⟩
theorem pKnown : ak Tryz.prog G0 20 [] (.tree (.lit (.bool true))) := ak.closedF (fs := []) hmix kTabOk 1000 (by kernel_rfl)
#print axioms pKnown
theorem lf : ak Tryz.prog G0 20 [] (.tree (.lit (.bool true))) := pKnown
def mg (al : GBk) (aF : Int) : Option (Int × Int) := Option.bind (pf al) (fun r1 => cond (r1) (Option.bind (lH 0 aF 60) (fun r2 => cond (r2) (Option.bind (rv al aF) (fun r3 => cond (r3.2) (some (r3.1, 0)) (some (0, 5)))) (some (0, 2)))) (some (0, 2)))
theorem PV (al : GBk) (aF : Int) (R : Int × Int) (h : mg al aF = some R) : ak Tryz.prog G0 61 [.agg (cGBk al), .lit (.int .i64 aF)] (.tree (.tup [.lit (.int .i64 R.1), .lit (.int .i64 R.2)])) := by
 refine ak.runR mixed Tryz.call61 Tryz.func61 rfl (by simp [Tryz.ntmps61]; kernel_rfl) ?_
 obtain ⟨KF, h, kF, kN⟩ := cV h
 simp only [mg] at h
 obtain ⟨r4, o5, h⟩ := optI h kN
 try simp only [hs] at h
 simp only [vz, tyf, nm, seval]
 refine ktA (Lh _ _ o5) ?_
 refine bS (fun tm => tm 1 = .lit (.int .i64 aF) ∧ tm 2 = .ptr 0 0 ∧ tm 9 = .lit (.bool r4) ∧ True) (by refine ⟨?_, ?_, ?_, trivial⟩ <;> first | (simp only [ua, nm, seval] <;> rfl) | rfl) ?_
 rintro tm ⟨e6, e7, e8, _⟩
 cases d9 : (r4)
 ·simp only [d9, hs] at h
  try simp only [vz, tyf, e6, e7, e8, d9, nm, seval]
  refine cn (x := (.tup [.lit (.int .i64 0), .lit (.int .i64 2)])) (by first | (simp only [Tryz.results61, resV, resL, aR, cw, cv, uw, cr, tyf, d9, nm, seval] <;> rfl) | rfl) ?_
  obtain rfl := kF _ h
  refine eJ ?_ ?_
  ·simp only [tre, tytre, Bool.and_self]
  ·first | (simp only [outV, uw, eD, cr, tyf, nrm, aN, e6, e7, e8, d9, nm, seval] <;> rfl) | rfl
 simp only [d9, hs] at h
 obtain ⟨mZ, pq, h⟩ := optI h kN
 try simp only [hs] at h
 simp only [vz, tyf, e6, e7, e8, d9, nm, seval]
 refine ktA (qM _ _ _ _ pq) ?_
 refine bS (fun tm => tm 1 = .lit (.int .i64 aF) ∧ tm 2 = .ptr 0 0 ∧ tm 11 = .lit (.bool false) ∧ tm 13 = .lit (.bool mZ) ∧ True) (by refine ⟨e6, e7, ?_, ?_, trivial⟩ <;> first | (simp only [ua, e6, e7, e8, d9, nm, seval] <;> rfl) | rfl) ?_
 rintro tm ⟨bJ, bx, bC, cH, _⟩
 cases b5 : (mZ)
 ·simp only [b5, hs] at h
  try simp only [vz, tyf, d9, bJ, bx, bC, cH, b5, nm, seval]
  refine cn (x := (.tup [.lit (.int .i64 0), .lit (.int .i64 2)])) (by first | (simp only [Tryz.results61, resV, resL, aR, cw, cv, uw, cr, tyf, d9, b5, nm, seval] <;> rfl) | rfl) ?_
  obtain rfl := kF _ h
  refine eJ ?_ ?_
  ·simp only [tre, tytre, Bool.and_self]
  ·first | (simp only [outV, uw, eD, cr, tyf, nrm, aN, d9, bJ, bx, bC, cH, b5, nm, seval] <;> rfl) | rfl
 simp only [b5, hs] at h
 obtain ⟨cW, lP, h⟩ := optI h kN
 try simp only [hs] at h
 simp only [vz, tyf, d9, bJ, bx, bC, cH, b5, nm, seval]
 refine ktA (PW _ _ _ lP) ?_
 refine bS (fun tm => tm 19 = .tup [.lit (.int .i64 cW.1), .lit (.bool cW.2)] ∧ True) (by refine ⟨?_, trivial⟩ <;> first | (simp only [ua, d9, bJ, bx, bC, cH, b5, nm, seval] <;> rfl) | rfl) ?_
 rintro tm ⟨cO, _⟩
 cases dQ : (cW.2)
 ·simp only [dQ, hs] at h
  try simp only [vz, tyf, d9, b5, cO, dQ, nm, seval]
  refine cn (x := (.tup [.lit (.int .i64 0), .lit (.int .i64 5)])) (by first | (simp only [Tryz.results61, resV, resL, aR, cw, cv, uw, cr, tyf, d9, b5, dQ, nm, seval] <;> rfl) | rfl) ?_
  obtain rfl := kF _ h
  refine eJ ?_ ?_
  ·simp only [tre, tytre, Bool.and_self]
  ·first | (simp only [outV, uw, eD, cr, tyf, nrm, aN, d9, b5, cO, dQ, nm, seval] <;> rfl) | rfl
 simp only [dQ, hs] at h
 try simp only [vz, tyf, d9, b5, cO, dQ, nm, seval]
 refine cn (x := (.tup [.lit (.int .i64 cW.1), .lit (.int .i64 0)])) (by first | (simp only [Tryz.results61, resV, resL, aR, cw, cv, uw, cr, tyf, d9, b5, dQ, nm, seval] <;> rfl) | rfl) ?_
 obtain rfl := kF _ h
 refine eJ ?_ ?_
 ·simp only [tre, tytre, Bool.and_self]
 ·first | (simp only [outV, uw, eD, cr, tyf, nrm, aN, d9, b5, cO, dQ, nm, seval] <;> rfl) | rfl
def xp (al : GBk) (bj : Int) : Option (Bool) := Option.bind (qV al) (fun r1 => cond (r1) (Option.bind (mh al) (fun r2 => Option.bind (mg al bj) (fun r3 => Option.bind (ub al) (fun r4 => cond (r4) (cond (decide (al.Apprentices ≥ 3)) (cond (r2.2 != 3) (some false) (cond (r2.1 != 0) (some false) (cond (decide (bj < 0)) (cond (r3.2 == 2) (cond (r3.1 == 0) (some true) (some false)) (some false)) (cond (decide (bj > 60)) (cond (r3.2 == 2) (cond (r3.1 == 0) (some true) (some false)) (some false)) (Option.bind (ru al bj) (fun r5 => cond (r5.2) (cond (r3.2 == 0) (cond (r3.1 == r5.1) (some true) (some false)) (some false)) (cond (r3.2 == 5) (cond (r3.1 == 0) (some true) (some false)) (some false)))))))) (Option.bind (rq al (i64.wrap (al.Apprentices + 1))) (fun r6 => cond (r2.2 != 0) (some false) (Option.bind (pR r6) (fun r7 => Option.bind (getI r7 0) (fun x8 => Option.bind (nv r6 x8) (fun r9 => cond (r2.1 != r9) (some false) (cond (decide (bj < 0)) (cond (r3.2 == 2) (cond (r3.1 == 0) (some true) (some false)) (some false)) (cond (decide (bj > 60)) (cond (r3.2 == 2) (cond (r3.1 == 0) (some true) (some false)) (some false)) (Option.bind (ru al bj) (fun mZ => cond (mZ.2) (cond (r3.2 == 0) (cond (r3.1 == mZ.1) (some true) (some false)) (some false)) (cond (r3.2 == 5) (cond (r3.1 == 0) (some true) (some false)) (some false))))))))))))) (cond (r2.2 == 2) (cond (r2.1 == 0) (cond (r3.2 == 2) (cond (r3.1 == 0) (some true) (some false)) (some false)) (some false)) (some false)))))) (some true))
theorem NB (al : GBk) (bj : Int) (R : Bool) (h : xp al bj = some R) : ak Tryz.prog G0 14 [.agg (cGBk al), .lit (.int .i64 bj)] (.tree (.lit (.bool R))) := by
 refine ak.runR mixed Tryz.call14 Tryz.func14 rfl (by simp [Tryz.ntmps14]; kernel_rfl) ?_
 obtain ⟨KF, h, kF, kN⟩ := cV h
 simp only [xp] at h
 obtain ⟨mX, kQ, h⟩ := optI h kN
 try simp only [hs] at h
 simp only [vz, tyf, nm, seval]
 refine ktA (Ox _ _ kQ) ?_
 refine bS (fun tm => tm 1 = .lit (.int .i64 bj) ∧ tm 2 = .ptr 0 0 ∧ tm 13 = .lit (.bool mX) ∧ True) (by refine ⟨?_, ?_, ?_, trivial⟩ <;> first | (simp only [ua, nm, seval] <;> rfl) | rfl) ?_
 rintro tm ⟨bx, bC, cH, _⟩
 cases b5 : (mX)
 ·simp only [b5, hs] at h
  simp only [vz, tyf, bx, bC, cH, b5, nm, seval]
  refine ktree0 lf ?_
  try simp only [vz, tyf, bx, bC, cH, b5, nm, seval]
  obtain rfl := kF _ h
  exact br Tryz.results14 rfl
 simp only [b5, hs] at h
 obtain ⟨cW, lP, h⟩ := optI h kN
 try simp only [hs] at h
 simp only [vz, tyf, bx, bC, cH, b5, nm, seval]
 refine ktA (PX _ _ lP) ?_
 refine bS (fun tm => tm 1 = .lit (.int .i64 bj) ∧ tm 2 = .ptr 0 0 ∧ tm 18 = .tup [.lit (.int .i64 cW.1), .lit (.int .i64 cW.2)] ∧ True) (by refine ⟨bx, bC, ?_, trivial⟩ <;> first | (simp only [ua, bx, bC, cH, b5, nm, seval] <;> rfl) | rfl) ?_
 rintro tm ⟨cO, eh, fv, _⟩
 obtain ⟨cR, iH, h⟩ := optI h kN
 try simp only [hs] at h
 simp only [vz, tyf, b5, cO, eh, fv, nm, seval]
 refine ktA (PV _ _ _ iH) ?_
 refine bS (fun tm => tm 1 = .lit (.int .i64 bj) ∧ tm 2 = .ptr 0 0 ∧ tm 5 = .lit (.int .i64 cW.1) ∧ tm 6 = .lit (.int .i64 cW.2) ∧ tm 24 = .tup [.lit (.int .i64 cR.1), .lit (.int .i64 cR.2)] ∧ True) (by refine ⟨cO, eh, ?_, ?_, ?_, trivial⟩ <;> first | (simp only [ua, b5, cO, eh, fv, nm, seval] <;> rfl) | rfl) ?_
 rintro tm ⟨ia, gP, ez, bV, eC, _⟩
 obtain ⟨uB, DX, h⟩ := optI h kN
 try simp only [hs] at h
 simp only [vz, tyf, b5, ia, gP, ez, bV, eC, nm, seval]
 refine ktA (O8 _ _ DX) ?_
 refine bS (fun tm => tm 1 = .lit (.int .i64 bj) ∧ tm 2 = .ptr 0 0 ∧ tm 5 = .lit (.int .i64 cW.1) ∧ tm 6 = .lit (.int .i64 cW.2) ∧ tm 7 = .lit (.int .i64 cR.1) ∧ tm 8 = .lit (.int .i64 cR.2) ∧ tm 28 = .lit (.bool uB) ∧ True) (by refine ⟨ia, gP, ez, bV, ?_, ?_, ?_, trivial⟩ <;> first | (simp only [ua, b5, ia, gP, ez, bV, eC, nm, seval] <;> rfl) | rfl) ?_
 rintro tm ⟨bW, cB, bz, bD, bH, bL, bX, _⟩
 cases d5 : (uB)
 ·simp only [d5, hs] at h
  cases cg : (cW.2 == 2)
  ·simp only [cg, hs] at h
   try simp only [vz, tyf, b5, bW, cB, bz, bD, bH, bL, bX, d5, cg, nm, seval]
   obtain rfl := kF _ h
   exact br Tryz.results14 rfl
  simp only [cg, hs] at h
  cases ej : (cW.1 == 0)
  ·simp only [ej, hs] at h
   try simp only [vz, tyf, b5, bW, cB, bz, bD, bH, bL, bX, d5, cg, ej, nm, seval]
   obtain rfl := kF _ h
   exact br Tryz.results14 rfl
  simp only [ej, hs] at h
  cases gf : (cR.2 == 2)
  ·simp only [gf, hs] at h
   try simp only [vz, tyf, b5, bW, cB, bz, bD, bH, bL, bX, d5, cg, ej, gf, nm, seval]
   obtain rfl := kF _ h
   exact br Tryz.results14 rfl
  simp only [gf, hs] at h
  cases lU : (cR.1 == 0)
  ·simp only [lU, hs] at h
   try simp only [vz, tyf, b5, bW, cB, bz, bD, bH, bL, bX, d5, cg, ej, gf, lU, nm, seval]
   obtain rfl := kF _ h
   exact br Tryz.results14 rfl
  simp only [lU, hs] at h
  simp only [vz, tyf, b5, bW, cB, bz, bD, bH, bL, bX, d5, cg, ej, gf, lU, nm, seval]
  refine ktree0 lf ?_
  try simp only [vz, tyf, b5, bW, cB, bz, bD, bH, bL, bX, d5, cg, ej, gf, lU, nm, seval]
  obtain rfl := kF _ h
  exact br Tryz.results14 rfl
 simp only [d5, hs] at h
 cases di : (decide (al.Apprentices ≥ 3))
 ·simp only [di, hs] at h
  obtain ⟨Ma, PY, h⟩ := optI h kN
  try simp only [hs] at h
  simp only [vz, tyf, b5, bW, cB, bz, bD, bH, bL, bX, d5, di, nm, seval]
  refine ktA (LU _ _ _ PY) ?_
  refine bS (fun tm => tm 1 = .lit (.int .i64 bj) ∧ tm 2 = .ptr 0 0 ∧ tm 5 = .lit (.int .i64 cW.1) ∧ tm 6 = .lit (.int .i64 cW.2) ∧ tm 7 = .lit (.int .i64 cR.1) ∧ tm 8 = .lit (.int .i64 cR.2) ∧ tm 60 = .agg (cGBk Ma) ∧ True) (by refine ⟨bW, cB, bz, bD, bH, bL, ?_, trivial⟩ <;> first | (simp only [ua, b5, bW, cB, bz, bD, bH, bL, bX, d5, di, nm, seval] <;> rfl) | rfl) ?_
  rintro tm ⟨eO, d6, dc, fJ, im, gv, kO, _⟩
  simp only [vz, tyf, b5, d5, di, eO, d6, dc, fJ, im, gv, kO, nm, seval]
  refine kL (fun tm => tm 1 = .lit (.int .i64 bj) ∧ tm 2 = .ptr 0 0 ∧ tm 5 = .lit (.int .i64 cW.1) ∧ tm 6 = .lit (.int .i64 cW.2) ∧ tm 7 = .lit (.int .i64 cR.1) ∧ tm 8 = .lit (.int .i64 cR.2) ∧ tm 9 = .ptr 31 0 ∧ True) (by refine ⟨eO, d6, dc, fJ, im, gv, ?_, trivial⟩ <;> first | (simp only [ua, b5, d5, di, eO, d6, dc, fJ, im, gv, kO, nm, seval] <;> rfl) | rfl) ?_
  rintro tm ⟨jw, jx, pU, Fb, lV, dh, du, _⟩
  cases j1 : (cW.2 != 0)
  ·simp only [j1, hs] at h
   obtain ⟨Mb, PZ, h⟩ := optI h kN
   try simp only [hs] at h
   simp only [vz, tyf, b5, d5, di, jw, jx, pU, Fb, lV, dh, du, j1, nm, seval]
   refine dktA (LV _ _ PZ) ?_
   refine bS (fun tm => tm 1 = .lit (.int .i64 bj) ∧ tm 2 = .ptr 0 0 ∧ tm 7 = .lit (.int .i64 cR.1) ∧ tm 8 = .lit (.int .i64 cR.2) ∧ tm 63 = .lit (.bool false) ∧ tm 64 = .lit (.int .i64 cW.1) ∧ tm 65 = .agg (cGBk Ma) ∧ tm 67 = .sl (ae (eSl eI) Mb) (List.length Mb) false ∧ True) (by refine ⟨jw, jx, lV, dh, ?_, ?_, ?_, ?_, trivial⟩ <;> first | (simp only [ua, b5, d5, di, jw, jx, pU, Fb, lV, dh, du, j1, nm, seval] <;> rfl) | rfl) ?_
   rintro tm ⟨fy, Fc, Fe, mi, nw, mj, ny, nz, _⟩
   obtain ⟨Th, gx, h⟩ := optI h kN
   try simp only [hs] at h
   obtain ⟨Mc, Qa, h⟩ := optI h kN
   try simp only [hs] at h
   simp only [vz, tyf, b5, d5, di, j1, fy, Fc, Fe, mi, nw, mj, ny, nz, (bh gx), nm, seval]
   refine dktA (xo _ _ _ Qa) ?_
   refine bS (fun tm => tm 1 = .lit (.int .i64 bj) ∧ tm 2 = .ptr 0 0 ∧ tm 7 = .lit (.int .i64 cR.1) ∧ tm 8 = .lit (.int .i64 cR.2) ∧ tm 63 = .lit (.bool false) ∧ tm 64 = .lit (.int .i64 cW.1) ∧ tm 70 = .lit (.int .i64 Mc) ∧ True) (by refine ⟨fy, Fc, Fe, mi, ?_, mj, ?_, trivial⟩ <;> first | (simp only [ua, b5, d5, di, j1, fy, Fc, Fe, mi, nw, mj, ny, nz, nm, seval] <;> rfl) | rfl) ?_
   rintro tm ⟨kf, kh, j2, j3, ki, kj, gT, _⟩
   cases pV : (cW.1 != Mc)
   ·simp only [pV, hs] at h
    cases ry : (decide (bj < 0))
    ·simp only [ry, hs] at h
     cases xq : (decide (bj > 60))
     ·simp only [xq, hs] at h
      have lh := And.intro b5 (And.intro d5 (And.intro di (And.intro j1 (And.intro pV (And.intro ry xq)))))
      obtain ⟨xr, Qb, h⟩ := optI h kN
      try simp only [hs] at h
      simp only [vz, tyf, lh, (bh gx), kf, kh, j2, j3, ki, kj, gT, nm, seval]
      refine ktA (LS _ _ _ Qb) ?_
      refine bS (fun tm => tm 7 = .lit (.int .i64 cR.1) ∧ tm 8 = .lit (.int .i64 cR.2) ∧ tm 91 = .tup [.lit (.int .i64 xr.1), .lit (.bool xr.2)] ∧ True) (by refine ⟨j2, j3, ?_, trivial⟩ <;> first | (simp only [ua, lh, kf, kh, j2, j3, ki, kj, gT, nm, seval] <;> rfl) | rfl) ?_
      rintro tm ⟨n5, nC, nD, _⟩
      cases lj : (xr.2)
      ·simp only [lj, hs] at h
       cases gU : (cR.2 == 5)
       ·simp only [gU, hs] at h
        try simp only [vz, tyf, lh, (bh gx), n5, nC, nD, lj, gU, nm, seval]
        obtain rfl := kF _ h
        exact br Tryz.results14 rfl
       simp only [gU, hs] at h
       cases uL : (cR.1 == 0)
       ·simp only [uL, hs] at h
        try simp only [vz, tyf, lh, (bh gx), n5, nC, nD, lj, gU, uL, nm, seval]
        obtain rfl := kF _ h
        exact br Tryz.results14 rfl
       simp only [uL, hs] at h
       simp only [vz, tyf, lh, (bh gx), n5, nC, nD, lj, gU, uL, nm, seval]
       refine ktree0 lf ?_
       try simp only [vz, tyf, lh, (bh gx), n5, nC, nD, lj, gU, uL, nm, seval]
       obtain rfl := kF _ h
       exact br Tryz.results14 rfl
      simp only [lj, hs] at h
      cases rz : (cR.2 == 0)
      ·simp only [rz, hs] at h
       try simp only [vz, tyf, lh, (bh gx), n5, nC, nD, lj, rz, nm, seval]
       obtain rfl := kF _ h
       exact br Tryz.results14 rfl
      simp only [rz, hs] at h
      cases uM : (cR.1 == xr.1)
      ·simp only [uM, hs] at h
       try simp only [vz, tyf, lh, (bh gx), n5, nC, nD, lj, rz, uM, nm, seval]
       obtain rfl := kF _ h
       exact br Tryz.results14 rfl
      simp only [uM, hs] at h
      simp only [vz, tyf, lh, (bh gx), n5, nC, nD, lj, rz, uM, nm, seval]
      refine ktree0 lf ?_
      try simp only [vz, tyf, lh, (bh gx), n5, nC, nD, lj, rz, uM, nm, seval]
      obtain rfl := kF _ h
      exact br Tryz.results14 rfl
     simp only [xq, hs] at h
     have xt := And.intro b5 (And.intro d5 (And.intro di (And.intro j1 (And.intro pV (And.intro ry xq)))))
     cases rA : (cR.2 == 2)
     ·simp only [rA, hs] at h
      try simp only [vz, tyf, xt, (bh gx), kf, kh, j2, j3, ki, kj, gT, rA, nm, seval]
      obtain rfl := kF _ h
      exact br Tryz.results14 rfl
     simp only [rA, hs] at h
     cases uN : (cR.1 == 0)
     ·simp only [uN, hs] at h
      try simp only [vz, tyf, xt, (bh gx), kf, kh, j2, j3, ki, kj, gT, rA, uN, nm, seval]
      obtain rfl := kF _ h
      exact br Tryz.results14 rfl
     simp only [uN, hs] at h
     simp only [vz, tyf, xt, (bh gx), kf, kh, j2, j3, ki, kj, gT, rA, uN, nm, seval]
     refine ktree0 lf ?_
     try simp only [vz, tyf, xt, (bh gx), kf, kh, j2, j3, ki, kj, gT, rA, uN, nm, seval]
     obtain rfl := kF _ h
     exact br Tryz.results14 rfl
    simp only [ry, hs] at h
    cases xu : (cR.2 == 2)
    ·simp only [xu, hs] at h
     have Ff := And.intro b5 (And.intro d5 (And.intro di (And.intro j1 (And.intro pV (And.intro ry xu)))))
     try simp only [vz, tyf, Ff, (bh gx), kf, kh, j2, j3, ki, kj, gT, nm, seval]
     obtain rfl := kF _ h
     exact br Tryz.results14 rfl
    simp only [xu, hs] at h
    have pW := And.intro b5 (And.intro d5 (And.intro di (And.intro j1 (And.intro pV (And.intro ry xu)))))
    cases kl : (cR.1 == 0)
    ·simp only [kl, hs] at h
     try simp only [vz, tyf, pW, (bh gx), kf, kh, j2, j3, ki, kj, gT, kl, nm, seval]
     obtain rfl := kF _ h
     exact br Tryz.results14 rfl
    simp only [kl, hs] at h
    simp only [vz, tyf, pW, (bh gx), kf, kh, j2, j3, ki, kj, gT, kl, nm, seval]
    refine ktree0 lf ?_
    try simp only [vz, tyf, pW, (bh gx), kf, kh, j2, j3, ki, kj, gT, kl, nm, seval]
    obtain rfl := kF _ h
    exact br Tryz.results14 rfl
   simp only [pV, hs] at h
   try simp only [vz, tyf, b5, d5, di, j1, (bh gx), kf, kh, j2, j3, ki, kj, gT, pV, nm, seval]
   obtain rfl := kF _ h
   exact br Tryz.results14 rfl
  simp only [j1, hs] at h
  try simp only [vz, tyf, b5, d5, di, jw, jx, pU, Fb, lV, dh, du, j1, nm, seval]
  obtain rfl := kF _ h
  exact br Tryz.results14 rfl
 simp only [di, hs] at h
 cases gV : (cW.2 != 3)
 ·simp only [gV, hs] at h
  cases i7 : (cW.1 != 0)
  ·simp only [i7, hs] at h
   cases jh : (decide (bj < 0))
   ·simp only [jh, hs] at h
    cases ml : (decide (bj > 60))
    ·simp only [ml, hs] at h
     have fO := And.intro b5 (And.intro d5 (And.intro di (And.intro gV (And.intro i7 (And.intro jh ml)))))
     obtain ⟨mm, Fg, h⟩ := optI h kN
     try simp only [hs] at h
     simp only [vz, tyf, fO, bW, cB, bz, bD, bH, bL, bX, nm, seval]
     refine ktA (LS _ _ _ Fg) ?_
     refine bS (fun tm => tm 7 = .lit (.int .i64 cR.1) ∧ tm 8 = .lit (.int .i64 cR.2) ∧ tm 91 = .tup [.lit (.int .i64 mm.1), .lit (.bool mm.2)] ∧ True) (by refine ⟨bH, bL, ?_, trivial⟩ <;> first | (simp only [ua, fO, bW, cB, bz, bD, bH, bL, bX, nm, seval] <;> rfl) | rfl) ?_
     rintro tm ⟨gW, gX, gY, _⟩
     cases fP : (mm.2)
     ·simp only [fP, hs] at h
      cases ji : (cR.2 == 5)
      ·simp only [ji, hs] at h
       try simp only [vz, tyf, fO, gW, gX, gY, fP, ji, nm, seval]
       obtain rfl := kF _ h
       exact br Tryz.results14 rfl
      simp only [ji, hs] at h
      cases km : (cR.1 == 0)
      ·simp only [km, hs] at h
       try simp only [vz, tyf, fO, gW, gX, gY, fP, ji, km, nm, seval]
       obtain rfl := kF _ h
       exact br Tryz.results14 rfl
      simp only [km, hs] at h
      simp only [vz, tyf, fO, gW, gX, gY, fP, ji, km, nm, seval]
      refine ktree0 lf ?_
      try simp only [vz, tyf, fO, gW, gX, gY, fP, ji, km, nm, seval]
      obtain rfl := kF _ h
      exact br Tryz.results14 rfl
     simp only [fP, hs] at h
     cases jj : (cR.2 == 0)
     ·simp only [jj, hs] at h
      try simp only [vz, tyf, fO, gW, gX, gY, fP, jj, nm, seval]
      obtain rfl := kF _ h
      exact br Tryz.results14 rfl
     simp only [jj, hs] at h
     cases kn : (cR.1 == mm.1)
     ·simp only [kn, hs] at h
      try simp only [vz, tyf, fO, gW, gX, gY, fP, jj, kn, nm, seval]
      obtain rfl := kF _ h
      exact br Tryz.results14 rfl
     simp only [kn, hs] at h
     simp only [vz, tyf, fO, gW, gX, gY, fP, jj, kn, nm, seval]
     refine ktree0 lf ?_
     try simp only [vz, tyf, fO, gW, gX, gY, fP, jj, kn, nm, seval]
     obtain rfl := kF _ h
     exact br Tryz.results14 rfl
    simp only [ml, hs] at h
    have mn := And.intro b5 (And.intro d5 (And.intro di (And.intro gV (And.intro i7 (And.intro jh ml)))))
    cases jk : (cR.2 == 2)
    ·simp only [jk, hs] at h
     try simp only [vz, tyf, mn, bW, cB, bz, bD, bH, bL, bX, jk, nm, seval]
     obtain rfl := kF _ h
     exact br Tryz.results14 rfl
    simp only [jk, hs] at h
    cases ko : (cR.1 == 0)
    ·simp only [ko, hs] at h
     try simp only [vz, tyf, mn, bW, cB, bz, bD, bH, bL, bX, jk, ko, nm, seval]
     obtain rfl := kF _ h
     exact br Tryz.results14 rfl
    simp only [ko, hs] at h
    simp only [vz, tyf, mn, bW, cB, bz, bD, bH, bL, bX, jk, ko, nm, seval]
    refine ktree0 lf ?_
    try simp only [vz, tyf, mn, bW, cB, bz, bD, bH, bL, bX, jk, ko, nm, seval]
    obtain rfl := kF _ h
    exact br Tryz.results14 rfl
   simp only [jh, hs] at h
   cases mo : (cR.2 == 2)
   ·simp only [mo, hs] at h
    have Fh := And.intro b5 (And.intro d5 (And.intro di (And.intro gV (And.intro i7 (And.intro jh mo)))))
    try simp only [vz, tyf, Fh, bW, cB, bz, bD, bH, bL, bX, nm, seval]
    obtain rfl := kF _ h
    exact br Tryz.results14 rfl
   simp only [mo, hs] at h
   have pX := And.intro b5 (And.intro d5 (And.intro di (And.intro gV (And.intro i7 (And.intro jh mo)))))
   cases kq : (cR.1 == 0)
   ·simp only [kq, hs] at h
    try simp only [vz, tyf, pX, bW, cB, bz, bD, bH, bL, bX, kq, nm, seval]
    obtain rfl := kF _ h
    exact br Tryz.results14 rfl
   simp only [kq, hs] at h
   simp only [vz, tyf, pX, bW, cB, bz, bD, bH, bL, bX, kq, nm, seval]
   refine ktree0 lf ?_
   try simp only [vz, tyf, pX, bW, cB, bz, bD, bH, bL, bX, kq, nm, seval]
   obtain rfl := kF _ h
   exact br Tryz.results14 rfl
  simp only [i7, hs] at h
  try simp only [vz, tyf, b5, bW, cB, bz, bD, bH, bL, bX, d5, di, gV, i7, nm, seval]
  obtain rfl := kF _ h
  exact br Tryz.results14 rfl
 simp only [gV, hs] at h
 try simp only [vz, tyf, b5, bW, cB, bz, bD, bH, bL, bX, d5, di, gV, nm, seval]
 obtain rfl := kF _ h
 exact br Tryz.results14 rfl
theorem uO {b : GBk} (h : Len b) (hB : BOk b) {a : Int} (h0 : 0 ≤ a) (h3 : a ≤ 3) {R : List Int} (hR : IsB b a R) : ∃ L, pR (wiB b a) = some (R :: L) ∧ nv (wiB b a) R = some (TK b R) := by
 have hB' := hB.wi h0 h3
 obtain ⟨L, x1, _, _⟩ := EX (h.wi a) hB' (R := R) hR
 exact ⟨L, x1, EW (h.wi a) hB' ((uI hB').1 R hR.2.1)⟩
theorem uP {b : GBk} (h : Len b) (hB : BOk b) (hr : Int) : ∀ (k : Nat) (j : Nat) (i : Int), 0 ≤ i → i + k = 4 → k < j → ∃ r, i ≤ r ∧ r ≤ 4 ∧ (∀ n, i ≤ n → n < r → ∀ p ∈ LA b n, ¬ TK b p ≤ hr) ∧ (r ≤ 3 → ∃ p ∈ LA b r, TK b p ≤ hr) ∧ pS b hr j i = some (if r ≤ 3 then .ret (r, true) else .go r)
 | 0, j + 1, i, h0, hk, _ => by
  refine ⟨i, Int.le_refl _, by omega, fun n h1 h2 => by omega, fun h => by omega, ?_⟩
  rw [pS, decide_eq_false (by omega), cond_false, if_neg (by omega)]
 | k + 1, j + 1, i, h0, hk, hj => by
  obtain ⟨R, hR⟩ := uQ b i
  obtain ⟨L, e1, e2⟩ := uO h hB h0 (by omega) hR
  rw [pS, decide_eq_true (by omega), cond_true, show rq b i = some (wiB b i) from rfl]
  simp only [Option.bind_some, e1, show getI (R :: L) 0 = some R from rfl, e2]
  by_cases hle : TK b R ≤ hr
  ·rw [decide_eq_true hle, cond_true]
   exact ⟨i, Int.le_refl _, by omega, fun n h1 h2 => by omega, fun _ => ⟨R, hR.2.1, hle⟩, by rw [if_pos (by omega)]⟩
  ·rw [decide_eq_false hle, cond_false, fk (by omega) (by omega)]
   obtain ⟨r, h1, h2, h3, h4, h5⟩ := uP h hB hr k j (i + 1) (by omega) (by omega) (by omega)
   refine ⟨r, by omega, h2, fun n LP uf p hp => ?_, h4, h5⟩
   by_cases hni : n = i
   ·subst hni
    have := hR.2.2 p hp
    omega
   ·exact h3 n (by omega) uf p hp
theorem NC (b : GBk) (hr : Int) (hb : aO b.Boards = true ∧ aO b.Strokes = true ∧ ∀ y ∈ b.Strokes, aO y.Needs = true) : xp b hr = some true := by
 have hL := Len.of hb
 unfold xp
 rcases Qc hL with e | e
 ·rw [e]; rfl
 simp only [e, Option.bind_some, cond_true, CY hL]
 cases hBb : benchB b with
 | false =>
  have e1 : mh b = some (0, 2) := by unfold mh; rw [ue hL, hBb]; rfl
  have e2 : mg b hr = some (0, 2) := by unfold mg; rw [ue hL, hBb]; rfl
  rw [e1, e2]; rfl
 | true =>
  have hB := wV.1 hBb
  have hA := hB.ap
  have eI : mg b hr = if inB 0 60 hr = true then Option.bind (rv b hr) (fun r3 => cond (r3.2) (some (r3.1, 0)) (some (0, 5))) else some (0, 2) := by
   unfold mg
   rw [ue hL, hBb, wU]
   simp only [Option.bind_some, cond_true]
   cases inB 0 60 hr <;> rfl
  have rest : ∀ r3, mg b hr = some r3 → (cond (decide (hr < 0)) (cond (r3.2 == 2) (cond (r3.1 == 0) (some true) (some false)) (some false)) (cond (decide (hr > 60)) (cond (r3.2 == 2) (cond (r3.1 == 0) (some true) (some false)) (some false)) (Option.bind (ru b hr) (fun r5 => cond (r5.2) (cond (r3.2 == 0) (cond (r3.1 == r5.1) (some true) (some false)) (some false)) (cond (r3.2 == 5) (cond (r3.1 == 0) (some true) (some false)) (some false)))))) = some true := by
   intro r3 h3
   rw [eI] at h3
   by_cases hi : inB 0 60 hr = true
   ·rw [if_pos hi] at h3
    have hi' := wG.1 hi
    rw [decide_eq_false (by omega), decide_eq_false (by omega), cond_false, cond_false]
    obtain ⟨r, er, r0, r4, rmin, rok⟩ := Fi hB hr 4 0 (Int.le_refl _) (by omega)
    obtain ⟨s, s0, s4, smin, sok, es⟩ := uP hL hB hr 4 1000000 0 (Int.le_refl _) (by omega) (by omega)
    have hrs : r = s := by
     rcases Int.lt_trichotomy r s with hlt | heq | hgt
     ·obtain ⟨p, hp, ht⟩ := rok (by omega)
      exact absurd ht (smin r r0 hlt p hp)
     ·exact heq
     ·obtain ⟨p, hp, ht⟩ := sok (by omega)
      exact absurd ht (rmin s s0 hgt p hp)
    subst hrs
    unfold rv at h3
    rw [hBb, cond_true, er] at h3
    unfold ru
    rw [es]
    by_cases h3' : r ≤ 3
    ·rw [if_pos h3']
     simp only [Option.bind_some, decide_eq_true h3', cond_true, Option.some.injEq] at h3
     subst h3
     simp [lbind]
    ·rw [if_neg h3']
     simp only [Option.bind_some, decide_eq_false h3', cond_false, Option.some.injEq] at h3
     subst h3
     rfl
   ·rw [if_neg hi] at h3
    obtain rfl := Option.some.inj h3
    by_cases h1 : hr < 0
    ·rw [decide_eq_true h1]; rfl
    ·have h2 : hr > 60 := by
      by_cases h2 : hr > 60
      ·exact h2
      ·exact absurd (wG.2 ⟨by omega, by omega⟩) hi
     rw [decide_eq_false h1, decide_eq_true h2]; rfl
  obtain ⟨r3, e3⟩ : ∃ r3, mg b hr = some r3 := by
   rw [eI]
   split
   ·obtain ⟨r, er, _⟩ := Fi hB hr 4 0 (Int.le_refl _) (by omega)
    unfold rv
    rw [hBb, cond_true, er]
    simp only [Option.bind_some]
    cases decide (r ≤ 3) <;> exact ⟨_, rfl⟩
   ·exact ⟨_, rfl⟩
  have hrest := rest r3 e3
  rw [e3]
  by_cases uR : b.Apprentices ≥ 3
  ·have e1 : mh b = some (0, 3) := by
    unfold mh
    rw [ue hL, hBb, Option.bind_some, cond_true, cond_true, show (b.Apprentices == 3) = true by simp; omega]; rfl
   rw [e1, decide_eq_true uR]
   simpa using hrest
  ·obtain ⟨R, hR⟩ := uQ b (b.Apprentices + 1)
   have e1 := Fj hL hB hA.1 (by omega) hR
   rw [Fk] at e1
   obtain ⟨L, x1, x2⟩ := uO hL hB (by omega) (by omega) hR
   rw [e1, decide_eq_false uR, fk (by omega) (by omega), show rq b (b.Apprentices + 1) = some (wiB b (b.Apprentices + 1)) from rfl]
   simp only [Option.bind_some, cond_true, cond_false, x1, show getI (R :: L) 0 = some R from rfl, x2, bne_self_eq_false]
   exact hrest
end Go.V
end
