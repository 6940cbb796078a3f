/- Part of a proof. -/
import Derived.Test.YtlkognggeadanaaGreatDoorDbm
set_option linter.all false
set_option maxRecDepth 4000
set_option maxHeartbeats 40000000
section
namespace Go.V
open Go Go.Proofs
def v9 (ad : GLs) (bm : GLx) (ah : Int) : Option ((List Int) × Int) := Option.bind (zp ad) (fun r1 => cond (r1) (Option.bind (zq ad bm) (fun r2 => cond (r2) (Option.bind (Ce ah) (fun r3 => cond (r3) (Option.bind (CF ad bm ah) (fun r4 => Option.bind (BZ r4) (fun r5 => some (r5, 0)))) (some (([] : List Int), 2)))) (some (([] : List Int), 2)))) (some (([] : List Int), 2)))
theorem XC (ad : GLs) (bm : GLx) (ah : Int) (R : (List Int) × Int) (h : v9 ad bm ah = some R) : ag Tryz.prog G0 21 [.agg (cGLs ad), .agg (cGLx bm), .lit (.int .i64 ah)] (.tree (.tup [.sl (aa eI R.1) (List.length R.1) false, .lit (.int .i64 R.2)])) := by
 refine ag.runR mixed Tryz.call21 Tryz.func21 rfl (by simp [Tryz.ntmps21]; kernel_rfl) ?_
 obtain ⟨KF, h, kF, kN⟩ := eC h
 simp only [v9] at h
 obtain ⟨r6, o7, h⟩ := optI h kN
 try simp only [hs] at h
 simp only [vz, mq, mqm, tyf, mqt, nm, seval]
 refine ktree (args0 := [.agg (cGLs ad)]) (by first | (simp only [nrm, aE, mqr] <;> rfl) | rfl) (by simp only [tre, aG, mqr, Bool.and_self]) (TK _ _ o7) ?_
 refine b5 (fun tm => tm 2 = .lit (.int .i64 ah) ∧ tm 3 = .ptr 0 0 ∧ tm 4 = .ptr 1 0 ∧ tm 9 = .lit (.bool r6) ∧ True) (by refine ⟨?_, ?_, ?_, ?_, trivial⟩ <;> first | (simp only [ua, dk, nm, seval] <;> rfl) | rfl) ?_
 rintro tm ⟨e8, e9, aW, bc, _⟩
 cases cl : (r6)
 ·simp only [cl, hs] at h
  try simp only [vz, mq, mqm, tyf, mqt, e8, e9, aW, bc, cl, nm, seval]
  refine eh (x := (.tup [.lit (.slice none 0 0), .lit (.int .i64 2)])) (by first | (simp only [Tryz.results21, resV, resL, aR, ei, ej, uw, cr, tyf, mqt, cl, nm, seval] <;> rfl) | rfl) ?_
  obtain rfl := kF _ h
  refine eD ?_ ?_
  ·simp only [tre, aG, mqr, Bool.and_self]
  ·first | (simp only [outV, uw, ep, nF, mZ, cr, tyf, mqt, nrm, aE, e8, e9, aW, bc, cl, nm, seval] <;> rfl) | rfl
 simp only [cl, hs] at h
 obtain ⟨zr, mK, h⟩ := optI h kN
 try simp only [hs] at h
 simp only [vz, mq, mqm, tyf, mqt, e8, e9, aW, bc, cl, nm, seval]
 refine ktree (args0 := [.agg (cGLs ad), .agg (cGLx bm)]) (by first | (simp only [nrm, aE, mqr] <;> rfl) | rfl) (by simp only [tre, aG, mqr, Bool.and_self]) (XD _ _ _ mK) ?_
 refine b5 (fun tm => tm 2 = .lit (.int .i64 ah) ∧ tm 3 = .ptr 0 0 ∧ tm 4 = .ptr 1 0 ∧ tm 11 = .lit (.bool false) ∧ tm 14 = .lit (.bool zr) ∧ True) (by refine ⟨e8, e9, aW, ?_, ?_, trivial⟩ <;> first | (simp only [ua, dk, e8, e9, aW, bc, cl, nm, seval] <;> rfl) | rfl) ?_
 rintro tm ⟨bE, de, cH, bL, dg, _⟩
 cases cB : (zr)
 ·simp only [cB, hs] at h
  try simp only [vz, mq, mqm, tyf, mqt, cl, bE, de, cH, bL, dg, cB, nm, seval]
  refine eh (x := (.tup [.lit (.slice none 0 0), .lit (.int .i64 2)])) (by first | (simp only [Tryz.results21, resV, resL, aR, ei, ej, uw, cr, tyf, mqt, cl, cB, nm, seval] <;> rfl) | rfl) ?_
  obtain rfl := kF _ h
  refine eD ?_ ?_
  ·simp only [tre, aG, mqr, Bool.and_self]
  ·first | (simp only [outV, uw, ep, nF, mZ, cr, tyf, mqt, nrm, aE, cl, bE, de, cH, bL, dg, cB, nm, seval] <;> rfl) | rfl
 simp only [cB, hs] at h
 obtain ⟨CG, Lu, h⟩ := optI h kN
 try simp only [hs] at h
 simp only [vz, mq, mqm, tyf, mqt, cl, bE, de, cH, bL, dg, cB, nm, seval]
 refine ktree (args0 := [.lit (.int .i64 ah)]) (by first | (simp only [nrm, aE, mqr] <;> rfl) | rfl) (by simp only [tre, aG, mqr, Bool.and_self]) (Wn _ _ Lu) ?_
 refine b5 (fun tm => tm 2 = .lit (.int .i64 ah) ∧ tm 3 = .ptr 0 0 ∧ tm 4 = .ptr 1 0 ∧ tm 17 = .lit (.bool false) ∧ tm 19 = .lit (.bool CG) ∧ True) (by refine ⟨bE, de, cH, ?_, ?_, trivial⟩ <;> first | (simp only [ua, dk, cl, bE, de, cH, bL, dg, cB, nm, seval] <;> rfl) | rfl) ?_
 rintro tm ⟨cm, cu, cN, dI, dm, _⟩
 cases rh : (CG)
 ·simp only [rh, hs] at h
  try simp only [vz, mq, mqm, tyf, mqt, cl, cB, cm, cu, cN, dI, dm, rh, nm, seval]
  refine eh (x := (.tup [.lit (.slice none 0 0), .lit (.int .i64 2)])) (by first | (simp only [Tryz.results21, resV, resL, aR, ei, ej, uw, cr, tyf, mqt, cl, cB, rh, nm, seval] <;> rfl) | rfl) ?_
  obtain rfl := kF _ h
  refine eD ?_ ?_
  ·simp only [tre, aG, mqr, Bool.and_self]
  ·first | (simp only [outV, uw, ep, nF, mZ, cr, tyf, mqt, nrm, aE, cl, cB, cm, cu, cN, dI, dm, rh, nm, seval] <;> rfl) | rfl
 simp only [rh, hs] at h
 obtain ⟨TL, XE, h⟩ := optI h kN
 try simp only [hs] at h
 simp only [vz, mq, mqm, tyf, mqt, cl, cB, cm, cu, cN, dI, dm, rh, nm, seval]
 refine ktree (args0 := [.agg (cGLs ad), .agg (cGLx bm), .lit (.int .i64 ah)]) (by first | (simp only [nrm, aE, mqr] <;> rfl) | rfl) (by simp only [tre, aG, mqr, Bool.and_self]) (XF _ _ _ _ XE) ?_
 refine b5 (fun tm => tm 25 = .agg (cGld TL) ∧ True) (by refine ⟨?_, trivial⟩ <;> first | (simp only [ua, dk, cl, cB, cm, cu, cN, dI, dm, rh, nm, seval] <;> rfl) | rfl) ?_
 rintro tm ⟨mF, _⟩
 obtain ⟨oo, wM, h⟩ := optI h kN
 try simp only [hs] at h
 simp only [vz, mq, mqm, tyf, mqt, cl, cB, rh, mF, nm, seval]
 refine ktree (args0 := [.agg (cGld TL)]) (by first | (simp only [nrm, aE, mqr] <;> rfl) | rfl) (by simp only [tre, aG, mqr, Bool.and_self]) (Wi _ _ wM) ?_
 refine b5 (fun tm => tm 26 = .sl (aa eI oo) (List.length oo) false ∧ True) (by refine ⟨?_, trivial⟩ <;> first | (simp only [ua, dk, cl, cB, rh, mF, nm, seval] <;> rfl) | rfl) ?_
 rintro tm ⟨eQ, _⟩
 try simp only [vz, mq, mqm, tyf, mqt, cl, cB, rh, eQ, nm, seval]
 refine eh (x := (.tup [.sl (aa eI oo) (List.length oo) false, .lit (.int .i64 0)])) (by first | (simp only [Tryz.results21, resV, resL, aR, ei, ej, uw, cr, tyf, mqt, cl, cB, rh, nm, seval] <;> rfl) | rfl) ?_
 obtain rfl := kF _ h
 refine eD ?_ ?_
 ·simp only [tre, aG, mqr, Bool.and_self]
 ·first | (simp only [outV, uw, ep, nF, mZ, cr, tyf, mqt, nrm, aE, cl, cB, rh, eQ, nm, seval] <;> rfl) | rfl
def CH (fE : Int) : Option (Bool) := Option.bind (mO fE 0 10) (fun r1 => some r1)
theorem XG (fE : Int) (R : Bool) (h : CH fE = some R) : ag Tryz.prog G0 24 [.lit (.int .i64 fE)] (.tree (.lit (.bool R))) := by
 refine ag.runR mixed Tryz.call24 Tryz.func24 rfl (by simp [Tryz.ntmps24]; kernel_rfl) ?_
 obtain ⟨KF, h, kF, kN⟩ := eC h
 simp only [CH] at h
 obtain ⟨r2, o3, h⟩ := optI h kN
 try simp only [hs] at h
 simp only [vz, tyf, nm, seval]
 refine ktA (pf _ _ _ _ o3) ?_
 refine b5 (fun tm => tm 4 = .lit (.bool r2) ∧ True) (by refine ⟨?_, trivial⟩ <;> first | (simp only [ua, nm, seval] <;> rfl) | rfl) ?_
 rintro tm ⟨e4, _⟩
 try simp only [vz, tyf, e4, nm, seval]
 obtain rfl := kF _ h
 exact bz Tryz.results24 rfl
def rowsL (s : GLs) (k : Int) (ms : List Glm) : Nat → Int → List Int
 | 0, _ => []
 | n + 1, r => rowF s k r ms :: rowsL s k ms n (r + 1)
theorem TM (s : GLs) (k : Int) (ms : List Glm) : ∀ (n : Nat) (r : Int), (rowsL s k ms n r).length = n
 | 0, _ => rfl
 | n + 1, r => by simp [rowsL, TM s k ms n]
theorem TN {l : Gld} (h : LOk l) : ∀ (es : List GLe) (r : Int) (d : List Int), r = d.length → wL l es r (d ++ List.replicate es.length 0) = some (.go (d ++ rowsL l.ls l.stretch l.marks es.length r))
 | [], r, d, _ => by simp [wL, rowsL]
 | e :: es, r, d, hr => by
  have hg : getI (d ++ List.replicate (e :: es).length 0) r = some 0 := by
   unfold getI
   rw [if_pos (by omega), show r.toNat = d.length by omega, List.getElem?_append_right (qZf _)]
   simp
  have hs : List.set (d ++ List.replicate (e :: es).length 0) (Int.toNat r) (rowF l.ls l.stretch r l.marks) = (d ++ [rowF l.ls l.stretch r l.marks]) ++ List.replicate es.length 0 := by
   rw [show r.toNat = d.length by omega, List.set_append_right _ _ (qZf _)]
   simp [List.replicate_succ]
  simp only [wL, Jz h, Option.bind_some, hg, hs]
  rw [TN h es (r + 1) _ (by simp; omega)]
  simp [rowsL]
theorem XH {l : Gld} (h : LOk l) : BZ l = some (rowsL l.ls l.stretch l.marks l.lx.Ends.length 0) := by
 have hn := h.ne
 simp only [BZ]
 rw [BL.2 (by omega), cond_true, oV (by omega), cond_true]
 have := TN h l.lx.Ends 0 [] rfl
 rw [List.nil_append, List.nil_append] at this
 rw [show Int.toNat (l.lx.Ends.length : Int) = l.lx.Ends.length by omega, this]
 rfl
theorem xl : ∀ (es : List GLe) (fl : List FL), AL es fl → es.length ≤ fl.length
 | [], [], _ => qZf _
 | [], _ :: _, h => h.elim
 | _ :: _, [], h => h.elim
 | e :: es, f :: fl, h => by
  unfold AL at h
  split at h
  ·have := xl es fl h
   simp; omega
  ·have := xl (e :: es) fl h
   simp at this ⊢; omega
theorem FJ (out : List Int) : ∀ (ws : List GLw) (i : Int), (∀ w ∈ ws, w.Signs.length ≤ 6) → (ltrsL out ws i).length ≤ 6 * ws.length
 | [], _, _ => by simp [ltrsL]
 | w :: ws, i, h => by
  have h1 := FJ out ws (i + 1) fun x hx => h x (qZa _ hx)
  have h2 := h w (qZb ..)
  unfold ltrsL
  cases out.contains i <;> simp [BH] <;> omega
theorem xm : ∀ (es : List GLe) (fl : List FL) (r : Int) (m : Glm), m ∈ (mkS es fl r).1 → ∃ f ∈ fl, f.2.1 = m.sign
 | es, [], r, m, h => by cases es <;> simp [mkS] at h
 | [], f :: fl, r, m, h => by simp [mkS] at h
 | e :: es, f :: fl, r, m, h => by
  by_cases he : e = f.1
  ·rw [wD he] at h
   rcases List.mem_cons.1 h with rfl | h
   ·exact ⟨f, qZb .., rfl⟩
   ·obtain ⟨g, hg, h2⟩ := xm es fl (r + 1) m h
    exact ⟨g, qZa _ hg, h2⟩
  ·rw [wE he] at h
   rcases List.mem_cons.1 h with rfl | h
   ·exact ⟨f, qZb .., rfl⟩
   ·obtain ⟨g, hg, h2⟩ := xm (e :: es) fl r m h
    exact ⟨g, qZa _ hg, h2⟩
theorem xn : ∀ (es : List GLe) (fl : List FL) (r : Int), AL es fl → (mkS es fl r).1.length = fl.length
 | [], [], r, _ => by simp [mkS]
 | [], _ :: _, _, h => h.elim
 | _ :: _, [], _, h => h.elim
 | e :: es, f :: fl, r, h => by
  unfold AL at h
  by_cases he : e = f.1
  ·rw [if_pos he] at h
   rw [wD he]
   simp [xn es fl (r + 1) h]
  ·rw [if_neg he] at h
   rw [wE he]
   simp [xn (e :: es) fl r h]
theorem xo : ∀ (es : List GLe) (fl : List FL) (r : Int), AL es fl → ∀ j : Int, r ≤ j → j < r + es.length → ∃ m ∈ (mkS es fl r).1, m.row = j
 | [], _, r, _, j, h1, h2 => by simp at h2; omega
 | _ :: _, [], _, h, _, _, _ => h.elim
 | e :: es, f :: fl, r, h, j, h1, h2 => by
  simp only [List.length_cons] at h2
  unfold AL at h
  by_cases he : e = f.1
  ·rw [if_pos he] at h
   rw [wD he]
   by_cases hj : j = r
   ·exact ⟨_, qZb .., hj.symm⟩
   ·obtain ⟨m, hm, h3⟩ := xo es fl (r + 1) h j (by omega) (by omega)
    exact ⟨m, qZa _ hm, h3⟩
  ·rw [if_neg he] at h
   rw [wE he]
   obtain ⟨m, hm, h3⟩ := xo (e :: es) fl r h j h1 (by simp only [List.length_cons]; omega)
   exact ⟨m, qZa _ hm, h3⟩
def marksOf (s : GLs) (x : GLx) : List Glm := (mkS x.Ends (ltrsL x.Out s.Words 0) 0).1
theorem xp {s : GLs} (h : Sh s) {x : GLx} (hs : IsS (possL x.Out s.Words 0) x.Ends) : AL x.Ends (ltrsL x.Out s.Words 0) :=
 AL_of _ _ hs.1 (BJ _ _ _) (fun e he => Jr _ _ _ (fun w hw => ⟨(h.wlen w hw).1, (h.wcut w hw).2.1⟩) e (hs.2.1 e he)) (by rw [hs.2.2, SJ _ _ _ fun w hw => (h.wlen w hw).1])
theorem CI {s : GLs} (h : Sh s) {x : GLx} (ho : lenOk x.Out = true) (hs : IsS (possL x.Out s.Words 0) x.Ends) {k : Int} (h0 : 0 ≤ k) (h1 : k ≤ 10) : ∃ l, CF s x k = some l ∧ LOk l ∧ l.ls = s ∧ l.lx = x ∧ l.stretch = k ∧ l.marks = marksOf s x := by
 have hal := xp h hs
 have hw := h.nw
 have hp := h.npair
 have hl := FJ x.Out s.Words 0 fun w hw => (h.wlen w hw).2
 have he := xl _ _ hal
 obtain ⟨m, hm, hmo⟩ := BF s.Pairs 0 [] (fun _ _ => none) (fun l r => ⟨rfl, fun v hv => by cases hv⟩)
 have h2 := wG x ho (by omega) s.Words 0 0 [] x.Ends (fun w hw => (h.wlen w hw).2) (qZe _) (by omega) rfl hal (by simp; omega)
 refine ⟨_, by simp only [CF]; rw [oV (by omega), cond_true, hm, mY, oV (by omega), cond_true, h2, mY], ⟨h, hmo, fun q hq => ?_, ?_, by simp only; omega, ?_, h0, h1⟩, rfl, rfl, rfl, by simp [marksOf]⟩
 ·rw [List.nil_append] at hq
  obtain ⟨f, hf, e⟩ := xm _ _ _ _ hq
  obtain ⟨_, w, hw, hc⟩ := yU hf
  have := h.wsign w hw _ hc
  rw [e] at this
  exact this
 ·simp only [List.nil_append]
  rw [xn _ _ _ hal]
  omega
 ·intro j a b
  simp only [List.nil_append]
  exact xo _ _ 0 hal j a (by simpa using b)
theorem TO (n : Int) : Ce n = some (inB 0 10 n) := by simp only [Ce, vA, Option.bind_some]
theorem TP (n : Int) : CH n = some (inB 0 10 n) := by simp only [CH, in_eq, Option.bind_some]
theorem TQ : ∀ (p : List GLw) (i : Int), ∃ r, zt p i = some r ∧ (∀ k c, r ≠ .brk k c)
 | [], _ => ⟨_, rfl, by intro _ _ h; cases h⟩
 | e :: p, i => by
  obtain ⟨r, hr, h⟩ := TQ p (i + 1)
  simp only [zt, hr]
  cases decide (i < 6)
  ·exact ⟨_, rfl, by intro _ _ h; cases h⟩
  ·cases decide ((e.Signs.length : Int) > 8)
   ·cases decide ((e.Cuts.length : Int) > 8)
    ·exact ⟨_, rfl, h⟩
    ·exact ⟨_, rfl, by intro _ _ h; cases h⟩
   ·exact ⟨_, rfl, by intro _ _ h; cases h⟩
theorem Lv (s : GLs) (h : lenOk s.Words = true) : ∃ b, CJ s = some b := by
 obtain ⟨r, hr, hk⟩ := TQ s.Words 0
 simp only [CJ, h, cond_true, hr]
 match r, hk with
 | .ret b, _ => exact ⟨_, rfl⟩
 | .go _, _ =>
  simp only [lbind]
  cases decide ((s.Widths.length : Int) ≤ 8)
  ·exact ⟨_, rfl⟩
  ·cases decide ((s.Pairs.length : Int) ≤ 8)
   ·exact ⟨_, rfl⟩
   ·exact ⟨_, rfl⟩
 | .brk k c, hk => exact absurd rfl (hk k c)
structure Good (s : GLs) (x : GLx) : Prop where
 fine : FineS s
 sheet : sheetB s = true
 out : outB s x.Out = true
 ends : IsS (possL x.Out s.Words 0) x.Ends
 lo : lenOk x.Out = true
 le : lenOk x.Ends = true
theorem Good.sh {s : GLs} {x : GLx} (g : Good s x) : Sh s := sh_of g.sheet
theorem Good.is {s : GLs} {x : GLx} (g : Good s x) : zq s x = some true := by
 rw [TR g.sh x g.lo g.le, g.out]
 have := (CK _ _ (xq g.sh x.Out)).2 g.ends
 rw [this]; rfl
theorem Lw {s : GLs} {x : GLx} (g : Good s x) {k : Int} (h0 : 0 ≤ k) (h1 : k ≤ 10) : v9 s x k = some (rowsL s k (marksOf s x) x.Ends.length 0, 0) := by
 obtain ⟨l, e1, e2, e3, e4, e5, e6⟩ := CI g.sh g.lo g.ends h0 h1
 have hk : inB 0 10 k = true := by unfold inB; rw [decide_eq_true h0, decide_eq_true h1]; rfl
 simp only [v9, CL s g.fine, g.sheet, Option.bind_some, cond_true, g.is, TO, hk, e1, XH e2]
 rw [e3, e4, e5, e6]
theorem Lx {s : GLs} {x : GLx} (g : Good s x) : x.Ends.length ≤ 24 := by
 obtain ⟨l, e1, e2, e3, e4, e5, e6⟩ := CI g.sh g.lo g.ends (k := 0) (qZe _) (by omega)
 have := e2.ne
 rwa [e4] at this
def rangeFR (f : FuncId) (cf : aw) (jump : Code → RS → ER) (n : Nat) (s : RS) (f0 : FuncId) (first captured : List VV) (ps : Array Tmp) (asg bo : Code) : ER :=
 match cf f0 (first ++ [.yl (s.nx + 1)] ++ captured) ((s.H.put s.nx (some (.deferred (some [])))).put (s.nx + 1) (some (.loopF .ready none (tmL n s.st.tm) ps asg bo f))) (s.nx + 2) with
 | .ret _ H' nx' => match H'.get (s.nx + 1) with
  | some (.loopF .busy _ _ _ _ _ _) => .no (.text 1)
  | some (.loopF _ pe tm ps asg bo fn) => match pe with
   | none => .mk .normal { s with H := H'.put (s.nx + 1) (some (.loopF .exhausted pe tm ps asg bo fn)), nx := nx', df := .coll s.nx :: s.df }
   | some c => jump c { s with H := H'.put (s.nx + 1) (some (.loopF .exhausted pe tm ps asg bo fn)), nx := nx', df := .coll s.nx :: s.df }
  | _ => .no (.text 2)
 | .pan x H' nx' => .mk (.panic x) { s with H := H', nx := nx', df := .coll s.nx :: s.df }
 | .no w => .no w
def GoOk (P : Program) (G : Glob) (f n : Nat) (go : Code → RS → ER) : Prop := ∀ code s e s', go code s = .mk e s' → ∀ Q : VExit → St → Prop, Q e s'.st → VGo P G f n code Q s.st
theorem XI {P : Program} {G : Glob} {cf : aw} (hcf : CallOk P G cf) {f : FuncId} {jump : Code → RS → ER} {n : Nat} (hj : GoOk P G f n jump) {s s' : RS} {e : VExit} {g : Operand} {f0 : FuncId} {first captured : List VV} {ps : Array Tmp} {asg bo : Code}
  (hg : s.st.ρ G g = .fn (.func f0) first captured) (h : rangeFR f cf jump n s f0 first captured ps asg bo = .mk e s') {Q : VExit → St → Prop} (hq : Q e s'.st) : VGo P G f n (.rangeFunc g ps asg bo) Q s.st := by
 refine VGo.range hg ?_
 unfold rangeFR at h
 have eH : ((s.H.put s.nx (some (.deferred (some [])))).put (s.nx + 1) (some (.loopF .ready none (tmL n s.st.tm) ps asg bo f))).get = updH (updH s.st.H s.st.nx (.deferred (some []))) (s.st.nx + 1) (.loopF .ready none (tmL n s.st.tm) ps asg bo f) := by
  rw [rA, rA]; rfl
 split at h
 ·rename_i x H' nx' hc
  have hv := hcf.1 _ _ _ _ _ _ _ hc
  rw [eH] at hv
  refine aK.mono hv ?_ ?_
  ·rintro y H1 n1 ⟨_, rfl, rfl⟩
   split at h
   ·cases h
   ·rename_i st pe nY nZ oa oc pQ hnb hl
    have e2 : ({ s with H := H'.put (s.nx + 1) (some (.loopF .exhausted pe nY nZ oa oc pQ)), nx := n1, df := .coll s.nx :: s.df } : RS).st = { s.st with H := updH H'.get (s.st.nx + 1) (.loopF .exhausted pe nY nZ oa oc pQ), nx := n1, df := .coll s.st.nx :: s.st.df } := by
     simp only [RS.st, rA]
    refine ⟨st, pe, nY, nZ, oa, oc, pQ, hl, hnb, ?_⟩
    split at h
    ·cases h
     show Q .normal _
     rw [← e2]; exact hq
    ·rename_i c
     show VGo P _ f n c Q _
     rw [← e2]
     exact hj c _ e s' h Q hq
   ·cases h
  ·intro y H1 n1 h; exact h.elim
 ·rename_i x H' nx' hc
  have hv := hcf.2 _ _ _ _ _ _ _ hc
  rw [eH] at hv
  cases h
  refine aK.mono hv ?_ ?_
  ·intro y H1 n1 h; exact h.elim
  ·rintro y H1 n1 ⟨rfl, rfl, rfl⟩
   exact hq
 ·cases h
noncomputable def rangeFF (f : FuncId) (cf : aw) (jump : Code → RS → ER) (n : Nat) (s : RS) (ps : Array Tmp) (asg bo : Code) (code : Code) (x : VV) : ER := match x with
 | .fn (.func f0) first captured => rangeFR f cf jump n s f0 first captured ps asg bo
 | _ => .no (.code code)
noncomputable def goF (G : Glob) (f : FuncId) (run : RunR) (cf : aw) (n : Nat) (k : Nat) : Code → RS → ER :=
 Nat.rec (motive := fun _ => Code → RS → ER) (fun code s => run none n code s) (fun _ ih code s => match code with
  | .seq a b => thenQ (ih a s) (fun s' => ih b s')
  | .block id a => blockQ (ih a s) id
  | .rangeFunc g ps asg bo => rangeFF f cf (fun c s => run none n c s) n s ps asg bo code (ρQ G s.tm g)
  | code => run none n code s) k
theorem CM {P : Program} {G : Glob} {f n : Nat} {run : RunR} {cf : aw} (hrun : RunOk P G run) (hcf : CallOk P G cf) : ∀ (k : Nat), GoOk P G f n (goF G f run cf n k)
 | 0, code, s, e, s', h, Q, hq => VGo.of (hrun none n code s e s' h Q hq)
 | k + 1, code, s, e, s', h, Q, hq => by
  have ih := CM (f := f) (n := n) hrun hcf k
  have dflt : run none n code s = .mk e s' → VGo P G f n code Q s.st := fun h => VGo.of (hrun none n code s e s' h Q hq)
  cases code with
  | seq a b =>
   have h' : thenQ (goF G f run cf n k a s) (fun s' => goF G f run cf n k b s') = .mk e s' := h
   cases hs : goF G f run cf n k a s with
   | no w => rw [hs] at h'; cases h'
   | mk e1 s1 =>
    rw [hs] at h'
    cases e1 with
    | normal => exact VGo.seq (ih a s .normal s1 hs _ (ih b s1 e s' h' Q hq))
    | exit id => cases h'; exact VGo.seq (ih a s _ _ hs _ hq)
    | goto l => cases h'; exact VGo.seq (ih a s _ _ hs _ hq)
    | ret => cases h'; exact VGo.seq (ih a s _ _ hs _ hq)
    | panic x => cases h'; exact VGo.seq (ih a s _ _ hs _ hq)
  | block id a =>
   have h' : blockQ (goF G f run cf n k a s) id = .mk e s' := h
   cases hs : goF G f run cf n k a s with
   | no w => rw [hs] at h'; cases h'
   | mk e1 s1 =>
    rw [hs] at h'
    refine VGo.block (ih a s e1 s1 hs _ ?_)
    cases e1 with
    | normal => cases h'; exact hq
    | goto l => cases h'; exact hq
    | ret => cases h'; exact hq
    | panic x => cases h'; exact hq
    | exit id' =>
     have h'' : Bool.rec (motive := fun _ => ER) (.mk (.exit id') s1) (.mk .normal s1) (Nat.beq id' id) = .mk e s' := h'
     show (if id' = id then _ else _)
     by_cases hid : id' = id
     ·have hb : Nat.beq id' id = true := by simpa using hid
      rw [hb] at h''
      cases h''
      rw [if_pos hid]; exact hq
     ·have hb : Nat.beq id' id = false := by cases hq : Nat.beq id' id with | false => rfl | true => exact absurd (by simpa using hq) hid
      rw [hb] at h''
      cases h''
      rw [if_neg hid]; exact hq
  | rangeFunc g ps asg bo =>
   have h' : rangeFF f cf (fun c s => run none n c s) n s ps asg bo (.rangeFunc g ps asg bo) (ρQ G s.tm g) = .mk e s' := h
   rw [ρQ_eq] at h'
   unfold rangeFF at h'
   split at h'
   ·rename_i f0 first captured hg
    exact XI hcf (fun c s e s' hs Q hq => VGo.of (hrun none n c s e s' hs Q hq)) hg h' hq
   ·cases h'
  | _ => exact dflt h
noncomputable def enterF (P : Program) (G : Glob) (run : RunR) (cf : aw) (k : Nat) (f : FuncId) (fn : Func) (code : Code) (args : List VV) (H : Trie VObj) (nx : Nat) : CR :=
 match goF G f run cf fn.ntmps k code (RS.mk (listV args 0 .nil) H nx []) with
 | .mk .ret s => leaveR P G run fn f s s.df .ret s.H s.nx
 | .mk .normal s => leaveR P G run fn f s s.df .ret s.H s.nx
 | .mk (.panic x) s => leaveR P G run fn f s s.df (.pan x false) s.H s.nx
 | .mk _ _ => .no (.fn f)
 | .no w => .no w
noncomputable def sx (P : Program) (G : Glob) (run : RunR) (cf : aw) (k : Nat) : aw := fun f args H nx => match textQ P f with
 | some (fn, code) => Bool.rec (motive := fun _ => CR) (.no (.fn f)) (enterF P G run cf k f fn code args H nx) (Nat.ble args.length fn.ntmps)
 | none => .no (.fn f)
theorem Ly {P : Program} {f : FuncId} {fn : Func} {code : Code} (h : textQ P f = some (fn, code)) : P.funcs[f]? = some fn ∧ fn.body = some code ∧ nameQ fn = true := by
 unfold textQ at h
 split at h
 ·cases h
 ·rename_i vB hf
  split at h
  ·cases h
  ·rename_i c1 hb
   split at h
   ·rename_i hn
    cases h
    exact ⟨hf, hb, hn⟩
   ·cases h
theorem TS {P : Program} {G : Glob} {run : RunR} {cf : aw} {k : Nat} (hrun : RunOk P G run) (hcf : CallOk P G cf) {f : FuncId} {args : List VV} {H : Trie VObj} {nx : Nat} {R Rp : VV → (Nat → Option VObj) → Nat → Prop}
  (h1 : ∀ x H' nx', sx P (G.at (some none)) run cf k f args H nx = .ret x H' nx' → R x H'.get nx') (h2 : ∀ x H' nx', sx P (G.at (some none)) run cf k f args H nx = .pan x H' nx' → Rp x H'.get nx') (h3 : ∀ w, sx P (G.at (some none)) run cf k f args H nx ≠ .no w) : aK P G f args H.get nx R Rp := by
 unfold sx at h1 h2 h3
 cases ht : textQ P f with
 | none => exact absurd (by simp only [ht]) (h3 (.fn f))
 | some p =>
  obtain ⟨fn, code⟩ := p
  obtain ⟨hf, hb, hn⟩ := Ly ht
  cases hc : Nat.ble args.length fn.ntmps with
  | false => exact absurd (by simp only [ht, hc]) (h3 (.fn f))
  | true =>
   simp only [ht, hc] at h1 h2 h3
   simp only [Nat.ble_eq] at hc
   unfold enterF at h1 h2 h3
   rw [J9] at h1 h2 h3
   cases hr : goF (G.at (some none)) f run cf fn.ntmps k code (RS.mk (Trie.ofList 0 args .nil) H nx []) with
   | no w => exact absurd (by rw [hr]) (h3 w)
   | mk e s =>
    rw [hr] at h1 h2 h3
    have body : OpenPostD P G fn R Rp e s.st → aK P G f args H.get nx R Rp := by
     intro hq
     have := CM (G := G.at (some none)) (f := f) (n := fn.ntmps) hrun hcf k code _ e s hr _ hq
     rw [argsR] at this
     exact aK.of_bodyGo (Lz hf hb hn) hf hb hc this
    cases e with
    | ret => exact body (vC hrun s.df .ret s.H s.nx h1 h2 h3)
    | normal => exact body (vC hrun s.df .ret s.H s.nx h1 h2 h3)
    | panic x => exact body (vC hrun s.df (.pan x false) s.H s.nx h1 h2 h3)
    | exit id => exact absurd rfl (h3 (.fn f))
    | goto l => exact absurd rfl (h3 (.fn f))
noncomputable def cfF (P : Program) (G : Glob) (run : RunR) (fs : List Nat) (k : Nat) : aw := fun f args H nx => match fs.elem f with
 | true => sx P G run (cfQ P G run) k f args H nx
 | false => cfQ P G run f args H nx
theorem CN {P : Program} {G : Glob} {run : RunR} {fs : List Nat} {k : Nat} (hrun : RunOk P G run) : CallOk P G (cfF P (G.at (some none)) run fs k) := by
 have hcf : CallOk P G (cfQ P (G.at (some none)) run) := by rw [J8]; exact L0 hrun
 constructor
 ·intro f args H nx x H' nx' h
  unfold cfF at h
  split at h
  ·exact TS hrun hcf (fun y H1 n1 e => by rw [h] at e; cases e; exact ⟨rfl, rfl, rfl⟩) (fun y H1 n1 e => by rw [h] at e; cases e) (fun w e => by rw [h] at e; cases e)
  ·exact hcf.1 _ _ _ _ _ _ _ h
 ·intro f args H nx x H' nx' h
  unfold cfF at h
  split at h
  ·exact TS hrun hcf (fun y H1 n1 e => by rw [h] at e; cases e) (fun y H1 n1 e => by rw [h] at e; cases e; exact ⟨rfl, rfl, rfl⟩) (fun w e => by rw [h] at e; cases e)
  ·exact hcf.2 _ _ _ _ _ _ _ h
noncomputable def runF (P : Program) (G : Glob) (fs : List Nat) (tab : KTab) (k : Nat) : RunR :=
 Nat.rec (motive := fun _ => RunR) (fun _ _ _ _ => .no .fuel) (fun k ih ro n code s => bodyA k ih (cfT tab (cfF P (G.at (some none)) ih fs k)) ro n s (ccB P G code)) k
theorem TT {P : Program} {G : Glob} {fs : List Nat} {tab : KTab} (hm : P.follows .mixedOrders = true) (ht : KTabOk P G tab) : ∀ (k : Nat), RunOk P G (runF P G fs tab k)
 | 0, _, _, _, _, _, _, h => by cases h
 | k + 1, ro, n, code, s, e, s', h => by
  intro Q hq
  have ih := TT (G := G) (fs := fs) hm ht k
  exact Gw hm ih (Ko ht (CN ih)) h hq
noncomputable def closedF (P : Program) (G : Glob) (fs : List Nat) (tab : KTab) (k : Nat) (f : FuncId) (args : List VV) : PRes ⊕ Why := pureQ (cfF P (G.at (some none)) (runF P G fs tab k) fs k) f args
theorem ag.closedF {P : Program} {G : Glob} {fs : List Nat} {tab : KTab} (hm : P.follows .mixedOrders = true) (ht : KTabOk P G tab) (k : Nat) {f : FuncId} {args : List VV} {r : PRes} (h : closedF P G fs tab k f args = .inl r) : ag P G f args r := by
 unfold Go.V.closedF at h
 rw [J5] at h
 exact CP (CN (TT hm ht k)) h
theorem hmix : Tryz.prog.follows .mixedOrders = true := by kernel_rfl
def kA : VV := (VV.agg [(VV.sl [(.lit (.int .i64 (.ofNat 6))), (.lit (.int .i64 (.ofNat 4))), (.lit (.int .i64 (.ofNat 8)))] 3 Bool.false), (VV.sl [(.lit (.int .i64 (.ofNat 0))), (.lit (.int .i64 (.ofNat 1))), (.lit (.int .i64 (.ofNat 1))), (.lit (.int .i64 (.ofNat 3))), (.lit (.int .i64 (.ofNat 2))), (.lit (.int .i64 (.ofNat 0))), (.lit (.int .i64 (.ofNat 0))), (.lit (.int .i64 (.ofNat 2)))] 2 Bool.false), (.lit (.int .i64 (.ofNat 2))), (.lit (.int .i64 (.ofNat 4))), (.lit (.int .i64 (.ofNat 5))), (.lit (.int .i64 (.ofNat 8))), (.lit (.int .i64 (.ofNat 3))), (VV.sl [(VV.sl [(.lit (.int .i64 (.ofNat 2))), (.lit (.int .i64 (.ofNat 0))), (.lit (.int .i64 (.ofNat 1)))] 3 Bool.false), (VV.lit (Value.slice Option.none 0 0)), (VV.lit (Value.bool Bool.false)), (VV.sl [(.lit (.int .i64 (.ofNat 0))), (.lit (.int .i64 (.ofNat 2)))] 2 Bool.false), (VV.sl [(.lit (.int .i64 (.ofNat 1)))] 1 Bool.false), (VV.lit (Value.bool Bool.true))] 2 Bool.false), (.lit (.int .i64 (.ofNat 21))), (.lit (.int .i64 (.ofNat 2)))])
def kX : VV := (VV.agg [(VV.lit (Value.slice Option.none 0 0)), (VV.sl [(.lit (.int .i64 (.ofNat 0))), (.lit (.int .i64 (.ofNat 3))), (.lit (.int .i64 (.ofNat 1))), (.lit (.int .i64 (.ofNat 2)))] 2 Bool.false)])
def kY : VV := (VV.agg [(VV.lit (Value.slice Option.none 0 0)), (VV.sl [(.lit (.int .i64 (.ofNat 1))), (.lit (.int .i64 (.ofNat 1))), (.lit (.int .i64 (.ofNat 1))), (.lit (.int .i64 (.ofNat 2)))] 2 Bool.false)])
def kB : VV := (VV.agg [(VV.sl [(.lit (.int .i64 (.ofNat 6))), (.lit (.int .i64 (.ofNat 4))), (.lit (.int .i64 (.ofNat 8)))] 3 Bool.false), (VV.sl [(.lit (.int .i64 (.ofNat 0))), (.lit (.int .i64 (.ofNat 1))), (.lit (.int .i64 (.ofNat 1))), (.lit (.int .i64 (.ofNat 3))), (.lit (.int .i64 (.ofNat 2))), (.lit (.int .i64 (.ofNat 0))), (.lit (.int .i64 (.ofNat 0))), (.lit (.int .i64 (.ofNat 2)))] 2 Bool.false), (.lit (.int .i64 (.ofNat 2))), (.lit (.int .i64 (.ofNat 4))), (.lit (.int .i64 (.ofNat 5))), (.lit (.int .i64 (.ofNat 8))), (.lit (.int .i64 (.ofNat 3))), (VV.sl [(VV.sl [(.lit (.int .i64 (.ofNat 2))), (.lit (.int .i64 (.ofNat 0))), (.lit (.int .i64 (.ofNat 1)))] 3 Bool.false), (VV.lit (Value.slice Option.none 0 0)), (VV.lit (Value.bool Bool.false)), (VV.sl [(.lit (.int .i64 (.ofNat 0))), (.lit (.int .i64 (.ofNat 2)))] 2 Bool.false), (VV.sl [(.lit (.int .i64 (.ofNat 1)))] 1 Bool.false), (VV.lit (Value.bool Bool.true))] 2 Bool.false), (.lit (.int .i64 (.ofNat 18))), (.lit (.int .i64 (.ofNat 2)))])
def kC : VV := (VV.agg [(VV.sl [(.lit (.int .i64 (.ofNat 6))), (.lit (.int .i64 (.ofNat 4))), (.lit (.int .i64 (.ofNat 8)))] 3 Bool.false), (VV.sl [(.lit (.int .i64 (.ofNat 0))), (.lit (.int .i64 (.ofNat 1))), (.lit (.int .i64 (.ofNat 1))), (.lit (.int .i64 (.ofNat 3))), (.lit (.int .i64 (.ofNat 2))), (.lit (.int .i64 (.ofNat 0))), (.lit (.int .i64 (.ofNat 0))), (.lit (.int .i64 (.ofNat 2)))] 2 Bool.false), (.lit (.int .i64 (.ofNat 2))), (.lit (.int .i64 (.ofNat 4))), (.lit (.int .i64 (.ofNat 5))), (.lit (.int .i64 (.ofNat 8))), (.lit (.int .i64 (.ofNat 3))), (VV.sl [(VV.sl [(.lit (.int .i64 (.ofNat 2))), (.lit (.int .i64 (.ofNat 0))), (.lit (.int .i64 (.ofNat 1)))] 3 Bool.false), (VV.lit (Value.slice Option.none 0 0)), (VV.lit (Value.bool Bool.false)), (VV.sl [(.lit (.int .i64 (.ofNat 0))), (.lit (.int .i64 (.ofNat 2)))] 2 Bool.false), (VV.sl [(.lit (.int .i64 (.ofNat 1)))] 1 Bool.false), (VV.lit (Value.bool Bool.true))] 2 Bool.false), (.lit (.int .i64 (.ofNat 21))), (.lit (.int .i64 (.ofNat 1)))])
def kD : VV := (VV.agg [(VV.sl [(.lit (.int .i64 (.ofNat 6))), (.lit (.int .i64 (.ofNat 4))), (.lit (.int .i64 (.ofNat 8)))] 3 Bool.false), (VV.sl [(.lit (.int .i64 (.ofNat 0))), (.lit (.int .i64 (.ofNat 1))), (.lit (.int .i64 (.ofNat 1))), (.lit (.int .i64 (.ofNat 3))), (.lit (.int .i64 (.ofNat 2))), (.lit (.int .i64 (.ofNat 0))), (.lit (.int .i64 (.ofNat 0))), (.lit (.int .i64 (.ofNat 2)))] 2 Bool.false), (.lit (.int .i64 (.ofNat 2))), (.lit (.int .i64 (.ofNat 4))), (.lit (.int .i64 (.ofNat 5))), (.lit (.int .i64 (.ofNat 8))), (.lit (.int .i64 (.ofNat 3))), (VV.sl [(VV.sl [(.lit (.int .i64 (.ofNat 2))), (.lit (.int .i64 (.ofNat 0))), (.lit (.int .i64 (.ofNat 1)))] 3 Bool.false), (VV.lit (Value.slice Option.none 0 0)), (VV.lit (Value.bool Bool.false)), (VV.sl [(.lit (.int .i64 (.ofNat 0))), (.lit (.int .i64 (.ofNat 1)))] 2 Bool.false), (VV.sl [(.lit (.int .i64 (.ofNat 1)))] 1 Bool.false), (VV.lit (Value.bool Bool.true))] 2 Bool.false), (.lit (.int .i64 (.ofNat 21))), (.lit (.int .i64 (.ofNat 2)))])
def kWidths : VV := (VV.tup [(VV.sl [(.lit (.int .i64 (.ofNat 35))), (.lit (.int .i64 (.ofNat 8)))] 2 Bool.false), (.lit (.int .i64 (.ofNat 0)))])
def kFits : VV := (VV.tup [(VV.lit (Value.bool Bool.true)), (.lit (.int .i64 (.ofNat 0)))])
def kStretch : VV := (VV.tup [(.lit (.int .i64 (.ofNat 9))), (.lit (.int .i64 (.ofNat 0)))])
def kPlaces : VV := (VV.tup [(VV.sl [(VV.sl [(.lit (.int .i64 (.ofNat 0))), (.lit (.int .i64 (.ofNat 9))), (.lit (.int .i64 (.ofNat 17)))] 3 Bool.false), (VV.sl [(.lit (.int .i64 (.ofNat 0))), (.lit (.int .i64 (.ofNat 9)))] 2 Bool.false)] 2 Bool.false), (.lit (.int .i64 (.ofNat 0)))])
def kRows : VV := (VV.tup [(.lit (.int .i64 (.ofNat 2))), (.lit (.int .i64 (.ofNat 0)))])
def kSet : VV := (VV.tup [(VV.agg [(VV.lit (Value.slice Option.none 0 0)), (VV.sl [(.lit (.int .i64 (.ofNat 0))), (.lit (.int .i64 (.ofNat 3))), (.lit (.int .i64 (.ofNat 1))), (.lit (.int .i64 (.ofNat 2)))] 2 Bool.false)]), (.lit (.int .i64 (.ofNat 9))), (.lit (.int .i64 (.ofNat 0)))])
def kCount : VV := (VV.tup [(.lit (.int .i64 (.ofNat 1))), (.lit (.int .i64 (.ofNat 0)))])
def kNarrow : VV := (VV.tup [(.lit (.int .i64 (.ofNat 40))), (.lit (.int .i64 (.ofNat 0)))])
def kDrop : VV := (VV.tup [(VV.sl [(.lit (.int .i64 (.ofNat 1)))] 1 Bool.false), (.lit (.int .i64 (.ofNat 0)))])
def kOver : VV := (VV.tup [(.lit (.int .i64 (.ofNat 3))), (.lit (.int .i64 (.ofNat 0)))])
def kAlike : VV := (VV.tup [(.lit (.int .i64 (.ofNat 0))), (.lit (.int .i64 (.ofNat 1))), (.lit (.int .i64 (.ofNat 0)))])
def kRead : VV := (VV.tup [(VV.agg [(VV.sl [(.lit (.int .i64 (.ofNat 1)))] 1 Bool.false), (VV.lit (Value.slice Option.none 0 0)), (.lit (.int .i64 (.ofNat 0))), (.lit (.int .i64 (.ofNat 0))), (.lit (.int .i64 (.ofNat 0))), (.lit (.int .i64 (.ofNat 0))), (.lit (.int .i64 (.ofNat 1))), (VV.sl [(VV.sl [(.lit (.int .i64 (.ofNat 0)))] 1 Bool.false), (VV.lit (Value.slice Option.none 0 0)), (VV.lit (Value.bool Bool.false))] 1 Bool.false), (.lit (.int .i64 (.ofNat 1))), (.lit (.int .i64 (.ofNat 1)))]), (.lit (.int .i64 (.ofNat 0)))])
theorem pA : ag Tryz.prog G0 59 [] (.tree kA) := ag.closedF (fs := []) (tab := []) hmix trivial 1000 (by kernel_rfl)
theorem pX : ag Tryz.prog G0 61 [] (.tree kX) := ag.closedF (fs := []) (tab := []) hmix trivial 1000 (by kernel_rfl)
theorem pY : ag Tryz.prog G0 60 [] (.tree kY) := ag.closedF (fs := []) (tab := []) hmix trivial 1000 (by kernel_rfl)
theorem pB : ag Tryz.prog G0 63 [] (.tree kB) := ag.closedF (fs := []) (tab := []) hmix trivial 1000 (by kernel_rfl)
theorem pC : ag Tryz.prog G0 62 [] (.tree kC) := ag.closedF (fs := []) (tab := []) hmix trivial 1000 (by kernel_rfl)
theorem pD : ag Tryz.prog G0 65 [] (.tree kD) := ag.closedF (fs := []) (tab := []) hmix trivial 1000 (by kernel_rfl)
theorem pWidths : ag Tryz.prog G0 21 [kA, kY, .lit (.int .i64 (0))] (.tree kWidths) := ag.closedF (fs := []) (tab := []) hmix trivial 1000 (by kernel_rfl)
theorem pFits : ag Tryz.prog G0 31 [kA, kX, .lit (.int .i64 (9))] (.tree kFits) := ag.closedF (fs := []) (tab := []) hmix trivial 1000 (by kernel_rfl)
theorem pStretch : ag Tryz.prog G0 32 [kA, kX] (.tree kStretch) := ag.closedF (fs := []) (tab := []) hmix trivial 1000 (by kernel_rfl)
theorem pPlaces : ag Tryz.prog G0 28 [kA, kX, .lit (.int .i64 (9))] (.tree kPlaces) := ag.closedF (fs := []) (tab := []) hmix trivial 1000 (by kernel_rfl)
theorem pRows : ag Tryz.prog G0 37 [kA] (.tree kRows) := ag.closedF (fs := []) (tab := []) hmix trivial 1000 (by kernel_rfl)
theorem pSet : ag Tryz.prog G0 38 [kA] (.tree kSet) := ag.closedF (fs := []) (tab := []) hmix trivial 1000 (by kernel_rfl)
theorem pCount : ag Tryz.prog G0 43 [kA] (.tree kCount) := ag.closedF (fs := []) (tab := []) hmix trivial 1000 (by kernel_rfl)
theorem pNarrow : ag Tryz.prog G0 44 [kC] (.tree kNarrow) := ag.closedF (fs := []) (tab := []) hmix trivial 1000 (by kernel_rfl)
theorem pDrop : ag Tryz.prog G0 48 [kC] (.tree kDrop) := ag.closedF (fs := []) (tab := []) hmix trivial 1000 (by kernel_rfl)
theorem pOver : ag Tryz.prog G0 53 [kB] (.tree kOver) := ag.closedF (fs := []) (tab := []) hmix trivial 1000 (by kernel_rfl)
theorem pAlike : ag Tryz.prog G0 64 [kD] (.tree kAlike) := ag.closedF (fs := []) (tab := []) hmix trivial 1000 (by kernel_rfl)
theorem pRead : ag Tryz.prog G0 66 [.lit (.string ⟨⟨[102, 114, 111, 110, 116, 32, 49, 32, 49, 10, 115, 112, 97, 99, 101, 115, 32, 48, 32, 48, 32, 48, 32, 48, 32, 49, 10, 115, 105, 103, 110, 32, 49, 10, 119, 111, 114, 100, 32, 110, 111, 32, 48, 32, 45, 10, 101, 110, 100, 32, 48, 57, 56, 10]⟩⟩)] (.tree kRead) := ag.closedF (fs := []) (tab := []) hmix trivial 1000 (by kernel_rfl)
def kTab : KTab := [
  (59, [], kA),
  (61, [], kX),
  (60, [], kY),
  (63, [], kB),
  (62, [], kC),
  (65, [], kD),
  (21, [kA, kY, .lit (.int .i64 (0))], kWidths),
  (31, [kA, kX, .lit (.int .i64 (9))], kFits),
  (32, [kA, kX], kStretch),
  (28, [kA, kX, .lit (.int .i64 (9))], kPlaces),
  (37, [kA], kRows),
  (38, [kA], kSet),
  (43, [kA], kCount),
  (44, [kC], kNarrow),
  (48, [kC], kDrop),
  (53, [kB], kOver),
  (64, [kD], kAlike),
  (66, [.lit (.string ⟨⟨[102, 114, 111, 110, 116, 32, 49, 32, 49, 10, 115, 112, 97, 99, 101, 115, 32, 48, 32, 48, 32, 48, 32, 48, 32, 49, 10, 115, 105, 103, 110, 32, 49, 10, 119, 111, 114, 100, 32, 110, 111, 32, 48, 32, 45, 10, 101, 110, 100, 32, 48, 57, 56, 10]⟩⟩)], kRead)]
theorem kTabOk : KTabOk Tryz.prog G0 kTab := ⟨⟨by kernel_rfl, pA⟩, ⟨⟨by kernel_rfl, pX⟩, ⟨⟨by kernel_rfl, pY⟩, ⟨⟨by kernel_rfl, pB⟩, ⟨⟨by kernel_rfl, pC⟩, ⟨⟨by kernel_rfl, pD⟩, ⟨⟨by kernel_rfl, pWidths⟩, ⟨⟨by kernel_rfl, pFits⟩, ⟨⟨by kernel_rfl, pStretch⟩, ⟨⟨by kernel_rfl, pPlaces⟩, ⟨⟨by kernel_rfl, pRows⟩, ⟨⟨by kernel_rfl, pSet⟩, ⟨⟨by kernel_rfl, pCount⟩, ⟨⟨by kernel_rfl, pNarrow⟩, ⟨⟨by kernel_rfl, pDrop⟩, ⟨⟨by kernel_rfl, pOver⟩, ⟨⟨by kernel_rfl, pAlike⟩, ⟨⟨by kernel_rfl, pRead⟩, trivial⟩⟩⟩⟩⟩⟩⟩⟩⟩⟩⟩⟩⟩⟩⟩⟩⟩⟩
theorem pKnown : ag Tryz.prog G0 19 [] (.tree (.lit (.bool true))) := ag.closedF (fs := []) hmix kTabOk 1000 (by kernel_rfl)
#print axioms pKnown
theorem zu : ag Tryz.prog G0 19 [] (.tree (.lit (.bool true))) := pKnown


end Go.V
end
