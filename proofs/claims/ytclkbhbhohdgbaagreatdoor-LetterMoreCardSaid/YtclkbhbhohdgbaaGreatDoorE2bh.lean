/- Part of a proof. -/
import Derived.Test.YtclkbhbhohdgbaaGreatDoorE2bg
set_option linter.all false
set_option maxRecDepth 4000
set_option maxHeartbeats 40000000
section
namespace Go.V
open Go Go.Proofs IntKind Tryz
theorem JW {α : Type} {enc : α → List VV} (he : EncOk enc) : ∀ {l : List α}, normV (vx enc l) = .sl (ad enc l) l.length false
 | [] => rfl
 | a :: l => by
  show normV (.sl (ad enc (a :: l)) (a :: l).length false) = _
  simp [normV, he.normL]
variable {l : List Int}
theorem Dx : normV (vx eI l) = sI l := JW eI_ok
theorem jh {α : Type} {enc : α → List VV} : ∀ {l : List α}, (vx enc l).leaf = true
 | [] => rfl
 | a :: l => rfl
theorem qC : (vx eI l).tree = true := JX eI_ok
variable {H : Nat → Option Vo}
theorem Aw {f : FuncId} {JY fx : Option TypeId} {c1 c2 : List VV} (h0 : H 0 = some (.cells JY c1)) (h1 : H 1 = some (.cells fx c2)) (t0 : tl c1 = true) (t1 : tl c2 = true) (l0 : c1.length < 40) (l1 : c2.length < 40) :
  sealV H 50 (.fn (.func f) [] [.ptr 0 0, .ptr 1 0]) = some (.fn (.func f) [] [.tp c1, .tp c2]) := by
 have e0 : sealV H 48 (.ptr 0 0) = some (.tp c1) := by
  show sealV H (47 + 1) _ = _
  have : (VV.ptr 0 0).tree = false := rfl
  simp only [sealV, this, h0, Nat.zero_le, if_true, List.drop_zero]
  rw [rk _ 47 t0 (by omega)]
  rfl
 have e1 : sealV H 47 (.ptr 1 0) = some (.tp c2) := by
  show sealV H (46 + 1) _ = _
  have : (VV.ptr 1 0).tree = false := rfl
  simp only [sealV, this, h1, Nat.zero_le, if_true, List.drop_zero]
  rw [rk _ 46 t1 (by omega)]
  rfl
 have s3 : aW H 47 [] = some [] := by
  show aW H (46 + 1) _ = _
  simp only [aW]
 have s2 : aW H 48 [.ptr 1 0] = some [.tp c2] := by
  show aW H (47 + 1) _ = _
  simp only [aW, e1, s3]
 have s1 : aW H 49 [.ptr 0 0, .ptr 1 0] = some [.tp c1, .tp c2] := by
  show aW H (48 + 1) _ = _
  simp only [aW, e0, e1]
 have s0 : aW H 49 [] = some [] := by
  show aW H (48 + 1) _ = _
  simp only [aW]
 show sealV H (49 + 1) _ = _
 have e3 : (VV.fn (.func f) [] [.ptr 0 0, .ptr 1 0]).tree = false := rfl
 simp only [sealV, e3, s1, s0]
 rfl
def itS (s : GLs) (out : List Int) : VV := .fn (.func 126) [] [.tp (cGLs s), .tp [vx eI out]]
theorem JZ (s : GLs) (out : List Int) : ah prog G0 92 [.agg (cGLs s), vx eI out] (.tree (itS s out)) := by
 refine ah.run mixed call92 func92 rfl (by simp [ntmps92]; kernel_rfl) ?_
 simp only [vz, tyf, seval, ua, rg, vcells1 jh]
 refine ⟨rfl, .fn (.func 126) [] [.ptr 0 0, .ptr 1 0], by simp [results92, resV, resL, aw, upd], 50, ?_⟩
 exact Aw (c1 := cGLs s) (c2 := [vx eI out]) (JY := some 28) (fx := some 22) (by simp only [aQ, seval] <;> rfl) (by simp only [aQ, seval] <;> rfl) (eV.tree s) (by simp [tl, qC]) (by simp [cGLs]) (by simp)
def vb (s : GLs) (out : List Int) : Option (List (List GLe)) := Option.bind (uQ s out) fun poss => if poss.length < 1000000 ∧ out.length < 1000000 then stgO poss (poss.length - 1) s.Rows 5 [] 0 else none
theorem X6 (s : GLs) (out : List Int) (L : List (List GLe)) (h : vb s out = some L) : Iter prog G0 (itS s out) (L.map (sSet out)) := by
 unfold vb at h
 rcases hp : uQ s out with _ | poss
 ·rw [hp] at h; cases h
 rw [hp, Option.bind_some] at h
 split at h
 rotate_left
 ·cases h
 rename_i hb
 obtain ⟨xn, X7⟩ := hb
 have hpos : 0 < poss.length := by
  rcases poss with _ | ⟨a, l⟩
  ·exfalso
   simp only [stgO, List.length_nil] at h
   rcases hg : goStg (stgO [] (0 - 1) s.Rows 4) [] [] (if (((0 : Nat) : Int) + 1 < s.Rows) then 0 - 1 - 0 else 0) 0 with _ | a
   ·simp_all
   ·simp_all
  ·exact Nat.succ_pos _
 refine ⟨126, [], _, rfl, fun β I hst hr H nx hβ hI => ?_⟩
 refine aX.run mixed call126 func126 rfl (by simp [ntmps126]; kernel_rfl) ?_
 simp only [List.nil_append, List.cons_append, argsTm3, vz, tyf, seval, ua, rg]
 refine ktree (args0 := [.agg (cGLs s), sI out]) (by first | (simp only [nrm, aq, Dx] <;> rfl) | rfl) (by simp only [tre, an, qC, Bool.and_self]) (Xu _ _ _ hp) ?_
 refine bQ (fun tm => tm 1 = .tp (cGLs s) ∧ tm 2 = .tp [vx eI out] ∧ tm 3 = .ptr nx 0 ∧ tm 9 = sE poss) (by refine ⟨?_, ?_, ?_, ?_⟩ <;> simp only [ua, seval, tyf, Nat.add_zero]) ?_
 rintro tm ⟨e1, e2, e3, e9⟩
 have hw : i64.wrap ((poss.length : Int) - 1) = ((poss.length - 1 : Nat) : Int) := by rw [IntWalk.i64_in _ (by omega)]; omega
 simp only [vz, tyf, seval, ua, nm, rg, e1, e2, e3, e9, hw]
 refine kopen ?_
 rw [FJ]
 refine aX.mono (FH (s := s) (out := out) (poss := poss) (last := poss.length - 1) (y := nx) (e := nx + 11) (pl := nx + 4) (la := nx + 9) hst hr (by omega) X7 5 [] 0 [] L (fun γ => γ = nx ∨ γ = nx + 4 ∨ γ = nx + 9 ∨ γ = nx + 11) _ _ h (by simp) (by omega) (by omega) (by rintro γ (rfl | rfl | rfl | rfl) <;> omega) (.inl rfl) (.inr (.inr (.inr rfl))) (.inr (.inl rfl)) (.inr (.inr (.inl rfl))) (by simp [updH]) (by simp [updH]) (by simp [updH]) (by simp only [updH]; simp; rfl) ?_) ?_ (fun _ _ _ h => h.elim)
 ·rw [List.append_nil]
  refine hst _ _ _ _ _ _ _ hI ?_ (by omega) (by rintro γ (rfl | rfl | rfl | rfl) <;> right <;> omega)
  intro γ h _
  simp only [updH]
  repeat rw [if_neg (by omega)]
 rintro v H2 nn ⟨b, rfl, h1, h2, h3⟩
 simp only [vz, tyf, seval, ua]
 refine Fp (x := .tup []) (by simp [results126, resV, resL]) ?_
 replace h3 := hst _ _ noFr _ _ _ _ h3 (fun _ _ _ => rfl) (qZg _) (fun γ h => h.elim)
 cases b with
 | true => exact .inl h3
 | false => exact .inr h3





theorem vc : ∀ (es : List GLe) (fl : List FL), AL es fl → es.length ≤ fl.length
 | [], [], _ => qZg _
 | [], _ :: _, h => h.elim
 | _ :: _, [], h => h.elim
 | e :: es, f :: fl, h => by
  unfold AL at h
  split at h
  ·have := vc es fl h
   simp; omega
  ·have := vc (e :: es) fl h
   simp at this ⊢; omega
theorem Ax (out : List Int) : ∀ (ws : List GLw) (i : Int), (∀ w ∈ ws, w.Signs.length ≤ 6) → (ltrsL out ws i).length ≤ 6 * ws.length
 | [], _, _ => by simp [ltrsL]
 | w :: ws, i, h => by
  have h1 := Ax out ws (i + 1) fun x hx => h x (qZa _ hx)
  have h2 := h w (qZb ..)
  unfold ltrsL
  cases out.contains i <;> simp [yw] <;> omega
theorem vd : ∀ (es : List GLe) (fl : List FL) (r : Int) (m : Glm), m ∈ (mkS es fl r).1 → ∃ f ∈ fl, f.2.1 = m.sign
 | es, [], r, m, h => by cases es <;> simp [mkS] at h
 | [], f :: fl, r, m, h => by simp [mkS] at h
 | e :: es, f :: fl, r, m, h => by
  by_cases he : e = f.1
  ·rw [yu he] at h
   rcases List.mem_cons.1 h with rfl | h
   ·exact ⟨f, qZb .., rfl⟩
   ·obtain ⟨g, hg, h2⟩ := vd es fl (r + 1) m h
    exact ⟨g, qZa _ hg, h2⟩
  ·rw [yv he] at h
   rcases List.mem_cons.1 h with rfl | h
   ·exact ⟨f, qZb .., rfl⟩
   ·obtain ⟨g, hg, h2⟩ := vd (e :: es) fl r m h
    exact ⟨g, qZa _ hg, h2⟩
theorem vf : ∀ (es : List GLe) (fl : List FL) (r : Int), AL es fl → (mkS es fl r).1.length = fl.length
 | [], [], r, _ => by simp [mkS]
 | [], _ :: _, _, h => h.elim
 | _ :: _, [], _, h => h.elim
 | e :: es, f :: fl, r, h => by
  unfold AL at h
  by_cases he : e = f.1
  ·rw [if_pos he] at h
   rw [yu he]
   simp [vf es fl (r + 1) h]
  ·rw [if_neg he] at h
   rw [yv he]
   simp [vf (e :: es) fl r h]
theorem vg : ∀ (es : List GLe) (fl : List FL) (r : Int), AL es fl → ∀ j : Int, r ≤ j → j < r + es.length → ∃ m ∈ (mkS es fl r).1, m.row = j
 | [], _, r, _, j, h1, h2 => by simp at h2; omega
 | _ :: _, [], _, h, _, _, _ => h.elim
 | e :: es, f :: fl, r, h, j, h1, h2 => by
  simp only [List.length_cons] at h2
  unfold AL at h
  by_cases he : e = f.1
  ·rw [if_pos he] at h
   rw [yu he]
   by_cases hj : j = r
   ·exact ⟨_, qZb .., hj.symm⟩
   ·obtain ⟨m, hm, h3⟩ := vg es fl (r + 1) h j (by omega) (by omega)
    exact ⟨m, qZa _ hm, h3⟩
  ·rw [if_neg he] at h
   rw [yv he]
   obtain ⟨m, hm, h3⟩ := vg (e :: es) fl r h j h1 (by simp only [List.length_cons]; omega)
   exact ⟨m, qZa _ hm, h3⟩
def marksOf (s : GLs) (x : GLx) : List Glm := (mkS x.Ends (ltrsL x.Out s.Words 0) 0).1
variable {s : GLs} {x : GLx}
theorem Ke (h : Sh s) (hs : IsS (possL x.Out s.Words 0) x.Ends) : AL x.Ends (ltrsL x.Out s.Words 0) :=
 AL_of _ _ hs.1 (tR _ _ _) (fun e he => yy _ _ _ (fun w hw => ⟨(h.wlen w hw).1, (h.wcut w hw).2.1⟩) e (hs.2.1 e he)) (by rw [hs.2.2, y8 _ _ _ fun w hw => (h.wlen w hw).1])
variable {k : Int}
theorem Kf (h : Sh s) (ho : lenOk x.Out = true) (hs : IsS (possL x.Out s.Words 0) x.Ends) (h0 : 0 ≤ k) (h1 : k ≤ 10) : ∃ l, t9 s x k = some l ∧ LOk l ∧ l.ls = s ∧ l.lx = x ∧ l.stretch = k ∧ l.marks = marksOf s x := by
 have hal := Ke h hs
 have hw := h.nw
 have hp := h.npair
 have hl := Ax x.Out s.Words 0 fun w hw => (h.wlen w hw).2
 have he := vc _ _ hal
 obtain ⟨m, hm, hmo⟩ := yr s.Pairs 0 [] (fun _ _ => none) (fun l r => ⟨rfl, fun v hv => by cases hv⟩)
 have h2 := tQ x ho (by omega) s.Words 0 0 [] x.Ends (fun w hw => (h.wlen w hw).2) (qZf _) (by omega) rfl hal (by simp; omega)
 refine ⟨_, by simp only [t9]; rw [kH (by omega), cond_true, hm, my, kH (by omega), cond_true, h2, my], ⟨h, hmo, fun q hq => ?_, ?_, by simp only; omega, ?_, h0, h1⟩, rfl, rfl, rfl, by simp [marksOf]⟩
 ·rw [List.nil_append] at hq
  obtain ⟨f, hf, e⟩ := vd _ _ _ _ hq
  obtain ⟨_, w, hw, hc⟩ := CF hf
  have := h.wsign w hw _ hc
  rw [e] at this
  exact this
 ·simp only [List.nil_append]
  rw [vf _ _ _ hal]
  omega
 ·intro j a b
  simp only [List.nil_append]
  exact vg _ _ 0 hal j a (by simpa using b)
theorem Kg {l : Gld} (h : LOk l) (h0 : 0 ≤ k) (h1 : k ≤ 10) : LOk (setS l k) := ⟨h.sh, h.mp, h.sg, h.nm, h.ne, h.rw, h0, h1⟩
theorem Kh {l : Gld} (h : LOk l) {k' : Int} (h0 : 0 ≤ k) (hk : k ≤ k') (h1 : k' ≤ 10) (hf : fitB l k' = true) : fitB l k = true := by
 unfold fitB at hf ⊢
 simp only [Bool.and_eq_true, F9] at hf ⊢
 exact ⟨fun j a b => qZl (RO h.sh h0 hk h1 j l.marks) (hf.1 j a b), hf.2⟩
theorem Ay {l : Gld} (h : LOk l) : ∀ (m i : Nat) (acc : Option Gld), i + m = 11 → (∀ j : Nat, j < i → fitB l (j : Int) = true) → (acc = if i = 0 then none else some (setS l ((i : Int) - 1))) →
  ∃ w, wLoop l m i acc = some w ∧ ((w = none ∧ fitB l 0 = false) ∨ ∃ K : Nat, K ≤ 10 ∧ w = some (setS l (K : Int)) ∧ ∀ j : Nat, j ≤ 10 → fitB l (j : Int) = decide (j ≤ K))
 | 0, i, acc, hi, hj, ha => by
  refine ⟨acc, rfl, .inr ⟨10, qZg _, ?_, fun j hj' => ?_⟩⟩
  ·rw [ha, if_neg (by omega)]
   congr 2
   omega
  ·rw [hj j (by omega), decide_eq_true hj']
 | m + 1, i, acc, hi, hj, ha => by
  have hl := Kg h (k := (i : Int)) (by omega) (by omega)
  have hf : ub (setS l (i : Int)) = some (fitB l (i : Int)) := FA hl
  simp only [wLoop, hf, Option.bind_some]
  cases hb : fitB l (i : Int) with
  | true =>
   simp only [cond_true]
   refine Ay h m (i + 1) _ (by omega) (fun j h2 => ?_) ?_
   ·by_cases hji : j = i
    ·rw [hji]; exact hb
    ·exact hj j (by omega)
   ·rw [if_neg (by omega)]
    congr 2
    omega
  | false =>
   simp only [cond_false]
   refine ⟨acc, rfl, ?_⟩
   by_cases h0 : i = 0
   ·subst h0
    exact .inl ⟨by rw [ha, if_pos rfl], hb⟩
   ·right
    refine ⟨i - 1, by omega, ?_, fun j hj' => ?_⟩
    ·rw [ha, if_neg h0]
     congr 2
     omega
    ·by_cases hji : j ≤ i - 1
     ·rw [decide_eq_true hji]; exact hj j (by omega)
     ·rw [decide_eq_false hji]
      cases hc : fitB l (j : Int) with
      | false => rfl
      | true =>
       have := Kh h (k := (i : Int)) (k' := (j : Int)) (by omega) (by omega) (by omega) hc
       rw [this] at hb
       cases hb
def fitS (s : GLs) (x : GLx) (k : Int) : Bool := rowsOk s k (marksOf s x) x.Ends.length 0 && decide ((x.Ends.length : Int) ≤ s.Rows)
def MostS (s : GLs) (x : GLx) : Option Nat → Prop
 | none => fitS s x 0 = false
 | some K => K ≤ 10 ∧ ∀ j : Nat, j ≤ 10 → fitS s x (j : Int) = decide (j ≤ K)
theorem Tp (h : Sh s) (ho : lenOk x.Out = true) (hs : IsS (possL x.Out s.Words 0) x.Ends) : ∃ l w o, t9 s x 0 = some l ∧ CN l = some w ∧ MostS s x o ∧ (w = o.map fun K => setS l (K : Int)) ∧ l.ls = s ∧ l.lx = x ∧ LOk l := by
 obtain ⟨l, h1, h2, h3, h4, h5, h6⟩ := Kf h ho hs (k := 0) (qZf _) (by omega)
 obtain ⟨w, q1, q2⟩ := Ay h2 11 0 none rfl (fun j hj => by omega) rfl
 have e : ∀ k, fitB l k = fitS s x k := fun k => by unfold fitB fitS; rw [h3, h4, h6]
 rcases q2 with ⟨rfl, q2⟩ | ⟨K, k1, rfl, q2⟩
 ·exact ⟨l, none, none, h1, q1, by rw [e] at q2; exact q2, rfl, h3, h4, h2⟩
 ·exact ⟨l, _, some K, h1, q1, ⟨k1, fun j hj => by rw [← e]; exact q2 j hj⟩, rfl, h3, h4, h2⟩
theorem Tq : ∀ (p : List GLw) (i : Int), ∃ r, xh p i = some r ∧ (∀ k c, r ≠ .brk k c)
 | [], _ => ⟨_, rfl, by intro _ _ h; cases h⟩
 | e :: p, i => by
  obtain ⟨r, hr, h⟩ := Tq p (i + 1)
  simp only [xh, hr]
  cases decide (i < 6)
  ·exact ⟨_, rfl, by intro _ _ h; cases h⟩
  ·cases decide ((e.Signs.length : Int) > 8)
   ·cases decide ((e.Cuts.length : Int) > 8)
    ·exact ⟨_, rfl, h⟩
    ·exact ⟨_, rfl, by intro _ _ h; cases h⟩
   ·exact ⟨_, rfl, by intro _ _ h; cases h⟩
theorem Ki (s : GLs) (h : lenOk s.Words = true) : ∃ b, zK s = some b := by
 obtain ⟨r, hr, hk⟩ := Tq s.Words 0
 simp only [zK, h, cond_true, hr]
 match r, hk with
 | .ret b, _ => exact ⟨_, rfl⟩
 | .go _, _ =>
  simp only [lbind]
  cases decide ((s.Widths.length : Int) ≤ 8)
  ·exact ⟨_, rfl⟩
  ·cases decide ((s.Pairs.length : Int) ≤ 8)
   ·exact ⟨_, rfl⟩
   ·exact ⟨_, rfl⟩
 | .brk k c, hk => exact absurd rfl (hk k c)
structure Good (s : GLs) (x : GLx) : Prop where
 fine : FineS s
 sheet : sheetB s = true
 out : outB s x.Out = true
 ends : IsS (possL x.Out s.Words 0) x.Ends
 lo : lenOk x.Out = true
 le : lenOk x.Ends = true
theorem hmix : prog.follows .mixedOrders = true := by kernel_rfl
def kA : VV := (VV.agg [(VV.sl [(.lit (.int .i64 (.ofNat 6))), (.lit (.int .i64 (.ofNat 4))), (.lit (.int .i64 (.ofNat 8)))] 3 Bool.false), (VV.sl [(.lit (.int .i64 (.ofNat 0))), (.lit (.int .i64 (.ofNat 1))), (.lit (.int .i64 (.ofNat 1))), (.lit (.int .i64 (.ofNat 3))), (.lit (.int .i64 (.ofNat 2))), (.lit (.int .i64 (.ofNat 0))), (.lit (.int .i64 (.ofNat 0))), (.lit (.int .i64 (.ofNat 2)))] 2 Bool.false), (.lit (.int .i64 (.ofNat 2))), (.lit (.int .i64 (.ofNat 4))), (.lit (.int .i64 (.ofNat 5))), (.lit (.int .i64 (.ofNat 8))), (.lit (.int .i64 (.ofNat 3))), (VV.sl [(VV.sl [(.lit (.int .i64 (.ofNat 2))), (.lit (.int .i64 (.ofNat 0))), (.lit (.int .i64 (.ofNat 1)))] 3 Bool.false), (VV.lit (Value.slice Option.none 0 0)), (VV.lit (Value.bool Bool.false)), (VV.sl [(.lit (.int .i64 (.ofNat 0))), (.lit (.int .i64 (.ofNat 2)))] 2 Bool.false), (VV.sl [(.lit (.int .i64 (.ofNat 1)))] 1 Bool.false), (VV.lit (Value.bool Bool.true))] 2 Bool.false), (.lit (.int .i64 (.ofNat 21))), (.lit (.int .i64 (.ofNat 2)))])
def kX : VV := (VV.agg [(VV.lit (Value.slice Option.none 0 0)), (VV.sl [(.lit (.int .i64 (.ofNat 0))), (.lit (.int .i64 (.ofNat 3))), (.lit (.int .i64 (.ofNat 1))), (.lit (.int .i64 (.ofNat 2)))] 2 Bool.false)])
def kY : VV := (VV.agg [(VV.lit (Value.slice Option.none 0 0)), (VV.sl [(.lit (.int .i64 (.ofNat 1))), (.lit (.int .i64 (.ofNat 1))), (.lit (.int .i64 (.ofNat 1))), (.lit (.int .i64 (.ofNat 2)))] 2 Bool.false)])
def kB : VV := (VV.agg [(VV.sl [(.lit (.int .i64 (.ofNat 6))), (.lit (.int .i64 (.ofNat 4))), (.lit (.int .i64 (.ofNat 8)))] 3 Bool.false), (VV.sl [(.lit (.int .i64 (.ofNat 0))), (.lit (.int .i64 (.ofNat 1))), (.lit (.int .i64 (.ofNat 1))), (.lit (.int .i64 (.ofNat 3))), (.lit (.int .i64 (.ofNat 2))), (.lit (.int .i64 (.ofNat 0))), (.lit (.int .i64 (.ofNat 0))), (.lit (.int .i64 (.ofNat 2)))] 2 Bool.false), (.lit (.int .i64 (.ofNat 2))), (.lit (.int .i64 (.ofNat 4))), (.lit (.int .i64 (.ofNat 5))), (.lit (.int .i64 (.ofNat 8))), (.lit (.int .i64 (.ofNat 3))), (VV.sl [(VV.sl [(.lit (.int .i64 (.ofNat 2))), (.lit (.int .i64 (.ofNat 0))), (.lit (.int .i64 (.ofNat 1)))] 3 Bool.false), (VV.lit (Value.slice Option.none 0 0)), (VV.lit (Value.bool Bool.false)), (VV.sl [(.lit (.int .i64 (.ofNat 0))), (.lit (.int .i64 (.ofNat 2)))] 2 Bool.false), (VV.sl [(.lit (.int .i64 (.ofNat 1)))] 1 Bool.false), (VV.lit (Value.bool Bool.true))] 2 Bool.false), (.lit (.int .i64 (.ofNat 18))), (.lit (.int .i64 (.ofNat 2)))])
def kC : VV := (VV.agg [(VV.sl [(.lit (.int .i64 (.ofNat 6))), (.lit (.int .i64 (.ofNat 4))), (.lit (.int .i64 (.ofNat 8)))] 3 Bool.false), (VV.sl [(.lit (.int .i64 (.ofNat 0))), (.lit (.int .i64 (.ofNat 1))), (.lit (.int .i64 (.ofNat 1))), (.lit (.int .i64 (.ofNat 3))), (.lit (.int .i64 (.ofNat 2))), (.lit (.int .i64 (.ofNat 0))), (.lit (.int .i64 (.ofNat 0))), (.lit (.int .i64 (.ofNat 2)))] 2 Bool.false), (.lit (.int .i64 (.ofNat 2))), (.lit (.int .i64 (.ofNat 4))), (.lit (.int .i64 (.ofNat 5))), (.lit (.int .i64 (.ofNat 8))), (.lit (.int .i64 (.ofNat 3))), (VV.sl [(VV.sl [(.lit (.int .i64 (.ofNat 2))), (.lit (.int .i64 (.ofNat 0))), (.lit (.int .i64 (.ofNat 1)))] 3 Bool.false), (VV.lit (Value.slice Option.none 0 0)), (VV.lit (Value.bool Bool.false)), (VV.sl [(.lit (.int .i64 (.ofNat 0))), (.lit (.int .i64 (.ofNat 2)))] 2 Bool.false), (VV.sl [(.lit (.int .i64 (.ofNat 1)))] 1 Bool.false), (VV.lit (Value.bool Bool.true))] 2 Bool.false), (.lit (.int .i64 (.ofNat 21))), (.lit (.int .i64 (.ofNat 1)))])
def kD : VV := (VV.agg [(VV.sl [(.lit (.int .i64 (.ofNat 6))), (.lit (.int .i64 (.ofNat 4))), (.lit (.int .i64 (.ofNat 8)))] 3 Bool.false), (VV.sl [(.lit (.int .i64 (.ofNat 0))), (.lit (.int .i64 (.ofNat 1))), (.lit (.int .i64 (.ofNat 1))), (.lit (.int .i64 (.ofNat 3))), (.lit (.int .i64 (.ofNat 2))), (.lit (.int .i64 (.ofNat 0))), (.lit (.int .i64 (.ofNat 0))), (.lit (.int .i64 (.ofNat 2)))] 2 Bool.false), (.lit (.int .i64 (.ofNat 2))), (.lit (.int .i64 (.ofNat 4))), (.lit (.int .i64 (.ofNat 5))), (.lit (.int .i64 (.ofNat 8))), (.lit (.int .i64 (.ofNat 3))), (VV.sl [(VV.sl [(.lit (.int .i64 (.ofNat 2))), (.lit (.int .i64 (.ofNat 0))), (.lit (.int .i64 (.ofNat 1)))] 3 Bool.false), (VV.lit (Value.slice Option.none 0 0)), (VV.lit (Value.bool Bool.false)), (VV.sl [(.lit (.int .i64 (.ofNat 0))), (.lit (.int .i64 (.ofNat 1)))] 2 Bool.false), (VV.sl [(.lit (.int .i64 (.ofNat 1)))] 1 Bool.false), (VV.lit (Value.bool Bool.true))] 2 Bool.false), (.lit (.int .i64 (.ofNat 21))), (.lit (.int .i64 (.ofNat 2)))])
def kWidths : VV := (VV.tup [(VV.sl [(.lit (.int .i64 (.ofNat 35))), (.lit (.int .i64 (.ofNat 8)))] 2 Bool.false), (.lit (.int .i64 (.ofNat 0)))])
def kFits : VV := (VV.tup [(VV.lit (Value.bool Bool.true)), (.lit (.int .i64 (.ofNat 0)))])
def kStretch : VV := (VV.tup [(.lit (.int .i64 (.ofNat 9))), (.lit (.int .i64 (.ofNat 0)))])
def kPlaces : VV := (VV.tup [(VV.sl [(VV.sl [(.lit (.int .i64 (.ofNat 0))), (.lit (.int .i64 (.ofNat 9))), (.lit (.int .i64 (.ofNat 17)))] 3 Bool.false), (VV.sl [(.lit (.int .i64 (.ofNat 0))), (.lit (.int .i64 (.ofNat 9)))] 2 Bool.false)] 2 Bool.false), (.lit (.int .i64 (.ofNat 0)))])
def kRows : VV := (VV.tup [(.lit (.int .i64 (.ofNat 2))), (.lit (.int .i64 (.ofNat 0)))])
def kSet : VV := (VV.tup [(VV.agg [(VV.lit (Value.slice Option.none 0 0)), (VV.sl [(.lit (.int .i64 (.ofNat 0))), (.lit (.int .i64 (.ofNat 3))), (.lit (.int .i64 (.ofNat 1))), (.lit (.int .i64 (.ofNat 2)))] 2 Bool.false)]), (.lit (.int .i64 (.ofNat 9))), (.lit (.int .i64 (.ofNat 0)))])
def kCount : VV := (VV.tup [(.lit (.int .i64 (.ofNat 1))), (.lit (.int .i64 (.ofNat 0)))])
def kNarrow : VV := (VV.tup [(.lit (.int .i64 (.ofNat 40))), (.lit (.int .i64 (.ofNat 0)))])
def kDrop : VV := (VV.tup [(VV.sl [(.lit (.int .i64 (.ofNat 1)))] 1 Bool.false), (.lit (.int .i64 (.ofNat 0)))])
def kOver : VV := (VV.tup [(.lit (.int .i64 (.ofNat 3))), (.lit (.int .i64 (.ofNat 0)))])
def kAlike : VV := (VV.tup [(.lit (.int .i64 (.ofNat 0))), (.lit (.int .i64 (.ofNat 1))), (.lit (.int .i64 (.ofNat 0)))])
def kRead : VV := (VV.tup [(VV.agg [(VV.sl [(.lit (.int .i64 (.ofNat 1)))] 1 Bool.false), (VV.lit (Value.slice Option.none 0 0)), (.lit (.int .i64 (.ofNat 0))), (.lit (.int .i64 (.ofNat 0))), (.lit (.int .i64 (.ofNat 0))), (.lit (.int .i64 (.ofNat 0))), (.lit (.int .i64 (.ofNat 1))), (VV.sl [(VV.sl [(.lit (.int .i64 (.ofNat 0)))] 1 Bool.false), (VV.lit (Value.slice Option.none 0 0)), (VV.lit (Value.bool Bool.false))] 1 Bool.false), (.lit (.int .i64 (.ofNat 1))), (.lit (.int .i64 (.ofNat 1)))]), (.lit (.int .i64 (.ofNat 0)))])
theorem pA : ah prog G0 59 [] (.tree kA) := ah.closedT (tab := []) hmix trivial 1000 (by kernel_rfl)
theorem pX : ah prog G0 61 [] (.tree kX) := ah.closedT (tab := []) hmix trivial 1000 (by kernel_rfl)
theorem pY : ah prog G0 60 [] (.tree kY) := ah.closedT (tab := []) hmix trivial 1000 (by kernel_rfl)
theorem pB : ah prog G0 63 [] (.tree kB) := ah.closedT (tab := []) hmix trivial 1000 (by kernel_rfl)
theorem pC : ah prog G0 62 [] (.tree kC) := ah.closedT (tab := []) hmix trivial 1000 (by kernel_rfl)
theorem pD : ah prog G0 65 [] (.tree kD) := ah.closedT (tab := []) hmix trivial 1000 (by kernel_rfl)
theorem pWidths : ah prog G0 21 [kA, kY, .lit (.int .i64 (0))] (.tree kWidths) := ah.closedT (tab := []) hmix trivial 1000 (by kernel_rfl)
theorem pFits : ah prog G0 31 [kA, kX, .lit (.int .i64 (9))] (.tree kFits) := ah.closedT (tab := []) hmix trivial 1000 (by kernel_rfl)
theorem pStretch : ah prog G0 32 [kA, kX] (.tree kStretch) := ah.closedT (tab := []) hmix trivial 1000 (by kernel_rfl)
theorem pPlaces : ah prog G0 28 [kA, kX, .lit (.int .i64 (9))] (.tree kPlaces) := ah.closedT (tab := []) hmix trivial 1000 (by kernel_rfl)
theorem pRows : ah prog G0 37 [kA] (.tree kRows) := ah.closedT (tab := []) hmix trivial 1000 (by kernel_rfl)
theorem pSet : ah prog G0 38 [kA] (.tree kSet) := ah.closedT (tab := []) hmix trivial 1000 (by kernel_rfl)
theorem pCount : ah prog G0 43 [kA] (.tree kCount) := ah.closedT (tab := []) hmix trivial 1000 (by kernel_rfl)
theorem pNarrow : ah prog G0 44 [kC] (.tree kNarrow) := ah.closedT (tab := []) hmix trivial 1000 (by kernel_rfl)
theorem pDrop : ah prog G0 48 [kC] (.tree kDrop) := ah.closedT (tab := []) hmix trivial 1000 (by kernel_rfl)
theorem pOver : ah prog G0 53 [kB] (.tree kOver) := ah.closedT (tab := []) hmix trivial 1000 (by kernel_rfl)
theorem pAlike : ah prog G0 64 [kD] (.tree kAlike) := ah.closedT (tab := []) hmix trivial 1000 (by kernel_rfl)
theorem pRead : ah prog G0 66 [.lit (.string ⟨⟨[102, 114, 111, 110, 116, 32, 49, 32, 49, 10, 115, 112, 97, 99, 101, 115, 32, 48, 32, 48, 32, 48, 32, 48, 32, 49, 10, 115, 105, 103, 110, 32, 49, 10, 119, 111, 114, 100, 32, 110, 111, 32, 48, 32, 45, 10, 101, 110, 100, 32, 48, 57, 56, 10]⟩⟩)] (.tree kRead) := ah.closedT (tab := []) hmix trivial 1000 (by kernel_rfl)
def kTab : KTab := [
  (59, [], kA),
  (61, [], kX),
  (60, [], kY),
  (63, [], kB),
  (62, [], kC),
  (65, [], kD),
  (21, [kA, kY, .lit (.int .i64 (0))], kWidths),
  (31, [kA, kX, .lit (.int .i64 (9))], kFits),
  (32, [kA, kX], kStretch),
  (28, [kA, kX, .lit (.int .i64 (9))], kPlaces),
  (37, [kA], kRows),
  (38, [kA], kSet),
  (43, [kA], kCount),
  (44, [kC], kNarrow),
  (48, [kC], kDrop),
  (53, [kB], kOver),
  (64, [kD], kAlike),
  (66, [.lit (.string ⟨⟨[102, 114, 111, 110, 116, 32, 49, 32, 49, 10, 115, 112, 97, 99, 101, 115, 32, 48, 32, 48, 32, 48, 32, 48, 32, 49, 10, 115, 105, 103, 110, 32, 49, 10, 119, 111, 114, 100, 32, 110, 111, 32, 48, 32, 45, 10, 101, 110, 100, 32, 48, 57, 56, 10]⟩⟩)], kRead)]
theorem kTabOk : KTabOk prog G0 kTab := ⟨⟨by kernel_rfl, pA⟩, ⟨⟨by kernel_rfl, pX⟩, ⟨⟨by kernel_rfl, pY⟩, ⟨⟨by kernel_rfl, pB⟩, ⟨⟨by kernel_rfl, pC⟩, ⟨⟨by kernel_rfl, pD⟩, ⟨⟨by kernel_rfl, pWidths⟩, ⟨⟨by kernel_rfl, pFits⟩, ⟨⟨by kernel_rfl, pStretch⟩, ⟨⟨by kernel_rfl, pPlaces⟩, ⟨⟨by kernel_rfl, pRows⟩, ⟨⟨by kernel_rfl, pSet⟩, ⟨⟨by kernel_rfl, pCount⟩, ⟨⟨by kernel_rfl, pNarrow⟩, ⟨⟨by kernel_rfl, pDrop⟩, ⟨⟨by kernel_rfl, pOver⟩, ⟨⟨by kernel_rfl, pAlike⟩, ⟨⟨by kernel_rfl, pRead⟩, trivial⟩⟩⟩⟩⟩⟩⟩⟩⟩⟩⟩⟩⟩⟩⟩⟩⟩⟩
theorem pKnown : ah prog G0 19 [] (.tree (.lit (.bool true))) := ah.closedT hmix kTabOk 1000 (by kernel_rfl)
#print axioms pKnown
theorem mJ : ah prog G0 19 [] (.tree (.lit (.bool true))) := pKnown









def upTo (e : GLe) : List FL → List FL × List FL
 | [] => ([], [])
 | f :: fl => if e = f.1 then ([f], fl) else (f :: (upTo e fl).1, (upTo e fl).2)
def segs : List GLe → List FL → List (List FL)
 | [], _ => []
 | e :: es, fl => (upTo e fl).1 :: segs es (upTo e fl).2



def goG (f : List GLe → List (List GLe)) : List GLe → List (List GLe)
 | [] => []
 | e :: q => (f q).map (e :: ·) ++ goG f q
def gs (z : GLe) : Nat → List GLe → List (List GLe)
 | 0, _ => [[z]]
 | d + 1, q => goG (gs z d) q ++ [[z]]
theorem Az {init : List GLe} {z : GLe} {rows : Int} : ∀ (n d : Nat) (p : List GLe) (fr : Nat), d < n → (rows = p.length + 1 + d ∨ d = 0 ∧ rows ≤ p.length + 1) → fr ≤ init.length → stgO (init ++ [z]) init.length rows n p fr = some ((gs z d (init.drop fr)).map (p ++ ·))
 | 0, d, p, fr, h, _, _ => by omega
 | n + 1, 0, p, fr, h, hr, hf => by
  have hz : (init ++ [z])[init.length]? = some z := by simp
  rw [stgO, if_neg (by omega), hz]
  rfl
 | n + 1, d + 1, p, fr, h, hr, hf => by
  have hz : (init ++ [z])[init.length]? = some z := by simp
  have hr' : rows = p.length + 1 + (d + 1 : Nat) := by omega
  have hg : ∀ m i, i + m = init.length → goStg (stgO (init ++ [z]) init.length rows n) (init ++ [z]) p m i = some ((goG (gs z d) (init.drop i)).map (p ++ ·)) := by
   intro m
   induction m with
   | zero =>
    intro i hi
    rw [List.drop_eq_nil_of_le (by omega)]
    rfl
   | succ m ih =>
    intro i hi
    have hl : i < init.length := by omega
    have hgi : (init ++ [z])[i]? = some init[i] := by
     rw [List.getElem?_append_left hl]
     exact qZi hl
    rw [goStg, hgi, Option.bind_some, Az n d (p ++ [init[i]]) (i + 1) (by omega) (by simp; omega) (by omega), Option.bind_some, ih (i + 1) (by omega), Option.bind_some, List.drop_eq_getElem_cons hl, goG, List.map_append, List.map_map]
    simp [Function.comp_def]
  rw [stgO, if_pos (by omega), hg _ _ (by omega), Option.bind_some, hz, Option.bind_some, gs, List.map_append]
  rfl
theorem Dy {f : List GLe → List (List GLe)} {y : List GLe} : ∀ (q : List GLe), y ∈ goG f q ↔ ∃ a e b, q = a ++ e :: b ∧ ∃ y' ∈ f b, y = e :: y'
 | [] => by simp [goG]
 | x :: q => by
  simp only [goG, List.mem_append, List.mem_map, Dy q]
  constructor
  ·rintro (⟨y', h1, rfl⟩ | ⟨a, e, b, rfl, h⟩)
   ·exact ⟨[], x, q, rfl, y', h1, rfl⟩
   ·exact ⟨x :: a, e, b, rfl, h⟩
  ·rintro ⟨a, e, b, h1, y', h2, rfl⟩
   cases a with
   | nil =>
    simp only [List.nil_append, List.cons.injEq] at h1
    obtain ⟨rfl, rfl⟩ := h1
    exact .inl ⟨y', h2, rfl⟩
   | cons c a =>
    simp only [List.cons_append, List.cons.injEq] at h1
    obtain ⟨rfl, rfl⟩ := h1
    exact .inr ⟨a, e, b, rfl, y', h2, rfl⟩
theorem rK {z : GLe} : ∀ (d : Nat) (q : List GLe) (y : List GLe), y ∈ gs z d q ↔ ∃ u, y = u ++ [z] ∧ u.Sublist q ∧ u.length ≤ d
 | 0, q, y => by
  simp only [gs, List.mem_singleton]
  constructor
  ·rintro rfl; exact ⟨[], rfl, List.nil_sublist _, qZg _⟩
  ·rintro ⟨u, rfl, _, h⟩
   have := List.length_eq_zero_iff.1 (Nat.le_zero.1 h)
   rw [this]; rfl
 | d + 1, q, y => by
  simp only [gs, List.mem_append, List.mem_singleton, Dy]
  constructor
  ·rintro (⟨a, e, b, rfl, y', h, rfl⟩ | rfl)
   ·obtain ⟨u, rfl, h1, h2⟩ := (rK d b y').1 h
    exact ⟨e :: u, rfl, (List.Sublist.cons_cons e h1).trans (List.sublist_append_right _ _), by simp; omega⟩
   ·exact ⟨[], rfl, List.nil_sublist _, Nat.zero_le _⟩
  ·rintro ⟨u, rfl, h1, h2⟩
   cases u with
   | nil => exact .inr rfl
   | cons e u =>
    left
    have : ∀ {q : List GLe}, (e :: u).Sublist q → ∃ a b, q = a ++ e :: b ∧ u.Sublist b := by
     intro q hq
     induction q with
     | nil => cases hq
     | cons x q ih =>
      cases hq with
      | cons _ h =>
       obtain ⟨a, b, rfl, h3⟩ := ih h
       exact ⟨x :: a, b, rfl, h3⟩
      | cons_cons _ h => exact ⟨[], q, rfl, h⟩
    obtain ⟨a, b, rfl, h3⟩ := this h1
    simp only [List.length_cons] at h2
    exact ⟨a, e, b, rfl, u ++ [z], (rK d b _).2 ⟨u, rfl, h3, by omega⟩, rfl⟩
def lexb : List GLe → List GLe → Prop
 | a :: x, b :: y => befE a b ∨ a = b ∧ lexb x y
 | _, _ => False
def ordE (x y : List GLe) : Prop := x ≠ y ∧ (x.length = y.length → lexb x y)
theorem AA {z : GLe} : ∀ (d : Nat) (q : List GLe), q.Pairwise befE → (gs z d q).Pairwise ordE
 | 0, q, _ => List.pairwise_singleton _ _
 | d + 1, q, h => by
  have hg : ∀ q : List GLe, q.Pairwise befE → (goG (gs z d) q).Pairwise ordE := by
   intro q
   induction q with
   | nil => intro _; exact List.Pairwise.nil
   | cons e q ih =>
    intro hq
    obtain ⟨h1, h2⟩ := List.pairwise_cons.1 hq
    rw [goG, List.pairwise_append]
    refine ⟨?_, ih h2, ?_⟩
    ·rw [List.pairwise_map]
     refine (AA d q h2).imp fun {a b} hab => ⟨fun hh => hab.1 (List.cons.inj hh).2, fun hl => ?_⟩
     unfold lexb
     exact .inr ⟨rfl, hab.2 (by simpa using hl)⟩
    ·intro x hx y hy
     obtain ⟨x', _, rfl⟩ := List.mem_map.1 hx
     obtain ⟨a, e', b, rfl, y', _, rfl⟩ := (Dy q).1 hy
     have hb : befE e e' := h1 e' (by simp)
     refine ⟨fun hh => ?_, fun _ => ?_⟩
     ·rw [(List.cons.inj hh).1] at hb; exact nX hb
     ·unfold lexb; exact .inl hb
  rw [gs, List.pairwise_append]
  refine ⟨hg q h, List.pairwise_singleton _ _, fun x hx y hy => ?_⟩
  obtain ⟨a, e, b, _, y', hy', rfl⟩ := (Dy q).1 hx
  obtain ⟨u, rfl, _, _⟩ := (rK d b y').1 hy'
  rw [List.mem_singleton.1 hy]
  have hl : (e :: (u ++ [z])).length ≠ [z].length := by simp
  exact ⟨fun hh => hl (by rw [hh]), fun hh => (hl hh).elim⟩
theorem Kj : ∀ (q u : List GLe), q.Pairwise befE → u.Pairwise befE → (∀ e ∈ u, e ∈ q) → u.Sublist q
 | [], [], _, _, _ => List.nil_sublist _
 | [], e :: u, _, _, h => by cases h e (qZb ..)
 | x :: q, [], _, _, _ => List.nil_sublist _
 | x :: q, e :: u, hq, hu, h => by
  obtain ⟨q1, q2⟩ := List.pairwise_cons.1 hq
  obtain ⟨u1, u2⟩ := List.pairwise_cons.1 hu
  rcases List.mem_cons.1 (h e (qZb ..)) with rfl | he
  ·refine List.Sublist.cons_cons _ (Kj q u q2 u2 fun g hg => ?_)
   rcases List.mem_cons.1 (h g (qZa _ hg)) with rfl | h'
   ·exact (nX (u1 _ hg)).elim
   ·exact h'
  ·refine List.Sublist.cons _ (Kj q (e :: u) q2 hu fun g hg => ?_)
   rcases List.mem_cons.1 (h g hg) with rfl | h'
   ·rcases List.mem_cons.1 hg with rfl | hg
    ·exact he
    ·exact (nX (tS (u1 _ hg) (q1 _ he))).elim
   ·exact h'
variable {out : List Int}
theorem Kk (h : Sh s) (ho : outB s out = true) (hl : lenOk out = true) (hn : out.length < 1000000) : ∃ L, vb s out = some L ∧ (∀ y, y ∈ L ↔ IsS (possL out s.Words 0) y ∧ (y.length : Int) ≤ s.Rows) ∧ L.Pairwise ordE ∧ L.length ≤ 277 := by
 have hne := Jt (s := s) ho
 have hp := zX h out
 have bn := zY h out
 have hr := h.rows
 obtain ⟨init, z, hz⟩ : ∃ init z, possL out s.Words 0 = init ++ [z] := ⟨_, _, (List.dropLast_concat_getLast hne).symm⟩
 rw [show poss s out = possL out s.Words 0 from rfl] at hp
 rw [hz] at hp bn
 obtain ⟨p1, p2, p3⟩ := List.pairwise_append.1 hp
 simp only [List.length_append, List.length_singleton] at bn
 have hd : ∃ d : Nat, s.Rows = ((d : Nat) : Int) + 1 ∧ d ≤ 2 := ⟨(s.Rows - 1).toNat, by omega, by omega⟩
 obtain ⟨d, hd, mB⟩ := hd
 refine ⟨gs z d init, ?_, ?_, AA d init p1, ?_⟩
 ·simp only [vb, zV h out hl, Option.bind_some]
  rw [hz, if_pos ⟨by simp; omega, hn⟩, show (init ++ [z]).length - 1 = init.length by simp, Az 5 d [] 0 (by omega) (by simp; omega) (Nat.zero_le _)]
  simp
 ·intro y
  rw [rK, hz]
  constructor
  ·rintro ⟨u, rfl, h1, h2⟩
   refine ⟨⟨?_, ?_, by simp⟩, by simp; omega⟩
   ·rw [List.pairwise_append]
    exact ⟨p1.sublist h1, List.pairwise_singleton _ _, fun a ha b hb => p3 a (h1.subset ha) b hb⟩
   ·intro e he
    rcases List.mem_append.1 he with he | he
    ·exact List.mem_append_left _ (h1.subset he)
    ·exact List.mem_append_right _ he
  ·rintro ⟨⟨h1, h2, h3⟩, h4⟩
   rw [show (init ++ [z]).getLast? = some z by simp] at h3
   obtain ⟨u, rfl⟩ : ∃ u, y = u ++ [z] := by
    have hyne : y ≠ [] := by rintro rfl; cases h3
    refine ⟨y.dropLast, ?_⟩
    rw [List.getLast?_eq_some_getLast hyne] at h3
    rw [← Option.some.inj h3]
    exact (List.dropLast_concat_getLast hyne).symm
   obtain ⟨u1, u2, u3⟩ := List.pairwise_append.1 h1
   refine ⟨u, rfl, Kj _ _ p1 u1 fun e he => ?_, by simp at h4; omega⟩
   rcases List.mem_append.1 (h2 e (List.mem_append_left _ he)) with h | h
   ·exact h
   ·have := u3 e he z (by simp)
    rw [List.mem_singleton.1 h] at this
    exact (nX this).elim
 ·have gc : ∀ (f : List GLe → List (List GLe)) (e : GLe) (q : List GLe), (goG f (e :: q)).length = (f q).length + (goG f q).length := fun f e q => by simp [goG]
  have gz : ∀ q : List GLe, (gs z 0 q).length = 1 := fun q => rfl
  have gn : ∀ (d : Nat) (q : List GLe), (gs z (d + 1) q).length = (goG (gs z d) q).length + 1 := fun d q => by
   show (goG (gs z d) q ++ [[z]]).length = _
   simp only [List.length_append, List.length_singleton]
  have g0 : ∀ q : List GLe, (goG (gs z 0) q).length = q.length := by
   intro q
   induction q with
   | nil => rfl
   | cons e q ih => rw [gc, gz, ih, List.length_cons]; omega
  have g1 : ∀ q : List GLe, 2 * (goG (gs z 1) q).length = q.length * (q.length + 1) := by
   intro q
   induction q with
   | nil => rfl
   | cons e q ih =>
    rw [gc, gn, g0, Nat.mul_add, ih, List.length_cons]
    generalize q.length = n
    rw [show (n + 1) * (n + 1 + 1) = n * (n + 1) + 2 * (n + 1) by rw [Nat.add_mul, Nat.mul_add, Nat.mul_add]; omega]
    omega
  match d, mB with
  | 0, _ => rw [gz]; omega
  | 1, _ => rw [gn, g0]; omega
  | 2, _ =>
   have := g1 init
   have hm : init.length * (init.length + 1) ≤ 23 * 24 := Nat.mul_le_mul (by omega) (by omega)
   rw [gn]
   omega
abbrev sL (x : Gld) : VV := .agg (cGld x)
def consO {α : Type} : Option α → List α → List α
 | none, r => r
 | some y, r => y :: r
def fitO (s : GLs) (out : List Int) : List (List GLe) → Option (List Gld)
 | [] => some []
 | x :: L => Option.bind (t9 s (GLx.mk out x) 0) fun l => Option.bind (CN l) fun w => Option.bind (fitO s out L) fun r => some (consO w r)
def nC (s : GLs) (out : List Int) : Option (List Gld) := Option.bind (vb s out) fun L => fitO s out L
def itF (s : GLs) (out : List Int) : VV := .fn (.func 123) [] [.tp (cGLs s), .tp [vx eI out]]
theorem Kl : (itF s out).tree = true := by
 have h : tl (cGLs s) = true := eV.tree s
 have h2 : (vx eI out).tree = true := qC
 simp [itF, VV.tree, tl, h, h2]
theorem Km (s : GLs) (out : List Int) : ah prog G0 87 [.agg (cGLs s), vx eI out] (.tree (itF s out)) := by
 refine ah.run mixed call87 func87 rfl (by simp [ntmps87]; kernel_rfl) ?_
 simp only [vz, tyf, seval, ua, rg, vcells1 jh]
 refine ⟨rfl, .fn (.func 123) [] [.ptr 0 0, .ptr 1 0], by simp [results87, resV, resL, aw, upd], 50, ?_⟩
 exact Aw (c1 := cGLs s) (c2 := [vx eI out]) (JY := some 28) (fx := some 22) (by simp only [aQ, seval] <;> rfl) (by simp only [aQ, seval] <;> rfl) (eV.tree s) (by simp [tl, qC]) (by simp [cGLs]) (by simp)
theorem Kn (s : GLs) (out : List Int) (R : List Gld) (h : nC s out = some R) : Iter prog G0 (itF s out) (R.map sL) := by
 unfold nC at h
 rcases hs : vb s out with _ | L
 ·rw [hs] at h; cases h
 rw [hs, Option.bind_some] at h
 have hit := X6 s out L hs
 refine ⟨123, [], _, rfl, fun β I hst hr H nx hβ hI => ?_⟩
 refine aX.run mixed call123 func123 rfl (by simp [ntmps123]; kernel_rfl) ?_
 simp only [List.nil_append, List.cons_append, argsTm3, vz, tyf, seval, ua, rg]
 refine ktreeR ?_ (JZ s out) ?_
 ·simp only [tre, an, qC, Bool.and_self]
 simp only [vz, tyf, seval, ua, rg]
 refine CS (fun tm => tm 9 = itS s out ∧ tm 1 = .tp (cGLs s) ∧ tm 2 = .tp [vx eI out] ∧ tm 3 = .ptr nx 0) (by refine ⟨?_, ?_, ?_, ?_⟩ <;> simp only [ua, seval, Nat.add_zero, tyf]) ?_
 rintro tm ⟨e9, e1, e2, e3⟩
 refine Dz hit (by first | (simp only [gi, gj, e9, fL, seval] <;> rfl) | rfl) ?_
 intro LO hLO
 obtain ⟨J, hJ⟩ : ∃ J : Option (List VV) → Option (List VV) → List (Nat × Vo) → Prop, J = (fun o o' hp => match o with
  | some l => ∃ (p : List (List GLe)) (L2 : List Gld), l = p.map (sSet out) ∧ fitO s out p = some L2 ∧ o' = some (L2.map sL) ∧ hp = [(nx, .cells (some 152) [.yl β]), (nx + 4, .deferred (some [])), (nx + 5, LO)]
  | none => ∃ LD : Code → Vo, (∃ tml ps az bo d, LD = fun c => Vo.loop .done (some c) tml ps az bo d) ∧ o' = none ∧ hp = [(nx, .cells (some 152) [.yl β]), (nx + 4, .deferred (some [])), (nx + 5, LD .ret)]) := ⟨_, rfl⟩
 refine ⟨ownI2 I J, X8 hst, ?_, ?_, ?_⟩
 ·rintro v rest Fr H1 br hFr ⟨hp, o', hown, hj, hi⟩
  rw [hJ] at hj
  obtain ⟨p, L2, hl, hf, rfl, rfl⟩ := hj
  cases p with
  | nil => cases hl
  | cons e p =>
  simp only [List.map_cons, List.cons.injEq] at hl
  obtain ⟨rfl, rfl⟩ := hl
  obtain ⟨la, na, Ha⟩ := hown.head
  obtain ⟨lb, nb, Hb⟩ := hown.tail.head
  obtain ⟨lc, nc, Hc⟩ := hown.tail.tail.head
  have hfr : ∀ γ, (∃ q ∈ [(nx, .cells (some 152) [.yl β]), (nx + 4, .deferred (some [])), (nx + 5, LO)], (q : Nat × Vo).1 = γ) ↔ γ = nx ∨ γ = nx + 4 ∨ γ = nx + 5 := by
   intro γ
   simp [eq_comm]
  simp only [hfr] at hi
  unfold fitO at hf
  rcases eQ : t9 s (GLx.mk out e) 0 with _ | l
  ·rw [eQ] at hf; cases hf
  rw [eQ, Option.bind_some] at hf
  rcases CD : CN l with _ | w
  ·rw [CD] at hf; cases hf
  rw [CD, Option.bind_some] at hf
  rcases D0 : fitO s out p with _ | L3
  ·rw [D0] at hf; cases hf
  rw [D0, Option.bind_some, Option.some.injEq] at hf
  subst hf
  refine D1 mixed (psl := [10]) hLO Hc D2 rfl (by kernel_rfl) (by kernel_rfl) ?_
  intro LB LD hLB hLD
  refine D3 (fun tm => tm 10 = sSet out e ∧ tm 1 = .tp (cGLs s) ∧ tm 2 = .tp [vx eI out] ∧ tm 3 = .ptr nx 0) (by refine ⟨?_, ?_, ?_, ?_⟩ <;> simp only [D4, ntmps123, e1, e2, e3, seval]) ?_
  clear e9 e1 e2 e3
  rintro tm ⟨aE, e1, e2, e3⟩
  have hne : (nx = nx + 5) = False := by simp
  have kc : (nx = br) = False := by simp; omega
  have sG : (nx + 5 = br) = False := by simp; omega
  have qn : (br = nx + 5) = False := by simp; omega
  simp only [vz, tyf, seval, ua, nm, rg, RStart, vcells1 jh, jh, aE, e1, e2, e3, Ha, Hc, hne, kc, sG, qn, Nat.add_zero]
  refine ktree (args0 := [.agg (cGLs s), .agg (cGLx (GLx.mk out e)), .lit (.int .i64 0)]) (by first | (simp only [nrm, aq, Dx, tyf] <;> rfl) | rfl) (by simp only [tre, an, qC, Bool.and_self]) (Vf _ _ _ _ eQ) ?_
  simp only [vz, @iQ, tyf, seval, ua, nm, rg, RStart, vcells1 jh, jh, aE, e1, e2, e3, Ha, Hc, hne, kc, sG, qn, Nat.add_zero]
  refine ktree (args0 := [.agg (cGld l)]) (by first | (simp only [nrm, aq, mqr] <;> rfl) | rfl) (by simp only [tre, an, mqr, Bool.and_self]) (V2 _ _ CD) ?_
  have hmax : br ≤ br + 4 := by omega
  have D5 : (nx + 5 = br + 9) = False := by simp; omega
  have Ts : (br + 9 = nx + 5) = False := by simp; omega
  have D6 : (nx = br + 9) = False := by simp; omega
  have hxb : (nx + 4 = br) = False := by simp; omega
  have hxc : (nx + 4 = br + 9) = False := by simp; omega
  have hxd : (nx + 4 = nx + 5) = False := by simp
  have hbig : ∀ γ, γ < br → ¬ (γ = nx ∨ γ = nx + 4 ∨ γ = nx + 5) → γ ≠ nx + 5 ∧ γ ≠ br ∧ γ ≠ br + 9 := fun γ h1 h2 => ⟨fun e => h2 (.inr (.inr e)), by omega, by omega⟩
  cases w with
  | none =>
   simp only [vz, @iQ, mq, mqm, mqt, tyf, seval, ua, nm, rg, RStart, wV, zlN, consO, aE, e1, e2, e3, Ha, Hc, hne, kc, sG, qn, D5, Ts, D6, Nat.add_zero]
   refine ⟨by simp only [aQ, seval, nm, sG, D5, if_false], qZe _ _, fun γ hγ => ?_, ?_⟩
   ·have g5 : γ ≠ nx + 5 := fun e => nc (e ▸ hγ)
    have g1 : γ ≠ br := fun e => by have := hFr γ hγ; omega
    have g9 : γ ≠ br + 9 := fun e => by have := hFr γ hγ; omega
    simp only [updH, Nat.add_zero, g5, g1, g9, if_false]
   ·simp only [if_true]
    refine ⟨[(nx, .cells (some 152) [.yl β]), (nx + 4, .deferred (some [])), (nx + 5, LO)], some (L3.map sL), Own.cons (qZd la (qZe _ _)) na ?_ (Own.cons (qZd lb (qZe _ _)) nb ?_ (Own.cons (qZd lc (qZe _ _)) nc ?_ Own.nil)), ?_, ?_⟩
    ·simp only [aQ, seval, nm, hne, kc, D6, Nat.add_zero, Ha, if_false]
    ·simp only [aQ, seval, nm, hxb, hxc, hxd, Nat.add_zero, Hb, if_false]
    ·simp only [aQ, seval, nm]
    ·rw [hJ]
     exact ⟨p, L3, rfl, D0, rfl, rfl⟩
    ·simp only [hfr]
     refine hst _ _ _ _ _ _ _ hi ?_ (qZe _ _) (fun γ h => .inl h)
     intro γ h1 hn
     obtain ⟨g5, g1, g9⟩ := hbig γ h1 (fun h => hn (.inr h))
     simp only [updH, Nat.add_zero, g5, g1, g9, if_false]
  | some y =>
   simp only [vz, @iQ, mq, mqm, mqt, tyf, seval, ua, nm, rg, RStart, wV, zlN, consO, aE, e1, e2, e3, Ha, Hc, hne, kc, sG, qn, D5, Ts, D6, Nat.add_zero]
   have X9 : I (some (sL y :: L3.map sL)) (fun γ => Fr γ ∨ γ = nx ∨ γ = nx + 4 ∨ γ = nx + 5) (updH (updH (updH (updH (updH H1 br (.cells (some 31) [.lit (.slice none 0 0), .lit (.slice none 0 0)])) br (.cells (some 31) [vx eI out, sE e])) (nx + 5) LB) (br + 9) (.cells (some 93) zlC)) (br + 9) (.cells (some 93) (cGld y))) (br + 19) := by
    refine hst _ _ _ _ _ _ _ hi ?_ (by omega) (fun γ h => .inl h)
    intro γ h1 hn
    obtain ⟨g5, g1, g9⟩ := hbig γ h1 (fun h => hn (.inr h))
    simp only [updH, g5, g1, g9, if_false]
   refine (hr (sL y) (L3.map sL) _ _ _ ?_ X9) (some (some (nx + 5))) _ _ _ ?_ ?_ ?_
   ·rintro γ (hγ | rfl | rfl | rfl)
    ·have := hFr γ hγ; omega
    ·omega
    ·omega
    ·omega
   ·rfl
   ·rfl
   rintro b H2 nn ⟨q1, q2, q3⟩
   have Ka : H2 nx = some (.cells (some 152) [.yl β]) := by rw [q2 nx (.inr (.inl rfl))]; simp only [aQ, nm, seval, hne, kc, D6, Ha, if_false]
   have Kb : H2 (nx + 4) = some (.deferred (some [])) := by rw [q2 _ (.inr (.inr (.inl rfl)))]; simp only [aQ, nm, seval, hxb, hxc, hxd, Hb, if_false]
   have Kc : H2 (nx + 5) = some LB := by rw [q2 _ (.inr (.inr (.inr rfl)))]; simp only [aQ, nm, seval, sG, D5, if_false]
   have KF : ∀ γ, Fr γ → H2 γ = H1 γ := by
    intro γ hγ
    have g5 : γ ≠ nx + 5 := fun e => nc (e ▸ hγ)
    have g1 : γ ≠ br := fun e => by have := hFr γ hγ; omega
    have g9 : γ ≠ br + 9 := fun e => by have := hFr γ hγ; omega
    rw [q2 γ (.inl hγ)]
    simp only [updH, g5, g1, g9, if_false]
   cases b with
   | true =>
    simp only [vz, tyf, seval, ua, nm, rg, Bool.not_true]
    refine ⟨Kc, qZh (by omega : br ≤ nn) (by first | exact qZg _ | exact qZe _ _), fun γ hγ => ?_, ?_⟩
    ·have g5 : γ ≠ nx + 5 := fun e => nc (e ▸ hγ)
     simp only [updH]
     rw [if_neg g5]
     exact KF γ hγ
    ·simp only [if_true] at q3 ⊢
     have hq : br ≤ nn := by omega
     refine ⟨[(nx, .cells (some 152) [.yl β]), (nx + 4, .deferred (some [])), (nx + 5, LO)], some (L3.map sL), Own.cons (qZd la (qZh hq (by first | exact qZg _ | exact qZe _ _))) na ?_ (Own.cons (qZd lb (qZh hq (by first | exact qZg _ | exact qZe _ _))) nb ?_ (Own.cons (qZd lc (qZh hq (by first | exact qZg _ | exact qZe _ _))) nc ?_ Own.nil)), ?_, ?_⟩
     ·simp only [aQ, seval, hne, Ka]
     ·simp only [aQ, nm, seval, Kb]
     ·simp only [aQ, seval]
     ·rw [hJ]
      exact ⟨p, L3, rfl, D0, rfl, rfl⟩
     ·simp only [hfr]
      refine hst _ _ _ _ _ _ _ q3 ?_ (by first | exact qZg _ | exact qZe _ _) (fun γ h => .inl h)
      intro γ _ hn
      have g5 : γ ≠ nx + 5 := fun e => hn (.inr (.inr (.inr e)))
      simp only [updH]
      rw [if_neg g5]
   | false =>
    simp only [vz, tyf, seval, ua, nm, rg, Bool.not_false]
    refine ⟨Kc, qZh (by omega : br ≤ nn) (by first | exact qZg _ | exact qZe _ _), fun γ hγ => ?_, ?_⟩
    ·have g5 : γ ≠ nx + 5 := fun e => nc (e ▸ hγ)
     simp only [updH]
     rw [if_neg g5]
     exact KF γ hγ
    ·simp only [Bool.false_eq_true, if_false] at q3 ⊢
     have hq : br ≤ nn := by omega
     have Ko : ∀ γ, (∃ q ∈ [(nx, .cells (some 152) [.yl β]), (nx + 4, .deferred (some [])), (nx + 5, LD .ret)], (q : Nat × Vo).1 = γ) ↔ γ = nx ∨ γ = nx + 4 ∨ γ = nx + 5 := by
      intro γ
      simp [eq_comm]
     refine ⟨[(nx, .cells (some 152) [.yl β]), (nx + 4, .deferred (some [])), (nx + 5, LD .ret)], none, Own.cons (qZd la (qZh hq (by first | exact qZg _ | exact qZe _ _))) na ?_ (Own.cons (qZd lb (qZh hq (by first | exact qZg _ | exact qZe _ _))) nb ?_ (Own.cons (qZd lc (qZh hq (by first | exact qZg _ | exact qZe _ _))) nc ?_ Own.nil)), ?_, ?_⟩
     ·simp only [aQ, seval, hne, Ka]
     ·simp only [aQ, nm, seval, Kb]
     ·simp only [aQ, seval]
     ·rw [hJ]
      exact ⟨LD, ⟨_, _, _, _, _, hLD⟩, rfl, rfl⟩
     ·simp only [Ko]
      refine hst _ _ _ _ _ _ _ q3 ?_ (by first | exact qZg _ | exact qZe _ _) (fun γ h => .inl h)
      intro γ _ hn
      have g5 : γ ≠ nx + 5 := fun e => hn (.inr (.inr (.inr e)))
      simp only [updH]
      rw [if_neg g5]
 ·have hfr : ∀ γ, (∃ q ∈ [(nx, .cells (some 152) [.yl β]), (nx + 4, .deferred (some [])), (nx + 5, LO)], (q : Nat × Vo).1 = γ) ↔ γ = nx ∨ γ = nx + 4 ∨ γ = nx + 5 := by
   intro γ
   simp [eq_comm]
  refine ⟨[(nx, .cells (some 152) [.yl β]), (nx + 4, .deferred (some [])), (nx + 5, LO)], some (R.map sL), Own.cons (show nx < nx + 6 by omega) (fun h => h) ?_ (Own.cons (show nx + 4 < nx + 6 by omega) (fun h => h) ?_ (Own.cons (show nx + 5 < nx + 6 by omega) (fun h => h) ?_ Own.nil)), ?_, ?_⟩
  ·simp only [updH]
   rw [if_neg (by omega), if_neg (by omega), if_pos (by omega)]
  ·simp only [updH]
   simp
  ·simp only [updH]
   simp
  ·rw [hJ]
   exact ⟨L, R, rfl, h, rfl, rfl⟩
  ·simp only [hfr]
   refine hst _ _ _ _ _ _ _ hI ?_ (by omega) ?_
   ·intro γ hγ _
    simp only [updH]
    repeat rw [if_neg (by omega)]
   ·rintro γ (h | rfl | rfl | rfl)
    ·exact h.elim
    ·right; omega
    ·right; omega
    ·right; omega
 ·rintro H' nx' (⟨hp, o', hown, hj, hi⟩ | ⟨hp, o', hown, hj, hi⟩)
  ·rw [hJ] at hj
   obtain ⟨p, L2, hl, hf, rfl, rfl⟩ := hj
   cases p with
   | cons e p => cases hl
   | nil =>
   simp only [fitO, Option.some.injEq] at hf
   subst hf
   obtain ⟨la, na, Ha⟩ := hown.head
   obtain ⟨lb, nb, Hb⟩ := hown.tail.head
   obtain ⟨lc, nc, Hc⟩ := hown.tail.tail.head
   have hfr : ∀ γ, (∃ q ∈ [(nx, .cells (some 152) [.yl β]), (nx + 4, .deferred (some [])), (nx + 5, LO)], (q : Nat × Vo).1 = γ) ↔ γ = nx ∨ γ = nx + 4 ∨ γ = nx + 5 := by
    intro γ
    simp [eq_comm]
   simp only [hfr] at hi
   refine D7 hLO Hc ?_
   intro LX
   simp only [vz, tyf, seval, ua, nm, rg]
   refine Kp (by simp only [aQ, nm, seval, Hb]) ?_
   refine Fp (x := .tup []) (by simp [results123, resV, resL]) (.inl ?_)
   refine hst _ _ _ _ _ _ _ hi ?_ (qZg _) (fun γ h => h.elim)
   intro γ _ hn
   have g2 : γ ≠ nx + 4 := fun e => hn (.inr (.inr (.inl e)))
   have g3 : γ ≠ nx + 5 := fun e => hn (.inr (.inr (.inr e)))
   simp only [updH]
   repeat rw [if_neg (by first | assumption | omega)]
  ·rw [hJ] at hj
   obtain ⟨LD, ⟨tml, ps, az, bo, d, hLD⟩, rfl, rfl⟩ := hj
   obtain ⟨la, na, Ha⟩ := hown.head
   obtain ⟨lb, nb, Hb⟩ := hown.tail.head
   obtain ⟨lc, nc, Hc⟩ := hown.tail.tail.head
   have hfr : ∀ γ, (∃ q ∈ [(nx, .cells (some 152) [.yl β]), (nx + 4, .deferred (some [])), (nx + 5, LD .ret)], (q : Nat × Vo).1 = γ) ↔ γ = nx ∨ γ = nx + 4 ∨ γ = nx + 5 := by
    intro γ
    simp [eq_comm]
   simp only [hfr] at hi
   refine Tt hLD Hc ?_
   intro LX
   simp only [vz, tyf, seval, ua, nm, rg]
   refine xo (by simp only [aQ, nm, seval, Hb]) ?_
   refine bO (x := .tup []) (by simp [results123, resV, resL]) (.inr ?_)
   refine hst _ _ _ _ _ _ _ hi ?_ (qZg _) (fun γ h => h.elim)
   intro γ _ hn
   have g2 : γ ≠ nx + 4 := fun e => hn (.inr (.inr (.inl e)))
   have g3 : γ ≠ nx + 5 := fun e => hn (.inr (.inr (.inr e)))
   simp only [updH]
   repeat rw [if_neg (by first | assumption | omega)]
theorem Tu {d : Nat} : showV H d (vx eI l) = vx eI l := by
 cases l <;> cases d <;> rfl
def accL : Option Gld → List VV
 | none => zlC
 | some r => (cGld r)
def bestL (better : Gld → Gld → Option Bool) : List Gld → Option Gld → Option (Option Gld)
 | [], acc => some acc
 | x :: L, none => bestL better L (some x)
 | x :: L, some r => Option.bind (better x r) fun t => bestL better L (some (cond t x r))
def rezL : Option Gld → VV
 | none => .tup [.agg zlN, .lit (.bool false)]
 | some r => .tup [.agg (cGld r), .lit (.bool true)]
theorem Kq {itv : VV} {bf : Nat} {mc : List VV} {L : List Gld} (hit : Iter prog G0 itv (L.map fun e => sL e)) (hmt : tl mc = true) {better : Gld → Gld → Option Bool}
  (hb : ∀ a b t, better a b = some t → ah prog G0 bf (sL a :: sL b :: mc) (.tree (.lit (.bool t)))) (R : Option Gld) (h : bestL better L none = some R) :
  ah prog G0 86 [itv, .fn (.func bf) [] mc] (.tree (rezL R)) := by
 refine ah.runR mixed call86 func86 rfl (by simp [ntmps86]; kernel_rfl) ?_
 simp only [vz, @iQ, tyf, seval, ua, rg]
 refine CS (fun tm => tm 9 = itv ∧ tm 3 = .ptr 0 0 ∧ tm 4 = .ptr 1 0 ∧ tm 6 = .ptr 3 0 ∧ tm 7 = .ptr 4 0) (by refine ⟨?_, ?_, ?_, ?_, ?_⟩ <;> simp only [ua, seval]) ?_
 rintro tm ⟨e9, e3, e4, e6, e7⟩
 refine Dz hit (by first | (simp only [gi, gj, e9, fL, seval] <;> rfl) | rfl) ?_
 intro LO hLO
 obtain ⟨J, hJ⟩ : ∃ J : Option (List VV) → List (Nat × Vo) → Prop, J = (fun o hp => match o with
  | some l => ∃ (p : List Gld) (acc : Option Gld), l = (p.map fun e => sL e) ∧ hp = [(7, .deferred (some [])), (8, LO), (0, .cells (some 116) [.fn (.func bf) [] mc]), (1, .cells (some 93) zlC), (3, .cells (some 93) (accL acc)), (4, .cells (some 4) [.lit (.bool acc.isSome)])] ∧ bestL better p acc = some R
  | none => False) := ⟨_, rfl⟩
 refine ⟨ownI J, Ks, ?_, ?_, ?_⟩
 ·rintro v rest Fr H nx hFr ⟨hp, hown, hj⟩
  rw [hJ] at hj
  obtain ⟨p, acc, hl, rfl, hR⟩ := hj
  cases p with
  | nil => cases hl
  | cons e p =>
  simp only [List.map_cons, List.cons.injEq] at hl
  obtain ⟨rfl, rfl⟩ := hl
  obtain ⟨l7, n7, H7⟩ := hown.head
  obtain ⟨l8, n8, H8⟩ := hown.tail.head
  obtain ⟨l0, n0, H0⟩ := hown.tail.tail.head
  obtain ⟨l1, n1, H1⟩ := hown.tail.tail.tail.head
  obtain ⟨l3, n3, H3⟩ := hown.tail.tail.tail.tail.head
  obtain ⟨l4, n4, H4⟩ := hown.tail.tail.tail.tail.tail.head
  have oD : (nx = 0) = False := by simp only [eq_iff_iff, iff_false]; omega
  have rL : (nx = 1) = False := by simp only [eq_iff_iff, iff_false]; omega
  have vh : (nx = 3) = False := by simp only [eq_iff_iff, iff_false]; omega
  have vi : (nx = 4) = False := by simp only [eq_iff_iff, iff_false]; omega
  have Kt : (nx = 7) = False := by simp only [eq_iff_iff, iff_false]; omega
  have qD : (nx = 8) = False := by simp only [eq_iff_iff, iff_false]; omega
  have vj : (0 = nx) = False := by simp only [eq_iff_iff, iff_false]; omega
  have vk : (1 = nx) = False := by simp only [eq_iff_iff, iff_false]; omega
  have vl : (3 = nx) = False := by simp only [eq_iff_iff, iff_false]; omega
  have vm : (4 = nx) = False := by simp only [eq_iff_iff, iff_false]; omega
  have Ku : (7 = nx) = False := by simp only [eq_iff_iff, iff_false]; omega
  have qE : (8 = nx) = False := by simp only [eq_iff_iff, iff_false]; omega
  refine D1 mixed (psl := [10]) hLO H8 D2 rfl (by kernel_rfl) (by kernel_rfl) ?_
  intro LB LD hLB hLD
  refine D3 (fun tm => tm 10 = sL e ∧ tm 3 = .ptr 0 0 ∧ tm 6 = .ptr 3 0 ∧ tm 7 = .ptr 4 0) (by refine ⟨?_, ?_, ?_, ?_⟩ <;> simp only [D4, ntmps86, e3, e6, e7, seval]) ?_
  clear e9 e3 e4 e6 e7
  rintro tm ⟨aE, e3, e6, e7⟩
  cases acc with
  | none =>
   simp only [accL, Option.isSome_none, zlC] at H3 H4
   unfold bestL at hR
   simp only [vz, @iQ, mq, mqm, mqt, tyf, seval, ua, nm, rg, RStart, vcells1 jh, jh, aE, e3, e6, e7, H8, H0, H3, H4, oD, rL, vh, vi, qD, vj, vk, vl, vm, qE, Nat.add_zero, Bool.not_false]
   refine ⟨by simp only [aQ, seval, nm, qD, qE, Nat.add_zero, if_false], qZe _ _, fun γ hγ => ?_, ?_⟩
   ·have g8 : γ ≠ 8 := fun e => n8 (e ▸ hγ)
    have g3 : γ ≠ 3 := fun e => n3 (e ▸ hγ)
    have g4 : γ ≠ 4 := fun e => n4 (e ▸ hγ)
    have gx : γ ≠ nx := fun e => by have := hFr γ hγ; omega
    simp only [updH, Nat.add_zero, g8, g3, g4, gx, if_false]
   ·simp only [if_true]
    refine ⟨[(7, .deferred (some [])), (8, LO), (0, .cells (some 116) [.fn (.func bf) [] mc]), (1, .cells (some 93) zlC), (3, .cells (some 93) (cGld e)), (4, .cells (some 4) [.lit (.bool true)])], Own.cons (qZd l7 (qZe _ _)) n7 ?_ (Own.cons (qZd l8 (qZe _ _)) n8 ?_ (Own.cons (qZd l0 (qZe _ _)) n0 ?_ (Own.cons (qZd l1 (qZe _ _)) n1 ?_ (Own.cons (qZd l3 (qZe _ _)) n3 ?_ (Own.cons (qZd l4 (qZe _ _)) n4 ?_ (Own.nil)))))), ?_⟩
    rotate_left 6
    ·rw [hJ]
     exact ⟨p, some e, rfl, rfl, hR⟩
    all_goals simp only [aQ, seval, nm, oD, rL, vh, vi, Kt, qD, vj, vk, vl, vm, Ku, qE, Nat.add_zero, H7, H8, H0, H1, H3, H4, if_false]
    all_goals first | rfl | (simp only [tyf]; done) | skip
  | some r =>
   simp only [accL, Option.isSome_some] at H3 H4
   unfold bestL at hR
   rcases hbt : better e r with _ | t
   ·rw [hbt] at hR; cases hR
   rw [hbt, Option.bind_some] at hR
   simp only [vz, @iQ, mq, mqm, mqt, tyf, seval, ua, nm, rg, RStart, vcells1 jh, jh, aE, e3, e6, e7, H8, H0, H3, H4, oD, rL, vh, vi, qD, vj, vk, vl, vm, qE, Nat.add_zero, Bool.not_true]
   refine ktreeR ?_ (hb e r t hbt) ?_
   ·simp only [tre, an, mqr, qC, hmt, Bool.and_self]
   cases t with
   | true =>
    simp only [vz, @iQ, mq, mqm, mqt, tyf, seval, ua, nm, rg, RStart, vcells1 jh, jh, aE, e3, e6, e7, H8, H0, H3, H4, oD, rL, vh, vi, qD, vj, vk, vl, vm, qE, Nat.add_zero]
    refine ⟨by simp only [aQ, seval, nm, qD, qE, Nat.add_zero, if_false], qZe _ _, fun γ hγ => ?_, ?_⟩
    ·have g8 : γ ≠ 8 := fun e => n8 (e ▸ hγ)
     have g3 : γ ≠ 3 := fun e => n3 (e ▸ hγ)
     have g4 : γ ≠ 4 := fun e => n4 (e ▸ hγ)
     have gx : γ ≠ nx := fun e => by have := hFr γ hγ; omega
     simp only [updH, Nat.add_zero, g8, g3, g4, gx, if_false]
    ·simp only [if_true]
     refine ⟨[(7, .deferred (some [])), (8, LO), (0, .cells (some 116) [.fn (.func bf) [] mc]), (1, .cells (some 93) zlC), (3, .cells (some 93) (cGld e)), (4, .cells (some 4) [.lit (.bool true)])], Own.cons (qZd l7 (qZe _ _)) n7 ?_ (Own.cons (qZd l8 (qZe _ _)) n8 ?_ (Own.cons (qZd l0 (qZe _ _)) n0 ?_ (Own.cons (qZd l1 (qZe _ _)) n1 ?_ (Own.cons (qZd l3 (qZe _ _)) n3 ?_ (Own.cons (qZd l4 (qZe _ _)) n4 ?_ (Own.nil)))))), ?_⟩
     rotate_left 6
     ·rw [hJ]
      exact ⟨p, some e, rfl, rfl, hR⟩
     all_goals simp only [aQ, seval, nm, oD, rL, vh, vi, Kt, qD, vj, vk, vl, vm, Ku, qE, Nat.add_zero, H7, H8, H0, H1, H3, H4, if_false]
     all_goals first | rfl | (simp only [tyf]; done) | skip
   | false =>
    simp only [vz, @iQ, mq, mqm, mqt, tyf, seval, ua, nm, rg, RStart, vcells1 jh, jh, aE, e3, e6, e7, H8, H0, H3, H4, oD, rL, vh, vi, qD, vj, vk, vl, vm, qE, Nat.add_zero]
    refine ⟨by simp only [aQ, seval, nm, qD, qE, Nat.add_zero, if_false], qZe _ _, fun γ hγ => ?_, ?_⟩
    ·have g8 : γ ≠ 8 := fun e => n8 (e ▸ hγ)
     have g3 : γ ≠ 3 := fun e => n3 (e ▸ hγ)
     have g4 : γ ≠ 4 := fun e => n4 (e ▸ hγ)
     have gx : γ ≠ nx := fun e => by have := hFr γ hγ; omega
     simp only [updH, Nat.add_zero, g8, g3, g4, gx, if_false]
    ·simp only [if_true]
     refine ⟨[(7, .deferred (some [])), (8, LO), (0, .cells (some 116) [.fn (.func bf) [] mc]), (1, .cells (some 93) zlC), (3, .cells (some 93) (cGld r)), (4, .cells (some 4) [.lit (.bool true)])], Own.cons (qZd l7 (qZe _ _)) n7 ?_ (Own.cons (qZd l8 (qZe _ _)) n8 ?_ (Own.cons (qZd l0 (qZe _ _)) n0 ?_ (Own.cons (qZd l1 (qZe _ _)) n1 ?_ (Own.cons (qZd l3 (qZe _ _)) n3 ?_ (Own.cons (qZd l4 (qZe _ _)) n4 ?_ (Own.nil)))))), ?_⟩
     rotate_left 6
     ·rw [hJ]
      exact ⟨p, some r, rfl, rfl, hR⟩
     all_goals simp only [aQ, seval, nm, oD, rL, vh, vi, Kt, qD, vj, vk, vl, vm, Ku, qE, Nat.add_zero, H7, H8, H0, H1, H3, H4, if_false]
     all_goals first | rfl | (simp only [tyf]; done) | skip
 ·refine ⟨[(7, .deferred (some [])), (8, LO), (0, .cells (some 116) [.fn (.func bf) [] mc]), (1, .cells (some 93) zlC), (3, .cells (some 93) zlC), (4, .cells (some 4) [.lit (.bool false)])], Own.cons (show 7 < 9 by omega) (fun h => h) ?_ (Own.cons (show 8 < 9 by omega) (fun h => h) ?_ (Own.cons (show 0 < 9 by omega) (fun h => h) ?_ (Own.cons (show 1 < 9 by omega) (fun h => h) ?_ (Own.cons (show 3 < 9 by omega) (fun h => h) ?_ (Own.cons (show 4 < 9 by omega) (fun h => h) ?_ (Own.nil)))))), ?_⟩
  rotate_left 6
  ·rw [hJ]
   exact ⟨L, none, rfl, rfl, h⟩
  all_goals first | (simp only [aQ, seval] <;> rfl) | rfl
 ·rintro H' nx' (⟨hp, hown, hj⟩ | ⟨hp, hown, hj⟩)
  ·rw [hJ] at hj
   obtain ⟨p, acc, hl, rfl, hR⟩ := hj
   cases p with
   | cons e p => cases hl
   | nil =>
   simp only [bestL, Option.some.injEq] at hR
   subst hR
   obtain ⟨l7, n7, H7⟩ := hown.head
   obtain ⟨l8, n8, H8⟩ := hown.tail.head
   obtain ⟨l0, n0, H0⟩ := hown.tail.tail.head
   obtain ⟨l1, n1, H1⟩ := hown.tail.tail.tail.head
   obtain ⟨l3, n3, H3⟩ := hown.tail.tail.tail.tail.head
   obtain ⟨l4, n4, H4⟩ := hown.tail.tail.tail.tail.tail.head
   refine D7 hLO H8 ?_
   intro LX
   cases acc with
   | none =>
    simp only [accL, Option.isSome_none, zlC] at H1 H3 H4
    refine qZ (fun tm => tm 4 = .ptr 1 0 ∧ tm 6 = .ptr 3 0 ∧ tm 7 = .ptr 4 0) ⟨e4, e6, e7⟩ ?_
    clear e9 e3 e4 e6 e7
    rintro tm ⟨e4, e6, e7⟩
    simp only [vz, @iQ, mq, mqm, mqt, tyf, seval, ua, nm, rg, vcells1 jh, jh, e4, e6, e7, H1, H3, H4]
    refine lq ⟨?_, ?_⟩
    ·simp only [lr, lu, gf, lv, and_true, true_and]
     repeat' (first | exact trivial | refine qZj ?_ ?_ | rw [gf] | rw [ly] | exact Or.inl (by decide +kernel) | exact Or.inl (by dsimp only; decide +kernel) | (refine Or.inr ⟨?_, ?_⟩ <;> simp; done) | (refine Or.inr ⟨?_, ?_⟩ <;> simp <;> omega) | (refine Or.inr ⟨?_, ?_⟩ <;> simp [Ve.wr] <;> omega))
    simp only [vz, @iQ, mq, mqm, mqt, tyf, seval, ua, nm, rg, vcells1 jh, jh, e4, e6, e7, H1, H3, H4]
    refine xo (by simp only [aQ, seval, nm, H7]) ?_
    refine bO (x := .tup [.agg (zlC), .lit (.bool false)]) (by simp only [results86, resV, resL, aw, cn, cq, uw, cr, tyf, mqt, e4, nm, seval] <;> rfl) ?_
    refine cm (by simp only [rezL, zlC, zlN, tre, an, mqr, qC, Bool.and_self]) ?_
    simp only [outV, rezL, zlC, zlN, nrm, aq, mqr, CP, Tu, Dx, tyf, seval, List.map_cons, List.map_nil]
   | some r =>
    simp only [accL, Option.isSome_some, zlC] at H1 H3 H4
    refine qZ (fun tm => tm 4 = .ptr 1 0 ∧ tm 6 = .ptr 3 0 ∧ tm 7 = .ptr 4 0) ⟨e4, e6, e7⟩ ?_
    clear e9 e3 e4 e6 e7
    rintro tm ⟨e4, e6, e7⟩
    simp only [vz, @iQ, mq, mqm, mqt, tyf, seval, ua, nm, rg, vcells1 jh, jh, e4, e6, e7, H1, H3, H4]
    refine lq ⟨?_, ?_⟩
    ·simp only [lr, lu, gf, lv, and_true, true_and]
     repeat' (first | exact trivial | refine qZj ?_ ?_ | rw [gf] | rw [ly] | exact Or.inl (by decide +kernel) | exact Or.inl (by dsimp only; decide +kernel) | (refine Or.inr ⟨?_, ?_⟩ <;> simp; done) | (refine Or.inr ⟨?_, ?_⟩ <;> simp <;> omega) | (refine Or.inr ⟨?_, ?_⟩ <;> simp [Ve.wr] <;> omega))
    simp only [vz, @iQ, mq, mqm, mqt, tyf, seval, ua, nm, rg, vcells1 jh, jh, e4, e6, e7, H1, H3, H4]
    refine xo (by simp only [aQ, seval, nm, H7]) ?_
    refine bO (x := .tup [.agg ((cGld r)), .lit (.bool true)]) (by simp only [results86, resV, resL, aw, cn, cq, uw, cr, tyf, mqt, e4, nm, seval] <;> rfl) ?_
    refine cm (by simp only [rezL, tre, an, mqr, qC, Bool.and_self]) ?_
    simp only [outV, rezL, nrm, aq, mqr, CP, Tu, Dx, tyf, seval, List.map_cons, List.map_nil]
  ·rw [hJ] at hj
   exact hj.elim
def tf (hZ : Gld) (ia : Gld) : Option (Bool) := Option.bind (sR (List.length hZ.lx.Ends : Int) (List.length ia.lx.Ends : Int)) (fun r1 => Option.bind (sR ia.stretch hZ.stretch) (fun r2 => Option.bind (xk ([r1, r2])) (fun r3 => some (decide (r3 < 0)))))
theorem XA (hZ : Gld) (ia : Gld) (R : Bool) (h : tf hZ ia = some R) : ah prog G0 88 [.agg (cGld hZ), .agg (cGld ia)] (.tree (.lit (.bool R))) := by
 refine ah.runR mixed call88 func88 rfl (by simp [ntmps88]; kernel_rfl) ?_
 obtain ⟨KF, h, kF, kN⟩ := fg h
 simp only [tf] at h
 simp only [vz, mq, mqm, tyf, mqt, nm, seval]
 refine qZ (fun tm => tm 2 = .ptr 0 0 ∧ tm 3 = .ptr 1 0 ∧ True) (by refine ⟨?_, ?_, trivial⟩ <;> first | (simp only [ua, dW, nm, seval] <;> rfl) | rfl) ?_
 rintro tm ⟨e4, e5, _⟩
 obtain ⟨r6, o7, h⟩ := optI h kN
 try simp only [hs] at h
 simp only [vz, mq, mqm, tyf, mqt, e4, e5, nm, seval]
 refine dktree (args0 := [.lit (.int .i64 (List.length hZ.lx.Ends : Int)), .lit (.int .i64 (List.length ia.lx.Ends : Int))]) (by first | (simp only [nrm, aq, mqr] <;> rfl) | rfl) (by simp only [tre, an, mqr, Bool.and_self]) (D8 _ _ _ o7) ?_
 refine bQ (fun tm => tm 2 = .ptr 0 0 ∧ tm 3 = .ptr 1 0 ∧ tm 13 = .lit (.int .i64 r6) ∧ True) (by refine ⟨e4, e5, ?_, trivial⟩ <;> first | (simp only [ua, dW, e4, e5, nm, seval] <;> rfl) | rfl) ?_
 rintro tm ⟨e8, e9, aE, _⟩
 obtain ⟨lD, jK, h⟩ := optI h kN
 try simp only [hs] at h
 simp only [vz, mq, mqm, tyf, mqt, e8, e9, aE, nm, seval]
 refine dktree (args0 := [.lit (.int .i64 ia.stretch), .lit (.int .i64 hZ.stretch)]) (by first | (simp only [nrm, aq, mqr] <;> rfl) | rfl) (by simp only [tre, an, mqr, Bool.and_self]) (D8 _ _ _ jK) ?_
 refine bQ (fun tm => tm 13 = .lit (.int .i64 r6) ∧ tm 18 = .lit (.int .i64 lD) ∧ True) (by refine ⟨aE, ?_, trivial⟩ <;> first | (simp only [ua, dW, e8, e9, aE, nm, seval] <;> rfl) | rfl) ?_
 rintro tm ⟨bF, bN, _⟩
 obtain ⟨D9, lB, h⟩ := optI h kN
 try simp only [hs] at h
 simp only [vz, mq, mqm, tyf, mqt, bF, bN, nm, seval]
 refine dkseen1 (w := 1) (enc := eI) (xs := ([r6, lD])) (el := (some 3)) ⟨eI_ok.tree, eI_ok.norm⟩ (fun _ => rfl) (by simp only [List.length_cons, List.length_nil]; decide) (by simp only [aQ, bp, bI, nm, seval] <;> rfl) (Tv _ _ lB) (by first | rfl | simp only [VV.flat, flatL, Bool.and_self]) ?_
 refine bQ (fun tm => tm 20 = .lit (.int .i64 D9) ∧ True) (by refine ⟨?_, trivial⟩ <;> first | (simp only [ua, dW, bF, bN, nm, seval] <;> rfl) | rfl) ?_
 rintro tm ⟨di, _⟩
 simp only [vz, mq, mqm, tyf, mqt, di, nm, seval]
 refine lq ⟨?_, ?_⟩
 ·simp only [lr, lu, gf, lv, and_true, true_and]
  repeat' (first | exact trivial | refine qZj ?_ ?_ | rw [gf] | rw [ly] | exact Or.inl (by decide +kernel) | exact Or.inl (by dsimp only; decide +kernel) | (refine Or.inr ⟨?_, ?_⟩ <;> simp; done) | (refine Or.inr ⟨?_, ?_⟩ <;> simp <;> omega) | (refine Or.inr ⟨?_, ?_⟩ <;> simp [Ve.wr] <;> omega))
 try simp only [vz, mq, mqm, tyf, mqt, di, nm, seval]
 obtain rfl := kF _ h
 exact bB results88 rfl
def stgR : Option Gld → GLx × Int × Int
 | none => (GLx.mk [] [], 0, 5)
 | some l => (l.lx, l.stretch, 0)
def vn (s : GLs) : Option (GLx × Int × Int) := Option.bind (rA s) fun b => cond b (Option.bind (nC s []) fun L => Option.bind (bestL tf L none) fun r => some (stgR r)) (some (GLx.mk [] [], 0, 2))
theorem XB (s : GLs) (R : GLx × Int × Int) (h : vn s = some R) : ah prog G0 38 [.agg (cGLs s)] (.tree (.tup [.agg (cGLx R.1), .lit (.int .i64 R.2.1), .lit (.int .i64 R.2.2)])) := by
 refine ah.runR mixed call38 func38 rfl (by simp [ntmps38]; kernel_rfl) ?_
 unfold vn at h
 rcases o0 : rA s with _ | b
 ·rw [o0] at h; cases h
 rw [o0, Option.bind_some] at h
 simp only [vz, tyf, seval, ua, rg]
 refine ktA (Ii _ _ o0) ?_
 cases b with
 | false =>
  simp only [cond_false, Option.some.injEq] at h
  subst h
  simp only [vz, tyf, seval, ua, rg, Bool.not_false]
  refine bO (x := .tup [.agg [.lit (.slice none 0 0), .lit (.slice none 0 0)], .lit (.int .i64 0), .lit (.int .i64 2)]) (by simp only [results38, resV, resL, aw, cn, cq, uw, cr, tyf, nm, seval] <;> rfl) ?_
  refine cm (by simp only [tre, an, Bool.and_self]) ?_
  simp only [outV, nrm, aq, tyf, seval, List.map_cons, List.map_nil, cT, List.length_nil]
 | true =>
 rw [cond_true] at h
 rcases o1 : nC s [] with _ | L
 ·rw [o1] at h; cases h
 rw [o1, Option.bind_some] at h
 rcases o2 : bestL tf L none with _ | r
 ·rw [o2] at h; cases h
 rw [o2, Option.bind_some, Option.some.injEq] at h
 have hit := Kn s [] L o1
 have hbest := Kq (bf := 88) (mc := []) hit rfl (fun a b t hab => XA a b t hab) r o2
 simp only [vz, tyf, seval, ua, rg, Bool.not_true]
 refine ktreeR ?_ (Km s []) ?_
 ·simp only [tre, an, Bool.and_self]
 simp only [vz, tyf, seval, ua, rg]
 refine ktreeR ?_ hbest ?_
 ·have := Kl (s := s) (out := [])
  simp [tl, VV.tree, this]
 cases r with
 | none =>
  simp only [stgR] at h
  subst h
  simp only [vz, @iQ, mq, mqm, mqt, tyf, seval, ua, nm, rg, rezL, zlN]
  refine bO (x := .tup [.agg [.lit (.slice none 0 0), .lit (.slice none 0 0)], .lit (.int .i64 0), .lit (.int .i64 5)]) (by simp only [results38, resV, resL, aw, cn, cq, uw, cr, tyf, nm, seval] <;> rfl) ?_
  refine cm (by simp only [tre, an, Bool.and_self]) ?_
  simp only [outV, nrm, aq, tyf, seval, List.map_cons, List.map_nil, cT, List.length_nil]
 | some l =>
  simp only [stgR] at h
  subst h
  simp only [vz, @iQ, mq, mqm, mqt, tyf, seval, ua, nm, rg, rezL, zlN]
  refine qZ (fun tm => tm 2 = .ptr 1 0 ∧ tm 5 = .ptr 13 0) (by refine ⟨?_, ?_⟩ <;> simp only [ua, seval]) ?_
  rintro tm ⟨e2, e5⟩
  simp only [vz, @iQ, mq, mqm, mqt, tyf, seval, ua, nm, rg, e2, e5]
  refine lq ⟨?_, ?_⟩
  ·simp only [lr, lu, gf, lv, and_true, true_and]
   repeat' (first | exact trivial | refine qZj ?_ ?_ | rw [gf] | rw [ly] | exact Or.inl (by decide +kernel) | exact Or.inl (by dsimp only; decide +kernel) | (refine Or.inr ⟨?_, ?_⟩ <;> simp; done) | (refine Or.inr ⟨?_, ?_⟩ <;> simp <;> omega) | (refine Or.inr ⟨?_, ?_⟩ <;> simp [Ve.wr] <;> omega))
  simp only [vz, @iQ, mq, mqm, mqt, tyf, seval, ua, nm, rg, e2, e5]
  refine bO (x := .tup [.agg (cGLx l.lx), .lit (.int .i64 l.stretch), .lit (.int .i64 0)]) (by simp only [results38, resV, resL, aw, cn, cq, uw, cr, tyf, e2, nm, seval] <;> rfl) ?_
  refine cm (by simp only [tre, an, Bool.and_self]) ?_
  simp only [outV, nrm, aq, tyf, seval, List.map_cons, List.map_nil]
structure LaidOk (s : GLs) (out : List Int) (l : Gld) : Prop where
 sh : l.ls = s
 ou : l.lx.Out = out
 st : ∃ K : Nat, l.stretch = (K : Int) ∧ MostS s l.lx (some K)
theorem Tw {s : GLs} (h : Sh s) {out : List Int} (hl : lenOk out = true) : ∀ (L : List (List GLe)), (∀ y ∈ L, IsS (possL out s.Words 0) y) → ∃ FL, fitO s out L = some FL ∧ (FL.map fun l => l.lx.Ends).Sublist L ∧ (∀ l ∈ FL, LaidOk s out l) ∧ ∀ y ∈ L, fitS s (GLx.mk out y) 0 = true → ∃ l ∈ FL, l.lx.Ends = y
 | [], _ => ⟨[], rfl, List.Sublist.slnil, (fun l hl => by cases hl), fun y hy => by cases hy⟩
 | y :: L, hy => by
  obtain ⟨FL, f1, f2, f3, f4⟩ := Tw h hl L fun y hy' => hy y (qZa _ hy')
  obtain ⟨l, w, o, e1, e2, e3, e4, e5, e6, e7⟩ := Tp h (x := GLx.mk out y) hl (hy y (qZb ..))
  subst e4
  cases o with
  | none =>
   refine ⟨FL, by simp only [fitO, e1, e2, f1, Option.bind_some]; rfl, List.Sublist.cons _ f2, f3, fun y' hy' hf => ?_⟩
   rcases List.mem_cons.1 hy' with rfl | hy'
   ·have e3' : fitS s (GLx.mk out y') 0 = false := e3
    rw [hf] at e3'; cases e3'
   ·exact f4 y' hy' hf
  | some K =>
   refine ⟨setS l (K : Int) :: FL, by simp only [fitO, e1, e2, f1, Option.bind_some]; rfl, ?_, fun m hm => ?_, fun y' hy' hf => ?_⟩
   ·have : (setS l (K : Int)).lx.Ends = y := by show l.lx.Ends = y; rw [e6]
    rw [List.map_cons, this]
    exact List.Sublist.cons_cons _ f2
   ·rcases List.mem_cons.1 hm with rfl | hm
    ·exact ⟨e5, by show l.lx.Out = out; rw [e6], K, rfl, by show MostS s l.lx (some K); rw [e6]; exact e3⟩
    ·exact f3 m hm
   ·rcases List.mem_cons.1 hy' with rfl | hy'
    ·exact ⟨_, qZb .., by show l.lx.Ends = y'; rw [e6]⟩
    ·obtain ⟨m, h1, h2⟩ := f4 y' hy' hf
     exact ⟨m, qZa _ h1, h2⟩
theorem Tx {K : Nat} (k : MostS s x (some K)) : fitS s x 0 = true := by
 have := k.2 0 (Nat.zero_le _)
 simpa using this
def fw (a b : Gld) : Prop := a.lx.Ends.length < b.lx.Ends.length ∨ a.lx.Ends.length = b.lx.Ends.length ∧ b.stretch < a.stretch
instance (a b : Gld) : Decidable (fw a b) := inferInstanceAs (Decidable (_ ∨ _))
theorem fw_eq (a b : Gld) : tf a b = some (decide (fw a b)) := by
 simp only [tf, SS, or_eq, Option.bind_some]
 congr 1
 rw [Bool.eq_iff_iff, decide_eq_true_eq, decide_eq_true_eq]
 unfold sgn fw
 generalize hm : a.lx.Ends.length = m
 generalize hn : b.lx.Ends.length = n
 by_cases h1 : (m : Int) < (n : Int)
 ·rw [if_pos h1]; simp; omega
 ·rw [if_neg h1]
  by_cases h2 : (m : Int) > (n : Int)
  ·rw [if_pos h2]; simp; omega
  ·rw [if_neg h2]
   by_cases h3 : b.stretch < a.stretch
   ·rw [if_pos h3]; simp; omega
   ·rw [if_neg h3]
    by_cases h4 : b.stretch > a.stretch
    ·rw [if_pos h4]; simp; omega
    ·rw [if_neg h4]; simp; omega
theorem Kv : ∀ (L : List Gld) (r : Gld), ∃ m A B, bestL tf L (some r) = some (some m) ∧ r :: L = A ++ m :: B ∧ (∀ y ∈ A, fw m y) ∧ ∀ y ∈ B, ¬ fw y m
 | [], r => ⟨r, [], [], rfl, rfl, (fun y h => by cases h), fun y h => by cases h⟩
 | x :: L, r => by
  by_cases hx : fw x r
  ·obtain ⟨m, A, B, h1, h2, h3, h4⟩ := Kv L x
   refine ⟨m, r :: A, B, by rw [bestL, fw_eq, Option.bind_some, decide_eq_true hx, cond_true, h1], by rw [h2]; rfl, fun y hy => ?_, h4⟩
   rcases List.mem_cons.1 hy with rfl | hy
   ·cases A with
    | nil =>
     simp only [List.nil_append, List.cons.injEq] at h2
     rw [← h2.1]; exact hx
    | cons a A =>
     simp only [List.cons_append, List.cons.injEq] at h2
     have := h3 a (qZb ..)
     rw [← h2.1] at this
     unfold fw at *
     omega
   ·exact h3 y hy
  ·obtain ⟨m, A, B, h1, h2, h3, h4⟩ := Kv L r
   have e : bestL tf (x :: L) (some r) = some (some m) := by rw [bestL, fw_eq, Option.bind_some, decide_eq_false hx, cond_false, h1]
   cases A with
   | nil =>
    simp only [List.nil_append, List.cons.injEq] at h2
    obtain ⟨rfl, rfl⟩ := h2
    refine ⟨r, [], x :: L, e, rfl, (fun y h => by cases h), fun y hy => ?_⟩
    rcases List.mem_cons.1 hy with rfl | hy
    ·exact hx
    ·exact h4 y hy
   | cons a A =>
    simp only [List.cons_append, List.cons.injEq] at h2
    obtain ⟨rfl, rfl⟩ := h2
    refine ⟨m, r :: x :: A, B, e, rfl, fun y hy => ?_, h4⟩
    have hr := h3 r (qZb ..)
    rcases List.mem_cons.1 hy with rfl | hy
    ·exact hr
    ·rcases List.mem_cons.1 hy with rfl | hy
     ·unfold fw at *; omega
     ·exact h3 y (qZa _ hy)
theorem Kw (hf : FineS s) (hs : sheetB s = true) (ho : outB s [] = true) : ∃ L FL, vb s [] = some L ∧ nC s [] = some FL ∧ (∀ y, y ∈ L ↔ IsS (possL [] s.Words 0) y ∧ (y.length : Int) ≤ s.Rows) ∧ L.Pairwise ordE ∧ FL.length ≤ 277 ∧ (FL.map fun l => l.lx.Ends).Sublist L ∧ (∀ l ∈ FL, LaidOk s [] l) ∧ (∀ y ∈ L, fitS s (GLx.mk [] y) 0 = true → ∃ l ∈ FL, l.lx.Ends = y) ∧
  ((FL = [] ∧ vn s = some (GLx.mk [] [], 0, 5)) ∨ ∃ m A B, FL = A ++ m :: B ∧ vn s = some (m.lx, m.stretch, 0) ∧ (∀ y ∈ A, fw m y) ∧ ∀ y ∈ B, ¬ fw y m) := by
 have h := sh_of hs
 obtain ⟨L, l1, l2, l3, l4⟩ := Kk h ho rfl (by simp)
 obtain ⟨FL, f1, f2, f3, f4⟩ := Tw h (out := []) rfl L fun y hy => ((l2 y).1 hy).1
 have hfit : nC s [] = some FL := by rw [nC, l1, Option.bind_some, f1]
 have bn : FL.length ≤ 277 := by
  have := f2.length_le
  rw [List.length_map] at this
  omega
 refine ⟨L, FL, l1, hfit, l2, l3, bn, f2, f3, f4, ?_⟩
 cases FL with
 | nil =>
  left
  refine ⟨rfl, ?_⟩
  simp only [vn, Dr s hf, hs, Option.bind_some, cond_true, hfit]
  rfl
 | cons r FL =>
  right
  obtain ⟨m, A, B, h1, h2, h3, h4⟩ := Kv FL r
  refine ⟨m, A, B, h2, ?_, h3, h4⟩
  simp only [vn, Dr s hf, hs, Option.bind_some, cond_true, hfit]
  rw [bestL, h1]
  rfl





def mx : List Int → Int → Int
 | [], c => c
 | e :: p, c => mx p (if c < e then e else c)
end Go.V
end
section
namespace Go.V
open Go Go.Proofs IntKind Tryz
theorem Kx {y : VV} (hy : nilS y = .sl [] 0 true) (P : Program) (H : Nat → Option Vo) (t : TypeId) : vlen P H t y = vlen P H t (.lit (.slice none 0 0)) := by
 rcases Ty hy with rfl | rfl
 ·rfl
 ·unfold vlen
  cases P.underlying t with
  | none => rfl
  | some d => cases d <;> simp [sls]
end Go.V
namespace Go.V
theorem nD {α : Type} : ((([] : List α).length : Nat) : Int) = 0 := rfl
end Go.V
namespace Go.V
open Go Go.Proofs IntKind Tryz
theorem AB : i64.wrap (0 + 1) = 1 := by decide
end Go.V
end
section
namespace Go.V
open Go Go.Proofs IntKind Tryz

end Go.V
end
section
namespace Go.V
open Go Go.Proofs IntKind Tryz
section
variable {P : Program} {H : Nat → Option Vo} {γ : Nat} {k : VV → Ve → Prop} {t t2 e e2 β δ cx : Nat} {b : Nat} {el fx : Option TypeId} {cs : List VV} {y : VV}
end
section
variable {P : Program} {H : Nat → Option Vo} {γ : Nat} {k : VV → Ve → Prop} {t t2 e e2 β δ cx : Nat} {b : Nat} {el fx : Option TypeId} {y : VV} {α : Type} {enc : α → List VV} {xs : List α} {a : α}
end
end Go.V
end
section
namespace Go.V
open Go Go.Proofs IntKind Tryz











def chG (f : List GLe → List (List GLe)) : List GLe → List (List GLe)
 | [] => []
 | e :: q => (f q).map (e :: ·) ++ chG f q
def ch : Nat → List GLe → List (List GLe)
 | 0, q => if q = [] then [[]] else []
 | d + 1, q => if q = [] then [[]] else chG (ch d) q
def xp (s : GLs) : Option (Int × Int) := Option.bind (rA s) fun b => cond b (Option.bind (nC s []) fun L => cond (lenOk L) (some ((List.length L : Int), 0)) none) (some (0, 2))
theorem Tz (s : GLs) (R : Int × Int) (h : xp s = some R) : ah prog G0 43 [.agg (cGLs s)] (.tree (.tup [.lit (.int .i64 R.1), .lit (.int .i64 R.2)])) := by
 refine ah.runR mixed call43 func43 rfl (by simp [ntmps43]; kernel_rfl) ?_
 unfold xp at h
 rcases o0 : rA s with _ | b
 ·rw [o0] at h; cases h
 rw [o0, Option.bind_some] at h
 simp only [vz, tyf, seval, ua, rg]
 refine ktA (Ii _ _ o0) ?_
 cases b with
 | false =>
  simp only [cond_false, Option.some.injEq] at h
  subst h
  simp only [vz, tyf, seval, ua, rg, Bool.not_false]
  refine bO (x := .tup [.lit (.int .i64 0), .lit (.int .i64 2)]) (by simp only [results43, resV, resL, aw, cn, cq, uw, cr, tyf, nm, seval] <;> rfl) ?_
  refine cm (by simp only [tre, an, Bool.and_self]) ?_
  simp only [outV, nrm, seval, List.map_cons, List.map_nil]
 | true =>
 rw [cond_true] at h
 rcases o2 : nC s [] with _ | L
 ·rw [o2] at h; cases h
 rw [o2, Option.bind_some] at h
 have hi := Kn s [] L o2
 simp only [vz, tyf, seval, ua, rg, Bool.not_true]
 refine ktreeR ?_ (Km s []) ?_
 ·simp only [tre, an, Bool.and_self]
 cases hln : lenOk L with
 | false => rw [hln] at h; cases h
 | true =>
 rw [hln, cond_true] at h
 have hlt : L.length < 9223372036854775808 := by simpa [lenOk] using hln
 refine bQ (fun tm => tm 4 = .ptr 6 0 ∧ tm 9 = itF s []) (by refine ⟨?_, ?_⟩ <;> simp only [ua, seval]) ?_
 rintro tm ⟨e4, e9⟩
 simp only [vz, tyf, seval, ua, rg]
 refine Dz hi (by first | (simp only [gi, gj, e9, fL, seval] <;> rfl) | rfl) ?_
 intro LO hLO
 simp only [Option.some.injEq] at h
 obtain ⟨J, hJ⟩ : ∃ J : Option (List VV) → List (Nat × Vo) → Prop, J = (fun o hp => match o with
  | some l => ∃ c : Nat, c + l.length = L.length ∧ hp = [(10, .deferred (some [])), (11, LO), (6, .cells (some 3) [.lit (.int .i64 c)])]
  | none => False) := ⟨_, rfl⟩
 refine ⟨ownI J, Ks, ?_, ?_, ?_⟩
 ·rintro v rest Fr H nx hFr ⟨hp, hown, hj⟩
  rw [hJ] at hj
  obtain ⟨c, hc, rfl⟩ := hj
  simp only [List.length_cons] at hc
  obtain ⟨XC, T0, Ky⟩ := hown.head
  obtain ⟨XD, qF, iu⟩ := hown.tail.head
  obtain ⟨l6, n6, H6⟩ := hown.tail.tail.head
  refine D1 mixed (psl := [10]) hLO iu D2 rfl (by kernel_rfl) (by kernel_rfl) ?_
  intro LB LD hLB hLD
  refine D3 (fun tm => tm 4 = .ptr 6 0) (by simp only [D4, ntmps43, e4, seval]) ?_
  clear e4 e9
  rintro tm e4
  have hw : i64.wrap ((c : Int) + 1) = ((c + 1 : Nat) : Int) := by rw [IntWalk.i64_in _ (by omega)]; simp
  simp only [vz, tyf, seval, ua, rg, RStart, e4, iu, H6, hw]
  refine ⟨by simp only [aQ, seval], (show nx ≤ nx + 3 by omega), fun γ hγ => ?_, ?_⟩
  ·have g11 : γ ≠ 11 := fun e => qF (e ▸ hγ)
   have g6 : γ ≠ 6 := fun e => n6 (e ▸ hγ)
   simp only [updH]
   repeat rw [if_neg (by first | assumption | omega)]
  ·simp only [if_true]
   refine ⟨[(10, .deferred (some [])), (11, LO), (6, .cells (some 3) [.lit (.int .i64 ((c + 1 : Nat) : Int))])], Own.cons (show 10 < nx + 3 by omega) T0 ?_ (Own.cons (show 11 < nx + 3 by omega) qF ?_ (Own.cons (show 6 < nx + 3 by omega) n6 ?_ Own.nil)), ?_⟩
   rotate_left 3
   ·rw [hJ]
    exact ⟨c + 1, by omega, rfl⟩
   all_goals simp only [aQ, seval, Ky]
 ·refine ⟨[(10, .deferred (some [])), (11, LO), (6, .cells (some 3) [.lit (.int .i64 ((0 : Nat) : Int))])], Own.cons (show 10 < 12 by omega) (fun h => h) ?_ (Own.cons (show 11 < 12 by omega) (fun h => h) ?_ (Own.cons (show 6 < 12 by omega) (fun h => h) ?_ Own.nil)), ?_⟩
  rotate_left 3
  ·rw [hJ]
   exact ⟨0, by simp, rfl⟩
  ·simp only [aQ, seval]
  ·simp only [aQ, seval]
  ·simp only [aQ, seval] <;> rfl
 ·rintro H' nx' (⟨hp, hown, hj⟩ | ⟨hp, hown, hj⟩)
  ·rw [hJ] at hj
   obtain ⟨c, hc, rfl⟩ := hj
   simp only [List.length_nil, Nat.add_zero] at hc
   subst hc
   subst h
   obtain ⟨XC, T0, Ky⟩ := hown.head
   obtain ⟨XD, qF, iu⟩ := hown.tail.head
   obtain ⟨l6, n6, H6⟩ := hown.tail.tail.head
   refine D7 hLO iu ?_
   intro LX
   simp only [vz, tyf, seval, ua, rg, e4, H6]
   refine xo (by simp only [aQ, seval, Ky]) ?_
   refine bO (x := .tup [.lit (.int .i64 (L.length : Int)), .lit (.int .i64 0)]) (by simp only [results43, resV, resL, aw, cn, cq, uw, cr, tyf, nm, seval] <;> rfl) ?_
   refine cm (by simp only [tre, an, Bool.and_self]) ?_
   simp only [outV, nrm, seval, List.map_cons, List.map_nil]
  ·rw [hJ] at hj
   exact hj.elim
def tg (ae : GLs) : Option (Int × Int) := Option.bind (vn ae) (fun r1 => some ((List.length r1.1.Ends : Int), r1.2.2))
theorem T1 (ae : GLs) (R : Int × Int) (h : tg ae = some R) : ah prog G0 37 [.agg (cGLs ae)] (.tree (.tup [.lit (.int .i64 R.1), .lit (.int .i64 R.2)])) := by
 refine ah.runR mixed call37 func37 rfl (by simp [ntmps37]; kernel_rfl) ?_
 obtain ⟨KF, h, kF, kN⟩ := fg h
 simp only [tg] at h
 obtain ⟨r2, o3, h⟩ := optI h kN
 try simp only [hs] at h
 simp only [vz, tyf, nm, seval]
 refine ktA (XB _ _ o3) ?_
 refine bQ (fun tm => tm 9 = .tup [.agg (cGLx r2.1), .lit (.int .i64 r2.2.1), .lit (.int .i64 r2.2.2)] ∧ True) (by refine ⟨?_, trivial⟩ <;> first | (simp only [ua, nm, seval] <;> rfl) | rfl) ?_
 rintro tm ⟨e4, _⟩
 try simp only [vz, tyf, e4, nm, seval]
 refine bO (x := (.tup [.lit (.int .i64 (List.length r2.1.Ends : Int)), .lit (.int .i64 r2.2.2)])) (by first | (simp only [results37, resV, resL, aw, cn, cq, uw, cr, tyf, nm, seval] <;> rfl) | rfl) ?_
 obtain rfl := kF _ h
 refine cm ?_ ?_
 ·simp only [tre, an, Bool.and_self]
 ·first | (simp only [outV, uw, cw, cr, tyf, nrm, aq, e4, nm, seval] <;> rfl) | rfl



theorem Kz {s : GLs} (h : Sh s) {out : List Int} (hl : lenOk out = true) : ∀ (L : List (List GLe)), (∀ y ∈ L, IsS (possL out s.Words 0) y) → ∃ FL, fitO s out L = some FL ∧ FL.map (fun l => l.lx.Ends) = L.filter fun y => fitS s (GLx.mk out y) 0
 | [], _ => ⟨[], rfl, rfl⟩
 | y :: L, hy => by
  obtain ⟨FL, f1, f2⟩ := Kz h hl L fun y hy' => hy y (qZa _ hy')
  obtain ⟨l, w, o, e1, e2, e3, e4, e5, e6, e7⟩ := Tp h (x := GLx.mk out y) hl (hy y (qZb ..))
  subst e4
  cases o with
  | none =>
   have e3' : fitS s (GLx.mk out y) 0 = false := e3
   refine ⟨FL, by simp only [fitO, e1, e2, f1, Option.bind_some]; rfl, ?_⟩
   rw [List.filter_cons_of_neg (by rw [e3']; simp), f2]
  | some K =>
   refine ⟨setS l (K : Int) :: FL, by simp only [fitO, e1, e2, f1, Option.bind_some]; rfl, ?_⟩
   have : (setS l (K : Int)).lx.Ends = y := by show l.lx.Ends = y; rw [e6]
   rw [List.map_cons, this, List.filter_cons_of_pos (p := fun y => fitS s (GLx.mk out y) 0) (Tx e3), f2]
theorem good_of {s : GLs} (hf : FineS s) (hs : sheetB s = true) {out : List Int} (ho : outB s out = true) (hl : lenOk out = true) {y : List GLe} (hi : IsS (possL out s.Words 0) y) (hr : (y.length : Int) ≤ s.Rows) : Good s (GLx.mk out y) := by
 have h3 := (sh_of hs).rows
 exact ⟨hf, hs, ho, hi, hl, kH (show y.length < _ by omega)⟩
end Go.V
end
section
namespace Go.V
open Go Go.Proofs IntKind Tryz
set_option maxRecDepth 4000
set_option maxHeartbeats 4000000
def AD (s : GLs) (out : List Int) : Option Bool := Option.bind (nC s out) fun L => some (!L.isEmpty)
theorem XE (s : GLs) (out : List Int) (R : Bool) (h : AD s out = some R) : ah prog G0 101 [.agg (cGLs s), vx eI out] (.tree (.lit (.bool R))) := by
 refine ah.runR mixed call101 func101 rfl (by simp [ntmps101]; kernel_rfl) ?_
 unfold AD at h
 rcases o2 : nC s out with _ | L
 ·rw [o2] at h; cases h
 rw [o2, Option.bind_some] at h
 have hi := Kn s out L o2
 simp only [vz, tyf, seval, ua, rg]
 refine ktreeR ?_ (Km s out) ?_
 ·simp only [tre, an, qC, Bool.and_self]
 refine bQ (fun tm => tm 4 = .ptr 1 0 ∧ tm 7 = itF s out) (by refine ⟨?_, ?_⟩ <;> simp only [ua, seval]) ?_
 rintro tm ⟨e2, e5⟩
 simp only [vz, tyf, seval, ua, rg]
 refine Dz hi (by first | (simp only [gi, gj, e5, fL, seval] <;> rfl) | rfl) ?_
 intro LO hLO
 simp only [Option.some.injEq] at h
 obtain ⟨J, hJ⟩ : ∃ J : Option (List VV) → List (Nat × Vo) → Prop, J = (fun o hp => match o with
  | some l => hp = [(5, .deferred (some [])), (6, LO), (1, .cells (some 4) [.lit (.bool false)])] ∧ (!l.isEmpty) = R
  | none => ∃ LD : Code → Vo, (∃ tml ps az bo d, LD = fun c => Vo.loop .done (some c) tml ps az bo d) ∧ hp = [(5, .deferred (some [])), (6, LD .ret), (1, .cells (some 4) [.lit (.bool true)])] ∧ R = true) := ⟨_, rfl⟩
 refine ⟨ownI J, Ks, ?_, ?_, ?_⟩
 ·rintro v rest Fr H nx hFr ⟨hp, hown, hj⟩
  rw [hJ] at hj
  obtain ⟨rfl, hR⟩ := hj
  obtain ⟨l5, n5, H5⟩ := hown.head
  obtain ⟨l6, n6, H6⟩ := hown.tail.head
  obtain ⟨l1, n1, H1⟩ := hown.tail.tail.head
  refine D1 mixed (psl := [8]) hLO H6 D2 rfl (by kernel_rfl) (by kernel_rfl) ?_
  intro LB LD hLB hLD
  refine D3 (fun tm => tm 4 = .ptr 1 0) (by simp only [D4, ntmps101, e2, seval]) ?_
  clear e2 e5
  rintro tm e2
  simp only [vz, tyf, seval, ua, rg, RStart, e2, H6, H1]
  refine ⟨by simp only [aQ, seval], (show nx ≤ nx + 1 by omega), fun γ hγ => ?_, ?_⟩
  ·have g6 : γ ≠ 6 := fun e => n6 (e ▸ hγ)
   have g1 : γ ≠ 1 := fun e => n1 (e ▸ hγ)
   simp only [updH]
   repeat rw [if_neg (by first | assumption | omega)]
  ·simp only [Bool.false_eq_true, if_false]
   refine ⟨[(5, .deferred (some [])), (6, LD .ret), (1, .cells (some 4) [.lit (.bool true)])], Own.cons (show 5 < nx + 1 by omega) n5 ?_ (Own.cons (show 6 < nx + 1 by omega) n6 ?_ (Own.cons (show 1 < nx + 1 by omega) n1 ?_ Own.nil)), ?_⟩
   rotate_left 3
   ·rw [hJ]
    exact ⟨LD, ⟨_, _, _, _, _, hLD⟩, rfl, hR.symm⟩
   ·simp only [aQ, seval, H5]
   ·simp only [aQ, seval]
   ·simp only [aQ, seval]
 ·refine ⟨[(5, .deferred (some [])), (6, LO), (1, .cells (some 4) [.lit (.bool false)])], Own.cons (show 5 < 7 by omega) (fun h => h) ?_ (Own.cons (show 6 < 7 by omega) (fun h => h) ?_ (Own.cons (show 1 < 7 by omega) (fun h => h) ?_ Own.nil)), ?_⟩
  rotate_left 3
  ·rw [hJ]
   exact ⟨rfl, by rw [← h]; cases L <;> rfl⟩
  ·simp only [aQ, seval]
  ·simp only [aQ, seval]
  ·simp only [aQ, seval]
 ·rintro H' nx' (⟨hp, hown, hj⟩ | ⟨hp, hown, hj⟩)
  ·rw [hJ] at hj
   obtain ⟨rfl, hR⟩ := hj
   obtain ⟨l5, n5, H5⟩ := hown.head
   obtain ⟨l6, n6, H6⟩ := hown.tail.head
   obtain ⟨l1, n1, H1⟩ := hown.tail.tail.head
   refine D7 hLO H6 ?_
   intro LX
   simp only [vz, tyf, seval, ua, rg, e2, H1]
   have hRb : R = false := by simpa using hR.symm
   subst hRb
   refine xo (by simp only [aQ, seval, H5]) ?_
   refine bO (x := .lit (.bool false)) (by simp only [results101, resV, resL, aw, cn, cq, uw, cr, tyf, e2, H1, nm, seval] <;> rfl) ?_
   refine cm (by simp only [tre, an]) ?_
   simp only [outV, nrm, seval]
  ·rw [hJ] at hj
   obtain ⟨LD, ⟨tml, ps, az, bo, d, hLD⟩, rfl, hR⟩ := hj
   obtain ⟨l5, n5, H5⟩ := hown.head
   obtain ⟨l6, n6, H6⟩ := hown.tail.head
   obtain ⟨l1, n1, H1⟩ := hown.tail.tail.head
   refine Tt hLD H6 ?_
   intro LX
   simp only [vz, tyf, seval, ua, rg, e2, H1]
   have hRb : R = true := hR
   subst hRb
   refine xo (by simp only [aQ, seval, H5]) ?_
   refine bO (x := .lit (.bool true)) (by simp only [results101, resV, resL, aw, cn, cq, uw, cr, tyf, e2, H1, nm, seval] <;> rfl) ?_
   refine cm (by simp only [tre, an]) ?_
   simp only [outV, nrm, seval]
end Go.V
end
section
namespace Go.V
open Go Go.Proofs IntKind Tryz
def WW : List GLw → List GLw → Prop
 | [], [] => True
 | [], _ :: _ => False
 | _ :: _, [] => False
 | a :: p, b :: q => (b.Signs = a.Signs ∧ ∀ c ∈ a.Cuts, c ∈ b.Cuts) ∧ WW p q
theorem AE : ∀ a : List GLw, WW a a
 | [] => trivial
 | w :: a => ⟨⟨rfl, fun _ h => h⟩, AE a⟩
theorem AF {w w' : GLw} (hs : w'.Signs = w.Signs) (hc : ∀ c ∈ w.Cuts, c ∈ w'.Cuts) : ∀ (a : List GLw) (k : Nat), a[k]? = some w → WW a (a.set k w')
 | [], k, h => by simp at h
 | x :: a, 0, h => by
  rw [List.getElem?_cons_zero] at h
  cases h
  exact ⟨⟨hs, hc⟩, AE a⟩
 | x :: a, k + 1, h => by
  rw [List.getElem?_cons_succ] at h
  exact ⟨⟨rfl, fun _ h => h⟩, AF hs hc a k h⟩
theorem AG : ∀ (a b : List GLw) (i : Int), WW a b → ltrsL [] a i = ltrsL [] b i
 | [], [], _, _ => rfl
 | [], _ :: _, _, h => h.elim
 | _ :: _, [], _, h => h.elim
 | a :: p, b :: q, i, ⟨⟨h1, _⟩, h3⟩ => by rw [ltrsL, ltrsL, h1, AG p q (i + 1) h3]
theorem AH : ∀ (a b : List GLw) (i : Int), WW a b → (possL [] a i).getLast? = (possL [] b i).getLast?
 | [], [], _, _ => rfl
 | [], _ :: _, _, h => h.elim
 | _ :: _, [], _, h => h.elim
 | a :: p, b :: q, i, ⟨⟨h1, _⟩, h3⟩ => by
  rw [possL, possL]
  simp only [List.contains_nil, cond_false]
  rw [List.getLast?_append, List.getLast?_append, AH p q (i + 1) h3]
  simp only [posW, List.getLast?_append, List.getLast?_singleton, h1]
  rfl
theorem AI : ∀ (a b : List GLw) (i : Int), WW a b → ∀ e ∈ possL [] a i, e ∈ possL [] b i
 | [], [], _, _, e, h => h
 | [], _ :: _, _, h, _, _ => h.elim
 | _ :: _, [], _, h, _, _ => h.elim
 | a :: p, b :: q, i, ⟨⟨h1, h2⟩, h3⟩, e, he => by
  rw [possL] at he ⊢
  simp only [List.contains_nil, cond_false, List.mem_append] at he ⊢
  rcases he with he | he
  ·refine .inl ?_
   unfold posW at he ⊢
   rw [h1]
   rcases List.mem_append.1 he with he | he
   ·obtain ⟨c, hc, rfl⟩ := List.mem_map.1 he
    exact List.mem_append_left _ (List.mem_map_of_mem (h2 c hc))
   ·exact List.mem_append_right _ he
  ·exact .inr (AI p q (i + 1) h3 e he)
abbrev NS (s : GLs) (ws : List GLw) (w r : Int) : GLs := GLs.mk s.Widths s.Pairs s.Other s.Gap s.Hyphen ws w r
theorem AJ (s : GLs) (ws : List GLw) (w r k j : Int) : ∀ ms : List Glm, addL (NS s ws w r) k j ms = addL s k j ms
 | [] => rfl
 | m :: ms => by
  rw [addL, addL, AJ s ws w r k j ms]
  rfl
def PF (A : GLs) (y : List GLe) : Prop := IsS (possL [] A.Words 0) y ∧ (y.length : Int) ≤ A.Rows ∧ fitS A (GLx.mk [] y) 0 = true
theorem PF_N {s : GLs} {a b : List GLw} {w w' r r' : Int} (h : WW a b) (hw : w ≤ w') (hr : r ≤ r') {y : List GLe} (p : PF (NS s a w r) y) : PF (NS s b w' r') y := by
 obtain ⟨⟨p1, p2, p3⟩, p4, p5⟩ := p
 have p4 : (y.length : Int) ≤ r := p4
 refine ⟨⟨p1, fun e he => AI _ _ _ h e (p2 e he), p3.trans (AH _ _ _ h)⟩, qZl p4 hr, ?_⟩
 unfold fitS at p5 ⊢
 rw [Bool.and_eq_true, F9, decide_eq_true_eq] at p5 ⊢
 refine ⟨fun j j1 j2 => ?_, qZl p4 hr⟩
 have := p5.1 j j1 j2
 unfold rowF marksOf at this ⊢
 rw [AJ] at this ⊢
 have e : ltrsL [] b 0 = ltrsL [] a 0 := (AG _ _ _ h).symm
 simp only [e] at this ⊢
 exact qZl this hw
theorem K1 {s : GLs} (h : Sh s) : outB s [] = true := by
 have := h.nw
 unfold outB
 rw [show decide ((([] : List Int).length : Int) < s.Words.length) = true from decide_eq_true (by simp; omega)]
 rfl
variable {A : GLs}
theorem AK (h : Sh A) : ∃ b, AD A [] = some b ∧ (b = true ↔ ∃ y, PF A y) := by
 obtain ⟨L, l1, l2, l3, l4⟩ := Kk h (K1 h) rfl (by simp)
 obtain ⟨FL, f1, f2⟩ := Kz h (out := []) rfl L fun y hy => ((l2 y).1 hy).1
 refine ⟨!FL.isEmpty, by simp only [AD, nC, l1, Option.bind_some, f1], ?_⟩
 constructor
 ·intro hh
  cases FL with
  | nil => cases hh
  | cons l FL =>
   have hm : l.lx.Ends ∈ L.filter fun y => fitS A (GLx.mk [] y) 0 := by rw [← f2]; simp
   rw [List.mem_filter] at hm
   exact ⟨_, ((l2 _).1 hm.1).1, ((l2 _).1 hm.1).2, hm.2⟩
 ·rintro ⟨y, p1, p2, p3⟩
  have hm : y ∈ L.filter fun y => fitS A (GLx.mk [] y) 0 := List.mem_filter.2 ⟨(l2 y).2 ⟨p1, p2⟩, p3⟩
  rw [← f2] at hm
  cases FL with
  | nil => cases hm
  | cons l FL => rfl
theorem AM (hf : FineS A) (hs : sheetB A = true) : ∃ F : List (List GLe), xp A = some ((F.length : Int), 0) ∧ F.Nodup ∧ ∀ y, y ∈ F ↔ PF A y := by
 have h := sh_of hs
 obtain ⟨L, l1, l2, l3, l4⟩ := Kk h (K1 h) rfl (by simp)
 obtain ⟨FL, f1, f2⟩ := Kz h (out := []) rfl L fun y hy => ((l2 y).1 hy).1
 have hn : L.Nodup := l3.imp fun h => h.1
 have bn : FL.length = (L.filter fun y => fitS A (GLx.mk [] y) 0).length := by
  have := congrArg List.length f2
  rwa [List.length_map] at this
 have hfl : (L.filter fun y => fitS A (GLx.mk [] y) 0).length ≤ L.length := List.length_filter_le ..
 refine ⟨L.filter fun y => fitS A (GLx.mk [] y) 0, ?_, hn.filter _, fun y => ?_⟩
 ·simp only [xp, Dr A hf, hs, Option.bind_some, cond_true, nC, l1, f1]
  rw [kH (by omega), cond_true, bn]
 ·rw [List.mem_filter, l2 y]
  exact ⟨fun h => ⟨h.1.1, h.1.2, h.2⟩, fun h => ⟨⟨h.1, h.2.1⟩, h.2.2⟩⟩
theorem AN {α : Type} [BEq α] [LawfulBEq α] : ∀ (A B : List α), A.Nodup → (∀ a ∈ A, a ∈ B) → A.length ≤ B.length
 | [], _, _, _ => Nat.zero_le _
 | a :: A, B, h, hs => by
  rw [List.nodup_cons] at h
  have hb := hs a (qZb ..)
  have := AN A (B.erase a) h.2 fun x hx => (List.mem_erase_of_ne (by rintro rfl; exact h.1 hx)).2 (hs x (qZa _ hx))
  rw [List.length_erase_of_mem hb] at this
  have := List.length_pos_of_mem hb
  simp only [List.length_cons]
  omega
theorem T2 (hf : FineS A) (hs : sheetB A = true) : (∃ y, PF A y ∧ tg A = some ((y.length : Int), 0) ∧ ∀ z, PF A z → y.length ≤ z.length) ∨ (tg A = some (0, 5) ∧ ∀ z, ¬ PF A z) := by
 obtain ⟨L, FL, l1, l2, l3, l4, l5, l6, l7, l8, l9⟩ := Kw hf hs (K1 (sh_of hs))
 rcases l9 with ⟨hFL, hS⟩ | ⟨m, A', B, hFL, hS, hA, hB⟩
 ·refine .inr ⟨by simp only [tg, hS, Option.bind_some]; rfl, ?_⟩
  rintro y ⟨h1, h2, h3⟩
  obtain ⟨l, hl, _⟩ := l8 y ((l3 y).2 ⟨h1, h2⟩) h3
  rw [hFL] at hl; cases hl
 ·have hm : m ∈ FL := by rw [hFL]; simp
  obtain ⟨a1, a2, K, _, a4⟩ := l7 m hm
  have hmL : m.lx.Ends ∈ L := l6.subset (List.mem_map_of_mem hm)
  have he : m.lx = GLx.mk [] m.lx.Ends := by
   rw [show m.lx = GLx.mk m.lx.Out m.lx.Ends from rfl, a2]
  have hfit := Tx a4
  rw [he] at hfit
  refine .inl ⟨m.lx.Ends, ⟨((l3 _).1 hmL).1, ((l3 _).1 hmL).2, hfit⟩, by simp only [tg, hS, Option.bind_some], ?_⟩
  rintro z ⟨h1, h2, h3⟩
  obtain ⟨l, hl, rfl⟩ := l8 z ((l3 z).2 ⟨h1, h2⟩) h3
  rw [hFL] at hl
  rcases List.mem_append.1 hl with hl | hl
  ·have := hA l hl
   unfold fw at this
   omega
  ·rcases List.mem_cons.1 hl with rfl | hl
   ·exact qZg _
   ·have := hB l hl
    unfold fw at this
    omega
def vo  : List GLw → Int → Int → Option (LOut (Int) (Int))
 | [], nk, ep => some (.go ep)
 | e0 :: p0, nk, ep => vo p0 (nk + 1) (i64.wrap (ep + (List.length e0.Signs : Int)))
def xq (ae : GLs) : Option (Int) := cond (lenOk ae.Words) (lbind (vo ae.Words 0 0) (fun r2 => some r2) (fun c1 => some c1) (fun _ _ => none)) none
theorem T3 (ae : GLs) (R : Int) (h : xq ae = some R) : ah prog G0 100 [.agg (cGLs ae)] (.tree (.lit (.int .i64 R))) := by
 refine ah.runR mixed call100 func100 rfl (by simp [ntmps100]; kernel_rfl) ?_
 obtain ⟨KF, h, kF, kN⟩ := fg h
 simp only [xq] at h
 cases g4 : (lenOk ae.Words)
 ·simp only [g4, hs] at h
  exact absurd h kN
 simp only [g4, hs] at h
 simp only [vz, tyf, g4, nm, seval]
 obtain ⟨K3, h, sq, qm, CK, CL⟩ := iy h kN
 obtain ⟨f3, qW, h⟩ := call3 h
 obtain ⟨I3, jL⟩ : ∃ I : Nat → St → Prop, I = (fun m st => ∃ (p3 : List GLw) (kV : Int) (eu : Int), m = List.length p3 ∧ 0 ≤ kV ∧ List.drop (Int.toNat kV) ae.Words = p3 ∧ st.df = [] ∧ 7 ≤ st.nx ∧ st.tm 7 = .sl (ad cGLw ae.Words) (List.length ae.Words) false ∧ st.tm 8 = .lit (.int .i64 (List.length ae.Words : Int)) ∧ st.tm 3 = .lit (.int .i64 eu) ∧ st.tm 9 = .lit (.int .i64 kV) ∧ K3 (f3 p3 kV eu)) := ⟨_, rfl⟩
 refine loopK mixed (by kernel_rfl) I3 (List.length ae.Words) (by rw [jL]; refine ⟨ae.Words, 0, 0, rfl, qZf _, rfl, rfl, (show 7 ≤ 7 by omega), ?_, ?_, ?_, ?_, h⟩ <;> first | (simp only [ua, nm, seval] <;> rfl) | rfl) ?_
 rintro m ⟨tm, H, m6, df⟩ ba
 rw [jL] at ba
 obtain ⟨p3, kV, eu, rfl, fG, gH, hdf, lM, e5, e6, e7, e8, h⟩ := ba
 simp only at hdf lM e5 e6 e7 e8
 have n9 := ib (m := 7) (b := m6) (by omega)
 subst hdf qW
 cases p3 with
 | nil =>
  have dB : (decide (kV < (List.length ae.Words : Int))) = false := ic fG gH
  simp only [vo, hs, reduceCtorEq] at h
  replace h := qm _ h
  try dsimp only at h
  try simp only [hs] at h
  try simp only [vz, tyf, g4, n9, e5, e6, e7, e8, dB, nm, seval]
  refine bO (x := (.lit (.int .i64 eu))) (by first | (simp only [results100, resV, resL, aw, cn, cq, uw, cr, tyf, g4, n9, dB, nm, seval] <;> rfl) | rfl) ?_
  obtain rfl := kF _ h
  refine cm ?_ ?_
  ·simp only [tre, an, Bool.and_self]
  ·first | (simp only [outV, uw, cw, cr, tyf, nrm, aq, g4, n9, e5, e6, e7, e8, dB, nm, seval] <;> rfl) | rfl
 | cons e3 p3 =>
  have dZ : (decide (kV < (List.length ae.Words : Int))) = true := gZ fG gH
  have kI := fA fG gH
  have kJ := hC fG gH g4
  simp only [vo, hs, reduceCtorEq] at h
  simp only [vz, tyf, g4, n9, e5, e6, e7, e8, dZ, (aF kI), kJ, nm, seval]
  exact ⟨List.length p3, qZc _, by rw [jL]; refine ⟨p3, kV + 1, i64.wrap (eu + (List.length e3.Signs : Int)), rfl, qZl fG (qZk (qZf _)), dm fG gH, rfl, (show 7 ≤ m6 + 13 by omega), e5, e6, ?_, ?_, (by first | exact h | (simp only [dZ]; exact h))⟩ <;> first | (simp only [ua, n9, e5, e6, e7, e8, dZ, kJ, nm, seval] <;> rfl) | rfl⟩
theorem K2 {P : Program} {G : Gb} {m b : Nat} {body : Code} {K : St → Prop} {Q : Vx → St → Prop} {st : St} (I : St → Prop) (h1 : CWp P G m body (Vx.then K (Vx.inBlock b (Vx.then I Q))) st) (h2 : ∀ s, I s → Q .normal s) : CWp P G m body (Vx.then K (Vx.inBlock b Q)) st :=
 CWp.mono body st (T4 (fun _ h => h) (fun e s h => by
  cases e with
  | normal => exact h2 s h
  | exit i =>
   rw [S3] at h ⊢
   split
   ·next hi => rw [if_pos hi] at h; exact h2 s h
   ·next hi => rw [if_neg hi] at h; exact h
  | _ => exact h)) h1
def qG (bC : Int) : List Int → Int → (List Int) → Option (LOut (GLw) ((List Int)))
 | [], pa, gD => some (.go gD)
 | e0 :: p0, pa, gD => cond (decide (e0 < bC)) (cond (ar 8 (List.length (gD ++ [e0]))) (qG bC p0 (pa + 1) (gD ++ [e0])) none) (qG bC p0 (pa + 1) gD)
def AO (bA : GLw) (bC : Int) : Option (GLw) := Option.bind (sliceO bA.Signs 0 bC) (fun s1 => cond (lenOk bA.Cuts) (lbind (qG bC bA.Cuts 0 ([] : List Int)) (fun r3 => some r3) (fun c2 => some (GLw.mk s1 c2 bA.Free)) (fun _ _ => none)) none)
theorem XF (bA : GLw) (bC : Int) (R : GLw) (h : AO bA bC = some R) : ah prog G0 136 [.agg (cGLw bA), .lit (.int .i64 bC)] (.tree (.agg (cGLw R))) := by
 refine ah.runR mixed call136 func136 rfl (by simp [ntmps136]; kernel_rfl) ?_
 obtain ⟨KF, h, kF, kN⟩ := fg h
 simp only [AO] at h
 simp only [vz, tyf, nm, seval]
 refine qZ (fun tm => tm 1 = .lit (.int .i64 bC) ∧ tm 2 = .ptr 0 0 ∧ tm 4 = .ptr 1 0 ∧ True) (by refine ⟨?_, ?_, ?_, trivial⟩ <;> first | (simp only [ua, nm, seval] <;> rfl) | rfl) ?_
 rintro tm ⟨e4, e5, e6, _⟩
 obtain ⟨s7, o8, h⟩ := optI h kN
 try simp only [hs] at h
 try simp only [vz, tyf, e4, e5, e6, nm, seval]
 refine k_slT (w := 1) (enc := eI) (xs := bA.Signs) underlying22 (by kernel_rfl) (fun _ => rfl) (by first | (simp only [gi, gj, gT, fL, e4, e5, e6, nm, seval] <;> rfl) | rfl) (.inl ⟨rfl, rfl⟩) (.inr ⟨.i64, by simp only [Option.map_some]; exact congrArg some (by first | (simp only [gi, gj, gT, fL, e4, e5, e6, nm, seval] <;> rfl) | rfl)⟩) o8 ?_
 simp only [vz, tyf, e4, e5, e6, nm, seval]
 refine lq ⟨?_, ?_⟩
 ·simp only [lr, lu, gf, lv, and_true, true_and]
  repeat' (first | exact trivial | refine qZj ?_ ?_ | rw [gf] | rw [ly] | exact Or.inl (by decide +kernel) | exact Or.inl (by dsimp only; decide +kernel) | (refine Or.inr ⟨?_, ?_⟩ <;> simp; done) | (refine Or.inr ⟨?_, ?_⟩ <;> simp <;> omega) | (refine Or.inr ⟨?_, ?_⟩ <;> simp [Ve.wr] <;> omega) | (refine Or.inr ⟨?_, ?_⟩ <;> simp [rdV, rdO, topName, Op.operands, gi, gT, gj, fL, Ve.wr] <;> omega))
 cases eZ : (lenOk bA.Cuts)
 ·simp only [eZ, hs] at h
  exact absurd h kN
 simp only [eZ, hs] at h
 simp only [vz, tyf, e4, e5, e6, eZ, nm, seval]
 obtain ⟨K9, h, uu, wE, S4, qt⟩ := iy h kN
 obtain ⟨f9, zt, h⟩ := call3 h
 obtain ⟨I9, lW⟩ : ∃ I : Nat → St → Prop, I = (fun m st => ∃ (p9 : List Int) (eW : Int) (dH : List Int) (rM : VV), m = List.length p9 ∧ 0 ≤ eW ∧ List.drop (Int.toNat eW) bA.Cuts = p9 ∧ st.df = [] ∧ 15 ≤ st.nx ∧ st.H 1 = some (.cells (some 79) ([.lit (.slice none 0 0)] ++ [.lit (.slice none 0 0)] ++ [.lit (.bool false)])) ∧ st.H 9 = some (.cells (some 79) ([.sl (ad eI s7) (List.length s7) false] ++ [rM] ++ [.lit (.bool bA.Free)])) ∧ st.tm 1 = .lit (.int .i64 bC) ∧ st.tm 4 = .ptr 1 0 ∧ st.tm 5 = .ptr 9 0 ∧ st.tm 16 = .sl (ad eI bA.Cuts) (List.length bA.Cuts) false ∧ st.tm 17 = .lit (.int .i64 (List.length bA.Cuts : Int)) ∧ st.tm 18 = .lit (.int .i64 eW) ∧ ((∃ (β : Nat) (el : Option TypeId), rM = .ref β 0 (List.length dH) 1 (List.length dH) ∧ β < st.nx ∧ β ≠ 1 ∧ β ≠ 9 ∧ st.H β = some (.cells el (ad eI dH))) ∨ (rM = .lit (.slice none 0 0) ∧ dH = [])) ∧ K9 (f9 p9 eW dH)) := ⟨_, rfl⟩
 refine loopK mixed (by kernel_rfl) I9 (List.length bA.Cuts) (by rw [lW]; refine ⟨bA.Cuts, 0, ([] : List Int), .lit (.slice none 0 0), rfl, qZf _, rfl, rfl, (show 15 ≤ 15 by omega), ?_, ?_, e4, e6, ?_, ?_, ?_, ?_, Or.inr ⟨rfl, rfl⟩, h⟩ <;> first | (simp only [ua, e4, e5, e6, nm, seval] <;> rfl) | rfl) ?_
 rintro m ⟨tm, H, im, df⟩ ba
 rw [lW] at ba
 obtain ⟨p9, eW, dH, rM, rfl, gk, i5, hdf, zu, iu, jr, bF, bN, cJ, dv, di, cM, th, h⟩ := ba
 simp only at hdf zu iu jr bF bN cJ dv di cM th
 have jS := ib (m := 15) (b := im) (by omega)
 subst hdf zt
 rcases th with ⟨vp, pb, rfl, K8, KA, KB, jF⟩ | ⟨rfl, rfl⟩
 ·have AP := jH K8
  have AQ := ne_f KA
  have AR := ne_f KB
  cases p9 with
  | nil =>
   have jB : (decide (eW < (List.length bA.Cuts : Int))) = false := ic gk i5
   simp only [qG, hs, reduceCtorEq] at h
   replace h := wE _ h
   try dsimp only at h
   try simp only [hs] at h
   try simp only [vz, tyf, eZ, jS, bF, bN, cJ, dv, di, cM, iu, jr, AP, jF, AQ, AR, jB, nm, seval]
   refine bO (x := (.agg ([.sl (ad eI s7) (List.length s7) false] ++ [.ref vp 0 (List.length dH) 1 (List.length dH)] ++ [.lit (.bool bA.Free)]))) (by first | (simp only [results136, resV, resL, aw, cn, cq, uw, cr, tyf, eZ, jS, bF, bN, cJ, dv, di, cM, iu, jr, AP, jF, AQ, AR, jB, nm, seval] <;> rfl) | rfl) ?_
   obtain rfl := kF _ h
   refine cm ?_ ?_
   ·simp only [tre, an, Bool.and_self]
   ·first | (simp only [outV, uw, cw, cr, tyf, nrm, aq, eZ, jS, bF, bN, cJ, dv, di, cM, iu, jr, AP, jF, AQ, AR, jB, nm, seval] <;> rfl) | rfl
  | cons e9 p9 =>
   have iW : (decide (eW < (List.length bA.Cuts : Int))) = true := gZ gk i5
   have oN := fA gk i5
   have T5 := hC gk i5 eZ
   simp only [qG, hs, reduceCtorEq] at h
   cases il : (decide (e9 < bC))
   ·simp only [il, hs] at h
    have uB := qZj eZ (qZj jS (qZj iu (qZj jr (qZj AP (qZj jF (qZj AQ (qZj AR (qZj iW (qZj T5 il)))))))))
    simp only [vz, tyf, uB, bF, bN, cJ, dv, di, cM, (ai oN), nm, seval]
    exact ⟨List.length p9, qZc _, by rw [lW]; refine ⟨p9, eW + 1, dH, .ref vp 0 (List.length dH) 1 (List.length dH), rfl, qZl gk (qZk (qZf _)), dm gk i5, rfl, (show 15 ≤ im + 9 by omega), ?_, ?_, bF, bN, cJ, dv, di, ?_, Or.inl ⟨vp, pb, rfl, (by first | omega | (simp only [nm, seval]; done) | (simp only [nm, seval]; omega)), (by first | omega | (intro hh; simp only [uB, reduceCtorEq] at hh)), (by first | omega | (intro hh; simp only [uB, reduceCtorEq] at hh)), ?_⟩, (by first | exact h | (simp only [uB]; exact h))⟩ <;> first | (simp only [ua, uB, bF, bN, cJ, dv, di, cM, nm, seval] <;> rfl) | rfl⟩
   simp only [il, hs] at h
   have qH := qZj eZ (qZj jS (qZj iu (qZj jr (qZj AP (qZj jF (qZj AQ (qZj AR (qZj iW (qZj T5 il)))))))))
   cases gE : (ar 8 (List.length (dH ++ [e9])))
   ·simp only [gE, hs] at h
    exact absurd h qt
   simp only [gE, hs] at h
   simp only [vz, tyf, qH, bF, bN, cJ, dv, di, cM, (ai oN), gE, nm, seval]
   refine k_app (w := 1) (enc := eI) (xs := dH) (ys := ([e9])) (el := pb) (fx := (some 3)) (fun _ => rfl) ct cu underlying22 (by first | rfl | assumption | (simp only [aQ, bp, bI, qH, nm, seval] <;> rfl) | (simp only [aQ, bp, cY, cT, cW, cX, tyf, qH, bF, bN, cJ, dv, di, cM, (ai oN), gE, nm, seval]; done)) (by first | rfl | assumption | (simp only [aQ, bp, bI, qH, nm, seval] <;> rfl) | (simp only [aQ, bp, cY, cT, cW, cX, tyf, qH, bF, bN, cJ, dv, di, cM, (ai oN), gE, nm, seval]; done)) (qZm _) gE ?_
   simp only [vz, tyf, qH, bF, bN, cJ, dv, di, cM, (ai oN), gE, nm, seval]
   exact ⟨List.length p9, qZc _, by rw [lW]; refine ⟨p9, eW + 1, (dH ++ [e9]), .ref (im + 11) 0 (List.length (dH ++ [e9])) 1 (List.length (dH ++ [e9])), rfl, qZl gk (qZk (qZf _)), dm gk i5, rfl, (show 15 ≤ im + 16 by omega), ?_, ?_, bF, bN, cJ, dv, di, ?_, Or.inl ⟨im + 11, (sameEl pb 3), rfl, (by first | omega | (simp only [nm, seval]; done) | (simp only [nm, seval]; omega)), (by first | omega | (intro hh; simp only [qH, reduceCtorEq] at hh)), (by first | omega | (intro hh; simp only [qH, reduceCtorEq] at hh)), ?_⟩, (by first | exact h | (simp only [qH]; exact h))⟩ <;> first | (simp only [ua, qH, bF, bN, cJ, dv, di, cM, nm, seval] <;> rfl) | rfl⟩
 ·cases p9 with
  | nil =>
   have dT : (decide (eW < (List.length bA.Cuts : Int))) = false := ic gk i5
   simp only [qG, hs, reduceCtorEq] at h
   replace h := wE _ h
   try dsimp only at h
   try simp only [hs] at h
   try simp only [vz, tyf, eZ, jS, bF, bN, cJ, dv, di, cM, iu, jr, dT, nm, seval]
   refine bO (x := (.agg ([.sl (ad eI s7) (List.length s7) false] ++ [.lit (.slice none 0 0)] ++ [.lit (.bool bA.Free)]))) (by first | (simp only [results136, resV, resL, aw, cn, cq, uw, cr, tyf, eZ, jS, bF, bN, cJ, dv, di, cM, iu, jr, dT, nm, seval] <;> rfl) | rfl) ?_
   obtain rfl := kF _ h
   refine cm ?_ ?_
   ·simp only [tre, an, Bool.and_self]
   ·first | (simp only [outV, uw, cw, cr, tyf, nrm, aq, eZ, jS, bF, bN, cJ, dv, di, cM, iu, jr, dT, nm, seval] <;> rfl) | rfl
  | cons e9 p9 =>
   have jT : (decide (eW < (List.length bA.Cuts : Int))) = true := gZ gk i5
   have sK := fA gk i5
   have T6 := hC gk i5 eZ
   simp only [qG, hs, reduceCtorEq] at h
   cases vq : (decide (e9 < bC))
   ·simp only [vq, hs] at h
    have KC := qZj eZ (qZj jS (qZj iu (qZj jr (qZj jT (qZj T6 vq)))))
    simp only [vz, tyf, KC, bF, bN, cJ, dv, di, cM, (ai sK), nm, seval]
    exact ⟨List.length p9, qZc _, by rw [lW]; refine ⟨p9, eW + 1, ([] : List Int), .lit (.slice none 0 0), rfl, qZl gk (qZk (qZf _)), dm gk i5, rfl, (show 15 ≤ im + 9 by omega), ?_, ?_, bF, bN, cJ, dv, di, ?_, Or.inr ⟨rfl, rfl⟩, (by first | exact h | (simp only [KC]; exact h))⟩ <;> first | (simp only [ua, KC, bF, bN, cJ, dv, di, cM, nm, seval] <;> rfl) | rfl⟩
   simp only [vq, hs] at h
   have tk := qZj eZ (qZj jS (qZj iu (qZj jr (qZj jT (qZj T6 vq)))))
   cases xr : (ar 8 (List.length (([] : List Int) ++ [e9])))
   ·simp only [xr, hs] at h
    exact absurd h qt
   simp only [xr, hs] at h
   simp only [vz, tyf, tk, bF, bN, cJ, dv, di, cM, (ai sK), xr, nm, seval]
   refine ni (w := 1) (enc := eI) (ys := ([e9])) (fx := (some 3)) (fun _ => rfl) ct cu underlying22 (by first | rfl | assumption | (simp only [aQ, bp, bI, tk, nm, seval] <;> rfl) | (simp only [aQ, bp, cY, cT, cW, cX, tyf, tk, bF, bN, cJ, dv, di, cM, (ai sK), xr, nm, seval]; done)) (qZm _) xr ?_
   simp only [vz, tyf, tk, bF, bN, cJ, dv, di, cM, (ai sK), xr, nm, seval]
   exact ⟨List.length p9, qZc _, by rw [lW]; refine ⟨p9, eW + 1, (([] : List Int) ++ [e9]), .ref (im + 11) 0 (List.length (([] : List Int) ++ [e9])) 1 (List.length (([] : List Int) ++ [e9])), rfl, qZl gk (qZk (qZf _)), dm gk i5, rfl, (show 15 ≤ im + 16 by omega), ?_, ?_, bF, bN, cJ, dv, di, ?_, Or.inl ⟨im + 11, (some 3), rfl, (by first | omega | (simp only [nm, seval]; done) | (simp only [nm, seval]; omega)), (by first | omega | (intro hh; simp only [tk, reduceCtorEq] at hh)), (by first | omega | (intro hh; simp only [tk, reduceCtorEq] at hh)), ?_⟩, (by first | exact h | (simp only [tk]; exact h))⟩ <;> first | (simp only [ua, tk, bF, bN, cJ, dv, di, cM, nm, seval] <;> rfl) | rfl⟩
def vr  : List GLw → Int → Int → (List GLw) → Option (LOut (GLs) (Int × (List GLw)))
 | [], tn, cN, kW => some (.go (cN, kW))
 | e0 :: p0, tn, cN, kW => cond (cN == 0) (some (.go (cN, kW))) (Option.bind (AO e0 (if (List.length e0.Signs : Int) < cN then (List.length e0.Signs : Int) else cN)) (fun r2 => cond (ar 56 (List.length (kW ++ [r2]))) (vr p0 (tn + 1) (i64.wrap (cN - (if (List.length e0.Signs : Int) < cN then (List.length e0.Signs : Int) else cN))) (kW ++ [r2])) none))
def AS (ae : GLs) (fK : Int) : Option (GLs) := Option.bind (xq ae) (fun r1 => cond (lenOk ae.Words) (lbind (vr ae.Words 0 (i64.wrap (r1 - fK)) ([] : List GLw)) (fun r4 => some r4) (fun c3 => some (GLs.mk ae.Widths ae.Pairs ae.Other ae.Gap ae.Hyphen c3.2 ae.Wide ae.Rows)) (fun _ _ => none)) none)
theorem XG (ae : GLs) (fK : Int) (R : GLs) (h : AS ae fK = some R) : ah prog G0 102 [.agg (cGLs ae), .lit (.int .i64 fK)] (.tree (.agg (cGLs R))) := by
 refine ah.runR mixed call102 func102 rfl (by simp [ntmps102]; kernel_rfl) ?_
 obtain ⟨KF, h, kF, kN⟩ := fg h
 simp only [AS] at h
 obtain ⟨r5, o6, h⟩ := optI h kN
 try simp only [hs] at h
 simp only [vz, tyf, nm, seval]
 refine ktA (T3 _ _ o6) ?_
 refine bQ (fun tm => tm 1 = .lit (.int .i64 fK) ∧ tm 2 = .ptr 0 0 ∧ tm 4 = .ptr 1 0 ∧ tm 11 = .lit (.int .i64 r5) ∧ True) (by refine ⟨?_, ?_, ?_, ?_, trivial⟩ <;> first | (simp only [ua, nm, seval] <;> rfl) | rfl) ?_
 rintro tm ⟨e7, e8, e9, aE, _⟩
 cases nE : (lenOk ae.Words)
 ·simp only [nE, hs] at h
  exact absurd h kN
 simp only [nE, hs] at h
 simp only [vz, tyf, e7, e8, e9, aE, nE, nm, seval]
 obtain ⟨T7, h, XH, KD, XI, vt⟩ := iy h kN
 obtain ⟨XJ, KE, h⟩ := call4 h
 obtain ⟨XK, rN⟩ : ∃ I : Nat → St → Prop, I = (fun m st => ∃ (qI : List GLw) (eC : Int) (dU : Int) (eX : List GLw) (ja : VV), m = List.length qI ∧ 0 ≤ eC ∧ List.drop (Int.toNat eC) ae.Words = qI ∧ st.df = [] ∧ 12 ≤ st.nx ∧ st.H 0 = some (.cells (some 28) (cGLs ae)) ∧ st.H 1 = some (.cells (some 28) ([.lit (.slice none 0 0)] ++ [.lit (.slice none 0 0)] ++ [.lit (.int .i64 0)] ++ [.lit (.int .i64 0)] ++ [.lit (.int .i64 0)] ++ [.lit (.int .i64 0)] ++ [.lit (.int .i64 0)] ++ [.lit (.slice none 0 0)] ++ [.lit (.int .i64 0)] ++ [.lit (.int .i64 0)])) ∧ st.tm 2 = .ptr 0 0 ∧ st.tm 4 = .ptr 1 0 ∧ st.tm 15 = .sl (ad cGLw ae.Words) (List.length ae.Words) false ∧ st.tm 16 = .lit (.int .i64 (List.length ae.Words : Int)) ∧ st.tm 5 = .lit (.int .i64 dU) ∧ st.tm 6 = ja ∧ st.tm 17 = .lit (.int .i64 eC) ∧ ((∃ (β : Nat) (el : Option TypeId), ja = .ref β 0 (List.length eX) 3 (List.length eX) ∧ β < st.nx ∧ β ≠ 0 ∧ β ≠ 1 ∧ st.H β = some (.cells el (ad cGLw eX))) ∨ (ja = .lit (.slice none 0 0) ∧ eX = [])) ∧ T7 (XJ qI eC dU eX)) := ⟨_, rfl⟩
 refine loopK mixed (by kernel_rfl) XK (List.length ae.Words) (by rw [rN]; refine ⟨ae.Words, 0, i64.wrap (r5 - fK), ([] : List GLw), .lit (.slice none 0 0), rfl, qZf _, rfl, rfl, (show 12 ≤ 12 by omega), ?_, ?_, e8, e9, ?_, ?_, ?_, ?_, ?_, Or.inr ⟨rfl, rfl⟩, h⟩ <;> first | (simp only [ua, e7, e8, e9, aE, nm, seval] <;> rfl) | rfl) ?_
 rintro m ⟨tm, H, jU, df⟩ ba
 rw [rN] at ba
 obtain ⟨qI, eC, dU, eX, ja, rfl, kZ, nF, hdf, KG, AT, mg, cJ, dv, di, cM, fm, gM, dL, jV, h⟩ := ba
 simp only at hdf KG AT mg cJ dv di cM fm gM dL jV
 have mK := ib (m := 12) (b := jU) (by omega)
 subst hdf KE
 obtain ⟨XL, vu⟩ : ∃ I : St → Prop, I = (fun st => ∃ (pc : Int) (iw : List GLw) (mM : VV), st.df = [] ∧ 12 ≤ st.nx ∧ st.H 0 = some (.cells (some 28) (cGLs ae)) ∧ st.H 1 = some (.cells (some 28) ([.lit (.slice none 0 0)] ++ [.lit (.slice none 0 0)] ++ [.lit (.int .i64 0)] ++ [.lit (.int .i64 0)] ++ [.lit (.int .i64 0)] ++ [.lit (.int .i64 0)] ++ [.lit (.int .i64 0)] ++ [.lit (.slice none 0 0)] ++ [.lit (.int .i64 0)] ++ [.lit (.int .i64 0)])) ∧ st.tm 2 = .ptr 0 0 ∧ st.tm 4 = .ptr 1 0 ∧ st.tm 5 = .lit (.int .i64 pc) ∧ st.tm 6 = mM ∧ ((∃ (β : Nat) (el : Option TypeId), mM = .ref β 0 (List.length iw) 3 (List.length iw) ∧ β < st.nx ∧ β ≠ 0 ∧ β ≠ 1 ∧ st.H β = some (.cells el (ad cGLw iw))) ∨ (mM = .lit (.slice none 0 0) ∧ iw = [])) ∧ T7 (some (.go (pc, iw)))) := ⟨_, rfl⟩
 refine K2 XL ?_ ?_
 ·cases qI with
  | nil =>
   have lZ : (decide (eC < (List.length ae.Words : Int))) = false := ic kZ nF
   simp only [vr, hs, reduceCtorEq] at h
   simp only [vz, tyf, nE, mK, cJ, dv, di, cM, fm, gM, dL, AT, mg, lZ, nm, seval]
   rw [vu]
   exact (by refine ⟨dU, eX, ja, rfl, (show 12 ≤ jU + 1 by omega), ?_, ?_, cJ, dv, fm, ?_, (match jV with | Or.inl ⟨β0, m5, nd, gR, oC, kc, kE⟩ => Or.inl ⟨β0, m5, nd, (by first | assumption | omega | (simp only [nm, seval]; done) | (simp only [nm, seval]; omega)), (by first | assumption | omega | (simp only [nm, seval]; done) | (simp only [nm, seval]; omega)), (by first | assumption | omega | (simp only [nm, seval]; done) | (simp only [nm, seval]; omega)), (by first | exact kE | (simp only [aQ, bp, jH gR, ne_f oC, ne_f kc, nm, seval]; exact kE))⟩ | Or.inr lN => Or.inr lN), (by first | exact h | (simp only [lZ]; exact h))⟩ <;> first | (simp only [ua, mK, cJ, dv, di, cM, fm, gM, dL, AT, mg, lZ, nm, seval] <;> rfl) | rfl)
  | cons aB qI =>
   have jB : (decide (eC < (List.length ae.Words : Int))) = true := gZ kZ nF
   have eY := fA kZ nF
   have rO := hC kZ nF nE
   simp only [vr, hs, reduceCtorEq] at h
   cases fY : (dU == 0)
   ·simp only [fY, hs] at h
    have jC := qZj nE (qZj mK (qZj AT (qZj mg (qZj jB (qZj rO fY)))))
    obtain ⟨pd, iO, h⟩ := optI h vt
    try simp only [hs] at h
    simp only [vz, tyf, jC, cJ, dv, di, cM, fm, gM, dL, (aF eY), nm, seval]
    refine ktA (XF _ _ _ iO) ?_
    refine bQ (fun tm => tm 2 = .ptr 0 0 ∧ tm 4 = .ptr 1 0 ∧ tm 5 = .lit (.int .i64 (i64.wrap (dU - (if (List.length aB.Signs : Int) < dU then (List.length aB.Signs : Int) else dU)))) ∧ tm 15 = .sl (ad cGLw ae.Words) (List.length ae.Words) false ∧ tm 16 = .lit (.int .i64 (List.length ae.Words : Int)) ∧ tm 17 = .lit (.int .i64 eC) ∧ tm 31 = ja ∧ tm 34 = .agg (cGLw pd) ∧ True) (by refine ⟨cJ, dv, ?_, di, cM, dL, ?_, ?_, trivial⟩ <;> first | (simp only [ua, jC, cJ, dv, di, cM, fm, gM, dL, nm, seval] <;> rfl) | rfl) ?_
    rintro tm ⟨ir, hY, fI, gS, gJ, cU, cC, bP, _⟩
    rcases jV with ⟨T8, pf, rfl, KH, KI, KJ, vv⟩ | ⟨rfl, rfl⟩
    ·have rP := jH KH
     have rQ := ne_f KI
     have rR := ne_f KJ
     cases vw : (ar 56 (List.length (eX ++ [pd])))
     ·simp only [vw, hs] at h
      exact absurd h vt
     simp only [vw, hs] at h
     simp only [vz, tyf, jC, (aF eY), ir, hY, fI, gS, gJ, cU, cC, bP, rP, vv, rQ, rR, vw, nm, seval]
     refine k_app (w := 3) (enc := cGLw) (xs := eX) (ys := ([pd])) (el := pf) (fx := (some 79)) (fun _ => rfl) vy v3 underlying26 (by first | rfl | assumption | (simp only [aQ, bp, rS, jC, rP, vv, rQ, rR, nm, seval] <;> rfl) | (simp only [aQ, bp, cY, cT, cW, cX, tyf, jC, (aF eY), ir, hY, fI, gS, gJ, cU, cC, bP, rP, vv, rQ, rR, vw, nm, seval]; done)) (by first | rfl | assumption | (simp only [aQ, bp, rS, jC, rP, vv, rQ, rR, nm, seval] <;> rfl) | (simp only [aQ, bp, cY, cT, cW, cX, tyf, jC, (aF eY), ir, hY, fI, gS, gJ, cU, cC, bP, rP, vv, rQ, rR, vw, nm, seval]; done)) (qZm _) vw ?_
     simp only [vz, tyf, jC, (aF eY), ir, hY, fI, gS, gJ, cU, cC, bP, rP, vv, rQ, rR, vw, nm, seval]
     exact ⟨List.length qI, qZc _, by rw [rN]; refine ⟨qI, eC + 1, i64.wrap (dU - (if (List.length aB.Signs : Int) < dU then (List.length aB.Signs : Int) else dU)), (eX ++ [pd]), .ref (jU + 22) 0 (List.length (eX ++ [pd])) 3 (List.length (eX ++ [pd])), rfl, qZl kZ (qZk (qZf _)), dm kZ nF, rfl, (show 12 ≤ jU + 26 by omega), ?_, ?_, ir, hY, gS, gJ, fI, ?_, ?_, Or.inl ⟨jU + 22, (sameEl pf 79), rfl, (by first | omega | (simp only [nm, seval]; done) | (simp only [nm, seval]; omega)), (by first | omega | (intro hh; simp only [jC, rP, rQ, rR, reduceCtorEq] at hh)), (by first | omega | (intro hh; simp only [jC, rP, rQ, rR, reduceCtorEq] at hh)), ?_⟩, (by first | exact h | (simp only [jC]; exact h))⟩ <;> first | (simp only [ua, jC, ir, hY, fI, gS, gJ, cU, cC, bP, rP, vv, rQ, rR, nm, seval] <;> rfl) | rfl⟩
    ·cases xt : (ar 56 (List.length (([] : List GLw) ++ [pd])))
     ·simp only [xt, hs] at h
      exact absurd h vt
     simp only [xt, hs] at h
     simp only [vz, tyf, jC, (aF eY), ir, hY, fI, gS, gJ, cU, cC, bP, xt, nm, seval]
     refine ni (w := 3) (enc := cGLw) (ys := ([pd])) (fx := (some 79)) (fun _ => rfl) vy v3 underlying26 (by first | rfl | assumption | (simp only [aQ, bp, rS, jC, nm, seval] <;> rfl) | (simp only [aQ, bp, cY, cT, cW, cX, tyf, jC, (aF eY), ir, hY, fI, gS, gJ, cU, cC, bP, xt, nm, seval]; done)) (qZm _) xt ?_
     simp only [vz, tyf, jC, (aF eY), ir, hY, fI, gS, gJ, cU, cC, bP, xt, nm, seval]
     exact ⟨List.length qI, qZc _, by rw [rN]; refine ⟨qI, eC + 1, i64.wrap (dU - (if (List.length aB.Signs : Int) < dU then (List.length aB.Signs : Int) else dU)), (([] : List GLw) ++ [pd]), .ref (jU + 22) 0 (List.length (([] : List GLw) ++ [pd])) 3 (List.length (([] : List GLw) ++ [pd])), rfl, qZl kZ (qZk (qZf _)), dm kZ nF, rfl, (show 12 ≤ jU + 26 by omega), ?_, ?_, ir, hY, gS, gJ, fI, ?_, ?_, Or.inl ⟨jU + 22, (some 79), rfl, (by first | omega | (simp only [nm, seval]; done) | (simp only [nm, seval]; omega)), (by first | omega | (intro hh; simp only [jC, reduceCtorEq] at hh)), (by first | omega | (intro hh; simp only [jC, reduceCtorEq] at hh)), ?_⟩, (by first | exact h | (simp only [jC]; exact h))⟩ <;> first | (simp only [ua, jC, ir, hY, fI, gS, gJ, cU, cC, bP, nm, seval] <;> rfl) | rfl⟩
   simp only [fY, hs] at h
   have qw := qZj nE (qZj mK (qZj AT (qZj mg (qZj jB (qZj rO fY)))))
   simp only [vz, tyf, qw, cJ, dv, di, cM, fm, gM, dL, (aF eY), nm, seval]
   rw [vu]
   exact (by refine ⟨dU, eX, ja, rfl, (show 12 ≤ jU + 7 by omega), ?_, ?_, cJ, dv, fm, ?_, (match jV with | Or.inl ⟨β0, m5, nd, gR, oC, kc, kE⟩ => Or.inl ⟨β0, m5, nd, (by first | assumption | omega | (simp only [nm, seval]; done) | (simp only [nm, seval]; omega)), (by first | assumption | omega | (simp only [nm, seval]; done) | (simp only [nm, seval]; omega)), (by first | assumption | omega | (simp only [nm, seval]; done) | (simp only [nm, seval]; omega)), (by first | exact kE | (simp only [aQ, bp, jH gR, ne_f oC, ne_f kc, nm, seval]; exact kE))⟩ | Or.inr lN => Or.inr lN), (by first | exact h | (simp only [qw]; exact h))⟩ <;> first | (simp only [ua, qw, cJ, dv, di, cM, fm, gM, dL, nm, seval] <;> rfl) | rfl)
 ·rintro ⟨tm, H, KK, df⟩ hst
  rw [vu] at hst
  obtain ⟨pc, iw, mM, hdf, hnnj11, v5, v7, dR, dq, dt, dF, pg, h⟩ := hst
  simp only at hdf hnnj11 v5 v7 dR dq dt dF pg
  have xu := ib (m := 12) (b := KK) (by omega)
  subst hdf
  replace h := KD _ h
  try dsimp only at h
  try simp only [hs] at h
  rcases pg with ⟨AU, KL, rfl, tV, KM, KN, KO⟩ | ⟨rfl, rfl⟩
  ·have nY := jH tV
   have KP := ne_f KM
   have KQ := ne_f KN
   try simp only [vz, tyf, nE, xu, dR, dq, dt, dF, v5, v7, nY, KO, KP, KQ, nm, seval]
   refine bO (x := (.agg ([.sl (ad eI ae.Widths) (List.length ae.Widths) false] ++ [.sl (ad cGLp ae.Pairs) (List.length ae.Pairs) false] ++ (cGSpan ae.Other) ++ (cGSpan ae.Gap) ++ [.lit (.int .i64 ae.Hyphen)] ++ [.ref AU 0 (List.length iw) 3 (List.length iw)] ++ [.lit (.int .i64 ae.Wide)] ++ [.lit (.int .i64 ae.Rows)]))) (by first | (simp only [results102, resV, resL, aw, cn, cq, uw, cr, tyf, nE, xu, dR, dq, dt, dF, v5, v7, nY, KO, KP, KQ, nm, seval] <;> rfl) | rfl) ?_
   obtain rfl := kF _ h
   refine cm ?_ ?_
   ·simp only [tre, an, Bool.and_self]
   ·first | (simp only [outV, uw, cw, cr, tyf, nrm, aq, nE, xu, dR, dq, dt, dF, v5, v7, nY, KO, KP, KQ, nm, seval] <;> rfl) | rfl
  ·try simp only [vz, tyf, nE, xu, dR, dq, dt, dF, v5, v7, nm, seval]
   refine bO (x := (.agg ([.sl (ad eI ae.Widths) (List.length ae.Widths) false] ++ [.sl (ad cGLp ae.Pairs) (List.length ae.Pairs) false] ++ (cGSpan ae.Other) ++ (cGSpan ae.Gap) ++ [.lit (.int .i64 ae.Hyphen)] ++ [.lit (.slice none 0 0)] ++ [.lit (.int .i64 ae.Wide)] ++ [.lit (.int .i64 ae.Rows)]))) (by first | (simp only [results102, resV, resL, aw, cn, cq, uw, cr, tyf, nE, xu, dR, dq, dt, dF, v5, v7, nm, seval] <;> rfl) | rfl) ?_
   obtain rfl := kF _ h
   refine cm ?_ ?_
   ·simp only [tre, an, Bool.and_self]
   ·first | (simp only [outV, uw, cw, cr, tyf, nrm, aq, nE, xu, dR, dq, dt, dF, v5, v7, nm, seval] <;> rfl) | rfl
def rT (ae : GLs) : Nat → Int → Option (LOut (Int × Int) (Int))
 | 0, ph => some (.go ph)
 | k0 + 1, ph => Option.bind (AS ae ph) (fun r3 => Option.bind (AD r3 ([] : List Int)) (fun r4 => cond (r4) (some (.go ph)) (rT ae k0 (ph + 1))))
def xv (ae : GLs) : Option (Int × Int) := Option.bind (rA ae) (fun r1 => cond (r1) (Option.bind (xq ae) (fun r2 => cond (boundOk r2) (lbind (rT ae (Int.toNat (r2 - 0)) 0) (fun r6 => some r6) (fun c5 => some (c5, 0)) (fun _ _ => none)) none)) (some (0, 2)))
theorem T9 (ae : GLs) (R : Int × Int) (h : xv ae = some R) : ah prog G0 53 [.agg (cGLs ae)] (.tree (.tup [.lit (.int .i64 R.1), .lit (.int .i64 R.2)])) := by
 refine ah.runR mixed call53 func53 rfl (by simp [ntmps53]; kernel_rfl) ?_
 obtain ⟨KF, h, kF, kN⟩ := fg h
 simp only [xv] at h
 obtain ⟨r7, o8, h⟩ := optI h kN
 try simp only [hs] at h
 simp only [vz, tyf, nm, seval]
 refine ktA (Ii _ _ o8) ?_
 refine bQ (fun tm => tm 1 = .ptr 0 0 ∧ tm 7 = .lit (.bool r7) ∧ True) (by refine ⟨?_, ?_, trivial⟩ <;> first | (simp only [ua, nm, seval] <;> rfl) | rfl) ?_
 rintro tm ⟨e9, aE, _⟩
 cases dZ : (r7)
 ·simp only [dZ, hs] at h
  try simp only [vz, tyf, e9, aE, dZ, nm, seval]
  refine bO (x := (.tup [.lit (.int .i64 0), .lit (.int .i64 2)])) (by first | (simp only [results53, resV, resL, aw, cn, cq, uw, cr, tyf, dZ, nm, seval] <;> rfl) | rfl) ?_
  obtain rfl := kF _ h
  refine cm ?_ ?_
  ·simp only [tre, an, Bool.and_self]
  ·first | (simp only [outV, uw, cw, cr, tyf, nrm, aq, e9, aE, dZ, nm, seval] <;> rfl) | rfl
 simp only [dZ, hs] at h
 obtain ⟨ky, kI, h⟩ := optI h kN
 try simp only [hs] at h
 simp only [vz, tyf, e9, aE, dZ, nm, seval]
 refine ktA (T3 _ _ kI) ?_
 refine bQ (fun tm => tm 1 = .ptr 0 0 ∧ tm 10 = .lit (.int .i64 ky) ∧ True) (by refine ⟨e9, ?_, trivial⟩ <;> first | (simp only [ua, e9, aE, dZ, nm, seval] <;> rfl) | rfl) ?_
 rintro tm ⟨bN, cJ, _⟩
 cases jD : (boundOk ky)
 ·simp only [jD, hs] at h
  exact absurd h kN
 simp only [jD, hs] at h
 simp only [vz, tyf, dZ, bN, cJ, jD, nm, seval]
 obtain ⟨XM, h, XN, AV, XO, AW⟩ := iy h kN
 obtain ⟨f16, KR, h⟩ := call2 h
 obtain ⟨XP, v8⟩ : ∃ I : Nat → St → Prop, I = (fun m st => ∃ (tq : Nat) (fp : Int), tq = m ∧ loOk fp = true ∧ Int.toNat (ky - fp) = tq ∧ st.df = [] ∧ 10 ≤ st.nx ∧ st.H 0 = some (.cells (some 28) (cGLs ae)) ∧ st.tm 1 = .ptr 0 0 ∧ st.tm 5 = .lit (.int .i64 ky) ∧ st.tm 4 = .lit (.int .i64 fp) ∧ XM (f16 tq fp)) := ⟨_, rfl⟩
 refine loopK mixed (by kernel_rfl) XP (Int.toNat (ky - 0)) (by rw [v8]; refine ⟨Int.toNat (ky - 0), 0, rfl, (by rfl), rfl, rfl, (show 10 ≤ 10 by omega), ?_, bN, ?_, ?_, h⟩ <;> first | (simp only [ua, dZ, bN, cJ, nm, seval] <;> rfl) | rfl) ?_
 rintro m ⟨tm, H, AX, df⟩ ba
 rw [v8] at ba
 obtain ⟨tq, fp, rfl, AY, rU, hdf, KS, jg, fm, gM, dL, h⟩ := ba
 simp only at hdf KS jg fm gM dL
 have mK := ib (m := 10) (b := AX) (by omega)
 subst hdf KR
 cases tq with
 | zero =>
  have lZ : (decide (fp < ky)) = false := JC rU
  simp only [rT, hs, reduceCtorEq] at h
  replace h := AV _ h
  try dsimp only at h
  try simp only [hs] at h
  try simp only [vz, tyf, dZ, jD, mK, fm, gM, dL, jg, lZ, nm, seval]
  refine bO (x := (.tup [.lit (.int .i64 fp), .lit (.int .i64 0)])) (by first | (simp only [results53, resV, resL, aw, cn, cq, uw, cr, tyf, dZ, jD, mK, jg, lZ, nm, seval] <;> rfl) | rfl) ?_
  obtain rfl := kF _ h
  refine cm ?_ ?_
  ·simp only [tre, an, Bool.and_self]
  ·first | (simp only [outV, uw, cw, cr, tyf, nrm, aq, dZ, jD, mK, fm, gM, dL, jg, lZ, nm, seval] <;> rfl) | rfl
 | succ tq =>
  have jB : (decide (fp < ky)) = true := JD rU
  have rO := JG AY rU jD
  simp only [rT, hs, reduceCtorEq] at h
  obtain ⟨wO, oN, h⟩ := optI h AW
  try simp only [hs] at h
  simp only [vz, tyf, dZ, jD, mK, fm, gM, dL, jg, jB, rO, nm, seval]
  refine ktA (XG _ _ _ oN) ?_
  refine bQ (fun tm => tm 1 = .ptr 0 0 ∧ tm 4 = .lit (.int .i64 fp) ∧ tm 5 = .lit (.int .i64 ky) ∧ tm 14 = .lit (.bool true) ∧ tm 17 = .agg (cGLs wO) ∧ True) (by refine ⟨fm, dL, gM, ?_, ?_, trivial⟩ <;> first | (simp only [ua, dZ, mK, fm, gM, dL, jg, jB, rO, nm, seval] <;> rfl) | rfl) ?_
  rintro tm ⟨du, d6, dD, ir, hY, _⟩
  obtain ⟨TA, XQ, h⟩ := optI h AW
  try simp only [hs] at h
  simp only [vz, tyf, dZ, jD, mK, jg, jB, rO, du, d6, dD, ir, hY, nm, seval]
  refine ktreeR ?_ (XE _ _ _ XQ) ?_
  ·simp only [tre, an, Bool.and_self]
  refine bQ (fun tm => tm 1 = .ptr 0 0 ∧ tm 4 = .lit (.int .i64 fp) ∧ tm 5 = .lit (.int .i64 ky) ∧ tm 14 = .lit (.bool true) ∧ tm 18 = .lit (.bool TA) ∧ True) (by refine ⟨du, d6, dD, ?_, ?_, trivial⟩ <;> first | (simp only [ua, dZ, mK, jg, jB, rO, du, d6, dD, ir, hY, nm, seval] <;> rfl) | rfl) ?_
  rintro tm ⟨gJ, cU, cC, bP, cD, _⟩
  cases DA : (TA)
  ·simp only [DA, hs] at h
   have KT := qZj dZ (qZj jD (qZj mK (qZj jg (qZj jB (qZj rO DA)))))
   simp only [vz, tyf, KT, gJ, cU, cC, bP, cD, nm, seval]
   exact ⟨tq, qZc _, by rw [v8]; refine ⟨tq, fp + 1, rfl, JF AY, JE rU, rfl, (show 10 ≤ AX + 13 by omega), ?_, gJ, cC, ?_, (by first | exact h | (simp only [KT]; exact h))⟩ <;> first | (simp only [ua, KT, gJ, cU, cC, bP, cD, nm, seval] <;> rfl) | rfl⟩
  simp only [DA, hs] at h
  have KU := qZj dZ (qZj jD (qZj mK (qZj jg (qZj jB (qZj rO DA)))))
  replace h := AV _ h
  try dsimp only at h
  try simp only [hs] at h
  try simp only [vz, tyf, KU, gJ, cU, cC, bP, cD, nm, seval]
  refine bO (x := (.tup [.lit (.int .i64 fp), .lit (.int .i64 0)])) (by first | (simp only [results53, resV, resL, aw, cn, cq, uw, cr, tyf, KU, nm, seval] <;> rfl) | rfl) ?_
  obtain rfl := kF _ h
  refine cm ?_ ?_
  ·simp only [tre, an, Bool.and_self]
  ·first | (simp only [outV, uw, cw, cr, tyf, nrm, aq, KU, gJ, cU, cC, bP, cD, nm, seval] <;> rfl) | rfl
def letsI : List GLw → Int
 | [] => 0
 | w :: p => (w.Signs.length : Int) + letsI p
def shW (w : GLw) (k : Int) : GLw := GLw.mk (w.Signs.take k.toNat) (w.Cuts.filter fun c => decide (c < k)) w.Free
def minL (w : GLw) (n : Int) : Int := if (w.Signs.length : Int) < n then (w.Signs.length : Int) else n
def woL : List GLw → Int → List GLw
 | [], _ => []
 | w :: p, n => if n = 0 then [] else shW w (minL w n) :: woL p (n - minL w n)
theorem DB : ∀ (p : List GLw), (∀ w ∈ p, w.Signs.length ≤ 6) → 0 ≤ letsI p ∧ letsI p ≤ 6 * p.length
 | [], _ => by simp [letsI]
 | w :: p, h => by
  have h1 := h w (qZb ..)
  have h2 := DB p fun x hx => h x (qZa _ hx)
  simp only [letsI, List.length_cons]
  omega
theorem AZ : ∀ (p : List GLw) (i c : Int), (∀ w ∈ p, w.Signs.length ≤ 6) → 0 ≤ c → c + 6 * p.length ≤ 1000 → vo p i c = some (.go (c + letsI p))
 | [], _, c, _, _, _ => by simp [vo, letsI]
 | w :: p, i, c, h, h0, h1 => by
  have hw := h w (qZb ..)
  simp only [List.length_cons] at h1
  rw [vo, jJ (by omega) (by omega), AZ p (i + 1) _ (fun x hx => h x (qZa _ hx)) (by omega) (by omega), letsI]
  congr 2
  omega
theorem Ba (h : Sh A) : xq A = some (letsI A.Words) := by
 have := h.nw
 rw [xq, kH (by omega), cond_true, AZ A.Words 0 0 (fun w hw => (h.wlen w hw).2) (qZf _) (by omega), my]
 congr 1
 omega
theorem roomOk56 {n : Nat} (h : n ≤ 1000) : ar 56 n = true := by simp [ar]; omega
theorem KV (k : Int) : ∀ (p : List Int) (i : Int) (acc : List Int), acc.length + p.length ≤ 1000 → qG k p i acc = some (.go (acc ++ p.filter fun c => decide (c < k)))
 | [], _, acc, _ => by simp [qG]
 | e :: p, i, acc, h => by
  simp only [List.length_cons] at h
  rw [qG]
  by_cases he : e < k
  ·rw [decide_eq_true he, cond_true, roomOk8 (by simp; omega), cond_true, KV k p (i + 1) _ (by simp; omega), List.filter_cons_of_pos (by simpa using he)]
   simp
  ·rw [decide_eq_false he, cond_false, KV k p (i + 1) acc (by omega), List.filter_cons_of_neg (by simpa using he)]
theorem KW {w : GLw} (hc : w.Cuts.length ≤ 5) {k : Int} (h0 : 0 ≤ k) (h1 : k ≤ w.Signs.length) : AO w k = some (shW w k) := by
 have hs : sliceO w.Signs 0 k = some (w.Signs.take k.toNat) := by
  unfold sliceO
  rw [if_pos ⟨qZf _, h0, h1⟩]
  simp
 rw [AO, hs, Option.bind_some, kH (by omega), cond_true, KV k w.Cuts 0 [] (by simp; omega), my]
 rfl
theorem wo_l0 : ∀ (p : List GLw) (i n : Int) (acc : List GLw), (∀ w ∈ p, w.Signs.length ≤ 6 ∧ w.Cuts.length ≤ 5) → 0 ≤ n → n ≤ 1000 → acc.length + p.length ≤ 1000 → ∃ m, vr p i n acc = some (.go (m, acc ++ woL p n))
 | [], i, n, acc, _, _, _, _ => ⟨n, by simp [vr, woL]⟩
 | w :: p, i, n, acc, h, h0, h1, h2 => by
  have hw := h w (qZb ..)
  simp only [List.length_cons] at h2
  rw [vr, woL]
  by_cases hn : n = 0
  ·refine ⟨n, ?_⟩
   rw [if_pos hn, show (n == 0) = true by simp [hn], cond_true, List.append_nil]
  ·rw [if_neg hn, show (n == 0) = false by simp [hn], cond_false]
   have hm : 0 ≤ minL w n ∧ minL w n ≤ w.Signs.length ∧ minL w n ≤ n := by unfold minL; split <;> omega
   obtain ⟨m, ih⟩ := wo_l0 p (i + 1) (n - minL w n) (acc ++ [shW w (minL w n)]) (fun x hx => h x (qZa _ hx)) (by omega) (by omega) (by simp; omega)
   refine ⟨m, ?_⟩
   rw [show (if (List.length w.Signs : Int) < n then (List.length w.Signs : Int) else n) = minL w n from rfl, KW hw.2 hm.1 hm.2.1, Option.bind_some, roomOk56 (by simp; omega), cond_true, jJ (by omega) (by omega), ih]
   simp
theorem wo_eq (h : Sh A) {k : Int} (h0 : 0 ≤ k) (h1 : k ≤ letsI A.Words) : AS A k = some (NS A (woL A.Words (letsI A.Words - k)) A.Wide A.Rows) := by
 have hn := h.nw
 have hb := DB A.Words fun w hw => (h.wlen w hw).2
 obtain ⟨m, e⟩ := wo_l0 A.Words 0 (letsI A.Words - k) [] (fun w hw => ⟨(h.wlen w hw).2, (h.wcut w hw).2.2⟩) (by omega) (by omega) (by simp; omega)
 rw [AS, Ba h, Option.bind_some, kH (by omega), cond_true, jJ (by omega) (by omega), e, my, List.nil_append]
theorem Bb : ∀ (p : List GLw) (n : Int), (woL p n).length ≤ p.length
 | [], _ => qZg _
 | w :: p, n => by
  rw [woL]
  split
  ·exact Nat.zero_le _
  ·have := Bb p (n - minL w n)
   simp only [List.length_cons]
   omega
theorem Bc : ∀ (p : List GLw) (n : Int), 0 ≤ n → (∀ w ∈ p, 1 ≤ w.Signs.length) → ∀ v ∈ woL p n, ∃ w ∈ p, ∃ k : Int, 1 ≤ k ∧ k ≤ w.Signs.length ∧ v = shW w k
 | [], _, _, _, v, hv => by cases hv
 | w :: p, n, h0, h1, v, hv => by
  have hw := h1 w (qZb ..)
  rw [woL] at hv
  split at hv
  ·cases hv
  ·have hm : 1 ≤ minL w n ∧ minL w n ≤ w.Signs.length ∧ minL w n ≤ n := by unfold minL; split <;> omega
   rcases List.mem_cons.1 hv with rfl | hv
   ·exact ⟨w, qZb .., _, hm.1, hm.2.1, rfl⟩
   ·obtain ⟨x, hx, k, hk⟩ := Bc p _ (by omega) (fun x hx => h1 x (qZa _ hx)) v hv
    exact ⟨x, qZa _ hx, k, hk⟩
theorem Bd : ∀ (p : List Int) (q : Int), incr q p = true ↔ (q :: p).Pairwise (· < ·)
 | [], q => ⟨fun _ => List.pairwise_singleton _ _, fun _ => rfl⟩
 | e :: p, q => by
  refine ⟨Du _ _, fun h => ?_⟩
  rw [List.pairwise_cons] at h
  rw [incr, (Bd p e).2 h.2, Bool.and_true, decide_eq_false (by have := h.1 e (qZb ..); omega)]
  rfl
theorem DC (p : List Int) : incrL p = true ↔ p.Pairwise (· < ·) := by
 cases p with
 | nil => exact ⟨fun _ => List.Pairwise.nil, fun _ => rfl⟩
 | cons e p => exact Bd p e
theorem Sh_wo (h : Sh A) {n : Int} (h1 : 1 ≤ n) : Sh (NS A (woL A.Words n) A.Wide A.Rows) := by
 have hw := Bc A.Words n (by omega) fun w hw => (h.wlen w hw).1
 refine ⟨h.nwid, h.wid, h.npair, h.pair, h.other, h.gap, h.hyp, ⟨?_, qZh (Bb _ _) h.nw.2⟩, fun v hv => ?_, fun v hv => ?_, fun v hv => ?_, h.wide, h.rows⟩
 ·show 1 ≤ (woL A.Words n).length
  have := h.nw.1
  match A.Words, this with
  | w :: p, _ =>
   rw [woL, if_neg (by omega)]
   simp
 ·obtain ⟨w, hwm, k, k1, k2, rfl⟩ := hw v hv
  have := h.wlen w hwm
  simp only [shW, List.length_take]
  omega
 ·obtain ⟨w, hwm, k, k1, k2, rfl⟩ := hw v hv
  exact fun c hc => h.wsign w hwm c (List.mem_of_mem_take hc)
 ·obtain ⟨w, hwm, k, k1, k2, rfl⟩ := hw v hv
  have := h.wcut w hwm
  refine ⟨(DC _).2 (((DC _).1 this.1).filter _), fun c hc => ?_, qZh (List.length_filter_le ..) this.2.2⟩
  have hc := List.mem_filter.1 hc
  have h2 := this.2.1 c hc.1
  have h3 : c < k := by simpa using hc.2
  simp only [shW, List.length_take]
  omega
theorem v9 : ∀ (a b : List GLw), WW a b → letsI a = letsI b
 | [], [], _ => rfl
 | [], _ :: _, h => h.elim
 | _ :: _, [], h => h.elim
 | a :: p, b :: q, ⟨⟨h1, _⟩, h3⟩ => by rw [letsI, letsI, h1, v9 p q h3]
theorem WW_wo : ∀ (a b : List GLw) (n : Int), WW a b → WW (woL a n) (woL b n)
 | [], [], _, _ => trivial
 | [], _ :: _, _, h => h.elim
 | _ :: _, [], _, h => h.elim
 | a :: p, b :: q, n, ⟨⟨h1, h2⟩, h3⟩ => by
  rw [woL, woL]
  have e : minL b n = minL a n := by unfold minL; rw [h1]
  by_cases hn : n = 0
  ·rw [if_pos hn, if_pos hn]; trivial
  ·rw [if_neg hn, if_neg hn, e]
   refine ⟨⟨by simp only [shW, h1], fun c hc => ?_⟩, WW_wo p q _ h3⟩
   have hc := List.mem_filter.1 hc
   exact List.mem_filter.2 ⟨h2 c hc.1, hc.2⟩
theorem TB {A B : GLs} (ha : Sh A) (hb : Sh B) (hN : B = NS A B.Words B.Wide B.Rows) (hw : WW A.Words B.Words) (h1 : A.Wide ≤ B.Wide) (h2 : A.Rows ≤ B.Rows) : ∀ (n : Nat) (i : Int), 0 ≤ i → i + n = letsI A.Words → ∃ c d, rT A n i = some (.go c) ∧ rT B n i = some (.go d) ∧ i ≤ d ∧ d ≤ c
 | 0, i, _, _ => ⟨i, i, rfl, rfl, qZf _, qZf _⟩
 | n + 1, i, h0, hn => by
  have hl := v9 _ _ hw
  obtain ⟨c, d, e1, e2, e3, e4⟩ := TB ha hb hN hw h1 h2 n (i + 1) (by omega) (by omega)
  obtain ⟨x, x1, x2⟩ := AK (Sh_wo ha (n := letsI A.Words - i) (by omega))
  obtain ⟨y, y1, y2⟩ := AK (Sh_wo hb (n := letsI B.Words - i) (by omega))
  have hxy : x = true → y = true := by
   intro hx
   obtain ⟨z, hz⟩ := x2.1 hx
   refine y2.2 ⟨z, ?_⟩
   rw [hN]
   rw [← hl]
   exact PF_N (WW_wo _ _ _ hw) h1 h2 hz
  rw [rT, rT, wo_eq ha h0 (by omega), wo_eq hb h0 (by omega), Option.bind_some, Option.bind_some, x1, y1, Option.bind_some, Option.bind_some]
  cases x with
  | true =>
   rw [hxy rfl]
   exact ⟨i, i, rfl, rfl, qZf _, qZf _⟩
  | false =>
   cases y with
   | true => exact ⟨c, i, e1, rfl, qZf _, by omega⟩
   | false => exact ⟨c, d, e1, e2, by omega, e4⟩
theorem setAF {α : Type} {enc : α → List VV} {w : Nat} {xs : List α} {x : α} {i : Int} (o m : Nat) (he : ∀ x, (enc x).length = w) (hm : o + m ≤ w) (h : getI xs i = some x) : (i.toNat * w + o + m ≤ (ad enc xs).length) = True := by
 have h1 := of_eq_true (setA (w := w) (enc := enc) he h)
 exact eq_true (by omega)
theorem XR (A X B : List VV) (o : Nat) (cs : List VV) (h : o + cs.length ≤ X.length) : overwrite (A ++ (X ++ B)) (A.length + o) cs = A ++ (overwrite X o cs ++ B) := by
 unfold overwrite
 rw [List.take_append, List.take_of_length_le (qZe _ _), show A.length + o - A.length = o by omega, List.take_append_of_le_length (by omega),
  List.drop_append, List.drop_of_length_le (by omega), List.nil_append, show A.length + o + cs.length - A.length = o + cs.length by omega, List.drop_append_of_le_length h]
 simp only [List.append_assoc]
theorem setBF {α : Type} {enc : α → List VV} {w : Nat} {xs : List α} {x : α} {i : Int} (o : Nat) (cs : List VV) (v : α) (he : ∀ x, (enc x).length = w) (hc : o + cs.length ≤ w) (h : getI xs i = some x) (hv : enc v = overwrite (enc x) o cs) : overwrite (ad enc xs) (i.toNat * w + o) cs = ad enc (xs.set i.toNat v) := by
 obtain ⟨h0, h1, h2⟩ := ta h
 have hn : i.toNat < xs.length := by omega
 have e1 : xs = xs.take i.toNat ++ (x :: xs.drop (i.toNat + 1)) := by
  rw [← h2, List.take_append_drop]
 have e2 : xs.set i.toNat v = xs.take i.toNat ++ (v :: xs.drop (i.toNat + 1)) := by
  rw [List.set_eq_take_append_cons_drop, if_pos hn]
 have hl : (xs.take i.toNat).length = i.toNat := by rw [List.length_take]; omega
 have e3 : ad enc xs = ad enc (xs.take i.toNat) ++ (enc x ++ ad enc (xs.drop (i.toNat + 1))) := by
  conv => lhs; rw [e1, tc]
  rfl
 have e4 : (ad enc (xs.take i.toNat)).length = i.toNat * w := by rw [gg he, hl]
 rw [e3, ← e4, XR _ _ _ _ _ (by rw [he]; exact hc), ← hv, e2, tc]
 rfl
end Go.V
end
