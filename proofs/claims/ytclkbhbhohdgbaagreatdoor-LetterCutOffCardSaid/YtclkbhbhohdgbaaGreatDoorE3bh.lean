/- Part of a proof. -/
import Derived.Test.YtclkbhbhohdgbaaGreatDoorE3bg
set_option linter.all false
set_option maxRecDepth 4000
set_option maxHeartbeats 40000000
section
namespace Go.V
open Go Go.Proofs IntKind Tryz
theorem Gy {α : Type} {enc : α → List VV} (he : EncOk enc) : ∀ {l : List α}, normV (vx enc l) = .sl (ad enc l) l.length false
 | [] => rfl
 | a :: l => by
  show normV (.sl (ad enc (a :: l)) (a :: l).length false) = _
  simp [normV, he.normL]
variable {l : List Int}
theorem Du : normV (vx eI l) = sI l := Gy eI_ok
theorem jv {α : Type} {enc : α → List VV} : ∀ {l : List α}, (vx enc l).leaf = true
 | [] => rfl
 | a :: l => rfl
theorem qE : (vx eI l).tree = true := Gz eI_ok
variable {H : Nat → Option Vo}
theorem yM {f : FuncId} {G1 ff : Option TypeId} {c1 c2 : List VV} (h0 : H 0 = some (.cells G1 c1)) (h1 : H 1 = some (.cells ff c2)) (t0 : tl c1 = true) (t1 : tl c2 = true) (l0 : c1.length < 40) (l1 : c2.length < 40) :
  sealV H 50 (.fn (.func f) [] [.ptr 0 0, .ptr 1 0]) = some (.fn (.func f) [] [.tp c1, .tp c2]) := by
 have e0 : sealV H 48 (.ptr 0 0) = some (.tp c1) := by
  show sealV H (47 + 1) _ = _
  have : (VV.ptr 0 0).tree = false := rfl
  simp only [sealV, this, h0, Nat.zero_le, if_true, List.drop_zero]
  rw [qF _ 47 t0 (by omega)]
  rfl
 have e1 : sealV H 47 (.ptr 1 0) = some (.tp c2) := by
  show sealV H (46 + 1) _ = _
  have : (VV.ptr 1 0).tree = false := rfl
  simp only [sealV, this, h1, Nat.zero_le, if_true, List.drop_zero]
  rw [qF _ 46 t1 (by omega)]
  rfl
 have s3 : aT H 47 [] = some [] := by
  show aT H (46 + 1) _ = _
  simp only [aT]
 have s2 : aT H 48 [.ptr 1 0] = some [.tp c2] := by
  show aT H (47 + 1) _ = _
  simp only [aT, e1, s3]
 have s1 : aT H 49 [.ptr 0 0, .ptr 1 0] = some [.tp c1, .tp c2] := by
  show aT H (48 + 1) _ = _
  simp only [aT, e0, e1]
 have s0 : aT H 49 [] = some [] := by
  show aT H (48 + 1) _ = _
  simp only [aT]
 show sealV H (49 + 1) _ = _
 have e3 : (VV.fn (.func f) [] [.ptr 0 0, .ptr 1 0]).tree = false := rfl
 simp only [sealV, e3, s1, s0]
 rfl
def itS (s : GLs) (out : List Int) : VV := .fn (.func 126) [] [.tp (cGLs s), .tp [vx eI out]]
theorem G2 (s : GLs) (out : List Int) : ah prog G0 92 [.agg (cGLs s), vx eI out] (.tree (itS s out)) := by
 refine ah.run mixed call92 func92 rfl (by simp [ntmps92]; kernel_rfl) ?_
 simp only [vz, tyf, seval, ua, rg, vcells1 jv]
 refine ⟨rfl, .fn (.func 126) [] [.ptr 0 0, .ptr 1 0], by simp [results92, resV, resL, aE, upd], 50, ?_⟩
 exact yM (c1 := cGLs s) (c2 := [vx eI out]) (G1 := some 28) (ff := some 22) (by simp only [bk, seval] <;> rfl) (by simp only [bk, seval] <;> rfl) (ep.tree s) (by simp [tl, qE]) (by simp [cGLs]) (by simp)
def ud (s : GLs) (out : List Int) : Option (List (List GLe)) := Option.bind (uf s out) fun poss => if poss.length < 1000000 ∧ out.length < 1000000 then stgO poss (poss.length - 1) s.Rows 5 [] 0 else none
theorem WH (s : GLs) (out : List Int) (L : List (List GLe)) (h : ud s out = some L) : Iter prog G0 (itS s out) (L.map (sSet out)) := by
 unfold ud at h
 rcases hp : uf s out with _ | poss
 ·rw [hp] at h; cases h
 rw [hp, Option.bind_some] at h
 split at h
 rotate_left
 ·cases h
 rename_i hb
 obtain ⟨wI, WI⟩ := hb
 have hpos : 0 < poss.length := by
  rcases poss with _ | ⟨a, l⟩
  ·exfalso
   simp only [stgO, List.length_nil] at h
   rcases hg : goStg (stgO [] (0 - 1) s.Rows 4) [] [] (if (((0 : Nat) : Int) + 1 < s.Rows) then 0 - 1 - 0 else 0) 0 with _ | a
   ·simp_all
   ·simp_all
  ·exact Nat.succ_pos _
 refine ⟨126, [], _, rfl, fun β I hst hr H nx hβ hI => ?_⟩
 refine aU.run mixed call126 func126 rfl (by simp [ntmps126]; kernel_rfl) ?_
 simp only [List.nil_append, List.cons_append, argsTm3, vz, tyf, seval, ua, rg]
 refine ktree (args0 := [.agg (cGLs s), sI out]) (by first | (simp only [nrm, ar, Du] <;> rfl) | rfl) (by simp only [tre, au, qE, Bool.and_self]) (WJ _ _ _ hp) ?_
 refine bQ (fun tm => tm 1 = .tp (cGLs s) ∧ tm 2 = .tp [vx eI out] ∧ tm 3 = .ptr nx 0 ∧ tm 9 = sE poss) (by refine ⟨?_, ?_, ?_, ?_⟩ <;> simp only [ua, seval, tyf, Nat.add_zero]) ?_
 rintro tm ⟨e1, e2, e3, e9⟩
 have hw : i64.wrap ((poss.length : Int) - 1) = ((poss.length - 1 : Nat) : Int) := by rw [IntWalk.i64_in _ (by omega)]; omega
 simp only [vz, tyf, seval, ua, nm, rg, e1, e2, e3, e9, hw]
 refine kopen ?_
 rw [G3]
 refine aU.mono (G4 (s := s) (out := out) (poss := poss) (last := poss.length - 1) (y := nx) (e := nx + 11) (pl := nx + 4) (la := nx + 9) hst hr (by omega) WI 5 [] 0 [] L (fun γ => γ = nx ∨ γ = nx + 4 ∨ γ = nx + 9 ∨ γ = nx + 11) _ _ h (by simp) (by omega) (by omega) (by rintro γ (rfl | rfl | rfl | rfl) <;> omega) (.inl rfl) (.inr (.inr (.inr rfl))) (.inr (.inl rfl)) (.inr (.inr (.inl rfl))) (by simp [updH]) (by simp [updH]) (by simp [updH]) (by simp only [updH]; simp; rfl) ?_) ?_ (fun _ _ _ h => h.elim)
 ·rw [List.append_nil]
  refine hst _ _ _ _ _ _ _ hI ?_ (by omega) (by rintro γ (rfl | rfl | rfl | rfl) <;> right <;> omega)
  intro γ h _
  simp only [updH]
  repeat rw [if_neg (by omega)]
 rintro v H2 nG ⟨b, rfl, h1, h2, h3⟩
 simp only [vz, tyf, seval, ua]
 refine G5 (x := .tup []) (by simp [results126, resV, resL]) ?_
 replace h3 := hst _ _ noFr _ _ _ _ h3 (fun _ _ _ => rfl) (qZh _) (fun γ h => h.elim)
 cases b with
 | true => exact .inl h3
 | false => exact .inr h3





theorem ug : ∀ (es : List GLe) (fl : List FL), AL es fl → es.length ≤ fl.length
 | [], [], _ => qZh _
 | [], _ :: _, h => h.elim
 | _ :: _, [], h => h.elim
 | e :: es, f :: fl, h => by
  unfold AL at h
  split at h
  ·have := ug es fl h
   simp; omega
  ·have := ug (e :: es) fl h
   simp at this ⊢; omega
theorem yN (out : List Int) : ∀ (ws : List GLw) (i : Int), (∀ w ∈ ws, w.Signs.length ≤ 6) → (ltrsL out ws i).length ≤ 6 * ws.length
 | [], _, _ => by simp [ltrsL]
 | w :: ws, i, h => by
  have h1 := yN out ws (i + 1) fun x hx => h x (qZa _ hx)
  have h2 := h w (qZb ..)
  unfold ltrsL
  cases out.contains i <;> simp [yO] <;> omega
theorem uh : ∀ (es : List GLe) (fl : List FL) (r : Int) (m : Glm), m ∈ (mkS es fl r).1 → ∃ f ∈ fl, f.2.1 = m.sign
 | es, [], r, m, h => by cases es <;> simp [mkS] at h
 | [], f :: fl, r, m, h => by simp [mkS] at h
 | e :: es, f :: fl, r, m, h => by
  by_cases he : e = f.1
  ·rw [qG he] at h
   rcases List.mem_cons.1 h with rfl | h
   ·exact ⟨f, qZb .., rfl⟩
   ·obtain ⟨g, hg, h2⟩ := uh es fl (r + 1) m h
    exact ⟨g, qZa _ hg, h2⟩
  ·rw [sJ he] at h
   rcases List.mem_cons.1 h with rfl | h
   ·exact ⟨f, qZb .., rfl⟩
   ·obtain ⟨g, hg, h2⟩ := uh (e :: es) fl r m h
    exact ⟨g, qZa _ hg, h2⟩
theorem ui : ∀ (es : List GLe) (fl : List FL) (r : Int), AL es fl → (mkS es fl r).1.length = fl.length
 | [], [], r, _ => by simp [mkS]
 | [], _ :: _, _, h => h.elim
 | _ :: _, [], _, h => h.elim
 | e :: es, f :: fl, r, h => by
  unfold AL at h
  by_cases he : e = f.1
  ·rw [if_pos he] at h
   rw [qG he]
   simp [ui es fl (r + 1) h]
  ·rw [if_neg he] at h
   rw [sJ he]
   simp [ui (e :: es) fl r h]
theorem uj : ∀ (es : List GLe) (fl : List FL) (r : Int), AL es fl → ∀ j : Int, r ≤ j → j < r + es.length → ∃ m ∈ (mkS es fl r).1, m.row = j
 | [], _, r, _, j, h1, h2 => by simp at h2; omega
 | _ :: _, [], _, h, _, _, _ => h.elim
 | e :: es, f :: fl, r, h, j, h1, h2 => by
  simp only [List.length_cons] at h2
  unfold AL at h
  by_cases he : e = f.1
  ·rw [if_pos he] at h
   rw [qG he]
   by_cases hj : j = r
   ·exact ⟨_, qZb .., hj.symm⟩
   ·obtain ⟨m, hm, h3⟩ := uj es fl (r + 1) h j (by omega) (by omega)
    exact ⟨m, qZa _ hm, h3⟩
  ·rw [if_neg he] at h
   rw [sJ he]
   obtain ⟨m, hm, h3⟩ := uj (e :: es) fl r h j h1 (by simp only [List.length_cons]; omega)
   exact ⟨m, qZa _ hm, h3⟩
def marksOf (s : GLs) (x : GLx) : List Glm := (mkS x.Ends (ltrsL x.Out s.Words 0) 0).1
variable {s : GLs} {x : GLx}
theorem G6 (h : Sh s) (hs : IsS (possL x.Out s.Words 0) x.Ends) : AL x.Ends (ltrsL x.Out s.Words 0) :=
 AL_of _ _ hs.1 (Dv _ _ _) (fun e he => G7 _ _ _ (fun w hw => ⟨(h.wlen w hw).1, (h.wcut w hw).2.1⟩) e (hs.2.1 e he)) (by rw [hs.2.2, Dw _ _ _ fun w hw => (h.wlen w hw).1])
variable {k : Int}
theorem G8 (h : Sh s) (ho : lenOk x.Out = true) (hs : IsS (possL x.Out s.Words 0) x.Ends) (h0 : 0 ≤ k) (h1 : k ≤ 10) : ∃ l, uk s x k = some l ∧ LOk l ∧ l.ls = s ∧ l.lx = x ∧ l.stretch = k ∧ l.marks = marksOf s x := by
 have hal := G6 h hs
 have hw := h.nw
 have hp := h.npair
 have hl := yN x.Out s.Words 0 fun w hw => (h.wlen w hw).2
 have he := ug _ _ hal
 obtain ⟨m, hm, hmo⟩ := yP s.Pairs 0 [] (fun _ _ => none) (fun l r => ⟨rfl, fun v hv => by cases hv⟩)
 have h2 := um x ho (by omega) s.Words 0 0 [] x.Ends (fun w hw => (h.wlen w hw).2) (qZg _) (by omega) rfl hal (by simp; omega)
 refine ⟨_, by simp only [uk]; rw [km (by omega), cond_true, hm, lR, km (by omega), cond_true, h2, lR], ⟨h, hmo, fun q hq => ?_, ?_, by simp only; omega, ?_, h0, h1⟩, rfl, rfl, rfl, by simp [marksOf]⟩
 ·rw [List.nil_append] at hq
  obtain ⟨f, hf, e⟩ := uh _ _ _ _ hq
  obtain ⟨_, w, hw, hc⟩ := yQ hf
  have := h.wsign w hw _ hc
  rw [e] at this
  exact this
 ·simp only [List.nil_append]
  rw [ui _ _ _ hal]
  omega
 ·intro j a b
  simp only [List.nil_append]
  exact uj _ _ 0 hal j a (by simpa using b)
theorem G9 {l : Gld} (h : LOk l) (h0 : 0 ≤ k) (h1 : k ≤ 10) : LOk (setS l k) := ⟨h.sh, h.mp, h.sg, h.nm, h.ne, h.rw, h0, h1⟩
theorem GA {l : Gld} (h : LOk l) {k' : Int} (h0 : 0 ≤ k) (hk : k ≤ k') (h1 : k' ≤ 10) (hf : fitB l k' = true) : fitB l k = true := by
 unfold fitB at hf ⊢
 simp only [Bool.and_eq_true, GB] at hf ⊢
 exact ⟨fun j a b => qZm (SI h.sh h0 hk h1 j l.marks) (hf.1 j a b), hf.2⟩
theorem yR {l : Gld} (h : LOk l) : ∀ (m i : Nat) (acc : Option Gld), i + m = 11 → (∀ j : Nat, j < i → fitB l (j : Int) = true) → (acc = if i = 0 then none else some (setS l ((i : Int) - 1))) →
  ∃ w, wLoop l m i acc = some w ∧ ((w = none ∧ fitB l 0 = false) ∨ ∃ K : Nat, K ≤ 10 ∧ w = some (setS l (K : Int)) ∧ ∀ j : Nat, j ≤ 10 → fitB l (j : Int) = decide (j ≤ K))
 | 0, i, acc, hi, hj, ha => by
  refine ⟨acc, rfl, .inr ⟨10, qZh _, ?_, fun j hj' => ?_⟩⟩
  ·rw [ha, if_neg (by omega)]
   congr 2
   omega
  ·rw [hj j (by omega), decide_eq_true hj']
 | m + 1, i, acc, hi, hj, ha => by
  have hl := G9 h (k := (i : Int)) (by omega) (by omega)
  have hf : uo (setS l (i : Int)) = some (fitB l (i : Int)) := GC hl
  simp only [wLoop, hf, Option.bind_some]
  cases hb : fitB l (i : Int) with
  | true =>
   simp only [cond_true]
   refine yR h m (i + 1) _ (by omega) (fun j h2 => ?_) ?_
   ·by_cases hji : j = i
    ·rw [hji]; exact hb
    ·exact hj j (by omega)
   ·rw [if_neg (by omega)]
    congr 2
    omega
  | false =>
   simp only [cond_false]
   refine ⟨acc, rfl, ?_⟩
   by_cases h0 : i = 0
   ·subst h0
    exact .inl ⟨by rw [ha, if_pos rfl], hb⟩
   ·right
    refine ⟨i - 1, by omega, ?_, fun j hj' => ?_⟩
    ·rw [ha, if_neg h0]
     congr 2
     omega
    ·by_cases hji : j ≤ i - 1
     ·rw [decide_eq_true hji]; exact hj j (by omega)
     ·rw [decide_eq_false hji]
      cases hc : fitB l (j : Int) with
      | false => rfl
      | true =>
       have := GA h (k := (i : Int)) (k' := (j : Int)) (by omega) (by omega) (by omega) hc
       rw [this] at hb
       cases hb
def fitS (s : GLs) (x : GLx) (k : Int) : Bool := rowsOk s k (marksOf s x) x.Ends.length 0 && decide ((x.Ends.length : Int) ≤ s.Rows)
def MostS (s : GLs) (x : GLx) : Option Nat → Prop
 | none => fitS s x 0 = false
 | some K => K ≤ 10 ∧ ∀ j : Nat, j ≤ 10 → fitS s x (j : Int) = decide (j ≤ K)
theorem SJ (h : Sh s) (ho : lenOk x.Out = true) (hs : IsS (possL x.Out s.Words 0) x.Ends) : ∃ l w o, uk s x 0 = some l ∧ Dx l = some w ∧ MostS s x o ∧ (w = o.map fun K => setS l (K : Int)) ∧ l.ls = s ∧ l.lx = x ∧ LOk l := by
 obtain ⟨l, h1, h2, h3, h4, h5, h6⟩ := G8 h ho hs (k := 0) (qZg _) (by omega)
 obtain ⟨w, q1, q2⟩ := yR h2 11 0 none rfl (fun j hj => by omega) rfl
 have e : ∀ k, fitB l k = fitS s x k := fun k => by unfold fitB fitS; rw [h3, h4, h6]
 rcases q2 with ⟨rfl, q2⟩ | ⟨K, k1, rfl, q2⟩
 ·exact ⟨l, none, none, h1, q1, by rw [e] at q2; exact q2, rfl, h3, h4, h2⟩
 ·exact ⟨l, _, some K, h1, q1, ⟨k1, fun j hj => by rw [← e]; exact q2 j hj⟩, rfl, h3, h4, h2⟩
theorem SK : ∀ (p : List GLw) (i : Int), ∃ r, wO p i = some r ∧ (∀ k c, r ≠ .brk k c)
 | [], _ => ⟨_, rfl, by intro _ _ h; cases h⟩
 | e :: p, i => by
  obtain ⟨r, hr, h⟩ := SK p (i + 1)
  simp only [wO, hr]
  cases decide (i < 6)
  ·exact ⟨_, rfl, by intro _ _ h; cases h⟩
  ·cases decide ((e.Signs.length : Int) > 8)
   ·cases decide ((e.Cuts.length : Int) > 8)
    ·exact ⟨_, rfl, h⟩
    ·exact ⟨_, rfl, by intro _ _ h; cases h⟩
   ·exact ⟨_, rfl, by intro _ _ h; cases h⟩
theorem GD (s : GLs) (h : lenOk s.Words = true) : ∃ b, yS s = some b := by
 obtain ⟨r, hr, hk⟩ := SK s.Words 0
 simp only [yS, h, cond_true, hr]
 match r, hk with
 | .ret b, _ => exact ⟨_, rfl⟩
 | .go _, _ =>
  simp only [lbind]
  cases decide ((s.Widths.length : Int) ≤ 8)
  ·exact ⟨_, rfl⟩
  ·cases decide ((s.Pairs.length : Int) ≤ 8)
   ·exact ⟨_, rfl⟩
   ·exact ⟨_, rfl⟩
 | .brk k c, hk => exact absurd rfl (hk k c)
structure Good (s : GLs) (x : GLx) : Prop where
 fine : FineS s
 sheet : sheetB s = true
 out : outB s x.Out = true
 ends : IsS (possL x.Out s.Words 0) x.Ends
 lo : lenOk x.Out = true
 le : lenOk x.Ends = true
theorem hmix : prog.follows .mixedOrders = true := by kernel_rfl
def kA : VV := (VV.agg [(VV.sl [(.lit (.int .i64 (.ofNat 6))), (.lit (.int .i64 (.ofNat 4))), (.lit (.int .i64 (.ofNat 8)))] 3 Bool.false), (VV.sl [(.lit (.int .i64 (.ofNat 0))), (.lit (.int .i64 (.ofNat 1))), (.lit (.int .i64 (.ofNat 1))), (.lit (.int .i64 (.ofNat 3))), (.lit (.int .i64 (.ofNat 2))), (.lit (.int .i64 (.ofNat 0))), (.lit (.int .i64 (.ofNat 0))), (.lit (.int .i64 (.ofNat 2)))] 2 Bool.false), (.lit (.int .i64 (.ofNat 2))), (.lit (.int .i64 (.ofNat 4))), (.lit (.int .i64 (.ofNat 5))), (.lit (.int .i64 (.ofNat 8))), (.lit (.int .i64 (.ofNat 3))), (VV.sl [(VV.sl [(.lit (.int .i64 (.ofNat 2))), (.lit (.int .i64 (.ofNat 0))), (.lit (.int .i64 (.ofNat 1)))] 3 Bool.false), (VV.lit (Value.slice Option.none 0 0)), (VV.lit (Value.bool Bool.false)), (VV.sl [(.lit (.int .i64 (.ofNat 0))), (.lit (.int .i64 (.ofNat 2)))] 2 Bool.false), (VV.sl [(.lit (.int .i64 (.ofNat 1)))] 1 Bool.false), (VV.lit (Value.bool Bool.true))] 2 Bool.false), (.lit (.int .i64 (.ofNat 21))), (.lit (.int .i64 (.ofNat 2)))])
def kX : VV := (VV.agg [(VV.lit (Value.slice Option.none 0 0)), (VV.sl [(.lit (.int .i64 (.ofNat 0))), (.lit (.int .i64 (.ofNat 3))), (.lit (.int .i64 (.ofNat 1))), (.lit (.int .i64 (.ofNat 2)))] 2 Bool.false)])
def kY : VV := (VV.agg [(VV.lit (Value.slice Option.none 0 0)), (VV.sl [(.lit (.int .i64 (.ofNat 1))), (.lit (.int .i64 (.ofNat 1))), (.lit (.int .i64 (.ofNat 1))), (.lit (.int .i64 (.ofNat 2)))] 2 Bool.false)])
def kB : VV := (VV.agg [(VV.sl [(.lit (.int .i64 (.ofNat 6))), (.lit (.int .i64 (.ofNat 4))), (.lit (.int .i64 (.ofNat 8)))] 3 Bool.false), (VV.sl [(.lit (.int .i64 (.ofNat 0))), (.lit (.int .i64 (.ofNat 1))), (.lit (.int .i64 (.ofNat 1))), (.lit (.int .i64 (.ofNat 3))), (.lit (.int .i64 (.ofNat 2))), (.lit (.int .i64 (.ofNat 0))), (.lit (.int .i64 (.ofNat 0))), (.lit (.int .i64 (.ofNat 2)))] 2 Bool.false), (.lit (.int .i64 (.ofNat 2))), (.lit (.int .i64 (.ofNat 4))), (.lit (.int .i64 (.ofNat 5))), (.lit (.int .i64 (.ofNat 8))), (.lit (.int .i64 (.ofNat 3))), (VV.sl [(VV.sl [(.lit (.int .i64 (.ofNat 2))), (.lit (.int .i64 (.ofNat 0))), (.lit (.int .i64 (.ofNat 1)))] 3 Bool.false), (VV.lit (Value.slice Option.none 0 0)), (VV.lit (Value.bool Bool.false)), (VV.sl [(.lit (.int .i64 (.ofNat 0))), (.lit (.int .i64 (.ofNat 2)))] 2 Bool.false), (VV.sl [(.lit (.int .i64 (.ofNat 1)))] 1 Bool.false), (VV.lit (Value.bool Bool.true))] 2 Bool.false), (.lit (.int .i64 (.ofNat 18))), (.lit (.int .i64 (.ofNat 2)))])
def kC : VV := (VV.agg [(VV.sl [(.lit (.int .i64 (.ofNat 6))), (.lit (.int .i64 (.ofNat 4))), (.lit (.int .i64 (.ofNat 8)))] 3 Bool.false), (VV.sl [(.lit (.int .i64 (.ofNat 0))), (.lit (.int .i64 (.ofNat 1))), (.lit (.int .i64 (.ofNat 1))), (.lit (.int .i64 (.ofNat 3))), (.lit (.int .i64 (.ofNat 2))), (.lit (.int .i64 (.ofNat 0))), (.lit (.int .i64 (.ofNat 0))), (.lit (.int .i64 (.ofNat 2)))] 2 Bool.false), (.lit (.int .i64 (.ofNat 2))), (.lit (.int .i64 (.ofNat 4))), (.lit (.int .i64 (.ofNat 5))), (.lit (.int .i64 (.ofNat 8))), (.lit (.int .i64 (.ofNat 3))), (VV.sl [(VV.sl [(.lit (.int .i64 (.ofNat 2))), (.lit (.int .i64 (.ofNat 0))), (.lit (.int .i64 (.ofNat 1)))] 3 Bool.false), (VV.lit (Value.slice Option.none 0 0)), (VV.lit (Value.bool Bool.false)), (VV.sl [(.lit (.int .i64 (.ofNat 0))), (.lit (.int .i64 (.ofNat 2)))] 2 Bool.false), (VV.sl [(.lit (.int .i64 (.ofNat 1)))] 1 Bool.false), (VV.lit (Value.bool Bool.true))] 2 Bool.false), (.lit (.int .i64 (.ofNat 21))), (.lit (.int .i64 (.ofNat 1)))])
def kD : VV := (VV.agg [(VV.sl [(.lit (.int .i64 (.ofNat 6))), (.lit (.int .i64 (.ofNat 4))), (.lit (.int .i64 (.ofNat 8)))] 3 Bool.false), (VV.sl [(.lit (.int .i64 (.ofNat 0))), (.lit (.int .i64 (.ofNat 1))), (.lit (.int .i64 (.ofNat 1))), (.lit (.int .i64 (.ofNat 3))), (.lit (.int .i64 (.ofNat 2))), (.lit (.int .i64 (.ofNat 0))), (.lit (.int .i64 (.ofNat 0))), (.lit (.int .i64 (.ofNat 2)))] 2 Bool.false), (.lit (.int .i64 (.ofNat 2))), (.lit (.int .i64 (.ofNat 4))), (.lit (.int .i64 (.ofNat 5))), (.lit (.int .i64 (.ofNat 8))), (.lit (.int .i64 (.ofNat 3))), (VV.sl [(VV.sl [(.lit (.int .i64 (.ofNat 2))), (.lit (.int .i64 (.ofNat 0))), (.lit (.int .i64 (.ofNat 1)))] 3 Bool.false), (VV.lit (Value.slice Option.none 0 0)), (VV.lit (Value.bool Bool.false)), (VV.sl [(.lit (.int .i64 (.ofNat 0))), (.lit (.int .i64 (.ofNat 1)))] 2 Bool.false), (VV.sl [(.lit (.int .i64 (.ofNat 1)))] 1 Bool.false), (VV.lit (Value.bool Bool.true))] 2 Bool.false), (.lit (.int .i64 (.ofNat 21))), (.lit (.int .i64 (.ofNat 2)))])
def kWidths : VV := (VV.tup [(VV.sl [(.lit (.int .i64 (.ofNat 35))), (.lit (.int .i64 (.ofNat 8)))] 2 Bool.false), (.lit (.int .i64 (.ofNat 0)))])
def kFits : VV := (VV.tup [(VV.lit (Value.bool Bool.true)), (.lit (.int .i64 (.ofNat 0)))])
def kStretch : VV := (VV.tup [(.lit (.int .i64 (.ofNat 9))), (.lit (.int .i64 (.ofNat 0)))])
def kPlaces : VV := (VV.tup [(VV.sl [(VV.sl [(.lit (.int .i64 (.ofNat 0))), (.lit (.int .i64 (.ofNat 9))), (.lit (.int .i64 (.ofNat 17)))] 3 Bool.false), (VV.sl [(.lit (.int .i64 (.ofNat 0))), (.lit (.int .i64 (.ofNat 9)))] 2 Bool.false)] 2 Bool.false), (.lit (.int .i64 (.ofNat 0)))])
def kRows : VV := (VV.tup [(.lit (.int .i64 (.ofNat 2))), (.lit (.int .i64 (.ofNat 0)))])
def kSet : VV := (VV.tup [(VV.agg [(VV.lit (Value.slice Option.none 0 0)), (VV.sl [(.lit (.int .i64 (.ofNat 0))), (.lit (.int .i64 (.ofNat 3))), (.lit (.int .i64 (.ofNat 1))), (.lit (.int .i64 (.ofNat 2)))] 2 Bool.false)]), (.lit (.int .i64 (.ofNat 9))), (.lit (.int .i64 (.ofNat 0)))])
def kCount : VV := (VV.tup [(.lit (.int .i64 (.ofNat 1))), (.lit (.int .i64 (.ofNat 0)))])
def kNarrow : VV := (VV.tup [(.lit (.int .i64 (.ofNat 40))), (.lit (.int .i64 (.ofNat 0)))])
def kDrop : VV := (VV.tup [(VV.sl [(.lit (.int .i64 (.ofNat 1)))] 1 Bool.false), (.lit (.int .i64 (.ofNat 0)))])
def kOver : VV := (VV.tup [(.lit (.int .i64 (.ofNat 3))), (.lit (.int .i64 (.ofNat 0)))])
def kAlike : VV := (VV.tup [(.lit (.int .i64 (.ofNat 0))), (.lit (.int .i64 (.ofNat 1))), (.lit (.int .i64 (.ofNat 0)))])
def kRead : VV := (VV.tup [(VV.agg [(VV.sl [(.lit (.int .i64 (.ofNat 1)))] 1 Bool.false), (VV.lit (Value.slice Option.none 0 0)), (.lit (.int .i64 (.ofNat 0))), (.lit (.int .i64 (.ofNat 0))), (.lit (.int .i64 (.ofNat 0))), (.lit (.int .i64 (.ofNat 0))), (.lit (.int .i64 (.ofNat 1))), (VV.sl [(VV.sl [(.lit (.int .i64 (.ofNat 0)))] 1 Bool.false), (VV.lit (Value.slice Option.none 0 0)), (VV.lit (Value.bool Bool.false))] 1 Bool.false), (.lit (.int .i64 (.ofNat 1))), (.lit (.int .i64 (.ofNat 1)))]), (.lit (.int .i64 (.ofNat 0)))])
theorem pA : ah prog G0 59 [] (.tree kA) := ah.closedT (tab := []) hmix trivial 1000 (by kernel_rfl)
theorem pX : ah prog G0 61 [] (.tree kX) := ah.closedT (tab := []) hmix trivial 1000 (by kernel_rfl)
theorem pY : ah prog G0 60 [] (.tree kY) := ah.closedT (tab := []) hmix trivial 1000 (by kernel_rfl)
theorem pB : ah prog G0 63 [] (.tree kB) := ah.closedT (tab := []) hmix trivial 1000 (by kernel_rfl)
theorem pC : ah prog G0 62 [] (.tree kC) := ah.closedT (tab := []) hmix trivial 1000 (by kernel_rfl)
theorem pD : ah prog G0 65 [] (.tree kD) := ah.closedT (tab := []) hmix trivial 1000 (by kernel_rfl)
theorem pWidths : ah prog G0 21 [kA, kY, .lit (.int .i64 (0))] (.tree kWidths) := ah.closedT (tab := []) hmix trivial 1000 (by kernel_rfl)
theorem pFits : ah prog G0 31 [kA, kX, .lit (.int .i64 (9))] (.tree kFits) := ah.closedT (tab := []) hmix trivial 1000 (by kernel_rfl)
theorem pStretch : ah prog G0 32 [kA, kX] (.tree kStretch) := ah.closedT (tab := []) hmix trivial 1000 (by kernel_rfl)
theorem pPlaces : ah prog G0 28 [kA, kX, .lit (.int .i64 (9))] (.tree kPlaces) := ah.closedT (tab := []) hmix trivial 1000 (by kernel_rfl)
theorem pRows : ah prog G0 37 [kA] (.tree kRows) := ah.closedT (tab := []) hmix trivial 1000 (by kernel_rfl)
theorem pSet : ah prog G0 38 [kA] (.tree kSet) := ah.closedT (tab := []) hmix trivial 1000 (by kernel_rfl)
theorem pCount : ah prog G0 43 [kA] (.tree kCount) := ah.closedT (tab := []) hmix trivial 1000 (by kernel_rfl)
theorem pNarrow : ah prog G0 44 [kC] (.tree kNarrow) := ah.closedT (tab := []) hmix trivial 1000 (by kernel_rfl)
theorem pDrop : ah prog G0 48 [kC] (.tree kDrop) := ah.closedT (tab := []) hmix trivial 1000 (by kernel_rfl)
theorem pOver : ah prog G0 53 [kB] (.tree kOver) := ah.closedT (tab := []) hmix trivial 1000 (by kernel_rfl)
theorem pAlike : ah prog G0 64 [kD] (.tree kAlike) := ah.closedT (tab := []) hmix trivial 1000 (by kernel_rfl)
theorem pRead : ah prog G0 66 [.lit (.string ⟨⟨[102, 114, 111, 110, 116, 32, 49, 32, 49, 10, 115, 112, 97, 99, 101, 115, 32, 48, 32, 48, 32, 48, 32, 48, 32, 49, 10, 115, 105, 103, 110, 32, 49, 10, 119, 111, 114, 100, 32, 110, 111, 32, 48, 32, 45, 10, 101, 110, 100, 32, 48, 57, 56, 10]⟩⟩)] (.tree kRead) := ah.closedT (tab := []) hmix trivial 1000 (by kernel_rfl)
def kTab : KTab := [
  (59, [], kA),
  (61, [], kX),
  (60, [], kY),
  (63, [], kB),
  (62, [], kC),
  (65, [], kD),
  (21, [kA, kY, .lit (.int .i64 (0))], kWidths),
  (31, [kA, kX, .lit (.int .i64 (9))], kFits),
  (32, [kA, kX], kStretch),
  (28, [kA, kX, .lit (.int .i64 (9))], kPlaces),
  (37, [kA], kRows),
  (38, [kA], kSet),
  (43, [kA], kCount),
  (44, [kC], kNarrow),
  (48, [kC], kDrop),
  (53, [kB], kOver),
  (64, [kD], kAlike),
  (66, [.lit (.string ⟨⟨[102, 114, 111, 110, 116, 32, 49, 32, 49, 10, 115, 112, 97, 99, 101, 115, 32, 48, 32, 48, 32, 48, 32, 48, 32, 49, 10, 115, 105, 103, 110, 32, 49, 10, 119, 111, 114, 100, 32, 110, 111, 32, 48, 32, 45, 10, 101, 110, 100, 32, 48, 57, 56, 10]⟩⟩)], kRead)]
theorem kTabOk : KTabOk prog G0 kTab := ⟨⟨by kernel_rfl, pA⟩, ⟨⟨by kernel_rfl, pX⟩, ⟨⟨by kernel_rfl, pY⟩, ⟨⟨by kernel_rfl, pB⟩, ⟨⟨by kernel_rfl, pC⟩, ⟨⟨by kernel_rfl, pD⟩, ⟨⟨by kernel_rfl, pWidths⟩, ⟨⟨by kernel_rfl, pFits⟩, ⟨⟨by kernel_rfl, pStretch⟩, ⟨⟨by kernel_rfl, pPlaces⟩, ⟨⟨by kernel_rfl, pRows⟩, ⟨⟨by kernel_rfl, pSet⟩, ⟨⟨by kernel_rfl, pCount⟩, ⟨⟨by kernel_rfl, pNarrow⟩, ⟨⟨by kernel_rfl, pDrop⟩, ⟨⟨by kernel_rfl, pOver⟩, ⟨⟨by kernel_rfl, pAlike⟩, ⟨⟨by kernel_rfl, pRead⟩, trivial⟩⟩⟩⟩⟩⟩⟩⟩⟩⟩⟩⟩⟩⟩⟩⟩⟩⟩
theorem pKnown : ah prog G0 19 [] (.tree (.lit (.bool true))) := ah.closedT hmix kTabOk 1000 (by kernel_rfl)
#print axioms pKnown
theorem yT : ah prog G0 19 [] (.tree (.lit (.bool true))) := pKnown









def upTo (e : GLe) : List FL → List FL × List FL
 | [] => ([], [])
 | f :: fl => if e = f.1 then ([f], fl) else (f :: (upTo e fl).1, (upTo e fl).2)
def segs : List GLe → List FL → List (List FL)
 | [], _ => []
 | e :: es, fl => (upTo e fl).1 :: segs es (upTo e fl).2



def goG (f : List GLe → List (List GLe)) : List GLe → List (List GLe)
 | [] => []
 | e :: q => (f q).map (e :: ·) ++ goG f q
def gs (z : GLe) : Nat → List GLe → List (List GLe)
 | 0, _ => [[z]]
 | d + 1, q => goG (gs z d) q ++ [[z]]
theorem yU {init : List GLe} {z : GLe} {rows : Int} : ∀ (n d : Nat) (p : List GLe) (fr : Nat), d < n → (rows = p.length + 1 + d ∨ d = 0 ∧ rows ≤ p.length + 1) → fr ≤ init.length → stgO (init ++ [z]) init.length rows n p fr = some ((gs z d (init.drop fr)).map (p ++ ·))
 | 0, d, p, fr, h, _, _ => by omega
 | n + 1, 0, p, fr, h, hr, hf => by
  have hz : (init ++ [z])[init.length]? = some z := by simp
  rw [stgO, if_neg (by omega), hz]
  rfl
 | n + 1, d + 1, p, fr, h, hr, hf => by
  have hz : (init ++ [z])[init.length]? = some z := by simp
  have hr' : rows = p.length + 1 + (d + 1 : Nat) := by omega
  have hg : ∀ m i, i + m = init.length → goStg (stgO (init ++ [z]) init.length rows n) (init ++ [z]) p m i = some ((goG (gs z d) (init.drop i)).map (p ++ ·)) := by
   intro m
   induction m with
   | zero =>
    intro i hi
    rw [List.drop_eq_nil_of_le (by omega)]
    rfl
   | succ m ih =>
    intro i hi
    have hl : i < init.length := by omega
    have hgi : (init ++ [z])[i]? = some init[i] := by
     rw [List.getElem?_append_left hl]
     exact qZj hl
    rw [goStg, hgi, Option.bind_some, yU n d (p ++ [init[i]]) (i + 1) (by omega) (by simp; omega) (by omega), Option.bind_some, ih (i + 1) (by omega), Option.bind_some, List.drop_eq_getElem_cons hl, goG, List.map_append, List.map_map]
    simp [Function.comp_def]
  rw [stgO, if_pos (by omega), hg _ _ (by omega), Option.bind_some, hz, Option.bind_some, gs, List.map_append]
  rfl
theorem rD {f : List GLe → List (List GLe)} {y : List GLe} : ∀ (q : List GLe), y ∈ goG f q ↔ ∃ a e b, q = a ++ e :: b ∧ ∃ y' ∈ f b, y = e :: y'
 | [] => by simp [goG]
 | x :: q => by
  simp only [goG, List.mem_append, List.mem_map, rD q]
  constructor
  ·rintro (⟨y', h1, rfl⟩ | ⟨a, e, b, rfl, h⟩)
   ·exact ⟨[], x, q, rfl, y', h1, rfl⟩
   ·exact ⟨x :: a, e, b, rfl, h⟩
  ·rintro ⟨a, e, b, h1, y', h2, rfl⟩
   cases a with
   | nil =>
    simp only [List.nil_append, List.cons.injEq] at h1
    obtain ⟨rfl, rfl⟩ := h1
    exact .inl ⟨y', h2, rfl⟩
   | cons c a =>
    simp only [List.cons_append, List.cons.injEq] at h1
    obtain ⟨rfl, rfl⟩ := h1
    exact .inr ⟨a, e, b, rfl, y', h2, rfl⟩
theorem rE {z : GLe} : ∀ (d : Nat) (q : List GLe) (y : List GLe), y ∈ gs z d q ↔ ∃ u, y = u ++ [z] ∧ u.Sublist q ∧ u.length ≤ d
 | 0, q, y => by
  simp only [gs, List.mem_singleton]
  constructor
  ·rintro rfl; exact ⟨[], rfl, List.nil_sublist _, qZh _⟩
  ·rintro ⟨u, rfl, _, h⟩
   have := List.length_eq_zero_iff.1 (Nat.le_zero.1 h)
   rw [this]; rfl
 | d + 1, q, y => by
  simp only [gs, List.mem_append, List.mem_singleton, rD]
  constructor
  ·rintro (⟨a, e, b, rfl, y', h, rfl⟩ | rfl)
   ·obtain ⟨u, rfl, h1, h2⟩ := (rE d b y').1 h
    exact ⟨e :: u, rfl, (List.Sublist.cons_cons e h1).trans (List.sublist_append_right _ _), by simp; omega⟩
   ·exact ⟨[], rfl, List.nil_sublist _, Nat.zero_le _⟩
  ·rintro ⟨u, rfl, h1, h2⟩
   cases u with
   | nil => exact .inr rfl
   | cons e u =>
    left
    have : ∀ {q : List GLe}, (e :: u).Sublist q → ∃ a b, q = a ++ e :: b ∧ u.Sublist b := by
     intro q hq
     induction q with
     | nil => cases hq
     | cons x q ih =>
      cases hq with
      | cons _ h =>
       obtain ⟨a, b, rfl, h3⟩ := ih h
       exact ⟨x :: a, b, rfl, h3⟩
      | cons_cons _ h => exact ⟨[], q, rfl, h⟩
    obtain ⟨a, b, rfl, h3⟩ := this h1
    simp only [List.length_cons] at h2
    exact ⟨a, e, b, rfl, u ++ [z], (rE d b _).2 ⟨u, rfl, h3, by omega⟩, rfl⟩
def lexb : List GLe → List GLe → Prop
 | a :: x, b :: y => befE a b ∨ a = b ∧ lexb x y
 | _, _ => False
def ordE (x y : List GLe) : Prop := x ≠ y ∧ (x.length = y.length → lexb x y)
theorem yV {z : GLe} : ∀ (d : Nat) (q : List GLe), q.Pairwise befE → (gs z d q).Pairwise ordE
 | 0, q, _ => List.pairwise_singleton _ _
 | d + 1, q, h => by
  have hg : ∀ q : List GLe, q.Pairwise befE → (goG (gs z d) q).Pairwise ordE := by
   intro q
   induction q with
   | nil => intro _; exact List.Pairwise.nil
   | cons e q ih =>
    intro hq
    obtain ⟨h1, h2⟩ := List.pairwise_cons.1 hq
    rw [goG, List.pairwise_append]
    refine ⟨?_, ih h2, ?_⟩
    ·rw [List.pairwise_map]
     refine (yV d q h2).imp fun {a b} hab => ⟨fun hh => hab.1 (List.cons.inj hh).2, fun hl => ?_⟩
     unfold lexb
     exact .inr ⟨rfl, hab.2 (by simpa using hl)⟩
    ·intro x hx y hy
     obtain ⟨x', _, rfl⟩ := List.mem_map.1 hx
     obtain ⟨a, e', b, rfl, y', _, rfl⟩ := (rD q).1 hy
     have hb : befE e e' := h1 e' (by simp)
     refine ⟨fun hh => ?_, fun _ => ?_⟩
     ·rw [(List.cons.inj hh).1] at hb; exact jw hb
     ·unfold lexb; exact .inl hb
  rw [gs, List.pairwise_append]
  refine ⟨hg q h, List.pairwise_singleton _ _, fun x hx y hy => ?_⟩
  obtain ⟨a, e, b, _, y', hy', rfl⟩ := (rD q).1 hx
  obtain ⟨u, rfl, _, _⟩ := (rE d b y').1 hy'
  rw [List.mem_singleton.1 hy]
  have hl : (e :: (u ++ [z])).length ≠ [z].length := by simp
  exact ⟨fun hh => hl (by rw [hh]), fun hh => (hl hh).elim⟩
theorem GH : ∀ (q u : List GLe), q.Pairwise befE → u.Pairwise befE → (∀ e ∈ u, e ∈ q) → u.Sublist q
 | [], [], _, _, _ => List.nil_sublist _
 | [], e :: u, _, _, h => by cases h e (qZb ..)
 | x :: q, [], _, _, _ => List.nil_sublist _
 | x :: q, e :: u, hq, hu, h => by
  obtain ⟨q1, q2⟩ := List.pairwise_cons.1 hq
  obtain ⟨u1, u2⟩ := List.pairwise_cons.1 hu
  rcases List.mem_cons.1 (h e (qZb ..)) with rfl | he
  ·refine List.Sublist.cons_cons _ (GH q u q2 u2 fun g hg => ?_)
   rcases List.mem_cons.1 (h g (qZa _ hg)) with rfl | h'
   ·exact (jw (u1 _ hg)).elim
   ·exact h'
  ·refine List.Sublist.cons _ (GH q (e :: u) q2 hu fun g hg => ?_)
   rcases List.mem_cons.1 (h g hg) with rfl | h'
   ·rcases List.mem_cons.1 hg with rfl | hg
    ·exact he
    ·exact (jw (yW (u1 _ hg) (q1 _ he))).elim
   ·exact h'
variable {out : List Int}
theorem SL (h : Sh s) (ho : outB s out = true) (hl : lenOk out = true) (hn : out.length < 1000000) : ∃ L, ud s out = some L ∧ (∀ y, y ∈ L ↔ IsS (possL out s.Words 0) y ∧ (y.length : Int) ≤ s.Rows) ∧ L.Pairwise ordE ∧ L.length ≤ 277 := by
 have hne := GI (s := s) ho
 have hp := uq h out
 have ba := yX h out
 have hr := h.rows
 obtain ⟨init, z, hz⟩ : ∃ init z, possL out s.Words 0 = init ++ [z] := ⟨_, _, (List.dropLast_concat_getLast hne).symm⟩
 rw [show poss s out = possL out s.Words 0 from rfl] at hp
 rw [hz] at hp ba
 obtain ⟨p1, p2, p3⟩ := List.pairwise_append.1 hp
 simp only [List.length_append, List.length_singleton] at ba
 have hd : ∃ d : Nat, s.Rows = ((d : Nat) : Int) + 1 ∧ d ≤ 2 := ⟨(s.Rows - 1).toNat, by omega, by omega⟩
 obtain ⟨d, hd, mT⟩ := hd
 refine ⟨gs z d init, ?_, ?_, yV d init p1, ?_⟩
 ·simp only [ud, yY h out hl, Option.bind_some]
  rw [hz, if_pos ⟨by simp; omega, hn⟩, show (init ++ [z]).length - 1 = init.length by simp, yU 5 d [] 0 (by omega) (by simp; omega) (Nat.zero_le _)]
  simp
 ·intro y
  rw [rE, hz]
  constructor
  ·rintro ⟨u, rfl, h1, h2⟩
   refine ⟨⟨?_, ?_, by simp⟩, by simp; omega⟩
   ·rw [List.pairwise_append]
    exact ⟨p1.sublist h1, List.pairwise_singleton _ _, fun a ha b hb => p3 a (h1.subset ha) b hb⟩
   ·intro e he
    rcases List.mem_append.1 he with he | he
    ·exact qZf _ (h1.subset he)
    ·exact List.mem_append_right _ he
  ·rintro ⟨⟨h1, h2, h3⟩, h4⟩
   rw [show (init ++ [z]).getLast? = some z by simp] at h3
   obtain ⟨u, rfl⟩ : ∃ u, y = u ++ [z] := by
    have hyne : y ≠ [] := by rintro rfl; cases h3
    refine ⟨y.dropLast, ?_⟩
    rw [List.getLast?_eq_some_getLast hyne] at h3
    rw [← Option.some.inj h3]
    exact (List.dropLast_concat_getLast hyne).symm
   obtain ⟨u1, u2, u3⟩ := List.pairwise_append.1 h1
   refine ⟨u, rfl, GH _ _ p1 u1 fun e he => ?_, by simp at h4; omega⟩
   rcases List.mem_append.1 (h2 e (qZf _ he)) with h | h
   ·exact h
   ·have := u3 e he z (by simp)
    rw [List.mem_singleton.1 h] at this
    exact (jw this).elim
 ·have gc : ∀ (f : List GLe → List (List GLe)) (e : GLe) (q : List GLe), (goG f (e :: q)).length = (f q).length + (goG f q).length := fun f e q => by simp [goG]
  have gz : ∀ q : List GLe, (gs z 0 q).length = 1 := fun q => rfl
  have gn : ∀ (d : Nat) (q : List GLe), (gs z (d + 1) q).length = (goG (gs z d) q).length + 1 := fun d q => by
   show (goG (gs z d) q ++ [[z]]).length = _
   simp only [List.length_append, List.length_singleton]
  have g0 : ∀ q : List GLe, (goG (gs z 0) q).length = q.length := by
   intro q
   induction q with
   | nil => rfl
   | cons e q ih => rw [gc, gz, ih, List.length_cons]; omega
  have g1 : ∀ q : List GLe, 2 * (goG (gs z 1) q).length = q.length * (q.length + 1) := by
   intro q
   induction q with
   | nil => rfl
   | cons e q ih =>
    rw [gc, gn, g0, Nat.mul_add, ih, List.length_cons]
    generalize q.length = n
    rw [show (n + 1) * (n + 1 + 1) = n * (n + 1) + 2 * (n + 1) by rw [Nat.add_mul, Nat.mul_add, Nat.mul_add]; omega]
    omega
  match d, mT with
  | 0, _ => rw [gz]; omega
  | 1, _ => rw [gn, g0]; omega
  | 2, _ =>
   have := g1 init
   have hm : init.length * (init.length + 1) ≤ 23 * 24 := Nat.mul_le_mul (by omega) (by omega)
   rw [gn]
   omega
abbrev sL (x : Gld) : VV := .agg (cGld x)
def consO {α : Type} : Option α → List α → List α
 | none, r => r
 | some y, r => y :: r
def fitO (s : GLs) (out : List Int) : List (List GLe) → Option (List Gld)
 | [] => some []
 | x :: L => Option.bind (uk s (GLx.mk out x) 0) fun l => Option.bind (Dx l) fun w => Option.bind (fitO s out L) fun r => some (consO w r)
def qH (s : GLs) (out : List Int) : Option (List Gld) := Option.bind (ud s out) fun L => fitO s out L
def itF (s : GLs) (out : List Int) : VV := .fn (.func 123) [] [.tp (cGLs s), .tp [vx eI out]]
theorem GJ : (itF s out).tree = true := by
 have h : tl (cGLs s) = true := ep.tree s
 have h2 : (vx eI out).tree = true := qE
 simp [itF, VV.tree, tl, h, h2]
theorem SM (s : GLs) (out : List Int) : ah prog G0 87 [.agg (cGLs s), vx eI out] (.tree (itF s out)) := by
 refine ah.run mixed call87 func87 rfl (by simp [ntmps87]; kernel_rfl) ?_
 simp only [vz, tyf, seval, ua, rg, vcells1 jv]
 refine ⟨rfl, .fn (.func 123) [] [.ptr 0 0, .ptr 1 0], by simp [results87, resV, resL, aE, upd], 50, ?_⟩
 exact yM (c1 := cGLs s) (c2 := [vx eI out]) (G1 := some 28) (ff := some 22) (by simp only [bk, seval] <;> rfl) (by simp only [bk, seval] <;> rfl) (ep.tree s) (by simp [tl, qE]) (by simp [cGLs]) (by simp)
theorem SN (s : GLs) (out : List Int) (R : List Gld) (h : qH s out = some R) : Iter prog G0 (itF s out) (R.map sL) := by
 unfold qH at h
 rcases hs : ud s out with _ | L
 ·rw [hs] at h; cases h
 rw [hs, Option.bind_some] at h
 have hit := WH s out L hs
 refine ⟨123, [], _, rfl, fun β I hst hr H nx hβ hI => ?_⟩
 refine aU.run mixed call123 func123 rfl (by simp [ntmps123]; kernel_rfl) ?_
 simp only [List.nil_append, List.cons_append, argsTm3, vz, tyf, seval, ua, rg]
 refine ktreeR ?_ (G2 s out) ?_
 ·simp only [tre, au, qE, Bool.and_self]
 simp only [vz, tyf, seval, ua, rg]
 refine Dy (fun tm => tm 9 = itS s out ∧ tm 1 = .tp (cGLs s) ∧ tm 2 = .tp [vx eI out] ∧ tm 3 = .ptr nx 0) (by refine ⟨?_, ?_, ?_, ?_⟩ <;> simp only [ua, seval, Nat.add_zero, tyf]) ?_
 rintro tm ⟨e9, e1, e2, e3⟩
 refine GK hit (by first | (simp only [kV, kW, e9, kM, seval] <;> rfl) | rfl) ?_
 intro LO hLO
 obtain ⟨J, hJ⟩ : ∃ J : Option (List VV) → Option (List VV) → List (Nat × Vo) → Prop, J = (fun o o' hp => match o with
  | some l => ∃ (p : List (List GLe)) (L2 : List Gld), l = p.map (sSet out) ∧ fitO s out p = some L2 ∧ o' = some (L2.map sL) ∧ hp = [(nx, .cells (some 152) [.yl β]), (nx + 4, .deferred (some [])), (nx + 5, LO)]
  | none => ∃ LD : Code → Vo, (∃ tml ps az bo d, LD = fun c => Vo.loop .done (some c) tml ps az bo d) ∧ o' = none ∧ hp = [(nx, .cells (some 152) [.yl β]), (nx + 4, .deferred (some [])), (nx + 5, LD .ret)]) := ⟨_, rfl⟩
 refine ⟨ownI2 I J, WL hst, ?_, ?_, ?_⟩
 ·rintro v rest Fr H1 bj hFr ⟨hp, o', hown, hj, hi⟩
  rw [hJ] at hj
  obtain ⟨p, L2, hl, hf, rfl, rfl⟩ := hj
  cases p with
  | nil => cases hl
  | cons e p =>
  simp only [List.map_cons, List.cons.injEq] at hl
  obtain ⟨rfl, rfl⟩ := hl
  obtain ⟨la, na, Ha⟩ := hown.head
  obtain ⟨lb, nb, Hb⟩ := hown.tail.head
  obtain ⟨lc, nc, Hc⟩ := hown.tail.tail.head
  have hfr : ∀ γ, (∃ q ∈ [(nx, .cells (some 152) [.yl β]), (nx + 4, .deferred (some [])), (nx + 5, LO)], (q : Nat × Vo).1 = γ) ↔ γ = nx ∨ γ = nx + 4 ∨ γ = nx + 5 := by
   intro γ
   simp [eq_comm]
  simp only [hfr] at hi
  unfold fitO at hf
  rcases dH : uk s (GLx.mk out e) 0 with _ | l
  ·rw [dH] at hf; cases hf
  rw [dH, Option.bind_some] at hf
  rcases Dz : Dx l with _ | w
  ·rw [Dz] at hf; cases hf
  rw [Dz, Option.bind_some] at hf
  rcases D0 : fitO s out p with _ | L3
  ·rw [D0] at hf; cases hf
  rw [D0, Option.bind_some, Option.some.injEq] at hf
  subst hf
  refine GL mixed (psl := [10]) hLO Hc GM rfl (by kernel_rfl) (by kernel_rfl) ?_
  intro LB LD hLB hLD
  refine GN (fun tm => tm 10 = sSet out e ∧ tm 1 = .tp (cGLs s) ∧ tm 2 = .tp [vx eI out] ∧ tm 3 = .ptr nx 0) (by refine ⟨?_, ?_, ?_, ?_⟩ <;> simp only [GO, ntmps123, e1, e2, e3, seval]) ?_
  clear e9 e1 e2 e3
  rintro tm ⟨bx, e1, e2, e3⟩
  have hne : (nx = nx + 5) = False := by simp
  have kO : (nx = bj) = False := by simp; omega
  have sK : (nx + 5 = bj) = False := by simp; omega
  have qI : (bj = nx + 5) = False := by simp; omega
  simp only [vz, tyf, seval, ua, nm, rg, RStart, vcells1 jv, jv, bx, e1, e2, e3, Ha, Hc, hne, kO, sK, qI, Nat.add_zero]
  refine ktree (args0 := [.agg (cGLs s), .agg (cGLx (GLx.mk out e)), .lit (.int .i64 0)]) (by first | (simp only [nrm, ar, Du, tyf] <;> rfl) | rfl) (by simp only [tre, au, qE, Bool.and_self]) (WM _ _ _ _ dH) ?_
  simp only [vz, @iX, tyf, seval, ua, nm, rg, RStart, vcells1 jv, jv, bx, e1, e2, e3, Ha, Hc, hne, kO, sK, qI, Nat.add_zero]
  refine ktree (args0 := [.agg (cGld l)]) (by first | (simp only [nrm, ar, mqr] <;> rfl) | rfl) (by simp only [tre, au, mqr, Bool.and_self]) (WN _ _ Dz) ?_
  have hmax : bj ≤ bj + 4 := by omega
  have D1 : (nx + 5 = bj + 9) = False := by simp; omega
  have SO : (bj + 9 = nx + 5) = False := by simp; omega
  have D2 : (nx = bj + 9) = False := by simp; omega
  have hxb : (nx + 4 = bj) = False := by simp; omega
  have hxc : (nx + 4 = bj + 9) = False := by simp; omega
  have hxd : (nx + 4 = nx + 5) = False := by simp
  have hbig : ∀ γ, γ < bj → ¬ (γ = nx ∨ γ = nx + 4 ∨ γ = nx + 5) → γ ≠ nx + 5 ∧ γ ≠ bj ∧ γ ≠ bj + 9 := fun γ h1 h2 => ⟨fun e => h2 (.inr (.inr e)), by omega, by omega⟩
  cases w with
  | none =>
   simp only [vz, @iX, mq, mqm, mqt, tyf, seval, ua, nm, rg, RStart, wV, zlN, consO, bx, e1, e2, e3, Ha, Hc, hne, kO, sK, qI, D1, SO, D2, Nat.add_zero]
   refine ⟨by simp only [bk, seval, nm, sK, D1, if_false], qZe _ _, fun γ hγ => ?_, ?_⟩
   ·have g5 : γ ≠ nx + 5 := fun e => nc (e ▸ hγ)
    have g1 : γ ≠ bj := fun e => by have := hFr γ hγ; omega
    have g9 : γ ≠ bj + 9 := fun e => by have := hFr γ hγ; omega
    simp only [updH, Nat.add_zero, g5, g1, g9, if_false]
   ·simp only [if_true]
    refine ⟨[(nx, .cells (some 152) [.yl β]), (nx + 4, .deferred (some [])), (nx + 5, LO)], some (L3.map sL), Own.cons (qZd la (qZe _ _)) na ?_ (Own.cons (qZd lb (qZe _ _)) nb ?_ (Own.cons (qZd lc (qZe _ _)) nc ?_ Own.nil)), ?_, ?_⟩
    ·simp only [bk, seval, nm, hne, kO, D2, Nat.add_zero, Ha, if_false]
    ·simp only [bk, seval, nm, hxb, hxc, hxd, Nat.add_zero, Hb, if_false]
    ·simp only [bk, seval, nm]
    ·rw [hJ]
     exact ⟨p, L3, rfl, D0, rfl, rfl⟩
    ·simp only [hfr]
     refine hst _ _ _ _ _ _ _ hi ?_ (qZe _ _) (fun γ h => .inl h)
     intro γ h1 hn
     obtain ⟨g5, g1, g9⟩ := hbig γ h1 (fun h => hn (.inr h))
     simp only [updH, Nat.add_zero, g5, g1, g9, if_false]
  | some y =>
   simp only [vz, @iX, mq, mqm, mqt, tyf, seval, ua, nm, rg, RStart, wV, zlN, consO, bx, e1, e2, e3, Ha, Hc, hne, kO, sK, qI, D1, SO, D2, Nat.add_zero]
   have WO : I (some (sL y :: L3.map sL)) (fun γ => Fr γ ∨ γ = nx ∨ γ = nx + 4 ∨ γ = nx + 5) (updH (updH (updH (updH (updH H1 bj (.cells (some 31) [.lit (.slice none 0 0), .lit (.slice none 0 0)])) bj (.cells (some 31) [vx eI out, sE e])) (nx + 5) LB) (bj + 9) (.cells (some 93) zlC)) (bj + 9) (.cells (some 93) (cGld y))) (bj + 19) := by
    refine hst _ _ _ _ _ _ _ hi ?_ (by omega) (fun γ h => .inl h)
    intro γ h1 hn
    obtain ⟨g5, g1, g9⟩ := hbig γ h1 (fun h => hn (.inr h))
    simp only [updH, g5, g1, g9, if_false]
   refine (hr (sL y) (L3.map sL) _ _ _ ?_ WO) (some (some (nx + 5))) _ _ _ ?_ ?_ ?_
   ·rintro γ (hγ | rfl | rfl | rfl)
    ·have := hFr γ hγ; omega
    ·omega
    ·omega
    ·omega
   ·rfl
   ·rfl
   rintro b H2 nG ⟨q1, q2, q3⟩
   have Ka : H2 nx = some (.cells (some 152) [.yl β]) := by rw [q2 nx (.inr (.inl rfl))]; simp only [bk, nm, seval, hne, kO, D2, Ha, if_false]
   have Kb : H2 (nx + 4) = some (.deferred (some [])) := by rw [q2 _ (.inr (.inr (.inl rfl)))]; simp only [bk, nm, seval, hxb, hxc, hxd, Hb, if_false]
   have Kc : H2 (nx + 5) = some LB := by rw [q2 _ (.inr (.inr (.inr rfl)))]; simp only [bk, nm, seval, sK, D1, if_false]
   have KF : ∀ γ, Fr γ → H2 γ = H1 γ := by
    intro γ hγ
    have g5 : γ ≠ nx + 5 := fun e => nc (e ▸ hγ)
    have g1 : γ ≠ bj := fun e => by have := hFr γ hγ; omega
    have g9 : γ ≠ bj + 9 := fun e => by have := hFr γ hγ; omega
    rw [q2 γ (.inl hγ)]
    simp only [updH, g5, g1, g9, if_false]
   cases b with
   | true =>
    simp only [vz, tyf, seval, ua, nm, rg, Bool.not_true]
    refine ⟨Kc, qZi (by omega : bj ≤ nG) (by first | exact qZh _ | exact qZe _ _), fun γ hγ => ?_, ?_⟩
    ·have g5 : γ ≠ nx + 5 := fun e => nc (e ▸ hγ)
     simp only [updH]
     rw [if_neg g5]
     exact KF γ hγ
    ·simp only [if_true] at q3 ⊢
     have hq : bj ≤ nG := by omega
     refine ⟨[(nx, .cells (some 152) [.yl β]), (nx + 4, .deferred (some [])), (nx + 5, LO)], some (L3.map sL), Own.cons (qZd la (qZi hq (by first | exact qZh _ | exact qZe _ _))) na ?_ (Own.cons (qZd lb (qZi hq (by first | exact qZh _ | exact qZe _ _))) nb ?_ (Own.cons (qZd lc (qZi hq (by first | exact qZh _ | exact qZe _ _))) nc ?_ Own.nil)), ?_, ?_⟩
     ·simp only [bk, seval, hne, Ka]
     ·simp only [bk, nm, seval, Kb]
     ·simp only [bk, seval]
     ·rw [hJ]
      exact ⟨p, L3, rfl, D0, rfl, rfl⟩
     ·simp only [hfr]
      refine hst _ _ _ _ _ _ _ q3 ?_ (by first | exact qZh _ | exact qZe _ _) (fun γ h => .inl h)
      intro γ _ hn
      have g5 : γ ≠ nx + 5 := fun e => hn (.inr (.inr (.inr e)))
      simp only [updH]
      rw [if_neg g5]
   | false =>
    simp only [vz, tyf, seval, ua, nm, rg, Bool.not_false]
    refine ⟨Kc, qZi (by omega : bj ≤ nG) (by first | exact qZh _ | exact qZe _ _), fun γ hγ => ?_, ?_⟩
    ·have g5 : γ ≠ nx + 5 := fun e => nc (e ▸ hγ)
     simp only [updH]
     rw [if_neg g5]
     exact KF γ hγ
    ·simp only [Bool.false_eq_true, if_false] at q3 ⊢
     have hq : bj ≤ nG := by omega
     have GP : ∀ γ, (∃ q ∈ [(nx, .cells (some 152) [.yl β]), (nx + 4, .deferred (some [])), (nx + 5, LD .ret)], (q : Nat × Vo).1 = γ) ↔ γ = nx ∨ γ = nx + 4 ∨ γ = nx + 5 := by
      intro γ
      simp [eq_comm]
     refine ⟨[(nx, .cells (some 152) [.yl β]), (nx + 4, .deferred (some [])), (nx + 5, LD .ret)], none, Own.cons (qZd la (qZi hq (by first | exact qZh _ | exact qZe _ _))) na ?_ (Own.cons (qZd lb (qZi hq (by first | exact qZh _ | exact qZe _ _))) nb ?_ (Own.cons (qZd lc (qZi hq (by first | exact qZh _ | exact qZe _ _))) nc ?_ Own.nil)), ?_, ?_⟩
     ·simp only [bk, seval, hne, Ka]
     ·simp only [bk, nm, seval, Kb]
     ·simp only [bk, seval]
     ·rw [hJ]
      exact ⟨LD, ⟨_, _, _, _, _, hLD⟩, rfl, rfl⟩
     ·simp only [GP]
      refine hst _ _ _ _ _ _ _ q3 ?_ (by first | exact qZh _ | exact qZe _ _) (fun γ h => .inl h)
      intro γ _ hn
      have g5 : γ ≠ nx + 5 := fun e => hn (.inr (.inr (.inr e)))
      simp only [updH]
      rw [if_neg g5]
 ·have hfr : ∀ γ, (∃ q ∈ [(nx, .cells (some 152) [.yl β]), (nx + 4, .deferred (some [])), (nx + 5, LO)], (q : Nat × Vo).1 = γ) ↔ γ = nx ∨ γ = nx + 4 ∨ γ = nx + 5 := by
   intro γ
   simp [eq_comm]
  refine ⟨[(nx, .cells (some 152) [.yl β]), (nx + 4, .deferred (some [])), (nx + 5, LO)], some (R.map sL), Own.cons (show nx < nx + 6 by omega) (fun h => h) ?_ (Own.cons (show nx + 4 < nx + 6 by omega) (fun h => h) ?_ (Own.cons (show nx + 5 < nx + 6 by omega) (fun h => h) ?_ Own.nil)), ?_, ?_⟩
  ·simp only [updH]
   rw [if_neg (by omega), if_neg (by omega), if_pos (by omega)]
  ·simp only [updH]
   simp
  ·simp only [updH]
   simp
  ·rw [hJ]
   exact ⟨L, R, rfl, h, rfl, rfl⟩
  ·simp only [hfr]
   refine hst _ _ _ _ _ _ _ hI ?_ (by omega) ?_
   ·intro γ hγ _
    simp only [updH]
    repeat rw [if_neg (by omega)]
   ·rintro γ (h | rfl | rfl | rfl)
    ·exact h.elim
    ·right; omega
    ·right; omega
    ·right; omega
 ·rintro H' nx' (⟨hp, o', hown, hj, hi⟩ | ⟨hp, o', hown, hj, hi⟩)
  ·rw [hJ] at hj
   obtain ⟨p, L2, hl, hf, rfl, rfl⟩ := hj
   cases p with
   | cons e p => cases hl
   | nil =>
   simp only [fitO, Option.some.injEq] at hf
   subst hf
   obtain ⟨la, na, Ha⟩ := hown.head
   obtain ⟨lb, nb, Hb⟩ := hown.tail.head
   obtain ⟨lc, nc, Hc⟩ := hown.tail.tail.head
   have hfr : ∀ γ, (∃ q ∈ [(nx, .cells (some 152) [.yl β]), (nx + 4, .deferred (some [])), (nx + 5, LO)], (q : Nat × Vo).1 = γ) ↔ γ = nx ∨ γ = nx + 4 ∨ γ = nx + 5 := by
    intro γ
    simp [eq_comm]
   simp only [hfr] at hi
   refine GQ hLO Hc ?_
   intro LX
   simp only [vz, tyf, seval, ua, nm, rg]
   refine GR (by simp only [bk, nm, seval, Hb]) ?_
   refine G5 (x := .tup []) (by simp [results123, resV, resL]) (.inl ?_)
   refine hst _ _ _ _ _ _ _ hi ?_ (qZh _) (fun γ h => h.elim)
   intro γ _ hn
   have g2 : γ ≠ nx + 4 := fun e => hn (.inr (.inr (.inl e)))
   have g3 : γ ≠ nx + 5 := fun e => hn (.inr (.inr (.inr e)))
   simp only [updH]
   repeat rw [if_neg (by first | assumption | omega)]
  ·rw [hJ] at hj
   obtain ⟨LD, ⟨tml, ps, az, bo, d, hLD⟩, rfl, rfl⟩ := hj
   obtain ⟨la, na, Ha⟩ := hown.head
   obtain ⟨lb, nb, Hb⟩ := hown.tail.head
   obtain ⟨lc, nc, Hc⟩ := hown.tail.tail.head
   have hfr : ∀ γ, (∃ q ∈ [(nx, .cells (some 152) [.yl β]), (nx + 4, .deferred (some [])), (nx + 5, LD .ret)], (q : Nat × Vo).1 = γ) ↔ γ = nx ∨ γ = nx + 4 ∨ γ = nx + 5 := by
    intro γ
    simp [eq_comm]
   simp only [hfr] at hi
   refine SP hLD Hc ?_
   intro LX
   simp only [vz, tyf, seval, ua, nm, rg]
   refine yZ (by simp only [bk, nm, seval, Hb]) ?_
   refine cB (x := .tup []) (by simp [results123, resV, resL]) (.inr ?_)
   refine hst _ _ _ _ _ _ _ hi ?_ (qZh _) (fun γ h => h.elim)
   intro γ _ hn
   have g2 : γ ≠ nx + 4 := fun e => hn (.inr (.inr (.inl e)))
   have g3 : γ ≠ nx + 5 := fun e => hn (.inr (.inr (.inr e)))
   simp only [updH]
   repeat rw [if_neg (by first | assumption | omega)]
theorem SQ {d : Nat} : showV H d (vx eI l) = vx eI l := by
 cases l <;> cases d <;> rfl
def accL : Option Gld → List VV
 | none => zlC
 | some r => (cGld r)
def bestL (better : Gld → Gld → Option Bool) : List Gld → Option Gld → Option (Option Gld)
 | [], acc => some acc
 | x :: L, none => bestL better L (some x)
 | x :: L, some r => Option.bind (better x r) fun t => bestL better L (some (cond t x r))
def rezL : Option Gld → VV
 | none => .tup [.agg zlN, .lit (.bool false)]
 | some r => .tup [.agg (cGld r), .lit (.bool true)]
theorem GS {itv : VV} {bf : Nat} {mc : List VV} {L : List Gld} (hit : Iter prog G0 itv (L.map fun e => sL e)) (hmt : tl mc = true) {better : Gld → Gld → Option Bool}
  (hb : ∀ a b t, better a b = some t → ah prog G0 bf (sL a :: sL b :: mc) (.tree (.lit (.bool t)))) (R : Option Gld) (h : bestL better L none = some R) :
  ah prog G0 86 [itv, .fn (.func bf) [] mc] (.tree (rezL R)) := by
 refine ah.runR mixed call86 func86 rfl (by simp [ntmps86]; kernel_rfl) ?_
 simp only [vz, @iX, tyf, seval, ua, rg]
 refine Dy (fun tm => tm 9 = itv ∧ tm 3 = .ptr 0 0 ∧ tm 4 = .ptr 1 0 ∧ tm 6 = .ptr 3 0 ∧ tm 7 = .ptr 4 0) (by refine ⟨?_, ?_, ?_, ?_, ?_⟩ <;> simp only [ua, seval]) ?_
 rintro tm ⟨e9, e3, e4, e6, e7⟩
 refine GK hit (by first | (simp only [kV, kW, e9, kM, seval] <;> rfl) | rfl) ?_
 intro LO hLO
 obtain ⟨J, hJ⟩ : ∃ J : Option (List VV) → List (Nat × Vo) → Prop, J = (fun o hp => match o with
  | some l => ∃ (p : List Gld) (acc : Option Gld), l = (p.map fun e => sL e) ∧ hp = [(7, .deferred (some [])), (8, LO), (0, .cells (some 116) [.fn (.func bf) [] mc]), (1, .cells (some 93) zlC), (3, .cells (some 93) (accL acc)), (4, .cells (some 4) [.lit (.bool acc.isSome)])] ∧ bestL better p acc = some R
  | none => False) := ⟨_, rfl⟩
 refine ⟨ownI J, SS, ?_, ?_, ?_⟩
 ·rintro v rest Fr H nx hFr ⟨hp, hown, hj⟩
  rw [hJ] at hj
  obtain ⟨p, acc, hl, rfl, hR⟩ := hj
  cases p with
  | nil => cases hl
  | cons e p =>
  simp only [List.map_cons, List.cons.injEq] at hl
  obtain ⟨rfl, rfl⟩ := hl
  obtain ⟨l7, n7, H7⟩ := hown.head
  obtain ⟨l8, n8, H8⟩ := hown.tail.head
  obtain ⟨l0, n0, H0⟩ := hown.tail.tail.head
  obtain ⟨l1, n1, H1⟩ := hown.tail.tail.tail.head
  obtain ⟨l3, n3, H3⟩ := hown.tail.tail.tail.tail.head
  obtain ⟨l4, n4, H4⟩ := hown.tail.tail.tail.tail.tail.head
  have pg : (nx = 0) = False := by simp only [eq_iff_iff, iff_false]; omega
  have ry : (nx = 1) = False := by simp only [eq_iff_iff, iff_false]; omega
  have ur : (nx = 3) = False := by simp only [eq_iff_iff, iff_false]; omega
  have uu : (nx = 4) = False := by simp only [eq_iff_iff, iff_false]; omega
  have GU : (nx = 7) = False := by simp only [eq_iff_iff, iff_false]; omega
  have qJ : (nx = 8) = False := by simp only [eq_iff_iff, iff_false]; omega
  have uv : (0 = nx) = False := by simp only [eq_iff_iff, iff_false]; omega
  have ux : (1 = nx) = False := by simp only [eq_iff_iff, iff_false]; omega
  have uy : (3 = nx) = False := by simp only [eq_iff_iff, iff_false]; omega
  have u4 : (4 = nx) = False := by simp only [eq_iff_iff, iff_false]; omega
  have GV : (7 = nx) = False := by simp only [eq_iff_iff, iff_false]; omega
  have qK : (8 = nx) = False := by simp only [eq_iff_iff, iff_false]; omega
  refine GL mixed (psl := [10]) hLO H8 GM rfl (by kernel_rfl) (by kernel_rfl) ?_
  intro LB LD hLB hLD
  refine GN (fun tm => tm 10 = sL e ∧ tm 3 = .ptr 0 0 ∧ tm 6 = .ptr 3 0 ∧ tm 7 = .ptr 4 0) (by refine ⟨?_, ?_, ?_, ?_⟩ <;> simp only [GO, ntmps86, e3, e6, e7, seval]) ?_
  clear e9 e3 e4 e6 e7
  rintro tm ⟨bx, e3, e6, e7⟩
  cases acc with
  | none =>
   simp only [accL, Option.isSome_none, zlC] at H3 H4
   unfold bestL at hR
   simp only [vz, @iX, mq, mqm, mqt, tyf, seval, ua, nm, rg, RStart, vcells1 jv, jv, bx, e3, e6, e7, H8, H0, H3, H4, pg, ry, ur, uu, qJ, uv, ux, uy, u4, qK, Nat.add_zero, Bool.not_false]
   refine ⟨by simp only [bk, seval, nm, qJ, qK, Nat.add_zero, if_false], qZe _ _, fun γ hγ => ?_, ?_⟩
   ·have g8 : γ ≠ 8 := fun e => n8 (e ▸ hγ)
    have g3 : γ ≠ 3 := fun e => n3 (e ▸ hγ)
    have g4 : γ ≠ 4 := fun e => n4 (e ▸ hγ)
    have gx : γ ≠ nx := fun e => by have := hFr γ hγ; omega
    simp only [updH, Nat.add_zero, g8, g3, g4, gx, if_false]
   ·simp only [if_true]
    refine ⟨[(7, .deferred (some [])), (8, LO), (0, .cells (some 116) [.fn (.func bf) [] mc]), (1, .cells (some 93) zlC), (3, .cells (some 93) (cGld e)), (4, .cells (some 4) [.lit (.bool true)])], Own.cons (qZd l7 (qZe _ _)) n7 ?_ (Own.cons (qZd l8 (qZe _ _)) n8 ?_ (Own.cons (qZd l0 (qZe _ _)) n0 ?_ (Own.cons (qZd l1 (qZe _ _)) n1 ?_ (Own.cons (qZd l3 (qZe _ _)) n3 ?_ (Own.cons (qZd l4 (qZe _ _)) n4 ?_ (Own.nil)))))), ?_⟩
    rotate_left 6
    ·rw [hJ]
     exact ⟨p, some e, rfl, rfl, hR⟩
    all_goals simp only [bk, seval, nm, pg, ry, ur, uu, GU, qJ, uv, ux, uy, u4, GV, qK, Nat.add_zero, H7, H8, H0, H1, H3, H4, if_false]
    all_goals first | rfl | (simp only [tyf]; done) | skip
  | some r =>
   simp only [accL, Option.isSome_some] at H3 H4
   unfold bestL at hR
   rcases hbt : better e r with _ | t
   ·rw [hbt] at hR; cases hR
   rw [hbt, Option.bind_some] at hR
   simp only [vz, @iX, mq, mqm, mqt, tyf, seval, ua, nm, rg, RStart, vcells1 jv, jv, bx, e3, e6, e7, H8, H0, H3, H4, pg, ry, ur, uu, qJ, uv, ux, uy, u4, qK, Nat.add_zero, Bool.not_true]
   refine ktreeR ?_ (hb e r t hbt) ?_
   ·simp only [tre, au, mqr, qE, hmt, Bool.and_self]
   cases t with
   | true =>
    simp only [vz, @iX, mq, mqm, mqt, tyf, seval, ua, nm, rg, RStart, vcells1 jv, jv, bx, e3, e6, e7, H8, H0, H3, H4, pg, ry, ur, uu, qJ, uv, ux, uy, u4, qK, Nat.add_zero]
    refine ⟨by simp only [bk, seval, nm, qJ, qK, Nat.add_zero, if_false], qZe _ _, fun γ hγ => ?_, ?_⟩
    ·have g8 : γ ≠ 8 := fun e => n8 (e ▸ hγ)
     have g3 : γ ≠ 3 := fun e => n3 (e ▸ hγ)
     have g4 : γ ≠ 4 := fun e => n4 (e ▸ hγ)
     have gx : γ ≠ nx := fun e => by have := hFr γ hγ; omega
     simp only [updH, Nat.add_zero, g8, g3, g4, gx, if_false]
    ·simp only [if_true]
     refine ⟨[(7, .deferred (some [])), (8, LO), (0, .cells (some 116) [.fn (.func bf) [] mc]), (1, .cells (some 93) zlC), (3, .cells (some 93) (cGld e)), (4, .cells (some 4) [.lit (.bool true)])], Own.cons (qZd l7 (qZe _ _)) n7 ?_ (Own.cons (qZd l8 (qZe _ _)) n8 ?_ (Own.cons (qZd l0 (qZe _ _)) n0 ?_ (Own.cons (qZd l1 (qZe _ _)) n1 ?_ (Own.cons (qZd l3 (qZe _ _)) n3 ?_ (Own.cons (qZd l4 (qZe _ _)) n4 ?_ (Own.nil)))))), ?_⟩
     rotate_left 6
     ·rw [hJ]
      exact ⟨p, some e, rfl, rfl, hR⟩
     all_goals simp only [bk, seval, nm, pg, ry, ur, uu, GU, qJ, uv, ux, uy, u4, GV, qK, Nat.add_zero, H7, H8, H0, H1, H3, H4, if_false]
     all_goals first | rfl | (simp only [tyf]; done) | skip
   | false =>
    simp only [vz, @iX, mq, mqm, mqt, tyf, seval, ua, nm, rg, RStart, vcells1 jv, jv, bx, e3, e6, e7, H8, H0, H3, H4, pg, ry, ur, uu, qJ, uv, ux, uy, u4, qK, Nat.add_zero]
    refine ⟨by simp only [bk, seval, nm, qJ, qK, Nat.add_zero, if_false], qZe _ _, fun γ hγ => ?_, ?_⟩
    ·have g8 : γ ≠ 8 := fun e => n8 (e ▸ hγ)
     have g3 : γ ≠ 3 := fun e => n3 (e ▸ hγ)
     have g4 : γ ≠ 4 := fun e => n4 (e ▸ hγ)
     have gx : γ ≠ nx := fun e => by have := hFr γ hγ; omega
     simp only [updH, Nat.add_zero, g8, g3, g4, gx, if_false]
    ·simp only [if_true]
     refine ⟨[(7, .deferred (some [])), (8, LO), (0, .cells (some 116) [.fn (.func bf) [] mc]), (1, .cells (some 93) zlC), (3, .cells (some 93) (cGld r)), (4, .cells (some 4) [.lit (.bool true)])], Own.cons (qZd l7 (qZe _ _)) n7 ?_ (Own.cons (qZd l8 (qZe _ _)) n8 ?_ (Own.cons (qZd l0 (qZe _ _)) n0 ?_ (Own.cons (qZd l1 (qZe _ _)) n1 ?_ (Own.cons (qZd l3 (qZe _ _)) n3 ?_ (Own.cons (qZd l4 (qZe _ _)) n4 ?_ (Own.nil)))))), ?_⟩
     rotate_left 6
     ·rw [hJ]
      exact ⟨p, some r, rfl, rfl, hR⟩
     all_goals simp only [bk, seval, nm, pg, ry, ur, uu, GU, qJ, uv, ux, uy, u4, GV, qK, Nat.add_zero, H7, H8, H0, H1, H3, H4, if_false]
     all_goals first | rfl | (simp only [tyf]; done) | skip
 ·refine ⟨[(7, .deferred (some [])), (8, LO), (0, .cells (some 116) [.fn (.func bf) [] mc]), (1, .cells (some 93) zlC), (3, .cells (some 93) zlC), (4, .cells (some 4) [.lit (.bool false)])], Own.cons (show 7 < 9 by omega) (fun h => h) ?_ (Own.cons (show 8 < 9 by omega) (fun h => h) ?_ (Own.cons (show 0 < 9 by omega) (fun h => h) ?_ (Own.cons (show 1 < 9 by omega) (fun h => h) ?_ (Own.cons (show 3 < 9 by omega) (fun h => h) ?_ (Own.cons (show 4 < 9 by omega) (fun h => h) ?_ (Own.nil)))))), ?_⟩
  rotate_left 6
  ·rw [hJ]
   exact ⟨L, none, rfl, rfl, h⟩
  all_goals first | (simp only [bk, seval] <;> rfl) | rfl
 ·rintro H' nx' (⟨hp, hown, hj⟩ | ⟨hp, hown, hj⟩)
  ·rw [hJ] at hj
   obtain ⟨p, acc, hl, rfl, hR⟩ := hj
   cases p with
   | cons e p => cases hl
   | nil =>
   simp only [bestL, Option.some.injEq] at hR
   subst hR
   obtain ⟨l7, n7, H7⟩ := hown.head
   obtain ⟨l8, n8, H8⟩ := hown.tail.head
   obtain ⟨l0, n0, H0⟩ := hown.tail.tail.head
   obtain ⟨l1, n1, H1⟩ := hown.tail.tail.tail.head
   obtain ⟨l3, n3, H3⟩ := hown.tail.tail.tail.tail.head
   obtain ⟨l4, n4, H4⟩ := hown.tail.tail.tail.tail.tail.head
   refine GQ hLO H8 ?_
   intro LX
   cases acc with
   | none =>
    simp only [accL, Option.isSome_none, zlC] at H1 H3 H4
    refine nH (fun tm => tm 4 = .ptr 1 0 ∧ tm 6 = .ptr 3 0 ∧ tm 7 = .ptr 4 0) ⟨e4, e6, e7⟩ ?_
    clear e9 e3 e4 e6 e7
    rintro tm ⟨e4, e6, e7⟩
    simp only [vz, @iX, mq, mqm, mqt, tyf, seval, ua, nm, rg, vcells1 jv, jv, e4, e6, e7, H1, H3, H4]
    refine jJ ⟨?_, ?_⟩
    ·simp only [jN, jM, eM, jK, and_true, true_and]
     repeat' (first | exact trivial | refine qZk ?_ ?_ | rw [eM] | rw [jL] | exact Or.inl (by decide +kernel) | exact Or.inl (by dsimp only; decide +kernel) | (refine Or.inr ⟨?_, ?_⟩ <;> simp; done) | (refine Or.inr ⟨?_, ?_⟩ <;> simp <;> omega) | (refine Or.inr ⟨?_, ?_⟩ <;> simp [Ve.wr] <;> omega))
    simp only [vz, @iX, mq, mqm, mqt, tyf, seval, ua, nm, rg, vcells1 jv, jv, e4, e6, e7, H1, H3, H4]
    refine yZ (by simp only [bk, seval, nm, H7]) ?_
    refine cB (x := .tup [.agg (zlC), .lit (.bool false)]) (by simp only [results86, resV, resL, aE, cM, cN, uw, cr, tyf, mqt, e4, nm, seval] <;> rfl) ?_
    refine cO (by simp only [rezL, zlC, zlN, tre, au, mqr, qE, Bool.and_self]) ?_
    simp only [outV, rezL, zlC, zlN, nrm, ar, mqr, D3, SQ, Du, tyf, seval, List.map_cons, List.map_nil]
   | some r =>
    simp only [accL, Option.isSome_some, zlC] at H1 H3 H4
    refine nH (fun tm => tm 4 = .ptr 1 0 ∧ tm 6 = .ptr 3 0 ∧ tm 7 = .ptr 4 0) ⟨e4, e6, e7⟩ ?_
    clear e9 e3 e4 e6 e7
    rintro tm ⟨e4, e6, e7⟩
    simp only [vz, @iX, mq, mqm, mqt, tyf, seval, ua, nm, rg, vcells1 jv, jv, e4, e6, e7, H1, H3, H4]
    refine jJ ⟨?_, ?_⟩
    ·simp only [jN, jM, eM, jK, and_true, true_and]
     repeat' (first | exact trivial | refine qZk ?_ ?_ | rw [eM] | rw [jL] | exact Or.inl (by decide +kernel) | exact Or.inl (by dsimp only; decide +kernel) | (refine Or.inr ⟨?_, ?_⟩ <;> simp; done) | (refine Or.inr ⟨?_, ?_⟩ <;> simp <;> omega) | (refine Or.inr ⟨?_, ?_⟩ <;> simp [Ve.wr] <;> omega))
    simp only [vz, @iX, mq, mqm, mqt, tyf, seval, ua, nm, rg, vcells1 jv, jv, e4, e6, e7, H1, H3, H4]
    refine yZ (by simp only [bk, seval, nm, H7]) ?_
    refine cB (x := .tup [.agg ((cGld r)), .lit (.bool true)]) (by simp only [results86, resV, resL, aE, cM, cN, uw, cr, tyf, mqt, e4, nm, seval] <;> rfl) ?_
    refine cO (by simp only [rezL, tre, au, mqr, qE, Bool.and_self]) ?_
    simp only [outV, rezL, nrm, ar, mqr, D3, SQ, Du, tyf, seval, List.map_cons, List.map_nil]
  ·rw [hJ] at hj
   exact hj.elim
def sM (ib : Gld) (ic : Gld) : Option (Bool) := Option.bind (sN (List.length ib.lx.Ends : Int) (List.length ic.lx.Ends : Int)) (fun r1 => Option.bind (sN ic.stretch ib.stretch) (fun r2 => Option.bind (wP ([r1, r2])) (fun r3 => some (decide (r3 < 0)))))
theorem WQ (ib : Gld) (ic : Gld) (R : Bool) (h : sM ib ic = some R) : ah prog G0 88 [.agg (cGld ib), .agg (cGld ic)] (.tree (.lit (.bool R))) := by
 refine ah.runR mixed call88 func88 rfl (by simp [ntmps88]; kernel_rfl) ?_
 obtain ⟨KF, h, kF, kN⟩ := eN h
 simp only [sM] at h
 simp only [vz, mq, mqm, tyf, mqt, nm, seval]
 refine nH (fun tm => tm 2 = .ptr 0 0 ∧ tm 3 = .ptr 1 0 ∧ True) (by refine ⟨?_, ?_, trivial⟩ <;> first | (simp only [ua, dI, nm, seval] <;> rfl) | rfl) ?_
 rintro tm ⟨e4, e5, _⟩
 obtain ⟨r6, o7, h⟩ := optI h kN
 try simp only [hs] at h
 simp only [vz, mq, mqm, tyf, mqt, e4, e5, nm, seval]
 refine dktree (args0 := [.lit (.int .i64 (List.length ib.lx.Ends : Int)), .lit (.int .i64 (List.length ic.lx.Ends : Int))]) (by first | (simp only [nrm, ar, mqr] <;> rfl) | rfl) (by simp only [tre, au, mqr, Bool.and_self]) (D4 _ _ _ o7) ?_
 refine bQ (fun tm => tm 2 = .ptr 0 0 ∧ tm 3 = .ptr 1 0 ∧ tm 13 = .lit (.int .i64 r6) ∧ True) (by refine ⟨e4, e5, ?_, trivial⟩ <;> first | (simp only [ua, dI, e4, e5, nm, seval] <;> rfl) | rfl) ?_
 rintro tm ⟨e8, e9, bx, _⟩
 obtain ⟨u5, kn, h⟩ := optI h kN
 try simp only [hs] at h
 simp only [vz, mq, mqm, tyf, mqt, e8, e9, bx, nm, seval]
 refine dktree (args0 := [.lit (.int .i64 ic.stretch), .lit (.int .i64 ib.stretch)]) (by first | (simp only [nrm, ar, mqr] <;> rfl) | rfl) (by simp only [tre, au, mqr, Bool.and_self]) (D4 _ _ _ kn) ?_
 refine bQ (fun tm => tm 13 = .lit (.int .i64 r6) ∧ tm 18 = .lit (.int .i64 u5) ∧ True) (by refine ⟨bx, ?_, trivial⟩ <;> first | (simp only [ua, dI, e8, e9, bx, nm, seval] <;> rfl) | rfl) ?_
 rintro tm ⟨bA, bK, _⟩
 obtain ⟨D5, lS, h⟩ := optI h kN
 try simp only [hs] at h
 simp only [vz, mq, mqm, tyf, mqt, bA, bK, nm, seval]
 refine dkseen1 (w := 1) (enc := eI) (xs := ([r6, u5])) (el := (some 3)) ⟨eI_ok.tree, eI_ok.norm⟩ (fun _ => rfl) (by simp only [List.length_cons, List.length_nil]; decide) (by simp only [bk, bF, eT, nm, seval] <;> rfl) (SU _ _ lS) (by first | rfl | simp only [VV.flat, flatL, Bool.and_self]) ?_
 refine bQ (fun tm => tm 20 = .lit (.int .i64 D5) ∧ True) (by refine ⟨?_, trivial⟩ <;> first | (simp only [ua, dI, bA, bK, nm, seval] <;> rfl) | rfl) ?_
 rintro tm ⟨bm, _⟩
 simp only [vz, mq, mqm, tyf, mqt, bm, nm, seval]
 refine jJ ⟨?_, ?_⟩
 ·simp only [jN, jM, eM, jK, and_true, true_and]
  repeat' (first | exact trivial | refine qZk ?_ ?_ | rw [eM] | rw [jL] | exact Or.inl (by decide +kernel) | exact Or.inl (by dsimp only; decide +kernel) | (refine Or.inr ⟨?_, ?_⟩ <;> simp; done) | (refine Or.inr ⟨?_, ?_⟩ <;> simp <;> omega) | (refine Or.inr ⟨?_, ?_⟩ <;> simp [Ve.wr] <;> omega))
 try simp only [vz, mq, mqm, tyf, mqt, bm, nm, seval]
 obtain rfl := kF _ h
 exact bR results88 rfl
def stgR : Option Gld → GLx × Int × Int
 | none => (GLx.mk [] [], 0, 5)
 | some l => (l.lx, l.stretch, 0)
def u6 (s : GLs) : Option (GLx × Int × Int) := Option.bind (u7 s) fun b => cond b (Option.bind (qH s []) fun L => Option.bind (bestL sM L none) fun r => some (stgR r)) (some (GLx.mk [] [], 0, 2))
theorem WR (s : GLs) (R : GLx × Int × Int) (h : u6 s = some R) : ah prog G0 38 [.agg (cGLs s)] (.tree (.tup [.agg (cGLx R.1), .lit (.int .i64 R.2.1), .lit (.int .i64 R.2.2)])) := by
 refine ah.runR mixed call38 func38 rfl (by simp [ntmps38]; kernel_rfl) ?_
 unfold u6 at h
 rcases o0 : u7 s with _ | b
 ·rw [o0] at h; cases h
 rw [o0, Option.bind_some] at h
 simp only [vz, tyf, seval, ua, rg]
 refine ktA (SV _ _ o0) ?_
 cases b with
 | false =>
  simp only [cond_false, Option.some.injEq] at h
  subst h
  simp only [vz, tyf, seval, ua, rg, Bool.not_false]
  refine cB (x := .tup [.agg [.lit (.slice none 0 0), .lit (.slice none 0 0)], .lit (.int .i64 0), .lit (.int .i64 2)]) (by simp only [results38, resV, resL, aE, cM, cN, uw, cr, tyf, nm, seval] <;> rfl) ?_
  refine cO (by simp only [tre, au, Bool.and_self]) ?_
  simp only [outV, nrm, ar, tyf, seval, List.map_cons, List.map_nil, eU, List.length_nil]
 | true =>
 rw [cond_true] at h
 rcases o1 : qH s [] with _ | L
 ·rw [o1] at h; cases h
 rw [o1, Option.bind_some] at h
 rcases o2 : bestL sM L none with _ | r
 ·rw [o2] at h; cases h
 rw [o2, Option.bind_some, Option.some.injEq] at h
 have hit := SN s [] L o1
 have hbest := GS (bf := 88) (mc := []) hit rfl (fun a b t hab => WQ a b t hab) r o2
 simp only [vz, tyf, seval, ua, rg, Bool.not_true]
 refine ktreeR ?_ (SM s []) ?_
 ·simp only [tre, au, Bool.and_self]
 simp only [vz, tyf, seval, ua, rg]
 refine ktreeR ?_ hbest ?_
 ·have := GJ (s := s) (out := [])
  simp [tl, VV.tree, this]
 cases r with
 | none =>
  simp only [stgR] at h
  subst h
  simp only [vz, @iX, mq, mqm, mqt, tyf, seval, ua, nm, rg, rezL, zlN]
  refine cB (x := .tup [.agg [.lit (.slice none 0 0), .lit (.slice none 0 0)], .lit (.int .i64 0), .lit (.int .i64 5)]) (by simp only [results38, resV, resL, aE, cM, cN, uw, cr, tyf, nm, seval] <;> rfl) ?_
  refine cO (by simp only [tre, au, Bool.and_self]) ?_
  simp only [outV, nrm, ar, tyf, seval, List.map_cons, List.map_nil, eU, List.length_nil]
 | some l =>
  simp only [stgR] at h
  subst h
  simp only [vz, @iX, mq, mqm, mqt, tyf, seval, ua, nm, rg, rezL, zlN]
  refine nH (fun tm => tm 2 = .ptr 1 0 ∧ tm 5 = .ptr 13 0) (by refine ⟨?_, ?_⟩ <;> simp only [ua, seval]) ?_
  rintro tm ⟨e2, e5⟩
  simp only [vz, @iX, mq, mqm, mqt, tyf, seval, ua, nm, rg, e2, e5]
  refine jJ ⟨?_, ?_⟩
  ·simp only [jN, jM, eM, jK, and_true, true_and]
   repeat' (first | exact trivial | refine qZk ?_ ?_ | rw [eM] | rw [jL] | exact Or.inl (by decide +kernel) | exact Or.inl (by dsimp only; decide +kernel) | (refine Or.inr ⟨?_, ?_⟩ <;> simp; done) | (refine Or.inr ⟨?_, ?_⟩ <;> simp <;> omega) | (refine Or.inr ⟨?_, ?_⟩ <;> simp [Ve.wr] <;> omega))
  simp only [vz, @iX, mq, mqm, mqt, tyf, seval, ua, nm, rg, e2, e5]
  refine cB (x := .tup [.agg (cGLx l.lx), .lit (.int .i64 l.stretch), .lit (.int .i64 0)]) (by simp only [results38, resV, resL, aE, cM, cN, uw, cr, tyf, e2, nm, seval] <;> rfl) ?_
  refine cO (by simp only [tre, au, Bool.and_self]) ?_
  simp only [outV, nrm, ar, tyf, seval, List.map_cons, List.map_nil]
structure LaidOk (s : GLs) (out : List Int) (l : Gld) : Prop where
 sh : l.ls = s
 ou : l.lx.Out = out
 st : ∃ K : Nat, l.stretch = (K : Int) ∧ MostS s l.lx (some K)
theorem SW {s : GLs} (h : Sh s) {out : List Int} (hl : lenOk out = true) : ∀ (L : List (List GLe)), (∀ y ∈ L, IsS (possL out s.Words 0) y) → ∃ FL, fitO s out L = some FL ∧ (FL.map fun l => l.lx.Ends).Sublist L ∧ (∀ l ∈ FL, LaidOk s out l) ∧ ∀ y ∈ L, fitS s (GLx.mk out y) 0 = true → ∃ l ∈ FL, l.lx.Ends = y
 | [], _ => ⟨[], rfl, List.Sublist.slnil, (fun l hl => by cases hl), fun y hy => by cases hy⟩
 | y :: L, hy => by
  obtain ⟨FL, f1, f2, f3, f4⟩ := SW h hl L fun y hy' => hy y (qZa _ hy')
  obtain ⟨l, w, o, e1, e2, e3, e4, e5, e6, e7⟩ := SJ h (x := GLx.mk out y) hl (hy y (qZb ..))
  subst e4
  cases o with
  | none =>
   refine ⟨FL, by simp only [fitO, e1, e2, f1, Option.bind_some]; rfl, List.Sublist.cons _ f2, f3, fun y' hy' hf => ?_⟩
   rcases List.mem_cons.1 hy' with rfl | hy'
   ·have e3' : fitS s (GLx.mk out y') 0 = false := e3
    rw [hf] at e3'; cases e3'
   ·exact f4 y' hy' hf
  | some K =>
   refine ⟨setS l (K : Int) :: FL, by simp only [fitO, e1, e2, f1, Option.bind_some]; rfl, ?_, fun m hm => ?_, fun y' hy' hf => ?_⟩
   ·have : (setS l (K : Int)).lx.Ends = y := by show l.lx.Ends = y; rw [e6]
    rw [List.map_cons, this]
    exact List.Sublist.cons_cons _ f2
   ·rcases List.mem_cons.1 hm with rfl | hm
    ·exact ⟨e5, by show l.lx.Out = out; rw [e6], K, rfl, by show MostS s l.lx (some K); rw [e6]; exact e3⟩
    ·exact f3 m hm
   ·rcases List.mem_cons.1 hy' with rfl | hy'
    ·exact ⟨_, qZb .., by show l.lx.Ends = y'; rw [e6]⟩
    ·obtain ⟨m, h1, h2⟩ := f4 y' hy' hf
     exact ⟨m, qZa _ h1, h2⟩
theorem za {K : Nat} (k : MostS s x (some K)) : fitS s x 0 = true := by
 have := k.2 0 (Nat.zero_le _)
 simpa using this
def fw (a b : Gld) : Prop := a.lx.Ends.length < b.lx.Ends.length ∨ a.lx.Ends.length = b.lx.Ends.length ∧ b.stretch < a.stretch
instance (a b : Gld) : Decidable (fw a b) := inferInstanceAs (Decidable (_ ∨ _))
theorem fw_eq (a b : Gld) : sM a b = some (decide (fw a b)) := by
 simp only [sM, SX, or_eq, Option.bind_some]
 congr 1
 rw [Bool.eq_iff_iff, decide_eq_true_eq, decide_eq_true_eq]
 unfold sgn fw
 generalize hm : a.lx.Ends.length = m
 generalize hn : b.lx.Ends.length = n
 by_cases h1 : (m : Int) < (n : Int)
 ·rw [if_pos h1]; simp; omega
 ·rw [if_neg h1]
  by_cases h2 : (m : Int) > (n : Int)
  ·rw [if_pos h2]; simp; omega
  ·rw [if_neg h2]
   by_cases h3 : b.stretch < a.stretch
   ·rw [if_pos h3]; simp; omega
   ·rw [if_neg h3]
    by_cases h4 : b.stretch > a.stretch
    ·rw [if_pos h4]; simp; omega
    ·rw [if_neg h4]; simp; omega
theorem GW : ∀ (L : List Gld) (r : Gld), ∃ m A B, bestL sM L (some r) = some (some m) ∧ r :: L = A ++ m :: B ∧ (∀ y ∈ A, fw m y) ∧ ∀ y ∈ B, ¬ fw y m
 | [], r => ⟨r, [], [], rfl, rfl, (fun y h => by cases h), fun y h => by cases h⟩
 | x :: L, r => by
  by_cases hx : fw x r
  ·obtain ⟨m, A, B, h1, h2, h3, h4⟩ := GW L x
   refine ⟨m, r :: A, B, by rw [bestL, fw_eq, Option.bind_some, decide_eq_true hx, cond_true, h1], by rw [h2]; rfl, fun y hy => ?_, h4⟩
   rcases List.mem_cons.1 hy with rfl | hy
   ·cases A with
    | nil =>
     simp only [List.nil_append, List.cons.injEq] at h2
     rw [← h2.1]; exact hx
    | cons a A =>
     simp only [List.cons_append, List.cons.injEq] at h2
     have := h3 a (qZb ..)
     rw [← h2.1] at this
     unfold fw at *
     omega
   ·exact h3 y hy
  ·obtain ⟨m, A, B, h1, h2, h3, h4⟩ := GW L r
   have e : bestL sM (x :: L) (some r) = some (some m) := by rw [bestL, fw_eq, Option.bind_some, decide_eq_false hx, cond_false, h1]
   cases A with
   | nil =>
    simp only [List.nil_append, List.cons.injEq] at h2
    obtain ⟨rfl, rfl⟩ := h2
    refine ⟨r, [], x :: L, e, rfl, (fun y h => by cases h), fun y hy => ?_⟩
    rcases List.mem_cons.1 hy with rfl | hy
    ·exact hx
    ·exact h4 y hy
   | cons a A =>
    simp only [List.cons_append, List.cons.injEq] at h2
    obtain ⟨rfl, rfl⟩ := h2
    refine ⟨m, r :: x :: A, B, e, rfl, fun y hy => ?_, h4⟩
    have hr := h3 r (qZb ..)
    rcases List.mem_cons.1 hy with rfl | hy
    ·exact hr
    ·rcases List.mem_cons.1 hy with rfl | hy
     ·unfold fw at *; omega
     ·exact h3 y (qZa _ hy)
theorem GX (hf : FineS s) (hs : sheetB s = true) (ho : outB s [] = true) : ∃ L FL, ud s [] = some L ∧ qH s [] = some FL ∧ (∀ y, y ∈ L ↔ IsS (possL [] s.Words 0) y ∧ (y.length : Int) ≤ s.Rows) ∧ L.Pairwise ordE ∧ FL.length ≤ 277 ∧ (FL.map fun l => l.lx.Ends).Sublist L ∧ (∀ l ∈ FL, LaidOk s [] l) ∧ (∀ y ∈ L, fitS s (GLx.mk [] y) 0 = true → ∃ l ∈ FL, l.lx.Ends = y) ∧
  ((FL = [] ∧ u6 s = some (GLx.mk [] [], 0, 5)) ∨ ∃ m A B, FL = A ++ m :: B ∧ u6 s = some (m.lx, m.stretch, 0) ∧ (∀ y ∈ A, fw m y) ∧ ∀ y ∈ B, ¬ fw y m) := by
 have h := sh_of hs
 obtain ⟨L, l1, l2, l3, l4⟩ := SL h ho rfl (by simp)
 obtain ⟨FL, f1, f2, f3, f4⟩ := SW h (out := []) rfl L fun y hy => ((l2 y).1 hy).1
 have hfit : qH s [] = some FL := by rw [qH, l1, Option.bind_some, f1]
 have ba : FL.length ≤ 277 := by
  have := f2.length_le
  rw [List.length_map] at this
  omega
 refine ⟨L, FL, l1, hfit, l2, l3, ba, f2, f3, f4, ?_⟩
 cases FL with
 | nil =>
  left
  refine ⟨rfl, ?_⟩
  simp only [u6, GY s hf, hs, Option.bind_some, cond_true, hfit]
  rfl
 | cons r FL =>
  right
  obtain ⟨m, A, B, h1, h2, h3, h4⟩ := GW FL r
  refine ⟨m, A, B, h2, ?_, h3, h4⟩
  simp only [u6, GY s hf, hs, Option.bind_some, cond_true, hfit]
  rw [bestL, h1]
  rfl





def mx : List Int → Int → Int
 | [], c => c
 | e :: p, c => mx p (if c < e then e else c)
end Go.V
end
section
namespace Go.V
open Go Go.Proofs IntKind Tryz
end Go.V
namespace Go.V
theorem yo {α : Type} : ((([] : List α).length : Nat) : Int) = 0 := rfl
end Go.V
namespace Go.V
open Go Go.Proofs IntKind Tryz
end Go.V
end
section
namespace Go.V
open Go Go.Proofs IntKind Tryz
theorem But.self (W : World) (b : Nat) : But W W b := ⟨fun _ _ _ => rfl, qZh _, rfl, rfl, rfl⟩
end Go.V
end
section
namespace Go.V
open Go Go.Proofs IntKind Tryz
def Ghost (st st' : St) : Prop := (∀ β o', st'.H β = some o' → ∃ o, st.H β = some o ∧ FrozenO st.H st'.H o o') ∧ (∀ β, isDef st.H β → isDef st'.H β) ∧
 (∀ t, Frozen st.H st'.H (st.tm t) (st'.tm t)) ∧ st'.nx = st.nx ∧ st'.df = st.df
theorem Ghost.rep {G : Gb} {c : Ctx} {W : World} {st st' : St} {a : Act} (g : Ghost st st') (s : Sim c W) (hr : Sr G c W st a) :
  Ext c W (c.frz st'.H) W ∧ Sim (c.frz st'.H) W ∧ Sr G (c.frz st'.H) W st' a := by
 obtain ⟨ho, hdd, htm, hnx, hdf⟩ := g
 have ho' : ∀ β o', st'.H β = some o' → ∃ o, c.H β = some o ∧ FrozenO c.H st'.H o o' := by rw [hr.H]; exact ho
 have hl : ∀ β, (st'.H β).isSome = true → c.live β := by
  intro β h
  obtain ⟨o', h'⟩ := Option.isSome_iff_exists.1 h
  obtain ⟨o, h1, _⟩ := ho' β o' h'
  simp [Ctx.live, h1]
 have he : Ext c W (c.frz st'.H) W := u9 hl
 have ab : Abides c W (c.frz st'.H) W := zb hl
 have hloop : ∀ x s pe tm ps asg bo df, st'.H x = some (.loop s pe tm ps asg bo df) → isDef st'.H df := by
  intro x s1 pe tm ps asg bo df hx
  obtain ⟨o, h1, hf⟩ := ho x _ hx
  rcases hf with rfl | ⟨el, cs, cs', rfl, e, _⟩
  ·obtain ⟨l, fn, _, _, _, hd⟩ := s.obj x _ (show c.H x = _ by rw [hr.H]; exact h1)
   exact hdd df (by rw [← hr.H]; exact hd)
  ·cases e
 refine ⟨he, s.frz ho' hloop, rfl, fun t => GZ s hl (by rw [hr.H]; exact htm t) (hr.tm t), ?_, ?_, hr.G.abides ab⟩
 ·rw [hnx]; exact hr.nx
 ·rw [hdf]; exact hr.df.abides ab
section
variable {P : Program} {H : Nat → Option Vo} {γ : Nat} {k : VV → Ve → Prop} {t t2 e e2 β δ cx : Nat} {b : Nat} {el ff : Option TypeId} {cs : List VV} {y : VV}
end
section
variable {P : Program} {H : Nat → Option Vo} {γ : Nat} {k : VV → Ve → Prop} {t t2 e e2 β δ cx : Nat} {b : Nat} {el ff : Option TypeId} {y : VV} {α : Type} {enc : α → List VV} {xs : List α} {a : α}
end
end Go.V
end
section
namespace Go.V
open Go Go.Proofs IntKind Tryz
def Look (st st' : St) : Prop := st'.nx = st.nx ∧ ∀ (G : Gb) (c : Ctx) (W : World) (a : Act), Sim c W → Sr G c W st a → ∃ c', Ext c W c' W ∧ Sim c' W ∧ Sr G c' W st' a ∧ ∀ β, c'.used β → c.used β
theorem Look.trans {a b c : St} (h1 : Look a b) (h2 : Look b c) : Look a c := by
  refine ⟨h2.1.trans h1.1, fun G x W y s hr => ?_⟩
  obtain ⟨c1, e1, s1, r1, u1⟩ := h1.2 G x W y s hr
  obtain ⟨c2, e2, s2, r2, u2⟩ := h2.2 G c1 W y s1 r1
  exact ⟨c2, e1.trans e2, s2, r2, fun β hb => u1 β (u2 β hb)⟩
theorem Look.ghost {st st' : St} (g : Ghost st st') : Look st st' := by
  refine ⟨g.2.2.2.1, fun G c W a s hr => ?_⟩
  obtain ⟨e2, h2, r2⟩ := g.rep s hr
  exact ⟨c.frz st'.H, e2, h2, r2, fun β hb => hb⟩
theorem zc {c : Ctx} {W : World} {x y : VV} {Z : List VV} (h : ∀ v, Rep c W x v → Rep c W y v) : ∀ (A : List VV) (l : List Value), Rl c W (A ++ x :: Z) l → Rl c W (A ++ y :: Z) l
  | [], _, ⟨u, us, e, h1, h2⟩ => ⟨u, us, e, h _ h1, h2⟩
  | _ :: A, _, ⟨u, us, e, h1, h2⟩ => ⟨u, us, e, h1, zc h A us h2⟩
variable {tm : Nat → VV} {H : Nat → Option Vo} {df : List VDef} {Z : List VV}
theorem Look.nil {nx : Nat} {β : Nat} {el : Option TypeId} {A : List VV} (hβ : H β = some (.cells el (A ++ .lit (.slice none 0 0) :: Z))) :
    Look ⟨tm, H, nx, df⟩ ⟨tm, updH H β (.cells el (A ++ .sl [] 0 false :: Z)), nx, df⟩ := by
  refine ⟨rfl, fun G c W a s hr => ?_⟩
  have hc : c.H β = some (.cells el (A ++ .lit (.slice none 0 0) :: Z)) := by rw [hr.H]; exact hβ
  have hl : c.live β := by simp [Ctx.live, hc]
  have he : Ext c W (c.upd β (.cells el (A ++ .sl [] 0 false :: Z))) W := Ext.upd hl (But.self W _)
  have ab := he.abides s
  have hs : Sim (c.upd β (.cells el (A ++ .sl [] 0 false :: Z))) W := by
    refine Sim.upd s hl (But.self W _) (fun ⟨ds, hd⟩ => by rw [hc] at hd; cases hd) ?_
    obtain ⟨arr, e, a1, a2, a3, a4, a5⟩ := s.obj β _ hc
    refine ⟨arr, e, a1, a2, by simpa using a3, ?_, a5⟩
    have ba : (A ++ VV.lit (.slice none 0 0) :: Z).length = (A ++ VV.sl [] 0 false :: Z).length := by simp
    rw [ba] at a4
    refine zc (x := .lit (.slice none 0 0)) (fun v hv => ?_) A _ (Rl.abides ab _ a4)
    have e : v = .slice none 0 0 := hv
    subst e
    exact ⟨none, 0, rfl, qZh _, fun h => (by cases h), .inl rfl⟩
  refine ⟨_, he, hs, ⟨?_, fun t => Rep.abides ab _ (hr.tm t), hr.nx, hr.df.abides ab, hr.G.abides ab⟩, fun β hb => hb⟩
  show updH c.H β _ = _
  rw [hr.H]
theorem aP.mid {H H' : Nat → Option Vo} {x y : VV} (h : Frozen H H' x y) (Z : List VV) : ∀ (cs : List VV), aP H H' (cs ++ x :: Z) (cs ++ y :: Z)
  | [] => ⟨h, aP.refl Z⟩
  | c :: cs => ⟨.inl rfl, aP.mid h Z cs⟩
where
  aP.refl : ∀ Z : List VV, aP H H' Z Z
    | [] => trivial
    | _ :: Z => ⟨.inl rfl, aP.refl Z⟩
variable {n : Nat} {e1 e2 : Option TypeId} {cs : List VV}
theorem Ghost.mid {nx : Nat} {γ ε w cp : Nat} {ys : List VV} (hγ : H γ = some (.cells e1 ys)) (hε : H ε = some (.cells e2 (cs ++ .ref γ 0 n w cp :: Z))) (hne : ε ≠ γ) (ht : tl ys = true) (hl : ys.length = n * w) :
    Ghost ⟨tm, H, nx, df⟩ ⟨tm, updH (without H γ) ε (.cells e2 (cs ++ .sl ys n false :: Z)), nx, df⟩ := by
  have hg : gone H (updH (without H γ) ε (.cells e2 (cs ++ .sl ys n false :: Z))) γ = some (.cells e1 ys) := by
    unfold gone
    rw [bk, if_neg (Ne.symm hne)]
    simp [without, hγ]
  have hfz : Frozen H (updH (without H γ) ε (.cells e2 (cs ++ .sl ys n false :: Z))) (.ref γ 0 n w cp) (.sl ys n false) := by
    refine .inr (.inr ⟨ys.length + 2, ?_⟩)
    unfold sealV
    have : (VV.ref γ 0 n w cp).tree = false := rfl
    rw [this]
    simp only [Bool.false_eq_true, if_false, hg, Nat.zero_le, if_true, List.drop_zero]
    rw [List.take_of_length_le (by omega), qF ys _ ht (by omega)]
    rfl
  refine ⟨?_, ?_, fun _ => .inl rfl, rfl, rfl⟩
  · intro β o' h
    simp only [bk] at h
    by_cases hb : β = ε
    · subst hb
      rw [if_pos rfl] at h
      cases h
      exact ⟨_, hε, .inr ⟨e2, _, _, rfl, rfl, aP.mid hfz Z cs⟩⟩
    · rw [if_neg hb] at h
      simp only [bF] at h
      split at h
      · cases h
      · exact ⟨o', h, .inl rfl⟩
  · rintro β ⟨ds, h⟩
    refine ⟨ds, ?_⟩
    have h : H β = some (.deferred ds) := h
    show updH (without H γ) ε _ β = _
    have b1 : β ≠ ε := by rintro rfl; rw [hε] at h; cases h
    have b2 : β ≠ γ := by rintro rfl; rw [hγ] at h; cases h
    rw [bk, if_neg b1, bF, if_neg b2]
    exact h
variable {P : Program} {Q : Vx → St → Prop}
theorem VWp.lookQ {G : Gb} {code : Code} {st : St} (h : VWp P G n code (fun e s => ∃ s', Look s s' ∧ Q e s') st) : VWp P G n code Q st := by
 intro ro c W a hro s hr hsz
 refine wpIn_mono (h ro c W a hro s hr hsz) ?_
 rintro e a' W' ⟨ve, c', st', he, aD, hs', hr', hsz', hu, hle, s2, g, hq⟩
 obtain ⟨c2, e2, h2, r2, u2⟩ := g.2 G c' W' a' hs' hr'
 refine ⟨ve, c2, s2, ?_, aD.trans e2, h2, r2, hsz', fun β hb => hu β (u2 β hb), by rw [g.1]; exact hle, hq⟩
 cases ve with
 | panic x =>
  obtain ⟨v, e1, hv⟩ := he
  exact ⟨v, e1, Rep.abides (e2.abides hs') _ hv⟩
 | normal => exact he
 | exit id => exact he
 | goto l => exact he
 | ret => exact he
theorem SY {G : Gb} {x : Code} {st : St} (h : CWp P G n (.loop x) (fun e s => ∃ s', Look s s' ∧ Q e s') st) : CWp P G n (.loop x) Q st := VWp.lookQ h
theorem Look.midI {nx : Nat} {γ ε cp : Nat} {xs : List Int} (hγ : H γ = some (.cells e1 (ad eI xs))) (hε : H ε = some (.cells e2 (cs ++ .ref γ 0 xs.length 1 cp :: Z))) (hne : ε ≠ γ) :
  Look ⟨tm, H, nx, df⟩ ⟨tm, updH (without H γ) ε (.cells e2 (cs ++ .sl (ad eI xs) xs.length false :: Z)), nx, df⟩ :=
 Look.ghost (Ghost.mid hγ hε hne (eI_ok.treeL _) (hU (w := 1) (enc := eI) (fun _ => rfl) _))









def chG (f : List GLe → List (List GLe)) : List GLe → List (List GLe)
 | [] => []
 | e :: q => (f q).map (e :: ·) ++ chG f q
def ch : Nat → List GLe → List (List GLe)
 | 0, q => if q = [] then [[]] else []
 | d + 1, q => if q = [] then [[]] else chG (ch d) q

def zd (ae : GLs) : Option (Int × Int) := Option.bind (u6 ae) (fun r1 => some ((List.length r1.1.Ends : Int), r1.2.2))
theorem WS (ae : GLs) (R : Int × Int) (h : zd ae = some R) : ah prog G0 37 [.agg (cGLs ae)] (.tree (.tup [.lit (.int .i64 R.1), .lit (.int .i64 R.2)])) := by
 refine ah.runR mixed call37 func37 rfl (by simp [ntmps37]; kernel_rfl) ?_
 obtain ⟨KF, h, kF, kN⟩ := eN h
 simp only [zd] at h
 obtain ⟨r2, o3, h⟩ := optI h kN
 try simp only [hs] at h
 simp only [vz, tyf, nm, seval]
 refine ktA (WR _ _ o3) ?_
 refine bQ (fun tm => tm 9 = .tup [.agg (cGLx r2.1), .lit (.int .i64 r2.2.1), .lit (.int .i64 r2.2.2)] ∧ True) (by refine ⟨?_, trivial⟩ <;> first | (simp only [ua, nm, seval] <;> rfl) | rfl) ?_
 rintro tm ⟨e4, _⟩
 try simp only [vz, tyf, e4, nm, seval]
 refine cB (x := (.tup [.lit (.int .i64 (List.length r2.1.Ends : Int)), .lit (.int .i64 r2.2.2)])) (by first | (simp only [results37, resV, resL, aE, cM, cN, uw, cr, tyf, nm, seval] <;> rfl) | rfl) ?_
 obtain rfl := kF _ h
 refine cO ?_ ?_
 ·simp only [tre, au, Bool.and_self]
 ·first | (simp only [outV, uw, dx, cr, tyf, nrm, ar, e4, nm, seval] <;> rfl) | rfl
def wQ (ae : GLs) : Option (Bool × Bool) := Option.bind (zd ae) (fun r1 => cond (r1.2 == 0) (some (true, true)) (some (false, r1.2 == 5)))
theorem WT (ae : GLs) (R : Bool × Bool) (h : wQ ae = some R) : ah prog G0 47 [.agg (cGLs ae)] (.tree (.tup [.lit (.bool R.1), .lit (.bool R.2)])) := by
 refine ah.runR mixed call47 func47 rfl (by simp [ntmps47]; kernel_rfl) ?_
 obtain ⟨KF, h, kF, kN⟩ := eN h
 simp only [wQ] at h
 obtain ⟨r2, o3, h⟩ := optI h kN
 try simp only [hs] at h
 simp only [vz, tyf, nm, seval]
 refine ktA (WS _ _ o3) ?_
 refine bQ (fun tm => tm 8 = .tup [.lit (.int .i64 r2.1), .lit (.int .i64 r2.2)] ∧ True) (by refine ⟨?_, trivial⟩ <;> first | (simp only [ua, nm, seval] <;> rfl) | rfl) ?_
 rintro tm ⟨e4, _⟩
 cases d5 : (r2.2 == 0)
 ·simp only [d5, hs] at h
  try simp only [vz, tyf, e4, d5, nm, seval]
  refine cB (x := (.tup [.lit (.bool false), .lit (.bool (r2.2 == 5))])) (by first | (simp only [results47, resV, resL, aE, cM, cN, uw, cr, tyf, d5, nm, seval] <;> rfl) | rfl) ?_
  obtain rfl := kF _ h
  refine cO ?_ ?_
  ·simp only [tre, au, Bool.and_self]
  ·first | (simp only [outV, uw, dx, cr, tyf, nrm, ar, e4, d5, nm, seval] <;> rfl) | rfl
 simp only [d5, hs] at h
 try simp only [vz, tyf, e4, d5, nm, seval]
 refine cB (x := (.tup [.lit (.bool true), .lit (.bool true)])) (by first | (simp only [results47, resV, resL, aE, cM, cN, uw, cr, tyf, d5, nm, seval] <;> rfl) | rfl) ?_
 obtain rfl := kF _ h
 refine cO ?_ ?_
 ·simp only [tre, au, Bool.and_self]
 ·first | (simp only [outV, uw, dx, cr, tyf, nrm, ar, e4, d5, nm, seval] <;> rfl) | rfl

theorem Hd {s : GLs} (hf : FineS s) (hs : sheetB s = true) (ho : outB s [] = true) : ∃ b, wQ s = some (b, true) ∧ (b = true ↔ ∃ y, IsS (possL [] s.Words 0) y ∧ (y.length : Int) ≤ s.Rows ∧ fitS s (GLx.mk [] y) 0 = true) := by
 obtain ⟨L, FL, l1, l2, l3, l4, l5, l6, l7, l8, l9⟩ := GX hf hs ho
 rcases l9 with ⟨hFL, hS⟩ | ⟨m, A, B, hFL, hS, hA, hB⟩
 ·refine ⟨false, by simp only [wQ, zd, hS, Option.bind_some]; rfl, ?_⟩
  constructor
  ·intro h; cases h
  ·rintro ⟨y, h1, h2, h3⟩
   obtain ⟨l, hl, _⟩ := l8 y ((l3 y).2 ⟨h1, h2⟩) h3
   rw [hFL] at hl; cases hl
 ·refine ⟨true, by simp only [wQ, zd, hS, Option.bind_some]; rfl, ?_⟩
  have hm : m ∈ FL := by rw [hFL]; simp
  obtain ⟨a1, a2, K, _, a4⟩ := l7 m hm
  have hmL : m.lx.Ends ∈ L := l6.subset (List.mem_map_of_mem hm)
  have he : m.lx = GLx.mk [] m.lx.Ends := by
   rw [show m.lx = GLx.mk m.lx.Out m.lx.Ends from rfl, a2]
  have hfit := za a4
  rw [he] at hfit
  exact ⟨fun _ => ⟨_, ((l3 _).1 hmL).1, ((l3 _).1 hmL).2, hfit⟩, fun _ => rfl⟩
theorem ze {s : GLs} (h : Sh s) {out : List Int} (hl : lenOk out = true) : ∀ (L : List (List GLe)), (∀ y ∈ L, IsS (possL out s.Words 0) y) → ∃ FL, fitO s out L = some FL ∧ FL.map (fun l => l.lx.Ends) = L.filter fun y => fitS s (GLx.mk out y) 0
 | [], _ => ⟨[], rfl, rfl⟩
 | y :: L, hy => by
  obtain ⟨FL, f1, f2⟩ := ze h hl L fun y hy' => hy y (qZa _ hy')
  obtain ⟨l, w, o, e1, e2, e3, e4, e5, e6, e7⟩ := SJ h (x := GLx.mk out y) hl (hy y (qZb ..))
  subst e4
  cases o with
  | none =>
   have e3' : fitS s (GLx.mk out y) 0 = false := e3
   refine ⟨FL, by simp only [fitO, e1, e2, f1, Option.bind_some]; rfl, ?_⟩
   rw [List.filter_cons_of_neg (by rw [e3']; simp), f2]
  | some K =>
   refine ⟨setS l (K : Int) :: FL, by simp only [fitO, e1, e2, f1, Option.bind_some]; rfl, ?_⟩
   have : (setS l (K : Int)).lx.Ends = y := by show l.lx.Ends = y; rw [e6]
   rw [List.map_cons, this, List.filter_cons_of_pos (p := fun y => fitS s (GLx.mk out y) 0) (za e3), f2]
theorem good_of {s : GLs} (hf : FineS s) (hs : sheetB s = true) {out : List Int} (ho : outB s out = true) (hl : lenOk out = true) {y : List GLe} (hi : IsS (possL out s.Words 0) y) (hr : (y.length : Int) ≤ s.Rows) : Good s (GLx.mk out y) := by
 have h3 := (sh_of hs).rows
 exact ⟨hf, hs, ho, hi, hl, km (show y.length < _ by omega)⟩
end Go.V
end
section
namespace Go.V
open Go Go.Proofs IntKind Tryz
set_option maxRecDepth 4000
set_option maxHeartbeats 4000000
def zf (s : GLs) (out : List Int) : Option Bool := Option.bind (qH s out) fun L => some (!L.isEmpty)
theorem WU (s : GLs) (out : List Int) (R : Bool) (h : zf s out = some R) : ah prog G0 101 [.agg (cGLs s), vx eI out] (.tree (.lit (.bool R))) := by
 refine ah.runR mixed call101 func101 rfl (by simp [ntmps101]; kernel_rfl) ?_
 unfold zf at h
 rcases o2 : qH s out with _ | L
 ·rw [o2] at h; cases h
 rw [o2, Option.bind_some] at h
 have hi := SN s out L o2
 simp only [vz, tyf, seval, ua, rg]
 refine ktreeR ?_ (SM s out) ?_
 ·simp only [tre, au, qE, Bool.and_self]
 refine bQ (fun tm => tm 4 = .ptr 1 0 ∧ tm 7 = itF s out) (by refine ⟨?_, ?_⟩ <;> simp only [ua, seval]) ?_
 rintro tm ⟨e2, e5⟩
 simp only [vz, tyf, seval, ua, rg]
 refine GK hi (by first | (simp only [kV, kW, e5, kM, seval] <;> rfl) | rfl) ?_
 intro LO hLO
 simp only [Option.some.injEq] at h
 obtain ⟨J, hJ⟩ : ∃ J : Option (List VV) → List (Nat × Vo) → Prop, J = (fun o hp => match o with
  | some l => hp = [(5, .deferred (some [])), (6, LO), (1, .cells (some 4) [.lit (.bool false)])] ∧ (!l.isEmpty) = R
  | none => ∃ LD : Code → Vo, (∃ tml ps az bo d, LD = fun c => Vo.loop .done (some c) tml ps az bo d) ∧ hp = [(5, .deferred (some [])), (6, LD .ret), (1, .cells (some 4) [.lit (.bool true)])] ∧ R = true) := ⟨_, rfl⟩
 refine ⟨ownI J, SS, ?_, ?_, ?_⟩
 ·rintro v rest Fr H nx hFr ⟨hp, hown, hj⟩
  rw [hJ] at hj
  obtain ⟨rfl, hR⟩ := hj
  obtain ⟨l5, n5, H5⟩ := hown.head
  obtain ⟨l6, n6, H6⟩ := hown.tail.head
  obtain ⟨l1, n1, H1⟩ := hown.tail.tail.head
  refine GL mixed (psl := [8]) hLO H6 GM rfl (by kernel_rfl) (by kernel_rfl) ?_
  intro LB LD hLB hLD
  refine GN (fun tm => tm 4 = .ptr 1 0) (by simp only [GO, ntmps101, e2, seval]) ?_
  clear e2 e5
  rintro tm e2
  simp only [vz, tyf, seval, ua, rg, RStart, e2, H6, H1]
  refine ⟨by simp only [bk, seval], (show nx ≤ nx + 1 by omega), fun γ hγ => ?_, ?_⟩
  ·have g6 : γ ≠ 6 := fun e => n6 (e ▸ hγ)
   have g1 : γ ≠ 1 := fun e => n1 (e ▸ hγ)
   simp only [updH]
   repeat rw [if_neg (by first | assumption | omega)]
  ·simp only [Bool.false_eq_true, if_false]
   refine ⟨[(5, .deferred (some [])), (6, LD .ret), (1, .cells (some 4) [.lit (.bool true)])], Own.cons (show 5 < nx + 1 by omega) n5 ?_ (Own.cons (show 6 < nx + 1 by omega) n6 ?_ (Own.cons (show 1 < nx + 1 by omega) n1 ?_ Own.nil)), ?_⟩
   rotate_left 3
   ·rw [hJ]
    exact ⟨LD, ⟨_, _, _, _, _, hLD⟩, rfl, hR.symm⟩
   ·simp only [bk, seval, H5]
   ·simp only [bk, seval]
   ·simp only [bk, seval]
 ·refine ⟨[(5, .deferred (some [])), (6, LO), (1, .cells (some 4) [.lit (.bool false)])], Own.cons (show 5 < 7 by omega) (fun h => h) ?_ (Own.cons (show 6 < 7 by omega) (fun h => h) ?_ (Own.cons (show 1 < 7 by omega) (fun h => h) ?_ Own.nil)), ?_⟩
  rotate_left 3
  ·rw [hJ]
   exact ⟨rfl, by rw [← h]; cases L <;> rfl⟩
  ·simp only [bk, seval]
  ·simp only [bk, seval]
  ·simp only [bk, seval]
 ·rintro H' nx' (⟨hp, hown, hj⟩ | ⟨hp, hown, hj⟩)
  ·rw [hJ] at hj
   obtain ⟨rfl, hR⟩ := hj
   obtain ⟨l5, n5, H5⟩ := hown.head
   obtain ⟨l6, n6, H6⟩ := hown.tail.head
   obtain ⟨l1, n1, H1⟩ := hown.tail.tail.head
   refine GQ hLO H6 ?_
   intro LX
   simp only [vz, tyf, seval, ua, rg, e2, H1]
   have hRb : R = false := by simpa using hR.symm
   subst hRb
   refine yZ (by simp only [bk, seval, H5]) ?_
   refine cB (x := .lit (.bool false)) (by simp only [results101, resV, resL, aE, cM, cN, uw, cr, tyf, e2, H1, nm, seval] <;> rfl) ?_
   refine cO (by simp only [tre, au]) ?_
   simp only [outV, nrm, seval]
  ·rw [hJ] at hj
   obtain ⟨LD, ⟨tml, ps, az, bo, d, hLD⟩, rfl, hR⟩ := hj
   obtain ⟨l5, n5, H5⟩ := hown.head
   obtain ⟨l6, n6, H6⟩ := hown.tail.head
   obtain ⟨l1, n1, H1⟩ := hown.tail.tail.head
   refine SP hLD H6 ?_
   intro LX
   simp only [vz, tyf, seval, ua, rg, e2, H1]
   have hRb : R = true := hR
   subst hRb
   refine yZ (by simp only [bk, seval, H5]) ?_
   refine cB (x := .lit (.bool true)) (by simp only [results101, resV, resL, aE, cM, cN, uw, cr, tyf, e2, H1, nm, seval] <;> rfl) ?_
   refine cO (by simp only [tre, au]) ?_
   simp only [outV, nrm, seval]
end Go.V
end
section
namespace Go.V
open Go Go.Proofs IntKind Tryz
abbrev NS (s : GLs) (ws : List GLw) (w r : Int) : GLs := GLs.mk s.Widths s.Pairs s.Other s.Gap s.Hyphen ws w r
theorem uA (s : GLs) (ws : List GLw) (w r k j : Int) : ∀ ms : List Glm, addL (NS s ws w r) k j ms = addL s k j ms
 | [] => rfl
 | m :: ms => by
  rw [addL, addL, uA s ws w r k j ms]
  rfl
def PF (A : GLs) (y : List GLe) : Prop := IsS (possL [] A.Words 0) y ∧ (y.length : Int) ≤ A.Rows ∧ fitS A (GLx.mk [] y) 0 = true
theorem zg {s : GLs} (h : Sh s) : outB s [] = true := by
 have := h.nw
 unfold outB
 rw [show decide ((([] : List Int).length : Int) < s.Words.length) = true from decide_eq_true (by simp; omega)]
 rfl
variable {A : GLs}
theorem He (h : Sh A) : ∃ b, zf A [] = some b ∧ (b = true ↔ ∃ y, PF A y) := by
 obtain ⟨L, l1, l2, l3, l4⟩ := SL h (zg h) rfl (by simp)
 obtain ⟨FL, f1, f2⟩ := ze h (out := []) rfl L fun y hy => ((l2 y).1 hy).1
 refine ⟨!FL.isEmpty, by simp only [zf, qH, l1, Option.bind_some, f1], ?_⟩
 constructor
 ·intro hh
  cases FL with
  | nil => cases hh
  | cons l FL =>
   have hm : l.lx.Ends ∈ L.filter fun y => fitS A (GLx.mk [] y) 0 := by rw [← f2]; simp
   rw [List.mem_filter] at hm
   exact ⟨_, ((l2 _).1 hm.1).1, ((l2 _).1 hm.1).2, hm.2⟩
 ·rintro ⟨y, p1, p2, p3⟩
  have hm : y ∈ L.filter fun y => fitS A (GLx.mk [] y) 0 := List.mem_filter.2 ⟨(l2 y).2 ⟨p1, p2⟩, p3⟩
  rw [← f2] at hm
  cases FL with
  | nil => cases hm
  | cons l FL => rfl
def uB  : List GLw → Int → Int → Option (LOut (Int) (Int))
 | [], nI, db => some (.go db)
 | e0 :: p0, nI, db => uB p0 (nI + 1) (i64.wrap (db + (List.length e0.Signs : Int)))
def wR (ae : GLs) : Option (Int) := cond (lenOk ae.Words) (lbind (uB ae.Words 0 0) (fun r2 => some r2) (fun c1 => some c1) (fun _ _ => none)) none
theorem SZ (ae : GLs) (R : Int) (h : wR ae = some R) : ah prog G0 100 [.agg (cGLs ae)] (.tree (.lit (.int .i64 R))) := by
 refine ah.runR mixed call100 func100 rfl (by simp [ntmps100]; kernel_rfl) ?_
 obtain ⟨KF, h, kF, kN⟩ := eN h
 simp only [wR] at h
 cases g4 : (lenOk ae.Words)
 ·simp only [g4, hs] at h
  exact absurd h kN
 simp only [g4, hs] at h
 simp only [vz, tyf, g4, nm, seval]
 obtain ⟨K3, h, rF, oV, zh, zi⟩ := hX h kN
 obtain ⟨f3, pv, h⟩ := call3 h
 obtain ⟨I3, iY⟩ : ∃ I : Nat → St → Prop, I = (fun m st => ∃ (p3 : List GLw) (kZ : Int) (cQ : Int), m = List.length p3 ∧ 0 ≤ kZ ∧ List.drop (Int.toNat kZ) ae.Words = p3 ∧ st.df = [] ∧ 7 ≤ st.nx ∧ st.tm 7 = .sl (ad cGLw ae.Words) (List.length ae.Words) false ∧ st.tm 8 = .lit (.int .i64 (List.length ae.Words : Int)) ∧ st.tm 3 = .lit (.int .i64 cQ) ∧ st.tm 9 = .lit (.int .i64 kZ) ∧ K3 (f3 p3 kZ cQ)) := ⟨_, rfl⟩
 refine loopK mixed (by kernel_rfl) I3 (List.length ae.Words) (by rw [iY]; refine ⟨ae.Words, 0, 0, rfl, qZg _, rfl, rfl, (show 7 ≤ 7 by omega), ?_, ?_, ?_, ?_, h⟩ <;> first | (simp only [ua, nm, seval] <;> rfl) | rfl) ?_
 rintro m ⟨tm, H, ld, df⟩ aL
 rw [iY] at aL
 obtain ⟨p3, kZ, cQ, rfl, eu, fG, hdf, lf, e5, e6, e7, e8, h⟩ := aL
 simp only at hdf lf e5 e6 e7 e8
 have n9 := gQ (m := 7) (b := ld) (by omega)
 subst hdf pv
 cases p3 with
 | nil =>
  have cR : (decide (kZ < (List.length ae.Words : Int))) = false := gB eu fG
  simp only [uB, hs, reduceCtorEq] at h
  replace h := oV _ h
  try dsimp only at h
  try simp only [hs] at h
  try simp only [vz, tyf, g4, n9, e5, e6, e7, e8, cR, nm, seval]
  refine cB (x := (.lit (.int .i64 cQ))) (by first | (simp only [results100, resV, resL, aE, cM, cN, uw, cr, tyf, g4, n9, cR, nm, seval] <;> rfl) | rfl) ?_
  obtain rfl := kF _ h
  refine cO ?_ ?_
  ·simp only [tre, au, Bool.and_self]
  ·first | (simp only [outV, uw, dx, cr, tyf, nrm, ar, g4, n9, e5, e6, e7, e8, cR, nm, seval] <;> rfl) | rfl
 | cons e3 p3 =>
  have dt : (decide (kZ < (List.length ae.Words : Int))) = true := gq eu fG
  have lg := eV eu fG
  have jO := gu eu fG g4
  simp only [uB, hs, reduceCtorEq] at h
  simp only [vz, tyf, g4, n9, e5, e6, e7, e8, dt, (av lg), jO, nm, seval]
  exact ⟨List.length p3, qZc _, by rw [iY]; refine ⟨p3, kZ + 1, i64.wrap (cQ + (List.length e3.Signs : Int)), rfl, qZm eu (qZl (qZg _)), cb eu fG, rfl, (show 7 ≤ ld + 13 by omega), e5, e6, ?_, ?_, (by first | exact h | (simp only [dt]; exact h))⟩ <;> first | (simp only [ua, n9, e5, e6, e7, e8, dt, jO, nm, seval] <;> rfl) | rfl⟩
theorem Hf {P : Program} {G : Gb} {m b : Nat} {body : Code} {K : St → Prop} {Q : Vx → St → Prop} {st : St} (I : St → Prop) (h1 : CWp P G m body (Vx.then K (Vx.inBlock b (Vx.then I Q))) st) (h2 : ∀ s, I s → Q .normal s) : CWp P G m body (Vx.then K (Vx.inBlock b Q)) st :=
 CWp.mono body st (Ta (fun _ h => h) (fun e s h => by
  cases e with
  | normal => exact h2 s h
  | exit i =>
   rw [Tb] at h ⊢
   split
   ·next hi => rw [if_pos hi] at h; exact h2 s h
   ·next hi => rw [if_neg hi] at h; exact h
  | _ => exact h)) h1
def qL (bw : Int) : List Int → Int → (List Int) → Option (LOut (GLw) ((List Int)))
 | [], px, dy => some (.go dy)
 | e0 :: p0, px, dy => cond (decide (e0 < bw)) (cond (an 8 (List.length (dy ++ [e0]))) (qL bw p0 (px + 1) (dy ++ [e0])) none) (qL bw p0 (px + 1) dy)
def zj (bu : GLw) (bw : Int) : Option (GLw) := Option.bind (sliceO bu.Signs 0 bw) (fun s1 => cond (lenOk bu.Cuts) (lbind (qL bw bu.Cuts 0 ([] : List Int)) (fun r3 => some r3) (fun c2 => some (GLw.mk s1 c2 bu.Free)) (fun _ _ => none)) none)
theorem WV (bu : GLw) (bw : Int) (R : GLw) (h : zj bu bw = some R) : ah prog G0 136 [.agg (cGLw bu), .lit (.int .i64 bw)] (.tree (.agg (cGLw R))) := by
 refine ah.runR mixed call136 func136 rfl (by simp [ntmps136]; kernel_rfl) ?_
 obtain ⟨KF, h, kF, kN⟩ := eN h
 simp only [zj] at h
 simp only [vz, tyf, nm, seval]
 refine nH (fun tm => tm 1 = .lit (.int .i64 bw) ∧ tm 2 = .ptr 0 0 ∧ tm 4 = .ptr 1 0 ∧ True) (by refine ⟨?_, ?_, ?_, trivial⟩ <;> first | (simp only [ua, nm, seval] <;> rfl) | rfl) ?_
 rintro tm ⟨e4, e5, e6, _⟩
 obtain ⟨s7, o8, h⟩ := optI h kN
 try simp only [hs] at h
 try simp only [vz, tyf, e4, e5, e6, nm, seval]
 refine k_slT (w := 1) (enc := eI) (xs := bu.Signs) underlying22 (by kernel_rfl) (fun _ => rfl) (by first | (simp only [kV, kW, mW, kM, e4, e5, e6, nm, seval] <;> rfl) | rfl) (.inl ⟨rfl, rfl⟩) (.inr ⟨.i64, by simp only [Option.map_some]; exact congrArg some (by first | (simp only [kV, kW, mW, kM, e4, e5, e6, nm, seval] <;> rfl) | rfl)⟩) o8 ?_
 simp only [vz, tyf, e4, e5, e6, nm, seval]
 refine jJ ⟨?_, ?_⟩
 ·simp only [jN, jM, eM, jK, and_true, true_and]
  repeat' (first | exact trivial | refine qZk ?_ ?_ | rw [eM] | rw [jL] | exact Or.inl (by decide +kernel) | exact Or.inl (by dsimp only; decide +kernel) | (refine Or.inr ⟨?_, ?_⟩ <;> simp; done) | (refine Or.inr ⟨?_, ?_⟩ <;> simp <;> omega) | (refine Or.inr ⟨?_, ?_⟩ <;> simp [Ve.wr] <;> omega) | (refine Or.inr ⟨?_, ?_⟩ <;> simp [rdV, rdO, topName, Op.operands, kV, mW, kW, kM, Ve.wr] <;> omega))
 cases eO : (lenOk bu.Cuts)
 ·simp only [eO, hs] at h
  exact absurd h kN
 simp only [eO, hs] at h
 simp only [vz, tyf, e4, e5, e6, eO, nm, seval]
 obtain ⟨K9, h, uC, wS, Tc, qM⟩ := hX h kN
 obtain ⟨f9, zk, h⟩ := call3 h
 obtain ⟨I9, ml⟩ : ∃ I : Nat → St → Prop, I = (fun m st => ∃ (p9 : List Int) (ez : Int) (dj : List Int) (rG : VV), m = List.length p9 ∧ 0 ≤ ez ∧ List.drop (Int.toNat ez) bu.Cuts = p9 ∧ st.df = [] ∧ 15 ≤ st.nx ∧ st.H 1 = some (.cells (some 79) ([.lit (.slice none 0 0)] ++ [.lit (.slice none 0 0)] ++ [.lit (.bool false)])) ∧ st.H 9 = some (.cells (some 79) ([.sl (ad eI s7) (List.length s7) false] ++ [rG] ++ [.lit (.bool bu.Free)])) ∧ st.tm 1 = .lit (.int .i64 bw) ∧ st.tm 4 = .ptr 1 0 ∧ st.tm 5 = .ptr 9 0 ∧ st.tm 16 = .sl (ad eI bu.Cuts) (List.length bu.Cuts) false ∧ st.tm 17 = .lit (.int .i64 (List.length bu.Cuts : Int)) ∧ st.tm 18 = .lit (.int .i64 ez) ∧ ((∃ (β : Nat) (el : Option TypeId), rG = .ref β 0 (List.length dj) 1 (List.length dj) ∧ β < st.nx ∧ β ≠ 1 ∧ β ≠ 9 ∧ st.H β = some (.cells el (ad eI dj))) ∨ (rG = .lit (.slice none 0 0) ∧ dj = [])) ∧ K9 (f9 p9 ez dj)) := ⟨_, rfl⟩
 refine loopK mixed (by kernel_rfl) I9 (List.length bu.Cuts) (by rw [ml]; refine ⟨bu.Cuts, 0, ([] : List Int), .lit (.slice none 0 0), rfl, qZg _, rfl, rfl, (show 15 ≤ 15 by omega), ?_, ?_, e4, e6, ?_, ?_, ?_, ?_, Or.inr ⟨rfl, rfl⟩, h⟩ <;> first | (simp only [ua, e4, e5, e6, nm, seval] <;> rfl) | rfl) ?_
 rintro m ⟨tm, H, iw, df⟩ aL
 rw [ml] at aL
 obtain ⟨p9, ez, dj, rG, rfl, gv, iE, hdf, zl, j7, j8, bA, bK, bW, cD, bm, cq, sO, h⟩ := aL
 simp only at hdf zl j7 j8 bA bK bW cD bm cq sO
 have ko := gQ (m := 15) (b := iw) (by omega)
 subst hdf zk
 rcases sO with ⟨uD, py, rfl, Hg, Hh, Hi, gC⟩ | ⟨rfl, rfl⟩
 ·have zm := jx Hg
  have zn := ne_f Hh
  have zo := ne_f Hi
  cases p9 with
  | nil =>
   have jP : (decide (ez < (List.length bu.Cuts : Int))) = false := gB gv iE
   simp only [qL, hs, reduceCtorEq] at h
   replace h := wS _ h
   try dsimp only at h
   try simp only [hs] at h
   try simp only [vz, tyf, eO, ko, bA, bK, bW, cD, bm, cq, j7, j8, zm, gC, zn, zo, jP, nm, seval]
   refine cB (x := (.agg ([.sl (ad eI s7) (List.length s7) false] ++ [.ref uD 0 (List.length dj) 1 (List.length dj)] ++ [.lit (.bool bu.Free)]))) (by first | (simp only [results136, resV, resL, aE, cM, cN, uw, cr, tyf, eO, ko, bA, bK, bW, cD, bm, cq, j7, j8, zm, gC, zn, zo, jP, nm, seval] <;> rfl) | rfl) ?_
   obtain rfl := kF _ h
   refine cO ?_ ?_
   ·simp only [tre, au, Bool.and_self]
   ·first | (simp only [outV, uw, dx, cr, tyf, nrm, ar, eO, ko, bA, bK, bW, cD, bm, cq, j7, j8, zm, gC, zn, zo, jP, nm, seval] <;> rfl) | rfl
  | cons e9 p9 =>
   have iZ : (decide (ez < (List.length bu.Cuts : Int))) = true := gq gv iE
   have pz := eV gv iE
   have Td := gu gv iE eO
   simp only [qL, hs, reduceCtorEq] at h
   cases eA : (decide (e9 < bw))
   ·simp only [eA, hs] at h
    have uE := qZk eO (qZk ko (qZk j7 (qZk j8 (qZk zm (qZk gC (qZk zn (qZk zo (qZk iZ (qZk Td eA)))))))))
    simp only [vz, tyf, uE, bA, bK, bW, cD, bm, cq, (aF pz), nm, seval]
    exact ⟨List.length p9, qZc _, by rw [ml]; refine ⟨p9, ez + 1, dj, .ref uD 0 (List.length dj) 1 (List.length dj), rfl, qZm gv (qZl (qZg _)), cb gv iE, rfl, (show 15 ≤ iw + 9 by omega), ?_, ?_, bA, bK, bW, cD, bm, ?_, Or.inl ⟨uD, py, rfl, (by first | omega | (simp only [nm, seval]; done) | (simp only [nm, seval]; omega)), (by first | omega | (intro hh; simp only [uE, reduceCtorEq] at hh)), (by first | omega | (intro hh; simp only [uE, reduceCtorEq] at hh)), ?_⟩, (by first | exact h | (simp only [uE]; exact h))⟩ <;> first | (simp only [ua, uE, bA, bK, bW, cD, bm, cq, nm, seval] <;> rfl) | rfl⟩
   simp only [eA, hs] at h
   have qN := qZk eO (qZk ko (qZk j7 (qZk j8 (qZk zm (qZk gC (qZk zn (qZk zo (qZk iZ (qZk Td eA)))))))))
   cases jQ : (an 8 (List.length (dj ++ [e9])))
   ·simp only [jQ, hs] at h
    exact absurd h qM
   simp only [jQ, hs] at h
   simp only [vz, tyf, qN, bA, bK, bW, cD, bm, cq, (aF pz), jQ, nm, seval]
   refine k_app (w := 1) (enc := eI) (xs := dj) (ys := ([e9])) (el := py) (ff := (some 3)) (fun _ => rfl) ie ig underlying22 (by first | rfl | assumption | (simp only [bk, bF, eT, qN, nm, seval] <;> rfl) | (simp only [bk, bF, fg, eU, eW, eX, tyf, qN, bA, bK, bW, cD, bm, cq, (aF pz), jQ, nm, seval]; done)) (by first | rfl | assumption | (simp only [bk, bF, eT, qN, nm, seval] <;> rfl) | (simp only [bk, bF, fg, eU, eW, eX, tyf, qN, bA, bK, bW, cD, bm, cq, (aF pz), jQ, nm, seval]; done)) (qZn _) jQ ?_
   simp only [vz, tyf, qN, bA, bK, bW, cD, bm, cq, (aF pz), jQ, nm, seval]
   exact ⟨List.length p9, qZc _, by rw [ml]; refine ⟨p9, ez + 1, (dj ++ [e9]), .ref (iw + 11) 0 (List.length (dj ++ [e9])) 1 (List.length (dj ++ [e9])), rfl, qZm gv (qZl (qZg _)), cb gv iE, rfl, (show 15 ≤ iw + 16 by omega), ?_, ?_, bA, bK, bW, cD, bm, ?_, Or.inl ⟨iw + 11, (sameEl py 3), rfl, (by first | omega | (simp only [nm, seval]; done) | (simp only [nm, seval]; omega)), (by first | omega | (intro hh; simp only [qN, reduceCtorEq] at hh)), (by first | omega | (intro hh; simp only [qN, reduceCtorEq] at hh)), ?_⟩, (by first | exact h | (simp only [qN]; exact h))⟩ <;> first | (simp only [ua, qN, bA, bK, bW, cD, bm, cq, nm, seval] <;> rfl) | rfl⟩
 ·cases p9 with
  | nil =>
   have eY : (decide (ez < (List.length bu.Cuts : Int))) = false := gB gv iE
   simp only [qL, hs, reduceCtorEq] at h
   replace h := wS _ h
   try dsimp only at h
   try simp only [hs] at h
   try simp only [vz, tyf, eO, ko, bA, bK, bW, cD, bm, cq, j7, j8, eY, nm, seval]
   refine cB (x := (.agg ([.sl (ad eI s7) (List.length s7) false] ++ [.lit (.slice none 0 0)] ++ [.lit (.bool bu.Free)]))) (by first | (simp only [results136, resV, resL, aE, cM, cN, uw, cr, tyf, eO, ko, bA, bK, bW, cD, bm, cq, j7, j8, eY, nm, seval] <;> rfl) | rfl) ?_
   obtain rfl := kF _ h
   refine cO ?_ ?_
   ·simp only [tre, au, Bool.and_self]
   ·first | (simp only [outV, uw, dx, cr, tyf, nrm, ar, eO, ko, bA, bK, bW, cD, bm, cq, j7, j8, eY, nm, seval] <;> rfl) | rfl
  | cons e9 p9 =>
   have qO : (decide (ez < (List.length bu.Cuts : Int))) = true := gq gv iE
   have qP := eV gv iE
   have Te := gu gv iE eO
   simp only [qL, hs, reduceCtorEq] at h
   cases D6 : (decide (e9 < bw))
   ·simp only [D6, hs] at h
    have eZ := qZk eO (qZk ko (qZk j7 (qZk j8 (qZk qO (qZk Te D6)))))
    simp only [vz, tyf, eZ, bA, bK, bW, cD, bm, cq, (aF qP), nm, seval]
    exact ⟨List.length p9, qZc _, by rw [ml]; refine ⟨p9, ez + 1, ([] : List Int), .lit (.slice none 0 0), rfl, qZm gv (qZl (qZg _)), cb gv iE, rfl, (show 15 ≤ iw + 9 by omega), ?_, ?_, bA, bK, bW, cD, bm, ?_, Or.inr ⟨rfl, rfl⟩, (by first | exact h | (simp only [eZ]; exact h))⟩ <;> first | (simp only [ua, eZ, bA, bK, bW, cD, bm, cq, nm, seval] <;> rfl) | rfl⟩
   simp only [D6, hs] at h
   have sP := qZk eO (qZk ko (qZk j7 (qZk j8 (qZk qO (qZk Te D6)))))
   cases wT : (an 8 (List.length (([] : List Int) ++ [e9])))
   ·simp only [wT, hs] at h
    exact absurd h qM
   simp only [wT, hs] at h
   simp only [vz, tyf, sP, bA, bK, bW, cD, bm, cq, (aF qP), wT, nm, seval]
   refine mX (w := 1) (enc := eI) (ys := ([e9])) (ff := (some 3)) (fun _ => rfl) ie ig underlying22 (by first | rfl | assumption | (simp only [bk, bF, eT, sP, nm, seval] <;> rfl) | (simp only [bk, bF, fg, eU, eW, eX, tyf, sP, bA, bK, bW, cD, bm, cq, (aF qP), wT, nm, seval]; done)) (qZn _) wT ?_
   simp only [vz, tyf, sP, bA, bK, bW, cD, bm, cq, (aF qP), wT, nm, seval]
   exact ⟨List.length p9, qZc _, by rw [ml]; refine ⟨p9, ez + 1, (([] : List Int) ++ [e9]), .ref (iw + 11) 0 (List.length (([] : List Int) ++ [e9])) 1 (List.length (([] : List Int) ++ [e9])), rfl, qZm gv (qZl (qZg _)), cb gv iE, rfl, (show 15 ≤ iw + 16 by omega), ?_, ?_, bA, bK, bW, cD, bm, ?_, Or.inl ⟨iw + 11, (some 3), rfl, (by first | omega | (simp only [nm, seval]; done) | (simp only [nm, seval]; omega)), (by first | omega | (intro hh; simp only [sP, reduceCtorEq] at hh)), (by first | omega | (intro hh; simp only [sP, reduceCtorEq] at hh)), ?_⟩, (by first | exact h | (simp only [sP]; exact h))⟩ <;> first | (simp only [ua, sP, bA, bK, bW, cD, bm, cq, nm, seval] <;> rfl) | rfl⟩
def uF  : List GLw → Int → Int → (List GLw) → Option (LOut (GLs) (Int × (List GLw)))
 | [], sQ, dc, dP => some (.go (dc, dP))
 | e0 :: p0, sQ, dc, dP => cond (dc == 0) (some (.go (dc, dP))) (Option.bind (zj e0 (if (List.length e0.Signs : Int) < dc then (List.length e0.Signs : Int) else dc)) (fun r2 => cond (an 56 (List.length (dP ++ [r2]))) (uF p0 (sQ + 1) (i64.wrap (dc - (if (List.length e0.Signs : Int) < dc then (List.length e0.Signs : Int) else dc))) (dP ++ [r2])) none))
def zp (ae : GLs) (fO : Int) : Option (GLs) := Option.bind (wR ae) (fun r1 => cond (lenOk ae.Words) (lbind (uF ae.Words 0 (i64.wrap (r1 - fO)) ([] : List GLw)) (fun r4 => some r4) (fun c3 => some (GLs.mk ae.Widths ae.Pairs ae.Other ae.Gap ae.Hyphen c3.2 ae.Wide ae.Rows)) (fun _ _ => none)) none)
theorem WW (ae : GLs) (fO : Int) (R : GLs) (h : zp ae fO = some R) : ah prog G0 102 [.agg (cGLs ae), .lit (.int .i64 fO)] (.tree (.agg (cGLs R))) := by
 refine ah.runR mixed call102 func102 rfl (by simp [ntmps102]; kernel_rfl) ?_
 obtain ⟨KF, h, kF, kN⟩ := eN h
 simp only [zp] at h
 obtain ⟨r5, o6, h⟩ := optI h kN
 try simp only [hs] at h
 simp only [vz, tyf, nm, seval]
 refine ktA (SZ _ _ o6) ?_
 refine bQ (fun tm => tm 1 = .lit (.int .i64 fO) ∧ tm 2 = .ptr 0 0 ∧ tm 4 = .ptr 1 0 ∧ tm 11 = .lit (.int .i64 r5) ∧ True) (by refine ⟨?_, ?_, ?_, ?_, trivial⟩ <;> first | (simp only [ua, nm, seval] <;> rfl) | rfl) ?_
 rintro tm ⟨e7, e8, e9, bx, _⟩
 cases nJ : (lenOk ae.Words)
 ·simp only [nJ, hs] at h
  exact absurd h kN
 simp only [nJ, hs] at h
 simp only [vz, tyf, e7, e8, e9, bx, nJ, nm, seval]
 obtain ⟨Tf, h, WX, Hj, WY, uG⟩ := hX h kN
 obtain ⟨WZ, Hk, h⟩ := call4 h
 obtain ⟨Xa, rH⟩ : ∃ I : Nat → St → Prop, I = (fun m st => ∃ (qQ : List GLw) (dQ : Int) (dz : Int) (eC : List GLw) (ja : VV), m = List.length qQ ∧ 0 ≤ dQ ∧ List.drop (Int.toNat dQ) ae.Words = qQ ∧ st.df = [] ∧ 12 ≤ st.nx ∧ st.H 0 = some (.cells (some 28) (cGLs ae)) ∧ st.H 1 = some (.cells (some 28) ([.lit (.slice none 0 0)] ++ [.lit (.slice none 0 0)] ++ [.lit (.int .i64 0)] ++ [.lit (.int .i64 0)] ++ [.lit (.int .i64 0)] ++ [.lit (.int .i64 0)] ++ [.lit (.int .i64 0)] ++ [.lit (.slice none 0 0)] ++ [.lit (.int .i64 0)] ++ [.lit (.int .i64 0)])) ∧ st.tm 2 = .ptr 0 0 ∧ st.tm 4 = .ptr 1 0 ∧ st.tm 15 = .sl (ad cGLw ae.Words) (List.length ae.Words) false ∧ st.tm 16 = .lit (.int .i64 (List.length ae.Words : Int)) ∧ st.tm 5 = .lit (.int .i64 dz) ∧ st.tm 6 = ja ∧ st.tm 17 = .lit (.int .i64 dQ) ∧ ((∃ (β : Nat) (el : Option TypeId), ja = .ref β 0 (List.length eC) 3 (List.length eC) ∧ β < st.nx ∧ β ≠ 0 ∧ β ≠ 1 ∧ st.H β = some (.cells el (ad cGLw eC))) ∨ (ja = .lit (.slice none 0 0) ∧ eC = [])) ∧ Tf (WZ qQ dQ dz eC)) := ⟨_, rfl⟩
 refine loopK mixed (by kernel_rfl) Xa (List.length ae.Words) (by rw [rH]; refine ⟨ae.Words, 0, i64.wrap (r5 - fO), ([] : List GLw), .lit (.slice none 0 0), rfl, qZg _, rfl, rfl, (show 12 ≤ 12 by omega), ?_, ?_, e8, e9, ?_, ?_, ?_, ?_, ?_, Or.inr ⟨rfl, rfl⟩, h⟩ <;> first | (simp only [ua, e7, e8, e9, bx, nm, seval] <;> rfl) | rfl) ?_
 rintro m ⟨tm, H, kq, df⟩ aL
 rw [rH] at aL
 obtain ⟨qQ, dQ, dz, eC, ja, rfl, lh, nK, hdf, Hl, zq, zr, bW, cD, bm, cq, fR, gR, bZ, ku, h⟩ := aL
 simp only at hdf Hl zq zr bW cD bm cq fR gR bZ ku
 have mY := gQ (m := 12) (b := kq) (by omega)
 subst hdf Hk
 obtain ⟨Xb, uH⟩ : ∃ I : St → Prop, I = (fun st => ∃ (p8 : Int) (ix : List GLw) (mZ : VV), st.df = [] ∧ 12 ≤ st.nx ∧ st.H 0 = some (.cells (some 28) (cGLs ae)) ∧ st.H 1 = some (.cells (some 28) ([.lit (.slice none 0 0)] ++ [.lit (.slice none 0 0)] ++ [.lit (.int .i64 0)] ++ [.lit (.int .i64 0)] ++ [.lit (.int .i64 0)] ++ [.lit (.int .i64 0)] ++ [.lit (.int .i64 0)] ++ [.lit (.slice none 0 0)] ++ [.lit (.int .i64 0)] ++ [.lit (.int .i64 0)])) ∧ st.tm 2 = .ptr 0 0 ∧ st.tm 4 = .ptr 1 0 ∧ st.tm 5 = .lit (.int .i64 p8) ∧ st.tm 6 = mZ ∧ ((∃ (β : Nat) (el : Option TypeId), mZ = .ref β 0 (List.length ix) 3 (List.length ix) ∧ β < st.nx ∧ β ≠ 0 ∧ β ≠ 1 ∧ st.H β = some (.cells el (ad cGLw ix))) ∨ (mZ = .lit (.slice none 0 0) ∧ ix = [])) ∧ Tf (some (.go (p8, ix)))) := ⟨_, rfl⟩
 refine Hf Xb ?_ ?_
 ·cases qQ with
  | nil =>
   have mm : (decide (dQ < (List.length ae.Words : Int))) = false := gB lh nK
   simp only [uF, hs, reduceCtorEq] at h
   simp only [vz, tyf, nJ, mY, bW, cD, bm, cq, fR, gR, bZ, zq, zr, mm, nm, seval]
   rw [uH]
   exact (by refine ⟨dz, eC, ja, rfl, (show 12 ≤ kq + 1 by omega), ?_, ?_, bW, cD, fR, ?_, (match ku with | Or.inl ⟨β0, mR, nF, hT, pE, kO, lj⟩ => Or.inl ⟨β0, mR, nF, (by first | assumption | omega | (simp only [nm, seval]; done) | (simp only [nm, seval]; omega)), (by first | assumption | omega | (simp only [nm, seval]; done) | (simp only [nm, seval]; omega)), (by first | assumption | omega | (simp only [nm, seval]; done) | (simp only [nm, seval]; omega)), (by first | exact lj | (simp only [bk, bF, jx hT, ne_f pE, ne_f kO, nm, seval]; exact lj))⟩ | Or.inr mi => Or.inr mi), (by first | exact h | (simp only [mm]; exact h))⟩ <;> first | (simp only [ua, mY, bW, cD, bm, cq, fR, gR, bZ, zq, zr, mm, nm, seval] <;> rfl) | rfl)
  | cons br qQ =>
   have jP : (decide (dQ < (List.length ae.Words : Int))) = true := gq lh nK
   have nL := eV lh nK
   have rI := gu lh nK nJ
   simp only [uF, hs, reduceCtorEq] at h
   cases D7 : (dz == 0)
   ·simp only [D7, hs] at h
    have jR := qZk nJ (qZk mY (qZk zq (qZk zr (qZk jP (qZk rI D7)))))
    obtain ⟨iL, iF, h⟩ := optI h uG
    try simp only [hs] at h
    simp only [vz, tyf, jR, bW, cD, bm, cq, fR, gR, bZ, (av nL), nm, seval]
    refine ktA (WV _ _ _ iF) ?_
    refine bQ (fun tm => tm 2 = .ptr 0 0 ∧ tm 4 = .ptr 1 0 ∧ tm 5 = .lit (.int .i64 (i64.wrap (dz - (if (List.length br.Signs : Int) < dz then (List.length br.Signs : Int) else dz)))) ∧ tm 15 = .sl (ad cGLw ae.Words) (List.length ae.Words) false ∧ tm 16 = .lit (.int .i64 (List.length ae.Words : Int)) ∧ tm 17 = .lit (.int .i64 dQ) ∧ tm 31 = ja ∧ tm 34 = .agg (cGLw iL) ∧ True) (by refine ⟨bW, cD, ?_, bm, cq, bZ, ?_, ?_, trivial⟩ <;> first | (simp only [ua, jR, bW, cD, bm, cq, fR, gR, bZ, nm, seval] <;> rfl) | rfl) ?_
    rintro tm ⟨gM, gD, fx, hY, gS, cg, bT, bG, _⟩
    rcases ku with ⟨Tg, pF, rfl, Hm, Ho, Hp, uI⟩ | ⟨rfl, rfl⟩
    ·have rJ := jx Hm
     have rK := ne_f Ho
     have rL := ne_f Hp
     cases uJ : (an 56 (List.length (eC ++ [iL])))
     ·simp only [uJ, hs] at h
      exact absurd h uG
     simp only [uJ, hs] at h
     simp only [vz, tyf, jR, (av nL), gM, gD, fx, hY, gS, cg, bT, bG, rJ, uI, rK, rL, uJ, nm, seval]
     refine k_app (w := 3) (enc := cGLw) (xs := eC) (ys := ([iL])) (el := pF) (ff := (some 79)) (fun _ => rfl) nM nN underlying26 (by first | rfl | assumption | (simp only [bk, bF, j9, jR, rJ, uI, rK, rL, nm, seval] <;> rfl) | (simp only [bk, bF, fg, eU, eW, eX, tyf, jR, (av nL), gM, gD, fx, hY, gS, cg, bT, bG, rJ, uI, rK, rL, uJ, nm, seval]; done)) (by first | rfl | assumption | (simp only [bk, bF, j9, jR, rJ, uI, rK, rL, nm, seval] <;> rfl) | (simp only [bk, bF, fg, eU, eW, eX, tyf, jR, (av nL), gM, gD, fx, hY, gS, cg, bT, bG, rJ, uI, rK, rL, uJ, nm, seval]; done)) (qZn _) uJ ?_
     simp only [vz, tyf, jR, (av nL), gM, gD, fx, hY, gS, cg, bT, bG, rJ, uI, rK, rL, uJ, nm, seval]
     exact ⟨List.length qQ, qZc _, by rw [rH]; refine ⟨qQ, dQ + 1, i64.wrap (dz - (if (List.length br.Signs : Int) < dz then (List.length br.Signs : Int) else dz)), (eC ++ [iL]), .ref (kq + 22) 0 (List.length (eC ++ [iL])) 3 (List.length (eC ++ [iL])), rfl, qZm lh (qZl (qZg _)), cb lh nK, rfl, (show 12 ≤ kq + 26 by omega), ?_, ?_, gM, gD, hY, gS, fx, ?_, ?_, Or.inl ⟨kq + 22, (sameEl pF 79), rfl, (by first | omega | (simp only [nm, seval]; done) | (simp only [nm, seval]; omega)), (by first | omega | (intro hh; simp only [jR, rJ, rK, rL, reduceCtorEq] at hh)), (by first | omega | (intro hh; simp only [jR, rJ, rK, rL, reduceCtorEq] at hh)), ?_⟩, (by first | exact h | (simp only [jR]; exact h))⟩ <;> first | (simp only [ua, jR, gM, gD, fx, hY, gS, cg, bT, bG, rJ, uI, rK, rL, nm, seval] <;> rfl) | rfl⟩
    ·cases wU : (an 56 (List.length (([] : List GLw) ++ [iL])))
     ·simp only [wU, hs] at h
      exact absurd h uG
     simp only [wU, hs] at h
     simp only [vz, tyf, jR, (av nL), gM, gD, fx, hY, gS, cg, bT, bG, wU, nm, seval]
     refine mX (w := 3) (enc := cGLw) (ys := ([iL])) (ff := (some 79)) (fun _ => rfl) nM nN underlying26 (by first | rfl | assumption | (simp only [bk, bF, j9, jR, nm, seval] <;> rfl) | (simp only [bk, bF, fg, eU, eW, eX, tyf, jR, (av nL), gM, gD, fx, hY, gS, cg, bT, bG, wU, nm, seval]; done)) (qZn _) wU ?_
     simp only [vz, tyf, jR, (av nL), gM, gD, fx, hY, gS, cg, bT, bG, wU, nm, seval]
     exact ⟨List.length qQ, qZc _, by rw [rH]; refine ⟨qQ, dQ + 1, i64.wrap (dz - (if (List.length br.Signs : Int) < dz then (List.length br.Signs : Int) else dz)), (([] : List GLw) ++ [iL]), .ref (kq + 22) 0 (List.length (([] : List GLw) ++ [iL])) 3 (List.length (([] : List GLw) ++ [iL])), rfl, qZm lh (qZl (qZg _)), cb lh nK, rfl, (show 12 ≤ kq + 26 by omega), ?_, ?_, gM, gD, hY, gS, fx, ?_, ?_, Or.inl ⟨kq + 22, (some 79), rfl, (by first | omega | (simp only [nm, seval]; done) | (simp only [nm, seval]; omega)), (by first | omega | (intro hh; simp only [jR, reduceCtorEq] at hh)), (by first | omega | (intro hh; simp only [jR, reduceCtorEq] at hh)), ?_⟩, (by first | exact h | (simp only [jR]; exact h))⟩ <;> first | (simp only [ua, jR, gM, gD, fx, hY, gS, cg, bT, bG, nm, seval] <;> rfl) | rfl⟩
   simp only [D7, hs] at h
   have qR := qZk nJ (qZk mY (qZk zq (qZk zr (qZk jP (qZk rI D7)))))
   simp only [vz, tyf, qR, bW, cD, bm, cq, fR, gR, bZ, (av nL), nm, seval]
   rw [uH]
   exact (by refine ⟨dz, eC, ja, rfl, (show 12 ≤ kq + 7 by omega), ?_, ?_, bW, cD, fR, ?_, (match ku with | Or.inl ⟨β0, mR, nF, hT, pE, kO, lj⟩ => Or.inl ⟨β0, mR, nF, (by first | assumption | omega | (simp only [nm, seval]; done) | (simp only [nm, seval]; omega)), (by first | assumption | omega | (simp only [nm, seval]; done) | (simp only [nm, seval]; omega)), (by first | assumption | omega | (simp only [nm, seval]; done) | (simp only [nm, seval]; omega)), (by first | exact lj | (simp only [bk, bF, jx hT, ne_f pE, ne_f kO, nm, seval]; exact lj))⟩ | Or.inr mi => Or.inr mi), (by first | exact h | (simp only [qR]; exact h))⟩ <;> first | (simp only [ua, qR, bW, cD, bm, cq, fR, gR, bZ, nm, seval] <;> rfl) | rfl)
 ·rintro ⟨tm, H, Hq, df⟩ hst
  rw [uH] at hst
  obtain ⟨p8, ix, mZ, hdf, hnnj11, uK, uL, cA, cZ, de, dF, pG, h⟩ := hst
  simp only at hdf hnnj11 uK uL cA cZ de dF pG
  have wW := gQ (m := 12) (b := Hq) (by omega)
  subst hdf
  replace h := Hj _ h
  try dsimp only at h
  try simp only [hs] at h
  rcases pG with ⟨zt, Hr, rfl, uM, Hs, Ht, ij⟩ | ⟨rfl, rfl⟩
  ·have oW := jx uM
   have Hu := ne_f Hs
   have Hv := ne_f Ht
   try simp only [vz, tyf, nJ, wW, cA, cZ, de, dF, uK, uL, oW, ij, Hu, Hv, nm, seval]
   refine cB (x := (.agg ([.sl (ad eI ae.Widths) (List.length ae.Widths) false] ++ [.sl (ad cGLp ae.Pairs) (List.length ae.Pairs) false] ++ (cGSpan ae.Other) ++ (cGSpan ae.Gap) ++ [.lit (.int .i64 ae.Hyphen)] ++ [.ref zt 0 (List.length ix) 3 (List.length ix)] ++ [.lit (.int .i64 ae.Wide)] ++ [.lit (.int .i64 ae.Rows)]))) (by first | (simp only [results102, resV, resL, aE, cM, cN, uw, cr, tyf, nJ, wW, cA, cZ, de, dF, uK, uL, oW, ij, Hu, Hv, nm, seval] <;> rfl) | rfl) ?_
   obtain rfl := kF _ h
   refine cO ?_ ?_
   ·simp only [tre, au, Bool.and_self]
   ·first | (simp only [outV, uw, dx, cr, tyf, nrm, ar, nJ, wW, cA, cZ, de, dF, uK, uL, oW, ij, Hu, Hv, nm, seval] <;> rfl) | rfl
  ·try simp only [vz, tyf, nJ, wW, cA, cZ, de, dF, uK, uL, nm, seval]
   refine cB (x := (.agg ([.sl (ad eI ae.Widths) (List.length ae.Widths) false] ++ [.sl (ad cGLp ae.Pairs) (List.length ae.Pairs) false] ++ (cGSpan ae.Other) ++ (cGSpan ae.Gap) ++ [.lit (.int .i64 ae.Hyphen)] ++ [.lit (.slice none 0 0)] ++ [.lit (.int .i64 ae.Wide)] ++ [.lit (.int .i64 ae.Rows)]))) (by first | (simp only [results102, resV, resL, aE, cM, cN, uw, cr, tyf, nJ, wW, cA, cZ, de, dF, uK, uL, nm, seval] <;> rfl) | rfl) ?_
   obtain rfl := kF _ h
   refine cO ?_ ?_
   ·simp only [tre, au, Bool.and_self]
   ·first | (simp only [outV, uw, dx, cr, tyf, nrm, ar, nJ, wW, cA, cZ, de, dF, uK, uL, nm, seval] <;> rfl) | rfl
def uN (ae : GLs) : Nat → Int → Option (LOut (Int × Int) (Int))
 | 0, lk => some (.go lk)
 | k0 + 1, lk => Option.bind (zp ae lk) (fun r3 => Option.bind (zf r3 ([] : List Int)) (fun r4 => cond (r4) (some (.go lk)) (uN ae k0 (lk + 1))))
def zu (ae : GLs) : Option (Int × Int) := Option.bind (u7 ae) (fun r1 => cond (r1) (Option.bind (wR ae) (fun r2 => cond (boundOk r2) (lbind (uN ae (Int.toNat (r2 - 0)) 0) (fun r6 => some r6) (fun c5 => some (c5, 0)) (fun _ _ => none)) none)) (some (0, 2)))
theorem Xc (ae : GLs) (R : Int × Int) (h : zu ae = some R) : ah prog G0 53 [.agg (cGLs ae)] (.tree (.tup [.lit (.int .i64 R.1), .lit (.int .i64 R.2)])) := by
 refine ah.runR mixed call53 func53 rfl (by simp [ntmps53]; kernel_rfl) ?_
 obtain ⟨KF, h, kF, kN⟩ := eN h
 simp only [zu] at h
 obtain ⟨r7, o8, h⟩ := optI h kN
 try simp only [hs] at h
 simp only [vz, tyf, nm, seval]
 refine ktA (SV _ _ o8) ?_
 refine bQ (fun tm => tm 1 = .ptr 0 0 ∧ tm 7 = .lit (.bool r7) ∧ True) (by refine ⟨?_, ?_, trivial⟩ <;> first | (simp only [ua, nm, seval] <;> rfl) | rfl) ?_
 rintro tm ⟨e9, bx, _⟩
 cases dt : (r7)
 ·simp only [dt, hs] at h
  try simp only [vz, tyf, e9, bx, dt, nm, seval]
  refine cB (x := (.tup [.lit (.int .i64 0), .lit (.int .i64 2)])) (by first | (simp only [results53, resV, resL, aE, cM, cN, uw, cr, tyf, dt, nm, seval] <;> rfl) | rfl) ?_
  obtain rfl := kF _ h
  refine cO ?_ ?_
  ·simp only [tre, au, Bool.and_self]
  ·first | (simp only [outV, uw, dx, cr, tyf, nrm, ar, e9, bx, dt, nm, seval] <;> rfl) | rfl
 simp only [dt, hs] at h
 obtain ⟨nd, lg, h⟩ := optI h kN
 try simp only [hs] at h
 simp only [vz, tyf, e9, bx, dt, nm, seval]
 refine ktA (SZ _ _ lg) ?_
 refine bQ (fun tm => tm 1 = .ptr 0 0 ∧ tm 10 = .lit (.int .i64 nd) ∧ True) (by refine ⟨e9, ?_, trivial⟩ <;> first | (simp only [ua, e9, bx, dt, nm, seval] <;> rfl) | rfl) ?_
 rintro tm ⟨bK, bW, _⟩
 cases pH : (boundOk nd)
 ·simp only [pH, hs] at h
  exact absurd h kN
 simp only [pH, hs] at h
 simp only [vz, tyf, dt, bK, bW, pH, nm, seval]
 obtain ⟨Xd, h, Xe, zw, Xf, zx⟩ := hX h kN
 obtain ⟨Xg, Hw, h⟩ := call2 h
 obtain ⟨Xh, uO⟩ : ∃ I : Nat → St → Prop, I = (fun m st => ∃ (sR : Nat) (fh : Int), sR = m ∧ loOk fh = true ∧ Int.toNat (nd - fh) = sR ∧ st.df = [] ∧ 10 ≤ st.nx ∧ st.H 0 = some (.cells (some 28) (cGLs ae)) ∧ st.tm 1 = .ptr 0 0 ∧ st.tm 5 = .lit (.int .i64 nd) ∧ st.tm 4 = .lit (.int .i64 fh) ∧ Xd (Xg sR fh)) := ⟨_, rfl⟩
 refine loopK mixed (by kernel_rfl) Xh (Int.toNat (nd - 0)) (by rw [uO]; refine ⟨Int.toNat (nd - 0), 0, rfl, (by rfl), rfl, rfl, (show 10 ≤ 10 by omega), ?_, bK, ?_, ?_, h⟩ <;> first | (simp only [ua, dt, bK, bW, nm, seval] <;> rfl) | rfl) ?_
 rintro m ⟨tm, H, zy, df⟩ aL
 rw [uO] at aL
 obtain ⟨sR, fh, rfl, zz, rM, hdf, Hx, jy, fR, gR, bZ, h⟩ := aL
 simp only at hdf Hx jy fR gR bZ
 have mY := gQ (m := 10) (b := zy) (by omega)
 subst hdf Hw
 cases sR with
 | zero =>
  have mm : (decide (fh < nd)) = false := Hy rM
  simp only [uN, hs, reduceCtorEq] at h
  replace h := zw _ h
  try dsimp only at h
  try simp only [hs] at h
  try simp only [vz, tyf, dt, pH, mY, fR, gR, bZ, jy, mm, nm, seval]
  refine cB (x := (.tup [.lit (.int .i64 fh), .lit (.int .i64 0)])) (by first | (simp only [results53, resV, resL, aE, cM, cN, uw, cr, tyf, dt, pH, mY, jy, mm, nm, seval] <;> rfl) | rfl) ?_
  obtain rfl := kF _ h
  refine cO ?_ ?_
  ·simp only [tre, au, Bool.and_self]
  ·first | (simp only [outV, uw, dx, cr, tyf, nrm, ar, dt, pH, mY, fR, gR, bZ, jy, mm, nm, seval] <;> rfl) | rfl
 | succ sR =>
  have jP : (decide (fh < nd)) = true := Hz rM
  have rI := HA zz rM pH
  simp only [uN, hs, reduceCtorEq] at h
  obtain ⟨wX, pz, h⟩ := optI h zx
  try simp only [hs] at h
  simp only [vz, tyf, dt, pH, mY, fR, gR, bZ, jy, jP, rI, nm, seval]
  refine ktA (WW _ _ _ pz) ?_
  refine bQ (fun tm => tm 1 = .ptr 0 0 ∧ tm 4 = .lit (.int .i64 fh) ∧ tm 5 = .lit (.int .i64 nd) ∧ tm 14 = .lit (.bool true) ∧ tm 17 = .agg (cGLs wX) ∧ True) (by refine ⟨fR, bZ, gR, ?_, ?_, trivial⟩ <;> first | (simp only [ua, dt, mY, fR, gR, bZ, jy, jP, rI, nm, seval] <;> rfl) | rfl) ?_
  rintro tm ⟨fS, gE, dk, gM, gD, _⟩
  obtain ⟨Th, fH, h⟩ := optI h zx
  try simp only [hs] at h
  simp only [vz, tyf, dt, pH, mY, jy, jP, rI, fS, gE, dk, gM, gD, nm, seval]
  refine ktreeR ?_ (WU _ _ _ fH) ?_
  ·simp only [tre, au, Bool.and_self]
  refine bQ (fun tm => tm 1 = .ptr 0 0 ∧ tm 4 = .lit (.int .i64 fh) ∧ tm 5 = .lit (.int .i64 nd) ∧ tm 14 = .lit (.bool true) ∧ tm 18 = .lit (.bool Th) ∧ True) (by refine ⟨fS, gE, dk, ?_, ?_, trivial⟩ <;> first | (simp only [ua, dt, mY, jy, jP, rI, fS, gE, dk, gM, gD, nm, seval] <;> rfl) | rfl) ?_
  rintro tm ⟨gS, cg, bT, bG, bJ, _⟩
  cases D8 : (Th)
  ·simp only [D8, hs] at h
   have HB := qZk dt (qZk pH (qZk mY (qZk jy (qZk jP (qZk rI D8)))))
   simp only [vz, tyf, HB, gS, cg, bT, bG, bJ, nm, seval]
   exact ⟨sR, qZc _, by rw [uO]; refine ⟨sR, fh + 1, rfl, HC zz, HD rM, rfl, (show 10 ≤ zy + 13 by omega), ?_, gS, bT, ?_, (by first | exact h | (simp only [HB]; exact h))⟩ <;> first | (simp only [ua, HB, gS, cg, bT, bG, bJ, nm, seval] <;> rfl) | rfl⟩
  simp only [D8, hs] at h
  have HE := qZk dt (qZk pH (qZk mY (qZk jy (qZk jP (qZk rI D8)))))
  replace h := zw _ h
  try dsimp only at h
  try simp only [hs] at h
  try simp only [vz, tyf, HE, gS, cg, bT, bG, bJ, nm, seval]
  refine cB (x := (.tup [.lit (.int .i64 fh), .lit (.int .i64 0)])) (by first | (simp only [results53, resV, resL, aE, cM, cN, uw, cr, tyf, HE, nm, seval] <;> rfl) | rfl) ?_
  obtain rfl := kF _ h
  refine cO ?_ ?_
  ·simp only [tre, au, Bool.and_self]
  ·first | (simp only [outV, uw, dx, cr, tyf, nrm, ar, HE, gS, cg, bT, bG, bJ, nm, seval] <;> rfl) | rfl
def letsI : List GLw → Int
 | [] => 0
 | w :: p => (w.Signs.length : Int) + letsI p
def shW (w : GLw) (k : Int) : GLw := GLw.mk (w.Signs.take k.toNat) (w.Cuts.filter fun c => decide (c < k)) w.Free
def minL (w : GLw) (n : Int) : Int := if (w.Signs.length : Int) < n then (w.Signs.length : Int) else n
def woL : List GLw → Int → List GLw
 | [], _ => []
 | w :: p, n => if n = 0 then [] else shW w (minL w n) :: woL p (n - minL w n)
theorem z1 : ∀ (p : List GLw), (∀ w ∈ p, w.Signs.length ≤ 6) → 0 ≤ letsI p ∧ letsI p ≤ 6 * p.length
 | [], _ => by simp [letsI]
 | w :: p, h => by
  have h1 := h w (qZb ..)
  have h2 := z1 p fun x hx => h x (qZa _ hx)
  simp only [letsI, List.length_cons]
  omega
theorem z2 : ∀ (p : List GLw) (i c : Int), (∀ w ∈ p, w.Signs.length ≤ 6) → 0 ≤ c → c + 6 * p.length ≤ 1000 → uB p i c = some (.go (c + letsI p))
 | [], _, c, _, _, _ => by simp [uB, letsI]
 | w :: p, i, c, h, h0, h1 => by
  have hw := h w (qZb ..)
  simp only [List.length_cons] at h1
  rw [uB, jS (by omega) (by omega), z2 p (i + 1) _ (fun x hx => h x (qZa _ hx)) (by omega) (by omega), letsI]
  congr 2
  omega
theorem z3 (h : Sh A) : wR A = some (letsI A.Words) := by
 have := h.nw
 rw [wR, km (by omega), cond_true, z2 A.Words 0 0 (fun w hw => (h.wlen w hw).2) (qZg _) (by omega), lR]
 congr 1
 omega
theorem roomOk56 {n : Nat} (h : n ≤ 1000) : an 56 n = true := by simp [an]; omega
theorem HF (k : Int) : ∀ (p : List Int) (i : Int) (acc : List Int), acc.length + p.length ≤ 1000 → qL k p i acc = some (.go (acc ++ p.filter fun c => decide (c < k)))
 | [], _, acc, _ => by simp [qL]
 | e :: p, i, acc, h => by
  simp only [List.length_cons] at h
  rw [qL]
  by_cases he : e < k
  ·rw [decide_eq_true he, cond_true, roomOk8 (by simp; omega), cond_true, HF k p (i + 1) _ (by simp; omega), List.filter_cons_of_pos (by simpa using he)]
   simp
  ·rw [decide_eq_false he, cond_false, HF k p (i + 1) acc (by omega), List.filter_cons_of_neg (by simpa using he)]
theorem HG {w : GLw} (hc : w.Cuts.length ≤ 5) {k : Int} (h0 : 0 ≤ k) (h1 : k ≤ w.Signs.length) : zj w k = some (shW w k) := by
 have hs : sliceO w.Signs 0 k = some (w.Signs.take k.toNat) := by
  unfold sliceO
  rw [if_pos ⟨qZg _, h0, h1⟩]
  simp
 rw [zj, hs, Option.bind_some, km (by omega), cond_true, HF k w.Cuts 0 [] (by simp; omega), lR]
 rfl
theorem wo_l0 : ∀ (p : List GLw) (i n : Int) (acc : List GLw), (∀ w ∈ p, w.Signs.length ≤ 6 ∧ w.Cuts.length ≤ 5) → 0 ≤ n → n ≤ 1000 → acc.length + p.length ≤ 1000 → ∃ m, uF p i n acc = some (.go (m, acc ++ woL p n))
 | [], i, n, acc, _, _, _, _ => ⟨n, by simp [uF, woL]⟩
 | w :: p, i, n, acc, h, h0, h1, h2 => by
  have hw := h w (qZb ..)
  simp only [List.length_cons] at h2
  rw [uF, woL]
  by_cases hn : n = 0
  ·refine ⟨n, ?_⟩
   rw [if_pos hn, show (n == 0) = true by simp [hn], cond_true, List.append_nil]
  ·rw [if_neg hn, show (n == 0) = false by simp [hn], cond_false]
   have hm : 0 ≤ minL w n ∧ minL w n ≤ w.Signs.length ∧ minL w n ≤ n := by unfold minL; split <;> omega
   obtain ⟨m, ih⟩ := wo_l0 p (i + 1) (n - minL w n) (acc ++ [shW w (minL w n)]) (fun x hx => h x (qZa _ hx)) (by omega) (by omega) (by simp; omega)
   refine ⟨m, ?_⟩
   rw [show (if (List.length w.Signs : Int) < n then (List.length w.Signs : Int) else n) = minL w n from rfl, HG hw.2 hm.1 hm.2.1, Option.bind_some, roomOk56 (by simp; omega), cond_true, jS (by omega) (by omega), ih]
   simp
theorem wo_eq (h : Sh A) {k : Int} (h0 : 0 ≤ k) (h1 : k ≤ letsI A.Words) : zp A k = some (NS A (woL A.Words (letsI A.Words - k)) A.Wide A.Rows) := by
 have hn := h.nw
 have hb := z1 A.Words fun w hw => (h.wlen w hw).2
 obtain ⟨m, e⟩ := wo_l0 A.Words 0 (letsI A.Words - k) [] (fun w hw => ⟨(h.wlen w hw).2, (h.wcut w hw).2.2⟩) (by omega) (by omega) (by simp; omega)
 rw [zp, z3 h, Option.bind_some, km (by omega), cond_true, jS (by omega) (by omega), e, lR, List.nil_append]
theorem z4 : ∀ (p : List GLw) (n : Int), (woL p n).length ≤ p.length
 | [], _ => qZh _
 | w :: p, n => by
  rw [woL]
  split
  ·exact Nat.zero_le _
  ·have := z4 p (n - minL w n)
   simp only [List.length_cons]
   omega
theorem uQ : ∀ (p : List GLw) (n : Int), 0 ≤ n → (∀ w ∈ p, 1 ≤ w.Signs.length) → ∀ v ∈ woL p n, ∃ w ∈ p, ∃ k : Int, 1 ≤ k ∧ k ≤ w.Signs.length ∧ v = shW w k
 | [], _, _, _, v, hv => by cases hv
 | w :: p, n, h0, h1, v, hv => by
  have hw := h1 w (qZb ..)
  rw [woL] at hv
  split at hv
  ·cases hv
  ·have hm : 1 ≤ minL w n ∧ minL w n ≤ w.Signs.length ∧ minL w n ≤ n := by unfold minL; split <;> omega
   rcases List.mem_cons.1 hv with rfl | hv
   ·exact ⟨w, qZb .., _, hm.1, hm.2.1, rfl⟩
   ·obtain ⟨x, hx, k, hk⟩ := uQ p _ (by omega) (fun x hx => h1 x (qZa _ hx)) v hv
    exact ⟨x, qZa _ hx, k, hk⟩
theorem z5 : ∀ (p : List Int) (q : Int), incr q p = true ↔ (q :: p).Pairwise (· < ·)
 | [], q => ⟨fun _ => List.pairwise_singleton _ _, fun _ => rfl⟩
 | e :: p, q => by
  refine ⟨D9 _ _, fun h => ?_⟩
  rw [List.pairwise_cons] at h
  rw [incr, (z5 p e).2 h.2, Bool.and_true, decide_eq_false (by have := h.1 e (qZb ..); omega)]
  rfl
theorem Ti (p : List Int) : incrL p = true ↔ p.Pairwise (· < ·) := by
 cases p with
 | nil => exact ⟨fun _ => List.Pairwise.nil, fun _ => rfl⟩
 | cons e p => exact z5 p e
theorem Sh_wo (h : Sh A) {n : Int} (h1 : 1 ≤ n) : Sh (NS A (woL A.Words n) A.Wide A.Rows) := by
 have hw := uQ A.Words n (by omega) fun w hw => (h.wlen w hw).1
 refine ⟨h.nwid, h.wid, h.npair, h.pair, h.other, h.gap, h.hyp, ⟨?_, qZi (z4 _ _) h.nw.2⟩, fun v hv => ?_, fun v hv => ?_, fun v hv => ?_, h.wide, h.rows⟩
 ·show 1 ≤ (woL A.Words n).length
  have := h.nw.1
  match A.Words, this with
  | w :: p, _ =>
   rw [woL, if_neg (by omega)]
   simp
 ·obtain ⟨w, hwm, k, k1, k2, rfl⟩ := hw v hv
  have := h.wlen w hwm
  simp only [shW, List.length_take]
  omega
 ·obtain ⟨w, hwm, k, k1, k2, rfl⟩ := hw v hv
  exact fun c hc => h.wsign w hwm c (List.mem_of_mem_take hc)
 ·obtain ⟨w, hwm, k, k1, k2, rfl⟩ := hw v hv
  have := h.wcut w hwm
  refine ⟨(Ti _).2 (((Ti _).1 this.1).filter _), fun c hc => ?_, qZi (List.length_filter_le ..) this.2.2⟩
  have hc := List.mem_filter.1 hc
  have h2 := this.2.1 c hc.1
  have h3 : c < k := by simpa using hc.2
  simp only [shW, List.length_take]
  omega
theorem DA : ∀ p : List GLw, woL p 0 = []
 | [] => rfl
 | w :: p => by rw [woL, if_pos rfl]
theorem z6 : ∀ (p : List GLw) (n : Int), (∀ w ∈ p, 1 ≤ w.Signs.length) → 2 ≤ n → n ≤ letsI p →
  (∃ P w k, w ∈ p ∧ 2 ≤ k ∧ k ≤ (w.Signs.length : Int) ∧ woL p n = P ++ [shW w k] ∧ woL p (n - 1) = P ++ [shW w (k - 1)]) ∨ ∃ P w, w ∈ p ∧ P ≠ [] ∧ woL p n = P ++ [shW w 1] ∧ woL p (n - 1) = P
 | [], n, _, h2, h3 => by simp only [letsI] at h3; omega
 | w :: p, n, h1, h2, h3 => by
  have hw := h1 w (qZb ..)
  simp only [letsI] at h3
  by_cases hn : n ≤ w.Signs.length
  ·refine .inl ⟨[], w, n, qZb .., h2, hn, ?_, ?_⟩
   ·rw [woL, if_neg (by omega), show minL w n = n by unfold minL; rw [if_neg (by omega)], Int.sub_self, DA]; rfl
   ·rw [woL, if_neg (by omega), show minL w (n - 1) = n - 1 by unfold minL; rw [if_neg (by omega)], Int.sub_self, DA]; rfl
  ·have e1 : woL (w :: p) n = shW w w.Signs.length :: woL p (n - w.Signs.length) := by
    rw [woL, if_neg (by omega), show minL w n = w.Signs.length by unfold minL; rw [if_pos (by omega)]]
   have e2 : woL (w :: p) (n - 1) = shW w w.Signs.length :: woL p (n - w.Signs.length - 1) := by
    rw [woL, if_neg (by omega), show minL w (n - 1) = w.Signs.length by unfold minL; split <;> omega]
    rw [show n - 1 - (w.Signs.length : Int) = n - w.Signs.length - 1 by omega]
   rw [e1, e2]
   by_cases hd : n - w.Signs.length = 1
   ·rw [hd, show (1 : Int) - 1 = 0 from rfl, DA]
    match p, h1, h3 with
    | [], _, h3 => simp only [letsI] at h3; omega
    | v :: q, h1, h3 =>
     have hv := h1 v (by simp)
     refine .inr ⟨[shW w w.Signs.length], v, by simp, by simp, ?_, rfl⟩
     rw [woL, if_neg (by omega), show minL v 1 = 1 by unfold minL; rw [if_neg (by omega)], Int.sub_self, DA]
     rfl
   ·rcases z6 p (n - w.Signs.length) (fun x hx => h1 x (qZa _ hx)) (by omega) (by omega) with ⟨P, v, k, a, b, c, d, e⟩ | ⟨P, v, a, b, d, e⟩
    ·exact .inl ⟨shW w w.Signs.length :: P, v, k, qZa _ a, b, c, by rw [d]; rfl, by rw [e]; rfl⟩
    ·exact .inr ⟨shW w w.Signs.length :: P, v, qZa _ a, by simp, by rw [d]; rfl, by rw [e]⟩
theorem wY (v : GLw) : ∀ (P : List GLw) (i : Int), ltrsL [] (P ++ [v]) i = ltrsL [] P i ++ letW (i + P.length) v.Signs.length v.Signs 0
 | [], i => by simp [ltrsL]
 | w :: P, i => by
  rw [List.cons_append, ltrsL, ltrsL, wY v P (i + 1)]
  simp only [List.contains_nil, cond_false, List.append_assoc, List.length_cons]
  rw [show i + 1 + (P.length : Int) = i + ((P.length + 1 : Nat) : Int) by omega]
theorem DB (v : GLw) : ∀ (P : List GLw) (i : Int), possL [] (P ++ [v]) i = possL [] P i ++ posW (i + P.length) v
 | [], i => by simp [possL]
 | w :: P, i => by
  rw [List.cons_append, possL, possL, DB v P (i + 1)]
  simp only [List.contains_nil, cond_false, List.append_assoc, List.length_cons]
  rw [show i + 1 + (P.length : Int) = i + ((P.length + 1 : Nat) : Int) by omega]
theorem z7 (i al : Int) (b : List Int) : ∀ (a : List Int) (j : Int), letW i al (a ++ b) j = letW i al a j ++ letW i al b (j + a.length)
 | [], j => by simp [letW]
 | c :: a, j => by
  rw [List.cons_append, letW, letW, z7 i al b a (j + 1), List.cons_append, List.length_cons]
  rw [show j + 1 + (a.length : Int) = j + ((a.length + 1 : Nat) : Int) by omega]
theorem z8 (i al al' : Int) : ∀ (a : List Int) (j : Int), j + a.length < al → j + a.length < al' → letW i al a j = letW i al' a j
 | [], _, _, _ => rfl
 | c :: a, j, h1, h2 => by
  simp only [List.length_cons] at h1 h2
  rw [letW, letW, z8 i al al' a (j + 1) (by omega) (by omega), decide_eq_true (by omega), decide_eq_true (by omega)]
theorem z9 {α : Type} {l : List α} (h : l ≠ []) : ∃ a b, l = a ++ [b] := ⟨l.dropLast, l.getLast h, (List.dropLast_concat_getLast h).symm⟩
theorem HH {p : List GLw} {n : Int} (h1 : ∀ w ∈ p, 1 ≤ w.Signs.length) (hc : ∀ w ∈ p, ∀ c ∈ w.Cuts, 1 ≤ c) (h2 : 2 ≤ n) (h3 : n ≤ letsI p) :
  ∃ (h : List FL) (e z : GLe) (c d : Int) (b : Bool), ltrsL [] (woL p n) 0 = h ++ [(e, c, b), (z, d, false)] ∧ ltrsL [] (woL p (n - 1)) 0 = h ++ [(e, c, false)] ∧ ∀ x ∈ possL [] (woL p n) 0, x = z ∨ x ∈ possL [] (woL p (n - 1)) 0 := by
 rcases z6 p n h1 h2 h3 with ⟨P, w, k, a, k1, k2, e1, e2⟩ | ⟨P, w, a, hP, e1, e2⟩
 ·rw [e1, e2, wY, wY, DB, DB]
  obtain ⟨m, rfl⟩ : ∃ m : Nat, k = (m : Int) + 2 := ⟨(k - 2).toNat, by omega⟩
  have hl : (w.Signs.take (m + 2)).length = m + 2 := by rw [List.length_take]; omega
  have dH : (w.Signs.take (m + 1)).length = m + 1 := by rw [List.length_take]; omega
  have s1 : w.Signs.take (m + 1) = w.Signs.take m ++ [w.Signs[m]'(by omega)] := by rw [List.take_succ_eq_append_getElem]
  have s2 : w.Signs.take (m + 2) = w.Signs.take m ++ [w.Signs[m]'(by omega), w.Signs[m + 1]'(by omega)] := by
   rw [List.take_succ_eq_append_getElem (by omega), s1, List.append_assoc]; rfl
  have hm : (w.Signs.take m).length = m := by rw [List.length_take]; omega
  refine ⟨ltrsL [] P 0 ++ letW (0 + P.length) ((m : Int) + 2) (w.Signs.take m) 0, GLe.mk (0 + P.length) ((m : Int) + 1), GLe.mk (0 + P.length) ((m : Int) + 2), w.Signs[m]'(by omega), w.Signs[m + 1]'(by omega), true, ?_, ?_, ?_⟩
  ·have : ((m : Int) + 2).toNat = m + 2 := by omega
   simp only [shW, this, hl]
   rw [s2, z7, List.append_assoc, hm]
   congr 2
   simp only [letW, Int.zero_add]
   rw [decide_eq_true (by omega), decide_eq_false (by omega), show (m : Int) + 1 + 1 = (m : Int) + 2 by omega]
  ·have : ((m : Int) + 2 - 1).toNat = m + 1 := by omega
   simp only [shW, this, dH]
   rw [s1, z7, List.append_assoc, hm, z8 (0 + P.length) ((m + 1 : Nat) : Int) ((m : Int) + 2) _ 0 (by rw [hm]; omega) (by rw [hm]; omega)]
   congr 2
   simp only [letW, Int.zero_add]
   rw [decide_eq_false (by omega)]
  ·intro x hx
   rcases List.mem_append.1 hx with hx | hx
   ·exact .inr (qZf _ hx)
   ·unfold posW at hx
    rcases List.mem_append.1 hx with hx | hx
    ·obtain ⟨c, hcm, rfl⟩ := List.mem_map.1 hx
     have hcm := List.mem_filter.1 hcm
     have hk : c < (m : Int) + 2 := by simpa using hcm.2
     refine .inr (List.mem_append_right _ ?_)
     unfold posW
     by_cases hcc : c < (m : Int) + 2 - 1
     ·exact qZf _ (List.mem_map_of_mem (List.mem_filter.2 ⟨hcm.1, by simpa using hcc⟩))
     ·refine List.mem_append_right _ ?_
      have : ((m : Int) + 2 - 1).toNat = m + 1 := by omega
      simp only [shW, this, dH, List.mem_singleton]
      congr 1
      omega
    ·have : ((m : Int) + 2).toNat = m + 2 := by omega
     simp only [shW, this, hl, List.mem_singleton] at hx
     exact .inl (by rw [hx]; congr 1)
 ·rw [e1, e2, wY, DB]
  have hw := h1 w a
  obtain ⟨Q, v, rfl⟩ := z9 hP
  have hv : 1 ≤ v.Signs.length := by
   have hm : v ∈ woL p (n - 1) := by rw [e2]; simp
   obtain ⟨w', b1, k, b2, b3, rfl⟩ := uQ p (n - 1) (by omega) h1 v hm
   simp only [shW, List.length_take]
   omega
  obtain ⟨l, c, hlc⟩ := z9 (l := v.Signs) (by intro hh; rw [hh] at hv; simp at hv)
  obtain ⟨x0, s1⟩ : ∃ x0, w.Signs.take 1 = [x0] := by
   match w.Signs, hw with
   | x :: q, _ => exact ⟨x, rfl⟩
  have ba : v.Signs.length = l.length + 1 := by rw [hlc]; simp
  refine ⟨ltrsL [] Q 0 ++ letW (0 + Q.length) (v.Signs.length : Int) l 0, GLe.mk (0 + Q.length) ((l.length : Int) + 1), GLe.mk (0 + (Q ++ [v]).length) 1, c, x0, false, ?_, ?_, ?_⟩
  ·have hls : ltrsL [] (Q ++ [v]) 0 = ltrsL [] Q 0 ++ letW (0 + Q.length) (v.Signs.length : Int) l 0 ++ [(GLe.mk (0 + Q.length) ((l.length : Int) + 1), c, false)] := by
    rw [wY]
    conv => lhs; rw [show letW (0 + (Q.length : Int)) (v.Signs.length : Int) v.Signs 0 = letW (0 + (Q.length : Int)) (v.Signs.length : Int) (l ++ [c]) 0 by rw [← hlc]]
    rw [z7, ← List.append_assoc]
    simp only [letW, Int.zero_add]
    rw [decide_eq_false (by rw [ba]; omega)]
   rw [hls]
   simp only [shW, show (1 : Int).toNat = 1 from rfl, s1, letW, List.length_cons, List.length_nil, List.append_assoc, List.cons_append, List.nil_append]
   rfl
  ·rw [wY]
   conv => lhs; rw [show letW (0 + (Q.length : Int)) (v.Signs.length : Int) v.Signs 0 = letW (0 + (Q.length : Int)) (v.Signs.length : Int) (l ++ [c]) 0 by rw [← hlc]]
   rw [z7, ← List.append_assoc]
   simp only [letW, Int.zero_add]
   rw [decide_eq_false (by rw [ba]; omega)]
  ·intro x hx
   rcases List.mem_append.1 hx with hx | hx
   ·exact .inr hx
   ·unfold posW at hx
    rcases List.mem_append.1 hx with hx | hx
    ·obtain ⟨c, hcm, rfl⟩ := List.mem_map.1 hx
     have hcm := List.mem_filter.1 hcm
     have h1 := hc w a c hcm.1
     have h2 : c < 1 := by simpa using hcm.2
     omega
    ·simp only [shW, show (1 : Int).toNat = 1 from rfl, s1, List.mem_singleton] at hx
     exact .inl hx
end Go.V
end
