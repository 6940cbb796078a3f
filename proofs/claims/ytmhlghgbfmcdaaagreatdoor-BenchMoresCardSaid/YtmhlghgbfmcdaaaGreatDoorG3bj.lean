/- Part of a proof. -/
import Derived.Test.YtmhlghgbfmcdaaaGreatDoorG3bi
set_option linter.all false
set_option maxRecDepth 4000
set_option maxHeartbeats 40000000
section
namespace Go.V
open Go Go.Proofs IntKind
def aZ (k : Gbe) : Value := .agg ⟨[.int .i64 k.stroke, .int .i64 k.hours]⟩
def cX (a b : Gbe) : Bool := ((a.stroke == b.stroke) && ((a.hours == b.hours) && true))
def c9 (n : Int) : VV := .lit (.int .i64 n)
theorem nj (a b : Gbe) : aC Tryz.prog (Op.equal 152 (aZ a) (aZ b)) = some (cX a b) := by
 unfold Op.equal
 exact D1 5 152 _ _ _ (by kernel_rfl) 9995
theorem nk (b : Bool) (k : Gbe) : aC Tryz.prog (Instr.checkKey b 10000 152 (aZ k)) = some () := by
 cases b <;> kernel_rfl
theorem jY (a b : Gbe) (h : cX a b = true) : a = b := by
 obtain ⟨astroke, ahours⟩ := a
 obtain ⟨bstroke, bhours⟩ := b
 simp only [cX, Bool.and_true, Bool.and_eq_true, beq_iff_eq] at h
 simp only [h]
theorem ur (a : Gbe) : Instr.sameBits 10000 (aZ a) (aZ a) = true := by
 simp [aZ, Instr.sameBits]
theorem OZ : ((Tryz.prog.info? 3).bind (·.zero)).map ofVal2 = some (c9 0) := by kernel_rfl
theorem nn (k : Gbe) : VV.val? (.agg [.lit (.int .i64 k.stroke), .lit (.int .i64 k.hours)]) = some (aZ k) := rfl
theorem uu {β : Nat} (l : List (Gbe × Int)) (k : Gbe) (H : Nat → Option VObj) (hb : H β = some (.map (encM aZ c9 l))) : vlookup Tryz.prog H 90 (.mp β) (.agg [.lit (.int .i64 k.stroke), .lit (.int .i64 k.hours)]) true = some (.tup [.lit (.int .i64 (mapGet cX 0 l k)), .lit (.bool (mapHas cX l k))]) :=
 Pa Tryz.underlying90 Tryz.underlying152 nj nk OZ (nn k) hb
theorem uv {β : Nat} (l : List (Gbe × Int)) (k : Gbe) (n : Int) (H : Nat → Option VObj) (hb : H β = some (.map (encM aZ c9 l))) : vmapUpdate Tryz.prog H 90 (.mp β) (.agg [.lit (.int .i64 k.stroke), .lit (.int .i64 k.hours)]) (.lit (.int .i64 n)) = some (.upd β (.map (encM aZ c9 (mapSet cX l k n)))) :=
 D2 Tryz.underlying90 Tryz.underlying152 nj nk jY ur (nn k) hb
theorem D3 {c : VV} {cs : List VV} : aD Tryz.prog 90 (c :: cs) = some c := by
 have h1 : aggT Tryz.prog 90 = some false := by kernel_rfl
 simp [aD, aQ, h1]
theorem D4 : szT Tryz.prog 90 = some 1 := by kernel_rfl
theorem ux : vzl Tryz.prog 90 = some [.lit (.map none)] := by kernel_rfl
def mqr := And.intro (And.intro @D5 @D6) True.intro
def mqt := And.intro (And.intro @D3 @D4) @ux
def RoundsM (P : Program) (G : Glob) (β : Nat) (I : Inv) : Prop := ∀ x rest (Fr : Nat → Prop) (H : Nat → Option VObj) (nx δ : Nat), (∀ γ, Fr γ → γ < nx) → δ < nx → ¬ Fr δ → H δ = some (.map []) → I (some (.agg x :: rest)) (fun γ => Fr γ ∨ γ = δ) H nx →
  Yields P G β (.agg (x ++ [.mp δ])) H nx (fun b H' nx' => nx ≤ nx' ∧ (∀ γ, Fr γ → H' γ = H γ) ∧ I (if b then some rest else none) Fr H' nx')
def IterM (P : Program) (G : Glob) (g : VV) (L : List VV) : Prop := ∃ f first captured, g = .fn (.func f) first captured ∧ ∀ (β : Nat) (I : Inv), Stable I → RoundsM P G β I → ∀ (H : Nat → Option VObj) (nx : Nat), β < nx → I (some L) noFr H nx →
  au P G f (first ++ [.yl β] ++ captured) H nx (fun _ H' nx' => I (some []) noFr H' nx' ∨ I none noFr H' nx') (fun _ _ _ => False)
theorem LF {P : Program} {G : Glob} {n : Nat} {Q : VExit → St → Prop} {tm : Nat → VV} {H : Nat → Option VObj} {nx : Nat} {df : List VDef} {g : Operand} {ps : Array Tmp} {az bo : Code} {itv : VV} {L : List VV} (hit : IterM P G itv L) (hg : ev (G.at (some none)) tm g = itv)
    (h : ∀ LO, LO = VObj.loop .ready none (tmL n tm) ps az bo nx → ∃ I : Inv, Stable I ∧ RoundsM P G (nx + 1) I ∧ I (some L) noFr (updH (updH H nx (.deferred (some []))) (nx + 1) LO) (nx + 2) ∧
      ∀ H' nx', I (some []) noFr H' nx' ∨ I none noFr H' nx' → RangeEnd P (G.at (some none)) n Q ⟨tm, H, nx, df⟩ H' nx') : CWp P (G.at (some none)) n (.rangeFunc g ps az bo) Q ⟨tm, H, nx, df⟩ := by
  obtain ⟨f, first, captured, rfl, hv⟩ := hit
  refine LG hg fun LO hL => ?_
  obtain ⟨I, hs, hr, h0, he⟩ := h LO hL
  exact au.mono (hv (nx + 1) I hs hr _ _ (Nat.lt_succ_self _) h0) (fun _ H' nx' hh => he H' nx' hh) (fun _ _ _ hh => hh.elim)
def ug (al : GBk) (ai : Int) (dL : Int) : Option (Bool) := cond (dL == 0) (some true) (Option.bind (getI al.Strokes ai) (fun x1 => some (!x1.Round)))
theorem Pb (al : GBk) (ai : Int) (dL : Int) (R : Bool) (h : ug al ai dL = some R) : ak Tryz.prog G0 104 [.agg (cGBk al), .lit (.int .i64 ai), .lit (.int .i64 dL)] (.tree (.lit (.bool R))) := by
 refine ak.runR mixed Tryz.call104 Tryz.func104 rfl (by simp [Tryz.ntmps104]; kernel_rfl) ?_
 obtain ⟨KF, h, kF, kN⟩ := cV h
 simp only [ug] at h
 cases d2 : (dL == 0)
 ·simp only [d2, hs] at h
  obtain ⟨x3, o4, h⟩ := optI h kN
  try simp only [hs] at h
  try simp only [vz, tyf, d2, (bd o4), nm, seval]
  obtain rfl := kF _ h
  exact br Tryz.results104 rfl
 simp only [d2, hs] at h
 try simp only [vz, tyf, d2, nm, seval]
 obtain rfl := kF _ h
 exact br Tryz.results104 rfl
def wY (cD : List Int) (eY : Int) (iJ : GBk) : Option (Bool) := Option.bind (ug iJ (List.length cD : Int) eY) (fun r1 => some r1)
theorem Pc (cD : List Int) (eY : Int) (iJ : GBk) (R : Bool) (h : wY cD eY iJ = some R) : ak Tryz.prog G0 117 [.sl (ae eI cD) (List.length cD) false, .lit (.int .i64 eY), .tp (cGBk iJ)] (.tree (.lit (.bool R))) := by
 refine ak.runR mixed Tryz.call117 Tryz.func117 rfl (by simp [Tryz.ntmps117]; kernel_rfl) ?_
 obtain ⟨KF, h, kF, kN⟩ := cV h
 simp only [wY] at h
 obtain ⟨r2, o3, h⟩ := optI h kN
 try simp only [hs] at h
 simp only [vz, tyf, nm, seval]
 refine ktA (Pb _ _ _ _ o3) ?_
 refine bS (fun tm => tm 10 = .lit (.bool r2) ∧ True) (by refine ⟨?_, trivial⟩ <;> first | (simp only [ua, nm, seval] <;> rfl) | rfl) ?_
 rintro tm ⟨e4, _⟩
 try simp only [vz, tyf, e4, nm, seval]
 obtain rfl := kF _ h
 exact br Tryz.results117 rfl
def planC (b : GBk) (pl : List Int) : List VV := cGBk b ++ [sI pl]
theorem D7 {b : GBk} {pl : List Int} : treeL (planC b pl) = true := by
  have h1 : treeL (ae eI b.Boards) = true := eI_ok.treeL _
  have h2 : treeL (ae cGBs b.Strokes) = true := eF.treeL _
  have h3 : treeL (ae eI pl) = true := eI_ok.treeL _
  simp [planC, cGBk, treeL, VV.tree, h1, h2, h3]
theorem D8 (b : GBk) (pl : List Int) : NewC Tryz.prog G0 69 [.agg (cGBk b), sI pl] (planC b pl) := by
  refine NewC.of_open D7 ?_
  refine au.run mixed Tryz.call69 Tryz.func69 rfl (by simp [Tryz.ntmps69]; kernel_rfl) ?_
  simp only [vz, mq, mqm, vsi, tyf, mqt, seval, ua]
  refine cn (x := .agg (planC b pl ++ [.mp 4])) (by first | (simp only [Tryz.results69, resV, resL, aR, cw, cv, uw, cr, tyf, mqt, nm, seval] <;> rfl) | rfl) ?_
  exact ⟨4, rfl, by simp [updH]⟩
theorem D9 {mc : List VV} {mf : Nat} {ln lim : Int} (htm : treeL mc = true) : ak Tryz.prog G0 116 [.lit (.int .i64 ln), .lit (.int .i64 lim), .fn (.func mf) [] mc] (.tree (.fn (.func 137) [] [.tp [.lit (.int .i64 ln)], .tp [.lit (.int .i64 lim)], .tp [.fn (.func mf) [] mc]])) := by
  refine ak.run mixed Tryz.call116 Tryz.func116 rfl (by simp [Tryz.ntmps116]; kernel_rfl) ?_
  simp only [vz, tyf, seval, ua, rg]
  refine ⟨rfl, .fn (.func 137) [] [.ptr 0 0, .ptr 1 0, .ptr 2 0], by simp [Tryz.results116, resV, resL, aR, upd], 20, ?_⟩
  simp [sealV, sealL, VV.tree, treeL, updH, htm]
theorem wZ {b : GBk} : treeL (cGBk b) = true := gn.tree b
def plansO (b : GBk) : Option (List (List Int)) := cond (decide (0 < b.Strokes.length) && (decide (b.Strokes.length < 1000) && (decide (0 ≤ b.Apprentices) && decide (b.Apprentices < 1000)))) (listsO (fun p j => wY p j b) (b.Apprentices.toNat + 1) b.Strokes.length []) none
def plV (b : GBk) (p : List Int) : VV := .agg (planC b p)
theorem LH {b : GBk} {L : List (List Int)} (h : plansO b = some L) : IterM Tryz.prog G0 (.fn (.func 115) [] [.tp (cGBk b)]) (L.map (plV b)) := by
  unfold plansO at h
  cases hs : (decide (0 < b.Strokes.length) && (decide (b.Strokes.length < 1000) && (decide (0 ≤ b.Apprentices) && decide (b.Apprentices < 1000)))) with
  | false => rw [hs] at h; cases h
  | true =>
  rw [hs, cond_true] at h
  simp only [Bool.and_eq_true, decide_eq_true_eq] at hs
  obtain ⟨jK, fY, t9, wD⟩ := hs
  have hmc : treeL [VV.tp (cGBk b)] = true := by simp [treeL, VV.tree, wZ]
  have hit := Ax (mc := [.tp (cGBk b)]) (mf := 117) (ln := b.Strokes.length) (lim := b.Apprentices.toNat + 1) hmc jK fY (by omega) h (fun p j t hp => Pc p j b t hp)
  have eA : b.Apprentices + 1 = ((b.Apprentices.toNat + 1 : Nat) : Int) := by omega
  have wA : i64.wrap (b.Apprentices + 1) = ((b.Apprentices.toNat + 1 : Nat) : Int) := by rw [IntWalk.i64_in _ (by omega)]; exact eA
  refine ⟨115, [], _, rfl, fun β I hst hr H nx hβ hI => ?_⟩
  refine au.run mixed Tryz.call115 Tryz.func115 rfl (by simp [Tryz.ntmps115]; kernel_rfl) ?_
  simp only [List.nil_append, List.cons_append, vz, tyf, seval, ua, rg, wA]
  refine ktree (args0 := [.lit (.int .i64 b.Strokes.length), .lit (.int .i64 ((b.Apprentices.toNat + 1 : Nat) : Int)), .fn (.func 117) [] [.tp (cGBk b)]]) ?_ ?_ (D9 hmc) ?_
  · first | (simp only [nrm, aN, kA] <;> rfl) | (simp only [nrm, aN]; done) | rfl
  · have h1 : treeL (cGBk b) = true := wZ
    simp only [kA] at h1
    simp [treeL, VV.tree] at h1 ⊢
    exact h1
  simp only [vz, tyf, seval, ua, rg]
  refine wj (fun tm => tm 13 = .fn (.func 137) [] [.tp [.lit (.int .i64 b.Strokes.length)], .tp [.lit (.int .i64 ((b.Apprentices.toNat + 1 : Nat) : Int))], .tp [.fn (.func 117) [] [.tp (cGBk b)]]] ∧ tm 1 = .tp (cGBk b) ∧ tm 2 = .ptr nx 0) (by refine ⟨?_, ?_, ?_⟩ <;> simp only [ua, seval, Nat.add_zero, kA]) ?_
  rintro tm ⟨bx, e1, e2⟩
  refine DA hit (by first | (simp only [kV, kW, bx, jM, seval] <;> rfl) | rfl) ?_
  intro LO hLO
  obtain ⟨J, hJ⟩ : ∃ J : Option (List VV) → Option (List VV) → List (Nat × VObj) → Prop, J = (fun o o' hp => match o with
    | some l => ∃ (p : List (List Int)), l = p.map sI ∧ o' = some (p.map (plV b)) ∧ hp = [(nx, .cells (some 130) [.yl β]), (nx + 11, .deferred (some [])), (nx + 12, LO)]
    | none => ∃ LD : Code → VObj, (∃ tml ps az bo d, LD = fun c => VObj.loop .done (some c) tml ps az bo d) ∧ o' = none ∧ hp = [(nx, .cells (some 130) [.yl β]), (nx + 11, .deferred (some [])), (nx + 12, LD .ret)]) := ⟨_, rfl⟩
  refine ⟨ownI2 I J, Pd hst, ?_, ?_, ?_⟩
  · rintro v rest Fr H1 b6 hFr ⟨hp, o', hown, hj, hi⟩
    rw [hJ] at hj
    obtain ⟨p, hl, rfl, rfl⟩ := hj
    cases p with
    | nil => cases hl
    | cons e p =>
    simp only [List.map_cons, List.cons.injEq] at hl
    obtain ⟨rfl, rfl⟩ := hl
    obtain ⟨la, na, Ha⟩ := hown.head
    obtain ⟨lb, nb, Hb⟩ := hown.tail.head
    obtain ⟨lc, nc, Hc⟩ := hown.tail.tail.head
    have hfr : ∀ γ, (∃ q ∈ [(nx, .cells (some 130) [.yl β]), (nx + 11, .deferred (some [])), (nx + 12, LO)], (q : Nat × VObj).1 = γ) ↔ γ = nx ∨ γ = nx + 11 ∨ γ = nx + 12 := by
      intro γ
      simp [eq_comm]
    simp only [hfr] at hi
    refine xa mixed (psl := [14]) hLO Hc xb rfl (by kernel_rfl) (by kernel_rfl) ?_
    intro LB LD hLB hLD
    refine xc (fun tm => tm 14 = sI e ∧ tm 1 = .tp (cGBk b) ∧ tm 2 = .ptr nx 0) (by refine ⟨?_, ?_, ?_⟩ <;> simp only [xd, xe, Tryz.ntmps115, e1, e2, seval]) ?_
    clear bx e1 e2
    rintro tm ⟨bC, e1, e2⟩
    have hne : (nx = nx + 12) = False := by simp
    simp only [vz, tyf, @dD, seval, ua, nm, rg, RStart, bC, e1, e2, Ha, Hc, hne]
    refine wj (fun tm => tm 4 = sI e ∧ tm 1 = .tp (cGBk b) ∧ tm 2 = .ptr nx 0) (by refine ⟨?_, ?_, ?_⟩ <;> simp only [ua, seval, e1, e2, bC]) ?_
    clear bC e1 e2 tm
    rintro tm ⟨e4, e1, e2⟩
    refine DB mixed [4] (by kernel_rfl) ?_
    refine DC (k := 4) (by decide) rfl rfl ?_
    simp only [vz, tyf, @dD, seval, ua, nm, rg, e4, e1, e2, Ha, Hc, hne]
    refine dknew ?_ (D8 b e) ?_
    · have h1 : treeL (cGBk b) = true := wZ
      have h2 : treeL (ae eI e) = true := eI_ok.treeL _
      simp only [kA] at h1
      simp [treeL, VV.tree, h2] at h1 ⊢
      exact h1
    simp only [vz, tyf, @dD, seval, ua, nm, rg, e4, e1, e2, Ha, Hc, hne]
    refine kD ⟨?_, ?_⟩
    · simp only [kE, kG, fU, kH, and_true, true_and]
      repeat' (first | exact trivial | refine And.intro ?_ ?_ | rw [fU] | rw [kI] | exact Or.inl (by decide +kernel) | exact Or.inl (by dsimp only; decide +kernel) | (refine Or.inr ⟨?_, ?_⟩ <;> simp; done) | (refine Or.inr ⟨?_, ?_⟩ <;> simp <;> omega) | (refine Or.inr ⟨?_, ?_⟩ <;> simp [VEff.wr] <;> omega))
    simp only [vz, tyf, @dD, seval, ua, nm, rg, JQ, e4, e1, e2, Ha, Hc, hne]
    have Pe : I (some (VV.agg (planC b e) :: p.map (plV b))) (fun γ => (Fr γ ∨ γ = nx ∨ γ = nx + 11 ∨ γ = nx + 12) ∨ γ = b6 + 4) (updH (updH H1 (nx + 12) LB) (b6 + 4) (.map [])) (b6 + 7) := by
      refine hst _ _ _ _ _ _ _ hi ?_ (by omega) ?_
      · intro γ hlt hn
        have g3 : γ ≠ nx + 12 := fun e => hn (.inr (.inr (.inr e)))
        rw [aK, if_neg (by omega), aK, if_neg g3]
      · rintro γ (h | rfl)
        · exact .inl h
        · exact .inr ⟨by omega, by omega⟩
    refine (hr (planC b e) (p.map (plV b)) (fun γ => Fr γ ∨ γ = nx ∨ γ = nx + 11 ∨ γ = nx + 12) _ _ (b6 + 4) ?_ (by omega) ?_ (by rw [aK, if_pos rfl]) Pe) (some (some (nx + 12))) _ _ _ rfl rfl ?_
    · rintro γ (hγ | rfl | rfl | rfl)
      · have := hFr γ hγ; omega
      · omega
      · omega
      · omega
    · rintro (hγ | h | h | h)
      · have := hFr _ hγ; omega
      · omega
      · omega
      · omega
    rintro bb H2 fg ⟨q1, q2, q3⟩
    have Ka : H2 nx = some (.cells (some 130) [.yl β]) := by rw [q2 nx (.inr (.inl rfl))]; rw [aK, if_neg (by omega)]; simp only [aK, seval, hne, Ha]
    have Kb : H2 (nx + 11) = some (.deferred (some [])) := by rw [q2 _ (.inr (.inr (.inl rfl))), aK, if_neg (by omega), aK, if_neg (by omega)]; exact Hb
    have Kc : H2 (nx + 12) = some LB := by rw [q2 _ (.inr (.inr (.inr rfl))), aK, if_neg (by omega), aK, if_pos rfl]
    have KF : ∀ γ, Fr γ → H2 γ = H1 γ := by
      intro γ hγ
      have g3 : γ ≠ nx + 12 := fun e => nc (e ▸ hγ)
      have := hFr γ hγ
      rw [q2 γ (.inl hγ), aK, if_neg (by omega), aK, if_neg g3]
    cases bb with
    | true =>
      refine LI ?_
      simp only [vz, tyf, @dD, seval, ua, nm, rg, Bool.not_true]
      refine ⟨Kc, (show b6 ≤ fg by omega), fun γ hγ => ?_, ?_⟩
      · have g3 : γ ≠ nx + 12 := fun e => nc (e ▸ hγ)
        simp only [updH]
        rw [if_neg g3]
        exact KF γ hγ
      · simp only [if_true] at q3 ⊢
        refine ⟨[(nx, .cells (some 130) [.yl β]), (nx + 11, .deferred (some [])), (nx + 12, LO)], some (p.map (plV b)), Own.cons (show nx < fg by omega) na ?_ (Own.cons (show nx + 11 < fg by omega) nb ?_ (Own.cons (show nx + 12 < fg by omega) nc ?_ Own.nil)), ?_, ?_⟩
        · simp only [aK, seval, hne, Ka]
        · simp only [aK, nm, seval, Kb]
        · simp only [aK, seval]
        · rw [hJ]
          exact ⟨p, rfl, rfl, rfl⟩
        · simp only [hfr]
          refine hst _ _ _ _ _ _ _ q3 ?_ (by omega) (fun γ h => .inl h)
          intro γ _ hn
          have g3 : γ ≠ nx + 12 := fun e => hn (.inr (.inr (.inr e)))
          simp only [updH]
          rw [if_neg g3]
    | false =>
      refine LI ?_
      simp only [vz, tyf, @dD, seval, ua, nm, rg, Bool.not_false]
      refine ⟨Kc, (show b6 ≤ fg by omega), fun γ hγ => ?_, ?_⟩
      · have g3 : γ ≠ nx + 12 := fun e => nc (e ▸ hγ)
        simp only [updH]
        rw [if_neg g3]
        exact KF γ hγ
      · simp only [Bool.false_eq_true, if_false] at q3 ⊢
        have DD : ∀ γ, (∃ q ∈ [(nx, .cells (some 130) [.yl β]), (nx + 11, .deferred (some [])), (nx + 12, LD .ret)], (q : Nat × VObj).1 = γ) ↔ γ = nx ∨ γ = nx + 11 ∨ γ = nx + 12 := by
          intro γ
          simp [eq_comm]
        refine ⟨[(nx, .cells (some 130) [.yl β]), (nx + 11, .deferred (some [])), (nx + 12, LD .ret)], none, Own.cons (show nx < fg by omega) na ?_ (Own.cons (show nx + 11 < fg by omega) nb ?_ (Own.cons (show nx + 12 < fg by omega) nc ?_ Own.nil)), ?_, ?_⟩
        · simp only [aK, seval, hne, Ka]
        · simp only [aK, nm, seval, Kb]
        · simp only [aK, seval]
        · rw [hJ]
          exact ⟨LD, ⟨_, _, _, _, _, hLD⟩, rfl, rfl⟩
        · simp only [DD]
          refine hst _ _ _ _ _ _ _ q3 ?_ (by omega) (fun γ h => .inl h)
          intro γ _ hn
          have g3 : γ ≠ nx + 12 := fun e => hn (.inr (.inr (.inr e)))
          simp only [updH]
          rw [if_neg g3]
  · have hfr : ∀ γ, (∃ q ∈ [(nx, .cells (some 130) [.yl β]), (nx + 11, .deferred (some [])), (nx + 12, LO)], (q : Nat × VObj).1 = γ) ↔ γ = nx ∨ γ = nx + 11 ∨ γ = nx + 12 := by
      intro γ
      simp [eq_comm]
    refine ⟨[(nx, .cells (some 130) [.yl β]), (nx + 11, .deferred (some [])), (nx + 12, LO)], some (L.map (plV b)), Own.cons (show nx < nx + 13 by omega) (fun h => h) ?_ (Own.cons (show nx + 11 < nx + 13 by omega) (fun h => h) ?_ (Own.cons (show nx + 12 < nx + 13 by omega) (fun h => h) ?_ Own.nil)), ?_, ?_⟩
    · simp only [updH]
      rw [if_neg (by omega), if_neg (by omega), if_pos (by omega)]
    · simp only [updH]
      simp
    · simp only [updH]
      simp
    · rw [hJ]
      exact ⟨L, rfl, rfl, rfl⟩
    · simp only [hfr]
      refine hst _ _ _ _ _ _ _ hI ?_ (by omega) ?_
      · intro γ hγ _
        simp only [updH]
        repeat rw [if_neg (by omega)]
      · rintro γ (h | rfl | rfl | rfl)
        · exact h.elim
        · right; omega
        · right; omega
        · right; omega
  · rintro H' nx' (⟨hp, o', hown, hj, hi⟩ | ⟨hp, o', hown, hj, hi⟩)
    · rw [hJ] at hj
      obtain ⟨p, hl, rfl, rfl⟩ := hj
      cases p with
      | cons e p => cases hl
      | nil =>
      obtain ⟨la, na, Ha⟩ := hown.head
      obtain ⟨lb, nb, Hb⟩ := hown.tail.head
      obtain ⟨lc, nc, Hc⟩ := hown.tail.tail.head
      have hfr : ∀ γ, (∃ q ∈ [(nx, .cells (some 130) [.yl β]), (nx + 11, .deferred (some [])), (nx + 12, LO)], (q : Nat × VObj).1 = γ) ↔ γ = nx ∨ γ = nx + 11 ∨ γ = nx + 12 := by
        intro γ
        simp [eq_comm]
      simp only [hfr] at hi
      refine DE hLO Hc ?_
      intro LX
      simp only [vz, tyf, @dD, seval, ua, nm, rg]
      refine DF (by simp only [aK, nm, seval, Hb]) ?_
      refine Kf (x := .tup []) (by simp [Tryz.results115, resV, resL]) (.inl ?_)
      refine hst _ _ _ _ _ _ _ hi ?_ (Nat.le_refl _) (fun γ h => h.elim)
      intro γ _ hn
      have g2 : γ ≠ nx + 11 := fun e => hn (.inr (.inr (.inl e)))
      have g3 : γ ≠ nx + 12 := fun e => hn (.inr (.inr (.inr e)))
      simp only [updH]
      repeat rw [if_neg (by first | assumption | omega)]
    · rw [hJ] at hj
      obtain ⟨LD, ⟨tml, ps, az, bo, d, hLD⟩, rfl, rfl⟩ := hj
      obtain ⟨la, na, Ha⟩ := hown.head
      obtain ⟨lb, nb, Hb⟩ := hown.tail.head
      obtain ⟨lc, nc, Hc⟩ := hown.tail.tail.head
      have hfr : ∀ γ, (∃ q ∈ [(nx, .cells (some 130) [.yl β]), (nx + 11, .deferred (some [])), (nx + 12, LD .ret)], (q : Nat × VObj).1 = γ) ↔ γ = nx ∨ γ = nx + 11 ∨ γ = nx + 12 := by
        intro γ
        simp [eq_comm]
      simp only [hfr] at hi
      refine Pf hLD Hc ?_
      intro LX
      simp only [vz, tyf, @dD, seval, ua, nm, rg]
      refine DG (by simp only [aK, nm, seval, Hb]) ?_
      refine cn (x := .tup []) (by simp [Tryz.results115, resV, resL]) (.inr ?_)
      refine hst _ _ _ _ _ _ _ hi ?_ (Nat.le_refl _) (fun γ h => h.elim)
      intro γ _ hn
      have g2 : γ ≠ nx + 11 := fun e => hn (.inr (.inr (.inl e)))
      have g3 : γ ≠ nx + 12 := fun e => hn (.inr (.inr (.inr e)))
      simp only [updH]
      repeat rw [if_neg (by first | assumption | omega)]
def pC (rc : GBk → (List Int) → Int → Int → (List (Gbe × Int)) → Option ((Int) × List (Gbe × Int))) (aa : GBk) (ah : List Int) (ai : Int) (ag : Int) (l0 : List (Gbe × Int)) : Nat → Int → Option (LOut ((Int) × List (Gbe × Int)) (Int))
 | 0, _ => none
 | k0 + 1, dI => cond (decide (dI ≥ 0)) (Option.bind (getI ah dI) (fun x1 => Option.bind (getI ah ai) (fun x2 => cond (x1 == x2) (Option.bind (rc aa ah dI ag l0) (fun r3 => some (.ret (r3.1, r3.2)))) (pC rc aa ah ai ag l0 k0 (i64.wrap (dI - 1)))))) (some (.go dI))
def uy (rc : GBk → (List Int) → Int → Int → (List (Gbe × Int)) → Option ((Int) × List (Gbe × Int))) (aa : GBk) (ah : List Int) (ai : Int) (ag : Int) (l0 : List (Gbe × Int)) : Option ((Int) × List (Gbe × Int)) := lbind (pC rc aa ah ai ag l0 1000000 (i64.wrap (ai - 1))) (fun r5 => some r5) (fun c4 => some (0, l0)) (fun _ _ => none)
theorem Pg (rc : GBk → (List Int) → Int → Int → (List (Gbe × Int)) → Option ((Int) × List (Gbe × Int))) (rc_ok : ∀ (aa : GBk) (ah : List Int) (ai : Int) (ag : Int) (l0 : List (Gbe × Int)) (R : (Int) × List (Gbe × Int)), rc aa ah ai ag l0 = some R → VUpd Tryz.prog G0 118 (fun β => [.agg [.lit (.int .i64 aa.Apprentices), .sl (ae eI aa.Boards) (List.length aa.Boards) false, .sl (ae cGBs aa.Strokes) (List.length aa.Strokes) false, .sl (ae eI ah) (List.length ah) false, .mp β], .lit (.int .i64 ai), .lit (.int .i64 ag)]) (encM aZ c9 l0) (encM aZ c9 R.2) (fun _ => .lit (.int .i64 R.1))) (aa : GBk) (ah : List Int) (ai : Int) (ag : Int) (l0 : List (Gbe × Int)) (R : (Int) × List (Gbe × Int)) (h : uy rc aa ah ai ag l0 = some R) : VUpd Tryz.prog G0 108 (fun β => [.agg [.lit (.int .i64 aa.Apprentices), .sl (ae eI aa.Boards) (List.length aa.Boards) false, .sl (ae cGBs aa.Strokes) (List.length aa.Strokes) false, .sl (ae eI ah) (List.length ah) false, .mp β], .lit (.int .i64 ai), .lit (.int .i64 ag)]) (encM aZ c9 l0) (encM aZ c9 R.2) (fun _ => .lit (.int .i64 R.1)) := by
 intro bA nx hlt
 have bp := fK (β := bA) (nx := nx) hlt
 refine au.run mixed Tryz.call108 Tryz.func108 rfl (by simp [Tryz.ntmps108]; kernel_rfl) ?_
 obtain ⟨KF, h, kF, kN⟩ := cV h
 simp only [uy] at h
 simp only [vz, mq, mqm, vsi, tyf, mqt, bp, nm, seval]
 obtain ⟨K6, h, Ph, Pj, Tf, xf⟩ := fZ h kN
 obtain ⟨f6, Pk, h⟩ := call2 h
 obtain ⟨I6, DH⟩ : ∃ I : Nat → St → Prop, I = (fun m st => ∃ (p6 : Nat) (jf : Int), p6 = m ∧ st.df = [] ∧ nx + 5 ≤ st.nx ∧ st.H bA = some (.map (encM aZ c9 l0)) ∧ st.H nx = some (.cells (some 92) ((cGBk aa) ++ [.sl (ae eI ah) (List.length ah) false] ++ [.mp bA])) ∧ st.tm 1 = .lit (.int .i64 ai) ∧ st.tm 2 = .lit (.int .i64 ag) ∧ st.tm 3 = .ptr nx 0 ∧ st.tm 7 = .lit (.int .i64 jf) ∧ K6 (f6 p6 jf)) := ⟨_, rfl⟩
 refine loopK mixed (by kernel_rfl) I6 1000000 (by rw [DH]; refine ⟨1000000, i64.wrap (ai - 1), rfl, rfl, (show nx + 5 ≤ nx + 5 by omega), ?_, ?_, ?_, ?_, ?_, ?_, h⟩ <;> first | (simp only [ua, cI, bp, nm, seval] <;> rfl) | rfl) ?_
 rintro m ⟨tm, H, DI, df⟩ hinv
 rw [DH] at hinv
 obtain ⟨p6, jf, rfl, hdf, Pl, H7, H8, e9, bB, bT, bJ, h⟩ := hinv
 simp only at hdf Pl H7 H8 e9 bB bT bJ
 have pD := jz (a := nx) (m := 5) (b := DI) (by omega)
 have ic := fK (β := bA) (nx := DI) (by omega)
 subst hdf Pk
 cases p6 with
 | zero =>
  simp only [pC, hs, reduceCtorEq] at h
  exact absurd h xf
 | succ p6 =>
  simp only [pC, hs, reduceCtorEq] at h
  cases dS : (decide (jf ≥ 0))
  ·simp only [dS, hs] at h
   replace h := Pj _ h
   try dsimp only at h
   try simp only [hs] at h
   try simp only [vz, mq, mqm, vsi, tyf, mqt, bp, pD, ic, e9, bB, bT, bJ, H7, H8, dS, nm, seval]
   refine cn (x := (.lit (.int .i64 0))) (by first | (simp only [Tryz.results108, resV, resL, aR, cw, cv, uw, cr, tyf, mqt, bp, pD, ic, H7, H8, dS, nm, seval] <;> rfl) | rfl) ?_
   obtain rfl := kF _ h
   refine ⟨(by first | rfl | assumption | (simp only [aK, bk, bp, pD, ic, H7, H8, nm, seval] <;> rfl)), ?_⟩
   exact sq_of (lX (by simp only [tre, tytre, mqr, Bool.and_self]) rfl)
  simp only [dS, hs] at h
  simp only [vz, mq, mqm, vsi, tyf, mqt, bp, pD, ic, e9, bB, bT, bJ, H7, H8, dS, nm, seval]
  refine kL (fun tm => tm 1 = .lit (.int .i64 ai) ∧ tm 2 = .lit (.int .i64 ag) ∧ tm 3 = .ptr nx 0 ∧ tm 7 = .lit (.int .i64 jf) ∧ True) (by refine ⟨e9, bB, bT, bJ, trivial⟩ <;> first | (simp only [ua, cI, bp, pD, ic, e9, bB, bT, bJ, H7, H8, dS, nm, seval] <;> rfl) | rfl) ?_
  rintro tm ⟨bF, cq, db, cO, _⟩
  obtain ⟨Pm, xg, h⟩ := optI h xf
  try simp only [hs] at h
  obtain ⟨Pn, iH, h⟩ := optI h xf
  try simp only [hs] at h
  cases fw : (Pm == Pn)
  ·simp only [fw, hs] at h
   have DJ := And.intro bp (And.intro pD (And.intro ic (And.intro H7 (And.intro H8 (And.intro dS fw)))))
   simp only [vz, mq, mqm, vsi, tyf, mqt, DJ, bF, cq, db, cO, (aY xg), (aY iH), nm, seval]
   exact ⟨p6, Nat.lt_succ_self _, by rw [DH]; refine ⟨p6, i64.wrap (jf - 1), rfl, rfl, (show nx + 5 ≤ DI + 16 by omega), ?_, ?_, bF, cq, db, ?_, (by first | exact h | (simp only [DJ]; exact h))⟩ <;> first | (simp only [ua, cI, DJ, bF, cq, db, cO, nm, seval] <;> rfl) | rfl⟩
  simp only [fw, hs] at h
  have rh := And.intro bp (And.intro pD (And.intro ic (And.intro H7 (And.intro H8 (And.intro dS fw)))))
  obtain ⟨DK, Po, h⟩ := optI h xf
  try simp only [hs] at h
  simp only [vz, mq, mqm, vsi, tyf, mqt, rh, bF, cq, db, cO, (aY xg), (aY iH), nm, seval]
  refine kupd (VUpd.at (β := bA) (y := (fun _ => .lit (.int .i64 DK.1))) (rc_ok _ _ _ _ _ _ Po) (by omega) (by first | rfl | assumption | (simp only [aK, bk, rh, nm, seval] <;> rfl)) (by first | rfl | (simp only [nrm, aN, @fm, @iK] <;> rfl)) (iv (fun _ => rfl) _)) ?_
  refine iL (fun tm => tm 28 = .lit (.int .i64 DK.1) ∧ True) (by refine ⟨?_, trivial⟩ <;> first | (simp only [ua, cI, rh, bF, cq, db, cO, nm, seval] <;> rfl) | rfl) ?_
  rintro tm ⟨eW, _⟩
  try simp only [vz, mq, mqm, vsi, tyf, mqt, rh, (aY xg), (aY iH), eW, nm, seval]
  refine cn (x := (.lit (.int .i64 DK.1))) (by first | (simp only [Tryz.results108, resV, resL, aR, cw, cv, uw, cr, tyf, mqt, rh, (aY xg), (aY iH), nm, seval] <;> rfl) | rfl) ?_
  replace h := Ph _ h
  try dsimp only at h
  obtain rfl := kF _ h
  refine ⟨(by first | rfl | assumption | (simp only [aK, bk, rh, nm, seval] <;> rfl)), ?_⟩
  exact sq_of (lX (by simp only [tre, tytre, mqr, Bool.and_self]) rfl)
def ri  : List Int → Int → Int → Option (LOut (Int) (Int))
 | [], gw, cC => some (.go cC)
 | e0 :: p0, gw, cC => ri p0 (gw + 1) (if cC < e0 then e0 else cC)
def pE (bn : List Int) : Option (Int) := cond (aO bn) (lbind (ri bn 0 0) (fun r2 => some r2) (fun c1 => some c1) (fun _ _ => none)) none
theorem DL (bn : List Int) (R : Int) (h : pE bn = some R) : ak Tryz.prog G0 105 [.sl (ae eI bn) (List.length bn) false] (.tree (.lit (.int .i64 R))) := by
 refine ak.runR mixed Tryz.call105 Tryz.func105 rfl (by simp [Tryz.ntmps105]; kernel_rfl) ?_
 obtain ⟨KF, h, kF, kN⟩ := cV h
 simp only [pE] at h
 cases g4 : (aO bn)
 ·simp only [g4, hs] at h
  exact absurd h kN
 simp only [g4, hs] at h
 simp only [vz, tyf, g4, nm, seval]
 obtain ⟨K3, h, qW, jR, wO, mV⟩ := fZ h kN
 obtain ⟨f3, lN, h⟩ := call3 h
 obtain ⟨I3, fx⟩ : ∃ I : Nat → St → Prop, I = (fun m st => ∃ (p3 : List Int) (gS : Int) (ck : Int), m = List.length p3 ∧ 0 ≤ gS ∧ List.drop (Int.toNat gS) bn = p3 ∧ st.df = [] ∧ 5 ≤ st.nx ∧ st.tm 6 = .sl (ae eI bn) (List.length bn) false ∧ st.tm 7 = .lit (.int .i64 (List.length bn : Int)) ∧ st.tm 3 = .lit (.int .i64 ck) ∧ st.tm 8 = .lit (.int .i64 gS) ∧ K3 (f3 p3 gS ck)) := ⟨_, rfl⟩
 refine loopK mixed (by kernel_rfl) I3 (List.length bn) (by rw [fx]; refine ⟨bn, 0, 0, rfl, Int.le_refl _, rfl, rfl, (show 5 ≤ 5 by omega), ?_, ?_, ?_, ?_, h⟩ <;> first | (simp only [ua, nm, seval] <;> rfl) | rfl) ?_
 rintro m ⟨tm, H, eN, df⟩ hinv
 rw [fx] at hinv
 obtain ⟨p3, gS, ck, rfl, cu, cQ, hdf, lO, e5, e6, e7, e8, h⟩ := hinv
 simp only at hdf lO e5 e6 e7 e8
 have n9 := eR (m := 5) (b := eN) (by omega)
 subst hdf lN
 cases p3 with
 | nil =>
  have gM : (decide (gS < (List.length bn : Int))) = false := ga cu cQ
  simp only [ri, hs, reduceCtorEq] at h
  replace h := jR _ h
  try dsimp only at h
  try simp only [hs] at h
  try simp only [vz, tyf, g4, n9, e5, e6, e7, e8, gM, nm, seval]
  refine cn (x := (.lit (.int .i64 ck))) (by first | (simp only [Tryz.results105, resV, resL, aR, cw, cv, uw, cr, tyf, g4, n9, gM, nm, seval] <;> rfl) | rfl) ?_
  obtain rfl := kF _ h
  refine eJ ?_ ?_
  ·simp only [tre, tytre, Bool.and_self]
  ·first | (simp only [outV, uw, eD, cr, tyf, nrm, aN, g4, n9, e5, e6, e7, e8, gM, nm, seval] <;> rfl) | rfl
 | cons e3 p3 =>
  have gu : (decide (gS < (List.length bn : Int))) = true := gb cu cQ
  have kP := eT cu cQ
  have ph := fG cu cQ g4
  simp only [ri, hs, reduceCtorEq] at h
  simp only [vz, tyf, g4, n9, e5, e6, e7, e8, gu, (aY kP), ph, nm, seval]
  exact ⟨List.length p3, Nat.lt_succ_self _, by rw [fx]; refine ⟨p3, gS + 1, (if ck < e3 then e3 else ck), rfl, Int.le_trans cu (Int.le_add_one (Int.le_refl _)), cG cu cQ, rfl, (show 5 ≤ eN + 10 by omega), e5, e6, ?_, ?_, (by first | exact h | (simp only [gu]; exact h))⟩ <;> first | (simp only [ua, n9, e5, e6, e7, e8, gu, ph, nm, seval] <;> rfl) | rfl⟩
def lY (rc : GBk → (List Int) → Int → Int → (List (Gbe × Int)) → Option ((Int) × List (Gbe × Int))) (aa : GBk) (ah : List Int) (ag : Int) : List Int → Int → (List Int) → (List (Gbe × Int)) → Option (LOut ((List Int) × List (Gbe × Int)) ((List Int) × (List (Gbe × Int))))
 | [], gg, dI, cl => some (.go (dI, cl))
 | e0 :: p0, gg, dI, cl => Option.bind (rc aa ah e0 ag cl) (fun r2 => cond (aE 8 (List.length (dI ++ [r2.1]))) (lY rc aa ah ag p0 (gg + 1) (dI ++ [r2.1]) r2.2) none)
def uz (rc : GBk → (List Int) → Int → Int → (List (Gbe × Int)) → Option ((Int) × List (Gbe × Int))) (aa : GBk) (ah : List Int) (aG : List Int) (ag : Int) (l0 : List (Gbe × Int)) : Option ((List Int) × List (Gbe × Int)) := cond (aO aG) (lbind (lY rc aa ah ag aG 0 ([] : List Int) l0) (fun r4 => some r4) (fun c3 => some (c3.1, c3.2)) (fun _ _ => none)) none
theorem Pp (rc : GBk → (List Int) → Int → Int → (List (Gbe × Int)) → Option ((Int) × List (Gbe × Int))) (rc_ok : ∀ (aa : GBk) (ah : List Int) (ai : Int) (ag : Int) (l0 : List (Gbe × Int)) (R : (Int) × List (Gbe × Int)), rc aa ah ai ag l0 = some R → VUpd Tryz.prog G0 118 (fun β => [.agg [.lit (.int .i64 aa.Apprentices), .sl (ae eI aa.Boards) (List.length aa.Boards) false, .sl (ae cGBs aa.Strokes) (List.length aa.Strokes) false, .sl (ae eI ah) (List.length ah) false, .mp β], .lit (.int .i64 ai), .lit (.int .i64 ag)]) (encM aZ c9 l0) (encM aZ c9 R.2) (fun _ => .lit (.int .i64 R.1))) (aa : GBk) (ah : List Int) (aG : List Int) (ag : Int) (l0 : List (Gbe × Int)) (R : (List Int) × List (Gbe × Int)) (h : uz rc aa ah aG ag l0 = some R) : VUpd Tryz.prog G0 106 (fun β => [.agg [.lit (.int .i64 aa.Apprentices), .sl (ae eI aa.Boards) (List.length aa.Boards) false, .sl (ae cGBs aa.Strokes) (List.length aa.Strokes) false, .sl (ae eI ah) (List.length ah) false, .mp β], .sl (ae eI aG) (List.length aG) false, .lit (.int .i64 ag)]) (encM aZ c9 l0) (encM aZ c9 R.2) (fun _ => .sl (ae eI R.1) (List.length R.1) false) := by
 intro bA nx hlt
 have bp := fK (β := bA) (nx := nx) hlt
 refine au.run mixed Tryz.call106 Tryz.func106 rfl (by simp [Tryz.ntmps106]; kernel_rfl) ?_
 obtain ⟨KF, h, kF, kN⟩ := cV h
 simp only [uz] at h
 cases g6 : (aO aG)
 ·simp only [g6, hs] at h
  exact absurd h kN
 simp only [g6, hs] at h
 simp only [vz, mq, mqm, vsi, tyf, mqt, bp, g6, nm, seval]
 obtain ⟨K5, h, Le, wJ, Ol, qR⟩ := fZ h kN
 obtain ⟨f5, C4, h⟩ := call4 h
 obtain ⟨I5, mR⟩ : ∃ I : Nat → St → Prop, I = (fun m st => ∃ (p5 : List Int) (cE : Int) (bU : List Int) (jZ : List (Gbe × Int)) (lZ : VV), m = List.length p5 ∧ 0 ≤ cE ∧ List.drop (Int.toNat cE) aG = p5 ∧ st.df = [] ∧ nx + 6 ≤ st.nx ∧ st.H bA = some (.map (encM aZ c9 jZ)) ∧ st.H nx = some (.cells (some 92) ((cGBk aa) ++ [.sl (ae eI ah) (List.length ah) false] ++ [.mp bA])) ∧ st.tm 2 = .lit (.int .i64 ag) ∧ st.tm 3 = .ptr nx 0 ∧ st.tm 10 = .sl (ae eI aG) (List.length aG) false ∧ st.tm 11 = .lit (.int .i64 (List.length aG : Int)) ∧ st.tm 7 = lZ ∧ st.tm 12 = .lit (.int .i64 cE) ∧ ((∃ (β : Nat) (el : Option TypeId), lZ = .ref β 0 (List.length bU) 1 (List.length bU) ∧ β < st.nx ∧ β ≠ bA ∧ β ≠ nx ∧ st.H β = some (.cells el (ae eI bU))) ∨ (lZ = .lit (.slice none 0 0) ∧ bU = [])) ∧ K5 (f5 p5 cE bU jZ)) := ⟨_, rfl⟩
 refine loopK mixed (by kernel_rfl) I5 (List.length aG) (by rw [mR]; refine ⟨aG, 0, ([] : List Int), l0, .lit (.slice none 0 0), rfl, Int.le_refl _, rfl, rfl, (show nx + 6 ≤ nx + 6 by omega), ?_, ?_, ?_, ?_, ?_, ?_, ?_, ?_, Or.inr ⟨rfl, rfl⟩, h⟩ <;> first | (simp only [ua, cI, bp, nm, seval] <;> rfl) | rfl) ?_
 rintro m ⟨tm, H, jN, df⟩ hinv
 rw [mR] at hinv
 obtain ⟨p5, cE, bU, jZ, lZ, rfl, gq, hY, hdf, C5, H7, H8, e9, bB, bT, bJ, bx, bC, np, h⟩ := hinv
 simp only at hdf C5 H7 H8 e9 bB bT bJ bx bC np
 have eZ := jz (a := nx) (m := 6) (b := jN) (by omega)
 have fa := fK (β := bA) (nx := jN) (by omega)
 subst hdf C4
 rcases np with ⟨u3, nq, rfl, DM, pF, pG, ma⟩ | ⟨rfl, rfl⟩
 ·have md := fK DM
  have ig := ne_f pF
  have ij := ne_f pG
  cases p5 with
  | nil =>
   have jP : (decide (cE < (List.length aG : Int))) = false := ga gq hY
   simp only [lY, hs, reduceCtorEq] at h
   replace h := wJ _ h
   try dsimp only at h
   try simp only [hs] at h
   try simp only [vz, mq, mqm, vsi, tyf, mqt, bp, g6, eZ, fa, e9, bB, bT, bJ, bx, bC, H7, H8, md, ma, ig, ij, jP, nm, seval]
   refine cn (x := (.ref u3 0 (List.length bU) 1 (List.length bU))) (by first | (simp only [Tryz.results106, resV, resL, aR, cw, cv, uw, cr, tyf, mqt, bp, g6, eZ, fa, H7, H8, md, ma, ig, ij, jP, nm, seval] <;> rfl) | rfl) ?_
   obtain rfl := kF _ h
   refine ⟨(by first | rfl | assumption | (simp only [aK, bk, bp, eZ, fa, H7, H8, md, ma, ig, ij, nm, seval] <;> rfl)), ?_⟩
   exact DN (by first | rfl | assumption | (simp only [aK, bk, bp, eZ, fa, H7, H8, md, ma, ig, ij, nm, seval] <;> rfl)) (by first | rfl | assumption | (simp only [aK, bk, bp, eZ, fa, H7, H8, md, ma, ig, ij, nm, seval] <;> rfl)) eI_ok (fun _ => rfl)
  | cons e5 p5 =>
   have pH : (decide (cE < (List.length aG : Int))) = true := gb gq hY
   have fL := eT gq hY
   have ka := fG gq hY g6
   simp only [lY, hs, reduceCtorEq] at h
   obtain ⟨kc, kX, h⟩ := optI h qR
   try simp only [hs] at h
   simp only [vz, mq, mqm, vsi, tyf, mqt, bp, g6, eZ, fa, e9, bB, bT, bJ, bx, bC, H7, H8, md, ma, ig, ij, pH, (aY fL), ka, nm, seval]
   refine kupd (VUpd.at (β := bA) (y := (fun _ => .lit (.int .i64 kc.1))) (rc_ok _ _ _ _ _ _ kX) (by omega) (by first | rfl | assumption | (simp only [aK, bk, bp, eZ, fa, H7, H8, md, ma, ig, ij, nm, seval] <;> rfl)) (by first | rfl | (simp only [nrm, aN, @fm, @iK] <;> rfl)) (iv (fun _ => rfl) _)) ?_
   refine iL (fun tm => tm 2 = .lit (.int .i64 ag) ∧ tm 3 = .ptr nx 0 ∧ tm 10 = .sl (ae eI aG) (List.length aG) false ∧ tm 11 = .lit (.int .i64 (List.length aG : Int)) ∧ tm 12 = .lit (.int .i64 cE) ∧ tm 16 = .ref u3 0 (List.length bU) 1 (List.length bU) ∧ tm 20 = .lit (.int .i64 kc.1) ∧ True) (by refine ⟨e9, bB, bT, bJ, bC, ?_, ?_, trivial⟩ <;> first | (simp only [ua, cI, bp, eZ, fa, e9, bB, bT, bJ, bx, bC, H7, H8, md, ma, ig, ij, pH, ka, nm, seval] <;> rfl) | rfl) ?_
   rintro tm ⟨bV, eC, eW, dR, bW, cB, bz, _⟩
   have jv := And.intro bp (And.intro g6 (And.intro eZ (And.intro fa (And.intro H7 (And.intro H8 (And.intro md (And.intro ma (And.intro ig (And.intro ij (And.intro pH ka))))))))))
   cases iu : (aE 8 (List.length (bU ++ [kc.1])))
   ·simp only [iu, hs] at h
    exact absurd h qR
   simp only [iu, hs] at h
   simp only [vz, mq, mqm, vsi, tyf, mqt, jv, (aY fL), bV, eC, eW, dR, bW, cB, bz, iu, nm, seval]
   refine k_app (w := 1) (enc := eI) (xs := bU) (ys := ([kc.1])) (el := nq) (dE := (some 3)) (fun _ => rfl) dC de Tryz.underlying22 (by first | rfl | assumption | (simp only [aK, bk, cT, jv, nm, seval] <;> rfl) | (simp only [aK, bk, fq, fz, fE, fF, tyf, mqt, jv, (aY fL), bV, eC, eW, dR, bW, cB, bz, iu, nm, seval]; done)) (by first | rfl | assumption | (simp only [aK, bk, cT, jv, nm, seval] <;> rfl) | (simp only [aK, bk, fq, fz, fE, fF, tyf, mqt, jv, (aY fL), bV, eC, eW, dR, bW, cB, bz, iu, nm, seval]; done)) (Nat.zero_lt_succ _) iu ?_
   simp only [vz, mq, mqm, vsi, tyf, mqt, jv, (aY fL), bV, eC, eW, dR, bW, cB, bz, iu, nm, seval]
   exact ⟨List.length p5, Nat.lt_succ_self _, by rw [mR]; refine ⟨p5, cE + 1, (bU ++ [kc.1]), kc.2, .ref (jN + 10) 0 (List.length (bU ++ [kc.1])) 1 (List.length (bU ++ [kc.1])), rfl, Int.le_trans gq (Int.le_add_one (Int.le_refl _)), cG gq hY, rfl, (show nx + 6 ≤ jN + 14 by omega), ?_, ?_, bV, eC, eW, dR, ?_, ?_, Or.inl ⟨jN + 10, (sameEl nq 3), rfl, (by first | omega | (simp only [nm, seval]; done) | (simp only [nm, seval]; omega)), (by first | omega | (intro hh; simp only [jv, reduceCtorEq] at hh)), (by first | omega | (intro hh; simp only [jv, reduceCtorEq] at hh)), ?_⟩, (by first | exact h | (simp only [jv]; exact h))⟩ <;> first | (simp only [ua, cI, jv, bV, eC, eW, dR, bW, cB, bz, nm, seval] <;> rfl) | rfl⟩
 ·cases p5 with
  | nil =>
   have LJ : (decide (cE < (List.length aG : Int))) = false := ga gq hY
   simp only [lY, hs, reduceCtorEq] at h
   replace h := wJ _ h
   try dsimp only at h
   try simp only [hs] at h
   try simp only [vz, mq, mqm, vsi, tyf, mqt, bp, g6, eZ, fa, e9, bB, bT, bJ, bx, bC, H7, H8, LJ, nm, seval]
   refine cn (x := (.lit (.slice none 0 0))) (by first | (simp only [Tryz.results106, resV, resL, aR, cw, cv, uw, cr, tyf, mqt, bp, g6, eZ, fa, H7, H8, LJ, nm, seval] <;> rfl) | rfl) ?_
   obtain rfl := kF _ h
   refine ⟨(by first | rfl | assumption | (simp only [aK, bk, bp, eZ, fa, H7, H8, nm, seval] <;> rfl)), ?_⟩
   exact sq_of DO
  | cons e5 p5 =>
   have iw : (decide (cE < (List.length aG : Int))) = true := gb gq hY
   have xh := eT gq hY
   have DP := fG gq hY g6
   simp only [lY, hs, reduceCtorEq] at h
   obtain ⟨nr, mY, h⟩ := optI h qR
   try simp only [hs] at h
   simp only [vz, mq, mqm, vsi, tyf, mqt, bp, g6, eZ, fa, e9, bB, bT, bJ, bx, bC, H7, H8, iw, (aY xh), DP, nm, seval]
   refine kupd (VUpd.at (β := bA) (y := (fun _ => .lit (.int .i64 nr.1))) (rc_ok _ _ _ _ _ _ mY) (by omega) (by first | rfl | assumption | (simp only [aK, bk, bp, eZ, fa, H7, H8, nm, seval] <;> rfl)) (by first | rfl | (simp only [nrm, aN, @fm, @iK] <;> rfl)) (iv (fun _ => rfl) _)) ?_
   refine iL (fun tm => tm 2 = .lit (.int .i64 ag) ∧ tm 3 = .ptr nx 0 ∧ tm 10 = .sl (ae eI aG) (List.length aG) false ∧ tm 11 = .lit (.int .i64 (List.length aG : Int)) ∧ tm 12 = .lit (.int .i64 cE) ∧ tm 16 = .lit (.slice none 0 0) ∧ tm 20 = .lit (.int .i64 nr.1) ∧ True) (by refine ⟨e9, bB, bT, bJ, bC, ?_, ?_, trivial⟩ <;> first | (simp only [ua, cI, bp, eZ, fa, e9, bB, bT, bJ, bx, bC, H7, H8, iw, DP, nm, seval] <;> rfl) | rfl) ?_
   rintro tm ⟨dr, dt, d4, ei, eO, d6, dc, _⟩
   have nt := And.intro bp (And.intro g6 (And.intro eZ (And.intro fa (And.intro H7 (And.intro H8 (And.intro iw DP))))))
   cases rj : (aE 8 (List.length (([] : List Int) ++ [nr.1])))
   ·simp only [rj, hs] at h
    exact absurd h qR
   simp only [rj, hs] at h
   simp only [vz, mq, mqm, vsi, tyf, mqt, nt, (aY xh), dr, dt, d4, ei, eO, d6, dc, rj, nm, seval]
   refine jG (w := 1) (enc := eI) (ys := ([nr.1])) (dE := (some 3)) (fun _ => rfl) dC de Tryz.underlying22 (by first | rfl | assumption | (simp only [aK, bk, cT, nt, nm, seval] <;> rfl) | (simp only [aK, bk, fq, fz, fE, fF, tyf, mqt, nt, (aY xh), dr, dt, d4, ei, eO, d6, dc, rj, nm, seval]; done)) (Nat.zero_lt_succ _) rj ?_
   simp only [vz, mq, mqm, vsi, tyf, mqt, nt, (aY xh), dr, dt, d4, ei, eO, d6, dc, rj, nm, seval]
   exact ⟨List.length p5, Nat.lt_succ_self _, by rw [mR]; refine ⟨p5, cE + 1, (([] : List Int) ++ [nr.1]), nr.2, .ref (jN + 10) 0 (List.length (([] : List Int) ++ [nr.1])) 1 (List.length (([] : List Int) ++ [nr.1])), rfl, Int.le_trans gq (Int.le_add_one (Int.le_refl _)), cG gq hY, rfl, (show nx + 6 ≤ jN + 14 by omega), ?_, ?_, dr, dt, d4, ei, ?_, ?_, Or.inl ⟨jN + 10, (some 3), rfl, (by first | omega | (simp only [nm, seval]; done) | (simp only [nm, seval]; omega)), (by first | omega | (intro hh; simp only [nt, reduceCtorEq] at hh)), (by first | omega | (intro hh; simp only [nt, reduceCtorEq] at hh)), ?_⟩, (by first | exact h | (simp only [nt]; exact h))⟩ <;> first | (simp only [ua, cI, nt, dr, dt, d4, ei, eO, d6, dc, nm, seval] <;> rfl) | rfl⟩
def u4 (rc : GBk → (List Int) → Int → Int → (List (Gbe × Int)) → Option ((Int) × List (Gbe × Int))) (aa : GBk) (ah : List Int) (ai : Int) (ag : Int) (l0 : List (Gbe × Int)) : Option ((Int) × List (Gbe × Int)) := Option.bind (uy rc aa ah ai ag l0) (fun r1 => Option.bind (getI aa.Strokes ai) (fun x2 => Option.bind (uz rc aa ah x2.Needs ag r1.2) (fun r3 => Option.bind (pE r3.1) (fun r4 => Option.bind (pE ([r1.1, r4])) (fun r5 => some (r5, r3.2))))))
theorem LK (rc : GBk → (List Int) → Int → Int → (List (Gbe × Int)) → Option ((Int) × List (Gbe × Int))) (rc_ok : ∀ (aa : GBk) (ah : List Int) (ai : Int) (ag : Int) (l0 : List (Gbe × Int)) (R : (Int) × List (Gbe × Int)), rc aa ah ai ag l0 = some R → VUpd Tryz.prog G0 118 (fun β => [.agg [.lit (.int .i64 aa.Apprentices), .sl (ae eI aa.Boards) (List.length aa.Boards) false, .sl (ae cGBs aa.Strokes) (List.length aa.Strokes) false, .sl (ae eI ah) (List.length ah) false, .mp β], .lit (.int .i64 ai), .lit (.int .i64 ag)]) (encM aZ c9 l0) (encM aZ c9 R.2) (fun _ => .lit (.int .i64 R.1))) (aa : GBk) (ah : List Int) (ai : Int) (ag : Int) (l0 : List (Gbe × Int)) (R : (Int) × List (Gbe × Int)) (h : u4 rc aa ah ai ag l0 = some R) : VUpd Tryz.prog G0 107 (fun β => [.agg [.lit (.int .i64 aa.Apprentices), .sl (ae eI aa.Boards) (List.length aa.Boards) false, .sl (ae cGBs aa.Strokes) (List.length aa.Strokes) false, .sl (ae eI ah) (List.length ah) false, .mp β], .lit (.int .i64 ai), .lit (.int .i64 ag)]) (encM aZ c9 l0) (encM aZ c9 R.2) (fun _ => .lit (.int .i64 R.1)) := by
 intro bA nx hlt
 have bp := fK (β := bA) (nx := nx) hlt
 refine au.run mixed Tryz.call107 Tryz.func107 rfl (by simp [Tryz.ntmps107]; kernel_rfl) ?_
 obtain ⟨KF, h, kF, kN⟩ := cV h
 simp only [u4] at h
 simp only [vz, mq, mqm, vsi, tyf, mqt, bp, nm, seval]
 refine pI (fun tm => tm 1 = .lit (.int .i64 ai) ∧ tm 2 = .lit (.int .i64 ag) ∧ tm 3 = .ptr nx 0 ∧ True) (by refine ⟨?_, ?_, ?_, trivial⟩ <;> first | (simp only [ua, cI, bp, nm, seval] <;> rfl) | rfl) ?_
 rintro tm ⟨e6, e7, e8, _⟩
 obtain ⟨r9, gB, h⟩ := optI h kN
 try simp only [hs] at h
 simp only [vz, mq, mqm, vsi, tyf, mqt, bp, e6, e7, e8, nm, seval]
 refine dkupd (VUpd.at (β := bA) (y := (fun _ => .lit (.int .i64 r9.1))) (Pg rc rc_ok _ _ _ _ _ _ gB) (by omega) (by first | rfl | assumption | (simp only [aK, bk, bp, nm, seval] <;> rfl)) (by first | rfl | (simp only [nrm, aN, @fm, @iK] <;> rfl)) (iv (fun _ => rfl) _)) ?_
 refine iL (fun tm => tm 1 = .lit (.int .i64 ai) ∧ tm 2 = .lit (.int .i64 ag) ∧ tm 3 = .ptr nx 0 ∧ tm 10 = .lit (.int .i64 r9.1) ∧ True) (by refine ⟨e6, e7, e8, ?_, trivial⟩ <;> first | (simp only [ua, cI, bp, e6, e7, e8, nm, seval] <;> rfl) | rfl) ?_
 rintro tm ⟨bT, bJ, bx, bC, _⟩
 obtain ⟨DQ, iY, h⟩ := optI h kN
 try simp only [hs] at h
 obtain ⟨cW, lP, h⟩ := optI h kN
 try simp only [hs] at h
 simp only [vz, mq, mqm, vsi, tyf, mqt, bp, bT, bJ, bx, bC, (bd iY), nm, seval]
 refine dkupd (VUpd.at (β := bA) (y := (fun _ => .sl (ae eI cW.1) (List.length cW.1) false)) (Pp rc rc_ok _ _ _ _ _ _ lP) (by omega) (by first | rfl | assumption | (simp only [aK, bk, bp, nm, seval] <;> rfl)) (by first | rfl | (simp only [nrm, aN, @fm, @iK] <;> rfl)) (iv (fun _ => rfl) _)) ?_
 refine iL (fun tm => tm 10 = .lit (.int .i64 r9.1) ∧ tm 20 = .sl (ae eI cW.1) (List.length cW.1) false ∧ True) (by refine ⟨bC, ?_, trivial⟩ <;> first | (simp only [ua, cI, bp, bT, bJ, bx, bC, nm, seval] <;> rfl) | rfl) ?_
 rintro tm ⟨cO, eh, _⟩
 obtain ⟨jT, nf, h⟩ := optI h kN
 try simp only [hs] at h
 simp only [vz, mq, mqm, vsi, tyf, mqt, bp, (bd iY), cO, eh, nm, seval]
 refine dktree (args0 := [.sl (ae eI cW.1) (List.length cW.1) false]) (by first | (simp only [nrm, aN, @fm] <;> rfl) | rfl) (by simp only [tre, tytre, mqr, Bool.and_self]) (DL _ _ nf) ?_
 refine bS (fun tm => tm 10 = .lit (.int .i64 r9.1) ∧ tm 21 = .lit (.int .i64 jT) ∧ True) (by refine ⟨cO, ?_, trivial⟩ <;> first | (simp only [ua, cI, bp, cO, eh, nm, seval] <;> rfl) | rfl) ?_
 rintro tm ⟨eU, ia, _⟩
 obtain ⟨kc, kX, h⟩ := optI h kN
 try simp only [hs] at h
 simp only [vz, mq, mqm, vsi, tyf, mqt, bp, (bd iY), eU, ia, nm, seval]
 refine dkseen1 (w := 1) (enc := eI) (xs := ([r9.1, jT])) (el := (some 3)) ⟨eI_ok.tree, eI_ok.norm⟩ (fun _ => rfl) (by simp only [List.length_cons, List.length_nil]; decide) (by simp only [aK, bk, cT, bp, nm, seval] <;> rfl) (DL _ _ kX) (by first | rfl | simp only [VV.flat, flatL, Bool.and_self]) ?_
 refine bS (fun tm => tm 23 = .lit (.int .i64 kc) ∧ True) (by refine ⟨?_, trivial⟩ <;> first | (simp only [ua, cI, bp, eU, ia, nm, seval] <;> rfl) | rfl) ?_
 rintro tm ⟨bV, _⟩
 simp only [vz, mq, mqm, vsi, tyf, mqt, bp, (bd iY), bV, nm, seval]
 refine kD ⟨?_, ?_⟩
 ·simp only [kE, kG, fU, kH, and_true, true_and]
  repeat' (first | exact trivial | refine And.intro ?_ ?_ | rw [fU] | rw [kI] | exact Or.inl (by decide +kernel) | exact Or.inl (by dsimp only; decide +kernel) | (refine Or.inr ⟨?_, ?_⟩ <;> simp; done) | (refine Or.inr ⟨?_, ?_⟩ <;> simp <;> omega) | (refine Or.inr ⟨?_, ?_⟩ <;> simp [VEff.wr] <;> omega))
 try simp only [vz, mq, mqm, vsi, tyf, mqt, bp, (bd iY), bV, nm, seval]
 refine cn (x := (.lit (.int .i64 kc))) (by first | (simp only [Tryz.results107, resV, resL, aR, cw, cv, uw, cr, tyf, mqt, bp, (bd iY), nm, seval] <;> rfl) | rfl) ?_
 obtain rfl := kF _ h
 refine ⟨(by first | rfl | assumption | (simp only [aK, bk, bp, nm, seval] <;> rfl)), ?_⟩
 exact sq_of (lX (by simp only [tre, tytre, mqr, Bool.and_self]) rfl)
def u5 (aa : GBk) (ah : List Int) (ai : Int) : Option (Int) := Option.bind (getI aa.Strokes ai) (fun x1 => some x1.Hours.Low)
theorem Pq (aa : GBk) (ah : List Int) (ai : Int) (b : Nat) (R : Int) (h : u5 aa ah ai = some R) : ak Tryz.prog G0 139 [.agg [.lit (.int .i64 aa.Apprentices), .sl (ae eI aa.Boards) (List.length aa.Boards) false, .sl (ae cGBs aa.Strokes) (List.length aa.Strokes) false, .sl (ae eI ah) (List.length ah) false, .lit (.map (some b))], .lit (.int .i64 ai)] (.tree (.lit (.int .i64 R))) := by
 refine ak.runR mixed Tryz.call139 Tryz.func139 rfl (by simp [Tryz.ntmps139]; kernel_rfl) ?_
 obtain ⟨KF, h, kF, kN⟩ := cV h
 simp only [u5] at h
 obtain ⟨x2, o3, h⟩ := optI h kN
 try simp only [hs] at h
 try simp only [vz, vsi, tyf, (bd o3), nm, seval]
 refine cn (x := (.lit (.int .i64 x2.Hours.Low))) (by first | (simp only [Tryz.results139, resV, resL, aR, cw, cv, uw, cr, tyf, (bd o3), nm, seval] <;> rfl) | rfl) ?_
 obtain rfl := kF _ h
 refine eJ ?_ ?_
 ·simp only [tre, tytre, Bool.and_self]
 ·first | (simp only [outV, uw, eD, cr, tyf, nrm, aN, (bd o3), nm, seval] <;> rfl) | rfl
def u6 (aa : GBk) (ah : List Int) (ai : Int) : Option (Int) := Option.bind (getI aa.Strokes ai) (fun x1 => some x1.Hours.High)
theorem Ps (aa : GBk) (ah : List Int) (ai : Int) (b : Nat) (R : Int) (h : u6 aa ah ai = some R) : ak Tryz.prog G0 140 [.agg [.lit (.int .i64 aa.Apprentices), .sl (ae eI aa.Boards) (List.length aa.Boards) false, .sl (ae cGBs aa.Strokes) (List.length aa.Strokes) false, .sl (ae eI ah) (List.length ah) false, .lit (.map (some b))], .lit (.int .i64 ai)] (.tree (.lit (.int .i64 R))) := by
 refine ak.runR mixed Tryz.call140 Tryz.func140 rfl (by simp [Tryz.ntmps140]; kernel_rfl) ?_
 obtain ⟨KF, h, kF, kN⟩ := cV h
 simp only [u6] at h
 obtain ⟨x2, o3, h⟩ := optI h kN
 try simp only [hs] at h
 try simp only [vz, vsi, tyf, (bd o3), nm, seval]
 refine cn (x := (.lit (.int .i64 x2.Hours.High))) (by first | (simp only [Tryz.results140, resV, resL, aR, cw, cv, uw, cr, tyf, (bd o3), nm, seval] <;> rfl) | rfl) ?_
 obtain rfl := kF _ h
 refine eJ ?_ ?_
 ·simp only [tre, tytre, Bool.and_self]
 ·first | (simp only [outV, uw, eD, cr, tyf, nrm, aN, (bd o3), nm, seval] <;> rfl) | rfl
def u7 (rc : GBk → (List Int) → Int → Int → (List (Gbe × Int)) → Option ((Int) × List (Gbe × Int))) (aa : GBk) (ah : List Int) (ai : Int) (ag : Int) (l0 : List (Gbe × Int)) : Option ((Int) × List (Gbe × Int)) := cond (mapHas cX l0 (Gbe.mk ai ag)) (some (mapGet cX 0 l0 (Gbe.mk ai ag), l0)) (Option.bind (u4 rc aa ah ai ag l0) (fun r1 => cond (ag == 0) (Option.bind (u5 aa ah ai) (fun r2 => some (i64.wrap (r1.1 + r2), mapSet cX r1.2 (Gbe.mk ai ag) (i64.wrap (r1.1 + r2))))) (cond (ag == 1) (Option.bind (u6 aa ah ai) (fun r2 => some (i64.wrap (r1.1 + r2), mapSet cX r1.2 (Gbe.mk ai ag) (i64.wrap (r1.1 + r2))))) none)))
theorem Pt (rc : GBk → (List Int) → Int → Int → (List (Gbe × Int)) → Option ((Int) × List (Gbe × Int))) (rc_ok : ∀ (aa : GBk) (ah : List Int) (ai : Int) (ag : Int) (l0 : List (Gbe × Int)) (R : (Int) × List (Gbe × Int)), rc aa ah ai ag l0 = some R → VUpd Tryz.prog G0 118 (fun β => [.agg [.lit (.int .i64 aa.Apprentices), .sl (ae eI aa.Boards) (List.length aa.Boards) false, .sl (ae cGBs aa.Strokes) (List.length aa.Strokes) false, .sl (ae eI ah) (List.length ah) false, .mp β], .lit (.int .i64 ai), .lit (.int .i64 ag)]) (encM aZ c9 l0) (encM aZ c9 R.2) (fun _ => .lit (.int .i64 R.1))) (aa : GBk) (ah : List Int) (ai : Int) (ag : Int) (l0 : List (Gbe × Int)) (R : (Int) × List (Gbe × Int)) (h : u7 rc aa ah ai ag l0 = some R) : VUpd Tryz.prog G0 118 (fun β => [.agg [.lit (.int .i64 aa.Apprentices), .sl (ae eI aa.Boards) (List.length aa.Boards) false, .sl (ae cGBs aa.Strokes) (List.length aa.Strokes) false, .sl (ae eI ah) (List.length ah) false, .mp β], .lit (.int .i64 ai), .lit (.int .i64 ag)]) (encM aZ c9 l0) (encM aZ c9 R.2) (fun _ => .lit (.int .i64 R.1)) := by
 intro bA nx hlt
 have bp := fK (β := bA) (nx := nx) hlt
 refine au.run mixed Tryz.call118 Tryz.func118 rfl (by simp [Tryz.ntmps118]; kernel_rfl) ?_
 obtain ⟨KF, h, kF, kN⟩ := cV h
 simp only [u7] at h
 have w2 := fun H => uu (β := bA) l0 (Gbe.mk ai ag) H
 try simp only [cI] at w2
 cases d3 : (mapHas cX l0 (Gbe.mk ai ag))
 ·simp only [d3, hs] at h
  obtain ⟨r4, o5, h⟩ := optI h kN
  try simp only [hs] at h
  have hk : (ag == 0) = true ∨ ((ag == 0) = false ∧ (ag == 1) = true) := by
   cases c0 : (ag == 0)
   ·cases c1 : (ag == 1)
    ·simp only [c0, c1, hs] at h
     exact absurd h kN
    exact .inr ⟨rfl, rfl⟩
   exact .inl rfl
  rcases hk with c0 | ⟨c0, c1⟩
  ·obtain rfl : ag = 0 := by simpa using c0
   simp only [c0, hs] at h
   simp only [vz, mq, mqm, vsi, tyf, mqt, bp, w2, d3, nm, seval]
   refine pI (fun tm => tm 1 = .lit (.int .i64 ai) ∧ tm 2 = .lit (.int .i64 0) ∧ tm 3 = .ptr nx 0 ∧ tm 7 = .ptr (nx + 5) 0 ∧ tm 10 = .ptr (nx + 19) 0 ∧ True) (by refine ⟨?_, ?_, ?_, ?_, ?_, trivial⟩ <;> first | (simp only [ua, cI, bp, w2, d3, nm, seval] <;> rfl) | rfl) ?_
   rintro tm ⟨e1, e2, e3, e4, bB, _⟩
   simp only [vz, mq, mqm, vsi, tyf, mqt, bp, w2, d3, e1, e2, e3, e4, bB, nm, seval]
   refine dkupd (VUpd.at (β := bA) (y := (fun _ => .lit (.int .i64 r4.1))) (LK rc rc_ok _ _ _ _ _ _ o5) (by omega) (by first | rfl | assumption | (simp only [aK, bk, bp, nm, seval] <;> rfl)) (by first | rfl | (simp only [nrm, aN, @fm, @iK] <;> rfl)) (iv (fun _ => rfl) _)) ?_
   refine iL (fun tm => tm 1 = .lit (.int .i64 ai) ∧ tm 2 = .lit (.int .i64 0) ∧ tm 3 = .ptr nx 0 ∧ tm 7 = .ptr (nx + 5) 0 ∧ tm 10 = .ptr (nx + 19) 0 ∧ tm 27 = .lit (.int .i64 r4.1) ∧ True) (by refine ⟨e1, e2, e3, e4, bB, ?_, trivial⟩ <;> first | (simp only [ua, cI, bp, e1, e2, e3, e4, bB, nm, seval] <;> rfl) | rfl) ?_
   rintro tm ⟨e1, e2, e3, e4, bB, bV, _⟩
   obtain ⟨r8, o9, h⟩ := optI h kN
   try simp only [hs] at h
   simp only [vz, mq, mqm, vsi, tyf, mqt, bp, w2, d3, e1, e2, e3, e4, bB, bV, nm, seval]
   refine dkupd (VUpd.at (β := bA) (y := (fun _ => .lit (.int .i64 r8))) (VUpd.of_lit (A := fun β => [.agg [.lit (.int .i64 aa.Apprentices), .sl (ae eI aa.Boards) (List.length aa.Boards) false, .sl (ae cGBs aa.Strokes) (List.length aa.Strokes) false, .sl (ae eI ah) (List.length ah) false, .mp β], .lit (.int .i64 ai)]) (x := fun _ => .lit (.int .i64 r8)) (es := encM aZ c9 r4.2) (A0 := fun _ b => [.agg [.lit (.int .i64 aa.Apprentices), .sl (ae eI aa.Boards) (List.length aa.Boards) false, .sl (ae cGBs aa.Strokes) (List.length aa.Strokes) false, .sl (ae eI ah) (List.length ah) false, .lit (.map (some b))], .lit (.int .i64 ai)]) (fun β b => by simp only [List.map_cons, List.map_nil, vlt, if_true, nrm, aN, @fm, tyf, mqt] <;> rfl) (fun β b => by simp only [List.map_cons, List.map_nil, vlt, if_true, tre, tytre, tyf, mqt, Bool.and_self]) (fun β b => rfl) (fun β b => Pq aa ah ai b r8 o9) (fun _ _ _ _ _ => lX (by simp only [tre, tytre, mqr, Bool.and_self]) rfl)) (by omega) (by first | rfl | assumption | (simp only [aK, bk, bp, nm, seval] <;> rfl)) (by first | rfl | (simp only [nrm, aN, @fm, @iK] <;> rfl)) (iv (fun _ => rfl) _)) ?_
   refine iL (fun tm => tm 1 = .lit (.int .i64 ai) ∧ tm 2 = .lit (.int .i64 0) ∧ tm 3 = .ptr nx 0 ∧ tm 7 = .ptr (nx + 5) 0 ∧ tm 27 = .lit (.int .i64 r4.1) ∧ tm 33 = .lit (.int .i64 r8) ∧ True) (by refine ⟨e1, e2, e3, e4, bV, ?_, trivial⟩ <;> first | (simp only [ua, cI, bp, e1, e2, e3, e4, bB, bV, nm, seval] <;> rfl) | rfl) ?_
   rintro tm ⟨e1, e2, e3, e4, bV, bz, _⟩
   simp only [vz, mq, mqm, vsi, tyf, mqt, bp, w2, d3, e1, e2, e3, e4, bV, bz, nm, seval]
   refine kD ⟨?_, ?_⟩
   ·simp only [kE, kG, fU, kH, and_true, true_and]
    repeat' (first | exact trivial | refine And.intro ?_ ?_ | rw [fU] | rw [kI] | exact Or.inl (by decide +kernel) | exact Or.inl (by dsimp only; decide +kernel) | (refine Or.inr ⟨?_, ?_⟩ <;> simp; done) | (refine Or.inr ⟨?_, ?_⟩ <;> simp <;> omega) | (refine Or.inr ⟨?_, ?_⟩ <;> simp [VEff.wr] <;> omega) | (refine Or.inr ⟨?_, ?_⟩ <;> simp [rdV, rdO, topName, Op.operands, kV, pJ, kW, jM, VEff.wr] <;> omega))
   have w9 := fun H => uv (β := bA) r4.2 (Gbe.mk ai 0) (i64.wrap (r4.1 + r8)) H
   try simp only [cI] at w9
   try simp only [vz, mq, mqm, vsi, tyf, mqt, bp, d3, e1, e2, e3, e4, bV, bz, w9, nm, seval]
   refine cn (x := (.lit (.int .i64 (i64.wrap (r4.1 + r8))))) (by first | (simp only [Tryz.results118, resV, resL, aR, cw, cv, uw, cr, tyf, mqt, bp, d3, w9, nm, seval] <;> rfl) | rfl) ?_
   obtain rfl := kF _ h
   refine ⟨(by first | rfl | assumption | (simp only [aK, bk, bp, nm, seval] <;> rfl)), ?_⟩
   exact sq_of (lX (by simp only [tre, tytre, mqr, Bool.and_self]) rfl)
  obtain rfl : ag = 1 := by simpa using c1
  simp only [c0, c1, hs] at h
  simp only [vz, mq, mqm, vsi, tyf, mqt, bp, w2, d3, nm, seval]
  refine pI (fun tm => tm 1 = .lit (.int .i64 ai) ∧ tm 2 = .lit (.int .i64 1) ∧ tm 3 = .ptr nx 0 ∧ tm 7 = .ptr (nx + 5) 0 ∧ tm 10 = .ptr (nx + 19) 0 ∧ True) (by refine ⟨?_, ?_, ?_, ?_, ?_, trivial⟩ <;> first | (simp only [ua, cI, bp, w2, d3, nm, seval] <;> rfl) | rfl) ?_
  rintro tm ⟨e1, e2, e3, e4, bB, _⟩
  simp only [vz, mq, mqm, vsi, tyf, mqt, bp, w2, d3, e1, e2, e3, e4, bB, nm, seval]
  refine dkupd (VUpd.at (β := bA) (y := (fun _ => .lit (.int .i64 r4.1))) (LK rc rc_ok _ _ _ _ _ _ o5) (by omega) (by first | rfl | assumption | (simp only [aK, bk, bp, nm, seval] <;> rfl)) (by first | rfl | (simp only [nrm, aN, @fm, @iK] <;> rfl)) (iv (fun _ => rfl) _)) ?_
  refine iL (fun tm => tm 1 = .lit (.int .i64 ai) ∧ tm 2 = .lit (.int .i64 1) ∧ tm 3 = .ptr nx 0 ∧ tm 7 = .ptr (nx + 5) 0 ∧ tm 10 = .ptr (nx + 19) 0 ∧ tm 27 = .lit (.int .i64 r4.1) ∧ True) (by refine ⟨e1, e2, e3, e4, bB, ?_, trivial⟩ <;> first | (simp only [ua, cI, bp, e1, e2, e3, e4, bB, nm, seval] <;> rfl) | rfl) ?_
  rintro tm ⟨e1, e2, e3, e4, bB, bV, _⟩
  obtain ⟨r8, o9, h⟩ := optI h kN
  try simp only [hs] at h
  simp only [vz, mq, mqm, vsi, tyf, mqt, bp, w2, d3, e1, e2, e3, e4, bB, bV, nm, seval]
  refine dkupd (VUpd.at (β := bA) (y := (fun _ => .lit (.int .i64 r8))) (VUpd.of_lit (A := fun β => [.agg [.lit (.int .i64 aa.Apprentices), .sl (ae eI aa.Boards) (List.length aa.Boards) false, .sl (ae cGBs aa.Strokes) (List.length aa.Strokes) false, .sl (ae eI ah) (List.length ah) false, .mp β], .lit (.int .i64 ai)]) (x := fun _ => .lit (.int .i64 r8)) (es := encM aZ c9 r4.2) (A0 := fun _ b => [.agg [.lit (.int .i64 aa.Apprentices), .sl (ae eI aa.Boards) (List.length aa.Boards) false, .sl (ae cGBs aa.Strokes) (List.length aa.Strokes) false, .sl (ae eI ah) (List.length ah) false, .lit (.map (some b))], .lit (.int .i64 ai)]) (fun β b => by simp only [List.map_cons, List.map_nil, vlt, if_true, nrm, aN, @fm, tyf, mqt] <;> rfl) (fun β b => by simp only [List.map_cons, List.map_nil, vlt, if_true, tre, tytre, tyf, mqt, Bool.and_self]) (fun β b => rfl) (fun β b => Ps aa ah ai b r8 o9) (fun _ _ _ _ _ => lX (by simp only [tre, tytre, mqr, Bool.and_self]) rfl)) (by omega) (by first | rfl | assumption | (simp only [aK, bk, bp, nm, seval] <;> rfl)) (by first | rfl | (simp only [nrm, aN, @fm, @iK] <;> rfl)) (iv (fun _ => rfl) _)) ?_
  refine iL (fun tm => tm 1 = .lit (.int .i64 ai) ∧ tm 2 = .lit (.int .i64 1) ∧ tm 3 = .ptr nx 0 ∧ tm 7 = .ptr (nx + 5) 0 ∧ tm 27 = .lit (.int .i64 r4.1) ∧ tm 33 = .lit (.int .i64 r8) ∧ True) (by refine ⟨e1, e2, e3, e4, bV, ?_, trivial⟩ <;> first | (simp only [ua, cI, bp, e1, e2, e3, e4, bB, bV, nm, seval] <;> rfl) | rfl) ?_
  rintro tm ⟨e1, e2, e3, e4, bV, bz, _⟩
  simp only [vz, mq, mqm, vsi, tyf, mqt, bp, w2, d3, e1, e2, e3, e4, bV, bz, nm, seval]
  refine kD ⟨?_, ?_⟩
  ·simp only [kE, kG, fU, kH, and_true, true_and]
   repeat' (first | exact trivial | refine And.intro ?_ ?_ | rw [fU] | rw [kI] | exact Or.inl (by decide +kernel) | exact Or.inl (by dsimp only; decide +kernel) | (refine Or.inr ⟨?_, ?_⟩ <;> simp; done) | (refine Or.inr ⟨?_, ?_⟩ <;> simp <;> omega) | (refine Or.inr ⟨?_, ?_⟩ <;> simp [VEff.wr] <;> omega) | (refine Or.inr ⟨?_, ?_⟩ <;> simp [rdV, rdO, topName, Op.operands, kV, pJ, kW, jM, VEff.wr] <;> omega))
  have w9 := fun H => uv (β := bA) r4.2 (Gbe.mk ai 1) (i64.wrap (r4.1 + r8)) H
  try simp only [cI] at w9
  try simp only [vz, mq, mqm, vsi, tyf, mqt, bp, d3, e1, e2, e3, e4, bV, bz, w9, nm, seval]
  refine cn (x := (.lit (.int .i64 (i64.wrap (r4.1 + r8))))) (by first | (simp only [Tryz.results118, resV, resL, aR, cw, cv, uw, cr, tyf, mqt, bp, d3, w9, nm, seval] <;> rfl) | rfl) ?_
  obtain rfl := kF _ h
  refine ⟨(by first | rfl | assumption | (simp only [aK, bk, bp, nm, seval] <;> rfl)), ?_⟩
  exact sq_of (lX (by simp only [tre, tytre, mqr, Bool.and_self]) rfl)
 simp only [d3, hs] at h
 try simp only [vz, mq, mqm, vsi, tyf, mqt, bp, w2, d3, nm, seval]
 refine cn (x := (.lit (.int .i64 (mapGet cX 0 l0 (Gbe.mk ai ag))))) (by first | (simp only [Tryz.results118, resV, resL, aR, cw, cv, uw, cr, tyf, mqt, bp, w2, d3, nm, seval] <;> rfl) | rfl) ?_
 obtain rfl := kF _ h
 refine ⟨(by first | rfl | assumption | (simp only [aK, bk, bp, nm, seval] <;> rfl)), ?_⟩
 exact sq_of (lX (by simp only [tre, tytre, mqr, Bool.and_self]) rfl)
def gEnd : Nat → GBk → (List Int) → Int → Int → (List (Gbe × Int)) → Option ((Int) × List (Gbe × Int))
 | 0 => fun _ _ _ _ _ => none
 | n + 1 => u7 (gEnd n)
theorem u9 : ∀ (n : Nat) (aa : GBk) (ah : List Int) (ai : Int) (ag : Int) (l0 : List (Gbe × Int)) (R : (Int) × List (Gbe × Int)), gEnd n aa ah ai ag l0 = some R → VUpd Tryz.prog G0 118 (fun β => [.agg [.lit (.int .i64 aa.Apprentices), .sl (ae eI aa.Boards) (List.length aa.Boards) false, .sl (ae cGBs aa.Strokes) (List.length aa.Strokes) false, .sl (ae eI ah) (List.length ah) false, .mp β], .lit (.int .i64 ai), .lit (.int .i64 ag)]) (encM aZ c9 l0) (encM aZ c9 R.2) (fun _ => .lit (.int .i64 R.1))
 | 0, _, _, _, _, _, _, h => by cases h
 | n + 1, aa, ah, ai, ag, l0, R, h => Pt (gEnd n) (u9 n) aa ah ai ag l0 R h
def DS (aa : GBk) (ah : List Int) (ai : Int) (ag : Int) (l0 : List (Gbe × Int)) : Option ((Int) × List (Gbe × Int)) := gEnd 8 aa ah ai ag l0
theorem Pu (aa : GBk) (ah : List Int) (ai : Int) (ag : Int) (l0 : List (Gbe × Int)) (R : (Int) × List (Gbe × Int)) (h : DS aa ah ai ag l0 = some R) : VUpd Tryz.prog G0 118 (fun β => [.agg [.lit (.int .i64 aa.Apprentices), .sl (ae eI aa.Boards) (List.length aa.Boards) false, .sl (ae cGBs aa.Strokes) (List.length aa.Strokes) false, .sl (ae eI ah) (List.length ah) false, .mp β], .lit (.int .i64 ai), .lit (.int .i64 ag)]) (encM aZ c9 l0) (encM aZ c9 R.2) (fun _ => .lit (.int .i64 R.1)) := u9 8 aa ah ai ag l0 R h
def pK (aa : GBk) (ah : List Int) : List GBs → Int → Int → (List (Gbe × Int)) → Option (LOut ((Int) × List (Gbe × Int)) (Int × (List (Gbe × Int))))
 | [], pL, cC, cl => some (.go (cC, cl))
 | e0 :: p0, pL, cC, cl => Option.bind (DS aa ah pL 1 cl) (fun r3 => Option.bind (pE ([cC, r3.1])) (fun r4 => pK aa ah p0 (pL + 1) r4 r3.2))
def pM (aa : GBk) (ah : List Int) (l0 : List (Gbe × Int)) : Option ((Int) × List (Gbe × Int)) := cond (aO aa.Strokes) (lbind (pK aa ah aa.Strokes 0 0 l0) (fun r6 => some r6) (fun c5 => some (c5.1, c5.2)) (fun _ _ => none)) none
theorem xi (aa : GBk) (ah : List Int) (l0 : List (Gbe × Int)) (R : (Int) × List (Gbe × Int)) (h : pM aa ah l0 = some R) : VUpd Tryz.prog G0 87 (fun β => [.agg [.lit (.int .i64 aa.Apprentices), .sl (ae eI aa.Boards) (List.length aa.Boards) false, .sl (ae cGBs aa.Strokes) (List.length aa.Strokes) false, .sl (ae eI ah) (List.length ah) false, .mp β]]) (encM aZ c9 l0) (encM aZ c9 R.2) (fun _ => .lit (.int .i64 R.1)) := by
 intro bA nx hlt
 have bp := fK (β := bA) (nx := nx) hlt
 refine au.run mixed Tryz.call87 Tryz.func87 rfl (by simp [Tryz.ntmps87]; kernel_rfl) ?_
 obtain ⟨KF, h, kF, kN⟩ := cV h
 simp only [pM] at h
 cases g8 : (aO aa.Strokes)
 ·simp only [g8, hs] at h
  exact absurd h kN
 simp only [g8, hs] at h
 simp only [vz, mq, mqm, vsi, tyf, mqt, bp, g8, nm, seval]
 obtain ⟨K7, h, LL, DT, Pv, nu⟩ := fZ h kN
 obtain ⟨f7, DU, h⟩ := call4 h
 obtain ⟨I7, pN⟩ : ∃ I : Nat → St → Prop, I = (fun m st => ∃ (p7 : List GBs) (fM : Int) (ix : Int) (kd : List (Gbe × Int)), m = List.length p7 ∧ 0 ≤ fM ∧ List.drop (Int.toNat fM) aa.Strokes = p7 ∧ st.df = [] ∧ nx + 8 ≤ st.nx ∧ st.H bA = some (.map (encM aZ c9 kd)) ∧ st.H nx = some (.cells (some 92) ((cGBk aa) ++ [.sl (ae eI ah) (List.length ah) false] ++ [.mp bA])) ∧ st.tm 1 = .ptr nx 0 ∧ st.tm 8 = .lit (.int .i64 (List.length aa.Strokes : Int)) ∧ st.tm 3 = .lit (.int .i64 ix) ∧ st.tm 9 = .lit (.int .i64 fM) ∧ K7 (f7 p7 fM ix kd)) := ⟨_, rfl⟩
 refine loopK mixed (by kernel_rfl) I7 (List.length aa.Strokes) (by rw [pN]; refine ⟨aa.Strokes, 0, 0, l0, rfl, Int.le_refl _, rfl, rfl, (show nx + 8 ≤ nx + 8 by omega), ?_, ?_, ?_, ?_, ?_, ?_, h⟩ <;> first | (simp only [ua, cI, bp, nm, seval] <;> rfl) | rfl) ?_
 rintro m ⟨tm, H, pO, df⟩ hinv
 rw [pN] at hinv
 obtain ⟨p7, fM, ix, kd, rfl, rk, uA, hdf, DV, H9, gG, bT, bJ, bx, bC, h⟩ := hinv
 simp only at hdf DV H9 gG bT bJ bx bC
 have eZ := jz (a := nx) (m := 8) (b := pO) (by omega)
 have fa := fK (β := bA) (nx := pO) (by omega)
 subst hdf DU
 cases p7 with
 | nil =>
  have lJ : (decide (fM < (List.length aa.Strokes : Int))) = false := ga rk uA
  simp only [pK, hs, reduceCtorEq] at h
  replace h := DT _ h
  try dsimp only at h
  try simp only [hs] at h
  try simp only [vz, mq, mqm, vsi, tyf, mqt, bp, g8, eZ, fa, bT, bJ, bx, bC, H9, gG, lJ, nm, seval]
  refine cn (x := (.lit (.int .i64 ix))) (by first | (simp only [Tryz.results87, resV, resL, aR, cw, cv, uw, cr, tyf, mqt, bp, g8, eZ, fa, H9, gG, lJ, nm, seval] <;> rfl) | rfl) ?_
  obtain rfl := kF _ h
  refine ⟨(by first | rfl | assumption | (simp only [aK, bk, bp, eZ, fa, H9, gG, nm, seval] <;> rfl)), ?_⟩
  exact sq_of (lX (by first | (simp only [tre, tytre, mqr, Bool.and_self]; done) | rfl) rfl)
 | cons e7 p7 =>
  have iZ : (decide (fM < (List.length aa.Strokes : Int))) = true := gb rk uA
  have kY := eT rk uA
  have DW := fG rk uA g8
  simp only [pK, hs, reduceCtorEq] at h
  obtain ⟨jT, nf, h⟩ := optI h nu
  try simp only [hs] at h
  simp only [vz, mq, mqm, vsi, tyf, mqt, bp, g8, eZ, fa, bT, bJ, bx, bC, H9, gG, iZ, (bd kY), DW, nm, seval]
  refine kupd (VUpd.at (β := bA) (y := (fun _ => .lit (.int .i64 jT.1))) (Pu _ _ _ _ _ _ nf) (by omega) (by first | rfl | assumption | (simp only [aK, bk, bp, eZ, fa, H9, gG, nm, seval] <;> rfl)) (by first | rfl | (simp only [nrm, aN, @fm, @iK] <;> rfl)) (iv (fun _ => rfl) _)) ?_
  refine iL (fun tm => tm 1 = .ptr nx 0 ∧ tm 8 = .lit (.int .i64 (List.length aa.Strokes : Int)) ∧ tm 9 = .lit (.int .i64 fM) ∧ tm 12 = .lit (.int .i64 ix) ∧ tm 15 = .lit (.int .i64 jT.1) ∧ True) (by refine ⟨bT, bJ, bC, ?_, ?_, trivial⟩ <;> first | (simp only [ua, cI, bp, eZ, fa, bT, bJ, bx, bC, H9, gG, iZ, DW, nm, seval] <;> rfl) | rfl) ?_
  rintro tm ⟨eU, ia, gP, ez, bV, _⟩
  have pP := And.intro bp (And.intro g8 (And.intro eZ (And.intro fa (And.intro H9 (And.intro gG (And.intro iZ DW))))))
  obtain ⟨uB, DX, h⟩ := optI h nu
  try simp only [hs] at h
  simp only [vz, mq, mqm, vsi, tyf, mqt, pP, (bd kY), eU, ia, gP, ez, bV, nm, seval]
  refine kseen (args0 := [.sl (ae eI ([ix, jT.1])) (List.length ([ix, jT.1])) false]) (by simp only [List.map_cons, List.map_nil, eD, aK, bk, cr, tyf, mqt, nrm, aN, pP, (bd kY), eU, ia, gP, ez, bV, nm, seval] <;> rfl) (by simp only [List.map_cons, List.map_nil, eD, aK, bk, cr, tyf, mqt, nrm, aN, pP, (bd kY), eU, ia, gP, ez, bV, nm, seval]; simp only [tre, tytre, mqr, Bool.and_self]) (DL _ _ DX) (by first | rfl | simp only [VV.flat, flatL, Bool.and_self]) ?_
  refine bS (fun tm => tm 1 = .ptr nx 0 ∧ tm 8 = .lit (.int .i64 (List.length aa.Strokes : Int)) ∧ tm 9 = .lit (.int .i64 fM) ∧ tm 17 = .lit (.int .i64 uB) ∧ True) (by refine ⟨eU, ia, gP, ?_, trivial⟩ <;> first | (simp only [ua, cI, pP, eU, ia, gP, ez, bV, nm, seval] <;> rfl) | rfl) ?_
  rintro tm ⟨bW, cB, bz, bD, _⟩
  simp only [vz, mq, mqm, vsi, tyf, mqt, pP, (bd kY), bW, cB, bz, bD, nm, seval]
  exact ⟨List.length p7, Nat.lt_succ_self _, by rw [pN]; refine ⟨p7, fM + 1, uB, jT.2, rfl, Int.le_trans rk (Int.le_add_one (Int.le_refl _)), cG rk uA, rfl, (show nx + 8 ≤ pO + 12 by omega), ?_, ?_, bW, cB, ?_, ?_, (by first | exact h | (simp only [pP]; exact h))⟩ <;> first | (simp only [ua, cI, pP, bW, cB, bz, bD, nm, seval] <;> rfl) | rfl⟩
end Go.V
end
