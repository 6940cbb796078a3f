/- Part of a proof. -/
import Derived.Test.YtmhlghgbfmcdaaaGreatDoorN1bi
set_option linter.all false
set_option maxRecDepth 4000
set_option maxHeartbeats 40000000
section
namespace Go.V
open Go Go.Proofs IntKind
theorem cH {c : VV} {cs : List VV} : aG Tryz.prog 130 (c :: cs) = some c := by
  have h1 : aggT Tryz.prog 130 = some false := by kernel_rfl
  simp [aG, vpart, h1]
def planC (b : GBk) (pl : List Int) : List VV := cGBk b ++ [sI pl]
theorem BP {b : GBk} {pl : List Int} : treeL (planC b pl) = true := by
  have h1 : treeL (aa eI b.Boards) = true := eI_ok.treeL _
  have h2 : treeL (aa cGBs b.Strokes) = true := d6.treeL _
  have h3 : treeL (aa eI pl) = true := eI_ok.treeL _
  simp [planC, cGBk, treeL, VV.tree, h1, h2, h3]
theorem Md (b : GBk) (pl : List Int) : NewC Tryz.prog G0 69 [.agg (cGBk b), sI pl] (planC b pl) := by
  refine NewC.of_open BP ?_
  refine al.run mixed Tryz.call69 Tryz.func69 rfl (by simp [Tryz.ntmps69]; kernel_rfl) ?_
  simp only [vz, mq, mqm, vsi, tyf, mqt, seval, ua]
  refine bG (x := .agg (planC b pl ++ [.mp 4])) (by first | (simp only [Tryz.results69, resV, resL, resV1, bN, bO, uw, cr, tyf, mqt, nm, seval] <;> rfl) | rfl) ?_
  exact ⟨4, rfl, by simp [updH]⟩
theorem BQ {mc : List VV} {mf : Nat} {ln lim : Int} (htm : treeL mc = true) : ag Tryz.prog G0 116 [.lit (.int .i64 ln), .lit (.int .i64 lim), .fn (.func mf) [] mc] (.tree (.fn (.func 137) [] [.tp [.lit (.int .i64 ln)], .tp [.lit (.int .i64 lim)], .tp [.fn (.func mf) [] mc]])) := by
  refine ag.run mixed Tryz.call116 Tryz.func116 rfl (by simp [Tryz.ntmps116]; kernel_rfl) ?_
  simp only [vz, tyf, seval, ua, rg]
  refine ⟨rfl, .fn (.func 137) [] [.ptr 0 0, .ptr 1 0, .ptr 2 0], by simp [Tryz.results116, resV, resL, resV1, upd], 20, ?_⟩
  simp [sealV, sealL, VV.tree, treeL, updH, htm]
theorem rJ {b : GBk} : treeL (cGBk b) = true := fN.tree b
def plansO (b : GBk) : Option (List (List Int)) := cond (decide (0 < b.Strokes.length) && (decide (b.Strokes.length < 1000) && (decide (0 ≤ b.Apprentices) && decide (b.Apprentices < 1000)))) (listsO (fun p j => rG p j b) (b.Apprentices.toNat + 1) b.Strokes.length []) none
def plV (b : GBk) (p : List Int) : VV := .agg (planC b p)
theorem zn {b : GBk} {L : List (List Int)} (h : plansO b = some L) : IterM Tryz.prog G0 (.fn (.func 115) [] [.tp (cGBk b)]) (L.map (plV b)) := by
  unfold plansO at h
  cases hs : (decide (0 < b.Strokes.length) && (decide (b.Strokes.length < 1000) && (decide (0 ≤ b.Apprentices) && decide (b.Apprentices < 1000)))) with
  | false => rw [hs] at h; cases h
  | true =>
  rw [hs, cond_true] at h
  simp only [Bool.and_eq_true, decide_eq_true_eq] at hs
  obtain ⟨jS, dq, nC, rl⟩ := hs
  have hmc : treeL [VV.tp (cGBk b)] = true := by simp [treeL, VV.tree, rJ]
  have hit := yz (mc := [.tp (cGBk b)]) (mf := 117) (ln := b.Strokes.length) (lim := b.Apprentices.toNat + 1) hmc jS dq (by omega) h (fun p j t hp => JY p j b t hp)
  have eA : b.Apprentices + 1 = ((b.Apprentices.toNat + 1 : Nat) : Int) := by omega
  have wA : i64.wrap (b.Apprentices + 1) = ((b.Apprentices.toNat + 1 : Nat) : Int) := by rw [IntWalk.i64_in _ (by omega)]; exact eA
  refine ⟨115, [], _, rfl, fun β I hst hr H nx hβ hI => ?_⟩
  refine al.run mixed Tryz.call115 Tryz.func115 rfl (by simp [Tryz.ntmps115]; kernel_rfl) ?_
  simp only [List.nil_append, List.cons_append, vz, tyf, seval, ua, rg, wA]
  refine ktree (args0 := [.lit (.int .i64 b.Strokes.length), .lit (.int .i64 ((b.Apprentices.toNat + 1 : Nat) : Int)), .fn (.func 117) [] [.tp (cGBk b)]]) ?_ ?_ (BQ hmc) ?_
  · first | (simp only [nrm, tynrm, hZ] <;> rfl) | (simp only [nrm, tynrm]; done) | rfl
  · have h1 : treeL (cGBk b) = true := rJ
    simp only [hZ] at h1
    simp [treeL, VV.tree] at h1 ⊢
    exact h1
  simp only [vz, tyf, seval, ua, rg]
  refine rF (fun tm => tm 13 = .fn (.func 137) [] [.tp [.lit (.int .i64 b.Strokes.length)], .tp [.lit (.int .i64 ((b.Apprentices.toNat + 1 : Nat) : Int))], .tp [.fn (.func 117) [] [.tp (cGBk b)]]] ∧ tm 1 = .tp (cGBk b) ∧ tm 2 = .ptr nx 0) (by refine ⟨?_, ?_, ?_⟩ <;> simp only [ua, seval, Nat.add_zero, hZ]) ?_
  rintro tm ⟨bg, e1, e2⟩
  refine HX hit (by first | (simp only [lS, lT, bg, jI, seval] <;> rfl) | rfl) ?_
  intro LO hLO
  obtain ⟨J, hJ⟩ : ∃ J : Option (List VV) → Option (List VV) → List (Nat × VObj) → Prop, J = (fun o o' hp => match o with
    | some l => ∃ (p : List (List Int)), l = p.map sI ∧ o' = some (p.map (plV b)) ∧ hp = [(nx, .cells (some 130) [.yl β]), (nx + 11, .deferred (some [])), (nx + 12, LO)]
    | none => ∃ LD : Code → VObj, (∃ tml ps az bo d, LD = fun c => VObj.loop .done (some c) tml ps az bo d) ∧ o' = none ∧ hp = [(nx, .cells (some 130) [.yl β]), (nx + 11, .deferred (some [])), (nx + 12, LD .ret)]) := ⟨_, rfl⟩
  refine ⟨ownI2 I J, HW hst, ?_, ?_, ?_⟩
  · rintro v rest Fr H1 aV hFr ⟨hp, o', hown, hj, hi⟩
    rw [hJ] at hj
    obtain ⟨p, hl, rfl, rfl⟩ := hj
    cases p with
    | nil => cases hl
    | cons e p =>
    simp only [List.map_cons, List.cons.injEq] at hl
    obtain ⟨rfl, rfl⟩ := hl
    obtain ⟨la, na, Ha⟩ := hown.head
    obtain ⟨lb, nb, Hb⟩ := hown.tail.head
    obtain ⟨lc, nc, Hc⟩ := hown.tail.tail.head
    have hfr : ∀ γ, (∃ q ∈ [(nx, .cells (some 130) [.yl β]), (nx + 11, .deferred (some [])), (nx + 12, LO)], (q : Nat × VObj).1 = γ) ↔ γ = nx ∨ γ = nx + 11 ∨ γ = nx + 12 := by
      intro γ
      simp [eq_comm]
    simp only [hfr] at hi
    refine qT mixed (psl := [14]) hLO Hc qQ rfl (by kernel_rfl) (by kernel_rfl) ?_
    intro LB LD hLB hLD
    refine qR (fun tm => tm 14 = sI e ∧ tm 1 = .tp (cGBk b) ∧ tm 2 = .ptr nx 0) (by refine ⟨?_, ?_, ?_⟩ <;> simp only [qO, qP, Tryz.ntmps115, e1, e2, seval]) ?_
    clear bg e1 e2
    rintro tm ⟨bl, e1, e2⟩
    have hne : (nx = nx + 12) = False := by simp
    simp only [vz, tyf, @cH, seval, ua, nm, rg, RStart, bl, e1, e2, Ha, Hc, hne]
    refine rF (fun tm => tm 4 = sI e ∧ tm 1 = .tp (cGBk b) ∧ tm 2 = .ptr nx 0) (by refine ⟨?_, ?_, ?_⟩ <;> simp only [ua, seval, e1, e2, bl]) ?_
    clear bl e1 e2 tm
    rintro tm ⟨e4, e1, e2⟩
    refine B1 mixed [4] (by kernel_rfl) ?_
    refine B0 (k := 4) (by decide) rfl rfl ?_
    simp only [vz, tyf, @cH, seval, ua, nm, rg, e4, e1, e2, Ha, Hc, hne]
    refine dknew ?_ (Md b e) ?_
    · have h1 : treeL (cGBk b) = true := rJ
      have h2 : treeL (aa eI e) = true := eI_ok.treeL _
      simp only [hZ] at h1
      simp [treeL, VV.tree, h2] at h1 ⊢
      exact h1
    simp only [vz, tyf, @cH, seval, ua, nm, rg, e4, e1, e2, Ha, Hc, hne]
    refine ia ⟨?_, ?_⟩
    · simp only [ib, ic, dv, ig, and_true, true_and]
      repeat' (first | exact trivial | refine And.intro ?_ ?_ | rw [dv] | rw [ij] | exact Or.inl (by decide +kernel) | exact Or.inl (by dsimp only; decide +kernel) | (refine Or.inr ⟨?_, ?_⟩ <;> simp; done) | (refine Or.inr ⟨?_, ?_⟩ <;> simp <;> omega) | (refine Or.inr ⟨?_, ?_⟩ <;> simp [VEff.wr] <;> omega))
    simp only [vz, tyf, @cH, seval, ua, nm, rg, EU, e4, e1, e2, Ha, Hc, hne]
    have Me : I (some (VV.agg (planC b e) :: p.map (plV b))) (fun γ => (Fr γ ∨ γ = nx ∨ γ = nx + 11 ∨ γ = nx + 12) ∨ γ = aV + 4) (updH (updH H1 (nx + 12) LB) (aV + 4) (.map [])) (aV + 7) := by
      refine hst _ _ _ _ _ _ _ hi ?_ (by omega) ?_
      · intro γ hlt hn
        have g3 : γ ≠ nx + 12 := fun e => hn (.inr (.inr (.inr e)))
        rw [aP, if_neg (by omega), aP, if_neg g3]
      · rintro γ (h | rfl)
        · exact .inl h
        · exact .inr ⟨by omega, by omega⟩
    refine (hr (planC b e) (p.map (plV b)) (fun γ => Fr γ ∨ γ = nx ∨ γ = nx + 11 ∨ γ = nx + 12) _ _ (aV + 4) ?_ (by omega) ?_ (by rw [aP, if_pos rfl]) Me) (some (some (nx + 12))) _ _ _ rfl rfl ?_
    · rintro γ (hγ | rfl | rfl | rfl)
      · have := hFr γ hγ; omega
      · omega
      · omega
      · omega
    · rintro (hγ | h | h | h)
      · have := hFr _ hγ; omega
      · omega
      · omega
      · omega
    rintro bb H2 dC ⟨q1, q2, q3⟩
    have Ka : H2 nx = some (.cells (some 130) [.yl β]) := by rw [q2 nx (.inr (.inl rfl))]; rw [aP, if_neg (by omega)]; simp only [aP, seval, hne, Ha]
    have Kb : H2 (nx + 11) = some (.deferred (some [])) := by rw [q2 _ (.inr (.inr (.inl rfl))), aP, if_neg (by omega), aP, if_neg (by omega)]; exact Hb
    have Kc : H2 (nx + 12) = some LB := by rw [q2 _ (.inr (.inr (.inr rfl))), aP, if_neg (by omega), aP, if_pos rfl]
    have KF : ∀ γ, Fr γ → H2 γ = H1 γ := by
      intro γ hγ
      have g3 : γ ≠ nx + 12 := fun e => nc (e ▸ hγ)
      have := hFr γ hγ
      rw [q2 γ (.inl hγ), aP, if_neg (by omega), aP, if_neg g3]
    cases bb with
    | true =>
      refine FK ?_
      simp only [vz, tyf, @cH, seval, ua, nm, rg, Bool.not_true]
      refine ⟨Kc, (show aV ≤ dC by omega), fun γ hγ => ?_, ?_⟩
      · have g3 : γ ≠ nx + 12 := fun e => nc (e ▸ hγ)
        simp only [updH]
        rw [if_neg g3]
        exact KF γ hγ
      · simp only [if_true] at q3 ⊢
        refine ⟨[(nx, .cells (some 130) [.yl β]), (nx + 11, .deferred (some [])), (nx + 12, LO)], some (p.map (plV b)), Own.cons (show nx < dC by omega) na ?_ (Own.cons (show nx + 11 < dC by omega) nb ?_ (Own.cons (show nx + 12 < dC by omega) nc ?_ Own.nil)), ?_, ?_⟩
        · simp only [aP, seval, hne, Ka]
        · simp only [aP, nm, seval, Kb]
        · simp only [aP, seval]
        · rw [hJ]
          exact ⟨p, rfl, rfl, rfl⟩
        · simp only [hfr]
          refine hst _ _ _ _ _ _ _ q3 ?_ (by omega) (fun γ h => .inl h)
          intro γ _ hn
          have g3 : γ ≠ nx + 12 := fun e => hn (.inr (.inr (.inr e)))
          simp only [updH]
          rw [if_neg g3]
    | false =>
      refine FK ?_
      simp only [vz, tyf, @cH, seval, ua, nm, rg, Bool.not_false]
      refine ⟨Kc, (show aV ≤ dC by omega), fun γ hγ => ?_, ?_⟩
      · have g3 : γ ≠ nx + 12 := fun e => nc (e ▸ hγ)
        simp only [updH]
        rw [if_neg g3]
        exact KF γ hγ
      · simp only [Bool.false_eq_true, if_false] at q3 ⊢
        have BR : ∀ γ, (∃ q ∈ [(nx, .cells (some 130) [.yl β]), (nx + 11, .deferred (some [])), (nx + 12, LD .ret)], (q : Nat × VObj).1 = γ) ↔ γ = nx ∨ γ = nx + 11 ∨ γ = nx + 12 := by
          intro γ
          simp [eq_comm]
        refine ⟨[(nx, .cells (some 130) [.yl β]), (nx + 11, .deferred (some [])), (nx + 12, LD .ret)], none, Own.cons (show nx < dC by omega) na ?_ (Own.cons (show nx + 11 < dC by omega) nb ?_ (Own.cons (show nx + 12 < dC by omega) nc ?_ Own.nil)), ?_, ?_⟩
        · simp only [aP, seval, hne, Ka]
        · simp only [aP, nm, seval, Kb]
        · simp only [aP, seval]
        · rw [hJ]
          exact ⟨LD, ⟨_, _, _, _, _, hLD⟩, rfl, rfl⟩
        · simp only [BR]
          refine hst _ _ _ _ _ _ _ q3 ?_ (by omega) (fun γ h => .inl h)
          intro γ _ hn
          have g3 : γ ≠ nx + 12 := fun e => hn (.inr (.inr (.inr e)))
          simp only [updH]
          rw [if_neg g3]
  · have hfr : ∀ γ, (∃ q ∈ [(nx, .cells (some 130) [.yl β]), (nx + 11, .deferred (some [])), (nx + 12, LO)], (q : Nat × VObj).1 = γ) ↔ γ = nx ∨ γ = nx + 11 ∨ γ = nx + 12 := by
      intro γ
      simp [eq_comm]
    refine ⟨[(nx, .cells (some 130) [.yl β]), (nx + 11, .deferred (some [])), (nx + 12, LO)], some (L.map (plV b)), Own.cons (show nx < nx + 13 by omega) (fun h => h) ?_ (Own.cons (show nx + 11 < nx + 13 by omega) (fun h => h) ?_ (Own.cons (show nx + 12 < nx + 13 by omega) (fun h => h) ?_ Own.nil)), ?_, ?_⟩
    · simp only [updH]
      rw [if_neg (by omega), if_neg (by omega), if_pos (by omega)]
    · simp only [updH]
      simp
    · simp only [updH]
      simp
    · rw [hJ]
      exact ⟨L, rfl, rfl, rfl⟩
    · simp only [hfr]
      refine hst _ _ _ _ _ _ _ hI ?_ (by omega) ?_
      · intro γ hγ _
        simp only [updH]
        repeat rw [if_neg (by omega)]
      · rintro γ (h | rfl | rfl | rfl)
        · exact h.elim
        · right; omega
        · right; omega
        · right; omega
  · rintro H' nx' (⟨hp, o', hown, hj, hi⟩ | ⟨hp, o', hown, hj, hi⟩)
    · rw [hJ] at hj
      obtain ⟨p, hl, rfl, rfl⟩ := hj
      cases p with
      | cons e p => cases hl
      | nil =>
      obtain ⟨la, na, Ha⟩ := hown.head
      obtain ⟨lb, nb, Hb⟩ := hown.tail.head
      obtain ⟨lc, nc, Hc⟩ := hown.tail.tail.head
      have hfr : ∀ γ, (∃ q ∈ [(nx, .cells (some 130) [.yl β]), (nx + 11, .deferred (some [])), (nx + 12, LO)], (q : Nat × VObj).1 = γ) ↔ γ = nx ∨ γ = nx + 11 ∨ γ = nx + 12 := by
        intro γ
        simp [eq_comm]
      simp only [hfr] at hi
      refine sZ hLO Hc ?_
      intro LX
      simp only [vz, tyf, @cH, seval, ua, nm, rg]
      refine tf (by simp only [aP, nm, seval, Hb]) ?_
      refine Fg (x := .tup []) (by simp [Tryz.results115, resV, resL]) (.inl ?_)
      refine hst _ _ _ _ _ _ _ hi ?_ (Nat.le_refl _) (fun γ h => h.elim)
      intro γ _ hn
      have g2 : γ ≠ nx + 11 := fun e => hn (.inr (.inr (.inl e)))
      have g3 : γ ≠ nx + 12 := fun e => hn (.inr (.inr (.inr e)))
      simp only [updH]
      repeat rw [if_neg (by first | assumption | omega)]
    · rw [hJ] at hj
      obtain ⟨LD, ⟨tml, ps, az, bo, d, hLD⟩, rfl, rfl⟩ := hj
      obtain ⟨la, na, Ha⟩ := hown.head
      obtain ⟨lb, nb, Hb⟩ := hown.tail.head
      obtain ⟨lc, nc, Hc⟩ := hown.tail.tail.head
      have hfr : ∀ γ, (∃ q ∈ [(nx, .cells (some 130) [.yl β]), (nx + 11, .deferred (some [])), (nx + 12, LD .ret)], (q : Nat × VObj).1 = γ) ↔ γ = nx ∨ γ = nx + 11 ∨ γ = nx + 12 := by
        intro γ
        simp [eq_comm]
      simp only [hfr] at hi
      refine HT hLD Hc ?_
      intro LX
      simp only [vz, tyf, @cH, seval, ua, nm, rg]
      refine te (by simp only [aP, nm, seval, Hb]) ?_
      refine bG (x := .tup []) (by simp [Tryz.results115, resV, resL]) (.inr ?_)
      refine hst _ _ _ _ _ _ _ hi ?_ (Nat.le_refl _) (fun γ h => h.elim)
      intro γ _ hn
      have g2 : γ ≠ nx + 11 := fun e => hn (.inr (.inr (.inl e)))
      have g3 : γ ≠ nx + 12 := fun e => hn (.inr (.inr (.inr e)))
      simp only [updH]
      repeat rw [if_neg (by first | assumption | omega)]
def lg (rc : GBk → (List Int) → Int → Int → (List (GBe × Int)) → Option ((Int) × List (GBe × Int))) (xb : GBk) (xp : List Int) (xs : Int) (xh : Int) (l0 : List (GBe × Int)) : Nat → Int → Option (LOut ((Int) × List (GBe × Int)) (Int))
 | 0, _ => none
 | k0 + 1, cg => cond (decide (cg ≥ 0)) (Option.bind (getI xp cg) (fun x1 => Option.bind (getI xp xs) (fun x2 => cond (x1 == x2) (Option.bind (rc xb xp cg xh l0) (fun r3 => some (.ret (r3.1, r3.2)))) (lg rc xb xp xs xh l0 k0 (i64.wrap (cg - 1)))))) (some (.go cg))
def pK (rc : GBk → (List Int) → Int → Int → (List (GBe × Int)) → Option ((Int) × List (GBe × Int))) (xb : GBk) (xp : List Int) (xs : Int) (xh : Int) (l0 : List (GBe × Int)) : Option ((Int) × List (GBe × Int)) := lbind (lg rc xb xp xs xh l0 1000000 (i64.wrap (xs - 1))) (fun r5 => some r5) (fun c4 => some (0, l0)) (fun _ _ => none)
theorem Mf (rc : GBk → (List Int) → Int → Int → (List (GBe × Int)) → Option ((Int) × List (GBe × Int))) (rc_ok : ∀ (xb : GBk) (xp : List Int) (xs : Int) (xh : Int) (l0 : List (GBe × Int)) (R : (Int) × List (GBe × Int)), rc xb xp xs xh l0 = some R → VUpd Tryz.prog G0 118 (fun β => [.agg [.lit (.int .i64 xb.Apprentices), .sl (aa eI xb.Boards) (List.length xb.Boards) false, .sl (aa cGBs xb.Strokes) (List.length xb.Strokes) false, .sl (aa eI xp) (List.length xp) false, .mp β], .lit (.int .i64 xs), .lit (.int .i64 xh)]) (encM aL bu l0) (encM aL bu R.2) (fun _ => .lit (.int .i64 R.1))) (xb : GBk) (xp : List Int) (xs : Int) (xh : Int) (l0 : List (GBe × Int)) (R : (Int) × List (GBe × Int)) (h : pK rc xb xp xs xh l0 = some R) : VUpd Tryz.prog G0 108 (fun β => [.agg [.lit (.int .i64 xb.Apprentices), .sl (aa eI xb.Boards) (List.length xb.Boards) false, .sl (aa cGBs xb.Strokes) (List.length xb.Strokes) false, .sl (aa eI xp) (List.length xp) false, .mp β], .lit (.int .i64 xs), .lit (.int .i64 xh)]) (encM aL bu l0) (encM aL bu R.2) (fun _ => .lit (.int .i64 R.1)) := by
 intro aW nx hlt
 have aR := fP (β := aW) (nx := nx) hlt
 refine al.run mixed Tryz.call108 Tryz.func108 rfl (by simp [Tryz.ntmps108]; kernel_rfl) ?_
 obtain ⟨KF, h, kF, kN⟩ := cu h
 simp only [pK] at h
 simp only [vz, mq, mqm, vsi, tyf, mqt, aR, nm, seval]
 obtain ⟨K6, h, Mg, Mh, NX, rV⟩ := gB h kN
 obtain ⟨f6, Mi, h⟩ := call2 h
 obtain ⟨I6, BS⟩ : ∃ I : Nat → St → Prop, I = (fun m st => ∃ (p6 : Nat) (fQ : Int), p6 = m ∧ st.df = [] ∧ nx + 5 ≤ st.nx ∧ st.H aW = some (.map (encM aL bu l0)) ∧ st.H nx = some (.cells (some 92) ((cGBk xb) ++ [.sl (aa eI xp) (List.length xp) false] ++ [.mp aW])) ∧ st.tm 1 = .lit (.int .i64 xs) ∧ st.tm 2 = .lit (.int .i64 xh) ∧ st.tm 3 = .ptr nx 0 ∧ st.tm 7 = .lit (.int .i64 fQ) ∧ K6 (f6 p6 fQ)) := ⟨_, rfl⟩
 refine loopK mixed (by kernel_rfl) I6 1000000 (by rw [BS]; refine ⟨1000000, i64.wrap (xs - 1), rfl, rfl, (show nx + 5 ≤ nx + 5 by omega), ?_, ?_, ?_, ?_, ?_, ?_, h⟩ <;> first | (simp only [ua, bt, aR, nm, seval] <;> rfl) | rfl) ?_
 rintro m ⟨tm, H, BT, df⟩ hinv
 rw [BS] at hinv
 obtain ⟨p6, fQ, rfl, hdf, Mj, H7, H8, e9, aY, b7, b6, h⟩ := hinv
 simp only at hdf Mj H7 H8 e9 aY b7 b6
 have lh := iK (a := nx) (m := 5) (b := BT) (by omega)
 have lj := fP (β := aW) (nx := BT) (by omega)
 subst hdf Mi
 cases p6 with
 | zero =>
  simp only [lg, hs, reduceCtorEq] at h
  exact absurd h rV
 | succ p6 =>
  simp only [lg, hs, reduceCtorEq] at h
  cases fR : (decide (fQ ≥ 0))
  ·simp only [fR, hs] at h
   replace h := Mh _ h
   try dsimp only at h
   try simp only [hs] at h
   try simp only [vz, mq, mqm, vsi, tyf, mqt, aR, lh, lj, e9, aY, b7, b6, H7, H8, fR, nm, seval]
   refine bG (x := (.lit (.int .i64 0))) (by first | (simp only [Tryz.results108, resV, resL, resV1, bN, bO, uw, cr, tyf, mqt, aR, lh, lj, H7, H8, fR, nm, seval] <;> rfl) | rfl) ?_
   obtain rfl := kF _ h
   refine ⟨(by first | rfl | assumption | (simp only [aP, b9, aR, lh, lj, H7, H8, nm, seval] <;> rfl)), ?_⟩
   exact sq_of (i6 (by simp only [tre, tytre, mqr, Bool.and_self]) rfl)
  simp only [fR, hs] at h
  simp only [vz, mq, mqm, vsi, tyf, mqt, aR, lh, lj, e9, aY, b7, b6, H7, H8, fR, nm, seval]
  refine wt (fun tm => tm 1 = .lit (.int .i64 xs) ∧ tm 2 = .lit (.int .i64 xh) ∧ tm 3 = .ptr nx 0 ∧ tm 7 = .lit (.int .i64 fQ) ∧ True) (by refine ⟨e9, aY, b7, b6, trivial⟩ <;> first | (simp only [ua, bt, aR, lh, lj, e9, aY, b7, b6, H7, H8, fR, nm, seval] <;> rfl) | rfl) ?_
  rintro tm ⟨bA, bB, cG, bw, _⟩
  obtain ⟨Mk, rW, h⟩ := optI h rV
  try simp only [hs] at h
  obtain ⟨Ml, gg, h⟩ := optI h rV
  try simp only [hs] at h
  cases bS : (Mk == Ml)
  ·simp only [bS, hs] at h
   have BU := And.intro aR (And.intro lh (And.intro lj (And.intro H7 (And.intro H8 (And.intro fR bS)))))
   simp only [vz, mq, mqm, vsi, tyf, mqt, BU, bA, bB, cG, bw, (aT rW), (aT gg), nm, seval]
   exact ⟨p6, Nat.lt_succ_self _, by rw [BS]; refine ⟨p6, i64.wrap (fQ - 1), rfl, rfl, (show nx + 5 ≤ BT + 16 by omega), ?_, ?_, bA, bB, cG, ?_, (by first | exact h | (simp only [BU]; exact h))⟩ <;> first | (simp only [ua, bt, BU, bA, bB, cG, bw, nm, seval] <;> rfl) | rfl⟩
  simp only [bS, hs] at h
  have m0 := And.intro aR (And.intro lh (And.intro lj (And.intro H7 (And.intro H8 (And.intro fR bS)))))
  obtain ⟨BV, Mm, h⟩ := optI h rV
  try simp only [hs] at h
  simp only [vz, mq, mqm, vsi, tyf, mqt, m0, bA, bB, cG, bw, (aT rW), (aT gg), nm, seval]
  refine kupd (VUpd.at (β := aW) (y := (fun _ => .lit (.int .i64 BV.1))) (rc_ok _ _ _ _ _ _ Mm) (by omega) (by first | rfl | assumption | (simp only [aP, b9, m0, nm, seval] <;> rfl)) (by first | rfl | (simp only [nrm, tynrm, @cF, @eC] <;> rfl)) (dY (fun _ => rfl) _)) ?_
  refine ez (fun tm => tm 28 = .lit (.int .i64 BV.1) ∧ True) (by refine ⟨?_, trivial⟩ <;> first | (simp only [ua, bt, m0, bA, bB, cG, bw, nm, seval] <;> rfl) | rfl) ?_
  rintro tm ⟨dV, _⟩
  try simp only [vz, mq, mqm, vsi, tyf, mqt, m0, (aT rW), (aT gg), dV, nm, seval]
  refine bG (x := (.lit (.int .i64 BV.1))) (by first | (simp only [Tryz.results108, resV, resL, resV1, bN, bO, uw, cr, tyf, mqt, m0, (aT rW), (aT gg), nm, seval] <;> rfl) | rfl) ?_
  replace h := Mg _ h
  try dsimp only at h
  obtain rfl := kF _ h
  refine ⟨(by first | rfl | assumption | (simp only [aP, b9, m0, nm, seval] <;> rfl)), ?_⟩
  exact sq_of (i6 (by simp only [tre, tytre, mqr, Bool.and_self]) rfl)
def m2  : List Int → Int → Int → Option (LOut (Int) (Int))
 | [], pL, bU => some (.go bU)
 | e0 :: p0, pL, bU => m2 p0 (pL + 1) (if bU < e0 then e0 else bU)
def lk (aO : List Int) : Option (Int) := cond (lenOk aO) (lbind (m2 aO 0 0) (fun r2 => some r2) (fun c1 => some c1) (fun _ _ => none)) none
theorem BW (aO : List Int) (R : Int) (h : lk aO = some R) : ag Tryz.prog G0 105 [.sl (aa eI aO) (List.length aO) false] (.tree (.lit (.int .i64 R))) := by
 refine ag.runR mixed Tryz.call105 Tryz.func105 rfl (by simp [Tryz.ntmps105]; kernel_rfl) ?_
 obtain ⟨KF, h, kF, kN⟩ := cu h
 simp only [lk] at h
 cases g4 : (lenOk aO)
 ·simp only [g4, hs] at h
  exact absurd h kN
 simp only [g4, hs] at h
 simp only [vz, tyf, g4, nm, seval]
 obtain ⟨K3, h, Gn, rX, Mn, Mo⟩ := gB h kN
 obtain ⟨f3, BX, h⟩ := call3 h
 obtain ⟨I3, ll⟩ : ∃ I : Nat → St → Prop, I = (fun m st => ∃ (p3 : List Int) (dW : Int) (bP : Int), m = List.length p3 ∧ 0 ≤ dW ∧ List.drop (Int.toNat dW) aO = p3 ∧ st.df = [] ∧ 5 ≤ st.nx ∧ st.tm 6 = .sl (aa eI aO) (List.length aO) false ∧ st.tm 7 = .lit (.int .i64 (List.length aO : Int)) ∧ st.tm 3 = .lit (.int .i64 bP) ∧ st.tm 8 = .lit (.int .i64 dW) ∧ K3 (f3 p3 dW bP)) := ⟨_, rfl⟩
 refine loopK mixed (by kernel_rfl) I3 (List.length aO) (by rw [ll]; refine ⟨aO, 0, 0, rfl, Int.le_refl _, rfl, rfl, (show 5 ≤ 5 by omega), ?_, ?_, ?_, ?_, h⟩ <;> first | (simp only [ua, nm, seval] <;> rfl) | rfl) ?_
 rintro m ⟨tm, H, pM, df⟩ hinv
 rw [ll] at hinv
 obtain ⟨p3, dW, bP, rfl, fe, gP, hdf, BY, e5, e6, e7, e8, h⟩ := hinv
 simp only at hdf BY e5 e6 e7 e8
 have n9 := ik (m := 5) (b := pM) (by omega)
 subst hdf BX
 cases p3 with
 | nil =>
  have jx : (decide (dW < (List.length aO : Int))) = false := g9 fe gP
  simp only [m2, hs, reduceCtorEq] at h
  replace h := rX _ h
  try dsimp only at h
  try simp only [hs] at h
  try simp only [vz, tyf, g4, n9, e5, e6, e7, e8, jx, nm, seval]
  refine bG (x := (.lit (.int .i64 bP))) (by first | (simp only [Tryz.results105, resV, resL, resV1, bN, bO, uw, cr, tyf, g4, n9, jx, nm, seval] <;> rfl) | rfl) ?_
  obtain rfl := kF _ h
  refine dM ?_ ?_
  ·simp only [tre, tytre, Bool.and_self]
  ·first | (simp only [outV, uw, dE, cr, tyf, nrm, tynrm, g4, n9, e5, e6, e7, e8, jx, nm, seval] <;> rfl) | rfl
 | cons e3 p3 =>
  have dA : (decide (dW < (List.length aO : Int))) = true := g0 fe gP
  have m3 := ec fe gP
  have lp := gA fe gP g4
  simp only [m2, hs, reduceCtorEq] at h
  simp only [vz, tyf, g4, n9, e5, e6, e7, e8, dA, (aT m3), lp, nm, seval]
  exact ⟨List.length p3, Nat.lt_succ_self _, by rw [ll]; refine ⟨p3, dW + 1, (if bP < e3 then e3 else bP), rfl, Int.le_trans fe (Int.le_add_one (Int.le_refl _)), eM fe gP, rfl, (show 5 ≤ pM + 10 by omega), e5, e6, ?_, ?_, (by first | exact h | (simp only [dA]; exact h))⟩ <;> first | (simp only [ua, n9, e5, e6, e7, e8, dA, lp, nm, seval] <;> rfl) | rfl⟩
def iP (rc : GBk → (List Int) → Int → Int → (List (GBe × Int)) → Option ((Int) × List (GBe × Int))) (xb : GBk) (xp : List Int) (xh : Int) : List Int → Int → (List Int) → (List (GBe × Int)) → Option (LOut ((List Int) × List (GBe × Int)) ((List Int) × (List (GBe × Int))))
 | [], jy, cg, cW => some (.go (cg, cW))
 | e0 :: p0, jy, cg, cW => Option.bind (rc xb xp e0 xh cW) (fun r2 => cond (roomOk 8 (List.length (cg ++ [r2.1]))) (iP rc xb xp xh p0 (jy + 1) (cg ++ [r2.1]) r2.2) none)
def pN (rc : GBk → (List Int) → Int → Int → (List (GBe × Int)) → Option ((Int) × List (GBe × Int))) (xb : GBk) (xp : List Int) (xss : List Int) (xh : Int) (l0 : List (GBe × Int)) : Option ((List Int) × List (GBe × Int)) := cond (lenOk xss) (lbind (iP rc xb xp xh xss 0 ([] : List Int) l0) (fun r4 => some r4) (fun c3 => some (c3.1, c3.2)) (fun _ _ => none)) none
theorem Mp (rc : GBk → (List Int) → Int → Int → (List (GBe × Int)) → Option ((Int) × List (GBe × Int))) (rc_ok : ∀ (xb : GBk) (xp : List Int) (xs : Int) (xh : Int) (l0 : List (GBe × Int)) (R : (Int) × List (GBe × Int)), rc xb xp xs xh l0 = some R → VUpd Tryz.prog G0 118 (fun β => [.agg [.lit (.int .i64 xb.Apprentices), .sl (aa eI xb.Boards) (List.length xb.Boards) false, .sl (aa cGBs xb.Strokes) (List.length xb.Strokes) false, .sl (aa eI xp) (List.length xp) false, .mp β], .lit (.int .i64 xs), .lit (.int .i64 xh)]) (encM aL bu l0) (encM aL bu R.2) (fun _ => .lit (.int .i64 R.1))) (xb : GBk) (xp : List Int) (xss : List Int) (xh : Int) (l0 : List (GBe × Int)) (R : (List Int) × List (GBe × Int)) (h : pN rc xb xp xss xh l0 = some R) : VUpd Tryz.prog G0 106 (fun β => [.agg [.lit (.int .i64 xb.Apprentices), .sl (aa eI xb.Boards) (List.length xb.Boards) false, .sl (aa cGBs xb.Strokes) (List.length xb.Strokes) false, .sl (aa eI xp) (List.length xp) false, .mp β], .sl (aa eI xss) (List.length xss) false, .lit (.int .i64 xh)]) (encM aL bu l0) (encM aL bu R.2) (fun _ => .sl (aa eI R.1) (List.length R.1) false) := by
 intro aW nx hlt
 have aR := fP (β := aW) (nx := nx) hlt
 refine al.run mixed Tryz.call106 Tryz.func106 rfl (by simp [Tryz.ntmps106]; kernel_rfl) ?_
 obtain ⟨KF, h, kF, kN⟩ := cu h
 simp only [pN] at h
 cases g6 : (lenOk xss)
 ·simp only [g6, hs] at h
  exact absurd h kN
 simp only [g6, hs] at h
 simp only [vz, mq, mqm, vsi, tyf, mqt, aR, g6, nm, seval]
 obtain ⟨K5, h, Gp, rY, Mq, m4⟩ := gB h kN
 obtain ⟨f5, BZ, h⟩ := call4 h
 obtain ⟨I5, jz⟩ : ∃ I : Nat → St → Prop, I = (fun m st => ∃ (p5 : List Int) (bz : Int) (bd : List Int) (gQ : List (GBe × Int)) (iQ : VV), m = List.length p5 ∧ 0 ≤ bz ∧ List.drop (Int.toNat bz) xss = p5 ∧ st.df = [] ∧ nx + 6 ≤ st.nx ∧ st.H aW = some (.map (encM aL bu gQ)) ∧ st.H nx = some (.cells (some 92) ((cGBk xb) ++ [.sl (aa eI xp) (List.length xp) false] ++ [.mp aW])) ∧ st.tm 2 = .lit (.int .i64 xh) ∧ st.tm 3 = .ptr nx 0 ∧ st.tm 10 = .sl (aa eI xss) (List.length xss) false ∧ st.tm 11 = .lit (.int .i64 (List.length xss : Int)) ∧ st.tm 7 = iQ ∧ st.tm 12 = .lit (.int .i64 bz) ∧ ((∃ (β : Nat) (el : Option TypeId), iQ = .ref β 0 (List.length bd) 1 (List.length bd) ∧ β < st.nx ∧ β ≠ aW ∧ β ≠ nx ∧ st.H β = some (.cells el (aa eI bd))) ∨ (iQ = .lit (.slice none 0 0) ∧ bd = [])) ∧ K5 (f5 p5 bz bd gQ)) := ⟨_, rfl⟩
 refine loopK mixed (by kernel_rfl) I5 (List.length xss) (by rw [jz]; refine ⟨xss, 0, ([] : List Int), l0, .lit (.slice none 0 0), rfl, Int.le_refl _, rfl, rfl, (show nx + 6 ≤ nx + 6 by omega), ?_, ?_, ?_, ?_, ?_, ?_, ?_, ?_, Or.inr ⟨rfl, rfl⟩, h⟩ <;> first | (simp only [ua, bt, aR, nm, seval] <;> rfl) | rfl) ?_
 rintro m ⟨tm, H, gR, df⟩ hinv
 rw [jz] at hinv
 obtain ⟨p5, bz, bd, gQ, iQ, rfl, dB, ed, hdf, Ca, H7, H8, e9, aY, b7, b6, bg, bl, j0, h⟩ := hinv
 simp only at hdf Ca H7 H8 e9 aY b7 b6 bg bl j0
 have cP := iK (a := nx) (m := 6) (b := gR) (by omega)
 have cQ := fP (β := aW) (nx := gR) (by omega)
 subst hdf BZ
 rcases j0 with ⟨pO, j1, rfl, Cb, Cc, Cd, iR⟩ | ⟨rfl, rfl⟩
 ·have iS := fP Cb
  have iT := ne_f Cc
  have iU := ne_f Cd
  cases p5 with
  | nil =>
   have lq : (decide (bz < (List.length xss : Int))) = false := g9 dB ed
   simp only [iP, hs, reduceCtorEq] at h
   replace h := rY _ h
   try dsimp only at h
   try simp only [hs] at h
   try simp only [vz, mq, mqm, vsi, tyf, mqt, aR, g6, cP, cQ, e9, aY, b7, b6, bg, bl, H7, H8, iS, iR, iT, iU, lq, nm, seval]
   refine bG (x := (.ref pO 0 (List.length bd) 1 (List.length bd))) (by first | (simp only [Tryz.results106, resV, resL, resV1, bN, bO, uw, cr, tyf, mqt, aR, g6, cP, cQ, H7, H8, iS, iR, iT, iU, lq, nm, seval] <;> rfl) | rfl) ?_
   obtain rfl := kF _ h
   refine ⟨(by first | rfl | assumption | (simp only [aP, b9, aR, cP, cQ, H7, H8, iS, iR, iT, iU, nm, seval] <;> rfl)), ?_⟩
   exact tQ (by first | rfl | assumption | (simp only [aP, b9, aR, cP, cQ, H7, H8, iS, iR, iT, iU, nm, seval] <;> rfl)) (by first | rfl | assumption | (simp only [aP, b9, aR, cP, cQ, H7, H8, iS, iR, iT, iU, nm, seval] <;> rfl)) eI_ok (fun _ => rfl)
  | cons e5 p5 =>
   have Ce : (decide (bz < (List.length xss : Int))) = true := g0 dB ed
   have pP := ec dB ed
   have Cf := gA dB ed g6
   simp only [iP, hs, reduceCtorEq] at h
   obtain ⟨gS, Cg, h⟩ := optI h m4
   try simp only [hs] at h
   simp only [vz, mq, mqm, vsi, tyf, mqt, aR, g6, cP, cQ, e9, aY, b7, b6, bg, bl, H7, H8, iS, iR, iT, iU, Ce, (aT pP), Cf, nm, seval]
   refine kupd (VUpd.at (β := aW) (y := (fun _ => .lit (.int .i64 gS.1))) (rc_ok _ _ _ _ _ _ Cg) (by omega) (by first | rfl | assumption | (simp only [aP, b9, aR, cP, cQ, H7, H8, iS, iR, iT, iU, nm, seval] <;> rfl)) (by first | rfl | (simp only [nrm, tynrm, @cF, @eC] <;> rfl)) (dY (fun _ => rfl) _)) ?_
   refine ez (fun tm => tm 2 = .lit (.int .i64 xh) ∧ tm 3 = .ptr nx 0 ∧ tm 10 = .sl (aa eI xss) (List.length xss) false ∧ tm 11 = .lit (.int .i64 (List.length xss : Int)) ∧ tm 12 = .lit (.int .i64 bz) ∧ tm 16 = .ref pO 0 (List.length bd) 1 (List.length bd) ∧ tm 20 = .lit (.int .i64 gS.1) ∧ True) (by refine ⟨e9, aY, b7, b6, bl, ?_, ?_, trivial⟩ <;> first | (simp only [ua, bt, aR, cP, cQ, e9, aY, b7, b6, bg, bl, H7, H8, iS, iR, iT, iU, Ce, Cf, nm, seval] <;> rfl) | rfl) ?_
   rintro tm ⟨b8, eP, dV, cU, cy, dP, dQ, _⟩
   have gh := And.intro aR (And.intro g6 (And.intro cP (And.intro cQ (And.intro H7 (And.intro H8 (And.intro iS (And.intro iR (And.intro iT (And.intro iU (And.intro Ce Cf))))))))))
   cases eQ : (roomOk 8 (List.length (bd ++ [gS.1])))
   ·simp only [eQ, hs] at h
    exact absurd h m4
   simp only [eQ, hs] at h
   simp only [vz, mq, mqm, vsi, tyf, mqt, gh, (aT pP), b8, eP, dV, cU, cy, dP, dQ, eQ, nm, seval]
   refine k_app (w := 1) (enc := eI) (xs := bd) (ys := ([gS.1])) (el := j1) (mj := (some 3)) (fun _ => rfl) gE gD Tryz.underlying22 (by first | rfl | assumption | (simp only [aP, b9, gC, gh, nm, seval] <;> rfl) | (simp only [aP, b9, rD, B9, p9, pA, tyf, mqt, gh, (aT pP), b8, eP, dV, cU, cy, dP, dQ, eQ, nm, seval]; done)) (by first | rfl | assumption | (simp only [aP, b9, gC, gh, nm, seval] <;> rfl) | (simp only [aP, b9, rD, B9, p9, pA, tyf, mqt, gh, (aT pP), b8, eP, dV, cU, cy, dP, dQ, eQ, nm, seval]; done)) (Nat.zero_lt_succ _) eQ ?_
   simp only [vz, mq, mqm, vsi, tyf, mqt, gh, (aT pP), b8, eP, dV, cU, cy, dP, dQ, eQ, nm, seval]
   exact ⟨List.length p5, Nat.lt_succ_self _, by rw [jz]; refine ⟨p5, bz + 1, (bd ++ [gS.1]), gS.2, .ref (gR + 10) 0 (List.length (bd ++ [gS.1])) 1 (List.length (bd ++ [gS.1])), rfl, Int.le_trans dB (Int.le_add_one (Int.le_refl _)), eM dB ed, rfl, (show nx + 6 ≤ gR + 14 by omega), ?_, ?_, b8, eP, dV, cU, ?_, ?_, Or.inl ⟨gR + 10, (sameEl j1 3), rfl, (by first | omega | (simp only [nm, seval]; done) | (simp only [nm, seval]; omega)), (by first | omega | (intro hh; simp only [gh, reduceCtorEq] at hh)), (by first | omega | (intro hh; simp only [gh, reduceCtorEq] at hh)), ?_⟩, (by first | exact h | (simp only [gh]; exact h))⟩ <;> first | (simp only [ua, bt, gh, b8, eP, dV, cU, cy, dP, dQ, nm, seval] <;> rfl) | rfl⟩
 ·cases p5 with
  | nil =>
   have Gq : (decide (bz < (List.length xss : Int))) = false := g9 dB ed
   simp only [iP, hs, reduceCtorEq] at h
   replace h := rY _ h
   try dsimp only at h
   try simp only [hs] at h
   try simp only [vz, mq, mqm, vsi, tyf, mqt, aR, g6, cP, cQ, e9, aY, b7, b6, bg, bl, H7, H8, Gq, nm, seval]
   refine bG (x := (.lit (.slice none 0 0))) (by first | (simp only [Tryz.results106, resV, resL, resV1, bN, bO, uw, cr, tyf, mqt, aR, g6, cP, cQ, H7, H8, Gq, nm, seval] <;> rfl) | rfl) ?_
   obtain rfl := kF _ h
   refine ⟨(by first | rfl | assumption | (simp only [aP, b9, aR, cP, cQ, H7, H8, nm, seval] <;> rfl)), ?_⟩
   exact sq_of tO
  | cons e5 p5 =>
   have Ch : (decide (bz < (List.length xss : Int))) = true := g0 dB ed
   have rZ := ec dB ed
   have Ci := gA dB ed g6
   simp only [iP, hs, reduceCtorEq] at h
   obtain ⟨j2, j3, h⟩ := optI h m4
   try simp only [hs] at h
   simp only [vz, mq, mqm, vsi, tyf, mqt, aR, g6, cP, cQ, e9, aY, b7, b6, bg, bl, H7, H8, Ch, (aT rZ), Ci, nm, seval]
   refine kupd (VUpd.at (β := aW) (y := (fun _ => .lit (.int .i64 j2.1))) (rc_ok _ _ _ _ _ _ j3) (by omega) (by first | rfl | assumption | (simp only [aP, b9, aR, cP, cQ, H7, H8, nm, seval] <;> rfl)) (by first | rfl | (simp only [nrm, tynrm, @cF, @eC] <;> rfl)) (dY (fun _ => rfl) _)) ?_
   refine ez (fun tm => tm 2 = .lit (.int .i64 xh) ∧ tm 3 = .ptr nx 0 ∧ tm 10 = .sl (aa eI xss) (List.length xss) false ∧ tm 11 = .lit (.int .i64 (List.length xss : Int)) ∧ tm 12 = .lit (.int .i64 bz) ∧ tm 16 = .lit (.slice none 0 0) ∧ tm 20 = .lit (.int .i64 j2.1) ∧ True) (by refine ⟨e9, aY, b7, b6, bl, ?_, ?_, trivial⟩ <;> first | (simp only [ua, bt, aR, cP, cQ, e9, aY, b7, b6, bg, bl, H7, H8, Ch, Ci, nm, seval] <;> rfl) | rfl) ?_
   rintro tm ⟨ff, fg, b2, b3, bH, bE, bp, _⟩
   have j4 := And.intro aR (And.intro g6 (And.intro cP (And.intro cQ (And.intro H7 (And.intro H8 (And.intro Ch Ci))))))
   cases m5 : (roomOk 8 (List.length (([] : List Int) ++ [j2.1])))
   ·simp only [m5, hs] at h
    exact absurd h m4
   simp only [m5, hs] at h
   simp only [vz, mq, mqm, vsi, tyf, mqt, j4, (aT rZ), ff, fg, b2, b3, bH, bE, bp, m5, nm, seval]
   refine o7 (w := 1) (enc := eI) (ys := ([j2.1])) (mj := (some 3)) (fun _ => rfl) gE gD Tryz.underlying22 (by first | rfl | assumption | (simp only [aP, b9, gC, j4, nm, seval] <;> rfl) | (simp only [aP, b9, rD, B9, p9, pA, tyf, mqt, j4, (aT rZ), ff, fg, b2, b3, bH, bE, bp, m5, nm, seval]; done)) (Nat.zero_lt_succ _) m5 ?_
   simp only [vz, mq, mqm, vsi, tyf, mqt, j4, (aT rZ), ff, fg, b2, b3, bH, bE, bp, m5, nm, seval]
   exact ⟨List.length p5, Nat.lt_succ_self _, by rw [jz]; refine ⟨p5, bz + 1, (([] : List Int) ++ [j2.1]), j2.2, .ref (gR + 10) 0 (List.length (([] : List Int) ++ [j2.1])) 1 (List.length (([] : List Int) ++ [j2.1])), rfl, Int.le_trans dB (Int.le_add_one (Int.le_refl _)), eM dB ed, rfl, (show nx + 6 ≤ gR + 14 by omega), ?_, ?_, ff, fg, b2, b3, ?_, ?_, Or.inl ⟨gR + 10, (some 3), rfl, (by first | omega | (simp only [nm, seval]; done) | (simp only [nm, seval]; omega)), (by first | omega | (intro hh; simp only [j4, reduceCtorEq] at hh)), (by first | omega | (intro hh; simp only [j4, reduceCtorEq] at hh)), ?_⟩, (by first | exact h | (simp only [j4]; exact h))⟩ <;> first | (simp only [ua, bt, j4, ff, fg, b2, b3, bH, bE, bp, nm, seval] <;> rfl) | rfl⟩
def pQ (rc : GBk → (List Int) → Int → Int → (List (GBe × Int)) → Option ((Int) × List (GBe × Int))) (xb : GBk) (xp : List Int) (xs : Int) (xh : Int) (l0 : List (GBe × Int)) : Option ((Int) × List (GBe × Int)) := Option.bind (pK rc xb xp xs xh l0) (fun r1 => Option.bind (getI xb.Strokes xs) (fun x2 => Option.bind (pN rc xb xp x2.Needs xh r1.2) (fun r3 => Option.bind (lk r3.1) (fun r4 => Option.bind (lk ([r1.1, r4])) (fun r5 => some (r5, r3.2))))))
theorem Gr (rc : GBk → (List Int) → Int → Int → (List (GBe × Int)) → Option ((Int) × List (GBe × Int))) (rc_ok : ∀ (xb : GBk) (xp : List Int) (xs : Int) (xh : Int) (l0 : List (GBe × Int)) (R : (Int) × List (GBe × Int)), rc xb xp xs xh l0 = some R → VUpd Tryz.prog G0 118 (fun β => [.agg [.lit (.int .i64 xb.Apprentices), .sl (aa eI xb.Boards) (List.length xb.Boards) false, .sl (aa cGBs xb.Strokes) (List.length xb.Strokes) false, .sl (aa eI xp) (List.length xp) false, .mp β], .lit (.int .i64 xs), .lit (.int .i64 xh)]) (encM aL bu l0) (encM aL bu R.2) (fun _ => .lit (.int .i64 R.1))) (xb : GBk) (xp : List Int) (xs : Int) (xh : Int) (l0 : List (GBe × Int)) (R : (Int) × List (GBe × Int)) (h : pQ rc xb xp xs xh l0 = some R) : VUpd Tryz.prog G0 107 (fun β => [.agg [.lit (.int .i64 xb.Apprentices), .sl (aa eI xb.Boards) (List.length xb.Boards) false, .sl (aa cGBs xb.Strokes) (List.length xb.Strokes) false, .sl (aa eI xp) (List.length xp) false, .mp β], .lit (.int .i64 xs), .lit (.int .i64 xh)]) (encM aL bu l0) (encM aL bu R.2) (fun _ => .lit (.int .i64 R.1)) := by
 intro aW nx hlt
 have aR := fP (β := aW) (nx := nx) hlt
 refine al.run mixed Tryz.call107 Tryz.func107 rfl (by simp [Tryz.ntmps107]; kernel_rfl) ?_
 obtain ⟨KF, h, kF, kN⟩ := cu h
 simp only [pQ] at h
 simp only [vz, mq, mqm, vsi, tyf, mqt, aR, nm, seval]
 refine kM (fun tm => tm 1 = .lit (.int .i64 xs) ∧ tm 2 = .lit (.int .i64 xh) ∧ tm 3 = .ptr nx 0 ∧ True) (by refine ⟨?_, ?_, ?_, trivial⟩ <;> first | (simp only [ua, bt, aR, nm, seval] <;> rfl) | rfl) ?_
 rintro tm ⟨e6, e7, e8, _⟩
 obtain ⟨r9, dG, h⟩ := optI h kN
 try simp only [hs] at h
 simp only [vz, mq, mqm, vsi, tyf, mqt, aR, e6, e7, e8, nm, seval]
 refine dkupd (VUpd.at (β := aW) (y := (fun _ => .lit (.int .i64 r9.1))) (Mf rc rc_ok _ _ _ _ _ _ dG) (by omega) (by first | rfl | assumption | (simp only [aP, b9, aR, nm, seval] <;> rfl)) (by first | rfl | (simp only [nrm, tynrm, @cF, @eC] <;> rfl)) (dY (fun _ => rfl) _)) ?_
 refine ez (fun tm => tm 1 = .lit (.int .i64 xs) ∧ tm 2 = .lit (.int .i64 xh) ∧ tm 3 = .ptr nx 0 ∧ tm 10 = .lit (.int .i64 r9.1) ∧ True) (by refine ⟨e6, e7, e8, ?_, trivial⟩ <;> first | (simp only [ua, bt, aR, e6, e7, e8, nm, seval] <;> rfl) | rfl) ?_
 rintro tm ⟨b7, b6, bg, bl, _⟩
 obtain ⟨NY, im, h⟩ := optI h kN
 try simp only [hs] at h
 obtain ⟨dN, ke, h⟩ := optI h kN
 try simp only [hs] at h
 simp only [vz, mq, mqm, vsi, tyf, mqt, aR, b7, b6, bg, bl, (aQ im), nm, seval]
 refine dkupd (VUpd.at (β := aW) (y := (fun _ => .sl (aa eI dN.1) (List.length dN.1) false)) (Mp rc rc_ok _ _ _ _ _ _ ke) (by omega) (by first | rfl | assumption | (simp only [aP, b9, aR, nm, seval] <;> rfl)) (by first | rfl | (simp only [nrm, tynrm, @cF, @eC] <;> rfl)) (dY (fun _ => rfl) _)) ?_
 refine ez (fun tm => tm 10 = .lit (.int .i64 r9.1) ∧ tm 20 = .sl (aa eI dN.1) (List.length dN.1) false ∧ True) (by refine ⟨bl, ?_, trivial⟩ <;> first | (simp only [ua, bt, aR, b7, b6, bg, bl, nm, seval] <;> rfl) | rfl) ?_
 rintro tm ⟨bw, bR, _⟩
 obtain ⟨gT, pR, h⟩ := optI h kN
 try simp only [hs] at h
 simp only [vz, mq, mqm, vsi, tyf, mqt, aR, (aQ im), bw, bR, nm, seval]
 refine dktree (args0 := [.sl (aa eI dN.1) (List.length dN.1) false]) (by first | (simp only [nrm, tynrm, @cF] <;> rfl) | rfl) (by simp only [tre, tytre, mqr, Bool.and_self]) (BW _ _ pR) ?_
 refine aZ (fun tm => tm 10 = .lit (.int .i64 r9.1) ∧ tm 21 = .lit (.int .i64 gT) ∧ True) (by refine ⟨bw, ?_, trivial⟩ <;> first | (simp only [ua, bt, aR, bw, bR, nm, seval] <;> rfl) | rfl) ?_
 rintro tm ⟨di, gi, _⟩
 obtain ⟨gS, Cg, h⟩ := optI h kN
 try simp only [hs] at h
 simp only [vz, mq, mqm, vsi, tyf, mqt, aR, (aQ im), di, gi, nm, seval]
 refine dkseen1 (w := 1) (enc := eI) (xs := ([r9.1, gT])) (el := (some 3)) ⟨eI_ok.tree, eI_ok.norm⟩ (fun _ => rfl) (by simp only [List.length_cons, List.length_nil]; decide) (by simp only [aP, b9, gC, aR, nm, seval] <;> rfl) (BW _ _ Cg) (by first | rfl | simp only [VV.flat, flatL, Bool.and_self]) ?_
 refine aZ (fun tm => tm 23 = .lit (.int .i64 gS) ∧ True) (by refine ⟨?_, trivial⟩ <;> first | (simp only [ua, bt, aR, di, gi, nm, seval] <;> rfl) | rfl) ?_
 rintro tm ⟨b8, _⟩
 simp only [vz, mq, mqm, vsi, tyf, mqt, aR, (aQ im), b8, nm, seval]
 refine ia ⟨?_, ?_⟩
 ·simp only [ib, ic, dv, ig, and_true, true_and]
  repeat' (first | exact trivial | refine And.intro ?_ ?_ | rw [dv] | rw [ij] | exact Or.inl (by decide +kernel) | exact Or.inl (by dsimp only; decide +kernel) | (refine Or.inr ⟨?_, ?_⟩ <;> simp; done) | (refine Or.inr ⟨?_, ?_⟩ <;> simp <;> omega) | (refine Or.inr ⟨?_, ?_⟩ <;> simp [VEff.wr] <;> omega))
 try simp only [vz, mq, mqm, vsi, tyf, mqt, aR, (aQ im), b8, nm, seval]
 refine bG (x := (.lit (.int .i64 gS))) (by first | (simp only [Tryz.results107, resV, resL, resV1, bN, bO, uw, cr, tyf, mqt, aR, (aQ im), nm, seval] <;> rfl) | rfl) ?_
 obtain rfl := kF _ h
 refine ⟨(by first | rfl | assumption | (simp only [aP, b9, aR, nm, seval] <;> rfl)), ?_⟩
 exact sq_of (i6 (by simp only [tre, tytre, mqr, Bool.and_self]) rfl)
def pS (xb : GBk) (xp : List Int) (xs : Int) : Option (Int) := Option.bind (getI xb.Strokes xs) (fun x1 => some x1.Hours.Low)
theorem Mr (xb : GBk) (xp : List Int) (xs : Int) (b : Nat) (R : Int) (h : pS xb xp xs = some R) : ag Tryz.prog G0 139 [.agg [.lit (.int .i64 xb.Apprentices), .sl (aa eI xb.Boards) (List.length xb.Boards) false, .sl (aa cGBs xb.Strokes) (List.length xb.Strokes) false, .sl (aa eI xp) (List.length xp) false, .lit (.map (some b))], .lit (.int .i64 xs)] (.tree (.lit (.int .i64 R))) := by
 refine ag.runR mixed Tryz.call139 Tryz.func139 rfl (by simp [Tryz.ntmps139]; kernel_rfl) ?_
 obtain ⟨KF, h, kF, kN⟩ := cu h
 simp only [pS] at h
 obtain ⟨x2, o3, h⟩ := optI h kN
 try simp only [hs] at h
 try simp only [vz, vsi, tyf, (aQ o3), nm, seval]
 refine bG (x := (.lit (.int .i64 x2.Hours.Low))) (by first | (simp only [Tryz.results139, resV, resL, resV1, bN, bO, uw, cr, tyf, (aQ o3), nm, seval] <;> rfl) | rfl) ?_
 obtain rfl := kF _ h
 refine dM ?_ ?_
 ·simp only [tre, tytre, Bool.and_self]
 ·first | (simp only [outV, uw, dE, cr, tyf, nrm, tynrm, (aQ o3), nm, seval] <;> rfl) | rfl
def pT (xb : GBk) (xp : List Int) (xs : Int) : Option (Int) := Option.bind (getI xb.Strokes xs) (fun x1 => some x1.Hours.High)
theorem Ms (xb : GBk) (xp : List Int) (xs : Int) (b : Nat) (R : Int) (h : pT xb xp xs = some R) : ag Tryz.prog G0 140 [.agg [.lit (.int .i64 xb.Apprentices), .sl (aa eI xb.Boards) (List.length xb.Boards) false, .sl (aa cGBs xb.Strokes) (List.length xb.Strokes) false, .sl (aa eI xp) (List.length xp) false, .lit (.map (some b))], .lit (.int .i64 xs)] (.tree (.lit (.int .i64 R))) := by
 refine ag.runR mixed Tryz.call140 Tryz.func140 rfl (by simp [Tryz.ntmps140]; kernel_rfl) ?_
 obtain ⟨KF, h, kF, kN⟩ := cu h
 simp only [pT] at h
 obtain ⟨x2, o3, h⟩ := optI h kN
 try simp only [hs] at h
 try simp only [vz, vsi, tyf, (aQ o3), nm, seval]
 refine bG (x := (.lit (.int .i64 x2.Hours.High))) (by first | (simp only [Tryz.results140, resV, resL, resV1, bN, bO, uw, cr, tyf, (aQ o3), nm, seval] <;> rfl) | rfl) ?_
 obtain rfl := kF _ h
 refine dM ?_ ?_
 ·simp only [tre, tytre, Bool.and_self]
 ·first | (simp only [outV, uw, dE, cr, tyf, nrm, tynrm, (aQ o3), nm, seval] <;> rfl) | rfl
def pU (rc : GBk → (List Int) → Int → Int → (List (GBe × Int)) → Option ((Int) × List (GBe × Int))) (xb : GBk) (xp : List Int) (xs : Int) (xh : Int) (l0 : List (GBe × Int)) : Option ((Int) × List (GBe × Int)) := cond (mapHas bK l0 (GBe.mk xs xh)) (some (mapGet bK 0 l0 (GBe.mk xs xh), l0)) (Option.bind (pQ rc xb xp xs xh l0) (fun r1 => cond (xh == 0) (Option.bind (pS xb xp xs) (fun r2 => some (i64.wrap (r1.1 + r2), mapSet bK r1.2 (GBe.mk xs xh) (i64.wrap (r1.1 + r2))))) (cond (xh == 1) (Option.bind (pT xb xp xs) (fun r2 => some (i64.wrap (r1.1 + r2), mapSet bK r1.2 (GBe.mk xs xh) (i64.wrap (r1.1 + r2))))) none)))
theorem Mt (rc : GBk → (List Int) → Int → Int → (List (GBe × Int)) → Option ((Int) × List (GBe × Int))) (rc_ok : ∀ (xb : GBk) (xp : List Int) (xs : Int) (xh : Int) (l0 : List (GBe × Int)) (R : (Int) × List (GBe × Int)), rc xb xp xs xh l0 = some R → VUpd Tryz.prog G0 118 (fun β => [.agg [.lit (.int .i64 xb.Apprentices), .sl (aa eI xb.Boards) (List.length xb.Boards) false, .sl (aa cGBs xb.Strokes) (List.length xb.Strokes) false, .sl (aa eI xp) (List.length xp) false, .mp β], .lit (.int .i64 xs), .lit (.int .i64 xh)]) (encM aL bu l0) (encM aL bu R.2) (fun _ => .lit (.int .i64 R.1))) (xb : GBk) (xp : List Int) (xs : Int) (xh : Int) (l0 : List (GBe × Int)) (R : (Int) × List (GBe × Int)) (h : pU rc xb xp xs xh l0 = some R) : VUpd Tryz.prog G0 118 (fun β => [.agg [.lit (.int .i64 xb.Apprentices), .sl (aa eI xb.Boards) (List.length xb.Boards) false, .sl (aa cGBs xb.Strokes) (List.length xb.Strokes) false, .sl (aa eI xp) (List.length xp) false, .mp β], .lit (.int .i64 xs), .lit (.int .i64 xh)]) (encM aL bu l0) (encM aL bu R.2) (fun _ => .lit (.int .i64 R.1)) := by
 intro aW nx hlt
 have aR := fP (β := aW) (nx := nx) hlt
 refine al.run mixed Tryz.call118 Tryz.func118 rfl (by simp [Tryz.ntmps118]; kernel_rfl) ?_
 obtain ⟨KF, h, kF, kN⟩ := cu h
 simp only [pU] at h
 have w2 := fun H => pj (β := aW) l0 (GBe.mk xs xh) H
 try simp only [bt] at w2
 cases d3 : (mapHas bK l0 (GBe.mk xs xh))
 ·simp only [d3, hs] at h
  obtain ⟨r4, o5, h⟩ := optI h kN
  try simp only [hs] at h
  have hk : (xh == 0) = true ∨ ((xh == 0) = false ∧ (xh == 1) = true) := by
   cases c0 : (xh == 0)
   ·cases c1 : (xh == 1)
    ·simp only [c0, c1, hs] at h
     exact absurd h kN
    exact .inr ⟨rfl, rfl⟩
   exact .inl rfl
  rcases hk with c0 | ⟨c0, c1⟩
  ·obtain rfl : xh = 0 := by simpa using c0
   simp only [c0, hs] at h
   simp only [vz, mq, mqm, vsi, tyf, mqt, aR, w2, d3, nm, seval]
   refine kM (fun tm => tm 1 = .lit (.int .i64 xs) ∧ tm 2 = .lit (.int .i64 0) ∧ tm 3 = .ptr nx 0 ∧ tm 7 = .ptr (nx + 5) 0 ∧ tm 10 = .ptr (nx + 19) 0 ∧ True) (by refine ⟨?_, ?_, ?_, ?_, ?_, trivial⟩ <;> first | (simp only [ua, bt, aR, w2, d3, nm, seval] <;> rfl) | rfl) ?_
   rintro tm ⟨e1, e2, e3, e4, aY, _⟩
   simp only [vz, mq, mqm, vsi, tyf, mqt, aR, w2, d3, e1, e2, e3, e4, aY, nm, seval]
   refine dkupd (VUpd.at (β := aW) (y := (fun _ => .lit (.int .i64 r4.1))) (Gr rc rc_ok _ _ _ _ _ _ o5) (by omega) (by first | rfl | assumption | (simp only [aP, b9, aR, nm, seval] <;> rfl)) (by first | rfl | (simp only [nrm, tynrm, @cF, @eC] <;> rfl)) (dY (fun _ => rfl) _)) ?_
   refine ez (fun tm => tm 1 = .lit (.int .i64 xs) ∧ tm 2 = .lit (.int .i64 0) ∧ tm 3 = .ptr nx 0 ∧ tm 7 = .ptr (nx + 5) 0 ∧ tm 10 = .ptr (nx + 19) 0 ∧ tm 27 = .lit (.int .i64 r4.1) ∧ True) (by refine ⟨e1, e2, e3, e4, aY, ?_, trivial⟩ <;> first | (simp only [ua, bt, aR, e1, e2, e3, e4, aY, nm, seval] <;> rfl) | rfl) ?_
   rintro tm ⟨e1, e2, e3, e4, aY, b8, _⟩
   obtain ⟨r8, o9, h⟩ := optI h kN
   try simp only [hs] at h
   simp only [vz, mq, mqm, vsi, tyf, mqt, aR, w2, d3, e1, e2, e3, e4, aY, b8, nm, seval]
   refine dkupd (VUpd.at (β := aW) (y := (fun _ => .lit (.int .i64 r8))) (VUpd.of_lit (A := fun β => [.agg [.lit (.int .i64 xb.Apprentices), .sl (aa eI xb.Boards) (List.length xb.Boards) false, .sl (aa cGBs xb.Strokes) (List.length xb.Strokes) false, .sl (aa eI xp) (List.length xp) false, .mp β], .lit (.int .i64 xs)]) (x := fun _ => .lit (.int .i64 r8)) (es := encM aL bu r4.2) (A0 := fun _ b => [.agg [.lit (.int .i64 xb.Apprentices), .sl (aa eI xb.Boards) (List.length xb.Boards) false, .sl (aa cGBs xb.Strokes) (List.length xb.Strokes) false, .sl (aa eI xp) (List.length xp) false, .lit (.map (some b))], .lit (.int .i64 xs)]) (fun β b => by simp only [List.map_cons, List.map_nil, vlt, if_true, nrm, tynrm, @cF, tyf, mqt] <;> rfl) (fun β b => by simp only [List.map_cons, List.map_nil, vlt, if_true, tre, tytre, tyf, mqt, Bool.and_self]) (fun β b => rfl) (fun β b => Mr xb xp xs b r8 o9) (fun _ _ _ _ _ => i6 (by simp only [tre, tytre, mqr, Bool.and_self]) rfl)) (by omega) (by first | rfl | assumption | (simp only [aP, b9, aR, nm, seval] <;> rfl)) (by first | rfl | (simp only [nrm, tynrm, @cF, @eC] <;> rfl)) (dY (fun _ => rfl) _)) ?_
   refine ez (fun tm => tm 1 = .lit (.int .i64 xs) ∧ tm 2 = .lit (.int .i64 0) ∧ tm 3 = .ptr nx 0 ∧ tm 7 = .ptr (nx + 5) 0 ∧ tm 27 = .lit (.int .i64 r4.1) ∧ tm 33 = .lit (.int .i64 r8) ∧ True) (by refine ⟨e1, e2, e3, e4, b8, ?_, trivial⟩ <;> first | (simp only [ua, bt, aR, e1, e2, e3, e4, aY, b8, nm, seval] <;> rfl) | rfl) ?_
   rintro tm ⟨e1, e2, e3, e4, b8, dQ, _⟩
   simp only [vz, mq, mqm, vsi, tyf, mqt, aR, w2, d3, e1, e2, e3, e4, b8, dQ, nm, seval]
   refine ia ⟨?_, ?_⟩
   ·simp only [ib, ic, dv, ig, and_true, true_and]
    repeat' (first | exact trivial | refine And.intro ?_ ?_ | rw [dv] | rw [ij] | exact Or.inl (by decide +kernel) | exact Or.inl (by dsimp only; decide +kernel) | (refine Or.inr ⟨?_, ?_⟩ <;> simp; done) | (refine Or.inr ⟨?_, ?_⟩ <;> simp <;> omega) | (refine Or.inr ⟨?_, ?_⟩ <;> simp [VEff.wr] <;> omega) | (refine Or.inr ⟨?_, ?_⟩ <;> simp [rdV, rdO, topName, Op.operands, lS, jK, lT, jI, VEff.wr] <;> omega))
   have w9 := fun H => pk (β := aW) r4.2 (GBe.mk xs 0) (i64.wrap (r4.1 + r8)) H
   try simp only [bt] at w9
   try simp only [vz, mq, mqm, vsi, tyf, mqt, aR, d3, e1, e2, e3, e4, b8, dQ, w9, nm, seval]
   refine bG (x := (.lit (.int .i64 (i64.wrap (r4.1 + r8))))) (by first | (simp only [Tryz.results118, resV, resL, resV1, bN, bO, uw, cr, tyf, mqt, aR, d3, w9, nm, seval] <;> rfl) | rfl) ?_
   obtain rfl := kF _ h
   refine ⟨(by first | rfl | assumption | (simp only [aP, b9, aR, nm, seval] <;> rfl)), ?_⟩
   exact sq_of (i6 (by simp only [tre, tytre, mqr, Bool.and_self]) rfl)
  obtain rfl : xh = 1 := by simpa using c1
  simp only [c0, c1, hs] at h
  simp only [vz, mq, mqm, vsi, tyf, mqt, aR, w2, d3, nm, seval]
  refine kM (fun tm => tm 1 = .lit (.int .i64 xs) ∧ tm 2 = .lit (.int .i64 1) ∧ tm 3 = .ptr nx 0 ∧ tm 7 = .ptr (nx + 5) 0 ∧ tm 10 = .ptr (nx + 19) 0 ∧ True) (by refine ⟨?_, ?_, ?_, ?_, ?_, trivial⟩ <;> first | (simp only [ua, bt, aR, w2, d3, nm, seval] <;> rfl) | rfl) ?_
  rintro tm ⟨e1, e2, e3, e4, aY, _⟩
  simp only [vz, mq, mqm, vsi, tyf, mqt, aR, w2, d3, e1, e2, e3, e4, aY, nm, seval]
  refine dkupd (VUpd.at (β := aW) (y := (fun _ => .lit (.int .i64 r4.1))) (Gr rc rc_ok _ _ _ _ _ _ o5) (by omega) (by first | rfl | assumption | (simp only [aP, b9, aR, nm, seval] <;> rfl)) (by first | rfl | (simp only [nrm, tynrm, @cF, @eC] <;> rfl)) (dY (fun _ => rfl) _)) ?_
  refine ez (fun tm => tm 1 = .lit (.int .i64 xs) ∧ tm 2 = .lit (.int .i64 1) ∧ tm 3 = .ptr nx 0 ∧ tm 7 = .ptr (nx + 5) 0 ∧ tm 10 = .ptr (nx + 19) 0 ∧ tm 27 = .lit (.int .i64 r4.1) ∧ True) (by refine ⟨e1, e2, e3, e4, aY, ?_, trivial⟩ <;> first | (simp only [ua, bt, aR, e1, e2, e3, e4, aY, nm, seval] <;> rfl) | rfl) ?_
  rintro tm ⟨e1, e2, e3, e4, aY, b8, _⟩
  obtain ⟨r8, o9, h⟩ := optI h kN
  try simp only [hs] at h
  simp only [vz, mq, mqm, vsi, tyf, mqt, aR, w2, d3, e1, e2, e3, e4, aY, b8, nm, seval]
  refine dkupd (VUpd.at (β := aW) (y := (fun _ => .lit (.int .i64 r8))) (VUpd.of_lit (A := fun β => [.agg [.lit (.int .i64 xb.Apprentices), .sl (aa eI xb.Boards) (List.length xb.Boards) false, .sl (aa cGBs xb.Strokes) (List.length xb.Strokes) false, .sl (aa eI xp) (List.length xp) false, .mp β], .lit (.int .i64 xs)]) (x := fun _ => .lit (.int .i64 r8)) (es := encM aL bu r4.2) (A0 := fun _ b => [.agg [.lit (.int .i64 xb.Apprentices), .sl (aa eI xb.Boards) (List.length xb.Boards) false, .sl (aa cGBs xb.Strokes) (List.length xb.Strokes) false, .sl (aa eI xp) (List.length xp) false, .lit (.map (some b))], .lit (.int .i64 xs)]) (fun β b => by simp only [List.map_cons, List.map_nil, vlt, if_true, nrm, tynrm, @cF, tyf, mqt] <;> rfl) (fun β b => by simp only [List.map_cons, List.map_nil, vlt, if_true, tre, tytre, tyf, mqt, Bool.and_self]) (fun β b => rfl) (fun β b => Ms xb xp xs b r8 o9) (fun _ _ _ _ _ => i6 (by simp only [tre, tytre, mqr, Bool.and_self]) rfl)) (by omega) (by first | rfl | assumption | (simp only [aP, b9, aR, nm, seval] <;> rfl)) (by first | rfl | (simp only [nrm, tynrm, @cF, @eC] <;> rfl)) (dY (fun _ => rfl) _)) ?_
  refine ez (fun tm => tm 1 = .lit (.int .i64 xs) ∧ tm 2 = .lit (.int .i64 1) ∧ tm 3 = .ptr nx 0 ∧ tm 7 = .ptr (nx + 5) 0 ∧ tm 27 = .lit (.int .i64 r4.1) ∧ tm 33 = .lit (.int .i64 r8) ∧ True) (by refine ⟨e1, e2, e3, e4, b8, ?_, trivial⟩ <;> first | (simp only [ua, bt, aR, e1, e2, e3, e4, aY, b8, nm, seval] <;> rfl) | rfl) ?_
  rintro tm ⟨e1, e2, e3, e4, b8, dQ, _⟩
  simp only [vz, mq, mqm, vsi, tyf, mqt, aR, w2, d3, e1, e2, e3, e4, b8, dQ, nm, seval]
  refine ia ⟨?_, ?_⟩
  ·simp only [ib, ic, dv, ig, and_true, true_and]
   repeat' (first | exact trivial | refine And.intro ?_ ?_ | rw [dv] | rw [ij] | exact Or.inl (by decide +kernel) | exact Or.inl (by dsimp only; decide +kernel) | (refine Or.inr ⟨?_, ?_⟩ <;> simp; done) | (refine Or.inr ⟨?_, ?_⟩ <;> simp <;> omega) | (refine Or.inr ⟨?_, ?_⟩ <;> simp [VEff.wr] <;> omega) | (refine Or.inr ⟨?_, ?_⟩ <;> simp [rdV, rdO, topName, Op.operands, lS, jK, lT, jI, VEff.wr] <;> omega))
  have w9 := fun H => pk (β := aW) r4.2 (GBe.mk xs 1) (i64.wrap (r4.1 + r8)) H
  try simp only [bt] at w9
  try simp only [vz, mq, mqm, vsi, tyf, mqt, aR, d3, e1, e2, e3, e4, b8, dQ, w9, nm, seval]
  refine bG (x := (.lit (.int .i64 (i64.wrap (r4.1 + r8))))) (by first | (simp only [Tryz.results118, resV, resL, resV1, bN, bO, uw, cr, tyf, mqt, aR, d3, w9, nm, seval] <;> rfl) | rfl) ?_
  obtain rfl := kF _ h
  refine ⟨(by first | rfl | assumption | (simp only [aP, b9, aR, nm, seval] <;> rfl)), ?_⟩
  exact sq_of (i6 (by simp only [tre, tytre, mqr, Bool.and_self]) rfl)
 simp only [d3, hs] at h
 try simp only [vz, mq, mqm, vsi, tyf, mqt, aR, w2, d3, nm, seval]
 refine bG (x := (.lit (.int .i64 (mapGet bK 0 l0 (GBe.mk xs xh))))) (by first | (simp only [Tryz.results118, resV, resL, resV1, bN, bO, uw, cr, tyf, mqt, aR, w2, d3, nm, seval] <;> rfl) | rfl) ?_
 obtain rfl := kF _ h
 refine ⟨(by first | rfl | assumption | (simp only [aP, b9, aR, nm, seval] <;> rfl)), ?_⟩
 exact sq_of (i6 (by simp only [tre, tytre, mqr, Bool.and_self]) rfl)
def gEnd : Nat → GBk → (List Int) → Int → Int → (List (GBe × Int)) → Option ((Int) × List (GBe × Int))
 | 0 => fun _ _ _ _ _ => none
 | n + 1 => pU (gEnd n)
theorem pV : ∀ (n : Nat) (xb : GBk) (xp : List Int) (xs : Int) (xh : Int) (l0 : List (GBe × Int)) (R : (Int) × List (GBe × Int)), gEnd n xb xp xs xh l0 = some R → VUpd Tryz.prog G0 118 (fun β => [.agg [.lit (.int .i64 xb.Apprentices), .sl (aa eI xb.Boards) (List.length xb.Boards) false, .sl (aa cGBs xb.Strokes) (List.length xb.Strokes) false, .sl (aa eI xp) (List.length xp) false, .mp β], .lit (.int .i64 xs), .lit (.int .i64 xh)]) (encM aL bu l0) (encM aL bu R.2) (fun _ => .lit (.int .i64 R.1))
 | 0, _, _, _, _, _, _, h => by cases h
 | n + 1, xb, xp, xs, xh, l0, R, h => Mt (gEnd n) (pV n) xb xp xs xh l0 R h
def Cj (xb : GBk) (xp : List Int) (xs : Int) (xh : Int) (l0 : List (GBe × Int)) : Option ((Int) × List (GBe × Int)) := gEnd 8 xb xp xs xh l0
theorem Mu (xb : GBk) (xp : List Int) (xs : Int) (xh : Int) (l0 : List (GBe × Int)) (R : (Int) × List (GBe × Int)) (h : Cj xb xp xs xh l0 = some R) : VUpd Tryz.prog G0 118 (fun β => [.agg [.lit (.int .i64 xb.Apprentices), .sl (aa eI xb.Boards) (List.length xb.Boards) false, .sl (aa cGBs xb.Strokes) (List.length xb.Strokes) false, .sl (aa eI xp) (List.length xp) false, .mp β], .lit (.int .i64 xs), .lit (.int .i64 xh)]) (encM aL bu l0) (encM aL bu R.2) (fun _ => .lit (.int .i64 R.1)) := pV 8 xb xp xs xh l0 R h
def lu (xb : GBk) (xp : List Int) : List GBs → Int → Int → (List (GBe × Int)) → Option (LOut ((Int) × List (GBe × Int)) (Int × (List (GBe × Int))))
 | [], lv, bU, cW => some (.go (bU, cW))
 | e0 :: p0, lv, bU, cW => Option.bind (Cj xb xp lv 1 cW) (fun r3 => Option.bind (lk ([bU, r3.1])) (fun r4 => lu xb xp p0 (lv + 1) r4 r3.2))
def kU (xb : GBk) (xp : List Int) (l0 : List (GBe × Int)) : Option ((Int) × List (GBe × Int)) := cond (lenOk xb.Strokes) (lbind (lu xb xp xb.Strokes 0 0 l0) (fun r6 => some r6) (fun c5 => some (c5.1, c5.2)) (fun _ _ => none)) none
theorem pv (xb : GBk) (xp : List Int) (l0 : List (GBe × Int)) (R : (Int) × List (GBe × Int)) (h : kU xb xp l0 = some R) : VUpd Tryz.prog G0 87 (fun β => [.agg [.lit (.int .i64 xb.Apprentices), .sl (aa eI xb.Boards) (List.length xb.Boards) false, .sl (aa cGBs xb.Strokes) (List.length xb.Strokes) false, .sl (aa eI xp) (List.length xp) false, .mp β]]) (encM aL bu l0) (encM aL bu R.2) (fun _ => .lit (.int .i64 R.1)) := by
 intro aW nx hlt
 have aR := fP (β := aW) (nx := nx) hlt
 refine al.run mixed Tryz.call87 Tryz.func87 rfl (by simp [Tryz.ntmps87]; kernel_rfl) ?_
 obtain ⟨KF, h, kF, kN⟩ := cu h
 simp only [kU] at h
 cases g8 : (lenOk xb.Strokes)
 ·simp only [g8, hs] at h
  exact absurd h kN
 simp only [g8, hs] at h
 simp only [vz, mq, mqm, vsi, tyf, mqt, aR, g8, nm, seval]
 obtain ⟨K7, h, NZ, Mv, Oa, Gs⟩ := gB h kN
 obtain ⟨f7, Mw, h⟩ := call4 h
 obtain ⟨I7, Ck⟩ : ∃ I : Nat → St → Prop, I = (fun m st => ∃ (p7 : List GBs) (dj : Int) (eR : Int) (gU : List (GBe × Int)), m = List.length p7 ∧ 0 ≤ dj ∧ List.drop (Int.toNat dj) xb.Strokes = p7 ∧ st.df = [] ∧ nx + 8 ≤ st.nx ∧ st.H aW = some (.map (encM aL bu gU)) ∧ st.H nx = some (.cells (some 92) ((cGBk xb) ++ [.sl (aa eI xp) (List.length xp) false] ++ [.mp aW])) ∧ st.tm 1 = .ptr nx 0 ∧ st.tm 8 = .lit (.int .i64 (List.length xb.Strokes : Int)) ∧ st.tm 3 = .lit (.int .i64 eR) ∧ st.tm 9 = .lit (.int .i64 dj) ∧ K7 (f7 p7 dj eR gU)) := ⟨_, rfl⟩
 refine loopK mixed (by kernel_rfl) I7 (List.length xb.Strokes) (by rw [Ck]; refine ⟨xb.Strokes, 0, 0, l0, rfl, Int.le_refl _, rfl, rfl, (show nx + 8 ≤ nx + 8 by omega), ?_, ?_, ?_, ?_, ?_, ?_, h⟩ <;> first | (simp only [ua, bt, aR, nm, seval] <;> rfl) | rfl) ?_
 rintro m ⟨tm, H, Cl, df⟩ hinv
 rw [Ck] at hinv
 obtain ⟨p7, dj, eR, gU, rfl, m6, pW, hdf, Mx, H9, j5, b7, b6, bg, bl, h⟩ := hinv
 simp only at hdf Mx H9 j5 b7 b6 bg bl
 have cP := iK (a := nx) (m := 8) (b := Cl) (by omega)
 have cQ := fP (β := aW) (nx := Cl) (by omega)
 subst hdf Mw
 cases p7 with
 | nil =>
  have iV : (decide (dj < (List.length xb.Strokes : Int))) = false := g9 m6 pW
  simp only [lu, hs, reduceCtorEq] at h
  replace h := Mv _ h
  try dsimp only at h
  try simp only [hs] at h
  try simp only [vz, mq, mqm, vsi, tyf, mqt, aR, g8, cP, cQ, b7, b6, bg, bl, H9, j5, iV, nm, seval]
  refine bG (x := (.lit (.int .i64 eR))) (by first | (simp only [Tryz.results87, resV, resL, resV1, bN, bO, uw, cr, tyf, mqt, aR, g8, cP, cQ, H9, j5, iV, nm, seval] <;> rfl) | rfl) ?_
  obtain rfl := kF _ h
  refine ⟨(by first | rfl | assumption | (simp only [aP, b9, aR, cP, cQ, H9, j5, nm, seval] <;> rfl)), ?_⟩
  exact sq_of (i6 (by first | (simp only [tre, tytre, mqr, Bool.and_self]; done) | rfl) rfl)
 | cons e7 p7 =>
  have j6 : (decide (dj < (List.length xb.Strokes : Int))) = true := g0 m6 pW
  have pX := ec m6 pW
  have Cm := gA m6 pW g8
  simp only [lu, hs, reduceCtorEq] at h
  obtain ⟨gT, pR, h⟩ := optI h Gs
  try simp only [hs] at h
  simp only [vz, mq, mqm, vsi, tyf, mqt, aR, g8, cP, cQ, b7, b6, bg, bl, H9, j5, j6, (aQ pX), Cm, nm, seval]
  refine kupd (VUpd.at (β := aW) (y := (fun _ => .lit (.int .i64 gT.1))) (Mu _ _ _ _ _ _ pR) (by omega) (by first | rfl | assumption | (simp only [aP, b9, aR, cP, cQ, H9, j5, nm, seval] <;> rfl)) (by first | rfl | (simp only [nrm, tynrm, @cF, @eC] <;> rfl)) (dY (fun _ => rfl) _)) ?_
  refine ez (fun tm => tm 1 = .ptr nx 0 ∧ tm 8 = .lit (.int .i64 (List.length xb.Strokes : Int)) ∧ tm 9 = .lit (.int .i64 dj) ∧ tm 12 = .lit (.int .i64 eR) ∧ tm 15 = .lit (.int .i64 gT.1) ∧ True) (by refine ⟨b7, b6, bl, ?_, ?_, trivial⟩ <;> first | (simp only [ua, bt, aR, cP, cQ, b7, b6, bg, bl, H9, j5, j6, Cm, nm, seval] <;> rfl) | rfl) ?_
  rintro tm ⟨di, gi, iW, fh, b8, _⟩
  have lx := And.intro aR (And.intro g8 (And.intro cP (And.intro cQ (And.intro H9 (And.intro j5 (And.intro j6 Cm))))))
  obtain ⟨Gt, My, h⟩ := optI h Gs
  try simp only [hs] at h
  simp only [vz, mq, mqm, vsi, tyf, mqt, lx, (aQ pX), di, gi, iW, fh, b8, nm, seval]
  refine kseen (args0 := [.sl (aa eI ([eR, gT.1])) (List.length ([eR, gT.1])) false]) (by simp only [List.map_cons, List.map_nil, dE, aP, b9, cr, tyf, mqt, nrm, tynrm, lx, (aQ pX), di, gi, iW, fh, b8, nm, seval] <;> rfl) (by simp only [List.map_cons, List.map_nil, dE, aP, b9, cr, tyf, mqt, nrm, tynrm, lx, (aQ pX), di, gi, iW, fh, b8, nm, seval]; simp only [tre, tytre, mqr, Bool.and_self]) (BW _ _ My) (by first | rfl | simp only [VV.flat, flatL, Bool.and_self]) ?_
  refine aZ (fun tm => tm 1 = .ptr nx 0 ∧ tm 8 = .lit (.int .i64 (List.length xb.Strokes : Int)) ∧ tm 9 = .lit (.int .i64 dj) ∧ tm 17 = .lit (.int .i64 Gt) ∧ True) (by refine ⟨di, gi, iW, ?_, trivial⟩ <;> first | (simp only [ua, bt, lx, di, gi, iW, fh, b8, nm, seval] <;> rfl) | rfl) ?_
  rintro tm ⟨cy, dP, dQ, iX, _⟩
  simp only [vz, mq, mqm, vsi, tyf, mqt, lx, (aQ pX), cy, dP, dQ, iX, nm, seval]
  exact ⟨List.length p7, Nat.lt_succ_self _, by rw [Ck]; refine ⟨p7, dj + 1, Gt, gT.2, rfl, Int.le_trans m6 (Int.le_add_one (Int.le_refl _)), eM m6 pW, rfl, (show nx + 8 ≤ Cl + 12 by omega), ?_, ?_, cy, dP, ?_, ?_, (by first | exact h | (simp only [lx]; exact h))⟩ <;> first | (simp only [ua, bt, lx, cy, dP, dQ, iX, nm, seval] <;> rfl) | rfl⟩
def goB (b : Bool) : Option (LOut Bool Unit) := cond b (some (.go ())) (some (.ret false))
theorem pY (a b : Bool) : goB (a && b) = cond a (goB b) (some (.ret false)) := by cases a <;> rfl
theorem csome (a b : Bool) : cond a (some b) (some false) = some (a && b) := by cases a <;> rfl
theorem m7 {X : Type} (b : Bool) (kr : Bool → Option X) (kg : Unit → Option X) (kb : Nat → Unit → Option X) : lbind (goB b) kr kg kb = cond b (kg ()) (kr false) := by cases b <;> rfl
def inB (a b n : Int) : Bool := decide (a ≤ n) && decide (n ≤ b)
theorem vU {a b n : Int} : inB a b n = true ↔ a ≤ n ∧ n ≤ b := by simp [inB]
theorem fb {n : Int} (h1 : -9223372036854775808 ≤ n) (h2 : n < 9223372036854775808) : i64.wrap n = n := IntWalk.i64_in _ (by omega)
theorem Cn {α : Type} {xs : List α} (h : lenOk xs = true) : xs.length < 9223372036854775808 := by simpa [lenOk] using h
theorem iq {α : Type} {xs : List α} (h : xs.length < 9223372036854775808) : lenOk xs = true := by simpa [lenOk] using h
theorem Co {α : Type} {xs : List α} {i : Int} {x : α} (h : getI xs i = some x) : x ∈ xs := by
 unfold getI at h
 split at h
 ·exact List.mem_of_getElem? h
 ·cases h
theorem ly {α : Type} {xs : List α} {i : Int} {x : α} (h : getI xs i = some x) : 0 ≤ i ∧ i < xs.length := ⟨(o6 h).1, (o6 h).2.1⟩
end Go.V
end
section
namespace Go.V
def mxL (l : List Int) : Int := l.foldl max 0
theorem Gu : ∀ (l : List Int) (a b : Int), l.foldl max a ≤ b ↔ a ≤ b ∧ ∀ x ∈ l, x ≤ b
 | [], a, b => by simp
 | x :: l, a, b => by
  simp only [List.foldl_cons, Gu l, List.mem_cons, forall_eq_or_imp]
  constructor
  ·rintro ⟨h1, h2⟩; exact ⟨by omega, by omega, h2⟩
  ·rintro ⟨h1, h2, h3⟩; exact ⟨by omega, h3⟩
theorem pZ {l : List Int} {b : Int} : mxL l ≤ b ↔ 0 ≤ b ∧ ∀ x ∈ l, x ≤ b := Gu l 0 b
theorem Cp (l : List Int) : 0 ≤ mxL l := (pZ.1 (Int.le_refl _)).1
def frF (hd : Nat → Int) (e : Nat → Int) (h : Int) : Nat → Int
 | 0 => 0
 | k + 1 => if hd k = h then e k else frF hd e h k
theorem Gv {hd : Nat → Int} {e e' : Nat → Int} {h : Int} : ∀ {n : Nat}, (∀ k, k < n → e k = e' k) → frF hd e h n = frF hd e' h n
 | 0, _ => rfl
 | n + 1, hk => by
  unfold frF
  rw [hk n (Nat.lt_succ_self _), Gv (fun k h => hk k (Nat.lt_succ_of_lt h))]
theorem qa {hd : Nat → Int} {e : Nat → Int} {h b : Int} (hb : 0 ≤ b) : ∀ {n : Nat}, (∀ k, k < n → hd k = h → e k ≤ b) → frF hd e h n ≤ b
 | 0, _ => hb
 | n + 1, hk => by
  unfold frF
  split
  ·rename_i hh; exact hk n (Nat.lt_succ_self _) hh
  ·exact qa hb (fun k h1 h2 => hk k (Nat.lt_succ_of_lt h1) h2)
def bgF (hd : Nat → Int) (nd : Nat → List Int) (e : Nat → Int) (s : Nat) : Int := max (max 0 (frF hd e (hd s) s)) (mxL ((nd s).map fun k => e k.toNat))
def En (hd : Nat → Int) (nd : Nat → List Int) (d : Nat → Int) : Nat → Nat → Int
 | 0, _ => 0
 | f + 1, s => bgF hd nd (En hd nd d f) s + d s
def NdOk (nd : Nat → List Int) : Prop := ∀ s, ∀ k ∈ nd s, 0 ≤ k ∧ k.toNat < s
theorem Gw {hd : Nat → Int} {nd : Nat → List Int} {e e' : Nat → Int} {s : Nat} (hn : NdOk nd) (h : ∀ k, k < s → e k = e' k) : bgF hd nd e s = bgF hd nd e' s := by
 unfold bgF
 rw [Gv h]
 congr 2
 exact List.map_congr_left fun k hk => h _ (hn s k hk).2
theorem qb {hd : Nat → Int} {nd : Nat → List Int} {d : Nat → Int} (hn : NdOk nd) : ∀ (f g s : Nat), s < f → s < g → En hd nd d f s = En hd nd d g s
 | 0, _, _, h, _ => absurd h (Nat.not_lt_zero _)
 | _ + 1, 0, _, _, h => absurd h (Nat.not_lt_zero _)
 | f + 1, g + 1, s, h1, h2 => by
  unfold En
  rw [Gw hn (e' := En hd nd d g) (fun k hk => qb hn f g k (by omega) (by omega))]
def Ed (hd : Nat → Int) (nd : Nat → List Int) (d : Nat → Int) (s : Nat) : Int := En hd nd d (s + 1) s
def Bg (hd : Nat → Int) (nd : Nat → List Int) (d : Nat → Int) (s : Nat) : Int := bgF hd nd (Ed hd nd d) s
theorem Ed_eq {hd : Nat → Int} {nd : Nat → List Int} {d : Nat → Int} (hn : NdOk nd) (s : Nat) : Ed hd nd d s = Bg hd nd d s + d s := by
 show bgF hd nd (En hd nd d s) s + d s = _
 rw [Gw hn (e' := Ed hd nd d) (fun k hk => qb hn s (k + 1) k hk (Nat.lt_succ_self _))]
 rfl
theorem Cq (hd : Nat → Int) (nd : Nat → List Int) (e : Nat → Int) (s : Nat) : 0 ≤ bgF hd nd e s := by
 have := Cp ((nd s).map fun k => e k.toNat)
 unfold bgF
 omega
section
variable {hd : Nat → Int} {nd : Nat → List Int} {d d' : Nat → Int}
theorem Bg_nn (s : Nat) : 0 ≤ Bg hd nd d s := Cq _ _ _ _
theorem Ed_nn (hn : NdOk nd) (h : ∀ k, 0 ≤ d k) (s : Nat) : 0 ≤ Ed hd nd d s := by
 rw [Ed_eq hn]
 have := Bg_nn (hd := hd) (nd := nd) (d := d) s
 have := h s
 omega
theorem Cr (hn : NdOk nd) {s : Nat} {b : Int} (hb : 0 ≤ b) (h1 : ∀ k, k < s → hd k = hd s → Ed hd nd d k ≤ b) (h2 : ∀ k ∈ nd s, Ed hd nd d k.toNat ≤ b) : Bg hd nd d s ≤ b := by
 have h3 := qa (hd := hd) (e := Ed hd nd d) (h := hd s) (n := s) hb h1
 have h4 : mxL ((nd s).map fun k => Ed hd nd d k.toNat) ≤ b := by
  refine pZ.2 ⟨hb, ?_⟩
  intro x hx
  obtain ⟨k, hk, rfl⟩ := List.mem_map.1 hx
  exact h2 k hk
 unfold Bg bgF
 omega
theorem Ed_bd (hn : NdOk nd) {m : Int} (h0 : ∀ k, 0 ≤ d k ∧ d k ≤ m) : ∀ (f s : Nat), s < f → Ed hd nd d s ≤ m * (s + 1)
 | 0, _, h => absurd h (Nat.not_lt_zero _)
 | f + 1, s, h => by
  have hm : 0 ≤ m := Int.le_trans (h0 0).1 (h0 0).2
  have key : ∀ k, k < s → Ed hd nd d k ≤ m * s := fun k hk => by
   refine Int.le_trans (Ed_bd hn h0 f k (by omega)) ?_
   exact Int.mul_le_mul_of_nonneg_left (by omega) hm
  have h1 : Bg hd nd d s ≤ m * s := Cr hn (Int.mul_nonneg hm (by omega)) (fun k hk _ => key k hk) (fun k hk => key _ (hn s k hk).2)
  rw [Ed_eq hn, Int.mul_add]
  have := h0 s
  omega
theorem Cs (hn : NdOk nd) {m : Int} (h0 : ∀ k, 0 ≤ d k ∧ d k ≤ m) (s : Nat) : Ed hd nd d s ≤ m * (s + 1) := Ed_bd hn h0 (s + 1) s (Nat.lt_succ_self _)
def tkF (e : Nat → Int) : Nat → Int
 | 0 => 0
 | n + 1 => max (tkF e n) (e n)
theorem qc (e : Nat → Int) : ∀ n, 0 ≤ tkF e n
 | 0 => Int.le_refl _
 | n + 1 => by have := qc e n; unfold tkF; omega
end
end Go.V
end
section
namespace Go.V
open Go Go.Proofs IntKind
def i9 (aE : Int) (bm : Int) (aN : Int) : Option (Bool) := cond (decide (aE ≤ bm)) (some (decide (bm ≤ aN))) (some false)
theorem lW (aE : Int) (bm : Int) (aN : Int) (R : Bool) (h : i9 aE bm aN = some R) : ag Tryz.prog G0 95 [.lit (.int .i64 aE), .lit (.int .i64 bm), .lit (.int .i64 aN)] (.tree (.lit (.bool R))) := by
 refine ag.runR mixed Tryz.call95 Tryz.func95 rfl (by simp [Tryz.ntmps95]; kernel_rfl) ?_
 obtain ⟨KF, h, kF, kN⟩ := cu h
 simp only [i9] at h
 cases d1 : (decide (aE ≤ bm))
 ·simp only [d1, hs] at h
  try simp only [vz, tyf, d1, nm, seval]
  obtain rfl := kF _ h
  exact aS Tryz.results95 rfl
 simp only [d1, hs] at h
 try simp only [vz, tyf, d1, nm, seval]
 obtain rfl := kF _ h
 exact aS Tryz.results95 rfl
end Go.V
end
