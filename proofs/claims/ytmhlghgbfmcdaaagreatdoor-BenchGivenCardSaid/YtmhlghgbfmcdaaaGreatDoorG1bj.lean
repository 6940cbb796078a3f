/- Part of a proof. -/
import Derived.Test.YtmhlghgbfmcdaaaGreatDoorG1bi
set_option linter.all false
set_option maxRecDepth 4000
set_option maxHeartbeats 40000000
section
namespace Go.V
open Go Go.Proofs IntKind
def aO (k : Gbe) : Value := .agg ⟨[.int .i64 k.stroke, .int .i64 k.hours]⟩
def cj (a b : Gbe) : Bool := ((a.stroke == b.stroke) && ((a.hours == b.hours) && true))
def bC (n : Int) : VV := .lit (.int .i64 n)
theorem lu (a b : Gbe) : aD Tryz.prog (Op.equal 152 (aO a) (aO b)) = some (cj a b) := by
 unfold Op.equal
 exact Bq 5 152 _ _ _ (by kernel_rfl) 9995
theorem lv (b : Bool) (k : Gbe) : aD Tryz.prog (Instr.checkKey b 10000 152 (aO k)) = some () := by
 cases b <;> kernel_rfl
theorem iO (a b : Gbe) (h : cj a b = true) : a = b := by
 obtain ⟨astroke, ahours⟩ := a
 obtain ⟨bstroke, bhours⟩ := b
 simp only [cj, Bool.and_true, Bool.and_eq_true, beq_iff_eq] at h
 simp only [h]
theorem sY (a : Gbe) : Instr.sameBits 10000 (aO a) (aO a) = true := by
 simp [aO, Instr.sameBits]
theorem QB : ((Tryz.prog.info? 3).bind (·.zero)).map ofVal2 = some (bC 0) := by kernel_rfl
theorem lx (k : Gbe) : VV.val? (.agg [.lit (.int .i64 k.stroke), .lit (.int .i64 k.hours)]) = some (aO k) := rfl
theorem sZ {β : Nat} (l : List (Gbe × Int)) (k : Gbe) (H : Nat → Option VObj) (hb : H β = some (.map (encM aO bC l))) : vlookup Tryz.prog H 90 (.mp β) (.agg [.lit (.int .i64 k.stroke), .lit (.int .i64 k.hours)]) true = some (.tup [.lit (.int .i64 (mapGet cj 0 l k)), .lit (.bool (mapHas cj l k))]) :=
 Ps Tryz.underlying90 Tryz.underlying152 lu lv QB (lx k) hb
theorem ta {β : Nat} (l : List (Gbe × Int)) (k : Gbe) (n : Int) (H : Nat → Option VObj) (hb : H β = some (.map (encM aO bC l))) : vmapUpdate Tryz.prog H 90 (.mp β) (.agg [.lit (.int .i64 k.stroke), .lit (.int .i64 k.hours)]) (.lit (.int .i64 n)) = some (.upd β (.map (encM aO bC (mapSet cj l k n)))) :=
 DT Tryz.underlying90 Tryz.underlying152 lu lv iO sY (lx k) hb
theorem Gs {c : VV} {cs : List VV} : aE Tryz.prog 90 (c :: cs) = some c := by
 have h1 : aggT Tryz.prog 90 = some false := by kernel_rfl
 simp [aE, aN, h1]
theorem Gt : szT Tryz.prog 90 = some 1 := by kernel_rfl
theorem tc : vzl Tryz.prog 90 = some [.lit (.map none)] := by kernel_rfl
def mqr := And.intro (And.intro @Ef @Eg) True.intro
def mqt := And.intro (And.intro @Gs @Gt) @tc
def RoundsM (P : Program) (G : Glob) (β : Nat) (I : Inv) : Prop := ∀ x rest (Fr : Nat → Prop) (H : Nat → Option VObj) (nx δ : Nat), (∀ γ, Fr γ → γ < nx) → δ < nx → ¬ Fr δ → H δ = some (.map []) → I (some (.agg x :: rest)) (fun γ => Fr γ ∨ γ = δ) H nx →
  Yields P G β (.agg (x ++ [.mp δ])) H nx (fun b H' nx' => nx ≤ nx' ∧ (∀ γ, Fr γ → H' γ = H γ) ∧ I (if b then some rest else none) Fr H' nx')
def IterM (P : Program) (G : Glob) (g : VV) (L : List VV) : Prop := ∃ f first captured, g = .fn (.func f) first captured ∧ ∀ (β : Nat) (I : Inv), Stable I → RoundsM P G β I → ∀ (H : Nat → Option VObj) (nx : Nat), β < nx → I (some L) noFr H nx →
  aq P G f (first ++ [.yl β] ++ captured) H nx (fun _ H' nx' => I (some []) noFr H' nx' ∨ I none noFr H' nx') (fun _ _ _ => False)
theorem QC {P : Program} {G : Glob} {n : Nat} {Q : VExit → St → Prop} {tm : Nat → VV} {H : Nat → Option VObj} {nx : Nat} {df : List VDef} {g : Operand} {ps : Array Tmp} {az bo : Code} {itv : VV} {L : List VV} (hit : IterM P G itv L) (hg : ev (G.at (some none)) tm g = itv)
    (h : ∀ LO, LO = VObj.loop .ready none (tmL n tm) ps az bo nx → ∃ I : Inv, Stable I ∧ RoundsM P G (nx + 1) I ∧ I (some L) noFr (updH (updH H nx (.deferred (some []))) (nx + 1) LO) (nx + 2) ∧
      ∀ H' nx', I (some []) noFr H' nx' ∨ I none noFr H' nx' → RangeEnd P (G.at (some none)) n Q ⟨tm, H, nx, df⟩ H' nx') : CWp P (G.at (some none)) n (.rangeFunc g ps az bo) Q ⟨tm, H, nx, df⟩ := by
  obtain ⟨f, first, captured, rfl, hv⟩ := hit
  refine Jw hg fun LO hL => ?_
  obtain ⟨I, hs, hr, h0, he⟩ := h LO hL
  exact aq.mono (hv (nx + 1) I hs hr _ _ (Nat.lt_succ_self _) h0) (fun _ H' nx' hh => he H' nx' hh) (fun _ _ _ hh => hh.elim)
def jz (al : GBk) (ah : Int) (bj : Int) : Option (Bool) := cond (bj == 0) (some true) (Option.bind (getI al.Strokes ah) (fun x1 => some (!x1.Round)))
theorem zJ (al : GBk) (ah : Int) (bj : Int) (R : Bool) (h : jz al ah bj = some R) : aj Tryz.prog G0 104 [.agg (cGBk al), .lit (.int .i64 ah), .lit (.int .i64 bj)] (.tree (.lit (.bool R))) := by
 refine aj.runR mixed Tryz.call104 Tryz.func104 rfl (by simp [Tryz.ntmps104]; kernel_rfl) ?_
 obtain ⟨KF, h, kF, kN⟩ := cn h
 simp only [jz] at h
 cases d2 : (bj == 0)
 ·simp only [d2, hs] at h
  obtain ⟨x3, o4, h⟩ := optI h kN
  try simp only [hs] at h
  try simp only [vz, tyf, d2, (aV o4), nm, seval]
  obtain rfl := kF _ h
  exact bn Tryz.results104 rfl
 simp only [d2, hs] at h
 try simp only [vz, tyf, d2, nm, seval]
 obtain rfl := kF _ h
 exact bn Tryz.results104 rfl
def uv (bQ : List Int) (dp : Int) (bf : GBk) : Option (Bool) := Option.bind (jz bf (List.length bQ : Int) dp) (fun r1 => some r1)
theorem QD (bQ : List Int) (dp : Int) (bf : GBk) (R : Bool) (h : uv bQ dp bf = some R) : aj Tryz.prog G0 117 [.sl (ae eI bQ) (List.length bQ) false, .lit (.int .i64 dp), .tp (cGBk bf)] (.tree (.lit (.bool R))) := by
 refine aj.runR mixed Tryz.call117 Tryz.func117 rfl (by simp [Tryz.ntmps117]; kernel_rfl) ?_
 obtain ⟨KF, h, kF, kN⟩ := cn h
 simp only [uv] at h
 obtain ⟨r2, o3, h⟩ := optI h kN
 try simp only [hs] at h
 simp only [vz, tyf, nm, seval]
 refine ktA (zJ _ _ _ _ o3) ?_
 refine bw (fun tm => tm 10 = .lit (.bool r2) ∧ True) (by refine ⟨?_, trivial⟩ <;> first | (simp only [ua, nm, seval] <;> rfl) | rfl) ?_
 rintro tm ⟨e4, _⟩
 try simp only [vz, tyf, e4, nm, seval]
 obtain rfl := kF _ h
 exact bn Tryz.results117 rfl
def planC (b : GBk) (pl : List Int) : List VV := cGBk b ++ [sI pl]
theorem Gu {b : GBk} {pl : List Int} : treeL (planC b pl) = true := by
  have h1 : treeL (ae eI b.Boards) = true := eI_ok.treeL _
  have h2 : treeL (ae cGBs b.Strokes) = true := cN.treeL _
  have h3 : treeL (ae eI pl) = true := eI_ok.treeL _
  simp [planC, cGBk, treeL, VV.tree, h1, h2, h3]
theorem Gv (b : GBk) (pl : List Int) : NewC Tryz.prog G0 69 [.agg (cGBk b), sI pl] (planC b pl) := by
  refine NewC.of_open Gu ?_
  refine aq.run mixed Tryz.call69 Tryz.func69 rfl (by simp [Tryz.ntmps69]; kernel_rfl) ?_
  simp only [vz, mq, mqm, vsi, tyf, mqt, seval, ua]
  refine bS (x := .agg (planC b pl ++ [.mp 4])) (by first | (simp only [Tryz.results69, resV, resL, resV1, bX, bY, uw, cr, tyf, mqt, nm, seval] <;> rfl) | rfl) ?_
  exact ⟨4, rfl, by simp [updH]⟩
theorem Gw {mc : List VV} {mf : Nat} {ln lim : Int} (htm : treeL mc = true) : aj Tryz.prog G0 116 [.lit (.int .i64 ln), .lit (.int .i64 lim), .fn (.func mf) [] mc] (.tree (.fn (.func 137) [] [.tp [.lit (.int .i64 ln)], .tp [.lit (.int .i64 lim)], .tp [.fn (.func mf) [] mc]])) := by
  refine aj.run mixed Tryz.call116 Tryz.func116 rfl (by simp [Tryz.ntmps116]; kernel_rfl) ?_
  simp only [vz, tyf, seval, ua, rg]
  refine ⟨rfl, .fn (.func 137) [] [.ptr 0 0, .ptr 1 0, .ptr 2 0], by simp [Tryz.results116, resV, resL, resV1, upd], 20, ?_⟩
  simp [sealV, sealL, VV.tree, treeL, updH, htm]
theorem ur {b : GBk} : treeL (cGBk b) = true := eg.tree b
def plansO (b : GBk) : Option (List (List Int)) := cond (decide (0 < b.Strokes.length) && (decide (b.Strokes.length < 1000) && (decide (0 ≤ b.Apprentices) && decide (b.Apprentices < 1000)))) (listsO (fun p j => uv p j b) (b.Apprentices.toNat + 1) b.Strokes.length []) none
def plV (b : GBk) (p : List Int) : VV := .agg (planC b p)
theorem MA {b : GBk} {L : List (List Int)} (h : plansO b = some L) : IterM Tryz.prog G0 (.fn (.func 115) [] [.tp (cGBk b)]) (L.map (plV b)) := by
  unfold plansO at h
  cases hs : (decide (0 < b.Strokes.length) && (decide (b.Strokes.length < 1000) && (decide (0 ≤ b.Apprentices) && decide (b.Apprentices < 1000)))) with
  | false => rw [hs] at h; cases h
  | true =>
  rw [hs, cond_true] at h
  simp only [Bool.and_eq_true, decide_eq_true_eq] at hs
  obtain ⟨ng, ec, oD, rz⟩ := hs
  have hmc : treeL [VV.tp (cGBk b)] = true := by simp [treeL, VV.tree, ur]
  have hit := yX (mc := [.tp (cGBk b)]) (mf := 117) (ln := b.Strokes.length) (lim := b.Apprentices.toNat + 1) hmc ng ec (by omega) h (fun p j t hp => QD p j b t hp)
  have eA : b.Apprentices + 1 = ((b.Apprentices.toNat + 1 : Nat) : Int) := by omega
  have wA : i64.wrap (b.Apprentices + 1) = ((b.Apprentices.toNat + 1 : Nat) : Int) := by rw [IntWalk.i64_in _ (by omega)]; exact eA
  refine ⟨115, [], _, rfl, fun β I hst hr H nx hβ hI => ?_⟩
  refine aq.run mixed Tryz.call115 Tryz.func115 rfl (by simp [Tryz.ntmps115]; kernel_rfl) ?_
  simp only [List.nil_append, List.cons_append, vz, tyf, seval, ua, rg, wA]
  refine ktree (args0 := [.lit (.int .i64 b.Strokes.length), .lit (.int .i64 ((b.Apprentices.toNat + 1 : Nat) : Int)), .fn (.func 117) [] [.tp (cGBk b)]]) ?_ ?_ (Gw hmc) ?_
  · first | (simp only [nrm, aI, fQ] <;> rfl) | (simp only [nrm, aI]; done) | rfl
  · have h1 : treeL (cGBk b) = true := ur
    simp only [fQ] at h1
    simp [treeL, VV.tree] at h1 ⊢
    exact h1
  simp only [vz, tyf, seval, ua, rg]
  refine uj (fun tm => tm 13 = .fn (.func 137) [] [.tp [.lit (.int .i64 b.Strokes.length)], .tp [.lit (.int .i64 ((b.Apprentices.toNat + 1 : Nat) : Int))], .tp [.fn (.func 117) [] [.tp (cGBk b)]]] ∧ tm 1 = .tp (cGBk b) ∧ tm 2 = .ptr nx 0) (by refine ⟨?_, ?_, ?_⟩ <;> simp only [ua, seval, Nat.add_zero, fQ]) ?_
  rintro tm ⟨bz, e1, e2⟩
  refine Pg hit (by first | (simp only [iJ, so, bz, pj, seval] <;> rfl) | rfl) ?_
  intro LO hLO
  obtain ⟨J, hJ⟩ : ∃ J : Option (List VV) → Option (List VV) → List (Nat × VObj) → Prop, J = (fun o o' hp => match o with
    | some l => ∃ (p : List (List Int)), l = p.map sI ∧ o' = some (p.map (plV b)) ∧ hp = [(nx, .cells (some 130) [.yl β]), (nx + 11, .deferred (some [])), (nx + 12, LO)]
    | none => ∃ LD : Code → VObj, (∃ tml ps az bo d, LD = fun c => VObj.loop .done (some c) tml ps az bo d) ∧ o' = none ∧ hp = [(nx, .cells (some 130) [.yl β]), (nx + 11, .deferred (some [])), (nx + 12, LD .ret)]) := ⟨_, rfl⟩
  refine ⟨ownI2 I J, Pf hst, ?_, ?_, ?_⟩
  · rintro v rest Fr H1 bm hFr ⟨hp, o', hown, hj, hi⟩
    rw [hJ] at hj
    obtain ⟨p, hl, rfl, rfl⟩ := hj
    cases p with
    | nil => cases hl
    | cons e p =>
    simp only [List.map_cons, List.cons.injEq] at hl
    obtain ⟨rfl, rfl⟩ := hl
    obtain ⟨la, na, Ha⟩ := hown.head
    obtain ⟨lb, nb, Hb⟩ := hown.tail.head
    obtain ⟨lc, nc, Hc⟩ := hown.tail.tail.head
    have hfr : ∀ γ, (∃ q ∈ [(nx, .cells (some 130) [.yl β]), (nx + 11, .deferred (some [])), (nx + 12, LO)], (q : Nat × VObj).1 = γ) ↔ γ = nx ∨ γ = nx + 11 ∨ γ = nx + 12 := by
      intro γ
      simp [eq_comm]
    simp only [hfr] at hi
    refine DQ mixed (psl := [14]) hLO Hc DL rfl (by kernel_rfl) (by kernel_rfl) ?_
    intro LB LD hLB hLD
    refine DM (fun tm => tm 14 = sI e ∧ tm 1 = .tp (cGBk b) ∧ tm 2 = .ptr nx 0) (by refine ⟨?_, ?_, ?_⟩ <;> simp only [DJ, DK, Tryz.ntmps115, e1, e2, seval]) ?_
    clear bz e1 e2
    rintro tm ⟨bH, e1, e2⟩
    have hne : (nx = nx + 12) = False := by simp
    simp only [vz, tyf, @cE, seval, ua, nm, rg, RStart, bH, e1, e2, Ha, Hc, hne]
    refine uj (fun tm => tm 4 = sI e ∧ tm 1 = .tp (cGBk b) ∧ tm 2 = .ptr nx 0) (by refine ⟨?_, ?_, ?_⟩ <;> simp only [ua, seval, e1, e2, bH]) ?_
    clear bH e1 e2 tm
    rintro tm ⟨e4, e1, e2⟩
    refine Bp mixed [4] (by kernel_rfl) ?_
    refine Bo (k := 4) (by decide) rfl rfl ?_
    simp only [vz, tyf, @cE, seval, ua, nm, rg, e4, e1, e2, Ha, Hc, hne]
    refine dknew ?_ (Gv b e) ?_
    · have h1 : treeL (cGBk b) = true := ur
      have h2 : treeL (ae eI e) = true := eI_ok.treeL _
      simp only [fQ] at h1
      simp [treeL, VV.tree, h2] at h1 ⊢
      exact h1
    simp only [vz, tyf, @cE, seval, ua, nm, rg, e4, e1, e2, Ha, Hc, hne]
    refine ia ⟨?_, ?_⟩
    · simp only [ib, ic, dD, ig, and_true, true_and]
      repeat' (first | exact trivial | refine And.intro ?_ ?_ | rw [dD] | rw [ij] | exact Or.inl (by decide +kernel) | exact Or.inl (by dsimp only; decide +kernel) | (refine Or.inr ⟨?_, ?_⟩ <;> simp; done) | (refine Or.inr ⟨?_, ?_⟩ <;> simp <;> omega) | (refine Or.inr ⟨?_, ?_⟩ <;> simp [VEff.wr] <;> omega))
    simp only [vz, tyf, @cE, seval, ua, nm, rg, HU, e4, e1, e2, Ha, Hc, hne]
    have mu : I (some (VV.agg (planC b e) :: p.map (plV b))) (fun γ => (Fr γ ∨ γ = nx ∨ γ = nx + 11 ∨ γ = nx + 12) ∨ γ = bm + 4) (updH (updH H1 (nx + 12) LB) (bm + 4) (.map [])) (bm + 7) := by
      refine hst _ _ _ _ _ _ _ hi ?_ (by omega) ?_
      · intro γ hlt hn
        have g3 : γ ≠ nx + 12 := fun e => hn (.inr (.inr (.inr e)))
        rw [aX, if_neg (by omega), aX, if_neg g3]
      · rintro γ (h | rfl)
        · exact .inl h
        · exact .inr ⟨by omega, by omega⟩
    refine (hr (planC b e) (p.map (plV b)) (fun γ => Fr γ ∨ γ = nx ∨ γ = nx + 11 ∨ γ = nx + 12) _ _ (bm + 4) ?_ (by omega) ?_ (by rw [aX, if_pos rfl]) mu) (some (some (nx + 12))) _ _ _ rfl rfl ?_
    · rintro γ (hγ | rfl | rfl | rfl)
      · have := hFr γ hγ; omega
      · omega
      · omega
      · omega
    · rintro (hγ | h | h | h)
      · have := hFr _ hγ; omega
      · omega
      · omega
      · omega
    rintro bb H2 dV ⟨q1, q2, q3⟩
    have Ka : H2 nx = some (.cells (some 130) [.yl β]) := by rw [q2 nx (.inr (.inl rfl))]; rw [aX, if_neg (by omega)]; simp only [aX, seval, hne, Ha]
    have Kb : H2 (nx + 11) = some (.deferred (some [])) := by rw [q2 _ (.inr (.inr (.inl rfl))), aX, if_neg (by omega), aX, if_neg (by omega)]; exact Hb
    have Kc : H2 (nx + 12) = some LB := by rw [q2 _ (.inr (.inr (.inr rfl))), aX, if_neg (by omega), aX, if_pos rfl]
    have KF : ∀ γ, Fr γ → H2 γ = H1 γ := by
      intro γ hγ
      have g3 : γ ≠ nx + 12 := fun e => nc (e ▸ hγ)
      have := hFr γ hγ
      rw [q2 γ (.inl hγ), aX, if_neg (by omega), aX, if_neg g3]
    cases bb with
    | true =>
      refine IN ?_
      simp only [vz, tyf, @cE, seval, ua, nm, rg, Bool.not_true]
      refine ⟨Kc, (show bm ≤ dV by omega), fun γ hγ => ?_, ?_⟩
      · have g3 : γ ≠ nx + 12 := fun e => nc (e ▸ hγ)
        simp only [updH]
        rw [if_neg g3]
        exact KF γ hγ
      · simp only [if_true] at q3 ⊢
        refine ⟨[(nx, .cells (some 130) [.yl β]), (nx + 11, .deferred (some [])), (nx + 12, LO)], some (p.map (plV b)), Own.cons (show nx < dV by omega) na ?_ (Own.cons (show nx + 11 < dV by omega) nb ?_ (Own.cons (show nx + 12 < dV by omega) nc ?_ Own.nil)), ?_, ?_⟩
        · simp only [aX, seval, hne, Ka]
        · simp only [aX, nm, seval, Kb]
        · simp only [aX, seval]
        · rw [hJ]
          exact ⟨p, rfl, rfl, rfl⟩
        · simp only [hfr]
          refine hst _ _ _ _ _ _ _ q3 ?_ (by omega) (fun γ h => .inl h)
          intro γ _ hn
          have g3 : γ ≠ nx + 12 := fun e => hn (.inr (.inr (.inr e)))
          simp only [updH]
          rw [if_neg g3]
    | false =>
      refine IN ?_
      simp only [vz, tyf, @cE, seval, ua, nm, rg, Bool.not_false]
      refine ⟨Kc, (show bm ≤ dV by omega), fun γ hγ => ?_, ?_⟩
      · have g3 : γ ≠ nx + 12 := fun e => nc (e ▸ hγ)
        simp only [updH]
        rw [if_neg g3]
        exact KF γ hγ
      · simp only [Bool.false_eq_true, if_false] at q3 ⊢
        have Gx : ∀ γ, (∃ q ∈ [(nx, .cells (some 130) [.yl β]), (nx + 11, .deferred (some [])), (nx + 12, LD .ret)], (q : Nat × VObj).1 = γ) ↔ γ = nx ∨ γ = nx + 11 ∨ γ = nx + 12 := by
          intro γ
          simp [eq_comm]
        refine ⟨[(nx, .cells (some 130) [.yl β]), (nx + 11, .deferred (some [])), (nx + 12, LD .ret)], none, Own.cons (show nx < dV by omega) na ?_ (Own.cons (show nx + 11 < dV by omega) nb ?_ (Own.cons (show nx + 12 < dV by omega) nc ?_ Own.nil)), ?_, ?_⟩
        · simp only [aX, seval, hne, Ka]
        · simp only [aX, nm, seval, Kb]
        · simp only [aX, seval]
        · rw [hJ]
          exact ⟨LD, ⟨_, _, _, _, _, hLD⟩, rfl, rfl⟩
        · simp only [Gx]
          refine hst _ _ _ _ _ _ _ q3 ?_ (by omega) (fun γ h => .inl h)
          intro γ _ hn
          have g3 : γ ≠ nx + 12 := fun e => hn (.inr (.inr (.inr e)))
          simp only [updH]
          rw [if_neg g3]
  · have hfr : ∀ γ, (∃ q ∈ [(nx, .cells (some 130) [.yl β]), (nx + 11, .deferred (some [])), (nx + 12, LO)], (q : Nat × VObj).1 = γ) ↔ γ = nx ∨ γ = nx + 11 ∨ γ = nx + 12 := by
      intro γ
      simp [eq_comm]
    refine ⟨[(nx, .cells (some 130) [.yl β]), (nx + 11, .deferred (some [])), (nx + 12, LO)], some (L.map (plV b)), Own.cons (show nx < nx + 13 by omega) (fun h => h) ?_ (Own.cons (show nx + 11 < nx + 13 by omega) (fun h => h) ?_ (Own.cons (show nx + 12 < nx + 13 by omega) (fun h => h) ?_ Own.nil)), ?_, ?_⟩
    · simp only [updH]
      rw [if_neg (by omega), if_neg (by omega), if_pos (by omega)]
    · simp only [updH]
      simp
    · simp only [updH]
      simp
    · rw [hJ]
      exact ⟨L, rfl, rfl, rfl⟩
    · simp only [hfr]
      refine hst _ _ _ _ _ _ _ hI ?_ (by omega) ?_
      · intro γ hγ _
        simp only [updH]
        repeat rw [if_neg (by omega)]
      · rintro γ (h | rfl | rfl | rfl)
        · exact h.elim
        · right; omega
        · right; omega
        · right; omega
  · rintro H' nx' (⟨hp, o', hown, hj, hi⟩ | ⟨hp, o', hown, hj, hi⟩)
    · rw [hJ] at hj
      obtain ⟨p, hl, rfl, rfl⟩ := hj
      cases p with
      | cons e p => cases hl
      | nil =>
      obtain ⟨la, na, Ha⟩ := hown.head
      obtain ⟨lb, nb, Hb⟩ := hown.tail.head
      obtain ⟨lc, nc, Hc⟩ := hown.tail.tail.head
      have hfr : ∀ γ, (∃ q ∈ [(nx, .cells (some 130) [.yl β]), (nx + 11, .deferred (some [])), (nx + 12, LO)], (q : Nat × VObj).1 = γ) ↔ γ = nx ∨ γ = nx + 11 ∨ γ = nx + 12 := by
        intro γ
        simp [eq_comm]
      simp only [hfr] at hi
      refine Jx hLO Hc ?_
      intro LX
      simp only [vz, tyf, @cE, seval, ua, nm, rg]
      refine DP (by simp only [aX, nm, seval, Hb]) ?_
      refine za (x := .tup []) (by simp [Tryz.results115, resV, resL]) (.inl ?_)
      refine hst _ _ _ _ _ _ _ hi ?_ (Nat.le_refl _) (fun γ h => h.elim)
      intro γ _ hn
      have g2 : γ ≠ nx + 11 := fun e => hn (.inr (.inr (.inl e)))
      have g3 : γ ≠ nx + 12 := fun e => hn (.inr (.inr (.inr e)))
      simp only [updH]
      repeat rw [if_neg (by first | assumption | omega)]
    · rw [hJ] at hj
      obtain ⟨LD, ⟨tml, ps, az, bo, d, hLD⟩, rfl, rfl⟩ := hj
      obtain ⟨la, na, Ha⟩ := hown.head
      obtain ⟨lb, nb, Hb⟩ := hown.tail.head
      obtain ⟨lc, nc, Hc⟩ := hown.tail.tail.head
      have hfr : ∀ γ, (∃ q ∈ [(nx, .cells (some 130) [.yl β]), (nx + 11, .deferred (some [])), (nx + 12, LD .ret)], (q : Nat × VObj).1 = γ) ↔ γ = nx ∨ γ = nx + 11 ∨ γ = nx + 12 := by
        intro γ
        simp [eq_comm]
      simp only [hfr] at hi
      refine Pc hLD Hc ?_
      intro LX
      simp only [vz, tyf, @cE, seval, ua, nm, rg]
      refine sA (by simp only [aX, nm, seval, Hb]) ?_
      refine bS (x := .tup []) (by simp [Tryz.results115, resV, resL]) (.inr ?_)
      refine hst _ _ _ _ _ _ _ hi ?_ (Nat.le_refl _) (fun γ h => h.elim)
      intro γ _ hn
      have g2 : γ ≠ nx + 11 := fun e => hn (.inr (.inr (.inl e)))
      have g3 : γ ≠ nx + 12 := fun e => hn (.inr (.inr (.inr e)))
      simp only [updH]
      repeat rw [if_neg (by first | assumption | omega)]
def nz (rc : GBk → (List Int) → Int → Int → (List (Gbe × Int)) → Option ((Int) × List (Gbe × Int))) (aa : GBk) (ag : List Int) (ah : Int) (ak : Int) (l0 : List (Gbe × Int)) : Nat → Int → Option (LOut ((Int) × List (Gbe × Int)) (Int))
 | 0, _ => none
 | k0 + 1, bB => cond (decide (bB ≥ 0)) (Option.bind (getI ag bB) (fun x1 => Option.bind (getI ag ah) (fun x2 => cond (x1 == x2) (Option.bind (rc aa ag bB ak l0) (fun r3 => some (.ret (r3.1, r3.2)))) (nz rc aa ag ah ak l0 k0 (i64.wrap (bB - 1)))))) (some (.go bB))
def td (rc : GBk → (List Int) → Int → Int → (List (Gbe × Int)) → Option ((Int) × List (Gbe × Int))) (aa : GBk) (ag : List Int) (ah : Int) (ak : Int) (l0 : List (Gbe × Int)) : Option ((Int) × List (Gbe × Int)) := lbind (nz rc aa ag ah ak l0 1000000 (i64.wrap (ah - 1))) (fun r5 => some r5) (fun c4 => some (0, l0)) (fun _ _ => none)
theorem QE (rc : GBk → (List Int) → Int → Int → (List (Gbe × Int)) → Option ((Int) × List (Gbe × Int))) (rc_ok : ∀ (aa : GBk) (ag : List Int) (ah : Int) (ak : Int) (l0 : List (Gbe × Int)) (R : (Int) × List (Gbe × Int)), rc aa ag ah ak l0 = some R → VUpd Tryz.prog G0 118 (fun β => [.agg [.lit (.int .i64 aa.Apprentices), .sl (ae eI aa.Boards) (List.length aa.Boards) false, .sl (ae cGBs aa.Strokes) (List.length aa.Strokes) false, .sl (ae eI ag) (List.length ag) false, .mp β], .lit (.int .i64 ah), .lit (.int .i64 ak)]) (encM aO bC l0) (encM aO bC R.2) (fun _ => .lit (.int .i64 R.1))) (aa : GBk) (ag : List Int) (ah : Int) (ak : Int) (l0 : List (Gbe × Int)) (R : (Int) × List (Gbe × Int)) (h : td rc aa ag ah ak l0 = some R) : VUpd Tryz.prog G0 108 (fun β => [.agg [.lit (.int .i64 aa.Apprentices), .sl (ae eI aa.Boards) (List.length aa.Boards) false, .sl (ae cGBs aa.Strokes) (List.length aa.Strokes) false, .sl (ae eI ag) (List.length ag) false, .mp β], .lit (.int .i64 ah), .lit (.int .i64 ak)]) (encM aO bC l0) (encM aO bC R.2) (fun _ => .lit (.int .i64 R.1)) := by
 intro bl nx hlt
 have aZ := fB (β := bl) (nx := nx) hlt
 refine aq.run mixed Tryz.call108 Tryz.func108 rfl (by simp [Tryz.ntmps108]; kernel_rfl) ?_
 obtain ⟨KF, h, kF, kN⟩ := cn h
 simp only [td] at h
 simp only [vz, mq, mqm, vsi, tyf, mqt, aZ, nm, seval]
 obtain ⟨K6, h, uU, C3, Ov, mV⟩ := f9 h kN
 obtain ⟨f6, C4, h⟩ := call2 h
 obtain ⟨I6, lf⟩ : ∃ I : Nat → St → Prop, I = (fun m st => ∃ (p6 : Nat) (gx : Int), p6 = m ∧ st.df = [] ∧ nx + 5 ≤ st.nx ∧ st.H bl = some (.map (encM aO bC l0)) ∧ st.H nx = some (.cells (some 92) ((cGBk aa) ++ [.sl (ae eI ag) (List.length ag) false] ++ [.mp bl])) ∧ st.tm 1 = .lit (.int .i64 ah) ∧ st.tm 2 = .lit (.int .i64 ak) ∧ st.tm 3 = .ptr nx 0 ∧ st.tm 7 = .lit (.int .i64 gx) ∧ K6 (f6 p6 gx)) := ⟨_, rfl⟩
 refine loopK mixed (by kernel_rfl) I6 1000000 (by rw [lf]; refine ⟨1000000, i64.wrap (ah - 1), rfl, rfl, (show nx + 5 ≤ nx + 5 by omega), ?_, ?_, ?_, ?_, ?_, ?_, h⟩ <;> first | (simp only [ua, b5, aZ, nm, seval] <;> rfl) | rfl) ?_
 rintro m ⟨tm, H, mW, df⟩ hinv
 rw [lf] at hinv
 obtain ⟨p6, gx, rfl, hdf, C5, H7, H8, e9, aY, br, bF, h⟩ := hinv
 simp only at hdf C5 H7 H8 e9 aY br bF
 have n6 := kK (a := nx) (m := 5) (b := mW) (by omega)
 have nA := fB (β := bl) (nx := mW) (by omega)
 subst hdf C4
 cases p6 with
 | zero =>
  simp only [nz, hs, reduceCtorEq] at h
  exact absurd h mV
 | succ p6 =>
  simp only [nz, hs, reduceCtorEq] at h
  cases gm : (decide (gx ≥ 0))
  ·simp only [gm, hs] at h
   replace h := C3 _ h
   try dsimp only at h
   try simp only [hs] at h
   try simp only [vz, mq, mqm, vsi, tyf, mqt, aZ, n6, nA, e9, aY, br, bF, H7, H8, gm, nm, seval]
   refine bS (x := (.lit (.int .i64 0))) (by first | (simp only [Tryz.results108, resV, resL, resV1, bX, bY, uw, cr, tyf, mqt, aZ, n6, nA, H7, H8, gm, nm, seval] <;> rfl) | rfl) ?_
   obtain rfl := kF _ h
   refine ⟨(by first | rfl | assumption | (simp only [aX, b2, aZ, n6, nA, H7, H8, nm, seval] <;> rfl)), ?_⟩
   exact sq_of (jg (by simp only [tre, tytre, mqr, Bool.and_self]) rfl)
  simp only [gm, hs] at h
  simp only [vz, mq, mqm, vsi, tyf, mqt, aZ, n6, nA, e9, aY, br, bF, H7, H8, gm, nm, seval]
  refine m6 (fun tm => tm 1 = .lit (.int .i64 ah) ∧ tm 2 = .lit (.int .i64 ak) ∧ tm 3 = .ptr nx 0 ∧ tm 7 = .lit (.int .i64 gx) ∧ True) (by refine ⟨e9, aY, br, bF, trivial⟩ <;> first | (simp only [ua, b5, aZ, n6, nA, e9, aY, br, bF, H7, H8, gm, nm, seval] <;> rfl) | rfl) ?_
  rintro tm ⟨bx, bu, bL, bN, _⟩
  obtain ⟨QF, lh, h⟩ := optI h mV
  try simp only [hs] at h
  obtain ⟨QG, gO, h⟩ := optI h mV
  try simp only [hs] at h
  cases i6 : (QF == QG)
  ·simp only [i6, hs] at h
   have Gy := And.intro aZ (And.intro n6 (And.intro nA (And.intro H7 (And.intro H8 (And.intro gm i6)))))
   simp only [vz, mq, mqm, vsi, tyf, mqt, Gy, bx, bu, bL, bN, (ba lh), (ba gO), nm, seval]
   exact ⟨p6, Nat.lt_succ_self _, by rw [lf]; refine ⟨p6, i64.wrap (gx - 1), rfl, rfl, (show nx + 5 ≤ mW + 16 by omega), ?_, ?_, bx, bu, bL, ?_, (by first | exact h | (simp only [Gy]; exact h))⟩ <;> first | (simp only [ua, b5, Gy, bx, bu, bL, bN, nm, seval] <;> rfl) | rfl⟩
  simp only [i6, hs] at h
  have pz := And.intro aZ (And.intro n6 (And.intro nA (And.intro H7 (And.intro H8 (And.intro gm i6)))))
  obtain ⟨Gz, QH, h⟩ := optI h mV
  try simp only [hs] at h
  simp only [vz, mq, mqm, vsi, tyf, mqt, pz, bx, bu, bL, bN, (ba lh), (ba gO), nm, seval]
  refine kupd (VUpd.at (β := bl) (y := (fun _ => .lit (.int .i64 Gz.1))) (rc_ok _ _ _ _ _ _ QH) (by omega) (by first | rfl | assumption | (simp only [aX, b2, pz, nm, seval] <;> rfl)) (by first | rfl | (simp only [nrm, aI, @bZ, @dW] <;> rfl)) (ez (fun _ => rfl) _)) ?_
  refine eV (fun tm => tm 28 = .lit (.int .i64 Gz.1) ∧ True) (by refine ⟨?_, trivial⟩ <;> first | (simp only [ua, b5, pz, bx, bu, bL, bN, nm, seval] <;> rfl) | rfl) ?_
  rintro tm ⟨ca, _⟩
  try simp only [vz, mq, mqm, vsi, tyf, mqt, pz, (ba lh), (ba gO), ca, nm, seval]
  refine bS (x := (.lit (.int .i64 Gz.1))) (by first | (simp only [Tryz.results108, resV, resL, resV1, bX, bY, uw, cr, tyf, mqt, pz, (ba lh), (ba gO), nm, seval] <;> rfl) | rfl) ?_
  replace h := uU _ h
  try dsimp only at h
  obtain rfl := kF _ h
  refine ⟨(by first | rfl | assumption | (simp only [aX, b2, pz, nm, seval] <;> rfl)), ?_⟩
  exact sq_of (jg (by simp only [tre, tytre, mqr, Bool.and_self]) rfl)
def p8  : List Int → Int → Int → Option (LOut (Int) (Int))
 | [], ix, c9 => some (.go c9)
 | e0 :: p0, ix, c9 => p8 p0 (ix + 1) (if c9 < e0 then e0 else c9)
def j1 (bc : List Int) : Option (Int) := cond (lenOk bc) (lbind (p8 bc 0 0) (fun r2 => some r2) (fun c1 => some c1) (fun _ _ => none)) none
theorem rO (bc : List Int) (R : Int) (h : j1 bc = some R) : aj Tryz.prog G0 105 [.sl (ae eI bc) (List.length bc) false] (.tree (.lit (.int .i64 R))) := by
 refine aj.runR mixed Tryz.call105 Tryz.func105 rfl (by simp [Tryz.ntmps105]; kernel_rfl) ?_
 obtain ⟨KF, h, kF, kN⟩ := cn h
 simp only [j1] at h
 cases g4 : (lenOk bc)
 ·simp only [g4, hs] at h
  exact absurd h kN
 simp only [g4, hs] at h
 simp only [vz, tyf, g4, nm, seval]
 obtain ⟨K3, h, Jg, uL, NP, NQ⟩ := f9 h kN
 obtain ⟨f3, Cf, h⟩ := call3 h
 obtain ⟨I3, mI⟩ : ∃ I : Nat → St → Prop, I = (fun m st => ∃ (p3 : List Int) (fj : Int) (cu : Int), m = List.length p3 ∧ 0 ≤ fj ∧ List.drop (Int.toNat fj) bc = p3 ∧ st.df = [] ∧ 5 ≤ st.nx ∧ st.tm 6 = .sl (ae eI bc) (List.length bc) false ∧ st.tm 7 = .lit (.int .i64 (List.length bc : Int)) ∧ st.tm 3 = .lit (.int .i64 cu) ∧ st.tm 8 = .lit (.int .i64 fj) ∧ K3 (f3 p3 fj cu)) := ⟨_, rfl⟩
 refine loopK mixed (by kernel_rfl) I3 (List.length bc) (by rw [mI]; refine ⟨bc, 0, 0, rfl, Int.le_refl _, rfl, rfl, (show 5 ≤ 5 by omega), ?_, ?_, ?_, ?_, h⟩ <;> first | (simp only [ua, nm, seval] <;> rfl) | rfl) ?_
 rintro m ⟨tm, H, sb, df⟩ hinv
 rw [mI] at hinv
 obtain ⟨p3, fj, cu, rfl, eE, iD, hdf, Cg, e5, e6, e7, e8, h⟩ := hinv
 simp only at hdf Cg e5 e6 e7 e8
 have n9 := gI (m := 5) (b := sb) (by omega)
 subst hdf Cf
 cases p3 with
 | nil =>
  have kV : (decide (fj < (List.length bc : Int))) = false := fl eE iD
  simp only [p8, hs, reduceCtorEq] at h
  replace h := uL _ h
  try dsimp only at h
  try simp only [hs] at h
  try simp only [vz, tyf, g4, n9, e5, e6, e7, e8, kV, nm, seval]
  refine bS (x := (.lit (.int .i64 cu))) (by first | (simp only [Tryz.results105, resV, resL, resV1, bX, bY, uw, cr, tyf, g4, n9, kV, nm, seval] <;> rfl) | rfl) ?_
  obtain rfl := kF _ h
  refine eT ?_ ?_
  ·simp only [tre, tytre, Bool.and_self]
  ·first | (simp only [outV, uw, ej, cr, tyf, nrm, aI, g4, n9, e5, e6, e7, e8, kV, nm, seval] <;> rfl) | rfl
 | cons e3 p3 =>
  have eM : (decide (fj < (List.length bc : Int))) = true := fm eE iD
  have oW := dv eE iD
  have mJ := fp eE iD g4
  simp only [p8, hs, reduceCtorEq] at h
  simp only [vz, tyf, g4, n9, e5, e6, e7, e8, eM, (ba oW), mJ, nm, seval]
  exact ⟨List.length p3, Nat.lt_succ_self _, by rw [mI]; refine ⟨p3, fj + 1, (if cu < e3 then e3 else cu), rfl, Int.le_trans eE (Int.le_add_one (Int.le_refl _)), dw eE iD, rfl, (show 5 ≤ sb + 10 by omega), e5, e6, ?_, ?_, (by first | exact h | (simp only [eM]; exact h))⟩ <;> first | (simp only [ua, n9, e5, e6, e7, e8, eM, mJ, nm, seval] <;> rfl) | rfl⟩
def jJ (rc : GBk → (List Int) → Int → Int → (List (Gbe × Int)) → Option ((Int) × List (Gbe × Int))) (aa : GBk) (ag : List Int) (ak : Int) : List Int → Int → (List Int) → (List (Gbe × Int)) → Option (LOut ((List Int) × List (Gbe × Int)) ((List Int) × (List (Gbe × Int))))
 | [], ly, bB, cb => some (.go (bB, cb))
 | e0 :: p0, ly, bB, cb => Option.bind (rc aa ag e0 ak cb) (fun r2 => cond (roomOk 8 (List.length (bB ++ [r2.1]))) (jJ rc aa ag ak p0 (ly + 1) (bB ++ [r2.1]) r2.2) none)
def p9 (rc : GBk → (List Int) → Int → Int → (List (Gbe × Int)) → Option ((Int) × List (Gbe × Int))) (aa : GBk) (ag : List Int) (ar : List Int) (ak : Int) (l0 : List (Gbe × Int)) : Option ((List Int) × List (Gbe × Int)) := cond (lenOk ar) (lbind (jJ rc aa ag ak ar 0 ([] : List Int) l0) (fun r4 => some r4) (fun c3 => some (c3.1, c3.2)) (fun _ _ => none)) none
theorem Ky (rc : GBk → (List Int) → Int → Int → (List (Gbe × Int)) → Option ((Int) × List (Gbe × Int))) (rc_ok : ∀ (aa : GBk) (ag : List Int) (ah : Int) (ak : Int) (l0 : List (Gbe × Int)) (R : (Int) × List (Gbe × Int)), rc aa ag ah ak l0 = some R → VUpd Tryz.prog G0 118 (fun β => [.agg [.lit (.int .i64 aa.Apprentices), .sl (ae eI aa.Boards) (List.length aa.Boards) false, .sl (ae cGBs aa.Strokes) (List.length aa.Strokes) false, .sl (ae eI ag) (List.length ag) false, .mp β], .lit (.int .i64 ah), .lit (.int .i64 ak)]) (encM aO bC l0) (encM aO bC R.2) (fun _ => .lit (.int .i64 R.1))) (aa : GBk) (ag : List Int) (ar : List Int) (ak : Int) (l0 : List (Gbe × Int)) (R : (List Int) × List (Gbe × Int)) (h : p9 rc aa ag ar ak l0 = some R) : VUpd Tryz.prog G0 106 (fun β => [.agg [.lit (.int .i64 aa.Apprentices), .sl (ae eI aa.Boards) (List.length aa.Boards) false, .sl (ae cGBs aa.Strokes) (List.length aa.Strokes) false, .sl (ae eI ag) (List.length ag) false, .mp β], .sl (ae eI ar) (List.length ar) false, .lit (.int .i64 ak)]) (encM aO bC l0) (encM aO bC R.2) (fun _ => .sl (ae eI R.1) (List.length R.1) false) := by
 intro bl nx hlt
 have aZ := fB (β := bl) (nx := nx) hlt
 refine aq.run mixed Tryz.call106 Tryz.func106 rfl (by simp [Tryz.ntmps106]; kernel_rfl) ?_
 obtain ⟨KF, h, kF, kN⟩ := cn h
 simp only [p9] at h
 cases g6 : (lenOk ar)
 ·simp only [g6, hs] at h
  exact absurd h kN
 simp only [g6, hs] at h
 simp only [vz, mq, mqm, vsi, tyf, mqt, aZ, g6, nm, seval]
 obtain ⟨K5, h, Jd, uE, NB, oP⟩ := f9 h kN
 obtain ⟨f5, BV, h⟩ := call4 h
 obtain ⟨I5, kR⟩ : ∃ I : Nat → St → Prop, I = (fun m st => ∃ (p5 : List Int) (bR : Int) (b7 : List Int) (iP : List (Gbe × Int)) (jK : VV), m = List.length p5 ∧ 0 ≤ bR ∧ List.drop (Int.toNat bR) ar = p5 ∧ st.df = [] ∧ nx + 6 ≤ st.nx ∧ st.H bl = some (.map (encM aO bC iP)) ∧ st.H nx = some (.cells (some 92) ((cGBk aa) ++ [.sl (ae eI ag) (List.length ag) false] ++ [.mp bl])) ∧ st.tm 2 = .lit (.int .i64 ak) ∧ st.tm 3 = .ptr nx 0 ∧ st.tm 10 = .sl (ae eI ar) (List.length ar) false ∧ st.tm 11 = .lit (.int .i64 (List.length ar : Int)) ∧ st.tm 7 = jK ∧ st.tm 12 = .lit (.int .i64 bR) ∧ ((∃ (β : Nat) (el : Option TypeId), jK = .ref β 0 (List.length b7) 1 (List.length b7) ∧ β < st.nx ∧ β ≠ bl ∧ β ≠ nx ∧ st.H β = some (.cells el (ae eI b7))) ∨ (jK = .lit (.slice none 0 0) ∧ b7 = [])) ∧ K5 (f5 p5 bR b7 iP)) := ⟨_, rfl⟩
 refine loopK mixed (by kernel_rfl) I5 (List.length ar) (by rw [kR]; refine ⟨ar, 0, ([] : List Int), l0, .lit (.slice none 0 0), rfl, Int.le_refl _, rfl, rfl, (show nx + 6 ≤ nx + 6 by omega), ?_, ?_, ?_, ?_, ?_, ?_, ?_, ?_, Or.inr ⟨rfl, rfl⟩, h⟩ <;> first | (simp only [ua, b5, aZ, nm, seval] <;> rfl) | rfl) ?_
 rintro m ⟨tm, H, i7, df⟩ hinv
 rw [kR] at hinv
 obtain ⟨p5, bR, b7, iP, jK, rfl, eK, fv, hdf, BW, H7, H8, e9, aY, br, bF, bz, bH, lz, h⟩ := hinv
 simp only at hdf BW H7 H8 e9 aY br bF bz bH lz
 have cC := kK (a := nx) (m := 6) (b := i7) (by omega)
 have dk := fB (β := bl) (nx := i7) (by omega)
 subst hdf BV
 rcases lz with ⟨te, l5, rfl, G1, G2, G3, jL⟩ | ⟨rfl, rfl⟩
 ·have jM := fB G1
  have jN := ne_f G2
  have jO := ne_f G3
  cases p5 with
  | nil =>
   have j5 : (decide (bR < (List.length ar : Int))) = false := fl eK fv
   simp only [jJ, hs, reduceCtorEq] at h
   replace h := uE _ h
   try dsimp only at h
   try simp only [hs] at h
   try simp only [vz, mq, mqm, vsi, tyf, mqt, aZ, g6, cC, dk, e9, aY, br, bF, bz, bH, H7, H8, jM, jL, jN, jO, j5, nm, seval]
   refine bS (x := (.ref te 0 (List.length b7) 1 (List.length b7))) (by first | (simp only [Tryz.results106, resV, resL, resV1, bX, bY, uw, cr, tyf, mqt, aZ, g6, cC, dk, H7, H8, jM, jL, jN, jO, j5, nm, seval] <;> rfl) | rfl) ?_
   obtain rfl := kF _ h
   refine ⟨(by first | rfl | assumption | (simp only [aX, b2, aZ, cC, dk, H7, H8, jM, jL, jN, jO, nm, seval] <;> rfl)), ?_⟩
   exact Ex (by first | rfl | assumption | (simp only [aX, b2, aZ, cC, dk, H7, H8, jM, jL, jN, jO, nm, seval] <;> rfl)) (by first | rfl | assumption | (simp only [aX, b2, aZ, cC, dk, H7, H8, jM, jL, jN, jO, nm, seval] <;> rfl)) eI_ok (fun _ => rfl)
  | cons e5 p5 =>
   have mC : (decide (bR < (List.length ar : Int))) = true := fm eK fv
   have j8 := dv eK fv
   have mD := fp eK fv g6
   simp only [jJ, hs, reduceCtorEq] at h
   obtain ⟨ff, mG, h⟩ := optI h oP
   try simp only [hs] at h
   simp only [vz, mq, mqm, vsi, tyf, mqt, aZ, g6, cC, dk, e9, aY, br, bF, bz, bH, H7, H8, jM, jL, jN, jO, mC, (ba j8), mD, nm, seval]
   refine kupd (VUpd.at (β := bl) (y := (fun _ => .lit (.int .i64 ff.1))) (rc_ok _ _ _ _ _ _ mG) (by omega) (by first | rfl | assumption | (simp only [aX, b2, aZ, cC, dk, H7, H8, jM, jL, jN, jO, nm, seval] <;> rfl)) (by first | rfl | (simp only [nrm, aI, @bZ, @dW] <;> rfl)) (ez (fun _ => rfl) _)) ?_
   refine eV (fun tm => tm 2 = .lit (.int .i64 ak) ∧ tm 3 = .ptr nx 0 ∧ tm 10 = .sl (ae eI ar) (List.length ar) false ∧ tm 11 = .lit (.int .i64 (List.length ar : Int)) ∧ tm 12 = .lit (.int .i64 bR) ∧ tm 16 = .ref te 0 (List.length b7) 1 (List.length b7) ∧ tm 20 = .lit (.int .i64 ff.1) ∧ True) (by refine ⟨e9, aY, br, bF, bH, ?_, ?_, trivial⟩ <;> first | (simp only [ua, b5, aZ, cC, dk, e9, aY, br, bF, bz, bH, H7, H8, jM, jL, jN, jO, mC, mD, nm, seval] <;> rfl) | rfl) ?_
   rintro tm ⟨bp, cD, ca, cJ, ct, eW, eF, _⟩
   have gP := And.intro aZ (And.intro g6 (And.intro cC (And.intro dk (And.intro H7 (And.intro H8 (And.intro jM (And.intro jL (And.intro jN (And.intro jO (And.intro mC mD))))))))))
   cases fH : (roomOk 8 (List.length (b7 ++ [ff.1])))
   ·simp only [fH, hs] at h
    exact absurd h oP
   simp only [fH, hs] at h
   simp only [vz, mq, mqm, vsi, tyf, mqt, gP, (ba j8), bp, cD, ca, cJ, ct, eW, eF, fH, nm, seval]
   refine k_app (w := 1) (enc := eI) (xs := b7) (ys := ([ff.1])) (el := l5) (ky := (some 3)) (fun _ => rfl) fZ fY Tryz.underlying22 (by first | rfl | assumption | (simp only [aX, b2, eh, gP, nm, seval] <;> rfl) | (simp only [aX, b2, hY, jc, gJ, gL, tyf, mqt, gP, (ba j8), bp, cD, ca, cJ, ct, eW, eF, fH, nm, seval]; done)) (by first | rfl | assumption | (simp only [aX, b2, eh, gP, nm, seval] <;> rfl) | (simp only [aX, b2, hY, jc, gJ, gL, tyf, mqt, gP, (ba j8), bp, cD, ca, cJ, ct, eW, eF, fH, nm, seval]; done)) (Nat.zero_lt_succ _) fH ?_
   simp only [vz, mq, mqm, vsi, tyf, mqt, gP, (ba j8), bp, cD, ca, cJ, ct, eW, eF, fH, nm, seval]
   exact ⟨List.length p5, Nat.lt_succ_self _, by rw [kR]; refine ⟨p5, bR + 1, (b7 ++ [ff.1]), ff.2, .ref (i7 + 10) 0 (List.length (b7 ++ [ff.1])) 1 (List.length (b7 ++ [ff.1])), rfl, Int.le_trans eK (Int.le_add_one (Int.le_refl _)), dw eK fv, rfl, (show nx + 6 ≤ i7 + 14 by omega), ?_, ?_, bp, cD, ca, cJ, ?_, ?_, Or.inl ⟨i7 + 10, (sameEl l5 3), rfl, (by first | omega | (simp only [nm, seval]; done) | (simp only [nm, seval]; omega)), (by first | omega | (intro hh; simp only [gP, reduceCtorEq] at hh)), (by first | omega | (intro hh; simp only [gP, reduceCtorEq] at hh)), ?_⟩, (by first | exact h | (simp only [gP]; exact h))⟩ <;> first | (simp only [ua, b5, gP, bp, cD, ca, cJ, ct, eW, eF, nm, seval] <;> rfl) | rfl⟩
 ·cases p5 with
  | nil =>
   have Kz : (decide (bR < (List.length ar : Int))) = false := fl eK fv
   simp only [jJ, hs, reduceCtorEq] at h
   replace h := uE _ h
   try dsimp only at h
   try simp only [hs] at h
   try simp only [vz, mq, mqm, vsi, tyf, mqt, aZ, g6, cC, dk, e9, aY, br, bF, bz, bH, H7, H8, Kz, nm, seval]
   refine bS (x := (.lit (.slice none 0 0))) (by first | (simp only [Tryz.results106, resV, resL, resV1, bX, bY, uw, cr, tyf, mqt, aZ, g6, cC, dk, H7, H8, Kz, nm, seval] <;> rfl) | rfl) ?_
   obtain rfl := kF _ h
   refine ⟨(by first | rfl | assumption | (simp only [aX, b2, aZ, cC, dk, H7, H8, nm, seval] <;> rfl)), ?_⟩
   exact sq_of Ev
  | cons e5 p5 =>
   have G4 : (decide (bR < (List.length ar : Int))) = true := fm eK fv
   have vo := dv eK fv
   have G5 := fp eK fv g6
   simp only [jJ, hs, reduceCtorEq] at h
   obtain ⟨l6, kW, h⟩ := optI h oP
   try simp only [hs] at h
   simp only [vz, mq, mqm, vsi, tyf, mqt, aZ, g6, cC, dk, e9, aY, br, bF, bz, bH, H7, H8, G4, (ba vo), G5, nm, seval]
   refine kupd (VUpd.at (β := bl) (y := (fun _ => .lit (.int .i64 l6.1))) (rc_ok _ _ _ _ _ _ kW) (by omega) (by first | rfl | assumption | (simp only [aX, b2, aZ, cC, dk, H7, H8, nm, seval] <;> rfl)) (by first | rfl | (simp only [nrm, aI, @bZ, @dW] <;> rfl)) (ez (fun _ => rfl) _)) ?_
   refine eV (fun tm => tm 2 = .lit (.int .i64 ak) ∧ tm 3 = .ptr nx 0 ∧ tm 10 = .sl (ae eI ar) (List.length ar) false ∧ tm 11 = .lit (.int .i64 (List.length ar : Int)) ∧ tm 12 = .lit (.int .i64 bR) ∧ tm 16 = .lit (.slice none 0 0) ∧ tm 20 = .lit (.int .i64 l6.1) ∧ True) (by refine ⟨e9, aY, br, bF, bH, ?_, ?_, trivial⟩ <;> first | (simp only [ua, b5, aZ, cC, dk, e9, aY, br, bF, bz, bH, H7, H8, G4, G5, nm, seval] <;> rfl) | rfl) ?_
   rintro tm ⟨de, dX, gj, j7, jm, fI, d6, _⟩
   have l9 := And.intro aZ (And.intro g6 (And.intro cC (And.intro dk (And.intro H7 (And.intro H8 (And.intro G4 G5))))))
   cases pA : (roomOk 8 (List.length (([] : List Int) ++ [l6.1])))
   ·simp only [pA, hs] at h
    exact absurd h oP
   simp only [pA, hs] at h
   simp only [vz, mq, mqm, vsi, tyf, mqt, l9, (ba vo), de, dX, gj, j7, jm, fI, d6, pA, nm, seval]
   refine lY (w := 1) (enc := eI) (ys := ([l6.1])) (ky := (some 3)) (fun _ => rfl) fZ fY Tryz.underlying22 (by first | rfl | assumption | (simp only [aX, b2, eh, l9, nm, seval] <;> rfl) | (simp only [aX, b2, hY, jc, gJ, gL, tyf, mqt, l9, (ba vo), de, dX, gj, j7, jm, fI, d6, pA, nm, seval]; done)) (Nat.zero_lt_succ _) pA ?_
   simp only [vz, mq, mqm, vsi, tyf, mqt, l9, (ba vo), de, dX, gj, j7, jm, fI, d6, pA, nm, seval]
   exact ⟨List.length p5, Nat.lt_succ_self _, by rw [kR]; refine ⟨p5, bR + 1, (([] : List Int) ++ [l6.1]), l6.2, .ref (i7 + 10) 0 (List.length (([] : List Int) ++ [l6.1])) 1 (List.length (([] : List Int) ++ [l6.1])), rfl, Int.le_trans eK (Int.le_add_one (Int.le_refl _)), dw eK fv, rfl, (show nx + 6 ≤ i7 + 14 by omega), ?_, ?_, de, dX, gj, j7, ?_, ?_, Or.inl ⟨i7 + 10, (some 3), rfl, (by first | omega | (simp only [nm, seval]; done) | (simp only [nm, seval]; omega)), (by first | omega | (intro hh; simp only [l9, reduceCtorEq] at hh)), (by first | omega | (intro hh; simp only [l9, reduceCtorEq] at hh)), ?_⟩, (by first | exact h | (simp only [l9]; exact h))⟩ <;> first | (simp only [ua, b5, l9, de, dX, gj, j7, jm, fI, d6, nm, seval] <;> rfl) | rfl⟩
def tf (rc : GBk → (List Int) → Int → Int → (List (Gbe × Int)) → Option ((Int) × List (Gbe × Int))) (aa : GBk) (ag : List Int) (ah : Int) (ak : Int) (l0 : List (Gbe × Int)) : Option ((Int) × List (Gbe × Int)) := Option.bind (td rc aa ag ah ak l0) (fun r1 => Option.bind (getI aa.Strokes ah) (fun x2 => Option.bind (p9 rc aa ag x2.Needs ak r1.2) (fun r3 => Option.bind (j1 r3.1) (fun r4 => Option.bind (j1 ([r1.1, r4])) (fun r5 => some (r5, r3.2))))))
theorem K2 (rc : GBk → (List Int) → Int → Int → (List (Gbe × Int)) → Option ((Int) × List (Gbe × Int))) (rc_ok : ∀ (aa : GBk) (ag : List Int) (ah : Int) (ak : Int) (l0 : List (Gbe × Int)) (R : (Int) × List (Gbe × Int)), rc aa ag ah ak l0 = some R → VUpd Tryz.prog G0 118 (fun β => [.agg [.lit (.int .i64 aa.Apprentices), .sl (ae eI aa.Boards) (List.length aa.Boards) false, .sl (ae cGBs aa.Strokes) (List.length aa.Strokes) false, .sl (ae eI ag) (List.length ag) false, .mp β], .lit (.int .i64 ah), .lit (.int .i64 ak)]) (encM aO bC l0) (encM aO bC R.2) (fun _ => .lit (.int .i64 R.1))) (aa : GBk) (ag : List Int) (ah : Int) (ak : Int) (l0 : List (Gbe × Int)) (R : (Int) × List (Gbe × Int)) (h : tf rc aa ag ah ak l0 = some R) : VUpd Tryz.prog G0 107 (fun β => [.agg [.lit (.int .i64 aa.Apprentices), .sl (ae eI aa.Boards) (List.length aa.Boards) false, .sl (ae cGBs aa.Strokes) (List.length aa.Strokes) false, .sl (ae eI ag) (List.length ag) false, .mp β], .lit (.int .i64 ah), .lit (.int .i64 ak)]) (encM aO bC l0) (encM aO bC R.2) (fun _ => .lit (.int .i64 R.1)) := by
 intro bl nx hlt
 have aZ := fB (β := bl) (nx := nx) hlt
 refine aq.run mixed Tryz.call107 Tryz.func107 rfl (by simp [Tryz.ntmps107]; kernel_rfl) ?_
 obtain ⟨KF, h, kF, kN⟩ := cn h
 simp only [tf] at h
 simp only [vz, mq, mqm, vsi, tyf, mqt, aZ, nm, seval]
 refine kJ (fun tm => tm 1 = .lit (.int .i64 ah) ∧ tm 2 = .lit (.int .i64 ak) ∧ tm 3 = .ptr nx 0 ∧ True) (by refine ⟨?_, ?_, ?_, trivial⟩ <;> first | (simp only [ua, b5, aZ, nm, seval] <;> rfl) | rfl) ?_
 rintro tm ⟨e6, e7, e8, _⟩
 obtain ⟨r9, eX, h⟩ := optI h kN
 try simp only [hs] at h
 simp only [vz, mq, mqm, vsi, tyf, mqt, aZ, e6, e7, e8, nm, seval]
 refine dkupd (VUpd.at (β := bl) (y := (fun _ => .lit (.int .i64 r9.1))) (QE rc rc_ok _ _ _ _ _ _ eX) (by omega) (by first | rfl | assumption | (simp only [aX, b2, aZ, nm, seval] <;> rfl)) (by first | rfl | (simp only [nrm, aI, @bZ, @dW] <;> rfl)) (ez (fun _ => rfl) _)) ?_
 refine eV (fun tm => tm 1 = .lit (.int .i64 ah) ∧ tm 2 = .lit (.int .i64 ak) ∧ tm 3 = .ptr nx 0 ∧ tm 10 = .lit (.int .i64 r9.1) ∧ True) (by refine ⟨e6, e7, e8, ?_, trivial⟩ <;> first | (simp only [ua, b5, aZ, e6, e7, e8, nm, seval] <;> rfl) | rfl) ?_
 rintro tm ⟨br, bF, bz, bH, _⟩
 obtain ⟨R3, fe, h⟩ := optI h kN
 try simp only [hs] at h
 obtain ⟨j9, Ci, h⟩ := optI h kN
 try simp only [hs] at h
 simp only [vz, mq, mqm, vsi, tyf, mqt, aZ, br, bF, bz, bH, (aV fe), nm, seval]
 refine dkupd (VUpd.at (β := bl) (y := (fun _ => .sl (ae eI j9.1) (List.length j9.1) false)) (Ky rc rc_ok _ _ _ _ _ _ Ci) (by omega) (by first | rfl | assumption | (simp only [aX, b2, aZ, nm, seval] <;> rfl)) (by first | rfl | (simp only [nrm, aI, @bZ, @dW] <;> rfl)) (ez (fun _ => rfl) _)) ?_
 refine eV (fun tm => tm 10 = .lit (.int .i64 r9.1) ∧ tm 20 = .sl (ae eI j9.1) (List.length j9.1) false ∧ True) (by refine ⟨bH, ?_, trivial⟩ <;> first | (simp only [ua, b5, aZ, br, bF, bz, bH, nm, seval] <;> rfl) | rfl) ?_
 rintro tm ⟨bN, dc, _⟩
 obtain ⟨i5, rM, h⟩ := optI h kN
 try simp only [hs] at h
 simp only [vz, mq, mqm, vsi, tyf, mqt, aZ, (aV fe), bN, dc, nm, seval]
 refine dktree (args0 := [.sl (ae eI j9.1) (List.length j9.1) false]) (by first | (simp only [nrm, aI, @bZ] <;> rfl) | rfl) (by simp only [tre, tytre, mqr, Bool.and_self]) (rO _ _ rM) ?_
 refine bw (fun tm => tm 10 = .lit (.int .i64 r9.1) ∧ tm 21 = .lit (.int .i64 i5) ∧ True) (by refine ⟨bN, ?_, trivial⟩ <;> first | (simp only [ua, b5, aZ, bN, dc, nm, seval] <;> rfl) | rfl) ?_
 rintro tm ⟨bM, b6, _⟩
 obtain ⟨ff, mG, h⟩ := optI h kN
 try simp only [hs] at h
 simp only [vz, mq, mqm, vsi, tyf, mqt, aZ, (aV fe), bM, b6, nm, seval]
 refine dkseen1 (w := 1) (enc := eI) (xs := ([r9.1, i5])) (el := (some 3)) ⟨eI_ok.tree, eI_ok.norm⟩ (fun _ => rfl) (by simp only [List.length_cons, List.length_nil]; decide) (by simp only [aX, b2, eh, aZ, nm, seval] <;> rfl) (rO _ _ mG) (by first | rfl | simp only [VV.flat, flatL, Bool.and_self]) ?_
 refine bw (fun tm => tm 23 = .lit (.int .i64 ff) ∧ True) (by refine ⟨?_, trivial⟩ <;> first | (simp only [ua, b5, aZ, bM, b6, nm, seval] <;> rfl) | rfl) ?_
 rintro tm ⟨bp, _⟩
 simp only [vz, mq, mqm, vsi, tyf, mqt, aZ, (aV fe), bp, nm, seval]
 refine ia ⟨?_, ?_⟩
 ·simp only [ib, ic, dD, ig, and_true, true_and]
  repeat' (first | exact trivial | refine And.intro ?_ ?_ | rw [dD] | rw [ij] | exact Or.inl (by decide +kernel) | exact Or.inl (by dsimp only; decide +kernel) | (refine Or.inr ⟨?_, ?_⟩ <;> simp; done) | (refine Or.inr ⟨?_, ?_⟩ <;> simp <;> omega) | (refine Or.inr ⟨?_, ?_⟩ <;> simp [VEff.wr] <;> omega))
 try simp only [vz, mq, mqm, vsi, tyf, mqt, aZ, (aV fe), bp, nm, seval]
 refine bS (x := (.lit (.int .i64 ff))) (by first | (simp only [Tryz.results107, resV, resL, resV1, bX, bY, uw, cr, tyf, mqt, aZ, (aV fe), nm, seval] <;> rfl) | rfl) ?_
 obtain rfl := kF _ h
 refine ⟨(by first | rfl | assumption | (simp only [aX, b2, aZ, nm, seval] <;> rfl)), ?_⟩
 exact sq_of (jg (by simp only [tre, tytre, mqr, Bool.and_self]) rfl)
def tg (aa : GBk) (ag : List Int) (ah : Int) : Option (Int) := Option.bind (getI aa.Strokes ah) (fun x1 => some x1.Hours.Low)
theorem QI (aa : GBk) (ag : List Int) (ah : Int) (b : Nat) (R : Int) (h : tg aa ag ah = some R) : aj Tryz.prog G0 139 [.agg [.lit (.int .i64 aa.Apprentices), .sl (ae eI aa.Boards) (List.length aa.Boards) false, .sl (ae cGBs aa.Strokes) (List.length aa.Strokes) false, .sl (ae eI ag) (List.length ag) false, .lit (.map (some b))], .lit (.int .i64 ah)] (.tree (.lit (.int .i64 R))) := by
 refine aj.runR mixed Tryz.call139 Tryz.func139 rfl (by simp [Tryz.ntmps139]; kernel_rfl) ?_
 obtain ⟨KF, h, kF, kN⟩ := cn h
 simp only [tg] at h
 obtain ⟨x2, o3, h⟩ := optI h kN
 try simp only [hs] at h
 try simp only [vz, vsi, tyf, (aV o3), nm, seval]
 refine bS (x := (.lit (.int .i64 x2.Hours.Low))) (by first | (simp only [Tryz.results139, resV, resL, resV1, bX, bY, uw, cr, tyf, (aV o3), nm, seval] <;> rfl) | rfl) ?_
 obtain rfl := kF _ h
 refine eT ?_ ?_
 ·simp only [tre, tytre, Bool.and_self]
 ·first | (simp only [outV, uw, ej, cr, tyf, nrm, aI, (aV o3), nm, seval] <;> rfl) | rfl
def th (aa : GBk) (ag : List Int) (ah : Int) : Option (Int) := Option.bind (getI aa.Strokes ah) (fun x1 => some x1.Hours.High)
theorem QJ (aa : GBk) (ag : List Int) (ah : Int) (b : Nat) (R : Int) (h : th aa ag ah = some R) : aj Tryz.prog G0 140 [.agg [.lit (.int .i64 aa.Apprentices), .sl (ae eI aa.Boards) (List.length aa.Boards) false, .sl (ae cGBs aa.Strokes) (List.length aa.Strokes) false, .sl (ae eI ag) (List.length ag) false, .lit (.map (some b))], .lit (.int .i64 ah)] (.tree (.lit (.int .i64 R))) := by
 refine aj.runR mixed Tryz.call140 Tryz.func140 rfl (by simp [Tryz.ntmps140]; kernel_rfl) ?_
 obtain ⟨KF, h, kF, kN⟩ := cn h
 simp only [th] at h
 obtain ⟨x2, o3, h⟩ := optI h kN
 try simp only [hs] at h
 try simp only [vz, vsi, tyf, (aV o3), nm, seval]
 refine bS (x := (.lit (.int .i64 x2.Hours.High))) (by first | (simp only [Tryz.results140, resV, resL, resV1, bX, bY, uw, cr, tyf, (aV o3), nm, seval] <;> rfl) | rfl) ?_
 obtain rfl := kF _ h
 refine eT ?_ ?_
 ·simp only [tre, tytre, Bool.and_self]
 ·first | (simp only [outV, uw, ej, cr, tyf, nrm, aI, (aV o3), nm, seval] <;> rfl) | rfl
def tl (rc : GBk → (List Int) → Int → Int → (List (Gbe × Int)) → Option ((Int) × List (Gbe × Int))) (aa : GBk) (ag : List Int) (ah : Int) (ak : Int) (l0 : List (Gbe × Int)) : Option ((Int) × List (Gbe × Int)) := cond (mapHas cj l0 (Gbe.mk ah ak)) (some (mapGet cj 0 l0 (Gbe.mk ah ak), l0)) (Option.bind (tf rc aa ag ah ak l0) (fun r1 => cond (ak == 0) (Option.bind (tg aa ag ah) (fun r2 => some (i64.wrap (r1.1 + r2), mapSet cj r1.2 (Gbe.mk ah ak) (i64.wrap (r1.1 + r2))))) (cond (ak == 1) (Option.bind (th aa ag ah) (fun r2 => some (i64.wrap (r1.1 + r2), mapSet cj r1.2 (Gbe.mk ah ak) (i64.wrap (r1.1 + r2))))) none)))
theorem QK (rc : GBk → (List Int) → Int → Int → (List (Gbe × Int)) → Option ((Int) × List (Gbe × Int))) (rc_ok : ∀ (aa : GBk) (ag : List Int) (ah : Int) (ak : Int) (l0 : List (Gbe × Int)) (R : (Int) × List (Gbe × Int)), rc aa ag ah ak l0 = some R → VUpd Tryz.prog G0 118 (fun β => [.agg [.lit (.int .i64 aa.Apprentices), .sl (ae eI aa.Boards) (List.length aa.Boards) false, .sl (ae cGBs aa.Strokes) (List.length aa.Strokes) false, .sl (ae eI ag) (List.length ag) false, .mp β], .lit (.int .i64 ah), .lit (.int .i64 ak)]) (encM aO bC l0) (encM aO bC R.2) (fun _ => .lit (.int .i64 R.1))) (aa : GBk) (ag : List Int) (ah : Int) (ak : Int) (l0 : List (Gbe × Int)) (R : (Int) × List (Gbe × Int)) (h : tl rc aa ag ah ak l0 = some R) : VUpd Tryz.prog G0 118 (fun β => [.agg [.lit (.int .i64 aa.Apprentices), .sl (ae eI aa.Boards) (List.length aa.Boards) false, .sl (ae cGBs aa.Strokes) (List.length aa.Strokes) false, .sl (ae eI ag) (List.length ag) false, .mp β], .lit (.int .i64 ah), .lit (.int .i64 ak)]) (encM aO bC l0) (encM aO bC R.2) (fun _ => .lit (.int .i64 R.1)) := by
 intro bl nx hlt
 have aZ := fB (β := bl) (nx := nx) hlt
 refine aq.run mixed Tryz.call118 Tryz.func118 rfl (by simp [Tryz.ntmps118]; kernel_rfl) ?_
 obtain ⟨KF, h, kF, kN⟩ := cn h
 simp only [tl] at h
 have w2 := fun H => sZ (β := bl) l0 (Gbe.mk ah ak) H
 try simp only [b5] at w2
 cases d3 : (mapHas cj l0 (Gbe.mk ah ak))
 ·simp only [d3, hs] at h
  obtain ⟨r4, o5, h⟩ := optI h kN
  try simp only [hs] at h
  have hk : (ak == 0) = true ∨ ((ak == 0) = false ∧ (ak == 1) = true) := by
   cases c0 : (ak == 0)
   ·cases c1 : (ak == 1)
    ·simp only [c0, c1, hs] at h
     exact absurd h kN
    exact .inr ⟨rfl, rfl⟩
   exact .inl rfl
  rcases hk with c0 | ⟨c0, c1⟩
  ·obtain rfl : ak = 0 := by simpa using c0
   simp only [c0, hs] at h
   simp only [vz, mq, mqm, vsi, tyf, mqt, aZ, w2, d3, nm, seval]
   refine kJ (fun tm => tm 1 = .lit (.int .i64 ah) ∧ tm 2 = .lit (.int .i64 0) ∧ tm 3 = .ptr nx 0 ∧ tm 7 = .ptr (nx + 5) 0 ∧ tm 10 = .ptr (nx + 19) 0 ∧ True) (by refine ⟨?_, ?_, ?_, ?_, ?_, trivial⟩ <;> first | (simp only [ua, b5, aZ, w2, d3, nm, seval] <;> rfl) | rfl) ?_
   rintro tm ⟨e1, e2, e3, e4, aY, _⟩
   simp only [vz, mq, mqm, vsi, tyf, mqt, aZ, w2, d3, e1, e2, e3, e4, aY, nm, seval]
   refine dkupd (VUpd.at (β := bl) (y := (fun _ => .lit (.int .i64 r4.1))) (K2 rc rc_ok _ _ _ _ _ _ o5) (by omega) (by first | rfl | assumption | (simp only [aX, b2, aZ, nm, seval] <;> rfl)) (by first | rfl | (simp only [nrm, aI, @bZ, @dW] <;> rfl)) (ez (fun _ => rfl) _)) ?_
   refine eV (fun tm => tm 1 = .lit (.int .i64 ah) ∧ tm 2 = .lit (.int .i64 0) ∧ tm 3 = .ptr nx 0 ∧ tm 7 = .ptr (nx + 5) 0 ∧ tm 10 = .ptr (nx + 19) 0 ∧ tm 27 = .lit (.int .i64 r4.1) ∧ True) (by refine ⟨e1, e2, e3, e4, aY, ?_, trivial⟩ <;> first | (simp only [ua, b5, aZ, e1, e2, e3, e4, aY, nm, seval] <;> rfl) | rfl) ?_
   rintro tm ⟨e1, e2, e3, e4, aY, bp, _⟩
   obtain ⟨r8, o9, h⟩ := optI h kN
   try simp only [hs] at h
   simp only [vz, mq, mqm, vsi, tyf, mqt, aZ, w2, d3, e1, e2, e3, e4, aY, bp, nm, seval]
   refine dkupd (VUpd.at (β := bl) (y := (fun _ => .lit (.int .i64 r8))) (VUpd.of_lit (A := fun β => [.agg [.lit (.int .i64 aa.Apprentices), .sl (ae eI aa.Boards) (List.length aa.Boards) false, .sl (ae cGBs aa.Strokes) (List.length aa.Strokes) false, .sl (ae eI ag) (List.length ag) false, .mp β], .lit (.int .i64 ah)]) (x := fun _ => .lit (.int .i64 r8)) (es := encM aO bC r4.2) (A0 := fun _ b => [.agg [.lit (.int .i64 aa.Apprentices), .sl (ae eI aa.Boards) (List.length aa.Boards) false, .sl (ae cGBs aa.Strokes) (List.length aa.Strokes) false, .sl (ae eI ag) (List.length ag) false, .lit (.map (some b))], .lit (.int .i64 ah)]) (fun β b => by simp only [List.map_cons, List.map_nil, vlt, if_true, nrm, aI, @bZ, tyf, mqt] <;> rfl) (fun β b => by simp only [List.map_cons, List.map_nil, vlt, if_true, tre, tytre, tyf, mqt, Bool.and_self]) (fun β b => rfl) (fun β b => QI aa ag ah b r8 o9) (fun _ _ _ _ _ => jg (by simp only [tre, tytre, mqr, Bool.and_self]) rfl)) (by omega) (by first | rfl | assumption | (simp only [aX, b2, aZ, nm, seval] <;> rfl)) (by first | rfl | (simp only [nrm, aI, @bZ, @dW] <;> rfl)) (ez (fun _ => rfl) _)) ?_
   refine eV (fun tm => tm 1 = .lit (.int .i64 ah) ∧ tm 2 = .lit (.int .i64 0) ∧ tm 3 = .ptr nx 0 ∧ tm 7 = .ptr (nx + 5) 0 ∧ tm 27 = .lit (.int .i64 r4.1) ∧ tm 33 = .lit (.int .i64 r8) ∧ True) (by refine ⟨e1, e2, e3, e4, bp, ?_, trivial⟩ <;> first | (simp only [ua, b5, aZ, e1, e2, e3, e4, aY, bp, nm, seval] <;> rfl) | rfl) ?_
   rintro tm ⟨e1, e2, e3, e4, bp, eF, _⟩
   simp only [vz, mq, mqm, vsi, tyf, mqt, aZ, w2, d3, e1, e2, e3, e4, bp, eF, nm, seval]
   refine ia ⟨?_, ?_⟩
   ·simp only [ib, ic, dD, ig, and_true, true_and]
    repeat' (first | exact trivial | refine And.intro ?_ ?_ | rw [dD] | rw [ij] | exact Or.inl (by decide +kernel) | exact Or.inl (by dsimp only; decide +kernel) | (refine Or.inr ⟨?_, ?_⟩ <;> simp; done) | (refine Or.inr ⟨?_, ?_⟩ <;> simp <;> omega) | (refine Or.inr ⟨?_, ?_⟩ <;> simp [VEff.wr] <;> omega) | (refine Or.inr ⟨?_, ?_⟩ <;> simp [rdV, rdO, topName, Op.operands, iJ, mY, so, pj, VEff.wr] <;> omega))
   have w9 := fun H => ta (β := bl) r4.2 (Gbe.mk ah 0) (i64.wrap (r4.1 + r8)) H
   try simp only [b5] at w9
   try simp only [vz, mq, mqm, vsi, tyf, mqt, aZ, d3, e1, e2, e3, e4, bp, eF, w9, nm, seval]
   refine bS (x := (.lit (.int .i64 (i64.wrap (r4.1 + r8))))) (by first | (simp only [Tryz.results118, resV, resL, resV1, bX, bY, uw, cr, tyf, mqt, aZ, d3, w9, nm, seval] <;> rfl) | rfl) ?_
   obtain rfl := kF _ h
   refine ⟨(by first | rfl | assumption | (simp only [aX, b2, aZ, nm, seval] <;> rfl)), ?_⟩
   exact sq_of (jg (by simp only [tre, tytre, mqr, Bool.and_self]) rfl)
  obtain rfl : ak = 1 := by simpa using c1
  simp only [c0, c1, hs] at h
  simp only [vz, mq, mqm, vsi, tyf, mqt, aZ, w2, d3, nm, seval]
  refine kJ (fun tm => tm 1 = .lit (.int .i64 ah) ∧ tm 2 = .lit (.int .i64 1) ∧ tm 3 = .ptr nx 0 ∧ tm 7 = .ptr (nx + 5) 0 ∧ tm 10 = .ptr (nx + 19) 0 ∧ True) (by refine ⟨?_, ?_, ?_, ?_, ?_, trivial⟩ <;> first | (simp only [ua, b5, aZ, w2, d3, nm, seval] <;> rfl) | rfl) ?_
  rintro tm ⟨e1, e2, e3, e4, aY, _⟩
  simp only [vz, mq, mqm, vsi, tyf, mqt, aZ, w2, d3, e1, e2, e3, e4, aY, nm, seval]
  refine dkupd (VUpd.at (β := bl) (y := (fun _ => .lit (.int .i64 r4.1))) (K2 rc rc_ok _ _ _ _ _ _ o5) (by omega) (by first | rfl | assumption | (simp only [aX, b2, aZ, nm, seval] <;> rfl)) (by first | rfl | (simp only [nrm, aI, @bZ, @dW] <;> rfl)) (ez (fun _ => rfl) _)) ?_
  refine eV (fun tm => tm 1 = .lit (.int .i64 ah) ∧ tm 2 = .lit (.int .i64 1) ∧ tm 3 = .ptr nx 0 ∧ tm 7 = .ptr (nx + 5) 0 ∧ tm 10 = .ptr (nx + 19) 0 ∧ tm 27 = .lit (.int .i64 r4.1) ∧ True) (by refine ⟨e1, e2, e3, e4, aY, ?_, trivial⟩ <;> first | (simp only [ua, b5, aZ, e1, e2, e3, e4, aY, nm, seval] <;> rfl) | rfl) ?_
  rintro tm ⟨e1, e2, e3, e4, aY, bp, _⟩
  obtain ⟨r8, o9, h⟩ := optI h kN
  try simp only [hs] at h
  simp only [vz, mq, mqm, vsi, tyf, mqt, aZ, w2, d3, e1, e2, e3, e4, aY, bp, nm, seval]
  refine dkupd (VUpd.at (β := bl) (y := (fun _ => .lit (.int .i64 r8))) (VUpd.of_lit (A := fun β => [.agg [.lit (.int .i64 aa.Apprentices), .sl (ae eI aa.Boards) (List.length aa.Boards) false, .sl (ae cGBs aa.Strokes) (List.length aa.Strokes) false, .sl (ae eI ag) (List.length ag) false, .mp β], .lit (.int .i64 ah)]) (x := fun _ => .lit (.int .i64 r8)) (es := encM aO bC r4.2) (A0 := fun _ b => [.agg [.lit (.int .i64 aa.Apprentices), .sl (ae eI aa.Boards) (List.length aa.Boards) false, .sl (ae cGBs aa.Strokes) (List.length aa.Strokes) false, .sl (ae eI ag) (List.length ag) false, .lit (.map (some b))], .lit (.int .i64 ah)]) (fun β b => by simp only [List.map_cons, List.map_nil, vlt, if_true, nrm, aI, @bZ, tyf, mqt] <;> rfl) (fun β b => by simp only [List.map_cons, List.map_nil, vlt, if_true, tre, tytre, tyf, mqt, Bool.and_self]) (fun β b => rfl) (fun β b => QJ aa ag ah b r8 o9) (fun _ _ _ _ _ => jg (by simp only [tre, tytre, mqr, Bool.and_self]) rfl)) (by omega) (by first | rfl | assumption | (simp only [aX, b2, aZ, nm, seval] <;> rfl)) (by first | rfl | (simp only [nrm, aI, @bZ, @dW] <;> rfl)) (ez (fun _ => rfl) _)) ?_
  refine eV (fun tm => tm 1 = .lit (.int .i64 ah) ∧ tm 2 = .lit (.int .i64 1) ∧ tm 3 = .ptr nx 0 ∧ tm 7 = .ptr (nx + 5) 0 ∧ tm 27 = .lit (.int .i64 r4.1) ∧ tm 33 = .lit (.int .i64 r8) ∧ True) (by refine ⟨e1, e2, e3, e4, bp, ?_, trivial⟩ <;> first | (simp only [ua, b5, aZ, e1, e2, e3, e4, aY, bp, nm, seval] <;> rfl) | rfl) ?_
  rintro tm ⟨e1, e2, e3, e4, bp, eF, _⟩
  simp only [vz, mq, mqm, vsi, tyf, mqt, aZ, w2, d3, e1, e2, e3, e4, bp, eF, nm, seval]
  refine ia ⟨?_, ?_⟩
  ·simp only [ib, ic, dD, ig, and_true, true_and]
   repeat' (first | exact trivial | refine And.intro ?_ ?_ | rw [dD] | rw [ij] | exact Or.inl (by decide +kernel) | exact Or.inl (by dsimp only; decide +kernel) | (refine Or.inr ⟨?_, ?_⟩ <;> simp; done) | (refine Or.inr ⟨?_, ?_⟩ <;> simp <;> omega) | (refine Or.inr ⟨?_, ?_⟩ <;> simp [VEff.wr] <;> omega) | (refine Or.inr ⟨?_, ?_⟩ <;> simp [rdV, rdO, topName, Op.operands, iJ, mY, so, pj, VEff.wr] <;> omega))
  have w9 := fun H => ta (β := bl) r4.2 (Gbe.mk ah 1) (i64.wrap (r4.1 + r8)) H
  try simp only [b5] at w9
  try simp only [vz, mq, mqm, vsi, tyf, mqt, aZ, d3, e1, e2, e3, e4, bp, eF, w9, nm, seval]
  refine bS (x := (.lit (.int .i64 (i64.wrap (r4.1 + r8))))) (by first | (simp only [Tryz.results118, resV, resL, resV1, bX, bY, uw, cr, tyf, mqt, aZ, d3, w9, nm, seval] <;> rfl) | rfl) ?_
  obtain rfl := kF _ h
  refine ⟨(by first | rfl | assumption | (simp only [aX, b2, aZ, nm, seval] <;> rfl)), ?_⟩
  exact sq_of (jg (by simp only [tre, tytre, mqr, Bool.and_self]) rfl)
 simp only [d3, hs] at h
 try simp only [vz, mq, mqm, vsi, tyf, mqt, aZ, w2, d3, nm, seval]
 refine bS (x := (.lit (.int .i64 (mapGet cj 0 l0 (Gbe.mk ah ak))))) (by first | (simp only [Tryz.results118, resV, resL, resV1, bX, bY, uw, cr, tyf, mqt, aZ, w2, d3, nm, seval] <;> rfl) | rfl) ?_
 obtain rfl := kF _ h
 refine ⟨(by first | rfl | assumption | (simp only [aX, b2, aZ, nm, seval] <;> rfl)), ?_⟩
 exact sq_of (jg (by simp only [tre, tytre, mqr, Bool.and_self]) rfl)
def gEnd : Nat → GBk → (List Int) → Int → Int → (List (Gbe × Int)) → Option ((Int) × List (Gbe × Int))
 | 0 => fun _ _ _ _ _ => none
 | n + 1 => tl (gEnd n)
theorem nB : ∀ (n : Nat) (aa : GBk) (ag : List Int) (ah : Int) (ak : Int) (l0 : List (Gbe × Int)) (R : (Int) × List (Gbe × Int)), gEnd n aa ag ah ak l0 = some R → VUpd Tryz.prog G0 118 (fun β => [.agg [.lit (.int .i64 aa.Apprentices), .sl (ae eI aa.Boards) (List.length aa.Boards) false, .sl (ae cGBs aa.Strokes) (List.length aa.Strokes) false, .sl (ae eI ag) (List.length ag) false, .mp β], .lit (.int .i64 ah), .lit (.int .i64 ak)]) (encM aO bC l0) (encM aO bC R.2) (fun _ => .lit (.int .i64 R.1))
 | 0, _, _, _, _, _, _, h => by cases h
 | n + 1, aa, ag, ah, ak, l0, R, h => QK (gEnd n) (nB n) aa ag ah ak l0 R h
def BJ (aa : GBk) (ag : List Int) (ah : Int) (ak : Int) (l0 : List (Gbe × Int)) : Option ((Int) × List (Gbe × Int)) := gEnd 8 aa ag ah ak l0
theorem N0 (aa : GBk) (ag : List Int) (ah : Int) (ak : Int) (l0 : List (Gbe × Int)) (R : (Int) × List (Gbe × Int)) (h : BJ aa ag ah ak l0 = some R) : VUpd Tryz.prog G0 118 (fun β => [.agg [.lit (.int .i64 aa.Apprentices), .sl (ae eI aa.Boards) (List.length aa.Boards) false, .sl (ae cGBs aa.Strokes) (List.length aa.Strokes) false, .sl (ae eI ag) (List.length ag) false, .mp β], .lit (.int .i64 ah), .lit (.int .i64 ak)]) (encM aO bC l0) (encM aO bC R.2) (fun _ => .lit (.int .i64 R.1)) := nB 8 aa ag ah ak l0 R h
def vp (aa : GBk) (ag : List Int) (ar : List Int) (ak : Int) (l0 : List (Gbe × Int)) : Option ((List Int) × List (Gbe × Int)) := p9 (gEnd 8) aa ag ar ak l0
theorem K9 (aa : GBk) (ag : List Int) (ar : List Int) (ak : Int) (l0 : List (Gbe × Int)) (R : (List Int) × List (Gbe × Int)) (h : vp aa ag ar ak l0 = some R) : VUpd Tryz.prog G0 106 (fun β => [.agg [.lit (.int .i64 aa.Apprentices), .sl (ae eI aa.Boards) (List.length aa.Boards) false, .sl (ae cGBs aa.Strokes) (List.length aa.Strokes) false, .sl (ae eI ag) (List.length ag) false, .mp β], .sl (ae eI ar) (List.length ar) false, .lit (.int .i64 ak)]) (encM aO bC l0) (encM aO bC R.2) (fun _ => .sl (ae eI R.1) (List.length R.1) false) := Ky (gEnd 8) (nB 8) aa ag ar ak l0 R h
end Go.V
end
