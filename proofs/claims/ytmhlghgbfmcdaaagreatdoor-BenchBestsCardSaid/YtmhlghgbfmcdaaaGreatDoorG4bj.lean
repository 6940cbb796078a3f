/- Part of a proof. -/
import Derived.Test.YtmhlghgbfmcdaaaGreatDoorG4bi
set_option linter.all false
set_option maxRecDepth 4000
set_option maxHeartbeats 40000000
section
namespace Go.V
open Go Go.Proofs IntKind
def aP (k : Gbe) : Value := .agg ⟨[.int .i64 k.stroke, .int .i64 k.hours]⟩
def cM (a b : Gbe) : Bool := ((a.stroke == b.stroke) && ((a.hours == b.hours) && true))
def bR (n : Int) : VV := .lit (.int .i64 n)
theorem m7 (a b : Gbe) : aC Tryz.prog (Op.equal 152 (aP a) (aP b)) = some (cM a b) := by
 unfold Op.equal
 exact Ar 5 152 _ _ _ (by kernel_rfl) 9995
theorem m8 (b : Bool) (k : Gbe) : aC Tryz.prog (Instr.checkKey b 10000 152 (aP k)) = some () := by
 cases b <;> kernel_rfl
theorem j3 (a b : Gbe) (h : cM a b = true) : a = b := by
 obtain ⟨astroke, ahours⟩ := a
 obtain ⟨bstroke, bhours⟩ := b
 simp only [cM, Bool.and_true, Bool.and_eq_true, beq_iff_eq] at h
 simp only [h]
theorem sQ (a : Gbe) : Instr.sameBits 10000 (aP a) (aP a) = true := by
 simp [aP, Instr.sameBits]
theorem OZ : ((Tryz.prog.info? 3).bind (·.zero)).map ofVal2 = some (bR 0) := by kernel_rfl
theorem m9 (k : Gbe) : VV.val? (.agg [.lit (.int .i64 k.stroke), .lit (.int .i64 k.hours)]) = some (aP k) := rfl
theorem sR {β : Nat} (l : List (Gbe × Int)) (k : Gbe) (H : Nat → Option VObj) (hb : H β = some (.map (encM aP bR l))) : vlookup Tryz.prog H 90 (.mp β) (.agg [.lit (.int .i64 k.stroke), .lit (.int .i64 k.hours)]) true = some (.tup [.lit (.int .i64 (mapGet cM 0 l k)), .lit (.bool (mapHas cM l k))]) :=
 Pa Tryz.underlying90 Tryz.underlying152 m7 m8 OZ (m9 k) hb
theorem sS {β : Nat} (l : List (Gbe × Int)) (k : Gbe) (n : Int) (H : Nat → Option VObj) (hb : H β = some (.map (encM aP bR l))) : vmapUpdate Tryz.prog H 90 (.mp β) (.agg [.lit (.int .i64 k.stroke), .lit (.int .i64 k.hours)]) (.lit (.int .i64 n)) = some (.upd β (.map (encM aP bR (mapSet cM l k n)))) :=
 As Tryz.underlying90 Tryz.underlying152 m7 m8 j3 sQ (m9 k) hb
theorem At {c : VV} {cs : List VV} : aD Tryz.prog 90 (c :: cs) = some c := by
 have h1 : aggT Tryz.prog 90 = some false := by kernel_rfl
 simp [aD, aO, h1]
theorem Au : szT Tryz.prog 90 = some 1 := by kernel_rfl
theorem sU : vzl Tryz.prog 90 = some [.lit (.map none)] := by kernel_rfl
def mqr := And.intro (And.intro @Av @Aw) True.intro
def mqt := And.intro (And.intro @At @Au) @sU
def RoundsM (P : Program) (G : Glob) (β : Nat) (I : Inv) : Prop := ∀ x rest (Fr : Nat → Prop) (H : Nat → Option VObj) (nx δ : Nat), (∀ γ, Fr γ → γ < nx) → δ < nx → ¬ Fr δ → H δ = some (.map []) → I (some (.agg x :: rest)) (fun γ => Fr γ ∨ γ = δ) H nx →
  Yields P G β (.agg (x ++ [.mp δ])) H nx (fun b H' nx' => nx ≤ nx' ∧ (∀ γ, Fr γ → H' γ = H γ) ∧ I (if b then some rest else none) Fr H' nx')
def IterM (P : Program) (G : Glob) (g : VV) (L : List VV) : Prop := ∃ f first captured, g = .fn (.func f) first captured ∧ ∀ (β : Nat) (I : Inv), Stable I → RoundsM P G β I → ∀ (H : Nat → Option VObj) (nx : Nat), β < nx → I (some L) noFr H nx →
  aq P G f (first ++ [.yl β] ++ captured) H nx (fun _ H' nx' => I (some []) noFr H' nx' ∨ I none noFr H' nx') (fun _ _ _ => False)
theorem JL {P : Program} {G : Glob} {n : Nat} {Q : VExit → St → Prop} {tm : Nat → VV} {H : Nat → Option VObj} {nx : Nat} {df : List VDef} {g : Operand} {ps : Array Tmp} {az bo : Code} {itv : VV} {L : List VV} (hit : IterM P G itv L) (hg : ev (G.at (some none)) tm g = itv)
    (h : ∀ LO, LO = VObj.loop .ready none (tmL n tm) ps az bo nx → ∃ I : Inv, Stable I ∧ RoundsM P G (nx + 1) I ∧ I (some L) noFr (updH (updH H nx (.deferred (some []))) (nx + 1) LO) (nx + 2) ∧
      ∀ H' nx', I (some []) noFr H' nx' ∨ I none noFr H' nx' → RangeEnd P (G.at (some none)) n Q ⟨tm, H, nx, df⟩ H' nx') : CWp P (G.at (some none)) n (.rangeFunc g ps az bo) Q ⟨tm, H, nx, df⟩ := by
  obtain ⟨f, first, captured, rfl, hv⟩ := hit
  refine yH hg fun LO hL => ?_
  obtain ⟨I, hs, hr, h0, he⟩ := h LO hL
  exact aq.mono (hv (nx + 1) I hs hr _ _ (Nat.lt_succ_self _) h0) (fun _ H' nx' hh => he H' nx' hh) (fun _ _ _ hh => hh.elim)
def sV (an : GBk) (ai : Int) (dD : Int) : Option (Bool) := cond (dD == 0) (some true) (Option.bind (getI an.Strokes ai) (fun x1 => some (!x1.Round)))
theorem Pb (an : GBk) (ai : Int) (dD : Int) (R : Bool) (h : sV an ai dD = some R) : aj Tryz.prog G0 104 [.agg (cGBk an), .lit (.int .i64 ai), .lit (.int .i64 dD)] (.tree (.lit (.bool R))) := by
 refine aj.runR mixed Tryz.call104 Tryz.func104 rfl (by simp [Tryz.ntmps104]; kernel_rfl) ?_
 obtain ⟨KF, h, kF, kN⟩ := cT h
 simp only [sV] at h
 cases d2 : (dD == 0)
 ·simp only [d2, hs] at h
  obtain ⟨x3, o4, h⟩ := optI h kN
  try simp only [hs] at h
  try simp only [vz, tyf, d2, (aZ o4), nm, seval]
  obtain rfl := kF _ h
  exact bx Tryz.results104 rfl
 simp only [d2, hs] at h
 try simp only [vz, tyf, d2, nm, seval]
 obtain rfl := kF _ h
 exact bx Tryz.results104 rfl
def wc (cw : List Int) (eR : Int) (iB : GBk) : Option (Bool) := Option.bind (sV iB (List.length cw : Int) eR) (fun r1 => some r1)
theorem Pc (cw : List Int) (eR : Int) (iB : GBk) (R : Bool) (h : wc cw eR iB = some R) : aj Tryz.prog G0 117 [.sl (ae eI cw) (List.length cw) false, .lit (.int .i64 eR), .tp (cGBk iB)] (.tree (.lit (.bool R))) := by
 refine aj.runR mixed Tryz.call117 Tryz.func117 rfl (by simp [Tryz.ntmps117]; kernel_rfl) ?_
 obtain ⟨KF, h, kF, kN⟩ := cT h
 simp only [wc] at h
 obtain ⟨r2, o3, h⟩ := optI h kN
 try simp only [hs] at h
 simp only [vz, tyf, nm, seval]
 refine ktA (Pb _ _ _ _ o3) ?_
 refine bY (fun tm => tm 10 = .lit (.bool r2) ∧ True) (by refine ⟨?_, trivial⟩ <;> first | (simp only [ua, nm, seval] <;> rfl) | rfl) ?_
 rintro tm ⟨e4, _⟩
 try simp only [vz, tyf, e4, nm, seval]
 obtain rfl := kF _ h
 exact bx Tryz.results117 rfl
def planC (b : GBk) (pl : List Int) : List VV := cGBk b ++ [sI pl]
theorem Ax {b : GBk} {pl : List Int} : treeL (planC b pl) = true := by
  have h1 : treeL (ae eI b.Boards) = true := eI_ok.treeL _
  have h2 : treeL (ae cGBs b.Strokes) = true := eO.treeL _
  have h3 : treeL (ae eI pl) = true := eI_ok.treeL _
  simp [planC, cGBk, treeL, VV.tree, h1, h2, h3]
theorem Ay (b : GBk) (pl : List Int) : NewC Tryz.prog G0 69 [.agg (cGBk b), sI pl] (planC b pl) := by
  refine NewC.of_open Ax ?_
  refine aq.run mixed Tryz.call69 Tryz.func69 rfl (by simp [Tryz.ntmps69]; kernel_rfl) ?_
  simp only [vz, mq, mqm, vsi, tyf, mqt, seval, ua]
  refine c9 (x := .agg (planC b pl ++ [.mp 4])) (by first | (simp only [Tryz.results69, resV, resL, resV1, cI, cJ, uw, cr, tyf, mqt, nm, seval] <;> rfl) | rfl) ?_
  exact ⟨4, rfl, by simp [updH]⟩
theorem Az {mc : List VV} {mf : Nat} {ln lim : Int} (htm : treeL mc = true) : aj Tryz.prog G0 116 [.lit (.int .i64 ln), .lit (.int .i64 lim), .fn (.func mf) [] mc] (.tree (.fn (.func 137) [] [.tp [.lit (.int .i64 ln)], .tp [.lit (.int .i64 lim)], .tp [.fn (.func mf) [] mc]])) := by
  refine aj.run mixed Tryz.call116 Tryz.func116 rfl (by simp [Tryz.ntmps116]; kernel_rfl) ?_
  simp only [vz, tyf, seval, ua, rg]
  refine ⟨rfl, .fn (.func 137) [] [.ptr 0 0, .ptr 1 0, .ptr 2 0], by simp [Tryz.results116, resV, resL, resV1, upd], 20, ?_⟩
  simp [sealV, sealL, VV.tree, treeL, updH, htm]
theorem pX {b : GBk} : treeL (cGBk b) = true := gu.tree b
def plansO (b : GBk) : Option (List (List Int)) := cond (decide (0 < b.Strokes.length) && (decide (b.Strokes.length < 1000) && (decide (0 ≤ b.Apprentices) && decide (b.Apprentices < 1000)))) (listsO (fun p j => wc p j b) (b.Apprentices.toNat + 1) b.Strokes.length []) none
def plV (b : GBk) (p : List Int) : VV := .agg (planC b p)
theorem yD {b : GBk} {L : List (List Int)} (h : plansO b = some L) : IterM Tryz.prog G0 (.fn (.func 115) [] [.tp (cGBk b)]) (L.map (plV b)) := by
  unfold plansO at h
  cases hs : (decide (0 < b.Strokes.length) && (decide (b.Strokes.length < 1000) && (decide (0 ≤ b.Apprentices) && decide (b.Apprentices < 1000)))) with
  | false => rw [hs] at h; cases h
  | true =>
  rw [hs, cond_true] at h
  simp only [Bool.and_eq_true, decide_eq_true_eq] at hs
  obtain ⟨jC, fZ, sW, w8⟩ := hs
  have hmc : treeL [VV.tp (cGBk b)] = true := by simp [treeL, VV.tree, pX]
  have hit := AA (mc := [.tp (cGBk b)]) (mf := 117) (ln := b.Strokes.length) (lim := b.Apprentices.toNat + 1) hmc jC fZ (by omega) h (fun p j t hp => Pc p j b t hp)
  have eA : b.Apprentices + 1 = ((b.Apprentices.toNat + 1 : Nat) : Int) := by omega
  have wA : i64.wrap (b.Apprentices + 1) = ((b.Apprentices.toNat + 1 : Nat) : Int) := by rw [IntWalk.i64_in _ (by omega)]; exact eA
  refine ⟨115, [], _, rfl, fun β I hst hr H nx hβ hI => ?_⟩
  refine aq.run mixed Tryz.call115 Tryz.func115 rfl (by simp [Tryz.ntmps115]; kernel_rfl) ?_
  simp only [List.nil_append, List.cons_append, vz, tyf, seval, ua, rg, wA]
  refine ktree (args0 := [.lit (.int .i64 b.Strokes.length), .lit (.int .i64 ((b.Apprentices.toNat + 1 : Nat) : Int)), .fn (.func 117) [] [.tp (cGBk b)]]) ?_ ?_ (Az hmc) ?_
  · first | (simp only [nrm, aW, k8] <;> rfl) | (simp only [nrm, aW]; done) | rfl
  · have h1 : treeL (cGBk b) = true := pX
    simp only [k8] at h1
    simp [treeL, VV.tree] at h1 ⊢
    exact h1
  simp only [vz, tyf, seval, ua, rg]
  refine sq (fun tm => tm 13 = .fn (.func 137) [] [.tp [.lit (.int .i64 b.Strokes.length)], .tp [.lit (.int .i64 ((b.Apprentices.toNat + 1 : Nat) : Int))], .tp [.fn (.func 117) [] [.tp (cGBk b)]]] ∧ tm 1 = .tp (cGBk b) ∧ tm 2 = .ptr nx 0) (by refine ⟨?_, ?_, ?_⟩ <;> simp only [ua, seval, Nat.add_zero, k8]) ?_
  rintro tm ⟨bw, e1, e2⟩
  refine AB hit (by first | (simp only [jA, jB, bw, jj, seval] <;> rfl) | rfl) ?_
  intro LO hLO
  obtain ⟨J, hJ⟩ : ∃ J : Option (List VV) → Option (List VV) → List (Nat × VObj) → Prop, J = (fun o o' hp => match o with
    | some l => ∃ (p : List (List Int)), l = p.map sI ∧ o' = some (p.map (plV b)) ∧ hp = [(nx, .cells (some 130) [.yl β]), (nx + 11, .deferred (some [])), (nx + 12, LO)]
    | none => ∃ LD : Code → VObj, (∃ tml ps az bo d, LD = fun c => VObj.loop .done (some c) tml ps az bo d) ∧ o' = none ∧ hp = [(nx, .cells (some 130) [.yl β]), (nx + 11, .deferred (some [])), (nx + 12, LD .ret)]) := ⟨_, rfl⟩
  refine ⟨ownI2 I J, Ki hst, ?_, ?_, ?_⟩
  · rintro v rest Fr H1 bk hFr ⟨hp, o', hown, hj, hi⟩
    rw [hJ] at hj
    obtain ⟨p, hl, rfl, rfl⟩ := hj
    cases p with
    | nil => cases hl
    | cons e p =>
    simp only [List.map_cons, List.cons.injEq] at hl
    obtain ⟨rfl, rfl⟩ := hl
    obtain ⟨la, na, Ha⟩ := hown.head
    obtain ⟨lb, nb, Hb⟩ := hown.tail.head
    obtain ⟨lc, nc, Hc⟩ := hown.tail.tail.head
    have hfr : ∀ γ, (∃ q ∈ [(nx, .cells (some 130) [.yl β]), (nx + 11, .deferred (some [])), (nx + 12, LO)], (q : Nat × VObj).1 = γ) ↔ γ = nx ∨ γ = nx + 11 ∨ γ = nx + 12 := by
      intro γ
      simp [eq_comm]
    simp only [hfr] at hi
    refine ss mixed (psl := [14]) hLO Hc su rfl (by kernel_rfl) (by kernel_rfl) ?_
    intro LB LD hLB hLD
    refine sv (fun tm => tm 14 = sI e ∧ tm 1 = .tp (cGBk b) ∧ tm 2 = .ptr nx 0) (by refine ⟨?_, ?_, ?_⟩ <;> simp only [sw, sx, Tryz.ntmps115, e1, e2, seval]) ?_
    clear bw e1 e2
    rintro tm ⟨bX, e1, e2⟩
    have hne : (nx = nx + 12) = False := by simp
    simp only [vz, tyf, @dE, seval, ua, nm, rg, RStart, bX, e1, e2, Ha, Hc, hne]
    refine sq (fun tm => tm 4 = sI e ∧ tm 1 = .tp (cGBk b) ∧ tm 2 = .ptr nx 0) (by refine ⟨?_, ?_, ?_⟩ <;> simp only [ua, seval, e1, e2, bX]) ?_
    clear bX e1 e2 tm
    rintro tm ⟨e4, e1, e2⟩
    refine AD mixed [4] (by kernel_rfl) ?_
    refine AE (k := 4) (by decide) rfl rfl ?_
    simp only [vz, tyf, @dE, seval, ua, nm, rg, e4, e1, e2, Ha, Hc, hne]
    refine dknew ?_ (Ay b e) ?_
    · have h1 : treeL (cGBk b) = true := pX
      have h2 : treeL (ae eI e) = true := eI_ok.treeL _
      simp only [k8] at h1
      simp [treeL, VV.tree, h2] at h1 ⊢
      exact h1
    simp only [vz, tyf, @dE, seval, ua, nm, rg, e4, e1, e2, Ha, Hc, hne]
    refine j5 ⟨?_, ?_⟩
    · simp only [j6, j7, fw, j8, and_true, true_and]
      repeat' (first | exact trivial | refine And.intro ?_ ?_ | rw [fw] | rw [j9] | exact Or.inl (by decide +kernel) | exact Or.inl (by dsimp only; decide +kernel) | (refine Or.inr ⟨?_, ?_⟩ <;> simp; done) | (refine Or.inr ⟨?_, ?_⟩ <;> simp <;> omega) | (refine Or.inr ⟨?_, ?_⟩ <;> simp [VEff.wr] <;> omega))
    simp only [vz, tyf, @dE, seval, ua, nm, rg, KG, e4, e1, e2, Ha, Hc, hne]
    have za : I (some (VV.agg (planC b e) :: p.map (plV b))) (fun γ => (Fr γ ∨ γ = nx ∨ γ = nx + 11 ∨ γ = nx + 12) ∨ γ = bk + 4) (updH (updH H1 (nx + 12) LB) (bk + 4) (.map [])) (bk + 7) := by
      refine hst _ _ _ _ _ _ _ hi ?_ (by omega) ?_
      · intro γ hlt hn
        have g3 : γ ≠ nx + 12 := fun e => hn (.inr (.inr (.inr e)))
        rw [aF, if_neg (by omega), aF, if_neg g3]
      · rintro γ (h | rfl)
        · exact .inl h
        · exact .inr ⟨by omega, by omega⟩
    refine (hr (planC b e) (p.map (plV b)) (fun γ => Fr γ ∨ γ = nx ∨ γ = nx + 11 ∨ γ = nx + 12) _ _ (bk + 4) ?_ (by omega) ?_ (by rw [aF, if_pos rfl]) za) (some (some (nx + 12))) _ _ _ rfl rfl ?_
    · rintro γ (hγ | rfl | rfl | rfl)
      · have := hFr γ hγ; omega
      · omega
      · omega
      · omega
    · rintro (hγ | h | h | h)
      · have := hFr _ hγ; omega
      · omega
      · omega
      · omega
    rintro bb H2 db ⟨q1, q2, q3⟩
    have Ka : H2 nx = some (.cells (some 130) [.yl β]) := by rw [q2 nx (.inr (.inl rfl))]; rw [aF, if_neg (by omega)]; simp only [aF, seval, hne, Ha]
    have Kb : H2 (nx + 11) = some (.deferred (some [])) := by rw [q2 _ (.inr (.inr (.inl rfl))), aF, if_neg (by omega), aF, if_neg (by omega)]; exact Hb
    have Kc : H2 (nx + 12) = some LB := by rw [q2 _ (.inr (.inr (.inr rfl))), aF, if_neg (by omega), aF, if_pos rfl]
    have KF : ∀ γ, Fr γ → H2 γ = H1 γ := by
      intro γ hγ
      have g3 : γ ≠ nx + 12 := fun e => nc (e ▸ hγ)
      have := hFr γ hγ
      rw [q2 γ (.inl hγ), aF, if_neg (by omega), aF, if_neg g3]
    cases bb with
    | true =>
      refine KH ?_
      simp only [vz, tyf, @dE, seval, ua, nm, rg, Bool.not_true]
      refine ⟨Kc, (show bk ≤ db by omega), fun γ hγ => ?_, ?_⟩
      · have g3 : γ ≠ nx + 12 := fun e => nc (e ▸ hγ)
        simp only [updH]
        rw [if_neg g3]
        exact KF γ hγ
      · simp only [if_true] at q3 ⊢
        refine ⟨[(nx, .cells (some 130) [.yl β]), (nx + 11, .deferred (some [])), (nx + 12, LO)], some (p.map (plV b)), Own.cons (show nx < db by omega) na ?_ (Own.cons (show nx + 11 < db by omega) nb ?_ (Own.cons (show nx + 12 < db by omega) nc ?_ Own.nil)), ?_, ?_⟩
        · simp only [aF, seval, hne, Ka]
        · simp only [aF, nm, seval, Kb]
        · simp only [aF, seval]
        · rw [hJ]
          exact ⟨p, rfl, rfl, rfl⟩
        · simp only [hfr]
          refine hst _ _ _ _ _ _ _ q3 ?_ (by omega) (fun γ h => .inl h)
          intro γ _ hn
          have g3 : γ ≠ nx + 12 := fun e => hn (.inr (.inr (.inr e)))
          simp only [updH]
          rw [if_neg g3]
    | false =>
      refine KH ?_
      simp only [vz, tyf, @dE, seval, ua, nm, rg, Bool.not_false]
      refine ⟨Kc, (show bk ≤ db by omega), fun γ hγ => ?_, ?_⟩
      · have g3 : γ ≠ nx + 12 := fun e => nc (e ▸ hγ)
        simp only [updH]
        rw [if_neg g3]
        exact KF γ hγ
      · simp only [Bool.false_eq_true, if_false] at q3 ⊢
        have nY : ∀ γ, (∃ q ∈ [(nx, .cells (some 130) [.yl β]), (nx + 11, .deferred (some [])), (nx + 12, LD .ret)], (q : Nat × VObj).1 = γ) ↔ γ = nx ∨ γ = nx + 11 ∨ γ = nx + 12 := by
          intro γ
          simp [eq_comm]
        refine ⟨[(nx, .cells (some 130) [.yl β]), (nx + 11, .deferred (some [])), (nx + 12, LD .ret)], none, Own.cons (show nx < db by omega) na ?_ (Own.cons (show nx + 11 < db by omega) nb ?_ (Own.cons (show nx + 12 < db by omega) nc ?_ Own.nil)), ?_, ?_⟩
        · simp only [aF, seval, hne, Ka]
        · simp only [aF, nm, seval, Kb]
        · simp only [aF, seval]
        · rw [hJ]
          exact ⟨LD, ⟨_, _, _, _, _, hLD⟩, rfl, rfl⟩
        · simp only [nY]
          refine hst _ _ _ _ _ _ _ q3 ?_ (by omega) (fun γ h => .inl h)
          intro γ _ hn
          have g3 : γ ≠ nx + 12 := fun e => hn (.inr (.inr (.inr e)))
          simp only [updH]
          rw [if_neg g3]
  · have hfr : ∀ γ, (∃ q ∈ [(nx, .cells (some 130) [.yl β]), (nx + 11, .deferred (some [])), (nx + 12, LO)], (q : Nat × VObj).1 = γ) ↔ γ = nx ∨ γ = nx + 11 ∨ γ = nx + 12 := by
      intro γ
      simp [eq_comm]
    refine ⟨[(nx, .cells (some 130) [.yl β]), (nx + 11, .deferred (some [])), (nx + 12, LO)], some (L.map (plV b)), Own.cons (show nx < nx + 13 by omega) (fun h => h) ?_ (Own.cons (show nx + 11 < nx + 13 by omega) (fun h => h) ?_ (Own.cons (show nx + 12 < nx + 13 by omega) (fun h => h) ?_ Own.nil)), ?_, ?_⟩
    · simp only [updH]
      rw [if_neg (by omega), if_neg (by omega), if_pos (by omega)]
    · simp only [updH]
      simp
    · simp only [updH]
      simp
    · rw [hJ]
      exact ⟨L, rfl, rfl, rfl⟩
    · simp only [hfr]
      refine hst _ _ _ _ _ _ _ hI ?_ (by omega) ?_
      · intro γ hγ _
        simp only [updH]
        repeat rw [if_neg (by omega)]
      · rintro γ (h | rfl | rfl | rfl)
        · exact h.elim
        · right; omega
        · right; omega
        · right; omega
  · rintro H' nx' (⟨hp, o', hown, hj, hi⟩ | ⟨hp, o', hown, hj, hi⟩)
    · rw [hJ] at hj
      obtain ⟨p, hl, rfl, rfl⟩ := hj
      cases p with
      | cons e p => cases hl
      | nil =>
      obtain ⟨la, na, Ha⟩ := hown.head
      obtain ⟨lb, nb, Hb⟩ := hown.tail.head
      obtain ⟨lc, nc, Hc⟩ := hown.tail.tail.head
      have hfr : ∀ γ, (∃ q ∈ [(nx, .cells (some 130) [.yl β]), (nx + 11, .deferred (some [])), (nx + 12, LO)], (q : Nat × VObj).1 = γ) ↔ γ = nx ∨ γ = nx + 11 ∨ γ = nx + 12 := by
        intro γ
        simp [eq_comm]
      simp only [hfr] at hi
      refine vZ hLO Hc ?_
      intro LX
      simp only [vz, tyf, @dE, seval, ua, nm, rg]
      refine Kn (by simp only [aF, nm, seval, Hb]) ?_
      refine zb (x := .tup []) (by simp [Tryz.results115, resV, resL]) (.inl ?_)
      refine hst _ _ _ _ _ _ _ hi ?_ (Nat.le_refl _) (fun γ h => h.elim)
      intro γ _ hn
      have g2 : γ ≠ nx + 11 := fun e => hn (.inr (.inr (.inl e)))
      have g3 : γ ≠ nx + 12 := fun e => hn (.inr (.inr (.inr e)))
      simp only [updH]
      repeat rw [if_neg (by first | assumption | omega)]
    · rw [hJ] at hj
      obtain ⟨LD, ⟨tml, ps, az, bo, d, hLD⟩, rfl, rfl⟩ := hj
      obtain ⟨la, na, Ha⟩ := hown.head
      obtain ⟨lb, nb, Hb⟩ := hown.tail.head
      obtain ⟨lc, nc, Hc⟩ := hown.tail.tail.head
      have hfr : ∀ γ, (∃ q ∈ [(nx, .cells (some 130) [.yl β]), (nx + 11, .deferred (some [])), (nx + 12, LD .ret)], (q : Nat × VObj).1 = γ) ↔ γ = nx ∨ γ = nx + 11 ∨ γ = nx + 12 := by
        intro γ
        simp [eq_comm]
      simp only [hfr] at hi
      refine Ko hLD Hc ?_
      intro LX
      simp only [vz, tyf, @dE, seval, ua, nm, rg]
      refine wa (by simp only [aF, nm, seval, Hb]) ?_
      refine c9 (x := .tup []) (by simp [Tryz.results115, resV, resL]) (.inr ?_)
      refine hst _ _ _ _ _ _ _ hi ?_ (Nat.le_refl _) (fun γ h => h.elim)
      intro γ _ hn
      have g2 : γ ≠ nx + 11 := fun e => hn (.inr (.inr (.inl e)))
      have g3 : γ ≠ nx + 12 := fun e => hn (.inr (.inr (.inr e)))
      simp only [updH]
      repeat rw [if_neg (by first | assumption | omega)]
def nN (rc : GBk → (List Int) → Int → Int → (List (Gbe × Int)) → Option ((Int) × List (Gbe × Int))) (aa : GBk) (ag : List Int) (ai : Int) (ah : Int) (l0 : List (Gbe × Int)) : Nat → Int → Option (LOut ((Int) × List (Gbe × Int)) (Int))
 | 0, _ => none
 | k0 + 1, dG => cond (decide (dG ≥ 0)) (Option.bind (getI ag dG) (fun x1 => Option.bind (getI ag ai) (fun x2 => cond (x1 == x2) (Option.bind (rc aa ag dG ah l0) (fun r3 => some (.ret (r3.1, r3.2)))) (nN rc aa ag ai ah l0 k0 (i64.wrap (dG - 1)))))) (some (.go dG))
def sc (rc : GBk → (List Int) → Int → Int → (List (Gbe × Int)) → Option ((Int) × List (Gbe × Int))) (aa : GBk) (ag : List Int) (ai : Int) (ah : Int) (l0 : List (Gbe × Int)) : Option ((Int) × List (Gbe × Int)) := lbind (nN rc aa ag ai ah l0 1000000 (i64.wrap (ai - 1))) (fun r5 => some r5) (fun c4 => some (0, l0)) (fun _ _ => none)
theorem Pd (rc : GBk → (List Int) → Int → Int → (List (Gbe × Int)) → Option ((Int) × List (Gbe × Int))) (rc_ok : ∀ (aa : GBk) (ag : List Int) (ai : Int) (ah : Int) (l0 : List (Gbe × Int)) (R : (Int) × List (Gbe × Int)), rc aa ag ai ah l0 = some R → VUpd Tryz.prog G0 118 (fun β => [.agg [.lit (.int .i64 aa.Apprentices), .sl (ae eI aa.Boards) (List.length aa.Boards) false, .sl (ae cGBs aa.Strokes) (List.length aa.Strokes) false, .sl (ae eI ag) (List.length ag) false, .mp β], .lit (.int .i64 ai), .lit (.int .i64 ah)]) (encM aP bR l0) (encM aP bR R.2) (fun _ => .lit (.int .i64 R.1))) (aa : GBk) (ag : List Int) (ai : Int) (ah : Int) (l0 : List (Gbe × Int)) (R : (Int) × List (Gbe × Int)) (h : sc rc aa ag ai ah l0 = some R) : VUpd Tryz.prog G0 108 (fun β => [.agg [.lit (.int .i64 aa.Apprentices), .sl (ae eI aa.Boards) (List.length aa.Boards) false, .sl (ae cGBs aa.Strokes) (List.length aa.Strokes) false, .sl (ae eI ag) (List.length ag) false, .mp β], .lit (.int .i64 ai), .lit (.int .i64 ah)]) (encM aP bR l0) (encM aP bR R.2) (fun _ => .lit (.int .i64 R.1)) := by
 intro bt nx hlt
 have bh := fb (β := bt) (nx := nx) hlt
 refine aq.run mixed Tryz.call108 Tryz.func108 rfl (by simp [Tryz.ntmps108]; kernel_rfl) ?_
 obtain ⟨KF, h, kF, kN⟩ := cT h
 simp only [sc] at h
 simp only [vz, mq, mqm, vsi, tyf, mqt, bh, nm, seval]
 obtain ⟨K6, h, Pe, Pf, SD, wC⟩ := fS h kN
 obtain ⟨f6, Pg, h⟩ := call2 h
 obtain ⟨I6, AF⟩ : ∃ I : Nat → St → Prop, I = (fun m st => ∃ (p6 : Nat) (iP : Int), p6 = m ∧ st.df = [] ∧ nx + 5 ≤ st.nx ∧ st.H bt = some (.map (encM aP bR l0)) ∧ st.H nx = some (.cells (some 92) ((cGBk aa) ++ [.sl (ae eI ag) (List.length ag) false] ++ [.mp bt])) ∧ st.tm 1 = .lit (.int .i64 ai) ∧ st.tm 2 = .lit (.int .i64 ah) ∧ st.tm 3 = .ptr nx 0 ∧ st.tm 7 = .lit (.int .i64 iP) ∧ K6 (f6 p6 iP)) := ⟨_, rfl⟩
 refine loopK mixed (by kernel_rfl) I6 1000000 (by rw [AF]; refine ⟨1000000, i64.wrap (ai - 1), rfl, rfl, (show nx + 5 ≤ nx + 5 by omega), ?_, ?_, ?_, ?_, ?_, ?_, h⟩ <;> first | (simp only [ua, cg, bh, nm, seval] <;> rfl) | rfl) ?_
 rintro m ⟨tm, H, AG, df⟩ hinv
 rw [AF] at hinv
 obtain ⟨p6, iP, rfl, hdf, Ph, H7, H8, e9, b6, bM, bB, h⟩ := hinv
 simp only at hdf Ph H7 H8 e9 b6 bM bB
 have od := jk (a := nx) (m := 5) (b := AG) (by omega)
 have hP := fb (β := bt) (nx := AG) (by omega)
 subst hdf Pg
 cases p6 with
 | zero =>
  simp only [nN, hs, reduceCtorEq] at h
  exact absurd h wC
 | succ p6 =>
  simp only [nN, hs, reduceCtorEq] at h
  cases dR : (decide (iP ≥ 0))
  ·simp only [dR, hs] at h
   replace h := Pf _ h
   try dsimp only at h
   try simp only [hs] at h
   try simp only [vz, mq, mqm, vsi, tyf, mqt, bh, od, hP, e9, b6, bM, bB, H7, H8, dR, nm, seval]
   refine c9 (x := (.lit (.int .i64 0))) (by first | (simp only [Tryz.results108, resV, resL, resV1, cI, cJ, uw, cr, tyf, mqt, bh, od, hP, H7, H8, dR, nm, seval] <;> rfl) | rfl) ?_
   obtain rfl := kF _ h
   refine ⟨(by first | rfl | assumption | (simp only [aF, ba, bh, od, hP, H7, H8, nm, seval] <;> rfl)), ?_⟩
   exact sq_of (kH (by simp only [tre, tytre, mqr, Bool.and_self]) rfl)
  simp only [dR, hs] at h
  simp only [vz, mq, mqm, vsi, tyf, mqt, bh, od, hP, e9, b6, bM, bB, H7, H8, dR, nm, seval]
  refine km (fun tm => tm 1 = .lit (.int .i64 ai) ∧ tm 2 = .lit (.int .i64 ah) ∧ tm 3 = .ptr nx 0 ∧ tm 7 = .lit (.int .i64 iP) ∧ True) (by refine ⟨e9, b6, bM, bB, trivial⟩ <;> first | (simp only [ua, cg, bh, od, hP, e9, b6, bM, bB, H7, H8, dR, nm, seval] <;> rfl) | rfl) ?_
  rintro tm ⟨bz, bT, eD, eT, _⟩
  obtain ⟨Pj, wD, h⟩ := optI h wC
  try simp only [hs] at h
  obtain ⟨Pk, jn, h⟩ := optI h wC
  try simp only [hs] at h
  cases fz : (Pj == Pk)
  ·simp only [fz, hs] at h
   have AH := And.intro bh (And.intro od (And.intro hP (And.intro H7 (And.intro H8 (And.intro dR fz)))))
   simp only [vz, mq, mqm, vsi, tyf, mqt, AH, bz, bT, eD, eT, (aR wD), (aR jn), nm, seval]
   exact ⟨p6, Nat.lt_succ_self _, by rw [AF]; refine ⟨p6, i64.wrap (iP - 1), rfl, rfl, (show nx + 5 ≤ AG + 16 by omega), ?_, ?_, bz, bT, eD, ?_, (by first | exact h | (simp only [AH]; exact h))⟩ <;> first | (simp only [ua, cg, AH, bz, bT, eD, eT, nm, seval] <;> rfl) | rfl⟩
  simp only [fz, hs] at h
  have qj := And.intro bh (And.intro od (And.intro hP (And.intro H7 (And.intro H8 (And.intro dR fz)))))
  obtain ⟨AI, Pl, h⟩ := optI h wC
  try simp only [hs] at h
  simp only [vz, mq, mqm, vsi, tyf, mqt, qj, bz, bT, eD, eT, (aR wD), (aR jn), nm, seval]
  refine kupd (VUpd.at (β := bt) (y := (fun _ => .lit (.int .i64 AI.1))) (rc_ok _ _ _ _ _ _ Pl) (by omega) (by first | rfl | assumption | (simp only [aF, ba, qj, nm, seval] <;> rfl)) (by first | rfl | (simp only [nrm, aW, @eu, @gZ] <;> rfl)) (gH (fun _ => rfl) _)) ?_
  refine h9 (fun tm => tm 28 = .lit (.int .i64 AI.1) ∧ True) (by refine ⟨?_, trivial⟩ <;> first | (simp only [ua, cg, qj, bz, bT, eD, eT, nm, seval] <;> rfl) | rfl) ?_
  rintro tm ⟨da, _⟩
  try simp only [vz, mq, mqm, vsi, tyf, mqt, qj, (aR wD), (aR jn), da, nm, seval]
  refine c9 (x := (.lit (.int .i64 AI.1))) (by first | (simp only [Tryz.results108, resV, resL, resV1, cI, cJ, uw, cr, tyf, mqt, qj, (aR wD), (aR jn), nm, seval] <;> rfl) | rfl) ?_
  replace h := Pe _ h
  try dsimp only at h
  obtain rfl := kF _ h
  refine ⟨(by first | rfl | assumption | (simp only [aF, ba, qj, nm, seval] <;> rfl)), ?_⟩
  exact sq_of (kH (by simp only [tre, tytre, mqr, Bool.and_self]) rfl)
def pW  : List Int → Int → Int → Option (LOut (Int) (Int))
 | [], gv, ct => some (.go ct)
 | e0 :: p0, gv, ct => pW p0 (gv + 1) (if ct < e0 then e0 else ct)
def nM (bd : List Int) : Option (Int) := cond (aK bd) (lbind (pW bd 0 0) (fun r2 => some r2) (fun c1 => some c1) (fun _ _ => none)) none
theorem AJ (bd : List Int) (R : Int) (h : nM bd = some R) : aj Tryz.prog G0 105 [.sl (ae eI bd) (List.length bd) false] (.tree (.lit (.int .i64 R))) := by
 refine aj.runR mixed Tryz.call105 Tryz.func105 rfl (by simp [Tryz.ntmps105]; kernel_rfl) ?_
 obtain ⟨KF, h, kF, kN⟩ := cT h
 simp only [nM] at h
 cases g4 : (aK bd)
 ·simp only [g4, hs] at h
  exact absurd h kN
 simp only [g4, hs] at h
 simp only [vz, tyf, g4, nm, seval]
 obtain ⟨K3, h, pQ, j1, vU, mi⟩ := fS h kN
 obtain ⟨f3, lj, h⟩ := call3 h
 obtain ⟨I3, fv⟩ : ∃ I : Nat → St → Prop, I = (fun m st => ∃ (p3 : List Int) (gM : Int) (bU : Int), m = List.length p3 ∧ 0 ≤ gM ∧ List.drop (Int.toNat gM) bd = p3 ∧ st.df = [] ∧ 5 ≤ st.nx ∧ st.tm 6 = .sl (ae eI bd) (List.length bd) false ∧ st.tm 7 = .lit (.int .i64 (List.length bd : Int)) ∧ st.tm 3 = .lit (.int .i64 bU) ∧ st.tm 8 = .lit (.int .i64 gM) ∧ K3 (f3 p3 gM bU)) := ⟨_, rfl⟩
 refine loopK mixed (by kernel_rfl) I3 (List.length bd) (by rw [fv]; refine ⟨bd, 0, 0, rfl, Int.le_refl _, rfl, rfl, (show 5 ≤ 5 by omega), ?_, ?_, ?_, ?_, h⟩ <;> first | (simp only [ua, nm, seval] <;> rfl) | rfl) ?_
 rintro m ⟨tm, H, eG, df⟩ hinv
 rw [fv] at hinv
 obtain ⟨p3, gM, bU, rfl, ca, cH, hdf, lk, e5, e6, e7, e8, h⟩ := hinv
 simp only at hdf lk e5 e6 e7 e8
 have n9 := fq (m := 5) (b := eG) (by omega)
 subst hdf lj
 cases p3 with
 | nil =>
  have gG : (decide (gM < (List.length bd : Int))) = false := fB ca cH
  simp only [pW, hs, reduceCtorEq] at h
  replace h := j1 _ h
  try dsimp only at h
  try simp only [hs] at h
  try simp only [vz, tyf, g4, n9, e5, e6, e7, e8, gG, nm, seval]
  refine c9 (x := (.lit (.int .i64 bU))) (by first | (simp only [Tryz.results105, resV, resL, resV1, cI, cJ, uw, cr, tyf, g4, n9, gG, nm, seval] <;> rfl) | rfl) ?_
  obtain rfl := kF _ h
  refine gY ?_ ?_
  ·simp only [tre, tytre, Bool.and_self]
  ·first | (simp only [outV, uw, gF, cr, tyf, nrm, aW, g4, n9, e5, e6, e7, e8, gG, nm, seval] <;> rfl) | rfl
 | cons e3 p3 =>
  have fA : (decide (gM < (List.length bd : Int))) = true := fC ca cH
  have kK := ei ca cH
  have oe := fu ca cH g4
  simp only [pW, hs, reduceCtorEq] at h
  simp only [vz, tyf, g4, n9, e5, e6, e7, e8, fA, (aR kK), oe, nm, seval]
  exact ⟨List.length p3, Nat.lt_succ_self _, by rw [fv]; refine ⟨p3, gM + 1, (if bU < e3 then e3 else bU), rfl, Int.le_trans ca (Int.le_add_one (Int.le_refl _)), cn ca cH, rfl, (show 5 ≤ eG + 10 by omega), e5, e6, ?_, ?_, (by first | exact h | (simp only [fA]; exact h))⟩ <;> first | (simp only [ua, n9, e5, e6, e7, e8, fA, oe, nm, seval] <;> rfl) | rfl⟩
def lp (rc : GBk → (List Int) → Int → Int → (List (Gbe × Int)) → Option ((Int) × List (Gbe × Int))) (aa : GBk) (ag : List Int) (ah : Int) : List Int → Int → (List Int) → (List (Gbe × Int)) → Option (LOut ((List Int) × List (Gbe × Int)) ((List Int) × (List (Gbe × Int))))
 | [], ga, dG, bV => some (.go (dG, bV))
 | e0 :: p0, ga, dG, bV => Option.bind (rc aa ag e0 ah bV) (fun r2 => cond (aE 8 (List.length (dG ++ [r2.1]))) (lp rc aa ag ah p0 (ga + 1) (dG ++ [r2.1]) r2.2) none)
def sd (rc : GBk → (List Int) → Int → Int → (List (Gbe × Int)) → Option ((Int) × List (Gbe × Int))) (aa : GBk) (ag : List Int) (aG : List Int) (ah : Int) (l0 : List (Gbe × Int)) : Option ((List Int) × List (Gbe × Int)) := cond (aK aG) (lbind (lp rc aa ag ah aG 0 ([] : List Int) l0) (fun r4 => some r4) (fun c3 => some (c3.1, c3.2)) (fun _ _ => none)) none
theorem Pm (rc : GBk → (List Int) → Int → Int → (List (Gbe × Int)) → Option ((Int) × List (Gbe × Int))) (rc_ok : ∀ (aa : GBk) (ag : List Int) (ai : Int) (ah : Int) (l0 : List (Gbe × Int)) (R : (Int) × List (Gbe × Int)), rc aa ag ai ah l0 = some R → VUpd Tryz.prog G0 118 (fun β => [.agg [.lit (.int .i64 aa.Apprentices), .sl (ae eI aa.Boards) (List.length aa.Boards) false, .sl (ae cGBs aa.Strokes) (List.length aa.Strokes) false, .sl (ae eI ag) (List.length ag) false, .mp β], .lit (.int .i64 ai), .lit (.int .i64 ah)]) (encM aP bR l0) (encM aP bR R.2) (fun _ => .lit (.int .i64 R.1))) (aa : GBk) (ag : List Int) (aG : List Int) (ah : Int) (l0 : List (Gbe × Int)) (R : (List Int) × List (Gbe × Int)) (h : sd rc aa ag aG ah l0 = some R) : VUpd Tryz.prog G0 106 (fun β => [.agg [.lit (.int .i64 aa.Apprentices), .sl (ae eI aa.Boards) (List.length aa.Boards) false, .sl (ae cGBs aa.Strokes) (List.length aa.Strokes) false, .sl (ae eI ag) (List.length ag) false, .mp β], .sl (ae eI aG) (List.length aG) false, .lit (.int .i64 ah)]) (encM aP bR l0) (encM aP bR R.2) (fun _ => .sl (ae eI R.1) (List.length R.1) false) := by
 intro bt nx hlt
 have bh := fb (β := bt) (nx := nx) hlt
 refine aq.run mixed Tryz.call106 Tryz.func106 rfl (by simp [Tryz.ntmps106]; kernel_rfl) ?_
 obtain ⟨KF, h, kF, kN⟩ := cT h
 simp only [sd] at h
 cases g6 : (aK aG)
 ·simp only [g6, hs] at h
  exact absurd h kN
 simp only [g6, hs] at h
 simp only [vz, mq, mqm, vsi, tyf, mqt, bh, g6, nm, seval]
 obtain ⟨K5, h, vS, pO, JC, mg⟩ := fS h kN
 obtain ⟨f5, rQ, h⟩ := call4 h
 obtain ⟨I5, ji⟩ : ∃ I : Nat → St → Prop, I = (fun m st => ∃ (p5 : List Int) (cy : Int) (bL : List Int) (jL : List (Gbe × Int)) (l9 : VV), m = List.length p5 ∧ 0 ≤ cy ∧ List.drop (Int.toNat cy) aG = p5 ∧ st.df = [] ∧ nx + 6 ≤ st.nx ∧ st.H bt = some (.map (encM aP bR jL)) ∧ st.H nx = some (.cells (some 92) ((cGBk aa) ++ [.sl (ae eI ag) (List.length ag) false] ++ [.mp bt])) ∧ st.tm 2 = .lit (.int .i64 ah) ∧ st.tm 3 = .ptr nx 0 ∧ st.tm 10 = .sl (ae eI aG) (List.length aG) false ∧ st.tm 11 = .lit (.int .i64 (List.length aG : Int)) ∧ st.tm 7 = l9 ∧ st.tm 12 = .lit (.int .i64 cy) ∧ ((∃ (β : Nat) (el : Option TypeId), l9 = .ref β 0 (List.length bL) 1 (List.length bL) ∧ β < st.nx ∧ β ≠ bt ∧ β ≠ nx ∧ st.H β = some (.cells el (ae eI bL))) ∨ (l9 = .lit (.slice none 0 0) ∧ bL = [])) ∧ K5 (f5 p5 cy bL jL)) := ⟨_, rfl⟩
 refine loopK mixed (by kernel_rfl) I5 (List.length aG) (by rw [ji]; refine ⟨aG, 0, ([] : List Int), l0, .lit (.slice none 0 0), rfl, Int.le_refl _, rfl, rfl, (show nx + 6 ≤ nx + 6 by omega), ?_, ?_, ?_, ?_, ?_, ?_, ?_, ?_, Or.inr ⟨rfl, rfl⟩, h⟩ <;> first | (simp only [ua, cg, bh, nm, seval] <;> rfl) | rfl) ?_
 rintro m ⟨tm, H, i7, df⟩ hinv
 rw [ji] at hinv
 obtain ⟨p5, cy, bL, jL, l9, rfl, eh, fp, hdf, rR, H7, H8, e9, b6, bM, bB, bw, bX, mA, h⟩ := hinv
 simp only at hdf rR H7 H8 e9 b6 bM bB bw bX mA
 have eU := jk (a := nx) (m := 6) (b := i7) (by omega)
 have eW := fb (β := bt) (nx := i7) (by omega)
 subst hdf rQ
 rcases mA with ⟨sX, mB, rfl, AK, nT, nU, lA⟩ | ⟨rfl, rfl⟩
 ·have lB := fb AK
  have hC := ne_f nT
  have hO := ne_f nU
  cases p5 with
  | nil =>
   have jF : (decide (cy < (List.length aG : Int))) = false := fB eh fp
   simp only [lp, hs, reduceCtorEq] at h
   replace h := pO _ h
   try dsimp only at h
   try simp only [hs] at h
   try simp only [vz, mq, mqm, vsi, tyf, mqt, bh, g6, eU, eW, e9, b6, bM, bB, bw, bX, H7, H8, lB, lA, hC, hO, jF, nm, seval]
   refine c9 (x := (.ref sX 0 (List.length bL) 1 (List.length bL))) (by first | (simp only [Tryz.results106, resV, resL, resV1, cI, cJ, uw, cr, tyf, mqt, bh, g6, eU, eW, H7, H8, lB, lA, hC, hO, jF, nm, seval] <;> rfl) | rfl) ?_
   obtain rfl := kF _ h
   refine ⟨(by first | rfl | assumption | (simp only [aF, ba, bh, eU, eW, H7, H8, lB, lA, hC, hO, nm, seval] <;> rfl)), ?_⟩
   exact AL (by first | rfl | assumption | (simp only [aF, ba, bh, eU, eW, H7, H8, lB, lA, hC, hO, nm, seval] <;> rfl)) (by first | rfl | assumption | (simp only [aF, ba, bh, eU, eW, H7, H8, lB, lA, hC, hO, nm, seval] <;> rfl)) eI_ok (fun _ => rfl)
  | cons e5 p5 =>
   have nV : (decide (cy < (List.length aG : Int))) = true := fC eh fp
   have fD := ei eh fp
   have jG := fu eh fp g6
   simp only [lp, hs, reduceCtorEq] at h
   obtain ⟨i5, jf, h⟩ := optI h mg
   try simp only [hs] at h
   simp only [vz, mq, mqm, vsi, tyf, mqt, bh, g6, eU, eW, e9, b6, bM, bB, bw, bX, H7, H8, lB, lA, hC, hO, nV, (aR fD), jG, nm, seval]
   refine kupd (VUpd.at (β := bt) (y := (fun _ => .lit (.int .i64 i5.1))) (rc_ok _ _ _ _ _ _ jf) (by omega) (by first | rfl | assumption | (simp only [aF, ba, bh, eU, eW, H7, H8, lB, lA, hC, hO, nm, seval] <;> rfl)) (by first | rfl | (simp only [nrm, aW, @eu, @gZ] <;> rfl)) (gH (fun _ => rfl) _)) ?_
   refine h9 (fun tm => tm 2 = .lit (.int .i64 ah) ∧ tm 3 = .ptr nx 0 ∧ tm 10 = .sl (ae eI aG) (List.length aG) false ∧ tm 11 = .lit (.int .i64 (List.length aG : Int)) ∧ tm 12 = .lit (.int .i64 cy) ∧ tm 16 = .ref sX 0 (List.length bL) 1 (List.length bL) ∧ tm 20 = .lit (.int .i64 i5.1) ∧ True) (by refine ⟨e9, b6, bM, bB, bX, ?_, ?_, trivial⟩ <;> first | (simp only [ua, cg, bh, eU, eW, e9, b6, bM, bB, bw, bX, H7, H8, lB, lA, hC, hO, nV, jG, nm, seval] <;> rfl) | rfl) ?_
   rintro tm ⟨bJ, dt, da, cF, cz, du, bC, _⟩
   have jo := And.intro bh (And.intro g6 (And.intro eU (And.intro eW (And.intro H7 (And.intro H8 (And.intro lB (And.intro lA (And.intro hC (And.intro hO (And.intro nV jG))))))))))
   cases im : (aE 8 (List.length (bL ++ [i5.1])))
   ·simp only [im, hs] at h
    exact absurd h mg
   simp only [im, hs] at h
   simp only [vz, mq, mqm, vsi, tyf, mqt, jo, (aR fD), bJ, dt, da, cF, cz, du, bC, im, nm, seval]
   refine k_app (w := 1) (enc := eI) (xs := bL) (ys := ([i5.1])) (el := mB) (dz := (some 3)) (fun _ => rfl) d5 cU Tryz.underlying22 (by first | rfl | assumption | (simp only [aF, ba, cL, jo, nm, seval] <;> rfl) | (simp only [aF, ba, fx, fE, fF, fG, tyf, mqt, jo, (aR fD), bJ, dt, da, cF, cz, du, bC, im, nm, seval]; done)) (by first | rfl | assumption | (simp only [aF, ba, cL, jo, nm, seval] <;> rfl) | (simp only [aF, ba, fx, fE, fF, fG, tyf, mqt, jo, (aR fD), bJ, dt, da, cF, cz, du, bC, im, nm, seval]; done)) (Nat.zero_lt_succ _) im ?_
   simp only [vz, mq, mqm, vsi, tyf, mqt, jo, (aR fD), bJ, dt, da, cF, cz, du, bC, im, nm, seval]
   exact ⟨List.length p5, Nat.lt_succ_self _, by rw [ji]; refine ⟨p5, cy + 1, (bL ++ [i5.1]), i5.2, .ref (i7 + 10) 0 (List.length (bL ++ [i5.1])) 1 (List.length (bL ++ [i5.1])), rfl, Int.le_trans eh (Int.le_add_one (Int.le_refl _)), cn eh fp, rfl, (show nx + 6 ≤ i7 + 14 by omega), ?_, ?_, bJ, dt, da, cF, ?_, ?_, Or.inl ⟨i7 + 10, (sameEl mB 3), rfl, (by first | omega | (simp only [nm, seval]; done) | (simp only [nm, seval]; omega)), (by first | omega | (intro hh; simp only [jo, reduceCtorEq] at hh)), (by first | omega | (intro hh; simp only [jo, reduceCtorEq] at hh)), ?_⟩, (by first | exact h | (simp only [jo]; exact h))⟩ <;> first | (simp only [ua, cg, jo, bJ, dt, da, cF, cz, du, bC, nm, seval] <;> rfl) | rfl⟩
 ·cases p5 with
  | nil =>
   have kl : (decide (cy < (List.length aG : Int))) = false := fB eh fp
   simp only [lp, hs, reduceCtorEq] at h
   replace h := pO _ h
   try dsimp only at h
   try simp only [hs] at h
   try simp only [vz, mq, mqm, vsi, tyf, mqt, bh, g6, eU, eW, e9, b6, bM, bB, bw, bX, H7, H8, kl, nm, seval]
   refine c9 (x := (.lit (.slice none 0 0))) (by first | (simp only [Tryz.results106, resV, resL, resV1, cI, cJ, uw, cr, tyf, mqt, bh, g6, eU, eW, H7, H8, kl, nm, seval] <;> rfl) | rfl) ?_
   obtain rfl := kF _ h
   refine ⟨(by first | rfl | assumption | (simp only [aF, ba, bh, eU, eW, H7, H8, nm, seval] <;> rfl)), ?_⟩
   exact sq_of AM
  | cons e5 p5 =>
   have fl : (decide (cy < (List.length aG : Int))) = true := fC eh fp
   have wE := ei eh fp
   have AN := fu eh fp g6
   simp only [lp, hs, reduceCtorEq] at h
   obtain ⟨mC, mD, h⟩ := optI h mg
   try simp only [hs] at h
   simp only [vz, mq, mqm, vsi, tyf, mqt, bh, g6, eU, eW, e9, b6, bM, bB, bw, bX, H7, H8, fl, (aR wE), AN, nm, seval]
   refine kupd (VUpd.at (β := bt) (y := (fun _ => .lit (.int .i64 mC.1))) (rc_ok _ _ _ _ _ _ mD) (by omega) (by first | rfl | assumption | (simp only [aF, ba, bh, eU, eW, H7, H8, nm, seval] <;> rfl)) (by first | rfl | (simp only [nrm, aW, @eu, @gZ] <;> rfl)) (gH (fun _ => rfl) _)) ?_
   refine h9 (fun tm => tm 2 = .lit (.int .i64 ah) ∧ tm 3 = .ptr nx 0 ∧ tm 10 = .sl (ae eI aG) (List.length aG) false ∧ tm 11 = .lit (.int .i64 (List.length aG : Int)) ∧ tm 12 = .lit (.int .i64 cy) ∧ tm 16 = .lit (.slice none 0 0) ∧ tm 20 = .lit (.int .i64 mC.1) ∧ True) (by refine ⟨e9, b6, bM, bB, bX, ?_, ?_, trivial⟩ <;> first | (simp only [ua, cg, bh, eU, eW, e9, b6, bM, bB, bw, bX, H7, H8, fl, AN, nm, seval] <;> rfl) | rfl) ?_
   rintro tm ⟨dg, dh, cR, di, eF, dv, cS, _⟩
   have mG := And.intro bh (And.intro g6 (And.intro eU (And.intro eW (And.intro H7 (And.intro H8 (And.intro fl AN))))))
   cases qk : (aE 8 (List.length (([] : List Int) ++ [mC.1])))
   ·simp only [qk, hs] at h
    exact absurd h mg
   simp only [qk, hs] at h
   simp only [vz, mq, mqm, vsi, tyf, mqt, mG, (aR wE), dg, dh, cR, di, eF, dv, cS, qk, nm, seval]
   refine j2 (w := 1) (enc := eI) (ys := ([mC.1])) (dz := (some 3)) (fun _ => rfl) d5 cU Tryz.underlying22 (by first | rfl | assumption | (simp only [aF, ba, cL, mG, nm, seval] <;> rfl) | (simp only [aF, ba, fx, fE, fF, fG, tyf, mqt, mG, (aR wE), dg, dh, cR, di, eF, dv, cS, qk, nm, seval]; done)) (Nat.zero_lt_succ _) qk ?_
   simp only [vz, mq, mqm, vsi, tyf, mqt, mG, (aR wE), dg, dh, cR, di, eF, dv, cS, qk, nm, seval]
   exact ⟨List.length p5, Nat.lt_succ_self _, by rw [ji]; refine ⟨p5, cy + 1, (([] : List Int) ++ [mC.1]), mC.2, .ref (i7 + 10) 0 (List.length (([] : List Int) ++ [mC.1])) 1 (List.length (([] : List Int) ++ [mC.1])), rfl, Int.le_trans eh (Int.le_add_one (Int.le_refl _)), cn eh fp, rfl, (show nx + 6 ≤ i7 + 14 by omega), ?_, ?_, dg, dh, cR, di, ?_, ?_, Or.inl ⟨i7 + 10, (some 3), rfl, (by first | omega | (simp only [nm, seval]; done) | (simp only [nm, seval]; omega)), (by first | omega | (intro hh; simp only [mG, reduceCtorEq] at hh)), (by first | omega | (intro hh; simp only [mG, reduceCtorEq] at hh)), ?_⟩, (by first | exact h | (simp only [mG]; exact h))⟩ <;> first | (simp only [ua, cg, mG, dg, dh, cR, di, eF, dv, cS, nm, seval] <;> rfl) | rfl⟩
def sf (rc : GBk → (List Int) → Int → Int → (List (Gbe × Int)) → Option ((Int) × List (Gbe × Int))) (aa : GBk) (ag : List Int) (ai : Int) (ah : Int) (l0 : List (Gbe × Int)) : Option ((Int) × List (Gbe × Int)) := Option.bind (sc rc aa ag ai ah l0) (fun r1 => Option.bind (getI aa.Strokes ai) (fun x2 => Option.bind (sd rc aa ag x2.Needs ah r1.2) (fun r3 => Option.bind (nM r3.1) (fun r4 => Option.bind (nM ([r1.1, r4])) (fun r5 => some (r5, r3.2))))))
theorem KI (rc : GBk → (List Int) → Int → Int → (List (Gbe × Int)) → Option ((Int) × List (Gbe × Int))) (rc_ok : ∀ (aa : GBk) (ag : List Int) (ai : Int) (ah : Int) (l0 : List (Gbe × Int)) (R : (Int) × List (Gbe × Int)), rc aa ag ai ah l0 = some R → VUpd Tryz.prog G0 118 (fun β => [.agg [.lit (.int .i64 aa.Apprentices), .sl (ae eI aa.Boards) (List.length aa.Boards) false, .sl (ae cGBs aa.Strokes) (List.length aa.Strokes) false, .sl (ae eI ag) (List.length ag) false, .mp β], .lit (.int .i64 ai), .lit (.int .i64 ah)]) (encM aP bR l0) (encM aP bR R.2) (fun _ => .lit (.int .i64 R.1))) (aa : GBk) (ag : List Int) (ai : Int) (ah : Int) (l0 : List (Gbe × Int)) (R : (Int) × List (Gbe × Int)) (h : sf rc aa ag ai ah l0 = some R) : VUpd Tryz.prog G0 107 (fun β => [.agg [.lit (.int .i64 aa.Apprentices), .sl (ae eI aa.Boards) (List.length aa.Boards) false, .sl (ae cGBs aa.Strokes) (List.length aa.Strokes) false, .sl (ae eI ag) (List.length ag) false, .mp β], .lit (.int .i64 ai), .lit (.int .i64 ah)]) (encM aP bR l0) (encM aP bR R.2) (fun _ => .lit (.int .i64 R.1)) := by
 intro bt nx hlt
 have bh := fb (β := bt) (nx := nx) hlt
 refine aq.run mixed Tryz.call107 Tryz.func107 rfl (by simp [Tryz.ntmps107]; kernel_rfl) ?_
 obtain ⟨KF, h, kF, kN⟩ := cT h
 simp only [sf] at h
 simp only [vz, mq, mqm, vsi, tyf, mqt, bh, nm, seval]
 refine mn (fun tm => tm 1 = .lit (.int .i64 ai) ∧ tm 2 = .lit (.int .i64 ah) ∧ tm 3 = .ptr nx 0 ∧ True) (by refine ⟨?_, ?_, ?_, trivial⟩ <;> first | (simp only [ua, cg, bh, nm, seval] <;> rfl) | rfl) ?_
 rintro tm ⟨e6, e7, e8, _⟩
 obtain ⟨r9, fP, h⟩ := optI h kN
 try simp only [hs] at h
 simp only [vz, mq, mqm, vsi, tyf, mqt, bh, e6, e7, e8, nm, seval]
 refine dkupd (VUpd.at (β := bt) (y := (fun _ => .lit (.int .i64 r9.1))) (Pd rc rc_ok _ _ _ _ _ _ fP) (by omega) (by first | rfl | assumption | (simp only [aF, ba, bh, nm, seval] <;> rfl)) (by first | rfl | (simp only [nrm, aW, @eu, @gZ] <;> rfl)) (gH (fun _ => rfl) _)) ?_
 refine h9 (fun tm => tm 1 = .lit (.int .i64 ai) ∧ tm 2 = .lit (.int .i64 ah) ∧ tm 3 = .ptr nx 0 ∧ tm 10 = .lit (.int .i64 r9.1) ∧ True) (by refine ⟨e6, e7, e8, ?_, trivial⟩ <;> first | (simp only [ua, cg, bh, e6, e7, e8, nm, seval] <;> rfl) | rfl) ?_
 rintro tm ⟨bM, bB, bw, bX, _⟩
 obtain ⟨AO, iQ, h⟩ := optI h kN
 try simp only [hs] at h
 obtain ⟨jM, sY, h⟩ := optI h kN
 try simp only [hs] at h
 simp only [vz, mq, mqm, vsi, tyf, mqt, bh, bM, bB, bw, bX, (aZ iQ), nm, seval]
 refine dkupd (VUpd.at (β := bt) (y := (fun _ => .sl (ae eI jM.1) (List.length jM.1) false)) (Pm rc rc_ok _ _ _ _ _ _ sY) (by omega) (by first | rfl | assumption | (simp only [aF, ba, bh, nm, seval] <;> rfl)) (by first | rfl | (simp only [nrm, aW, @eu, @gZ] <;> rfl)) (gH (fun _ => rfl) _)) ?_
 refine h9 (fun tm => tm 10 = .lit (.int .i64 r9.1) ∧ tm 20 = .sl (ae eI jM.1) (List.length jM.1) false ∧ True) (by refine ⟨bX, ?_, trivial⟩ <;> first | (simp only [ua, cg, bh, bM, bB, bw, bX, nm, seval] <;> rfl) | rfl) ?_
 rintro tm ⟨eT, fa, _⟩
 obtain ⟨jN, mH, h⟩ := optI h kN
 try simp only [hs] at h
 simp only [vz, mq, mqm, vsi, tyf, mqt, bh, (aZ iQ), eT, fa, nm, seval]
 refine dktree (args0 := [.sl (ae eI jM.1) (List.length jM.1) false]) (by first | (simp only [nrm, aW, @eu] <;> rfl) | rfl) (by simp only [tre, tytre, mqr, Bool.and_self]) (AJ _ _ mH) ?_
 refine bY (fun tm => tm 10 = .lit (.int .i64 r9.1) ∧ tm 21 = .lit (.int .i64 jN) ∧ True) (by refine ⟨eT, ?_, trivial⟩ <;> first | (simp only [ua, cg, bh, eT, fa, nm, seval] <;> rfl) | rfl) ?_
 rintro tm ⟨eE, hZ, _⟩
 obtain ⟨i5, jf, h⟩ := optI h kN
 try simp only [hs] at h
 simp only [vz, mq, mqm, vsi, tyf, mqt, bh, (aZ iQ), eE, hZ, nm, seval]
 refine dkseen1 (w := 1) (enc := eI) (xs := ([r9.1, jN])) (el := (some 3)) ⟨eI_ok.tree, eI_ok.norm⟩ (fun _ => rfl) (by simp only [List.length_cons, List.length_nil]; decide) (by simp only [aF, ba, cL, bh, nm, seval] <;> rfl) (AJ _ _ jf) (by first | rfl | simp only [VV.flat, flatL, Bool.and_self]) ?_
 refine bY (fun tm => tm 23 = .lit (.int .i64 i5) ∧ True) (by refine ⟨?_, trivial⟩ <;> first | (simp only [ua, cg, bh, eE, hZ, nm, seval] <;> rfl) | rfl) ?_
 rintro tm ⟨bJ, _⟩
 simp only [vz, mq, mqm, vsi, tyf, mqt, bh, (aZ iQ), bJ, nm, seval]
 refine j5 ⟨?_, ?_⟩
 ·simp only [j6, j7, fw, j8, and_true, true_and]
  repeat' (first | exact trivial | refine And.intro ?_ ?_ | rw [fw] | rw [j9] | exact Or.inl (by decide +kernel) | exact Or.inl (by dsimp only; decide +kernel) | (refine Or.inr ⟨?_, ?_⟩ <;> simp; done) | (refine Or.inr ⟨?_, ?_⟩ <;> simp <;> omega) | (refine Or.inr ⟨?_, ?_⟩ <;> simp [VEff.wr] <;> omega))
 try simp only [vz, mq, mqm, vsi, tyf, mqt, bh, (aZ iQ), bJ, nm, seval]
 refine c9 (x := (.lit (.int .i64 i5))) (by first | (simp only [Tryz.results107, resV, resL, resV1, cI, cJ, uw, cr, tyf, mqt, bh, (aZ iQ), nm, seval] <;> rfl) | rfl) ?_
 obtain rfl := kF _ h
 refine ⟨(by first | rfl | assumption | (simp only [aF, ba, bh, nm, seval] <;> rfl)), ?_⟩
 exact sq_of (kH (by simp only [tre, tytre, mqr, Bool.and_self]) rfl)
def sg (aa : GBk) (ag : List Int) (ai : Int) : Option (Int) := Option.bind (getI aa.Strokes ai) (fun x1 => some x1.Hours.Low)
theorem Pn (aa : GBk) (ag : List Int) (ai : Int) (b : Nat) (R : Int) (h : sg aa ag ai = some R) : aj Tryz.prog G0 139 [.agg [.lit (.int .i64 aa.Apprentices), .sl (ae eI aa.Boards) (List.length aa.Boards) false, .sl (ae cGBs aa.Strokes) (List.length aa.Strokes) false, .sl (ae eI ag) (List.length ag) false, .lit (.map (some b))], .lit (.int .i64 ai)] (.tree (.lit (.int .i64 R))) := by
 refine aj.runR mixed Tryz.call139 Tryz.func139 rfl (by simp [Tryz.ntmps139]; kernel_rfl) ?_
 obtain ⟨KF, h, kF, kN⟩ := cT h
 simp only [sg] at h
 obtain ⟨x2, o3, h⟩ := optI h kN
 try simp only [hs] at h
 try simp only [vz, vsi, tyf, (aZ o3), nm, seval]
 refine c9 (x := (.lit (.int .i64 x2.Hours.Low))) (by first | (simp only [Tryz.results139, resV, resL, resV1, cI, cJ, uw, cr, tyf, (aZ o3), nm, seval] <;> rfl) | rfl) ?_
 obtain rfl := kF _ h
 refine gY ?_ ?_
 ·simp only [tre, tytre, Bool.and_self]
 ·first | (simp only [outV, uw, gF, cr, tyf, nrm, aW, (aZ o3), nm, seval] <;> rfl) | rfl
def sh (aa : GBk) (ag : List Int) (ai : Int) : Option (Int) := Option.bind (getI aa.Strokes ai) (fun x1 => some x1.Hours.High)
theorem Po (aa : GBk) (ag : List Int) (ai : Int) (b : Nat) (R : Int) (h : sh aa ag ai = some R) : aj Tryz.prog G0 140 [.agg [.lit (.int .i64 aa.Apprentices), .sl (ae eI aa.Boards) (List.length aa.Boards) false, .sl (ae cGBs aa.Strokes) (List.length aa.Strokes) false, .sl (ae eI ag) (List.length ag) false, .lit (.map (some b))], .lit (.int .i64 ai)] (.tree (.lit (.int .i64 R))) := by
 refine aj.runR mixed Tryz.call140 Tryz.func140 rfl (by simp [Tryz.ntmps140]; kernel_rfl) ?_
 obtain ⟨KF, h, kF, kN⟩ := cT h
 simp only [sh] at h
 obtain ⟨x2, o3, h⟩ := optI h kN
 try simp only [hs] at h
 try simp only [vz, vsi, tyf, (aZ o3), nm, seval]
 refine c9 (x := (.lit (.int .i64 x2.Hours.High))) (by first | (simp only [Tryz.results140, resV, resL, resV1, cI, cJ, uw, cr, tyf, (aZ o3), nm, seval] <;> rfl) | rfl) ?_
 obtain rfl := kF _ h
 refine gY ?_ ?_
 ·simp only [tre, tytre, Bool.and_self]
 ·first | (simp only [outV, uw, gF, cr, tyf, nrm, aW, (aZ o3), nm, seval] <;> rfl) | rfl
def si (rc : GBk → (List Int) → Int → Int → (List (Gbe × Int)) → Option ((Int) × List (Gbe × Int))) (aa : GBk) (ag : List Int) (ai : Int) (ah : Int) (l0 : List (Gbe × Int)) : Option ((Int) × List (Gbe × Int)) := cond (mapHas cM l0 (Gbe.mk ai ah)) (some (mapGet cM 0 l0 (Gbe.mk ai ah), l0)) (Option.bind (sf rc aa ag ai ah l0) (fun r1 => cond (ah == 0) (Option.bind (sg aa ag ai) (fun r2 => some (i64.wrap (r1.1 + r2), mapSet cM r1.2 (Gbe.mk ai ah) (i64.wrap (r1.1 + r2))))) (cond (ah == 1) (Option.bind (sh aa ag ai) (fun r2 => some (i64.wrap (r1.1 + r2), mapSet cM r1.2 (Gbe.mk ai ah) (i64.wrap (r1.1 + r2))))) none)))
theorem Pp (rc : GBk → (List Int) → Int → Int → (List (Gbe × Int)) → Option ((Int) × List (Gbe × Int))) (rc_ok : ∀ (aa : GBk) (ag : List Int) (ai : Int) (ah : Int) (l0 : List (Gbe × Int)) (R : (Int) × List (Gbe × Int)), rc aa ag ai ah l0 = some R → VUpd Tryz.prog G0 118 (fun β => [.agg [.lit (.int .i64 aa.Apprentices), .sl (ae eI aa.Boards) (List.length aa.Boards) false, .sl (ae cGBs aa.Strokes) (List.length aa.Strokes) false, .sl (ae eI ag) (List.length ag) false, .mp β], .lit (.int .i64 ai), .lit (.int .i64 ah)]) (encM aP bR l0) (encM aP bR R.2) (fun _ => .lit (.int .i64 R.1))) (aa : GBk) (ag : List Int) (ai : Int) (ah : Int) (l0 : List (Gbe × Int)) (R : (Int) × List (Gbe × Int)) (h : si rc aa ag ai ah l0 = some R) : VUpd Tryz.prog G0 118 (fun β => [.agg [.lit (.int .i64 aa.Apprentices), .sl (ae eI aa.Boards) (List.length aa.Boards) false, .sl (ae cGBs aa.Strokes) (List.length aa.Strokes) false, .sl (ae eI ag) (List.length ag) false, .mp β], .lit (.int .i64 ai), .lit (.int .i64 ah)]) (encM aP bR l0) (encM aP bR R.2) (fun _ => .lit (.int .i64 R.1)) := by
 intro bt nx hlt
 have bh := fb (β := bt) (nx := nx) hlt
 refine aq.run mixed Tryz.call118 Tryz.func118 rfl (by simp [Tryz.ntmps118]; kernel_rfl) ?_
 obtain ⟨KF, h, kF, kN⟩ := cT h
 simp only [si] at h
 have w2 := fun H => sR (β := bt) l0 (Gbe.mk ai ah) H
 try simp only [cg] at w2
 cases d3 : (mapHas cM l0 (Gbe.mk ai ah))
 ·simp only [d3, hs] at h
  obtain ⟨r4, o5, h⟩ := optI h kN
  try simp only [hs] at h
  have hk : (ah == 0) = true ∨ ((ah == 0) = false ∧ (ah == 1) = true) := by
   cases c0 : (ah == 0)
   ·cases c1 : (ah == 1)
    ·simp only [c0, c1, hs] at h
     exact absurd h kN
    exact .inr ⟨rfl, rfl⟩
   exact .inl rfl
  rcases hk with c0 | ⟨c0, c1⟩
  ·obtain rfl : ah = 0 := by simpa using c0
   simp only [c0, hs] at h
   simp only [vz, mq, mqm, vsi, tyf, mqt, bh, w2, d3, nm, seval]
   refine mn (fun tm => tm 1 = .lit (.int .i64 ai) ∧ tm 2 = .lit (.int .i64 0) ∧ tm 3 = .ptr nx 0 ∧ tm 7 = .ptr (nx + 5) 0 ∧ tm 10 = .ptr (nx + 19) 0 ∧ True) (by refine ⟨?_, ?_, ?_, ?_, ?_, trivial⟩ <;> first | (simp only [ua, cg, bh, w2, d3, nm, seval] <;> rfl) | rfl) ?_
   rintro tm ⟨e1, e2, e3, e4, b6, _⟩
   simp only [vz, mq, mqm, vsi, tyf, mqt, bh, w2, d3, e1, e2, e3, e4, b6, nm, seval]
   refine dkupd (VUpd.at (β := bt) (y := (fun _ => .lit (.int .i64 r4.1))) (KI rc rc_ok _ _ _ _ _ _ o5) (by omega) (by first | rfl | assumption | (simp only [aF, ba, bh, nm, seval] <;> rfl)) (by first | rfl | (simp only [nrm, aW, @eu, @gZ] <;> rfl)) (gH (fun _ => rfl) _)) ?_
   refine h9 (fun tm => tm 1 = .lit (.int .i64 ai) ∧ tm 2 = .lit (.int .i64 0) ∧ tm 3 = .ptr nx 0 ∧ tm 7 = .ptr (nx + 5) 0 ∧ tm 10 = .ptr (nx + 19) 0 ∧ tm 27 = .lit (.int .i64 r4.1) ∧ True) (by refine ⟨e1, e2, e3, e4, b6, ?_, trivial⟩ <;> first | (simp only [ua, cg, bh, e1, e2, e3, e4, b6, nm, seval] <;> rfl) | rfl) ?_
   rintro tm ⟨e1, e2, e3, e4, b6, bJ, _⟩
   obtain ⟨r8, o9, h⟩ := optI h kN
   try simp only [hs] at h
   simp only [vz, mq, mqm, vsi, tyf, mqt, bh, w2, d3, e1, e2, e3, e4, b6, bJ, nm, seval]
   refine dkupd (VUpd.at (β := bt) (y := (fun _ => .lit (.int .i64 r8))) (VUpd.of_lit (A := fun β => [.agg [.lit (.int .i64 aa.Apprentices), .sl (ae eI aa.Boards) (List.length aa.Boards) false, .sl (ae cGBs aa.Strokes) (List.length aa.Strokes) false, .sl (ae eI ag) (List.length ag) false, .mp β], .lit (.int .i64 ai)]) (x := fun _ => .lit (.int .i64 r8)) (es := encM aP bR r4.2) (A0 := fun _ b => [.agg [.lit (.int .i64 aa.Apprentices), .sl (ae eI aa.Boards) (List.length aa.Boards) false, .sl (ae cGBs aa.Strokes) (List.length aa.Strokes) false, .sl (ae eI ag) (List.length ag) false, .lit (.map (some b))], .lit (.int .i64 ai)]) (fun β b => by simp only [List.map_cons, List.map_nil, vlt, if_true, nrm, aW, @eu, tyf, mqt] <;> rfl) (fun β b => by simp only [List.map_cons, List.map_nil, vlt, if_true, tre, tytre, tyf, mqt, Bool.and_self]) (fun β b => rfl) (fun β b => Pn aa ag ai b r8 o9) (fun _ _ _ _ _ => kH (by simp only [tre, tytre, mqr, Bool.and_self]) rfl)) (by omega) (by first | rfl | assumption | (simp only [aF, ba, bh, nm, seval] <;> rfl)) (by first | rfl | (simp only [nrm, aW, @eu, @gZ] <;> rfl)) (gH (fun _ => rfl) _)) ?_
   refine h9 (fun tm => tm 1 = .lit (.int .i64 ai) ∧ tm 2 = .lit (.int .i64 0) ∧ tm 3 = .ptr nx 0 ∧ tm 7 = .ptr (nx + 5) 0 ∧ tm 27 = .lit (.int .i64 r4.1) ∧ tm 33 = .lit (.int .i64 r8) ∧ True) (by refine ⟨e1, e2, e3, e4, bJ, ?_, trivial⟩ <;> first | (simp only [ua, cg, bh, e1, e2, e3, e4, b6, bJ, nm, seval] <;> rfl) | rfl) ?_
   rintro tm ⟨e1, e2, e3, e4, bJ, bC, _⟩
   simp only [vz, mq, mqm, vsi, tyf, mqt, bh, w2, d3, e1, e2, e3, e4, bJ, bC, nm, seval]
   refine j5 ⟨?_, ?_⟩
   ·simp only [j6, j7, fw, j8, and_true, true_and]
    repeat' (first | exact trivial | refine And.intro ?_ ?_ | rw [fw] | rw [j9] | exact Or.inl (by decide +kernel) | exact Or.inl (by dsimp only; decide +kernel) | (refine Or.inr ⟨?_, ?_⟩ <;> simp; done) | (refine Or.inr ⟨?_, ?_⟩ <;> simp <;> omega) | (refine Or.inr ⟨?_, ?_⟩ <;> simp [VEff.wr] <;> omega) | (refine Or.inr ⟨?_, ?_⟩ <;> simp [rdV, rdO, topName, Op.operands, jA, oc, jB, jj, VEff.wr] <;> omega))
   have w9 := fun H => sS (β := bt) r4.2 (Gbe.mk ai 0) (i64.wrap (r4.1 + r8)) H
   try simp only [cg] at w9
   try simp only [vz, mq, mqm, vsi, tyf, mqt, bh, d3, e1, e2, e3, e4, bJ, bC, w9, nm, seval]
   refine c9 (x := (.lit (.int .i64 (i64.wrap (r4.1 + r8))))) (by first | (simp only [Tryz.results118, resV, resL, resV1, cI, cJ, uw, cr, tyf, mqt, bh, d3, w9, nm, seval] <;> rfl) | rfl) ?_
   obtain rfl := kF _ h
   refine ⟨(by first | rfl | assumption | (simp only [aF, ba, bh, nm, seval] <;> rfl)), ?_⟩
   exact sq_of (kH (by simp only [tre, tytre, mqr, Bool.and_self]) rfl)
  obtain rfl : ah = 1 := by simpa using c1
  simp only [c0, c1, hs] at h
  simp only [vz, mq, mqm, vsi, tyf, mqt, bh, w2, d3, nm, seval]
  refine mn (fun tm => tm 1 = .lit (.int .i64 ai) ∧ tm 2 = .lit (.int .i64 1) ∧ tm 3 = .ptr nx 0 ∧ tm 7 = .ptr (nx + 5) 0 ∧ tm 10 = .ptr (nx + 19) 0 ∧ True) (by refine ⟨?_, ?_, ?_, ?_, ?_, trivial⟩ <;> first | (simp only [ua, cg, bh, w2, d3, nm, seval] <;> rfl) | rfl) ?_
  rintro tm ⟨e1, e2, e3, e4, b6, _⟩
  simp only [vz, mq, mqm, vsi, tyf, mqt, bh, w2, d3, e1, e2, e3, e4, b6, nm, seval]
  refine dkupd (VUpd.at (β := bt) (y := (fun _ => .lit (.int .i64 r4.1))) (KI rc rc_ok _ _ _ _ _ _ o5) (by omega) (by first | rfl | assumption | (simp only [aF, ba, bh, nm, seval] <;> rfl)) (by first | rfl | (simp only [nrm, aW, @eu, @gZ] <;> rfl)) (gH (fun _ => rfl) _)) ?_
  refine h9 (fun tm => tm 1 = .lit (.int .i64 ai) ∧ tm 2 = .lit (.int .i64 1) ∧ tm 3 = .ptr nx 0 ∧ tm 7 = .ptr (nx + 5) 0 ∧ tm 10 = .ptr (nx + 19) 0 ∧ tm 27 = .lit (.int .i64 r4.1) ∧ True) (by refine ⟨e1, e2, e3, e4, b6, ?_, trivial⟩ <;> first | (simp only [ua, cg, bh, e1, e2, e3, e4, b6, nm, seval] <;> rfl) | rfl) ?_
  rintro tm ⟨e1, e2, e3, e4, b6, bJ, _⟩
  obtain ⟨r8, o9, h⟩ := optI h kN
  try simp only [hs] at h
  simp only [vz, mq, mqm, vsi, tyf, mqt, bh, w2, d3, e1, e2, e3, e4, b6, bJ, nm, seval]
  refine dkupd (VUpd.at (β := bt) (y := (fun _ => .lit (.int .i64 r8))) (VUpd.of_lit (A := fun β => [.agg [.lit (.int .i64 aa.Apprentices), .sl (ae eI aa.Boards) (List.length aa.Boards) false, .sl (ae cGBs aa.Strokes) (List.length aa.Strokes) false, .sl (ae eI ag) (List.length ag) false, .mp β], .lit (.int .i64 ai)]) (x := fun _ => .lit (.int .i64 r8)) (es := encM aP bR r4.2) (A0 := fun _ b => [.agg [.lit (.int .i64 aa.Apprentices), .sl (ae eI aa.Boards) (List.length aa.Boards) false, .sl (ae cGBs aa.Strokes) (List.length aa.Strokes) false, .sl (ae eI ag) (List.length ag) false, .lit (.map (some b))], .lit (.int .i64 ai)]) (fun β b => by simp only [List.map_cons, List.map_nil, vlt, if_true, nrm, aW, @eu, tyf, mqt] <;> rfl) (fun β b => by simp only [List.map_cons, List.map_nil, vlt, if_true, tre, tytre, tyf, mqt, Bool.and_self]) (fun β b => rfl) (fun β b => Po aa ag ai b r8 o9) (fun _ _ _ _ _ => kH (by simp only [tre, tytre, mqr, Bool.and_self]) rfl)) (by omega) (by first | rfl | assumption | (simp only [aF, ba, bh, nm, seval] <;> rfl)) (by first | rfl | (simp only [nrm, aW, @eu, @gZ] <;> rfl)) (gH (fun _ => rfl) _)) ?_
  refine h9 (fun tm => tm 1 = .lit (.int .i64 ai) ∧ tm 2 = .lit (.int .i64 1) ∧ tm 3 = .ptr nx 0 ∧ tm 7 = .ptr (nx + 5) 0 ∧ tm 27 = .lit (.int .i64 r4.1) ∧ tm 33 = .lit (.int .i64 r8) ∧ True) (by refine ⟨e1, e2, e3, e4, bJ, ?_, trivial⟩ <;> first | (simp only [ua, cg, bh, e1, e2, e3, e4, b6, bJ, nm, seval] <;> rfl) | rfl) ?_
  rintro tm ⟨e1, e2, e3, e4, bJ, bC, _⟩
  simp only [vz, mq, mqm, vsi, tyf, mqt, bh, w2, d3, e1, e2, e3, e4, bJ, bC, nm, seval]
  refine j5 ⟨?_, ?_⟩
  ·simp only [j6, j7, fw, j8, and_true, true_and]
   repeat' (first | exact trivial | refine And.intro ?_ ?_ | rw [fw] | rw [j9] | exact Or.inl (by decide +kernel) | exact Or.inl (by dsimp only; decide +kernel) | (refine Or.inr ⟨?_, ?_⟩ <;> simp; done) | (refine Or.inr ⟨?_, ?_⟩ <;> simp <;> omega) | (refine Or.inr ⟨?_, ?_⟩ <;> simp [VEff.wr] <;> omega) | (refine Or.inr ⟨?_, ?_⟩ <;> simp [rdV, rdO, topName, Op.operands, jA, oc, jB, jj, VEff.wr] <;> omega))
  have w9 := fun H => sS (β := bt) r4.2 (Gbe.mk ai 1) (i64.wrap (r4.1 + r8)) H
  try simp only [cg] at w9
  try simp only [vz, mq, mqm, vsi, tyf, mqt, bh, d3, e1, e2, e3, e4, bJ, bC, w9, nm, seval]
  refine c9 (x := (.lit (.int .i64 (i64.wrap (r4.1 + r8))))) (by first | (simp only [Tryz.results118, resV, resL, resV1, cI, cJ, uw, cr, tyf, mqt, bh, d3, w9, nm, seval] <;> rfl) | rfl) ?_
  obtain rfl := kF _ h
  refine ⟨(by first | rfl | assumption | (simp only [aF, ba, bh, nm, seval] <;> rfl)), ?_⟩
  exact sq_of (kH (by simp only [tre, tytre, mqr, Bool.and_self]) rfl)
 simp only [d3, hs] at h
 try simp only [vz, mq, mqm, vsi, tyf, mqt, bh, w2, d3, nm, seval]
 refine c9 (x := (.lit (.int .i64 (mapGet cM 0 l0 (Gbe.mk ai ah))))) (by first | (simp only [Tryz.results118, resV, resL, resV1, cI, cJ, uw, cr, tyf, mqt, bh, w2, d3, nm, seval] <;> rfl) | rfl) ?_
 obtain rfl := kF _ h
 refine ⟨(by first | rfl | assumption | (simp only [aF, ba, bh, nm, seval] <;> rfl)), ?_⟩
 exact sq_of (kH (by simp only [tre, tytre, mqr, Bool.and_self]) rfl)
def gEnd : Nat → GBk → (List Int) → Int → Int → (List (Gbe × Int)) → Option ((Int) × List (Gbe × Int))
 | 0 => fun _ _ _ _ _ => none
 | n + 1 => si (gEnd n)
theorem sZ : ∀ (n : Nat) (aa : GBk) (ag : List Int) (ai : Int) (ah : Int) (l0 : List (Gbe × Int)) (R : (Int) × List (Gbe × Int)), gEnd n aa ag ai ah l0 = some R → VUpd Tryz.prog G0 118 (fun β => [.agg [.lit (.int .i64 aa.Apprentices), .sl (ae eI aa.Boards) (List.length aa.Boards) false, .sl (ae cGBs aa.Strokes) (List.length aa.Strokes) false, .sl (ae eI ag) (List.length ag) false, .mp β], .lit (.int .i64 ai), .lit (.int .i64 ah)]) (encM aP bR l0) (encM aP bR R.2) (fun _ => .lit (.int .i64 R.1))
 | 0, _, _, _, _, _, _, h => by cases h
 | n + 1, aa, ag, ai, ah, l0, R, h => Pp (gEnd n) (sZ n) aa ag ai ah l0 R h
def yB (aa : GBk) (ag : List Int) (ai : Int) (ah : Int) (l0 : List (Gbe × Int)) : Option ((Int) × List (Gbe × Int)) := gEnd 8 aa ag ai ah l0
theorem Pq (aa : GBk) (ag : List Int) (ai : Int) (ah : Int) (l0 : List (Gbe × Int)) (R : (Int) × List (Gbe × Int)) (h : yB aa ag ai ah l0 = some R) : VUpd Tryz.prog G0 118 (fun β => [.agg [.lit (.int .i64 aa.Apprentices), .sl (ae eI aa.Boards) (List.length aa.Boards) false, .sl (ae cGBs aa.Strokes) (List.length aa.Strokes) false, .sl (ae eI ag) (List.length ag) false, .mp β], .lit (.int .i64 ai), .lit (.int .i64 ah)]) (encM aP bR l0) (encM aP bR R.2) (fun _ => .lit (.int .i64 R.1)) := sZ 8 aa ag ai ah l0 R h
def nO (aa : GBk) (ag : List Int) : List GBs → Int → Int → (List (Gbe × Int)) → Option (LOut ((Int) × List (Gbe × Int)) (Int × (List (Gbe × Int))))
 | [], og, ct, bV => some (.go (ct, bV))
 | e0 :: p0, og, ct, bV => Option.bind (yB aa ag og 1 bV) (fun r3 => Option.bind (nM ([ct, r3.1])) (fun r4 => nO aa ag p0 (og + 1) r4 r3.2))
def mm (aa : GBk) (ag : List Int) (l0 : List (Gbe × Int)) : Option ((Int) × List (Gbe × Int)) := cond (aK aa.Strokes) (lbind (nO aa ag aa.Strokes 0 0 l0) (fun r6 => some r6) (fun c5 => some (c5.1, c5.2)) (fun _ _ => none)) none
theorem so (aa : GBk) (ag : List Int) (l0 : List (Gbe × Int)) (R : (Int) × List (Gbe × Int)) (h : mm aa ag l0 = some R) : VUpd Tryz.prog G0 87 (fun β => [.agg [.lit (.int .i64 aa.Apprentices), .sl (ae eI aa.Boards) (List.length aa.Boards) false, .sl (ae cGBs aa.Strokes) (List.length aa.Strokes) false, .sl (ae eI ag) (List.length ag) false, .mp β]]) (encM aP bR l0) (encM aP bR R.2) (fun _ => .lit (.int .i64 R.1)) := by
 intro bt nx hlt
 have bh := fb (β := bt) (nx := nx) hlt
 refine aq.run mixed Tryz.call87 Tryz.func87 rfl (by simp [Tryz.ntmps87]; kernel_rfl) ?_
 obtain ⟨KF, h, kF, kN⟩ := cT h
 simp only [mm] at h
 cases g8 : (aK aa.Strokes)
 ·simp only [g8, hs] at h
  exact absurd h kN
 simp only [g8, hs] at h
 simp only [vz, mq, mqm, vsi, tyf, mqt, bh, g8, nm, seval]
 obtain ⟨K7, h, SE, Ps, SF, KJ⟩ := fS h kN
 obtain ⟨f7, Pt, h⟩ := call4 h
 obtain ⟨I7, AP⟩ : ∃ I : Nat → St → Prop, I = (fun m st => ∃ (p7 : List GBs) (fH : Int) (iq : Int) (jO : List (Gbe × Int)), m = List.length p7 ∧ 0 ≤ fH ∧ List.drop (Int.toNat fH) aa.Strokes = p7 ∧ st.df = [] ∧ nx + 8 ≤ st.nx ∧ st.H bt = some (.map (encM aP bR jO)) ∧ st.H nx = some (.cells (some 92) ((cGBk aa) ++ [.sl (ae eI ag) (List.length ag) false] ++ [.mp bt])) ∧ st.tm 1 = .ptr nx 0 ∧ st.tm 8 = .lit (.int .i64 (List.length aa.Strokes : Int)) ∧ st.tm 3 = .lit (.int .i64 iq) ∧ st.tm 9 = .lit (.int .i64 fH) ∧ K7 (f7 p7 fH iq jO)) := ⟨_, rfl⟩
 refine loopK mixed (by kernel_rfl) I7 (List.length aa.Strokes) (by rw [AP]; refine ⟨aa.Strokes, 0, 0, l0, rfl, Int.le_refl _, rfl, rfl, (show nx + 8 ≤ nx + 8 by omega), ?_, ?_, ?_, ?_, ?_, ?_, h⟩ <;> first | (simp only [ua, cg, bh, nm, seval] <;> rfl) | rfl) ?_
 rintro m ⟨tm, H, AQ, df⟩ hinv
 rw [AP] at hinv
 obtain ⟨p7, fH, iq, jO, rfl, ql, ta, hdf, Pu, H9, fy, bM, bB, bw, bX, h⟩ := hinv
 simp only at hdf Pu H9 fy bM bB bw bX
 have eU := jk (a := nx) (m := 8) (b := AQ) (by omega)
 have eW := fb (β := bt) (nx := AQ) (by omega)
 subst hdf Pt
 cases p7 with
 | nil =>
  have lC : (decide (fH < (List.length aa.Strokes : Int))) = false := fB ql ta
  simp only [nO, hs, reduceCtorEq] at h
  replace h := Ps _ h
  try dsimp only at h
  try simp only [hs] at h
  try simp only [vz, mq, mqm, vsi, tyf, mqt, bh, g8, eU, eW, bM, bB, bw, bX, H9, fy, lC, nm, seval]
  refine c9 (x := (.lit (.int .i64 iq))) (by first | (simp only [Tryz.results87, resV, resL, resV1, cI, cJ, uw, cr, tyf, mqt, bh, g8, eU, eW, H9, fy, lC, nm, seval] <;> rfl) | rfl) ?_
  obtain rfl := kF _ h
  refine ⟨(by first | rfl | assumption | (simp only [aF, ba, bh, eU, eW, H9, fy, nm, seval] <;> rfl)), ?_⟩
  exact sq_of (kH (by first | (simp only [tre, tytre, mqr, Bool.and_self]; done) | rfl) rfl)
 | cons e7 p7 =>
  have iR : (decide (fH < (List.length aa.Strokes : Int))) = true := fC ql ta
  have kL := ei ql ta
  have AR := fu ql ta g8
  simp only [nO, hs, reduceCtorEq] at h
  obtain ⟨jN, mH, h⟩ := optI h KJ
  try simp only [hs] at h
  simp only [vz, mq, mqm, vsi, tyf, mqt, bh, g8, eU, eW, bM, bB, bw, bX, H9, fy, iR, (aZ kL), AR, nm, seval]
  refine kupd (VUpd.at (β := bt) (y := (fun _ => .lit (.int .i64 jN.1))) (Pq _ _ _ _ _ _ mH) (by omega) (by first | rfl | assumption | (simp only [aF, ba, bh, eU, eW, H9, fy, nm, seval] <;> rfl)) (by first | rfl | (simp only [nrm, aW, @eu, @gZ] <;> rfl)) (gH (fun _ => rfl) _)) ?_
  refine h9 (fun tm => tm 1 = .ptr nx 0 ∧ tm 8 = .lit (.int .i64 (List.length aa.Strokes : Int)) ∧ tm 9 = .lit (.int .i64 fH) ∧ tm 12 = .lit (.int .i64 iq) ∧ tm 15 = .lit (.int .i64 jN.1) ∧ True) (by refine ⟨bM, bB, bX, ?_, ?_, trivial⟩ <;> first | (simp only [ua, cg, bh, eU, eW, bM, bB, bw, bX, H9, fy, iR, AR, nm, seval] <;> rfl) | rfl) ?_
  rintro tm ⟨eE, hZ, iL, g0, bJ, _⟩
  have oh := And.intro bh (And.intro g8 (And.intro eU (And.intro eW (And.intro H9 (And.intro fy (And.intro iR AR))))))
  obtain ⟨KK, Pv, h⟩ := optI h KJ
  try simp only [hs] at h
  simp only [vz, mq, mqm, vsi, tyf, mqt, oh, (aZ kL), eE, hZ, iL, g0, bJ, nm, seval]
  refine kseen (args0 := [.sl (ae eI ([iq, jN.1])) (List.length ([iq, jN.1])) false]) (by simp only [List.map_cons, List.map_nil, gF, aF, ba, cr, tyf, mqt, nrm, aW, oh, (aZ kL), eE, hZ, iL, g0, bJ, nm, seval] <;> rfl) (by simp only [List.map_cons, List.map_nil, gF, aF, ba, cr, tyf, mqt, nrm, aW, oh, (aZ kL), eE, hZ, iL, g0, bJ, nm, seval]; simp only [tre, tytre, mqr, Bool.and_self]) (AJ _ _ Pv) (by first | rfl | simp only [VV.flat, flatL, Bool.and_self]) ?_
  refine bY (fun tm => tm 1 = .ptr nx 0 ∧ tm 8 = .lit (.int .i64 (List.length aa.Strokes : Int)) ∧ tm 9 = .lit (.int .i64 fH) ∧ tm 17 = .lit (.int .i64 KK) ∧ True) (by refine ⟨eE, hZ, iL, ?_, trivial⟩ <;> first | (simp only [ua, cg, oh, eE, hZ, iL, g0, bJ, nm, seval] <;> rfl) | rfl) ?_
  rintro tm ⟨cz, du, bC, cv, _⟩
  simp only [vz, mq, mqm, vsi, tyf, mqt, oh, (aZ kL), cz, du, bC, cv, nm, seval]
  exact ⟨List.length p7, Nat.lt_succ_self _, by rw [AP]; refine ⟨p7, fH + 1, KK, jN.2, rfl, Int.le_trans ql (Int.le_add_one (Int.le_refl _)), cn ql ta, rfl, (show nx + 8 ≤ AQ + 12 by omega), ?_, ?_, cz, du, ?_, ?_, (by first | exact h | (simp only [oh]; exact h))⟩ <;> first | (simp only [ua, cg, oh, cz, du, bC, cv, nm, seval] <;> rfl) | rfl⟩
end Go.V
end
