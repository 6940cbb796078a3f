/- Part of a proof. -/
import Derived.Test.YtmhlghgbfmcdaaaGreatDoorN1bk
set_option linter.all false
set_option maxRecDepth 4000
set_option maxHeartbeats 40000000
section
namespace Go.V
open Go Go.Proofs IntKind
theorem pr {c : VV} {cs : List VV} : aG Tryz.prog 129 (c :: cs) = some c := by
  have h1 : aggT Tryz.prog 129 = some false := by kernel_rfl
  simp [aG, vpart, h1]
theorem al.atR {P : Program} {G : Glob} {x : Option (Option Nat)} {f : FuncId} {args : List VV} {H : Nat → Option VObj} {nx : Nat} {R Rp : VV → (Nat → Option VObj) → Nat → Prop} (h : al P G f args H nx R Rp) : al P (G.at x) f args H nx R Rp := h
def plM (b : GBk) (p : List Int) (δ : Nat) : VV := .agg [.lit (.int .i64 b.Apprentices), .sl (aa eI b.Boards) (List.length b.Boards) false, .sl (aa cGBs b.Strokes) (List.length b.Strokes) false, .sl (aa eI p) (List.length p) false, .mp δ]
theorem gf {b : GBk} {p : List Int} {δ : Nat} : plM b p δ = .agg [.lit (.int .i64 b.Apprentices), .sl (aa eI b.Boards) (List.length b.Boards) false, .sl (aa cGBs b.Strokes) (List.length b.Strokes) false, .sl (aa eI p) (List.length p) false, .mp δ] := rfl
theorem Ks {b : GBk} {p q : List Int} {δ δ' nx : Nat} {H : Nat → Option VObj} {la lb : List (GBe × Int)} {Ra Rb : Int × List (GBe × Int)} (ha : kU b p la = some Ra) (hb : kU b q lb = some Rb) (h1 : δ < nx) (h2 : δ' < nx) (hne : δ ≠ δ')
    (Hδ : H δ = some (.map (encM aL bu la))) (Hδ' : H δ' = some (.map (encM aL bu lb))) :
    al Tryz.prog G0 114 [plM b p δ, plM b q δ'] H nx (fun x H' nx' => x = .lit (.bool (decide (Ra.1 < Rb.1))) ∧ nx ≤ nx' ∧ H' δ = some (.map (encM aL bu Ra.2)) ∧ H' δ' = some (.map (encM aL bu Rb.2)) ∧ ∀ γ, γ < nx → γ ≠ δ → γ ≠ δ' → H' γ = H γ) (fun _ _ _ => False) := by
  have q1 := fP h1
  have q2 := fP h2
  have q3 := ne_f hne
  have q4 := ne_f (Ne.symm hne)
  refine al.run mixed Tryz.call114 Tryz.func114 rfl (by simp [Tryz.ntmps114]; kernel_rfl) ?_
  simp only [gf, vz, mq, mqm, vsi, tyf, mqt, q1, q2, q3, q4, Hδ, Hδ', nm, seval, ua]
  refine kM (fun tm => tm 2 = .ptr nx 0 ∧ tm 3 = .ptr (nx + 1) 0) (by refine ⟨?_, ?_⟩ <;> first | (simp only [ua, Nat.add_zero, nm, seval]; done) | rfl) ?_
  rintro tm ⟨e2, e3⟩
  simp only [vz, mq, mqm, vsi, tyf, mqt, q1, q2, q3, q4, Hδ, Hδ', e2, e3, nm, seval, ua]
  refine dkupd (VUpd.at (β := δ) (y := (fun _ => .lit (.int .i64 Ra.1))) (pv _ _ _ _ ha) (by omega) (by first | rfl | assumption | (simp only [aP, b9, q1, q2, q3, q4, Hδ, Hδ', nm, seval] <;> rfl)) (by first | rfl | (simp only [nrm, tynrm, @cF, @eC] <;> rfl)) (dY (fun _ => rfl) _)) ?_
  refine ez (fun tm => tm 2 = .ptr nx 0 ∧ tm 3 = .ptr (nx + 1) 0 ∧ tm 6 = .lit (.int .i64 Ra.1)) (by refine ⟨?_, ?_, ?_⟩ <;> first | (simp only [ua, bt, q1, q2, q3, q4, e2, e3, nm, seval] <;> rfl) | rfl) ?_
  clear e2 e3 tm
  rintro tm ⟨e2, e3, e6⟩
  simp only [vz, mq, mqm, vsi, tyf, mqt, q1, q2, q3, q4, Hδ, Hδ', e2, e3, e6, nm, seval, ua]
  refine dkupd (VUpd.at (β := δ') (y := (fun _ => .lit (.int .i64 Rb.1))) (pv _ _ _ _ hb) (by omega) (by first | rfl | assumption | (simp only [aP, b9, q1, q2, q3, q4, Hδ, Hδ', nm, seval] <;> rfl)) (by first | rfl | (simp only [nrm, tynrm, @cF, @eC] <;> rfl)) (dY (fun _ => rfl) _)) ?_
  refine ez (fun tm => tm 2 = .ptr nx 0 ∧ tm 3 = .ptr (nx + 1) 0 ∧ tm 6 = .lit (.int .i64 Ra.1) ∧ tm 8 = .lit (.int .i64 Rb.1)) (by refine ⟨?_, ?_, ?_, ?_⟩ <;> first | (simp only [ua, bt, q1, q2, q3, q4, e2, e3, e6, nm, seval] <;> rfl) | rfl) ?_
  clear e2 e3 e6 tm
  rintro tm ⟨e2, e3, e6, e8⟩
  simp only [vz, mq, mqm, vsi, tyf, mqt, q1, q2, q3, q4, Hδ, Hδ', e2, e3, e6, e8, nm, seval, ua]
  refine ia ⟨?_, ?_⟩
  · simp only [ib, ic, dv, ig, and_true, true_and]
    repeat' (first | exact trivial | refine And.intro ?_ ?_ | rw [dv] | rw [ij] | exact Or.inl (by decide +kernel) | exact Or.inl (by dsimp only; decide +kernel) | (refine Or.inr ⟨?_, ?_⟩ <;> simp; done) | (refine Or.inr ⟨?_, ?_⟩ <;> simp <;> omega) | (refine Or.inr ⟨?_, ?_⟩ <;> simp [VEff.wr] <;> omega))
  simp only [vz, mq, mqm, vsi, tyf, mqt, q1, q2, q3, q4, Hδ, Hδ', e2, e3, e6, e8, nm, seval, ua]
  refine bG (x := .lit (.bool (decide (Ra.1 < Rb.1)))) (by first | (simp only [Tryz.results114, resV, resL, resV1, bN, bO, uw, cr, tyf, nm, seval] <;> rfl) | rfl) ?_
  refine ⟨rfl, (show nx ≤ nx + 9 by omega), ?_, ?_, ?_⟩
  · rw [aP, if_neg hne, aP, if_pos rfl]
  · rw [aP, if_pos rfl]
  · intro γ h3 h4 h5
    rw [aP, if_neg h5, aP, if_neg h4, aP, if_neg (by omega), aP, if_neg (by omega)]
def bestP (tk : List Int → Int) : List (List Int) → Option (List Int) → Option (List Int)
  | [], a => a
  | x :: L, none => bestP tk L (some x)
  | x :: L, some r => bestP tk L (if tk x < tk r then some x else some r)
def TakesOk (b : GBk) (L : List (List Int)) (tk : List Int → Int) : Prop := ∀ p ∈ L, ∀ l, InvE b p l → ∃ l', kU b p l = some (tk p, l') ∧ InvE b p l'
def cPl (b : GBk) (p : List Int) (δ : Nat) : List VV := [.lit (.int .i64 b.Apprentices), .sl (aa eI b.Boards) (List.length b.Boards) false, .sl (aa cGBs b.Strokes) (List.length b.Strokes) false, .sl (aa eI p) (List.length p) false, .mp δ]
theorem kV {b : GBk} {p : List Int} {δ : Nat} : cPl b p δ = [.lit (.int .i64 b.Apprentices), .sl (aa eI b.Boards) (List.length b.Boards) false, .sl (aa cGBs b.Strokes) (List.length b.Strokes) false, .sl (aa eI p) (List.length p) false, .mp δ] := rfl
theorem Kt {b : GBk} {itv : VV} {L : List (List Int)} {tk : List Int → Int} {R : List Int} (hit : IterM Tryz.prog G0 itv (L.map (plV b))) (hT : TakesOk b L tk) (hR : bestP tk L none = some R) (H0 : Nat → Option VObj) (nx : Nat) :
    al Tryz.prog G0 113 [itv, .fn (.func 114) [] []] H0 nx (fun x H' nx' => nx ≤ nx' ∧ (∀ γ, γ < nx → H' γ = H0 γ) ∧ ∃ δ l, x = .tup [plM b R δ, .lit (.bool true)] ∧ nx ≤ δ ∧ δ < nx' ∧ H' δ = some (.map (encM aL bu l)) ∧ InvE b R l) (fun _ _ _ => False) := by
  refine al.run mixed Tryz.call113 Tryz.func113 rfl (by simp [Tryz.ntmps113]; kernel_rfl) ?_
  simp only [vz, mq, mqm, vsi, tyf, mqt, seval, ua, rg, nm]
  refine rF (fun tm => tm 9 = itv ∧ tm 3 = .ptr nx 0 ∧ tm 4 = .ptr (nx + 1) 0 ∧ tm 6 = .ptr (nx + 3) 0 ∧ tm 7 = .ptr (nx + 4) 0) (by refine ⟨?_, ?_, ?_, ?_, ?_⟩ <;> first | (simp only [ua, Nat.add_zero, nm, seval]; done) | rfl) ?_
  rintro tm ⟨e9, e3, e4, e6, e7⟩
  refine Fh hit (by first | (simp only [lS, lT, e9, jI, seval] <;> rfl) | rfl) ?_
  intro LO hLO
  obtain ⟨J, hJ⟩ : ∃ J : Option (List VV) → List (Nat × VObj) → Prop, J = (fun o hp => match o with
    | some l => ∃ (p : List (List Int)) (a : Option (List Int)), l = p.map (plV b) ∧ (∀ q ∈ p, q ∈ L) ∧ bestP tk p a = some R ∧
        ((a = none ∧ hp = [(nx + 7, .deferred (some [])), (nx + 8, LO), (nx, .cells (some 129) [.fn (.func 114) [] []]), (nx + 1, .cells (some 92) [.lit (.int .i64 0), .lit (.slice none 0 0), .lit (.slice none 0 0), .lit (.slice none 0 0), .lit (.map none)]), (nx + 3, .cells (some 92) [.lit (.int .i64 0), .lit (.slice none 0 0), .lit (.slice none 0 0), .lit (.slice none 0 0), .lit (.map none)]), (nx + 4, .cells (some 4) [.lit (.bool false)])]) ∨
         ∃ r δ lr, a = some r ∧ r ∈ L ∧ (nx ≤ δ ∧ δ ≠ nx ∧ δ ≠ nx + 1 ∧ δ ≠ nx + 3 ∧ δ ≠ nx + 4 ∧ δ ≠ nx + 7 ∧ δ ≠ nx + 8) ∧ InvE b r lr ∧ hp = [(nx + 7, .deferred (some [])), (nx + 8, LO), (nx, .cells (some 129) [.fn (.func 114) [] []]), (nx + 1, .cells (some 92) [.lit (.int .i64 0), .lit (.slice none 0 0), .lit (.slice none 0 0), .lit (.slice none 0 0), .lit (.map none)]), (nx + 3, .cells (some 92) (cPl b r δ)), (nx + 4, .cells (some 4) [.lit (.bool true)]), (δ, .map (encM aL bu lr))])
    | none => False) := ⟨_, rfl⟩
  obtain ⟨I, hI⟩ : ∃ I : Inv, I = (fun o Fr H n => (nx + 9 ≤ n ∧ ∀ γ, γ < nx → ¬ Fr γ ∧ H γ = H0 γ) ∧ ownI J o Fr H n) := ⟨_, rfl⟩
  have hst : Stable I := by
    rw [hI]
    rintro o Fr jh H H1 n n1 ⟨⟨h0, h1⟩, h2⟩ h3 h4 h5
    refine ⟨⟨by omega, fun γ hγ => ?_⟩, DV _ _ _ _ _ _ _ h2 h3 h4 h5⟩
    obtain ⟨k1, k2⟩ := h1 γ hγ
    refine ⟨fun hf => ?_, (h3 γ (by omega) k1).trans k2⟩
    rcases h5 γ hf with hf | hf
    · exact k1 hf
    · omega
  refine ⟨I, hst, ?_, ?_, ?_⟩
  · rintro v rest Fr H n δe hFr hδe hnδ hHδ hi
    rw [hI] at hi
    obtain ⟨⟨jt, hfr⟩, hp, hown, hj⟩ := hi
    rw [hJ] at hj
    obtain ⟨p, a, hl, hpL, hbp, hcase⟩ := hj
    cases p with
    | nil => cases hl
    | cons e p =>
    simp only [List.map_cons, List.cons.injEq, plV, VV.agg.injEq] at hl
    obtain ⟨rfl, rfl⟩ := hl
    have heL := hpL e (List.mem_cons_self ..)
    have hpL' : ∀ q ∈ p, q ∈ L := fun q hq => hpL q (List.mem_cons_of_mem _ hq)
    rcases hcase with ⟨rfl, rfl⟩ | ⟨r, δ, lr, rfl, hrL, hδ9, hinv, rfl⟩
    · obtain ⟨l7, n7, H7⟩ := hown.head
      obtain ⟨l8, n8, H8⟩ := hown.tail.head
      obtain ⟨l0, n0, H0'⟩ := hown.tail.tail.head
      obtain ⟨l1, n1, H1⟩ := hown.tail.tail.tail.head
      obtain ⟨l3, n3, H3⟩ := hown.tail.tail.tail.tail.head
      obtain ⟨l4, n4, H4⟩ := hown.tail.tail.tail.tail.tail.head
      simp only [not_or] at n7 n8 n0 n1 n3 n4
      refine qT mixed (psl := [10]) hLO H8 qQ rfl (by kernel_rfl) (by kernel_rfl) ?_
      intro LB LD hLB hLD
      refine qR (fun tm => tm 10 = plM b e δe ∧ tm 3 = .ptr nx 0 ∧ tm 4 = .ptr (nx + 1) 0 ∧ tm 6 = .ptr (nx + 3) 0 ∧ tm 7 = .ptr (nx + 4) 0) (by refine ⟨?_, ?_, ?_, ?_, ?_⟩ <;> first | (simp only [qO, qP, Tryz.ntmps113, e3, e4, e6, e7, seval]; done) | rfl) ?_
      clear e9 e3 e4 e6 e7
      rintro tm ⟨aY, e3, e4, e6, e7⟩
      have nb := iK (a := nx) (m := 9) (b := n) jt
      simp only [gf] at aY
      simp only [vz, mq, mqm, vsi, tyf, mqt, seval, ua, nm, rg, RStart, aY, e3, e4, e6, e7, H8, H0', H1, H3, H4, nb, Bool.not_false]
      simp only [bestP] at hbp
      have hδn : nx ≤ δe := Nat.le_of_not_lt fun hh => (hfr δe hh).1 (.inr rfl)
      have hδe9 : nx ≤ δe ∧ δe ≠ nx ∧ δe ≠ nx + 1 ∧ δe ≠ nx + 3 ∧ δe ≠ nx + 4 ∧ δe ≠ nx + 7 ∧ δe ≠ nx + 8 := ⟨hδn, Ne.symm n0.2, Ne.symm n1.2, Ne.symm n3.2, Ne.symm n4.2, Ne.symm n7.2, Ne.symm n8.2⟩
      refine ⟨by simp only [aP, nb, nm, seval], (show n ≤ n + 13 by omega), fun γ hγ => ?_, ?_⟩
      · have := hFr γ hγ
        have g8 : γ ≠ nx + 8 := fun e => n8.1 (e ▸ hγ)
        have g3 : γ ≠ nx + 3 := fun e => n3.1 (e ▸ hγ)
        have g4 : γ ≠ nx + 4 := fun e => n4.1 (e ▸ hγ)
        simp only [updH]
        repeat rw [if_neg (by first | assumption | omega)]
      · rw [hI]
        simp only [if_true]
        refine ⟨⟨(show nx + 9 ≤ n + 13 by omega), fun γ hγ => ⟨fun hf => (hfr γ hγ).1 (.inl hf), ?_⟩⟩, ?_⟩
        · rw [← (hfr γ hγ).2]
          simp only [updH]
          repeat rw [if_neg (by omega)]
        · refine ⟨[(nx + 7, .deferred (some [])), (nx + 8, LO), (nx, .cells (some 129) [.fn (.func 114) [] []]), (nx + 1, .cells (some 92) [.lit (.int .i64 0), .lit (.slice none 0 0), .lit (.slice none 0 0), .lit (.slice none 0 0), .lit (.map none)]), (nx + 3, .cells (some 92) (cPl b e δe)), (nx + 4, .cells (some 4) [.lit (.bool true)]), (δe, .map (encM aL bu []))], Own.cons (show nx + 7 < n + 13 by omega) n7.1 ?_ (Own.cons (show nx + 8 < n + 13 by omega) n8.1 ?_ (Own.cons (show nx < n + 13 by omega) n0.1 ?_ (Own.cons (show nx + 1 < n + 13 by omega) n1.1 ?_ (Own.cons (show nx + 3 < n + 13 by omega) n3.1 ?_ (Own.cons (show nx + 4 < n + 13 by omega) n4.1 ?_ (Own.cons (show δe < n + 13 by omega) hnδ ?_ Own.nil)))))), ?_⟩
          rotate_right
          · rw [hJ]
            exact ⟨p, some e, rfl, hpL', hbp, .inr ⟨e, δe, [], rfl, heL, hδe9, InvE.nil, rfl⟩⟩
          · simp only [aP, nb, nm, seval, H7]
          · simp only [aP, nb, nm, seval]
          · simp only [aP, nb, nm, seval, H0']
          · simp only [aP, nb, nm, seval, H1]
          · simp only [aP, nb, nm, seval]; rfl
          · simp only [aP, nb, nm, seval]
          · simp only [updH]
            repeat rw [if_neg (by omega)]
            rw [hHδ, bt]
    · obtain ⟨l7, n7, H7⟩ := hown.head
      obtain ⟨l8, n8, H8⟩ := hown.tail.head
      obtain ⟨l0, n0, H0'⟩ := hown.tail.tail.head
      obtain ⟨l1, n1, H1⟩ := hown.tail.tail.tail.head
      obtain ⟨l3, n3, H3⟩ := hown.tail.tail.tail.tail.head
      obtain ⟨l4, n4, H4⟩ := hown.tail.tail.tail.tail.tail.head
      obtain ⟨ld, nd, Hd⟩ := hown.tail.tail.tail.tail.tail.tail.head
      simp only [not_or] at n7 n8 n0 n1 n3 n4 nd
      refine qT mixed (psl := [10]) hLO H8 qQ rfl (by kernel_rfl) (by kernel_rfl) ?_
      intro LB LD hLB hLD
      refine qR (fun tm => tm 10 = plM b e δe ∧ tm 3 = .ptr nx 0 ∧ tm 4 = .ptr (nx + 1) 0 ∧ tm 6 = .ptr (nx + 3) 0 ∧ tm 7 = .ptr (nx + 4) 0) (by refine ⟨?_, ?_, ?_, ?_, ?_⟩ <;> first | (simp only [qO, qP, Tryz.ntmps113, e3, e4, e6, e7, seval]; done) | rfl) ?_
      clear e9 e3 e4 e6 e7
      rintro tm ⟨aY, e3, e4, e6, e7⟩
      have nb := iK (a := nx) (m := 9) (b := n) jt
      simp only [gf] at aY
      rw [kV] at H3
      have hδn : nx ≤ δe := Nat.le_of_not_lt fun hh => (hfr δe hh).1 (.inr rfl)
      have hδe9 : nx ≤ δe ∧ δe ≠ nx ∧ δe ≠ nx + 1 ∧ δe ≠ nx + 3 ∧ δe ≠ nx + 4 ∧ δe ≠ nx + 7 ∧ δe ≠ nx + 8 := ⟨hδn, Ne.symm n0.2, Ne.symm n1.2, Ne.symm n3.2, Ne.symm n4.2, Ne.symm n7.2, Ne.symm n8.2⟩
      obtain ⟨le, ee, ie⟩ := hT e heL [] InvE.nil
      obtain ⟨lr', er, ir⟩ := hT r hrL lr hinv
      simp only [bestP] at hbp
      have hδδ : δe ≠ δ := Ne.symm nd.2
      simp only [vz, mq, mqm, vsi, tyf, mqt, seval, ua, nm, rg, RStart, aY, e3, e4, e6, e7, H8, H0', H1, H3, H4, nb, @pr, Bool.not_true]
      refine kopen ?_
      rw [jJ]
      generalize hHH : updH (updH (updH H (n + 0) (VObj.cells (some 92) [.lit (.int .i64 0), .lit (.slice none 0 0), .lit (.slice none 0 0), .lit (.slice none 0 0), .lit (.map none)])) (n + 0) (VObj.cells (some 92) [.lit (.int .i64 b.Apprentices), .sl (aa eI b.Boards) (List.length b.Boards) false, .sl (aa cGBs b.Strokes) (List.length b.Strokes) false, .sl (aa eI e) (List.length e) false, .mp δe])) (nx + 8) LB = HH
      have hδe' : HH δe = some (.map (encM aL bu [])) := by
        rw [← hHH]
        simp only [updH]
        repeat rw [if_neg (by omega)]
        rw [hHδ, bt]
      have hδ' : HH δ = some (.map (encM aL bu lr)) := by
        rw [← hHH]
        simp only [updH]
        repeat rw [if_neg (by omega)]
        exact Hd
      refine al.mono (al.atR (Ks (b := b) (p := e) (q := r) ee er (show δe < n + 10 by omega) (show δ < n + 10 by omega) hδδ hδe' hδ')) ?_ (fun _ _ _ h => h.elim)
      rintro v H2 n2 ⟨rfl, g1, g2, g3, g4⟩
      have K8 : H2 (nx + 8) = some LB := by
        rw [g4 _ (by omega) (by omega) (by omega), ← hHH]
        simp only [updH]
        simp
      have K7 : H2 (nx + 7) = some (.deferred (some [])) := by
        rw [g4 _ (by omega) (by omega) (by omega), ← hHH]
        simp only [updH]
        repeat rw [if_neg (by omega)]
        exact H7
      have K0 : H2 (nx) = some (.cells (some 129) [.fn (.func 114) [] []]) := by
        rw [g4 _ (by omega) (by omega) (by omega), ← hHH]
        simp only [updH]
        repeat rw [if_neg (by omega)]
        exact H0'
      have K1 : H2 (nx + 1) = some (.cells (some 92) [.lit (.int .i64 0), .lit (.slice none 0 0), .lit (.slice none 0 0), .lit (.slice none 0 0), .lit (.map none)]) := by
        rw [g4 _ (by omega) (by omega) (by omega), ← hHH]
        simp only [updH]
        repeat rw [if_neg (by omega)]
        exact H1
      have K3 : H2 (nx + 3) = some (.cells (some 92) (cPl b r δ)) := by
        rw [g4 _ (by omega) (by omega) (by omega), ← hHH]
        simp only [updH]
        repeat rw [if_neg (by omega)]
        exact H3
      have K4 : H2 (nx + 4) = some (.cells (some 4) [.lit (.bool true)]) := by
        rw [g4 _ (by omega) (by omega) (by omega), ← hHH]
        simp only [updH]
        repeat rw [if_neg (by omega)]
        exact H4
      have Kx : H2 (n + 0) = some (.cells (some 92) (cPl b e δe)) := by
        rw [g4 _ (by omega) (by omega) (by omega), ← hHH]
        simp only [updH]
        rw [if_neg (by omega), if_pos trivial]
        rfl
      have KF : ∀ γ, γ < n → ¬ γ = δe → ¬ γ = δ → ¬ γ = nx + 8 → H2 γ = H γ := by
        intro γ h1 h2 h3 h4
        rw [g4 γ (by omega) h2 h3, ← hHH]
        simp only [updH]
        repeat rw [if_neg (by omega)]
      rw [kV] at Kx K3
      by_cases hlt : tk e < tk r
      · rw [decide_eq_true hlt]
        rw [if_pos hlt] at hbp
        simp only [vz, mq, mqm, vsi, tyf, mqt, seval, ua, nm, rg, e3, e4, e6, e7, K8, K7, K0, K1, K3, K4, Kx, nb]
        refine ⟨by simp only [aP, K8, nm, seval], (show n ≤ n2 + 3 by omega), fun γ hγ => ?_, ?_⟩
        · have h1 := hFr γ hγ
          have g8 : γ ≠ nx + 8 := fun e => n8.1 (e ▸ hγ)
          have g3 : γ ≠ nx + 3 := fun e => n3.1 (e ▸ hγ)
          have g4' : γ ≠ nx + 4 := fun e => n4.1 (e ▸ hγ)
          have gd : γ ≠ δ := fun e => nd.1 (e ▸ hγ)
          have ge : γ ≠ δe := fun e => hnδ (e ▸ hγ)
          simp only [updH]
          repeat rw [if_neg (by first | assumption | omega)]
          exact KF γ h1 ge gd g8
        · rw [hI]
          simp only [if_true]
          refine ⟨⟨(show nx + 9 ≤ n2 + 3 by omega), fun γ hγ => ⟨fun hf => (hfr γ hγ).1 (.inl hf), ?_⟩⟩, ?_⟩
          · rw [← (hfr γ hγ).2]
            simp only [updH]
            repeat rw [if_neg (by omega)]
            exact KF γ (by omega) (by omega) (by omega) (by omega)
          · refine ⟨[(nx + 7, .deferred (some [])), (nx + 8, LO), (nx, .cells (some 129) [.fn (.func 114) [] []]), (nx + 1, .cells (some 92) [.lit (.int .i64 0), .lit (.slice none 0 0), .lit (.slice none 0 0), .lit (.slice none 0 0), .lit (.map none)]), (nx + 3, .cells (some 92) (cPl b e δe)), (nx + 4, .cells (some 4) [.lit (.bool true)]), (δe, .map (encM aL bu le))], Own.cons (show nx + 7 < n2 + 3 by omega) n7.1 ?_ (Own.cons (show nx + 8 < n2 + 3 by omega) n8.1 ?_ (Own.cons (show nx < n2 + 3 by omega) n0.1 ?_ (Own.cons (show nx + 1 < n2 + 3 by omega) n1.1 ?_ (Own.cons (show nx + 3 < n2 + 3 by omega) n3.1 ?_ (Own.cons (show nx + 4 < n2 + 3 by omega) n4.1 ?_ (Own.cons (show δe < n2 + 3 by omega) hnδ ?_ Own.nil)))))), ?_⟩
            rotate_right
            · rw [hJ]
              exact ⟨p, some e, rfl, hpL', hbp, .inr ⟨e, δe, le, rfl, heL, hδe9, ie, rfl⟩⟩
            · simp only [aP, nm, seval, K7]
            · simp only [aP, nm, seval]
            · simp only [aP, nm, seval, K0]
            · simp only [aP, nm, seval, K1]
            · simp only [aP, nm, seval, K3]; rfl
            · simp only [aP, nm, seval, K4]
            · simp only [updH]
              repeat rw [if_neg (by omega)]
              exact g2
      · rw [decide_eq_false hlt]
        rw [if_neg hlt] at hbp
        simp only [vz, mq, mqm, vsi, tyf, mqt, seval, ua, nm, rg, e3, e4, e6, e7, K8, K7, K0, K1, K3, K4, Kx, nb]
        refine ⟨by simp only [aP, K8, nm, seval], (show n ≤ n2 by omega), fun γ hγ => ?_, ?_⟩
        · have h1 := hFr γ hγ
          have g8 : γ ≠ nx + 8 := fun e => n8.1 (e ▸ hγ)
          have g3 : γ ≠ nx + 3 := fun e => n3.1 (e ▸ hγ)
          have g4' : γ ≠ nx + 4 := fun e => n4.1 (e ▸ hγ)
          have gd : γ ≠ δ := fun e => nd.1 (e ▸ hγ)
          have ge : γ ≠ δe := fun e => hnδ (e ▸ hγ)
          simp only [updH]
          repeat rw [if_neg (by first | assumption | omega)]
          exact KF γ h1 ge gd g8
        · rw [hI]
          simp only [if_true]
          refine ⟨⟨(show nx + 9 ≤ n2 by omega), fun γ hγ => ⟨fun hf => (hfr γ hγ).1 (.inl hf), ?_⟩⟩, ?_⟩
          · rw [← (hfr γ hγ).2]
            simp only [updH]
            repeat rw [if_neg (by omega)]
            exact KF γ (by omega) (by omega) (by omega) (by omega)
          · refine ⟨[(nx + 7, .deferred (some [])), (nx + 8, LO), (nx, .cells (some 129) [.fn (.func 114) [] []]), (nx + 1, .cells (some 92) [.lit (.int .i64 0), .lit (.slice none 0 0), .lit (.slice none 0 0), .lit (.slice none 0 0), .lit (.map none)]), (nx + 3, .cells (some 92) (cPl b r δ)), (nx + 4, .cells (some 4) [.lit (.bool true)]), (δ, .map (encM aL bu lr'))], Own.cons (show nx + 7 < n2 by omega) n7.1 ?_ (Own.cons (show nx + 8 < n2 by omega) n8.1 ?_ (Own.cons (show nx < n2 by omega) n0.1 ?_ (Own.cons (show nx + 1 < n2 by omega) n1.1 ?_ (Own.cons (show nx + 3 < n2 by omega) n3.1 ?_ (Own.cons (show nx + 4 < n2 by omega) n4.1 ?_ (Own.cons (show δ < n2 by omega) nd.1 ?_ Own.nil)))))), ?_⟩
            rotate_right
            · rw [hJ]
              exact ⟨p, some r, rfl, hpL', hbp, .inr ⟨r, δ, lr', rfl, hrL, hδ9, ir, rfl⟩⟩
            · simp only [aP, nm, seval, K7]
            · simp only [aP, nm, seval]
            · simp only [aP, nm, seval, K0]
            · simp only [aP, nm, seval, K1]
            · simp only [aP, nm, seval, K3]; rfl
            · simp only [aP, nm, seval, K4]
            · simp only [updH]
              repeat rw [if_neg (by omega)]
              exact g3
  · rw [hI]
    refine ⟨⟨Nat.le_refl _, fun γ hγ => ⟨fun h => h, ?_⟩⟩, ?_⟩
    · simp only [updH]
      repeat rw [if_neg (by omega)]
    · refine ⟨[(nx + 7, .deferred (some [])), (nx + 8, LO), (nx, .cells (some 129) [.fn (.func 114) [] []]), (nx + 1, .cells (some 92) [.lit (.int .i64 0), .lit (.slice none 0 0), .lit (.slice none 0 0), .lit (.slice none 0 0), .lit (.map none)]), (nx + 3, .cells (some 92) [.lit (.int .i64 0), .lit (.slice none 0 0), .lit (.slice none 0 0), .lit (.slice none 0 0), .lit (.map none)]), (nx + 4, .cells (some 4) [.lit (.bool false)])], Own.cons (show nx + 7 < nx + 9 by omega) (fun h => h) ?_ (Own.cons (show nx + 8 < nx + 9 by omega) (fun h => h) ?_ (Own.cons (show nx < nx + 9 by omega) (fun h => h) ?_ (Own.cons (show nx + 1 < nx + 9 by omega) (fun h => h) ?_ (Own.cons (show nx + 3 < nx + 9 by omega) (fun h => h) ?_ (Own.cons (show nx + 4 < nx + 9 by omega) (fun h => h) ?_ Own.nil))))), ?_⟩
      rotate_right
      · rw [hJ]
        exact ⟨L, none, rfl, fun q h => h, hR, .inl ⟨rfl, rfl⟩⟩
      · simp [updH]
      · simp [updH]
      · simp only [updH]
        rw [if_neg (by omega), if_neg (by omega), if_neg (by omega), if_neg (by omega), if_neg (by omega), if_neg (by omega), if_pos (by omega)]
      · simp [updH]
      · simp [updH]
      · simp [updH]
  · rintro H' nx' hh
    have hh : I (some []) noFr H' nx' := by
      rcases hh with h | h
      · exact h
      · rw [hI] at h
        obtain ⟨_, hp, _, hj⟩ := h
        rw [hJ] at hj
        exact hj.elim
    rw [hI] at hh
    obtain ⟨⟨jt, hfr⟩, hp, hown, hj⟩ := hh
    rw [hJ] at hj
    obtain ⟨p, a, hl, hpL, hbp, hcase⟩ := hj
    cases p with
    | cons e p => cases hl
    | nil =>
    simp only [bestP] at hbp
    rcases hcase with ⟨rfl, rfl⟩ | ⟨r, δ, lr, rfl, hrL, hδ9, hinv, rfl⟩
    · cases hbp
    simp only [Option.some.injEq] at hbp
    subst hbp
    obtain ⟨l7, n7, H7⟩ := hown.head
    obtain ⟨l8, n8, H8⟩ := hown.tail.head
    obtain ⟨l0, n0, H0'⟩ := hown.tail.tail.head
    obtain ⟨l1, n1, H1⟩ := hown.tail.tail.tail.head
    obtain ⟨l3, n3, H3⟩ := hown.tail.tail.tail.tail.head
    obtain ⟨l4, n4, H4⟩ := hown.tail.tail.tail.tail.tail.head
    obtain ⟨ld, nd, Hd⟩ := hown.tail.tail.tail.tail.tail.tail.head
    rw [kV] at H3
    refine sZ hLO H8 ?_
    intro LX
    have nb := iK (a := nx) (m := 9) (b := nx') jt
    simp only [vz, mq, mqm, vsi, tyf, mqt, seval, ua, nm, rg, e4, e6, e7, H1, H3, H4, nb]
    refine kM (fun tm => tm 4 = .ptr (nx + 1) 0 ∧ tm 6 = .ptr (nx + 3) 0 ∧ tm 7 = .ptr (nx + 4) 0) ⟨e4, e6, e7⟩ ?_
    clear e9 e3 e4 e6 e7
    rintro tm ⟨e4, e6, e7⟩
    simp only [vz, mq, mqm, vsi, tyf, mqt, seval, ua, nm, rg, e4, e6, e7, H1, H3, H4, nb]
    refine ia ⟨?_, ?_⟩
    · simp only [ib, ic, dv, ig, and_true, true_and]
      repeat' (first | exact trivial | refine And.intro ?_ ?_ | rw [dv] | rw [ij] | exact Or.inl (by decide +kernel) | exact Or.inl (by dsimp only; decide +kernel) | (refine Or.inr ⟨?_, ?_⟩ <;> simp; done) | (refine Or.inr ⟨?_, ?_⟩ <;> simp <;> omega) | (refine Or.inr ⟨?_, ?_⟩ <;> simp [VEff.wr] <;> omega))
    simp only [vz, mq, mqm, vsi, tyf, mqt, seval, ua, nm, rg, e4, e6, e7, H1, H3, H4, nb]
    refine te (by simp only [aP, nm, seval, H7]) ?_
    refine bG (x := .tup [plM b r δ, .lit (.bool true)]) (by first | (simp only [Tryz.results113, resV, resL, resV1, bN, bO, uw, cr, tyf, e4, gf, nm, seval] <;> rfl) | (simp only [Tryz.results113, resV, resL, resV1, bN, bO, uw, cr, tyf, e4, gf, nm, seval]; done)) ?_
    refine ⟨by omega, fun γ hγ => ?_, δ, lr, rfl, hδ9.1, (show δ < nx' + 4 by omega), ?_, hinv⟩
    · rw [← (hfr γ hγ).2]
      simp only [updH]
      repeat rw [if_neg (by omega)]
    · simp only [updH]
      repeat rw [if_neg (by omega)]
      exact Hd
theorem Fy {b : GBk} {itv : VV} {L : List (List Int)} {tk : List Int → Int} {R : List Int} (hit : IterM Tryz.prog G0 itv (L.map (plV b))) (hT : TakesOk b L tk) (hR : bestP tk L none = some R) (H0 : Nat → Option VObj) (nx : Nat) :
    al Tryz.prog G0 85 [itv] H0 nx (fun x H' nx' => nx ≤ nx' ∧ (∀ γ, γ < nx → H' γ = H0 γ) ∧ ∃ δ l, x = plM b R δ ∧ nx ≤ δ ∧ δ < nx' ∧ H' δ = some (.map (encM aL bu l)) ∧ InvE b R l) (fun _ _ _ => False) := by
  refine al.run mixed Tryz.call85 Tryz.func85 rfl (by simp [Tryz.ntmps85]; kernel_rfl) ?_
  simp only [vz, mq, mqm, vsi, tyf, mqt, seval, ua, rg, nm]
  refine kopen ?_
  rw [jJ]
  refine al.mono (Kt hit hT hR _ _) ?_ (fun _ _ _ h => h.elim)
  rintro v H2 n2 ⟨g1, g2, δ, l, rfl, g3, g4, g5, g6⟩
  have nb := iK (a := nx) (m := 8) (b := n2) (by omega)
  have K0 : H2 (nx + 0) = some (.cells (some 92) [.lit (.int .i64 0), .lit (.slice none 0 0), .lit (.slice none 0 0), .lit (.slice none 0 0), .lit (.map none)]) := by
    rw [g2 _ (by omega)]
    simp [updH]
  simp only [gf, vz, mq, mqm, vsi, tyf, mqt, seval, ua, rg, nm, nb, K0]
  refine bG (x := plM b R δ) (by first | (simp only [Tryz.results85, resV, resL, resV1, bN, bO, uw, cr, tyf, gf, nm, seval] <;> rfl) | (simp only [Tryz.results85, resV, resL, resV1, bN, bO, uw, cr, tyf, gf, nm, seval]; done)) ?_
  refine ⟨by omega, fun γ hγ => ?_, δ, l, rfl, by omega, by omega, ?_, g6⟩
  · simp only [updH]
    repeat rw [if_neg (by omega)]
    rw [g2 γ (by omega)]
    simp only [updH]
    repeat rw [if_neg (by omega)]
  · simp only [updH]
    repeat rw [if_neg (by omega)]
    exact g5











def itB (b : GBk) : VV := .fn (.func 115) [] [.tp (cGBk b)]
theorem zl (b : GBk) : ag Tryz.prog G0 86 [.agg (cGBk b)] (.tree (itB b)) := by
  refine ag.run mixed Tryz.call86 Tryz.func86 rfl (by simp [Tryz.ntmps86]; kernel_rfl) ?_
  simp only [vz, tyf, seval, ua]
  refine ⟨rfl, .fn (.func 115) [] [.ptr 0 0], by simp [Tryz.results86, resV, resL, resV1, upd], 20, ?_⟩
  have h : treeL (cGBk b) = true := rJ
  simp only [hZ] at h
  simp [treeL, VV.tree] at h
  simp [sealV, sealL, VV.tree, treeL, updH, h, itB, cGBk]
theorem takesOk {b : GBk} (hb : BH b) {L : List (List Int)} (h : plansO b = some L) : TakesOk b L (TK b) := by
  intro p hp l hl
  refine zm hb ?_ hl
  unfold plansO at h
  cases hs : (decide (0 < b.Strokes.length) && (decide (b.Strokes.length < 1000) && (decide (0 ≤ b.Apprentices) && decide (b.Apprentices < 1000)))) with
  | false => rw [hs] at h; cases h
  | true =>
  rw [hs, cond_true] at h
  have := tv _ _ _ h p hp
  simpa using this
theorem pw {tk : List Int → Int} {R : List Int} : ∀ {L : List (List Int)} {a : Option (List Int)}, bestP tk L a = some R → R ∈ L ∨ a = some R
  | [], a, h => .inr h
  | x :: L, none, h => by
    simp only [bestP] at h
    rcases pw h with h | h
    · exact .inl (List.mem_cons_of_mem _ h)
    · cases h; exact .inl (List.mem_cons_self ..)
  | x :: L, some r, h => by
    simp only [bestP] at h
    rcases pw h with h | h
    · exact .inl (List.mem_cons_of_mem _ h)
    · split at h
      · cases h; exact .inl (List.mem_cons_self ..)
      · exact .inr h
def hY (b : GBk) : Option (List Int × Int × Int) := Option.bind (i7 b) fun r => cond r (cond (benchB b) (Option.bind (plansO b) fun L => Option.bind (bestP (TK b) L none) fun R => some (R, TK b R, 0)) none) (some ([], 0, 2))
theorem nP (ai : GBk) (R : List Int × Int × Int) (h : hY ai = some R) : ag Tryz.prog G0 51 [.agg (cGBk ai)] (.tree (.tup [.sl (aa eI R.1) (List.length R.1) false, .lit (.int .i64 R.2.1), .lit (.int .i64 R.2.2)])) := by
  refine ag.runR mixed Tryz.call51 Tryz.func51 rfl (by simp [Tryz.ntmps51]; kernel_rfl) ?_
  unfold hY at h
  rcases o1 : i7 ai with _ | r1
  · rw [o1] at h; cases h
  rw [o1, Option.bind_some] at h
  simp only [vz, mq, mqm, vsi, tyf, mqt, nm, seval]
  refine ktree (args0 := [.agg (cGBk ai)]) (by first | (simp only [nrm, tynrm, @cF] <;> rfl) | rfl) (by simp only [tre, tytre, mqr, Bool.and_self]) (v8 _ _ o1) ?_
  refine aZ (fun tm => tm 1 = .ptr 0 0 ∧ tm 7 = .lit (.bool r1)) (by refine ⟨?_, ?_⟩ <;> first | (simp only [ua, bt, nm, seval] <;> rfl) | rfl) ?_
  rintro tm ⟨e1, e7⟩
  cases r1 with
  | false =>
    simp only [cond_false, Option.some.injEq] at h
    subst h
    simp only [vz, mq, mqm, vsi, tyf, mqt, e1, e7, nm, seval]
    refine bG (x := .tup [.lit (.slice none 0 0), .lit (.int .i64 0), .lit (.int .i64 2)]) (by first | (simp only [Tryz.results51, resV, resL, resV1, bN, bO, uw, cr, tyf, mqt, nm, seval] <;> rfl) | rfl) ?_
    refine dM ?_ ?_
    · simp only [tre, tytre, mqr, Bool.and_self]
    · first | (simp only [outV, uw, dE, cr, tyf, mqt, nrm, tynrm, nm, seval] <;> rfl) | rfl
  | true =>
    rw [cond_true] at h
    cases hB : benchB ai with
    | false => rw [hB] at h; cases h
    | true =>
    rw [hB, cond_true] at h
    rcases hL : plansO ai with _ | L
    · rw [hL] at h; cases h
    rw [hL, Option.bind_some] at h
    rcases hR : bestP (TK ai) L none with _ | P
    · rw [hR] at h; cases h
    rw [hR, Option.bind_some, Option.some.injEq] at h
    subst h
    have hBH := (kJ.1 hB).h
    simp only [vz, mq, mqm, vsi, tyf, mqt, e1, e7, nm, seval]
    refine ktree (args0 := [.agg (cGBk ai)]) (by first | (simp only [nrm, tynrm, @cF] <;> rfl) | rfl) (by simp only [tre, tytre, mqr, Bool.and_self]) (zl _) ?_
    refine aZ (fun tm => tm 1 = .ptr 0 0 ∧ tm 10 = itB ai) (by refine ⟨?_, ?_⟩ <;> first | (simp only [ua, bt, e1, nm, seval] <;> rfl) | rfl) ?_
    clear e1 e7 tm
    rintro tm ⟨e1, aY⟩
    simp only [vz, mq, mqm, vsi, tyf, mqt, e1, aY, nm, seval]
    refine kopen ?_
    rw [jJ]
    refine al.mono (Fy (zn hL) (takesOk hBH hL) hR _ _) ?_ (fun _ _ _ h => h.elim)
    rintro v H2 n2 ⟨g1, g2, δ, l, rfl, g3, g4, g5, g6⟩
    simp only [gf, vz, mq, mqm, vsi, tyf, mqt, e1, aY, nm, seval]
    have hBH' := takesOk hBH hL
    have hPL : P ∈ L := (pw hR).resolve_right (by simp)
    obtain ⟨l', et, it⟩ := hBH' P hPL l g6
    have qd := fP g4
    have q0 : (δ = 10) = False := by simp; omega
    have q1 : (10 = δ) = False := by simp; omega
    refine kM (fun tm => tm 5 = .ptr 10 0) (by first | (simp only [ua, nm, seval]; done) | rfl) ?_
    clear e1 aY tm
    rintro tm e5
    simp only [vz, mq, mqm, vsi, tyf, mqt, e5, q0, q1, qd, g5, nm, seval]
    refine dkupd (VUpd.at (β := δ) (y := (fun _ => .lit (.int .i64 (TK ai P)))) (pv _ _ _ _ et) (by omega) (by first | rfl | assumption | (simp only [aP, b9, q0, q1, g5, nm, seval] <;> rfl)) (by first | rfl | (simp only [nrm, tynrm, @cF, @eC] <;> rfl)) (dY (fun _ => rfl) _)) ?_
    refine ez (fun tm => tm 13 = .sl (aa eI P) (List.length P) false ∧ tm 15 = .lit (.int .i64 (TK ai P))) (by refine ⟨?_, ?_⟩ <;> first | (simp only [ua, bt, e5, nm, seval] <;> rfl) | rfl) ?_
    clear e5 tm
    rintro tm ⟨bg, cv⟩
    simp only [vz, mq, mqm, vsi, tyf, mqt, bg, cv, q0, q1, qd, g5, nm, seval]
    refine ia ⟨?_, ?_⟩
    · simp only [ib, ic, dv, ig, and_true, true_and]
      repeat' (first | exact trivial | refine And.intro ?_ ?_ | rw [dv] | rw [ij] | exact Or.inl (by decide +kernel) | exact Or.inl (by dsimp only; decide +kernel) | (refine Or.inr ⟨?_, ?_⟩ <;> simp; done) | (refine Or.inr ⟨?_, ?_⟩ <;> simp <;> omega) | (refine Or.inr ⟨?_, ?_⟩ <;> simp [VEff.wr] <;> omega))
    simp only [vz, mq, mqm, vsi, tyf, mqt, bg, cv, nm, seval]
    refine bG (x := .tup [.sl (aa eI P) (List.length P) false, .lit (.int .i64 (TK ai P)), .lit (.int .i64 0)]) (by first | (simp only [Tryz.results51, resV, resL, resV1, bN, bO, uw, cr, tyf, mqt, bg, cv, nm, seval] <;> rfl) | rfl) ?_
    refine dM ?_ ?_
    · simp only [tre, tytre, mqr, Bool.and_self]
    · first | (simp only [outV, uw, dE, cr, tyf, mqt, nrm, tynrm, nm, seval] <;> rfl) | rfl
def rK (ai : GBk) (aM : Int) : Option (GBk) := some (GBk.mk aM ai.Boards ai.Strokes)
theorem Fz (ai : GBk) (aM : Int) (R : GBk) (h : rK ai aM = some R) : ag Tryz.prog G0 94 [.agg (cGBk ai), .lit (.int .i64 aM)] (.tree (.agg (cGBk R))) := by
 refine ag.runR mixed Tryz.call94 Tryz.func94 rfl (by simp [Tryz.ntmps94]; kernel_rfl) ?_
 obtain ⟨KF, h, kF, kN⟩ := cu h
 simp only [rK] at h
 try simp only [vz, tyf, nm, seval]
 refine bG (x := (.agg ([.lit (.int .i64 aM)] ++ [.sl (aa eI ai.Boards) (List.length ai.Boards) false] ++ [.sl (aa cGBs ai.Strokes) (List.length ai.Strokes) false]))) (by first | (simp only [Tryz.results94, resV, resL, resV1, bN, bO, uw, cr, tyf, nm, seval] <;> rfl) | rfl) ?_
 obtain rfl := kF _ h
 refine dM ?_ ?_
 ·simp only [tre, tytre, Bool.and_self]
 ·first | (simp only [outV, uw, dE, cr, tyf, nrm, tynrm, nm, seval] <;> rfl) | rfl
theorem BH.with {b : GBk} (h : BH b) (n : Int) : BH ⟨n, b.Boards, b.Strokes⟩ := ⟨h.ns, h.s⟩
def iB (b : GBk) : Option (Int × Int) := Option.bind (i7 b) fun r => cond r (cond (benchB b) (cond (b.Apprentices == 3) (some (0, 3)) (Option.bind (plansO ⟨i64.wrap (b.Apprentices + 1), b.Boards, b.Strokes⟩) fun L => Option.bind (bestP (TK ⟨i64.wrap (b.Apprentices + 1), b.Boards, b.Strokes⟩) L none) fun R => some (TK ⟨i64.wrap (b.Apprentices + 1), b.Boards, b.Strokes⟩ R, 0))) none) (some (0, 2))
theorem rv (ai : GBk) (R : Int × Int) (h : iB ai = some R) : ag Tryz.prog G0 60 [.agg (cGBk ai)] (.tree (.tup [.lit (.int .i64 R.1), .lit (.int .i64 R.2)])) := by
  refine ag.runR mixed Tryz.call60 Tryz.func60 rfl (by simp [Tryz.ntmps60]; kernel_rfl) ?_
  unfold iB at h
  rcases o1 : i7 ai with _ | r1
  · rw [o1] at h; cases h
  rw [o1, Option.bind_some] at h
  simp only [vz, mq, mqm, vsi, tyf, mqt, nm, seval]
  refine ktree (args0 := [.agg (cGBk ai)]) (by first | (simp only [nrm, tynrm, @cF] <;> rfl) | rfl) (by simp only [tre, tytre, mqr, Bool.and_self]) (v8 _ _ o1) ?_
  refine aZ (fun tm => tm 1 = .ptr 0 0 ∧ tm 5 = .lit (.bool r1)) (by refine ⟨?_, ?_⟩ <;> first | (simp only [ua, bt, nm, seval] <;> rfl) | rfl) ?_
  rintro tm ⟨e1, e5⟩
  cases r1 with
  | false =>
    simp only [cond_false, Option.some.injEq] at h
    subst h
    simp only [vz, mq, mqm, vsi, tyf, mqt, e1, e5, nm, seval]
    refine bG (x := .tup [.lit (.int .i64 0), .lit (.int .i64 2)]) (by first | (simp only [Tryz.results60, resV, resL, resV1, bN, bO, uw, cr, tyf, mqt, nm, seval] <;> rfl) | rfl) ?_
    refine dM ?_ ?_
    · simp only [tre, tytre, mqr, Bool.and_self]
    · first | (simp only [outV, uw, dE, cr, tyf, mqt, nrm, tynrm, nm, seval] <;> rfl) | rfl
  | true =>
    rw [cond_true] at h
    cases hB : benchB ai with
    | false => rw [hB] at h; cases h
    | true =>
    rw [hB, cond_true] at h
    cases hA : (ai.Apprentices == 3) with
    | true =>
      rw [hA, cond_true, Option.some.injEq] at h
      subst h
      simp only [vz, mq, mqm, vsi, tyf, mqt, e1, e5, hA, nm, seval]
      refine bG (x := .tup [.lit (.int .i64 0), .lit (.int .i64 3)]) (by first | (simp only [Tryz.results60, resV, resL, resV1, bN, bO, uw, cr, tyf, mqt, nm, seval] <;> rfl) | rfl) ?_
      refine dM ?_ ?_
      · simp only [tre, tytre, mqr, Bool.and_self]
      · first | (simp only [outV, uw, dE, cr, tyf, mqt, nrm, tynrm, nm, seval] <;> rfl) | rfl
    | false =>
    rw [hA, cond_false] at h
    obtain ⟨w, hw⟩ : ∃ w : GBk, w = ⟨i64.wrap (ai.Apprentices + 1), ai.Boards, ai.Strokes⟩ := ⟨_, rfl⟩
    rw [← hw] at h
    rcases hL : plansO w with _ | L
    · rw [hL] at h; cases h
    rw [hL, Option.bind_some] at h
    rcases hR : bestP (TK w) L none with _ | P
    · rw [hR] at h; cases h
    rw [hR, Option.bind_some, Option.some.injEq] at h
    subst h
    have hBH : BH w := by rw [hw]; exact (kJ.1 hB).h.with _
    have ow : rK ai (i64.wrap (ai.Apprentices + 1)) = some w := by rw [hw]; rfl
    simp only [vz, mq, mqm, vsi, tyf, mqt, e1, e5, hA, nm, seval]
    refine ktree (args0 := [.agg (cGBk ai), .lit (.int .i64 (i64.wrap (ai.Apprentices + 1)))]) (by first | (simp only [nrm, tynrm, @cF] <;> rfl) | rfl) (by simp only [tre, tytre, mqr, Bool.and_self]) (Fz _ _ _ ow) ?_
    refine aZ (fun tm => tm 14 = .agg (cGBk w)) (by first | (simp only [ua, bt, e1, nm, seval] <;> rfl) | rfl) ?_
    clear e1 e5 tm
    rintro tm bl
    simp only [vz, mq, mqm, vsi, tyf, mqt, bl, nm, seval]
    refine ktree (args0 := [.agg (cGBk w)]) (by first | (simp only [nrm, tynrm, @cF] <;> rfl) | rfl) (by simp only [tre, tytre, mqr, Bool.and_self]) (zl _) ?_
    refine aZ (fun tm => tm 15 = itB w) (by first | (simp only [ua, bt, nm, seval] <;> rfl) | rfl) ?_
    clear bl tm
    rintro tm cv
    simp only [vz, mq, mqm, vsi, tyf, mqt, cv, nm, seval]
    refine kopen ?_
    rw [jJ]
    refine al.mono (Fy (zn hL) (takesOk hBH hL) hR _ _) ?_ (fun _ _ _ h => h.elim)
    rintro v H2 n2 ⟨g1, g2, δ, l, rfl, g3, g4, g5, g6⟩
    have hPL : P ∈ L := (pw hR).resolve_right (by simp)
    obtain ⟨l', et, it⟩ := takesOk hBH hL P hPL l g6
    simp only [gf, vz, mq, mqm, vsi, tyf, mqt, cv, nm, seval]
    refine kupd (VUpd.at (β := δ) (y := (fun _ => .lit (.int .i64 (TK w P)))) (pv _ _ _ _ et) (by omega) (by first | rfl | assumption | (simp only [aP, b9, g5, nm, seval] <;> rfl)) (by first | rfl | (simp only [nrm, tynrm, @cF, @eC] <;> rfl)) (dY (fun _ => rfl) _)) ?_
    refine ez (fun tm => tm 17 = .lit (.int .i64 (TK w P))) (by first | (simp only [ua, bt, nm, seval] <;> rfl) | rfl) ?_
    clear cv tm
    rintro tm bB
    simp only [vz, mq, mqm, vsi, tyf, mqt, bB, nm, seval]
    refine bG (x := .tup [.lit (.int .i64 (TK w P)), .lit (.int .i64 0)]) (by first | (simp only [Tryz.results60, resV, resL, resV1, bN, bO, uw, cr, tyf, mqt, nm, seval] <;> rfl) | rfl) ?_
    refine dM ?_ ?_
    · simp only [tre, tytre, mqr, Bool.and_self]
    · first | (simp only [outV, uw, dE, cr, tyf, mqt, nrm, tynrm, nm, seval] <;> rfl) | rfl
theorem zo {P : Program} {G : Glob} {fn : Func} {R Rp : VV → (Nat → Option VObj) → Nat → Prop} {tm : Nat → VV} {nx : Nat} : ∀ (ds : List Nat) (H : Nat → Option VObj), ds.Nodup → (∀ d ∈ ds, H d = some (.deferred (some []))) → (∀ H2, (∀ γ, γ ∉ ds → H2 γ = H γ) → OpenPostD P G fn R Rp .ret ⟨tm, H2, nx, []⟩) → OpenPostD P G fn R Rp .ret ⟨tm, H, nx, ds.map VDef.coll⟩
  | [], H, _, _, h => h H fun _ _ => rfl
  | d :: ds, H, hn, hd, h => by
    rw [List.nodup_cons] at hn
    refine te (hd d (List.mem_cons_self ..)) (zo ds _ hn.2 (fun e he => ?_) fun H2 h2 => h H2 fun γ hγ => ?_)
    · have hne : e ≠ d := fun hh => hn.1 (hh ▸ he)
      simp only [updH]
      rw [if_neg hne]
      exact hd e (List.mem_cons_of_mem _ he)
    · simp only [List.mem_cons, not_or] at hγ
      rw [h2 γ hγ.2]
      simp only [updH]
      rw [if_neg hγ.1]
def wiB (b : GBk) (n : Int) : GBk := ⟨n, b.Boards, b.Strokes⟩
def iL (b : GBk) (h : Int) : Nat → Int → Option Int
  | 0, i => none
  | k + 1, i => cond (decide (i ≤ 3)) (Option.bind (plansO (wiB b i)) fun L => cond (L.any fun p => decide (TK (wiB b i) p ≤ h)) (some i) (iL b h k (i64.wrap (i + 1)))) (some i)
def rq (b : GBk) (h : Int) : Option (Int × Bool) := cond (benchB b) (Option.bind (iL b h 5 0) fun r => some (r, decide (r ≤ 3))) none
theorem Js (ai : GBk) (aq : Int) (R : Int × Bool) (h : rq ai aq = some R) : ag Tryz.prog G0 96 [.agg (cGBk ai), .lit (.int .i64 aq)] (.tree (.tup [.lit (.int .i64 R.1), .lit (.bool R.2)])) := by
  refine ag.runR mixed Tryz.call96 Tryz.func96 rfl (by simp [Tryz.ntmps96]; kernel_rfl) ?_
  unfold rq at h
  cases hB : benchB ai with
  | false => rw [hB] at h; cases h
  | true =>
  rw [hB, cond_true] at h
  rcases hf : iL ai aq 5 0 with _ | r
  · rw [hf] at h; cases h
  rw [hf, Option.bind_some, Option.some.injEq] at h
  subst h
  simp only [vz, mq, mqm, vsi, tyf, mqt, nm, seval]
  refine zp mixed (by kernel_rfl) ?_
  simp only [vz, mq, mqm, vsi, tyf, mqt, nm, seval]
  obtain ⟨IA, hIA⟩ : ∃ I : Nat → St → Prop, I = (fun m st => ∃ (i : Int) (ds : List Nat), 0 ≤ i ∧ i ≤ 4 ∧ iL ai aq m i = some r ∧ st.df = ds.map VDef.coll ∧ ds.Nodup ∧ (∀ d ∈ ds, 2 ≤ d ∧ d < st.nx ∧ st.H d = some (.deferred (some []))) ∧ 5 ≤ st.nx ∧ st.H 0 = some (.cells (some 25) (cGBk ai)) ∧ st.H 1 = some (.cells (some 3) [.lit (.int .i64 aq)]) ∧ st.tm 2 = .ptr 0 0 ∧ st.tm 3 = .ptr 1 0 ∧ st.tm 6 = .lit (.int .i64 i)) := ⟨_, rfl⟩
  refine loopK mixed (by kernel_rfl) IA 5 (by rw [hIA]; refine ⟨0, [], Int.le_refl _, by omega, hf, rfl, List.nodup_nil, (fun d hd => by cases hd), (show 5 ≤ 5 by omega), ?_, ?_, ?_, ?_, ?_⟩ <;> first | (simp only [ua, nm, seval] <;> rfl) | rfl) ?_
  rintro m ⟨tm, H, nx, df⟩ hinv
  rw [hIA] at hinv
  obtain ⟨i, ds, rL, kW, hg, hdf, hnd, hds, hnx, H0, H1, e2, e3, e6⟩ := hinv
  simp only at hdf hds hnx H0 H1 e2 e3 e6
  subst hdf
  have n0 := ik (m := 5) (b := nx) hnx
  cases m with
  | zero => cases hg
  | succ m =>
  simp only [iL] at hg
  cases hd : decide (i ≤ 3) with
  | false =>
    rw [hd, cond_false, Option.some.injEq] at hg
    subst hg
    simp only [vz, mq, mqm, vsi, tyf, mqt, e2, e3, e6, H0, H1, n0, hd, nm, seval]
    refine zo ds H hnd (fun d hd => (hds d hd).2.2) fun H2 h2 => ?_
    refine bG (x := .tup [.lit (.int .i64 i), .lit (.bool false)]) (by first | (simp only [Tryz.results96, resV, resL, resV1, bN, bO, uw, cr, tyf, mqt, nm, seval] <;> rfl) | rfl) ?_
    refine dM ?_ ?_
    · simp only [tre, tytre, mqr, Bool.and_self]
    · first | (simp only [outV, uw, dE, cr, tyf, mqt, nrm, tynrm, nm, seval] <;> rfl) | rfl
  | true =>
    rw [hd, cond_true] at hg
    rcases hL : plansO (wiB ai i) with _ | L
    · rw [hL] at hg; cases hg
    rw [hL, Option.bind_some] at hg
    have hBH : BH (wiB ai i) := (kJ.1 hB).h.with _
    have hT := takesOk hBH hL
    have ow : rK ai i = some (wiB ai i) := rfl
    simp only [vz, mq, mqm, vsi, tyf, mqt, e2, e3, e6, H0, H1, n0, hd, nm, seval]
    refine ktree (args0 := [.agg (cGBk ai), .lit (.int .i64 i)]) (by first | (simp only [nrm, tynrm, @cF] <;> rfl) | rfl) (by simp only [tre, tytre, mqr, Bool.and_self]) (Fz _ _ _ ow) ?_
    refine aZ (fun tm => tm 2 = .ptr 0 0 ∧ tm 3 = .ptr 1 0 ∧ tm 6 = .lit (.int .i64 i) ∧ tm 14 = .agg (cGBk (wiB ai i))) (by refine ⟨?_, ?_, ?_, ?_⟩ <;> first | (simp only [ua, bt, e2, e3, e6, nm, seval] <;> rfl) | rfl) ?_
    clear e2 e3 e6 tm
    rintro tm ⟨e2, e3, e6, bl⟩
    simp only [vz, mq, mqm, vsi, tyf, mqt, e2, e3, e6, bl, nm, seval]
    refine ktree (args0 := [.agg (cGBk (wiB ai i))]) (by first | (simp only [nrm, tynrm, @cF] <;> rfl) | rfl) (by simp only [tre, tytre, mqr, Bool.and_self]) (zl _) ?_
    refine aZ (fun tm => tm 2 = .ptr 0 0 ∧ tm 3 = .ptr 1 0 ∧ tm 6 = .lit (.int .i64 i) ∧ tm 15 = itB (wiB ai i)) (by refine ⟨?_, ?_, ?_, ?_⟩ <;> first | (simp only [ua, bt, e2, e3, e6, nm, seval] <;> rfl) | rfl) ?_
    clear e2 e3 e6 bl tm
    rintro tm ⟨e2, e3, e6, cv⟩
    simp only [vz, mq, mqm, vsi, tyf, mqt, e2, e3, e6, cv, nm, seval]
    refine Fh (zn hL) (by first | (simp only [lS, lT, cv, jI, seval] <;> rfl) | rfl) ?_
    intro LO hLO
    obtain ⟨w, hw⟩ : ∃ w : GBk, w = wiB ai i := ⟨_, rfl⟩
    rw [← hw] at hL hBH hT ow hg cv ⊢
    obtain ⟨J, hJ⟩ : ∃ J : Option (List VV) → List (Nat × VObj) → Prop, J = (fun o hp => match o with
      | some l => ∃ (p : List (List Int)), l = p.map (plV w) ∧ (∀ q ∈ p, q ∈ L) ∧ (L.any fun p => decide (TK w p ≤ aq)) = (p.any fun p => decide (TK w p ≤ aq)) ∧ hp = [(nx + 6, .deferred (some [])), (nx + 7, LO)]
      | none => ∃ LD : Code → VObj, (∃ tml ps az bo d, LD = fun c => VObj.loop .done (some c) tml ps az bo d) ∧ (L.any fun p => decide (TK w p ≤ aq)) = true ∧ hp = [(nx + 6, .deferred (some [])), (nx + 7, LD (.exit 0))]) := ⟨_, rfl⟩
    obtain ⟨I, hI⟩ : ∃ I : Inv, I = (fun o Fr H' n => (nx + 8 ≤ n ∧ ∀ γ, γ < nx → ¬ Fr γ ∧ H' γ = H γ) ∧ ownI J o Fr H' n) := ⟨_, rfl⟩
    have hst : Stable I := by
      rw [hI]
      rintro o Fr jh H2 H3 n n1 ⟨⟨h0, h1⟩, h2⟩ h3 h4 h5
      refine ⟨⟨by omega, fun γ hγ => ?_⟩, DV _ _ _ _ _ _ _ h2 h3 h4 h5⟩
      obtain ⟨k1, k2⟩ := h1 γ hγ
      refine ⟨fun hf => ?_, (h3 γ (by omega) k1).trans k2⟩
      rcases h5 γ hf with hf | hf
      · exact k1 hf
      · omega
    refine ⟨I, hst, ?_, ?_, ?_⟩
    · rintro v rest Fr H' n δe hFr hδe hnδ hHδ hi
      rw [hI] at hi
      obtain ⟨⟨jt, hfr⟩, hp, hown, hj⟩ := hi
      rw [hJ] at hj
      obtain ⟨p, hl, hpL, hany, rfl⟩ := hj
      cases p with
      | nil => cases hl
      | cons e p =>
      simp only [List.map_cons, List.cons.injEq, plV, VV.agg.injEq] at hl
      obtain ⟨rfl, rfl⟩ := hl
      have heL := hpL e (List.mem_cons_self ..)
      have hpL' : ∀ q ∈ p, q ∈ L := fun q hq => hpL q (List.mem_cons_of_mem _ hq)
      obtain ⟨l6, n6, H6⟩ := hown.head
      obtain ⟨l7, n7, H7⟩ := hown.tail.head
      simp only [not_or] at n6 n7
      have hδn : nx ≤ δe := Nat.le_of_not_lt fun hh => (hfr δe hh).1 (.inr rfl)
      obtain ⟨le, ee, ie⟩ := hT e heL [] InvE.nil
      refine qT mixed (psl := [16]) hLO H7 qQ rfl (by kernel_rfl) (by kernel_rfl) ?_
      intro LB LD hLB hLD
      refine qR (fun tm => tm 16 = plM w e δe ∧ tm 3 = .ptr 1 0) (by refine ⟨?_, ?_⟩ <;> first | (simp only [qO, qP, Tryz.ntmps96, e2, e3, e6, seval]; done) | rfl) ?_
      clear e2 e3 e6 cv
      rintro tm ⟨bA, e3⟩
      have nb := iK (a := nx) (m := 8) (b := n) jt
      have mw := ik (m := 5) (b := n) (by omega)
      have H1' : H' 1 = some (.cells (some 3) [.lit (.int .i64 aq)]) := (hfr 1 (by omega)).2.trans H1
      have my : (nx + 7 = 1) = False := by simp
      have mz : (1 = nx + 7) = False := by simp
      simp only [gf] at bA
      simp only [vz, mq, mqm, vsi, tyf, mqt, seval, ua, nm, rg, RStart, bA, e3, H7, H1', nb, mw, mz, my]
      refine kM (fun tm => tm 7 = .ptr (n + 0) 0 ∧ tm 3 = .ptr 1 0) (by refine ⟨?_, ?_⟩ <;> first | (simp only [ua, e3, Nat.add_zero, nm, seval]; done) | rfl) ?_
      clear bA e3 tm
      rintro tm ⟨e7, e3⟩
      have qd := fP hδe
      have px : (δe = 1) = False := by simp; omega
      have py : (1 = δe) = False := by simp; omega
      have kX := ne_f (Ne.symm n7.2)
      simp only [vz, mq, mqm, vsi, tyf, mqt, seval, ua, nm, rg, e7, e3, H7, H1', nb, mw, mz, my, qd, px, py, kX, hHδ]
      refine dkupd (VUpd.at (β := δe) (y := (fun _ => .lit (.int .i64 (TK w e)))) (pv _ _ _ _ ee) (by omega) (by first | rfl | assumption | (simp only [aP, b9, H7, H1', nb, mw, mz, my, qd, px, py, kX, hHδ, bt, nm, seval] <;> rfl)) (by first | rfl | (simp only [nrm, tynrm, @cF, @eC] <;> rfl)) (dY (fun _ => rfl) _)) ?_
      refine ez (fun tm => tm 3 = .ptr 1 0 ∧ tm 18 = .lit (.int .i64 (TK w e))) (by refine ⟨?_, ?_⟩ <;> first | (simp only [ua, bt, e3, nm, seval] <;> rfl) | rfl) ?_
      clear e7 e3 tm
      rintro tm ⟨e3, cG⟩
      simp only [vz, mq, mqm, vsi, tyf, mqt, seval, ua, nm, rg, e3, cG, H7, H1', nb, mw, mz, my, qd, px, py, kX, hHδ]
      refine ia ⟨?_, ?_⟩
      · simp only [ib, ic, dv, ig, and_true, true_and]
        repeat' (first | exact trivial | refine And.intro ?_ ?_ | rw [dv] | rw [ij] | exact Or.inl (by decide +kernel) | exact Or.inl (by dsimp only; decide +kernel) | (refine Or.inr ⟨?_, ?_⟩ <;> simp; done) | (refine Or.inr ⟨?_, ?_⟩ <;> simp <;> omega) | (refine Or.inr ⟨?_, ?_⟩ <;> simp [VEff.wr] <;> omega))
      cases ht : decide (TK w e ≤ aq) with
      | true =>
        simp only [vz, mq, mqm, vsi, tyf, mqt, seval, ua, nm, rg, e3, cG, ht, H7, H1', nb, mw, mz, my, qd, px, py, kX, hHδ]
        refine ⟨by simp only [aP, nb, kX, nm, seval], (show n ≤ n + 6 by omega), fun γ hγ => ?_, ?_⟩
        · have h1 := hFr γ hγ
          have g7 : γ ≠ nx + 7 := fun e => n7.1 (e ▸ hγ)
          have ge : γ ≠ δe := fun e => hnδ (e ▸ hγ)
          simp only [updH]
          repeat rw [if_neg (by first | assumption | omega)]
        · rw [hI]
          simp only [Bool.false_eq_true, if_false]
          refine ⟨⟨(show nx + 8 ≤ n + 6 by omega), fun γ hγ => ⟨fun hf => (hfr γ hγ).1 (.inl hf), ?_⟩⟩, ?_⟩
          · rw [← (hfr γ hγ).2]
            simp only [updH]
            repeat rw [if_neg (by omega)]
          · refine ⟨[(nx + 6, .deferred (some [])), (nx + 7, LD (.exit 0))], Own.cons (show nx + 6 < n + 6 by omega) n6.1 ?_ (Own.cons (show nx + 7 < n + 6 by omega) n7.1 ?_ Own.nil), ?_⟩
            rotate_right
            · rw [hJ]
              exact ⟨LD, ⟨_, _, _, _, _, hLD⟩, by rw [hany, List.any_cons, ht]; rfl, rfl⟩
            · simp only [updH]
              repeat rw [if_neg (by omega)]
              exact H6
            · simp only [updH]
              rw [if_pos trivial]
      | false =>
        simp only [vz, mq, mqm, vsi, tyf, mqt, seval, ua, nm, rg, e3, cG, ht, H7, H1', nb, mw, mz, my, qd, px, py, kX, hHδ]
        refine ⟨by simp only [aP, nb, kX, nm, seval], (show n ≤ n + 6 by omega), fun γ hγ => ?_, ?_⟩
        · have h1 := hFr γ hγ
          have g7 : γ ≠ nx + 7 := fun e => n7.1 (e ▸ hγ)
          have ge : γ ≠ δe := fun e => hnδ (e ▸ hγ)
          simp only [updH]
          repeat rw [if_neg (by first | assumption | omega)]
        · rw [hI]
          simp only [if_true]
          refine ⟨⟨(show nx + 8 ≤ n + 6 by omega), fun γ hγ => ⟨fun hf => (hfr γ hγ).1 (.inl hf), ?_⟩⟩, ?_⟩
          · rw [← (hfr γ hγ).2]
            simp only [updH]
            repeat rw [if_neg (by omega)]
          · refine ⟨[(nx + 6, .deferred (some [])), (nx + 7, LO)], Own.cons (show nx + 6 < n + 6 by omega) n6.1 ?_ (Own.cons (show nx + 7 < n + 6 by omega) n7.1 ?_ Own.nil), ?_⟩
            rotate_right
            · rw [hJ]
              exact ⟨p, rfl, hpL', by rw [hany, List.any_cons, ht]; rfl, rfl⟩
            · simp only [updH]
              repeat rw [if_neg (by omega)]
              exact H6
            · simp only [updH]
              rw [if_pos trivial]
    · rw [hI]
      refine ⟨⟨Nat.le_refl _, fun γ hγ => ⟨fun h => h, ?_⟩⟩, ?_⟩
      · simp only [updH]
        repeat rw [if_neg (by omega)]
      · refine ⟨[(nx + 6, .deferred (some [])), (nx + 7, LO)], Own.cons (show nx + 6 < nx + 8 by omega) (fun h => h) ?_ (Own.cons (show nx + 7 < nx + 8 by omega) (fun h => h) ?_ Own.nil), ?_⟩
        rotate_right
        · rw [hJ]
          exact ⟨L, rfl, fun q h => h, rfl, rfl⟩
        · simp [updH]
        · simp [updH]
    · rintro H'' n hh
      rw [hI] at hh
      rcases hh with ⟨⟨jt, hfr⟩, hp, hown, hj⟩ | ⟨⟨jt, hfr⟩, hp, hown, hj⟩
      · rw [hJ] at hj
        obtain ⟨p, hl, hpL, hany, rfl⟩ := hj
        cases p with
        | cons e p => cases hl
        | nil =>
        obtain ⟨l6, n6, H6⟩ := hown.head
        obtain ⟨l7, n7, H7⟩ := hown.tail.head
        have hg' : iL ai aq m (i64.wrap (i + 1)) = some r := by
          rw [hany] at hg
          exact hg
        have fe := of_decide_eq_true hd
        have hwr : i64.wrap (i + 1) = i + 1 := fb (by omega) (by omega)
        rw [hwr] at hg'
        refine sZ hLO H7 ?_
        intro LX
        simp only [vz, mq, mqm, vsi, tyf, mqt, seval, ua, nm, rg, e2, e3, e6, hwr]
        have hmem : ∀ d ∈ (nx + 6) :: ds, 2 ≤ d ∧ d < n ∧ updH H'' (nx + 7) LX d = some (.deferred (some [])) := by
          intro d hd
          rcases List.mem_cons.1 hd with rfl | hd
          · refine ⟨by omega, by omega, ?_⟩
            rw [aP, if_neg (by omega)]
            exact H6
          · obtain ⟨k1, k2, k3⟩ := hds d hd
            refine ⟨k1, by omega, ?_⟩
            rw [aP, if_neg (by omega), (hfr d k2).2]
            exact k3
        have kY : ((nx + 6) :: ds).Nodup := List.nodup_cons.2 ⟨fun hh => by have := (hds _ hh).2.1; omega, hnd⟩
        exact ⟨m, Nat.lt_succ_self _, by
          rw [hIA]
          refine ⟨i + 1, (nx + 6) :: ds, by omega, by omega, hg', rfl, kY, fun d hd => ?_, (by dsimp only; omega), ?_, ?_, ?_, ?_, ?_⟩
          · obtain ⟨k1, k2, k3⟩ := hmem d hd
            exact ⟨k1, (by dsimp only; omega), k3⟩
          · dsimp only
            rw [aP, if_neg (by omega), (hfr 0 (by omega)).2]
            exact H0
          · dsimp only
            rw [aP, if_neg (by omega), (hfr 1 (by omega)).2]
            exact H1
          all_goals first | (simp only [ua, e2, e3, e6, nm, seval] <;> rfl) | (simp only [ua, e2, e3, e6, nm, seval]; done) | rfl⟩
      · rw [hJ] at hj
        obtain ⟨LD, ⟨tml, ps, az, bo, d, hLD⟩, hany, rfl⟩ := hj
        obtain ⟨l6, n6, H6⟩ := hown.head
        obtain ⟨l7, n7, H7⟩ := hown.tail.head
        rw [hany, cond_true, Option.some.injEq] at hg
        subst hg
        refine HU hLD H7 ?_
        intro LX
        simp only [vz, mq, mqm, vsi, tyf, mqt, seval, ua, nm, rg, e2, e3, e6, hd]
        have hmem : ∀ d ∈ (nx + 6) :: ds, 2 ≤ d ∧ d < n ∧ updH H'' (nx + 7) LX d = some (.deferred (some [])) := by
          intro d hd
          rcases List.mem_cons.1 hd with rfl | hd
          · refine ⟨by omega, by omega, ?_⟩
            rw [aP, if_neg (by omega)]
            exact H6
          · obtain ⟨k1, k2, k3⟩ := hds d hd
            refine ⟨k1, by omega, ?_⟩
            rw [aP, if_neg (by omega), (hfr d k2).2]
            exact k3
        have kY : ((nx + 6) :: ds).Nodup := List.nodup_cons.2 ⟨fun hh => by have := (hds _ hh).2.1; omega, hnd⟩
        refine zo ((nx + 6) :: ds) _ kY (fun d hd => (hmem d hd).2.2) fun H2 h2 => ?_
        refine bG (x := .tup [.lit (.int .i64 i), .lit (.bool true)]) (by first | (simp only [Tryz.results96, resV, resL, resV1, bN, bO, uw, cr, tyf, mqt, nm, seval] <;> rfl) | rfl) ?_
        refine dM ?_ ?_
        · simp only [tre, tytre, mqr, Bool.and_self]
        · first | (simp only [outV, uw, dE, cr, tyf, mqt, nrm, tynrm, nm, seval] <;> rfl) | rfl
def iA (ai : GBk) (aM : Int) : Option (GBk) := some (GBk.mk aM ai.Boards ai.Strokes)
theorem iC (ai : GBk) (aM : Int) (R : GBk) (h : iA ai aM = some R) : ag Tryz.prog G0 62 [.agg (cGBk ai), .lit (.int .i64 aM)] (.tree (.agg (cGBk R))) := by
 refine ag.runR mixed Tryz.call62 Tryz.func62 rfl (by simp [Tryz.ntmps62]; kernel_rfl) ?_
 obtain ⟨KF, h, kF, kN⟩ := cu h
 simp only [iA] at h
 try simp only [vz, tyf, nm, seval]
 refine bG (x := (.agg ([.lit (.int .i64 aM)] ++ [.sl (aa eI ai.Boards) (List.length ai.Boards) false] ++ [.sl (aa cGBs ai.Strokes) (List.length ai.Strokes) false]))) (by first | (simp only [Tryz.results62, resV, resL, resV1, bN, bO, uw, cr, tyf, nm, seval] <;> rfl) | rfl) ?_
 obtain rfl := kF _ h
 refine dM ?_ ?_
 ·simp only [tre, tytre, Bool.and_self]
 ·first | (simp only [outV, uw, dE, cr, tyf, nrm, tynrm, nm, seval] <;> rfl) | rfl
def mF (b : GBk) (p : List Int) (j : Int) : Bool := j == 0 || !(match b.Strokes[p.length]? with | some s => s.Round | none => true)
def LA (b : GBk) (a : Int) : List (List Int) := listsB (mF b) (a.toNat + 1) b.Strokes.length []
theorem zq {b : GBk} (hB : BOk b) {a : Int} (h0 : 0 ≤ a) (h3 : a ≤ 3) : plansO (wiB b a) = some (LA b a) := by
 have hn := hB.ns
 unfold plansO
 rw [show (decide (0 < (wiB b a).Strokes.length) && (decide ((wiB b a).Strokes.length < 1000) && (decide (0 ≤ (wiB b a).Apprentices) && decide ((wiB b a).Apprentices < 1000)))) = true by
  show (decide (0 < b.Strokes.length) && (decide (b.Strokes.length < 1000) && (decide (0 ≤ a) && decide (a < 1000)))) = true
  simp only [Bool.and_eq_true, decide_eq_true_eq]
  exact ⟨by omega, by omega, by omega, by omega⟩, cond_true]
 refine DW (ln := b.Strokes.length) (m := mF b) (fun p j h1 h2 h3 h4 => ?_) b.Strokes.length [] (by simp) (by simp)
 have hs : getI (wiB b a).Strokes (p.length : Int) = some b.Strokes[p.length] := by
  unfold getI wiB
  rw [if_pos (by omega), Int.toNat_natCast, List.getElem?_eq_getElem h1]
 unfold rG mF
 rw [zr hs, List.getElem?_eq_getElem h1]
 rfl
theorem F0 {m : List Int → Int → Bool} {l l' : Nat} (h : l ≤ l') : ∀ (t p : List Int), stepsB m l p t = true → stepsB m l' p t = true
 | [], _, _ => rfl
 | j :: t, p, hs => by
  simp only [stepsB, Bool.and_eq_true, decide_eq_true_eq] at hs ⊢
  obtain ⟨⟨h0, h1⟩, h2, h3⟩ := hs
  exact ⟨⟨h0, by omega⟩, h2, F0 h t _ h3⟩
theorem oq {b : GBk} {a a' : Int} (h0 : 0 ≤ a) (h : a ≤ a') {q : List Int} (hq : q ∈ LA b a) : q ∈ LA b a' := by
 unfold LA at hq ⊢
 rw [rM] at hq ⊢
 obtain ⟨t, e, hl, hs⟩ := hq
 exact ⟨t, e, hl, F0 (by omega) t [] hs⟩
theorem F1 {b : GBk} {l : Nat} (hl : 0 < l) : ∀ (k : Nat) (p : List Int), stepsB (mF b) l p (List.replicate k 0) = true
 | 0, _ => rfl
 | k + 1, p => by
  rw [List.replicate_succ]
  simp only [stepsB, Bool.and_eq_true, decide_eq_true_eq]
  exact ⟨⟨Int.le_refl _, by omega⟩, by simp [mF], F1 hl k _⟩
theorem zt {b : GBk} {a : Int} : List.replicate b.Strokes.length 0 ∈ LA b a := by
 unfold LA
 rw [rM]
 exact ⟨_, rfl, by simp, F1 (by omega) _ _⟩
theorem rN {tk : List Int → Int} : ∀ (L : List (List Int)) (a : Option (List Int)), (L ≠ [] ∨ a ≠ none) → ∃ R, bestP tk L a = some R ∧ (∀ p ∈ L, tk R ≤ tk p) ∧ ∀ r, a = some r → tk R ≤ tk r
 | [], none, h => by rcases h with h | h <;> exact absurd rfl h
 | [], some r, _ => ⟨r, rfl, (fun p hp => by cases hp), fun q hq => by cases hq; exact Int.le_refl _⟩
 | x :: L, none, _ => by
  obtain ⟨R, e, h1, h2⟩ := rN (tk := tk) L (some x) (.inr (by simp))
  refine ⟨R, e, fun p hp => ?_, fun r hr => by cases hr⟩
  rcases List.mem_cons.1 hp with rfl | hp
  ·exact h2 _ rfl
  ·exact h1 p hp
 | x :: L, some r, _ => by
  by_cases hlt : tk x < tk r
  ·obtain ⟨R, e, h1, h2⟩ := rN (tk := tk) L (some x) (.inr (by simp))
   have hx := h2 x rfl
   refine ⟨R, by simp only [bestP]; rw [if_pos hlt]; exact e, fun p hp => ?_, fun q hq => by cases hq; omega⟩
   rcases List.mem_cons.1 hp with rfl | hp
   ·exact hx
   ·exact h1 p hp
  ·obtain ⟨R, e, h1, h2⟩ := rN (tk := tk) L (some r) (.inr (by simp))
   have hx := h2 r rfl
   refine ⟨R, by simp only [bestP]; rw [if_neg hlt]; exact e, fun p hp => ?_, fun q hq => by cases hq; exact hx⟩
   rcases List.mem_cons.1 hp with rfl | hp
   ·omega
   ·exact h1 p hp
def IsB (b : GBk) (a : Int) (R : List Int) : Prop := bestP (TK (wiB b a)) (LA b a) none = some R ∧ R ∈ LA b a ∧ ∀ p ∈ LA b a, TK b R ≤ TK b p
theorem oo (b : GBk) (a : Int) : ∃ R, IsB b a R := by
 obtain ⟨R, e, h1, _⟩ := rN (tk := TK (wiB b a)) (LA b a) none (.inl (List.ne_nil_of_mem zt))
 exact ⟨R, e, (pw e).resolve_right (by simp), h1⟩
theorem BOk.wi {b : GBk} (hB : BOk b) {a : Int} (h0 : 0 ≤ a) (h3 : a ≤ 3) : BOk (wiB b a) := ⟨⟨h0, h3⟩, hB.nb, hB.bo, hB.ns, hB.st⟩
theorem Len.wi {b : GBk} (h : Len b) (a : Int) : Len (wiB b a) := ⟨h.bo, h.st, h.nd⟩
theorem ot {b : GBk} (h : Len b) (hB : BOk b) {a : Int} (h0 : 0 ≤ a) (h3 : a ≤ 3) {R : List Int} (hR : IsB b a R) : hY (wiB b a) = some (R, TK b R, 0) := by
 unfold hY
 rw [vT (h.wi a), kJ.2 (hB.wi h0 h3), Option.bind_some, cond_true, cond_true, zq hB h0 h3, Option.bind_some, hR.1]
 rfl
theorem vV {b : GBk} (h : Len b) (hB : BOk b) {a : Int} (h0 : 0 ≤ a) (h3 : a < 3) {R : List Int} (hR : IsB b (a + 1) R) : iB (wiB b a) = some (TK b R, 0) := by
 unfold iB
 rw [vT (h.wi a), kJ.2 (hB.wi h0 (by omega)), Option.bind_some, cond_true, cond_true]
 have e1 : ((wiB b a).Apprentices == 3) = false := by
  show (a == 3) = false
  simp; omega
 have e2 : (⟨i64.wrap ((wiB b a).Apprentices + 1), (wiB b a).Boards, (wiB b a).Strokes⟩ : GBk) = wiB b (a + 1) := by
  show (⟨i64.wrap (a + 1), b.Boards, b.Strokes⟩ : GBk) = _
  rw [fb (by omega) (by omega)]
  rfl
 rw [e1, cond_false, e2, zq hB (by omega) (by omega), Option.bind_some, hR.1]
 rfl
theorem E9 {b : GBk} (hB : BOk b) (h : Int) : ∀ (k : Nat) (i : Int), 0 ≤ i → i + k = 4 → ∃ r, iL b h (k + 1) i = some r ∧ i ≤ r ∧ r ≤ 4 ∧ (∀ j, i ≤ j → j < r → ∀ p ∈ LA b j, ¬ TK b p ≤ h) ∧ (r ≤ 3 → ∃ p ∈ LA b r, TK b p ≤ h)
 | 0, i, h0, hk => by
  refine ⟨i, ?_, Int.le_refl _, by omega, fun j h1 h2 => by omega, fun h => by omega⟩
  rw [iL, decide_eq_false (by omega), cond_false]
 | k + 1, i, h0, hk => by
  rw [iL, decide_eq_true (by omega), cond_true, zq hB h0 (by omega), Option.bind_some]
  cases ha : (LA b i).any fun p => decide (TK (wiB b i) p ≤ h) with
  | true =>
   rw [cond_true]
   obtain ⟨p, hp, ht⟩ := List.any_eq_true.1 ha
   exact ⟨i, rfl, Int.le_refl _, by omega, fun j h1 h2 => by omega, fun _ => ⟨p, hp, of_decide_eq_true ht⟩⟩
  | false =>
   rw [cond_false, fb (by omega) (by omega)]
   obtain ⟨r, e, h1, h2, h3, h4⟩ := E9 hB h k (i + 1) (by omega) (by omega)
   refine ⟨r, e, by omega, h2, fun j NT Ku p hp => ?_, h4⟩
   by_cases hji : j = i
   ·subst hji
    have := List.any_eq_false.1 ha p hp
    exact fun hh => this (decide_eq_true hh)
   ·exact h3 j (by omega) Ku p hp
def rangeFR (f : FuncId) (cf : an) (jump : Code → RS → ER) (n : Nat) (s : RS) (f0 : FuncId) (first captured : List VV) (ps : Array Tmp) (asg bo : Code) : ER :=
 match cf f0 (first ++ [.yl (s.nx + 1)] ++ captured) ((s.H.put s.nx (some (.deferred (some [])))).put (s.nx + 1) (some (.loopF .ready none (tmL n s.st.tm) ps asg bo f))) (s.nx + 2) with
 | .ret _ H' nx' => match H'.get (s.nx + 1) with
  | some (.loopF .busy _ _ _ _ _ _) => .no (.text 1)
  | some (.loopF _ pe tm ps asg bo fn) => match pe with
   | none => .mk .normal { s with H := H'.put (s.nx + 1) (some (.loopF .exhausted pe tm ps asg bo fn)), nx := nx', df := .coll s.nx :: s.df }
   | some c => jump c { s with H := H'.put (s.nx + 1) (some (.loopF .exhausted pe tm ps asg bo fn)), nx := nx', df := .coll s.nx :: s.df }
  | _ => .no (.text 2)
 | .pan x H' nx' => .mk (.panic x) { s with H := H', nx := nx', df := .coll s.nx :: s.df }
 | .no w => .no w
def GoOk (P : Program) (G : Glob) (f n : Nat) (go : Code → RS → ER) : Prop := ∀ code s e s', go code s = .mk e s' → ∀ Q : VExit → St → Prop, Q e s'.st → VGo P G f n code Q s.st
theorem Kv {P : Program} {G : Glob} {cf : an} (hcf : CallOk P G cf) {f : FuncId} {jump : Code → RS → ER} {n : Nat} (hj : GoOk P G f n jump) {s s' : RS} {e : VExit} {g : Operand} {f0 : FuncId} {first captured : List VV} {ps : Array Tmp} {asg bo : Code}
  (hg : s.st.ρ G g = .fn (.func f0) first captured) (h : rangeFR f cf jump n s f0 first captured ps asg bo = .mk e s') {Q : VExit → St → Prop} (hq : Q e s'.st) : VGo P G f n (.rangeFunc g ps asg bo) Q s.st := by
 refine VGo.range hg ?_
 unfold rangeFR at h
 have eH : ((s.H.put s.nx (some (.deferred (some [])))).put (s.nx + 1) (some (.loopF .ready none (tmL n s.st.tm) ps asg bo f))).get = updH (updH s.st.H s.st.nx (.deferred (some []))) (s.st.nx + 1) (.loopF .ready none (tmL n s.st.tm) ps asg bo f) := by
  rw [gj, gj]; rfl
 split at h
 ·rename_i x H' nx' hc
  have hv := hcf.1 _ _ _ _ _ _ _ hc
  rw [eH] at hv
  refine al.mono hv ?_ ?_
  ·rintro y H1 n1 ⟨_, rfl, rfl⟩
   split at h
   ·cases h
   ·rename_i st pe eh ei ej ep fk hnb hl
    have e2 : ({ s with H := H'.put (s.nx + 1) (some (.loopF .exhausted pe eh ei ej ep fk)), nx := n1, df := .coll s.nx :: s.df } : RS).st = { s.st with H := updH H'.get (s.st.nx + 1) (.loopF .exhausted pe eh ei ej ep fk), nx := n1, df := .coll s.st.nx :: s.st.df } := by
     simp only [RS.st, gj]
    refine ⟨st, pe, eh, ei, ej, ep, fk, hl, hnb, ?_⟩
    split at h
    ·cases h
     show Q .normal _
     rw [← e2]; exact hq
    ·rename_i c
     show VGo P _ f n c Q _
     rw [← e2]
     exact hj c _ e s' h Q hq
   ·cases h
  ·intro y H1 n1 h; exact h.elim
 ·rename_i x H' nx' hc
  have hv := hcf.2 _ _ _ _ _ _ _ hc
  rw [eH] at hv
  cases h
  refine al.mono hv ?_ ?_
  ·intro y H1 n1 h; exact h.elim
  ·rintro y H1 n1 ⟨rfl, rfl, rfl⟩
   exact hq
 ·cases h
noncomputable def rangeFF (f : FuncId) (cf : an) (jump : Code → RS → ER) (n : Nat) (s : RS) (ps : Array Tmp) (asg bo : Code) (code : Code) (x : VV) : ER := match x with
 | .fn (.func f0) first captured => rangeFR f cf jump n s f0 first captured ps asg bo
 | _ => .no (.code code)
noncomputable def goF (G : Glob) (f : FuncId) (run : RunR) (cf : an) (n : Nat) (k : Nat) : Code → RS → ER :=
 Nat.rec (motive := fun _ => Code → RS → ER) (fun code s => run none n code s) (fun _ ih code s => match code with
  | .seq a b => thenQ (ih a s) (fun s' => ih b s')
  | .block id a => blockQ (ih a s) id
  | .rangeFunc g ps asg bo => rangeFF f cf (fun c s => run none n c s) n s ps asg bo code (ρQ G s.tm g)
  | code => run none n code s) k
theorem pz {P : Program} {G : Glob} {f n : Nat} {run : RunR} {cf : an} (hrun : RunOk P G run) (hcf : CallOk P G cf) : ∀ (k : Nat), GoOk P G f n (goF G f run cf n k)
 | 0, code, s, e, s', h, Q, hq => VGo.of (hrun none n code s e s' h Q hq)
 | k + 1, code, s, e, s', h, Q, hq => by
  have ih := pz (f := f) (n := n) hrun hcf k
  have dflt : run none n code s = .mk e s' → VGo P G f n code Q s.st := fun h => VGo.of (hrun none n code s e s' h Q hq)
  cases code with
  | seq a b =>
   have h' : thenQ (goF G f run cf n k a s) (fun s' => goF G f run cf n k b s') = .mk e s' := h
   cases hs : goF G f run cf n k a s with
   | no w => rw [hs] at h'; cases h'
   | mk e1 s1 =>
    rw [hs] at h'
    cases e1 with
    | normal => exact VGo.seq (ih a s .normal s1 hs _ (ih b s1 e s' h' Q hq))
    | exit id => cases h'; exact VGo.seq (ih a s _ _ hs _ hq)
    | goto l => cases h'; exact VGo.seq (ih a s _ _ hs _ hq)
    | ret => cases h'; exact VGo.seq (ih a s _ _ hs _ hq)
    | panic x => cases h'; exact VGo.seq (ih a s _ _ hs _ hq)
  | block id a =>
   have h' : blockQ (goF G f run cf n k a s) id = .mk e s' := h
   cases hs : goF G f run cf n k a s with
   | no w => rw [hs] at h'; cases h'
   | mk e1 s1 =>
    rw [hs] at h'
    refine VGo.block (ih a s e1 s1 hs _ ?_)
    cases e1 with
    | normal => cases h'; exact hq
    | goto l => cases h'; exact hq
    | ret => cases h'; exact hq
    | panic x => cases h'; exact hq
    | exit id' =>
     have h'' : Bool.rec (motive := fun _ => ER) (.mk (.exit id') s1) (.mk .normal s1) (Nat.beq id' id) = .mk e s' := h'
     show (if id' = id then _ else _)
     by_cases hid : id' = id
     ·have hb : Nat.beq id' id = true := by simpa using hid
      rw [hb] at h''
      cases h''
      rw [if_pos hid]; exact hq
     ·have hb : Nat.beq id' id = false := by cases hq : Nat.beq id' id with | false => rfl | true => exact absurd (by simpa using hq) hid
      rw [hb] at h''
      cases h''
      rw [if_neg hid]; exact hq
  | rangeFunc g ps asg bo =>
   have h' : rangeFF f cf (fun c s => run none n c s) n s ps asg bo (.rangeFunc g ps asg bo) (ρQ G s.tm g) = .mk e s' := h
   rw [ρQ_eq] at h'
   unfold rangeFF at h'
   split at h'
   ·rename_i f0 first captured hg
    exact Kv hcf (fun c s e s' hs Q hq => VGo.of (hrun none n c s e s' hs Q hq)) hg h' hq
   ·cases h'
  | _ => exact dflt h
noncomputable def enterF (P : Program) (G : Glob) (run : RunR) (cf : an) (k : Nat) (f : FuncId) (fn : Func) (code : Code) (args : List VV) (H : Trie VObj) (nx : Nat) : CR :=
 match goF G f run cf fn.ntmps k code (RS.mk (listV args 0 .nil) H nx []) with
 | .mk .ret s => leaveR P G run fn f s s.df .ret s.H s.nx
 | .mk .normal s => leaveR P G run fn f s s.df .ret s.H s.nx
 | .mk (.panic x) s => leaveR P G run fn f s s.df (.pan x false) s.H s.nx
 | .mk _ _ => .no (.fn f)
 | .no w => .no w
noncomputable def gO (P : Program) (G : Glob) (run : RunR) (cf : an) (k : Nat) : an := fun f args H nx => match textQ P f with
 | some (fn, code) => Bool.rec (motive := fun _ => CR) (.no (.fn f)) (enterF P G run cf k f fn code args H nx) (Nat.ble args.length fn.ntmps)
 | none => .no (.fn f)
theorem zu {P : Program} {f : FuncId} {fn : Func} {code : Code} (h : textQ P f = some (fn, code)) : P.funcs[f]? = some fn ∧ fn.body = some code ∧ nameQ fn = true := by
 unfold textQ at h
 split at h
 ·cases h
 ·rename_i jf hf
  split at h
  ·cases h
  ·rename_i c1 hb
   split at h
   ·rename_i hn
    cases h
    exact ⟨hf, hb, hn⟩
   ·cases h
theorem F2 {P : Program} {G : Glob} {run : RunR} {cf : an} {k : Nat} (hrun : RunOk P G run) (hcf : CallOk P G cf) {f : FuncId} {args : List VV} {H : Trie VObj} {nx : Nat} {R Rp : VV → (Nat → Option VObj) → Nat → Prop}
  (h1 : ∀ x H' nx', gO P (G.at (some none)) run cf k f args H nx = .ret x H' nx' → R x H'.get nx') (h2 : ∀ x H' nx', gO P (G.at (some none)) run cf k f args H nx = .pan x H' nx' → Rp x H'.get nx') (h3 : ∀ w, gO P (G.at (some none)) run cf k f args H nx ≠ .no w) : al P G f args H.get nx R Rp := by
 unfold gO at h1 h2 h3
 cases ht : textQ P f with
 | none => exact absurd (by simp only [ht]) (h3 (.fn f))
 | some p =>
  obtain ⟨fn, code⟩ := p
  obtain ⟨hf, hb, hn⟩ := zu ht
  cases hc : Nat.ble args.length fn.ntmps with
  | false => exact absurd (by simp only [ht, hc]) (h3 (.fn f))
  | true =>
   simp only [ht, hc] at h1 h2 h3
   simp only [Nat.ble_eq] at hc
   unfold enterF at h1 h2 h3
   rw [sU] at h1 h2 h3
   cases hr : goF (G.at (some none)) f run cf fn.ntmps k code (RS.mk (Trie.ofList 0 args .nil) H nx []) with
   | no w => exact absurd (by rw [hr]) (h3 w)
   | mk e s =>
    rw [hr] at h1 h2 h3
    have body : OpenPostD P G fn R Rp e s.st → al P G f args H.get nx R Rp := by
     intro hq
     have := pz (G := G.at (some none)) (f := f) (n := fn.ntmps) hrun hcf k code _ e s hr _ hq
     rw [argsR] at this
     exact al.of_bodyGo (wa hf hb hn) hf hb hc this
    cases e with
    | ret => exact body (jn hrun s.df .ret s.H s.nx h1 h2 h3)
    | normal => exact body (jn hrun s.df .ret s.H s.nx h1 h2 h3)
    | panic x => exact body (jn hrun s.df (.pan x false) s.H s.nx h1 h2 h3)
    | exit id => exact absurd rfl (h3 (.fn f))
    | goto l => exact absurd rfl (h3 (.fn f))
noncomputable def cfF (P : Program) (G : Glob) (run : RunR) (fs : List Nat) (k : Nat) : an := fun f args H nx => match fs.elem f with
 | true => gO P G run (cfQ P G run) k f args H nx
 | false => cfQ P G run f args H nx
theorem p8 {P : Program} {G : Glob} {run : RunR} {fs : List Nat} {k : Nat} (hrun : RunOk P G run) : CallOk P G (cfF P (G.at (some none)) run fs k) := by
 have hcf : CallOk P G (cfQ P (G.at (some none)) run) := by rw [sT]; exact JD hrun
 constructor
 ·intro f args H nx x H' nx' h
  unfold cfF at h
  split at h
  ·exact F2 hrun hcf (fun y H1 n1 e => by rw [h] at e; cases e; exact ⟨rfl, rfl, rfl⟩) (fun y H1 n1 e => by rw [h] at e; cases e) (fun w e => by rw [h] at e; cases e)
  ·exact hcf.1 _ _ _ _ _ _ _ h
 ·intro f args H nx x H' nx' h
  unfold cfF at h
  split at h
  ·exact F2 hrun hcf (fun y H1 n1 e => by rw [h] at e; cases e) (fun y H1 n1 e => by rw [h] at e; cases e; exact ⟨rfl, rfl, rfl⟩) (fun w e => by rw [h] at e; cases e)
  ·exact hcf.2 _ _ _ _ _ _ _ h
noncomputable def runF (P : Program) (G : Glob) (fs : List Nat) (tab : KTab) (k : Nat) : RunR :=
 Nat.rec (motive := fun _ => RunR) (fun _ _ _ _ => .no .fuel) (fun k ih ro n code s => bodyA k ih (cfT tab (cfF P (G.at (some none)) ih fs k)) ro n s (ccB P G code)) k
theorem F3 {P : Program} {G : Glob} {fs : List Nat} {tab : KTab} (hm : P.follows .mixedOrders = true) (ht : KTabOk P G tab) : ∀ (k : Nat), RunOk P G (runF P G fs tab k)
 | 0, _, _, _, _, _, _, h => by cases h
 | k + 1, ro, n, code, s, e, s', h => by
  intro Q hq
  have ih := F3 (G := G) (fs := fs) hm ht k
  exact Kw hm ih (zw ht (p8 ih)) h hq
noncomputable def closedF (P : Program) (G : Glob) (fs : List Nat) (tab : KTab) (k : Nat) (f : FuncId) (args : List VV) : PRes ⊕ Why := pureQ (cfF P (G.at (some none)) (runF P G fs tab k) fs k) f args
theorem ag.closedF {P : Program} {G : Glob} {fs : List Nat} {tab : KTab} (hm : P.follows .mixedOrders = true) (ht : KTabOk P G tab) (k : Nat) {f : FuncId} {args : List VV} {r : PRes} (h : closedF P G fs tab k f args = .inl r) : ag P G f args r := by
 unfold Go.V.closedF at h
 rw [sQ] at h
 exact ou (p8 (F3 hm ht k)) h
end Go.V
end
