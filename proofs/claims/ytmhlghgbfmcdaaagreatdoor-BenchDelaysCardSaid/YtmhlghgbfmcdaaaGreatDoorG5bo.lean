/- Part of a proof. -/
import Derived.Test.YtmhlghgbfmcdaaaGreatDoorG5bn
set_option linter.all false
set_option maxRecDepth 4000
set_option maxHeartbeats 40000000
section
namespace Go.V
open Go Go.Proofs IntKind
theorem joinP {R A : Prop} (hk : R) (hm : R → A) : A := hm hk
def ChV (ch : List Int) (v : VV) : Prop := ch = [] ∧ v = .lit (.slice none 0 0) ∨ ch ≠ [] ∧ v = sI ch
theorem Sy {b : GBk} (hB : BH b) (wI : ∀ s, s < b.Strokes.length → 1 ≤ dF b 1 s) {pl : List Int} (hp : pl.length = b.Strokes.length) : ∀ (k : Nat) (ch : List Int) (v : VV), ChOk b ch k → ch.length + k ≤ 20 → ChV ch v → ∀ (δ nx : Nat) (H : Nat → Option VObj) (l : List (Gbe × Int)), δ < nx → H δ = some (.map (encM aI bQ l)) → InvE b pl l →
  aB Tryz.prog G0 111 [plM b pl δ, v] H nx (fun x H' nx' => skF b pl k ch = none ∧ nx ≤ nx' ∧ (∃ l', H' δ = some (.map (encM aI bQ l')) ∧ InvE b pl l') ∧ ∀ γ, γ < nx → γ ≠ δ → H' γ = H γ)
   (fun x H' nx' => nx ≤ nx' ∧ ∃ c g, skF b pl k ch = some c ∧ c ≠ [] ∧ x = .ifc 124 (.agg [.ref g 0 c.length 1 c.length]) ∧ g < nx' ∧ (∃ el, H' g = some (.cells el (ae eI c))) ∧ nx ≤ g ∧ ∀ γ, γ < nx → γ ≠ δ → H' γ = H γ)
 | 0, ch, v, hc, _, _, _, _, _, _, _, _, _ => absurd hc.pos (Nat.lt_irrefl _)
 | k + 1, ch, v, hc, hck, hv, δ, nx, H, l, hδ, Hδ, hl => by
  have hn := hB.ns
  have ih := Sy hB wI hp k
  have qd := hY hδ
  have hnv : normL [v] = [sI ch] := by
   rcases hv with ⟨rfl, rfl⟩ | ⟨_, rfl⟩
   ·simp only [nrm, aG]; rfl
   ·simp only [nrm, aG]
  have Bu : normV v = sI ch := by
   rcases hv with ⟨rfl, rfl⟩ | ⟨_, rfl⟩
   ·simp only [nrm, aG]; rfl
   ·simp only [nrm, aG]
  refine aB.run mixed Tryz.call111 Tryz.func111 rfl (by simp [Tryz.ntmps111]; kernel_rfl) ?_
  simp only [Bv, vz, mq, mqm, vsi, tyf, mqt, qd, Hδ, nm, seval, ua]
  obtain ⟨IA, hIA⟩ : ∃ IA : Nat → St → Prop, IA = (fun (m : Nat) (st : St) => ∃ (s : Nat) (l1 : List (Gbe × Int)), s + m = b.Strokes.length ∧ skL (skF b pl k) b pl ch (List.range' s m) = skF b pl (k + 1) ch ∧ st.df = [] ∧ nx + 6 ≤ st.nx ∧ st.H δ = some (.map (encM aI bQ l1)) ∧ InvE b pl l1 ∧ st.H nx = some (.cells (some 92) (cPl b pl δ)) ∧ (∀ γ, γ < nx → γ ≠ δ → st.H γ = H γ) ∧ st.tm 1 = v ∧ st.tm 2 = .ptr nx 0 ∧ st.tm 9 = .lit (.int .i64 b.Strokes.length) ∧ st.tm 10 = .lit (.int .i64 s)) := ⟨_, rfl⟩
  refine loopK mixed (by kernel_rfl) IA b.Strokes.length ?_ ?_
  ·rw [hIA]
   refine ⟨0, l, by omega, rfl, rfl, (by dsimp only; omega), ?_, hl, ?_, ?_, ?_, ?_, ?_, ?_⟩
   ·simp only [bc, qd, nm, seval, Hδ]
   ·simp only [bc, nm, seval]; rfl
   ·intro γ h1 h2
    simp only [updH]
    repeat rw [if_neg (by omega)]
   all_goals first | (simp only [ua, nm, seval] <;> rfl) | (simp only [ua, nm, seval]; done) | rfl
  rintro m ⟨tm, H1, eD, df⟩ hinv
  rw [hIA] at hinv
  obtain ⟨s, l1, hsm, hsk, hdf, Dq, H1δ, dY, H1n, Ok, e1, e2, e9, bj⟩ := hinv
  simp only at hdf Dq H1δ H1n Ok e1 e2 e9 bj
  subst hdf
  rw [wJ] at H1n
  have nb := mn (a := nx) (m := 6) (b := eD) Dq
  have XR := hY (show δ < eD by omega)
  have qdn := ne_f (show δ ≠ nx by omega)
  cases m with
  | zero =>
   have hlt : decide ((s : Int) < (b.Strokes.length : Int)) = false := decide_eq_false (by omega)
   have hres : skF b pl (k + 1) ch = none := by rw [← hsk]; rfl
   simp only [vz, mq, mqm, vsi, tyf, mqt, e9, bj, hlt, nm, seval, ua]
   refine Mh (x := .tup []) (by simp [Tryz.results111, resV, resL]) ?_
   exact ⟨hres, by omega, ⟨l1, H1δ, dY⟩, Ok⟩
  | succ m =>
   have hs : s < b.Strokes.length := by omega
   have hlt : decide ((s : Int) < (b.Strokes.length : Int)) = true := decide_eq_true (by omega)
   obtain ⟨l2, em, fg⟩ := VJ hB hp hc.st (by omega) (s := (s : Int)) (by omega) (by omega) dY
   rw [Int.toNat_natCast] at em
   simp only [vz, mq, mqm, vsi, tyf, mqt, e1, e2, e9, bj, hlt, H1n, H1δ, nb, XR, qdn, nm, seval, ua]
   refine kupd (VUpd.at (β := δ) (y := (fun _ => .lit (.bool (mfB b pl ch s)))) (Ti _ _ _ _ _ _ em) (by omega) (by first | rfl | assumption | (simp only [H1δ, nm, seval] <;> rfl)) (by first | (simp only [nrm, aG, @cT, @fp, Bu] <;> rfl) | (simp only [nrm, aG, @cT, @fp, Bu]; done)) (gg (fun _ => rfl) _)) ?_
   refine gw (fun tm => tm 1 = v ∧ tm 2 = .ptr nx 0 ∧ tm 4 = .lit (.int .i64 s) ∧ tm 9 = .lit (.int .i64 b.Strokes.length) ∧ tm 10 = .lit (.int .i64 s) ∧ tm 16 = .lit (.bool (mfB b pl ch s))) (by refine ⟨?_, ?_, ?_, ?_, ?_, ?_⟩ <;> first | (simp only [ua, bL, e1, e2, e9, bj, nm, seval] <;> rfl) | (simp only [ua, bL, e1, e2, e9, bj, nm, seval]; done) | rfl) ?_
   clear e1 e2 e9 bj tm
   rintro tm ⟨e1, e2, e4, e9, bj, bD⟩
   have hw : i64.wrap ((s : Int) + 1) = ((s + 1 : Nat) : Int) := by rw [IntWalk.i64_in _ (by omega)]; omega
   have H2F : ∀ γ, γ < nx → γ ≠ δ → updH H1 δ (.map (encM aI bQ l2)) γ = H γ := by
    intro γ h1 h2
    rw [bc, if_neg h2]
    exact Ok γ h1 h2
   have H2δ : updH H1 δ (.map (encM aI bQ l2)) δ = some (.map (encM aI bQ l2)) := by rw [bc, if_pos rfl]
   have H2n : updH H1 δ (.map (encM aI bQ l2)) nx = some (.cells (some 92) (cPl b pl δ)) := by rw [bc, if_neg (by omega), wJ]; exact H1n
   generalize updH H1 δ (.map (encM aI bQ l2)) = H2 at H2F H2δ H2n ⊢
   have step : skL (skF b pl k) b pl ch (List.range' s (m + 1)) = cond (mfB b pl ch s) (cond (EE b pl 1 s == TK b pl) (some (ch ++ [(s : Int)])) (match skF b pl k (ch ++ [(s : Int)]) with | some c => some c | none => skL (skF b pl k) b pl ch (List.range' (s + 1) m))) (skL (skF b pl k) b pl ch (List.range' (s + 1) m)) := by rw [List.range'_succ]; rfl
   rw [step] at hsk
   cases hm : mfB b pl ch s with
   | false =>
    rw [hm, cond_false] at hsk
    rw [hm] at bD
    simp only [vz, mq, mqm, vsi, tyf, mqt, e1, e2, e4, e9, bj, bD, hw, nm, seval, ua]
    refine ⟨m, Nat.lt_succ_self _, ?_⟩
    rw [hIA]
    refine ⟨s + 1, l2, by omega, hsk, rfl, (by dsimp only; omega), H2δ, fg, H2n, H2F, ?_, ?_, ?_, ?_⟩
    all_goals first | (simp only [ua, e1, e2, e9, nm, seval] <;> rfl) | (simp only [ua, e1, e2, e9, nm, seval]; done) | rfl
   | true =>
    rw [hm, cond_true] at hsk
    rw [hm] at bD
    have hnext := hc.next hB wI (by omega) hs hm
    have hchn : (ch ++ [(s : Int)]) ≠ [] := by simp
    refine joinP (R := ∀ (tm : Nat → VV) (g qY : Nat) (H3 : Nat → Option VObj) (el : Option TypeId), eD ≤ g → g < qY → eD ≤ qY → tm 1 = v → tm 2 = .ptr nx 0 → tm 4 = .lit (.int .i64 s) → tm 5 = .ref g 0 (ch ++ [(s : Int)]).length 1 (ch ++ [(s : Int)]).length → tm 9 = .lit (.int .i64 b.Strokes.length) → tm 10 = .lit (.int .i64 s) → H3 g = some (.cells el (ae eI (ch ++ [(s : Int)]))) → (∀ γ, γ < eD → H3 γ = H2 γ) → CWp Tryz.prog (G0.at (some none)) Tryz.f111.ntmps ?cc ?qq ⟨tm, H3, qY, []⟩) ?hk ?hm
    case hm =>
     intro key
     rcases hv with ⟨hch, hv'⟩ | ⟨hne, hv'⟩
     ·have e1' := e1.trans hv'
      simp only [vz, mq, mqm, vsi, tyf, mqt, e1', e2, e4, e9, bj, bD, nm, seval, ua]
      refine ktreeR rfl (al.at Ol) ?_
      simp only [vz, mq, mqm, vsi, tyf, mqt, e1', e2, e4, e9, bj, bD, nm, seval, ua]
      have hroom1 : roomOk 8 ([] ++ [(s : Int)]).length = true := rfl
      refine l8 (w := 1) (enc := eI) (ys := [(s : Int)]) (jT := some 3) (fun _ => rfl) gL gi Tryz.underlying22 (by simp only [ua, nm, seval]; rfl) (Nat.zero_lt_succ _) hroom1 ?_
      simp only [vz, mq, mqm, vsi, tyf, mqt, e1', e2, e4, e9, bj, bD, nm, seval, ua]
      refine key _ (eD + 12) _ _ (some 3) ?_ ?_ ?_ ?_ ?_ ?_ ?_ ?_ ?_ ?_ ?_
      ·omega
      ·omega
      ·omega
      rotate_right
      ·intro γ hγ
       simp only [updH]
       repeat rw [if_neg (by omega)]
      all_goals (subst hch hv'; first | (simp only [ua, bc, e1', e2, e4, e9, bj, nm, seval] <;> rfl) | (simp only [ua, bc, e1', e2, e4, e9, bj, nm, seval]; done) | rfl)
     ·have e1' := e1.trans hv'
      have hcl : Dr ch = some ch := by
       unfold Dr
       have h1 : 1 ≤ ch.length := by cases ch with | nil => exact absurd rfl hne | cons a q => simp
       rw [xe h1, cond_true, room8 (by omega), cond_true]
      simp only [vz, mq, mqm, vsi, tyf, mqt, e1', e2, e4, e9, bj, bD, nm, seval, ua]
      refine kown (args0 := [sI ch]) (by first | (simp only [nrm, aG, @cT] <;> rfl) | rfl) (by simp only [tre, aK, mqr, Bool.and_self]) (XS _ _ hcl) ?_
      simp only [vz, mq, mqm, vsi, tyf, mqt, e1', e2, e4, e9, bj, bD, nm, seval, ua]
      have hroom : roomOk 8 (ch ++ [(s : Int)]).length = true := room8 (by simp; omega)
      refine k_app (w := 1) (enc := eI) (xs := ch) (ys := [(s : Int)]) (el := none) (jT := some 3) (fun _ => rfl) gL gi Tryz.underlying22 (by simp only [ua, nm, seval]) (by simp only [ua, nm, seval]; rfl) (Nat.zero_lt_succ _) hroom ?_
      simp only [vz, mq, mqm, vsi, tyf, mqt, e1', e2, e4, e9, bj, bD, nm, seval, ua]
      refine key _ (eD + 12) _ _ (sameEl none 3) ?_ ?_ ?_ ?_ ?_ ?_ ?_ ?_ ?_ ?_ ?_
      ·omega
      ·omega
      ·omega
      rotate_right
      ·intro γ hγ
       simp only [updH, without]
       repeat rw [if_neg (by omega)]
      all_goals (subst hv'; first | (simp only [ua, bc, bm, e1', e2, e4, e9, bj, nm, seval] <;> rfl) | (simp only [ua, bc, bm, e1', e2, e4, e9, bj, nm, seval]; done) | rfl)
    case hk =>
     intro tm g qY H3 el YC XT CT e1 e2 e4 e5 e9 bj H3g H3F
     have H3δ : H3 δ = some (.map (encM aI bQ l2)) := by rw [H3F δ (by omega)]; exact H2δ
     have H3n : H3 nx = some (.cells (some 92) (cPl b pl δ)) := by rw [H3F nx (by omega)]; exact H2n
     rw [wJ] at H3n
     have n2 := mn (a := nx) (m := 6) (b := qY) (by omega)
     have Sz := hY (show δ < qY by omega)
     have S0 := hY XT
     have qgd := ne_f (show g ≠ δ by omega)
     have qgn := ne_f (show g ≠ nx by omega)
     obtain ⟨l3, ee, j2⟩ := s5 hB hp (.inr rfl) fg (s := (s : Int)) (by omega) (by omega)
     rw [Int.toNat_natCast] at ee
     obtain ⟨l4, et, yb⟩ := DP hB hp j2
     refine sn (fun tm => tm 1 = v ∧ tm 2 = .ptr nx 0 ∧ tm 4 = .lit (.int .i64 s) ∧ tm 5 = .ref g 0 (ch ++ [(s : Int)]).length 1 (ch ++ [(s : Int)]).length ∧ tm 9 = .lit (.int .i64 b.Strokes.length) ∧ tm 10 = .lit (.int .i64 s)) ⟨e1, e2, e4, e5, e9, bj⟩ ?_
     clear e1 e2 e4 e5 e9 bj tm
     rintro tm ⟨e1, e2, e4, e5, e9, bj⟩
     simp only [vz, mq, mqm, vsi, tyf, mqt, n2, Sz, S0, qdn, qgd, qgn, H3δ, H3n, H3g, e2, e4, e5, nm, seval, ua]
     refine dkupd (VUpd.at (β := δ) (y := (fun _ => .lit (.int .i64 (EE b pl 1 s)))) (DT _ _ _ _ _ _ ee) (by omega) (by first | rfl | assumption | (simp only [H3δ, nm, seval] <;> rfl)) (by first | rfl | (simp only [nrm, aG, @cT, @fp] <;> rfl)) (gg (fun _ => rfl) _)) ?_
     refine gw (fun tm => tm 1 = v ∧ tm 2 = .ptr nx 0 ∧ tm 4 = .lit (.int .i64 s) ∧ tm 5 = .ref g 0 (ch ++ [(s : Int)]).length 1 (ch ++ [(s : Int)]).length ∧ tm 9 = .lit (.int .i64 b.Strokes.length) ∧ tm 10 = .lit (.int .i64 s) ∧ tm 25 = .lit (.int .i64 (EE b pl 1 s))) (by refine ⟨?_, ?_, ?_, ?_, ?_, ?_, ?_⟩ <;> first | (simp only [ua, bL, e1, e2, e4, e5, e9, bj, nm, seval] <;> rfl) | (simp only [ua, bL, e1, e2, e4, e5, e9, bj, nm, seval]; done) | rfl) ?_
     clear e1 e2 e4 e5 e9 bj tm
     rintro tm ⟨e1, e2, e4, e5, e9, bj, bV⟩
     simp only [vz, mq, mqm, vsi, tyf, mqt, n2, Sz, S0, qdn, qgd, qgn, H3δ, H3n, H3g, e2, e4, e5, bV, nm, seval, ua]
     refine dkupd (VUpd.at (β := δ) (es := encM aI bQ l3) (y := (fun _ => .lit (.int .i64 (TK b pl)))) (wY _ _ _ _ et) (by omega) (by first | rfl | assumption | (simp only [bc, nm, seval] <;> rfl)) (by first | rfl | (simp only [nrm, aG, @cT, @fp] <;> rfl)) (gg (fun _ => rfl) _)) ?_
     refine gw (fun tm => tm 1 = v ∧ tm 2 = .ptr nx 0 ∧ tm 4 = .lit (.int .i64 s) ∧ tm 5 = .ref g 0 (ch ++ [(s : Int)]).length 1 (ch ++ [(s : Int)]).length ∧ tm 9 = .lit (.int .i64 b.Strokes.length) ∧ tm 10 = .lit (.int .i64 s) ∧ tm 25 = .lit (.int .i64 (EE b pl 1 s)) ∧ tm 27 = .lit (.int .i64 (TK b pl))) (by refine ⟨?_, ?_, ?_, ?_, ?_, ?_, ?_, ?_⟩ <;> first | (simp only [ua, bL, e1, e2, e4, e5, e9, bj, bV, nm, seval] <;> rfl) | (simp only [ua, bL, e1, e2, e4, e5, e9, bj, bV, nm, seval]; done) | rfl) ?_
     clear e1 e2 e4 e5 e9 bj bV tm
     rintro tm ⟨e1, e2, e4, e5, e9, bj, bV, bu⟩
     simp only [vz, mq, mqm, vsi, tyf, mqt, e2, e4, e5, bV, bu, nm, seval, ua]
     refine po ⟨?_, ?_⟩
     ·simp only [jo, jq, dV, jr, and_true, true_and]
      repeat' (first | exact trivial | refine And.intro ?_ ?_ | rw [dV] | rw [js] | exact Or.inl (by decide +kernel) | exact Or.inl (by dsimp only; decide +kernel) | (refine Or.inr ⟨?_, ?_⟩ <;> simp; done) | (refine Or.inr ⟨?_, ?_⟩ <;> simp <;> omega) | (refine Or.inr ⟨?_, ?_⟩ <;> simp [VEff.wr] <;> omega))
     have H4δ : updH (updH H3 δ (.map (encM aI bQ l3))) δ (.map (encM aI bQ l4)) δ = some (.map (encM aI bQ l4)) := by rw [bc, if_pos rfl]
     have H4F : ∀ γ, γ ≠ δ → updH (updH H3 δ (.map (encM aI bQ l3))) δ (.map (encM aI bQ l4)) γ = H3 γ := by
      intro γ h
      rw [bc, if_neg h, bc, if_neg h]
     generalize updH (updH H3 δ (.map (encM aI bQ l3))) δ (.map (encM aI bQ l4)) = H4 at H4δ H4F ⊢
     have H4g : H4 g = some (.cells el (ae eI (ch ++ [(s : Int)]))) := by rw [H4F g (by omega)]; exact H3g
     have H4n : H4 nx = some (.cells (some 92) (cPl b pl δ)) := by rw [H4F nx (by omega), wJ]; exact H3n
     have H4fr : ∀ γ, γ < nx → γ ≠ δ → H4 γ = H γ := by
      intro γ h1 h2
      rw [H4F γ h2, H3F γ (by omega)]
      exact H2F γ h1 h2
     clear H3F H3g H3n H3δ
     cases hf : (EE b pl 1 s == TK b pl) with
     | true =>
      rw [hf, cond_true] at hsk
      simp only [vz, mq, mqm, vsi, tyf, mqt, e1, e2, e4, e5, e9, bj, bV, bu, hf, nm, seval, ua]
      refine RF ?_
      exact ⟨by omega, ch ++ [(s : Int)], g, hsk.symm, hchn, rfl, by omega, ⟨el, H4g⟩, by omega, H4fr⟩
     | false =>
      rw [hf, cond_false] at hsk
      rw [wJ] at H4n
      simp only [vz, mq, mqm, vsi, tyf, mqt, e1, e2, e4, e5, e9, bj, bV, bu, hf, H4n, nm, seval, ua]
      refine kopen ?_
      rw [mB]
      refine aB.mono (aB.freeze1 (args' := [plM b pl δ, sI (ch ++ [(s : Int)])]) H4g ⟨.same, Frozen.own H4g (eI_ok.treeL _) (fm (w := 1) (enc := eI) (fun _ => rfl) _), trivial⟩ (aB.atR (ih (ch ++ [(s : Int)]) (sI (ch ++ [(s : Int)])) hnext (by simp; omega) (.inr ⟨hchn, rfl⟩) δ _ _ l4 (by omega) (by rw [bm, if_neg (by omega)]; exact H4δ) yb))) ?_ ?_
      ·rintro x H5 n5 ⟨g1, g2, ⟨l5, H5δ, XU⟩, g4⟩
       rw [g1] at hsk
       simp only [vz, mq, mqm, vsi, tyf, mqt, e1, e2, e4, e5, e9, bj, bV, bu, hw, nm, seval, ua]
       refine ⟨m, Nat.lt_succ_self _, ?_⟩
       rw [hIA]
       refine ⟨s + 1, l5, by omega, hsk, rfl, (by dsimp only; omega), H5δ, XU, ?_, ?_, ?_, ?_, ?_, ?_⟩
       ·show H5 nx = _
        rw [g4 nx (by omega) (by omega), bm, if_neg (by omega), wJ]
        exact H4n
       ·intro γ h1 h2
        show H5 γ = _
        rw [g4 γ (by omega) h2, bm, if_neg (by omega)]
        exact H4fr γ h1 h2
       all_goals first | (simp only [ua, e1, e2, e9, nm, seval] <;> rfl) | (simp only [ua, e1, e2, e9, nm, seval]; done) | rfl
      ·rintro x H5 n5 ⟨g1, c, g', g2, g3, rfl, g5, g6, g7, g8⟩
       rw [g2] at hsk
       refine RF ?_
       refine ⟨by omega, c, g', hsk.symm, g3, rfl, g5, g6, by omega, fun γ h1 h2 => ?_⟩
       rw [g8 γ (by omega) h2, bm, if_neg (by omega)]
       exact H4fr γ h1 h2
theorem Om (b : GBk) (pl : List Int) (H : Nat → Option VObj) (nx : Nat) : aB Tryz.prog G0 69 [.agg (cGBk b), sI pl] H nx (fun v H' nx' => ∃ δ, v = .agg (planC b pl ++ [.mp δ]) ∧ nx ≤ δ ∧ δ < nx' ∧ H' δ = some (.map []) ∧ ∀ γ, γ < nx → H' γ = H γ) (fun _ _ _ => False) := by
 refine aB.run mixed Tryz.call69 Tryz.func69 rfl (by simp [Tryz.ntmps69]; kernel_rfl) ?_
 simp only [vz, mq, mqm, vsi, tyf, mqt, seval, ua, rg, nm]
 refine cz (x := .agg (planC b pl ++ [.mp (nx + 4)])) (by first | (simp only [Tryz.results69, resV, resL, aO, cj, ck, uw, cr, tyf, mqt, nm, seval] <;> rfl) | rfl) ?_
 refine ⟨nx + 4, rfl, by omega, by omega, by simp [updH], fun γ hγ => ?_⟩
 simp only [updH]
 repeat rw [if_neg (by omega)]
theorem XV {b : GBk} (hB : BH b) (wI : ∀ s, s < b.Strokes.length → 1 ≤ dF b 1 s) {pl : List Int} (hp : pl.length = b.Strokes.length) {c : List Int} (hc : skF b pl (b.Strokes.length + 1) [] = some c) {δ nx : Nat} {H : Nat → Option VObj} {l : List (Gbe × Int)} (hδ : δ < nx) (Hδ : H δ = some (.map (encM aI bQ l))) (hl : InvE b pl l) :
  aB Tryz.prog G0 79 [plM b pl δ] H nx (fun x H' nx' => nx ≤ nx' ∧ ∃ g el, x = .ref g 0 c.length 1 c.length ∧ H' g = some (.cells el (ae eI c))) (fun _ _ _ => False) := by
 have hn := hB.ns
 have qd := hY hδ
 refine aB.run mixed Tryz.call79 Tryz.func79 rfl (by simp [Tryz.ntmps79]; kernel_rfl) ?_
 simp only [Bv, vz, mq, mqm, vsi, tyf, mqt, qd, Hδ, nm, seval, ua]
 have h1 : ChOk b [] (b.Strokes.length + 1) := ⟨(fun x h => by cases h), (fun _ => Nat.le_refl _), (fun a h => by cases h), (by simp)⟩
 refine kopen ?_
 rw [mB]
 refine aB.mono (aB.atR (Sy hB wI hp (b.Strokes.length + 1) [] (.lit (.slice none 0 0)) h1 (by simp; omega) (.inl ⟨rfl, rfl⟩) δ _ _ l (by omega) (by simp only [bc, qd, nm, seval, Hδ]) hl)) ?_ ?_
 ·rintro x H5 n5 ⟨g1, _⟩
  rw [hc] at g1; cases g1
 ·rintro x H5 n5 ⟨g1, c', g, g2, g3, rfl, g5, ⟨el, g6⟩, g7, g8⟩
  rw [hc] at g2
  cases g2
  have n5' := mn (a := nx) (m := 6) (b := n5) g1
  have H5c : H5 (nx + 1) = some (.cells (some 22) [.lit (.slice none 0 0)]) := by
   rw [g8 (nx + 1) (by omega) (by omega)]
   simp [updH]
  refine Mj ?_
  refine VDeferred.run mixed Tryz.call110 Tryz.func110 rfl (by kernel_rfl) ?_
  simp only [vz, mq, mqm, vsi, tyf, mqt, n5', H5c, nm, seval, ua]
  refine W6 Tryz.results110 ?_
  refine Mk (x := .ref g 0 c.length 1 c.length) (by first | (simp only [Tryz.results79, resV, resL, aO, cj, ck, bc, uw, cr, tyf, mqt, n5', H5c, nm, seval] <;> rfl) | (simp only [Tryz.results79, resV, resL, aO, cj, ck, bc, uw, cr, tyf, mqt, n5', H5c, nm, seval]; done)) ?_
  refine ⟨by omega, g, el, rfl, ?_⟩
  simp only [updH]
  repeat rw [if_neg (by omega)]
  exact g6
def Aq (b : GBk) (pl : List Int) : Option (List Int × Int) := Option.bind (qH b) fun r => cond r (Option.bind (qI b pl) fun r2 => cond r2 (cond (benchB b && decide (pl.length = b.Strokes.length)) (Option.bind (skF b pl (b.Strokes.length + 1) []) fun c => some (c, 0)) none) (some ([], 2))) (some ([], 2))
theorem Xe (ak : GBk) (ai : List Int) (R : List Int × Int) (h : Aq ak ai = some R) : al Tryz.prog G0 42 [.agg (cGBk ak), .sl (ae eI ai) (List.length ai) false] (.tree (.tup [.sl (ae eI R.1) (List.length R.1) false, .lit (.int .i64 R.2)])) := by
 refine al.runR mixed Tryz.call42 Tryz.func42 rfl (by simp [Tryz.ntmps42]; kernel_rfl) ?_
 unfold Aq at h
 rcases o1 : qH ak with _ | r1
 ·rw [o1] at h; cases h
 rw [o1, Option.bind_some] at h
 simp only [vz, mq, mqm, vsi, tyf, mqt, nm, seval]
 refine ktree (args0 := [.agg (cGBk ak)]) (by first | (simp only [nrm, aG, @cT] <;> rfl) | rfl) (by simp only [tre, aK, mqr, Bool.and_self]) (Dw _ _ o1) ?_
 refine bM (fun tm => tm 1 = sI ai ∧ tm 2 = .ptr 0 0 ∧ tm 7 = .lit (.bool r1)) (by refine ⟨?_, ?_, ?_⟩ <;> first | (simp only [ua, bL, nm, seval] <;> rfl) | rfl) ?_
 rintro tm ⟨e1, e2, e7⟩
 cases r1 with
 | false =>
  simp only [cond_false, Option.some.injEq] at h
  subst h
  simp only [vz, mq, mqm, vsi, tyf, mqt, e1, e2, e7, nm, seval]
  refine cz (x := .tup [.lit (.slice none 0 0), .lit (.int .i64 2)]) (by first | (simp only [Tryz.results42, resV, resL, aO, cj, ck, uw, cr, tyf, mqt, nm, seval] <;> rfl) | rfl) ?_
  refine gV ?_ ?_
  ·simp only [tre, aK, mqr, Bool.and_self]
  ·first | (simp only [outV, uw, gq, cr, tyf, mqt, nrm, aG, nm, seval] <;> rfl) | rfl
 | true =>
 rw [cond_true] at h
 rcases o2 : qI ak ai with _ | r2
 ·rw [o2] at h; cases h
 rw [o2, Option.bind_some] at h
 simp only [vz, mq, mqm, vsi, tyf, mqt, e1, e2, e7, nm, seval]
 refine ktree (args0 := [.agg (cGBk ak), sI ai]) (by first | (simp only [nrm, aG, @cT] <;> rfl) | rfl) (by simp only [tre, aK, mqr, Bool.and_self]) (Dx _ _ _ o2) ?_
 refine bM (fun tm => tm 1 = sI ai ∧ tm 2 = .ptr 0 0 ∧ tm 9 = .lit (.bool false) ∧ tm 12 = .lit (.bool r2)) (by refine ⟨?_, ?_, ?_, ?_⟩ <;> first | (simp only [ua, bL, e1, e2, e7, nm, seval] <;> rfl) | rfl) ?_
 clear e1 e2 e7 tm
 rintro tm ⟨e1, e2, e9, bX⟩
 cases r2 with
 | false =>
  simp only [cond_false, Option.some.injEq] at h
  subst h
  simp only [vz, mq, mqm, vsi, tyf, mqt, e1, e2, e9, bX, nm, seval]
  refine cz (x := .tup [.lit (.slice none 0 0), .lit (.int .i64 2)]) (by first | (simp only [Tryz.results42, resV, resL, aO, cj, ck, uw, cr, tyf, mqt, nm, seval] <;> rfl) | rfl) ?_
  refine gV ?_ ?_
  ·simp only [tre, aK, mqr, Bool.and_self]
  ·first | (simp only [outV, uw, gq, cr, tyf, mqt, nrm, aG, nm, seval] <;> rfl) | rfl
 | true =>
 rw [cond_true] at h
 cases hB : benchB ak && decide (ai.length = ak.Strokes.length) with
 | false => rw [hB] at h; cases h
 | true =>
 rw [hB, cond_true] at h
 simp only [Bool.and_eq_true, decide_eq_true_eq] at hB
 rcases hc : skF ak ai (ak.Strokes.length + 1) [] with _ | c
 ·rw [hc] at h; cases h
 rw [hc, Option.bind_some, Option.some.injEq] at h
 subst h
 have hBO := vC.1 hB.1
 have wI : ∀ s, s < ak.Strokes.length → 1 ≤ dF ak 1 s := by
  intro s hs
  obtain ⟨y, _, g2⟩ := getS (b := ak) (s := (s : Int)) (by omega) (by omega)
  rw [Int.toNat_natCast] at g2
  have := (hBO.s g2).hr
  unfold dF
  rw [g2]
  simp
  omega
 simp only [vz, mq, mqm, vsi, tyf, mqt, e1, e2, e9, bX, nm, seval]
 refine kopen ?_
 rw [mB]
 refine aB.mono (aB.atR (Om ak ai _ _)) ?_ (fun _ _ _ h => h.elim)
 rintro v H1 n1 ⟨δ1, rfl, u1, u2, u3, u4⟩
 simp only [vz, mq, mqm, vsi, tyf, mqt, e1, e2, e9, bX, nm, seval]
 refine kopen ?_
 rw [mB]
 refine aB.mono (aB.atR (XV hBO.h wI hB.2 hc u2 (l := []) (by rw [bL]; exact u3) InvE.nil)) ?_ (fun _ _ _ h => h.elim)
 rintro v H2 n2 ⟨g1, g, el, rfl, g2⟩
 simp only [vz, mq, mqm, vsi, tyf, mqt, e1, e2, e9, bX, nm, seval]
 refine cz (x := .tup [.ref g 0 c.length 1 c.length, .lit (.int .i64 0)]) (by first | (simp only [Tryz.results42, resV, resL, aO, cj, ck, uw, cr, tyf, mqt, nm, seval] <;> rfl) | rfl) ?_
 refine gV ?_ ?_
 ·simp only [tre, aK, mqr, Bool.and_self]
 ·first | (simp only [outV, uw, gq, g2, cr, tyf, mqt, nrm, aG, nm, seval] <;> rfl) | (simp only [outV, uw, gq, g2, cr, tyf, mqt, nrm, aG, nm, seval]; done) | rfl
theorem NB {b : GBk} (h : Len b) (hB : BOk b) {pl : List Int} (hP : planB b pl = true) {c : List Int} (hc : skF b pl (b.Strokes.length + 1) [] = some c) : Aq b pl = some (c, 0) := by
 have hl := (BS.1 hP).len
 unfold Aq
 rw [DI h, DJ h, vC.2 hB, hP, show (true && decide (pl.length = b.Strokes.length)) = true by simp [hl]]
 simp only [Option.bind_some, cond_true, hc]
theorem Bw {b : GBk} {s : Nat} {x : GBs} (hx : b.Strokes[s]? = some x) (k : Int) {pl : List Int} : ∀ (l : List Int) (pr : Option Int), lnk (bump b s x k) pl pr l = lnk b pl pr l
 | [], _ => rfl
 | e :: l, pr => by
  unfold lnk
  rw [Bw hx k l, DL]
  have : oB (bump b s x k) pl pr e = oB b pl pr e := by
   unfold oB foB
   rw [DN hx]
  rw [this]
theorem S1 {b : GBk} {s : Nat} {x : GBs} (hx : b.Strokes[s]? = some x) : ∀ (l : List Int), (∀ y ∈ l, 0 ≤ y) → sumD b l ≤ sumD (bump b s x 1) l ∧ ((s : Int) ∈ l → sumD b l + 1 ≤ sumD (bump b s x 1) l)
 | [], _ => ⟨Int.le_refl _, fun h => by cases h⟩
 | e :: l, h => by
  obtain ⟨h1, h2⟩ := S1 hx l (fun y hy => h y (List.mem_cons_of_mem _ hy))
  have he := h e (List.mem_cons_self ..)
  simp only [sumD, DO hx]
  refine ⟨by split <;> omega, fun hs => ?_⟩
  rcases List.mem_cons.1 hs with rfl | hs
  ·rw [Int.toNat_natCast, if_pos rfl]; omega
  ·have := h2 hs
   split <;> omega
theorem Si {b : GBk} (hB : BOk b) {pl l : List Int} {s : Nat} {x : GBs} (hx : b.Strokes[s]? = some x) (hc : chS b pl none 0 l = some (TK b pl)) (hs : (s : Int) ∈ l) : spF b pl s x 9 0 = 0 := by
 obtain ⟨h1, h2⟩ := Dm hB.h l _ _ _ hc
 have h3 := (S1 hx l (fun y hy => ((Bm l none h1).1 y hy).1.1)).2 hs
 have hBb := xi hB hx (k := 1) (by omega) (by omega)
 have h4 := vp hBb (pl := pl) l none 0 (by rw [Bw hx]; exact h1) (fun y hy => by cases hy) (fun _ => Int.le_refl _) (pE _ _)
 unfold spF
 rw [if_neg]
 show ¬ TK (bump b s x (0 + 1)) pl = TK b pl
 rw [show (0 : Int) + 1 = 1 from rfl]
 omega
theorem Bj {b : GBk} {e : Int} {x : GBs} (hx : getI b.Strokes e = some x) : dF b 1 e.toNat = x.Hours.High := by
 have h := hx
 unfold getI at h
 rw [if_pos (ta hx).1] at h
 unfold dF
 rw [h]
 rfl
def rangeFR (f : FuncId) (cf : aC) (jump : Code → RS → ER) (n : Nat) (s : RS) (f0 : FuncId) (first captured : List VV) (ps : Array Tmp) (asg bo : Code) : ER :=
 match cf f0 (first ++ [.yl (s.nx + 1)] ++ captured) ((s.H.put s.nx (some (.deferred (some [])))).put (s.nx + 1) (some (.loopF .ready none (tmL n s.st.tm) ps asg bo f))) (s.nx + 2) with
 | .ret _ H' nx' => match H'.get (s.nx + 1) with
  | some (.loopF .busy _ _ _ _ _ _) => .no (.text 1)
  | some (.loopF _ pe tm ps asg bo fn) => match pe with
   | none => .mk .normal { s with H := H'.put (s.nx + 1) (some (.loopF .exhausted pe tm ps asg bo fn)), nx := nx', df := .coll s.nx :: s.df }
   | some c => jump c { s with H := H'.put (s.nx + 1) (some (.loopF .exhausted pe tm ps asg bo fn)), nx := nx', df := .coll s.nx :: s.df }
  | _ => .no (.text 2)
 | .pan x H' nx' => .mk (.panic x) { s with H := H', nx := nx', df := .coll s.nx :: s.df }
 | .no w => .no w
def GoOk (P : Program) (G : Glob) (f n : Nat) (go : Code → RS → ER) : Prop := ∀ code s e s', go code s = .mk e s' → ∀ Q : VExit → St → Prop, Q e s'.st → VGo P G f n code Q s.st
theorem XW {P : Program} {G : Glob} {cf : aC} (hcf : CallOk P G cf) {f : FuncId} {jump : Code → RS → ER} {n : Nat} (hj : GoOk P G f n jump) {s s' : RS} {e : VExit} {g : Operand} {f0 : FuncId} {first captured : List VV} {ps : Array Tmp} {asg bo : Code}
  (hg : s.st.ρ G g = .fn (.func f0) first captured) (h : rangeFR f cf jump n s f0 first captured ps asg bo = .mk e s') {Q : VExit → St → Prop} (hq : Q e s'.st) : VGo P G f n (.rangeFunc g ps asg bo) Q s.st := by
 refine VGo.range hg ?_
 unfold rangeFR at h
 have eH : ((s.H.put s.nx (some (.deferred (some [])))).put (s.nx + 1) (some (.loopF .ready none (tmL n s.st.tm) ps asg bo f))).get = updH (updH s.st.H s.st.nx (.deferred (some []))) (s.st.nx + 1) (.loopF .ready none (tmL n s.st.tm) ps asg bo f) := by
  rw [nz, nz]; rfl
 split at h
 ·rename_i x H' nx' hc
  have hv := hcf.1 _ _ _ _ _ _ _ hc
  rw [eH] at hv
  refine aB.mono hv ?_ ?_
  ·rintro y H1 n1 ⟨_, rfl, rfl⟩
   split at h
   ·cases h
   ·rename_i st pe k8 k9 kA kC mb hnb hl
    have e2 : ({ s with H := H'.put (s.nx + 1) (some (.loopF .exhausted pe k8 k9 kA kC mb)), nx := n1, df := .coll s.nx :: s.df } : RS).st = { s.st with H := updH H'.get (s.st.nx + 1) (.loopF .exhausted pe k8 k9 kA kC mb), nx := n1, df := .coll s.st.nx :: s.st.df } := by
     simp only [RS.st, nz]
    refine ⟨st, pe, k8, k9, kA, kC, mb, hl, hnb, ?_⟩
    split at h
    ·cases h
     show Q .normal _
     rw [← e2]; exact hq
    ·rename_i c
     show VGo P _ f n c Q _
     rw [← e2]
     exact hj c _ e s' h Q hq
   ·cases h
  ·intro y H1 n1 h; exact h.elim
 ·rename_i x H' nx' hc
  have hv := hcf.2 _ _ _ _ _ _ _ hc
  rw [eH] at hv
  cases h
  refine aB.mono hv ?_ ?_
  ·intro y H1 n1 h; exact h.elim
  ·rintro y H1 n1 ⟨rfl, rfl, rfl⟩
   exact hq
 ·cases h
noncomputable def rangeFF (f : FuncId) (cf : aC) (jump : Code → RS → ER) (n : Nat) (s : RS) (ps : Array Tmp) (asg bo : Code) (code : Code) (x : VV) : ER := match x with
 | .fn (.func f0) first captured => rangeFR f cf jump n s f0 first captured ps asg bo
 | _ => .no (.code code)
noncomputable def goF (G : Glob) (f : FuncId) (run : RunR) (cf : aC) (n : Nat) (k : Nat) : Code → RS → ER :=
 Nat.rec (motive := fun _ => Code → RS → ER) (fun code s => run none n code s) (fun _ ih code s => match code with
  | .seq a b => thenQ (ih a s) (fun s' => ih b s')
  | .block id a => blockQ (ih a s) id
  | .rangeFunc g ps asg bo => rangeFF f cf (fun c s => run none n c s) n s ps asg bo code (ρQ G s.tm g)
  | code => run none n code s) k
theorem Bx {P : Program} {G : Glob} {f n : Nat} {run : RunR} {cf : aC} (hrun : RunOk P G run) (hcf : CallOk P G cf) : ∀ (k : Nat), GoOk P G f n (goF G f run cf n k)
 | 0, code, s, e, s', h, Q, hq => VGo.of (hrun none n code s e s' h Q hq)
 | k + 1, code, s, e, s', h, Q, hq => by
  have ih := Bx (f := f) (n := n) hrun hcf k
  have dflt : run none n code s = .mk e s' → VGo P G f n code Q s.st := fun h => VGo.of (hrun none n code s e s' h Q hq)
  cases code with
  | seq a b =>
   have h' : thenQ (goF G f run cf n k a s) (fun s' => goF G f run cf n k b s') = .mk e s' := h
   cases hs : goF G f run cf n k a s with
   | no w => rw [hs] at h'; cases h'
   | mk e1 s1 =>
    rw [hs] at h'
    cases e1 with
    | normal => exact VGo.seq (ih a s .normal s1 hs _ (ih b s1 e s' h' Q hq))
    | exit id => cases h'; exact VGo.seq (ih a s _ _ hs _ hq)
    | goto l => cases h'; exact VGo.seq (ih a s _ _ hs _ hq)
    | ret => cases h'; exact VGo.seq (ih a s _ _ hs _ hq)
    | panic x => cases h'; exact VGo.seq (ih a s _ _ hs _ hq)
  | block id a =>
   have h' : blockQ (goF G f run cf n k a s) id = .mk e s' := h
   cases hs : goF G f run cf n k a s with
   | no w => rw [hs] at h'; cases h'
   | mk e1 s1 =>
    rw [hs] at h'
    refine VGo.block (ih a s e1 s1 hs _ ?_)
    cases e1 with
    | normal => cases h'; exact hq
    | goto l => cases h'; exact hq
    | ret => cases h'; exact hq
    | panic x => cases h'; exact hq
    | exit id' =>
     have h'' : Bool.rec (motive := fun _ => ER) (.mk (.exit id') s1) (.mk .normal s1) (Nat.beq id' id) = .mk e s' := h'
     show (if id' = id then _ else _)
     by_cases hid : id' = id
     ·have hb : Nat.beq id' id = true := by simpa using hid
      rw [hb] at h''
      cases h''
      rw [if_pos hid]; exact hq
     ·have hb : Nat.beq id' id = false := by cases hq : Nat.beq id' id with | false => rfl | true => exact absurd (by simpa using hq) hid
      rw [hb] at h''
      cases h''
      rw [if_neg hid]; exact hq
  | rangeFunc g ps asg bo =>
   have h' : rangeFF f cf (fun c s => run none n c s) n s ps asg bo (.rangeFunc g ps asg bo) (ρQ G s.tm g) = .mk e s' := h
   rw [ρQ_eq] at h'
   unfold rangeFF at h'
   split at h'
   ·rename_i f0 first captured hg
    exact XW hcf (fun c s e s' hs Q hq => VGo.of (hrun none n c s e s' hs Q hq)) hg h' hq
   ·cases h'
  | _ => exact dflt h
noncomputable def enterF (P : Program) (G : Glob) (run : RunR) (cf : aC) (k : Nat) (f : FuncId) (fn : Func) (code : Code) (args : List VV) (H : Trie VObj) (nx : Nat) : CR :=
 match goF G f run cf fn.ntmps k code (RS.mk (listV args 0 .nil) H nx []) with
 | .mk .ret s => leaveR P G run fn f s s.df .ret s.H s.nx
 | .mk .normal s => leaveR P G run fn f s s.df .ret s.H s.nx
 | .mk (.panic x) s => leaveR P G run fn f s s.df (.pan x false) s.H s.nx
 | .mk _ _ => .no (.fn f)
 | .no w => .no w
noncomputable def oe (P : Program) (G : Glob) (run : RunR) (cf : aC) (k : Nat) : aC := fun f args H nx => match textQ P f with
 | some (fn, code) => Bool.rec (motive := fun _ => CR) (.no (.fn f)) (enterF P G run cf k f fn code args H nx) (Nat.ble args.length fn.ntmps)
 | none => .no (.fn f)
theorem On {P : Program} {f : FuncId} {fn : Func} {code : Code} (h : textQ P f = some (fn, code)) : P.funcs[f]? = some fn ∧ fn.body = some code ∧ nameQ fn = true := by
 unfold textQ at h
 split at h
 ·cases h
 ·rename_i rb hf
  split at h
  ·cases h
  ·rename_i c1 hb
   split at h
   ·rename_i hn
    cases h
    exact ⟨hf, hb, hn⟩
   ·cases h
theorem S2 {P : Program} {G : Glob} {run : RunR} {cf : aC} {k : Nat} (hrun : RunOk P G run) (hcf : CallOk P G cf) {f : FuncId} {args : List VV} {H : Trie VObj} {nx : Nat} {R Rp : VV → (Nat → Option VObj) → Nat → Prop}
  (h1 : ∀ x H' nx', oe P (G.at (some none)) run cf k f args H nx = .ret x H' nx' → R x H'.get nx') (h2 : ∀ x H' nx', oe P (G.at (some none)) run cf k f args H nx = .pan x H' nx' → Rp x H'.get nx') (h3 : ∀ w, oe P (G.at (some none)) run cf k f args H nx ≠ .no w) : aB P G f args H.get nx R Rp := by
 unfold oe at h1 h2 h3
 cases ht : textQ P f with
 | none => exact absurd (by simp only [ht]) (h3 (.fn f))
 | some p =>
  obtain ⟨fn, code⟩ := p
  obtain ⟨hf, hb, hn⟩ := On ht
  cases hc : Nat.ble args.length fn.ntmps with
  | false => exact absurd (by simp only [ht, hc]) (h3 (.fn f))
  | true =>
   simp only [ht, hc] at h1 h2 h3
   simp only [Nat.ble_eq] at hc
   unfold enterF at h1 h2 h3
   rw [Ex] at h1 h2 h3
   cases hr : goF (G.at (some none)) f run cf fn.ntmps k code (RS.mk (Trie.ofList 0 args .nil) H nx []) with
   | no w => exact absurd (by rw [hr]) (h3 w)
   | mk e s =>
    rw [hr] at h1 h2 h3
    have body : OpenPostD P G fn R Rp e s.st → aB P G f args H.get nx R Rp := by
     intro hq
     have := Bx (G := G.at (some none)) (f := f) (n := fn.ntmps) hrun hcf k code _ e s hr _ hq
     rw [argsR] at this
     exact aB.of_bodyGo (Oo hf hb hn) hf hb hc this
    cases e with
    | ret => exact body (rY hrun s.df .ret s.H s.nx h1 h2 h3)
    | normal => exact body (rY hrun s.df .ret s.H s.nx h1 h2 h3)
    | panic x => exact body (rY hrun s.df (.pan x false) s.H s.nx h1 h2 h3)
    | exit id => exact absurd rfl (h3 (.fn f))
    | goto l => exact absurd rfl (h3 (.fn f))
noncomputable def cfF (P : Program) (G : Glob) (run : RunR) (fs : List Nat) (k : Nat) : aC := fun f args H nx => match fs.elem f with
 | true => oe P G run (cfQ P G run) k f args H nx
 | false => cfQ P G run f args H nx
theorem By {P : Program} {G : Glob} {run : RunR} {fs : List Nat} {k : Nat} (hrun : RunOk P G run) : CallOk P G (cfF P (G.at (some none)) run fs k) := by
 have hcf : CallOk P G (cfQ P (G.at (some none)) run) := by rw [Ew]; exact Oq hrun
 constructor
 ·intro f args H nx x H' nx' h
  unfold cfF at h
  split at h
  ·exact S2 hrun hcf (fun y H1 n1 e => by rw [h] at e; cases e; exact ⟨rfl, rfl, rfl⟩) (fun y H1 n1 e => by rw [h] at e; cases e) (fun w e => by rw [h] at e; cases e)
  ·exact hcf.1 _ _ _ _ _ _ _ h
 ·intro f args H nx x H' nx' h
  unfold cfF at h
  split at h
  ·exact S2 hrun hcf (fun y H1 n1 e => by rw [h] at e; cases e) (fun y H1 n1 e => by rw [h] at e; cases e; exact ⟨rfl, rfl, rfl⟩) (fun w e => by rw [h] at e; cases e)
  ·exact hcf.2 _ _ _ _ _ _ _ h
noncomputable def runF (P : Program) (G : Glob) (fs : List Nat) (tab : KTab) (k : Nat) : RunR :=
 Nat.rec (motive := fun _ => RunR) (fun _ _ _ _ => .no .fuel) (fun k ih ro n code s => bodyA k ih (cfT tab (cfF P (G.at (some none)) ih fs k)) ro n s (ccB P G code)) k
theorem S3 {P : Program} {G : Glob} {fs : List Nat} {tab : KTab} (hm : P.follows .mixedOrders = true) (ht : KTabOk P G tab) : ∀ (k : Nat), RunOk P G (runF P G fs tab k)
 | 0, _, _, _, _, _, _, h => by cases h
 | k + 1, ro, n, code, s, e, s', h => by
  intro Q hq
  have ih := S3 (G := G) (fs := fs) hm ht k
  exact Gg hm ih (Oa ht (By ih)) h hq
noncomputable def closedF (P : Program) (G : Glob) (fs : List Nat) (tab : KTab) (k : Nat) (f : FuncId) (args : List VV) : PRes ⊕ Why := pureQ (cfF P (G.at (some none)) (runF P G fs tab k) fs k) f args
theorem al.closedF {P : Program} {G : Glob} {fs : List Nat} {tab : KTab} (hm : P.follows .mixedOrders = true) (ht : KTabOk P G tab) (k : Nat) {f : FuncId} {args : List VV} {r : PRes} (h : closedF P G fs tab k f args = .inl r) : al P G f args r := by
 unfold Go.V.closedF at h
 rw [Et] at h
 exact Bz (By (S3 hm ht k)) h
theorem hmix : Tryz.prog.follows .mixedOrders = true := by kernel_rfl
def kB : VV := (VV.agg [(VV.lit (Value.int IntKind.i64 (Int.ofNat 1))), (VV.sl [(VV.lit (Value.int IntKind.i64 (Int.ofNat 5))), (VV.lit (Value.int IntKind.i64 (Int.ofNat 6)))] 2 Bool.false), (VV.sl [(VV.lit (Value.int IntKind.i64 (Int.ofNat 1))), (VV.lit (Value.bool Bool.true)), (VV.lit (Value.int IntKind.i64 (Int.ofNat 2))), (VV.lit (Value.int IntKind.i64 (Int.ofNat 2))), (VV.lit (Value.slice Option.none 0 0)), (VV.lit (Value.int IntKind.i64 (Int.ofNat 0))), (VV.lit (Value.bool Bool.false)), (VV.lit (Value.int IntKind.i64 (Int.ofNat 2))), (VV.lit (Value.int IntKind.i64 (Int.ofNat 3))), (VV.lit (Value.slice Option.none 0 0)), (VV.lit (Value.int IntKind.i64 (Int.ofNat 0))), (VV.lit (Value.bool Bool.true)), (VV.lit (Value.int IntKind.i64 (Int.ofNat 1))), (VV.lit (Value.int IntKind.i64 (Int.ofNat 2))), (VV.sl [(VV.lit (Value.int IntKind.i64 (Int.ofNat 1)))] 1 Bool.false), (VV.lit (Value.int IntKind.i64 (Int.ofNat 1))), (VV.lit (Value.bool Bool.false)), (VV.lit (Value.int IntKind.i64 (Int.ofNat 1))), (VV.lit (Value.int IntKind.i64 (Int.ofNat 3))), (VV.sl [(VV.lit (Value.int IntKind.i64 (Int.ofNat 0)))] 1 Bool.false)] 4 Bool.false)])
def kEnds : VV := (VV.tup [(VV.sl [(VV.lit (Value.int IntKind.i64 (Int.ofNat 2))), (VV.lit (Value.int IntKind.i64 (Int.ofNat 2))), (VV.lit (Value.int IntKind.i64 (Int.ofNat 2))), (VV.lit (Value.int IntKind.i64 (Int.ofNat 3))), (VV.lit (Value.int IntKind.i64 (Int.ofNat 3))), (VV.lit (Value.int IntKind.i64 (Int.ofNat 5))), (VV.lit (Value.int IntKind.i64 (Int.ofNat 3))), (VV.lit (Value.int IntKind.i64 (Int.ofNat 6)))] 4 Bool.false), (VV.lit (Value.int IntKind.i64 (Int.ofNat 0)))])
def kDone : VV := (VV.tup [(VV.agg [(VV.lit (Value.int IntKind.i64 (Int.ofNat 3))), (VV.lit (Value.int IntKind.i64 (Int.ofNat 5)))]), (VV.lit (Value.int IntKind.i64 (Int.ofNat 0)))])
def kLate : VV := (VV.tup [(VV.sl [(VV.lit (Value.int IntKind.i64 (Int.ofNat 1))), (VV.lit (Value.int IntKind.i64 (Int.ofNat 2)))] 2 Bool.false), (VV.lit (Value.int IntKind.i64 (Int.ofNat 0)))])
def kWaits : VV := (VV.tup [(VV.sl [(VV.lit (Value.int IntKind.i64 (Int.ofNat 0))), (VV.lit (Value.int IntKind.i64 (Int.ofNat 0))), (VV.lit (Value.int IntKind.i64 (Int.ofNat 1))), (VV.lit (Value.int IntKind.i64 (Int.ofNat 0)))] 4 Bool.false), (VV.lit (Value.int IntKind.i64 (Int.ofNat 0)))])
def kChain : VV := (VV.tup [(VV.sl [(VV.lit (Value.int IntKind.i64 (Int.ofNat 1))), (VV.lit (Value.int IntKind.i64 (Int.ofNat 3)))] 2 Bool.false), (VV.lit (Value.int IntKind.i64 (Int.ofNat 0)))])
def kSpare : VV := (VV.tup [(VV.lit (Value.int IntKind.i64 (Int.ofNat 1))), (VV.lit (Value.int IntKind.i64 (Int.ofNat 0)))])
def kBest : VV := (VV.tup [(VV.sl [(VV.lit (Value.int IntKind.i64 (Int.ofNat 0))), (VV.lit (Value.int IntKind.i64 (Int.ofNat 1))), (VV.lit (Value.int IntKind.i64 (Int.ofNat 0))), (VV.lit (Value.int IntKind.i64 (Int.ofNat 1)))] 4 Bool.false), (VV.lit (Value.int IntKind.i64 (Int.ofNat 6))), (VV.lit (Value.int IntKind.i64 (Int.ofNat 0)))])
def kCount : VV := (VV.tup [(VV.lit (Value.int IntKind.i64 (Int.ofNat 1))), (VV.lit (Value.int IntKind.i64 (Int.ofNat 0)))])
def kWho : VV := (VV.tup [(VV.sl [(VV.lit (Value.int IntKind.i64 (Int.ofNat 1)))] 1 Bool.false), (VV.lit (Value.int IntKind.i64 (Int.ofNat 0)))])
def kGive : VV := (VV.tup [(VV.lit (Value.int IntKind.i64 (Int.ofNat 1))), (VV.lit (Value.int IntKind.i64 (Int.ofNat 8))), (VV.lit (Value.int IntKind.i64 (Int.ofNat 0)))])
def kMore : VV := (VV.tup [(VV.lit (Value.int IntKind.i64 (Int.ofNat 5))), (VV.lit (Value.int IntKind.i64 (Int.ofNat 0)))])
def kLeast : VV := (VV.tup [(VV.lit (Value.int IntKind.i64 (Int.ofNat 2))), (VV.lit (Value.int IntKind.i64 (Int.ofNat 0)))])
def kRead : VV := (VV.tup [(VV.agg [(VV.lit (Value.int IntKind.i64 (Int.ofNat 0))), (VV.sl [(VV.lit (Value.int IntKind.i64 (Int.ofNat 0)))] 1 Bool.false), (VV.sl [(VV.lit (Value.int IntKind.i64 (Int.ofNat 0))), (VV.lit (Value.bool Bool.false)), (VV.lit (Value.int IntKind.i64 (Int.ofNat 1))), (VV.lit (Value.int IntKind.i64 (Int.ofNat 1))), (VV.lit (Value.slice Option.none 0 0))] 1 Bool.false)]), (VV.lit (Value.int IntKind.i64 (Int.ofNat 0)))])
theorem pB : al Tryz.prog G0 64 [] (.tree kB) := al.closedF (fs := []) (tab := []) hmix trivial 1000 (by kernel_rfl)
theorem pEnds : al Tryz.prog G0 22 [kB, .sl [.lit (.int .i64 (0)), .lit (.int .i64 (1)), .lit (.int .i64 (0)), .lit (.int .i64 (1))] 4 false] (.tree kEnds) := al.closedF (fs := []) (tab := []) hmix trivial 1000 (by kernel_rfl)
theorem pDone : al Tryz.prog G0 23 [kB, .sl [.lit (.int .i64 (0)), .lit (.int .i64 (1)), .lit (.int .i64 (0)), .lit (.int .i64 (1))] 4 false, .lit (.int .i64 (0))] (.tree kDone) := al.closedF (fs := []) (tab := []) hmix trivial 1000 (by kernel_rfl)
theorem pLate : al Tryz.prog G0 36 [kB, .sl [.lit (.int .i64 (0)), .lit (.int .i64 (1)), .lit (.int .i64 (0)), .lit (.int .i64 (0))] 4 false] (.tree kLate) := al.closedF (fs := []) (tab := []) hmix trivial 1000 (by kernel_rfl)
theorem pWaits : al Tryz.prog G0 37 [kB, .sl [.lit (.int .i64 (0)), .lit (.int .i64 (1)), .lit (.int .i64 (0)), .lit (.int .i64 (1))] 4 false] (.tree kWaits) := al.closedF (fs := []) (tab := []) hmix trivial 1000 (by kernel_rfl)
theorem pChain : al Tryz.prog G0 42 [kB, .sl [.lit (.int .i64 (0)), .lit (.int .i64 (1)), .lit (.int .i64 (0)), .lit (.int .i64 (1))] 4 false] (.tree kChain) := al.closedF (fs := []) (tab := []) hmix trivial 1000 (by kernel_rfl)
theorem pSpare : al Tryz.prog G0 43 [kB, .sl [.lit (.int .i64 (0)), .lit (.int .i64 (1)), .lit (.int .i64 (0)), .lit (.int .i64 (1))] 4 false, .lit (.int .i64 (0))] (.tree kSpare) := al.closedF (fs := []) (tab := []) hmix trivial 1000 (by kernel_rfl)
theorem pBest : al Tryz.prog G0 51 [kB] (.tree kBest) := al.closedF (fs := []) (tab := []) hmix trivial 1000 (by kernel_rfl)
theorem pCount : al Tryz.prog G0 52 [kB] (.tree kCount) := al.closedF (fs := []) (tab := []) hmix trivial 1000 (by kernel_rfl)
theorem pWho : al Tryz.prog G0 55 [kB, .lit (.int .i64 (1))] (.tree kWho) := al.closedF (fs := []) (tab := []) hmix trivial 1000 (by kernel_rfl)
theorem pGive : al Tryz.prog G0 56 [kB, .sl [.lit (.int .i64 (0)), .lit (.int .i64 (0)), .lit (.int .i64 (0)), .lit (.int .i64 (0))] 4 false, .lit (.int .i64 (1))] (.tree kGive) := al.closedF (fs := []) (tab := []) hmix trivial 1000 (by kernel_rfl)
theorem pMore : al Tryz.prog G0 60 [kB] (.tree kMore) := al.closedF (fs := []) (tab := []) hmix trivial 1000 (by kernel_rfl)
theorem pLeast : al Tryz.prog G0 61 [kB, .lit (.int .i64 (5))] (.tree kLeast) := al.closedF (fs := []) (tab := []) hmix trivial 1000 (by kernel_rfl)
theorem pRead : al Tryz.prog G0 65 [.lit (.string ⟨⟨[98, 101, 110, 99, 104, 32, 48, 10, 98, 111, 97, 114, 100, 32, 48, 10, 115, 116, 114, 97, 105, 103, 104, 116, 32, 48, 32, 49, 32, 49, 32, 45, 10, 101, 110, 100, 32, 49, 55, 53, 10]⟩⟩)] (.tree kRead) := al.closedF (fs := []) (tab := []) hmix trivial 1000 (by kernel_rfl)
def kTab : KTab := [
  (64, [], kB),
  (22, [kB, .sl [.lit (.int .i64 (0)), .lit (.int .i64 (1)), .lit (.int .i64 (0)), .lit (.int .i64 (1))] 4 false], kEnds),
  (23, [kB, .sl [.lit (.int .i64 (0)), .lit (.int .i64 (1)), .lit (.int .i64 (0)), .lit (.int .i64 (1))] 4 false, .lit (.int .i64 (0))], kDone),
  (36, [kB, .sl [.lit (.int .i64 (0)), .lit (.int .i64 (1)), .lit (.int .i64 (0)), .lit (.int .i64 (0))] 4 false], kLate),
  (37, [kB, .sl [.lit (.int .i64 (0)), .lit (.int .i64 (1)), .lit (.int .i64 (0)), .lit (.int .i64 (1))] 4 false], kWaits),
  (42, [kB, .sl [.lit (.int .i64 (0)), .lit (.int .i64 (1)), .lit (.int .i64 (0)), .lit (.int .i64 (1))] 4 false], kChain),
  (43, [kB, .sl [.lit (.int .i64 (0)), .lit (.int .i64 (1)), .lit (.int .i64 (0)), .lit (.int .i64 (1))] 4 false, .lit (.int .i64 (0))], kSpare),
  (51, [kB], kBest),
  (52, [kB], kCount),
  (55, [kB, .lit (.int .i64 (1))], kWho),
  (56, [kB, .sl [.lit (.int .i64 (0)), .lit (.int .i64 (0)), .lit (.int .i64 (0)), .lit (.int .i64 (0))] 4 false, .lit (.int .i64 (1))], kGive),
  (60, [kB], kMore),
  (61, [kB, .lit (.int .i64 (5))], kLeast),
  (65, [.lit (.string ⟨⟨[98, 101, 110, 99, 104, 32, 48, 10, 98, 111, 97, 114, 100, 32, 48, 10, 115, 116, 114, 97, 105, 103, 104, 116, 32, 48, 32, 49, 32, 49, 32, 45, 10, 101, 110, 100, 32, 49, 55, 53, 10]⟩⟩)], kRead)]
theorem kTabOk : KTabOk Tryz.prog G0 kTab := ⟨⟨by kernel_rfl, pB⟩, ⟨⟨by kernel_rfl, pEnds⟩, ⟨⟨by kernel_rfl, pDone⟩, ⟨⟨by kernel_rfl, pLate⟩, ⟨⟨by kernel_rfl, pWaits⟩, ⟨⟨by kernel_rfl, pChain⟩, ⟨⟨by kernel_rfl, pSpare⟩, ⟨⟨by kernel_rfl, pBest⟩, ⟨⟨by kernel_rfl, pCount⟩, ⟨⟨by kernel_rfl, pWho⟩, ⟨⟨by kernel_rfl, pGive⟩, ⟨⟨by kernel_rfl, pMore⟩, ⟨⟨by kernel_rfl, pLeast⟩, ⟨⟨by kernel_rfl, pRead⟩, trivial⟩⟩⟩⟩⟩⟩⟩⟩⟩⟩⟩⟩⟩⟩
theorem pKnown : al Tryz.prog G0 20 [] (.tree (.lit (.bool true))) := al.closedF (fs := []) hmix kTabOk 1000 (by kernel_rfl)
#print axioms pKnown
theorem rV : al Tryz.prog G0 20 [] (.tree (.lit (.bool true))) := pKnown
end Go.V
end
