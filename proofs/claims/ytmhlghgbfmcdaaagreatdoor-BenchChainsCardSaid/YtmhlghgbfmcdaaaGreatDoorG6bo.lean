/- Part of a proof. -/
import Derived.Test.YtmhlghgbfmcdaaaGreatDoorG6bn
set_option linter.all false
set_option maxRecDepth 4000
set_option maxHeartbeats 40000000
section
namespace Go.V
open Go Go.Proofs IntKind
theorem joinP {R A : Prop} (hk : R) (hm : R → A) : A := hm hk
def ChV (ch : List Int) (v : VV) : Prop := ch = [] ∧ v = .lit (.slice none 0 0) ∨ ch ≠ [] ∧ v = sI ch
theorem MY {b : GBk} (hB : BH b) (so : ∀ s, s < b.Strokes.length → 1 ≤ dF b 1 s) {pl : List Int} (hp : pl.length = b.Strokes.length) : ∀ (k : Nat) (ch : List Int) (v : VV), ChOk b ch k → ch.length + k ≤ 20 → ChV ch v → ∀ (δ nx : Nat) (H : Nat → Option VObj) (l : List (Gbe × Int)), δ < nx → H δ = some (.map (encM aM bQ l)) → InvE b pl l →
  au Tryz.prog G0 111 [plM b pl δ, v] H nx (fun x H' nx' => skF b pl k ch = none ∧ nx ≤ nx' ∧ (∃ l', H' δ = some (.map (encM aM bQ l')) ∧ InvE b pl l') ∧ ∀ γ, γ < nx → γ ≠ δ → H' γ = H γ)
   (fun x H' nx' => nx ≤ nx' ∧ ∃ c g, skF b pl k ch = some c ∧ c ≠ [] ∧ x = .ifc 124 (.agg [.ref g 0 c.length 1 c.length]) ∧ g < nx' ∧ (∃ el, H' g = some (.cells el (ae eI c))) ∧ nx ≤ g ∧ ∀ γ, γ < nx → γ ≠ δ → H' γ = H γ)
 | 0, ch, v, hc, _, _, _, _, _, _, _, _, _ => absurd hc.pos (Nat.lt_irrefl _)
 | k + 1, ch, v, hc, hck, hv, δ, nx, H, l, hδ, Hδ, hl => by
  have hn := hB.ns
  have ih := MY hB so hp k
  have qd := fZ hδ
  have hnv : normL [v] = [sI ch] := by
   rcases hv with ⟨rfl, rfl⟩ | ⟨_, rfl⟩
   ·simp only [nrm, aF]; rfl
   ·simp only [nrm, aF]
  have vS : normV v = sI ch := by
   rcases hv with ⟨rfl, rfl⟩ | ⟨_, rfl⟩
   ·simp only [nrm, aF]; rfl
   ·simp only [nrm, aF]
  refine au.run mixed Tryz.call111 Tryz.func111 rfl (by simp [Tryz.ntmps111]; kernel_rfl) ?_
  simp only [vT, vz, mq, mqm, vsi, tyf, mqt, qd, Hδ, nm, seval, ua]
  obtain ⟨IA, hIA⟩ : ∃ IA : Nat → St → Prop, IA = (fun (m : Nat) (st : St) => ∃ (s : Nat) (l1 : List (Gbe × Int)), s + m = b.Strokes.length ∧ skL (skF b pl k) b pl ch (List.range' s m) = skF b pl (k + 1) ch ∧ st.df = [] ∧ nx + 6 ≤ st.nx ∧ st.H δ = some (.map (encM aM bQ l1)) ∧ InvE b pl l1 ∧ st.H nx = some (.cells (some 92) (cPl b pl δ)) ∧ (∀ γ, γ < nx → γ ≠ δ → st.H γ = H γ) ∧ st.tm 1 = v ∧ st.tm 2 = .ptr nx 0 ∧ st.tm 9 = .lit (.int .i64 b.Strokes.length) ∧ st.tm 10 = .lit (.int .i64 s)) := ⟨_, rfl⟩
  refine loopK mixed (by kernel_rfl) IA b.Strokes.length ?_ ?_
  ·rw [hIA]
   refine ⟨0, l, by omega, rfl, rfl, (by dsimp only; omega), ?_, hl, ?_, ?_, ?_, ?_, ?_, ?_⟩
   ·simp only [ba, qd, nm, seval, Hδ]
   ·simp only [ba, nm, seval]; rfl
   ·intro γ h1 h2
    simp only [updH]
    repeat rw [if_neg (by omega)]
   all_goals first | (simp only [ua, nm, seval] <;> rfl) | (simp only [ua, nm, seval]; done) | rfl
  rintro m ⟨tm, H1, dc, df⟩ hinv
  rw [hIA] at hinv
  obtain ⟨s, l1, hsm, hsk, hdf, uh, H1δ, ep, H1n, HX, e1, e2, e9, bk⟩ := hinv
  simp only at hdf uh H1δ H1n HX e1 e2 e9 bk
  subst hdf
  rw [sq] at H1n
  have nb := kH (a := nx) (m := 6) (b := dc) uh
  have Sh := fZ (show δ < dc by omega)
  have qdn := ne_f (show δ ≠ nx by omega)
  cases m with
  | zero =>
   have hlt : decide ((s : Int) < (b.Strokes.length : Int)) = false := decide_eq_false (by omega)
   have hres : skF b pl (k + 1) ch = none := by rw [← hsk]; rfl
   simp only [vz, mq, mqm, vsi, tyf, mqt, e9, bk, hlt, nm, seval, ua]
   refine BR (x := .tup []) (by simp [Tryz.results111, resV, resL]) ?_
   exact ⟨hres, by omega, ⟨l1, H1δ, ep⟩, HX⟩
  | succ m =>
   have hs : s < b.Strokes.length := by omega
   have hlt : decide ((s : Int) < (b.Strokes.length : Int)) = true := decide_eq_true (by omega)
   obtain ⟨l2, em, fk⟩ := QH hB hp hc.st (by omega) (s := (s : Int)) (by omega) (by omega) ep
   rw [Int.toNat_natCast] at em
   simp only [vz, mq, mqm, vsi, tyf, mqt, e1, e2, e9, bk, hlt, H1n, H1δ, nb, Sh, qdn, nm, seval, ua]
   refine kupd (VUpd.at (β := δ) (y := (fun _ => .lit (.bool (mfB b pl ch s)))) (QC _ _ _ _ _ _ em) (by omega) (by first | rfl | assumption | (simp only [H1δ, nm, seval] <;> rfl)) (by first | (simp only [nrm, aF, @dH, @gk, vS] <;> rfl) | (simp only [nrm, aF, @dH, @gk, vS]; done)) (gj (fun _ => rfl) _)) ?_
   refine gD (fun tm => tm 1 = v ∧ tm 2 = .ptr nx 0 ∧ tm 4 = .lit (.int .i64 s) ∧ tm 9 = .lit (.int .i64 b.Strokes.length) ∧ tm 10 = .lit (.int .i64 s) ∧ tm 16 = .lit (.bool (mfB b pl ch s))) (by refine ⟨?_, ?_, ?_, ?_, ?_, ?_⟩ <;> first | (simp only [ua, bW, e1, e2, e9, bk, nm, seval] <;> rfl) | (simp only [ua, bW, e1, e2, e9, bk, nm, seval]; done) | rfl) ?_
   clear e1 e2 e9 bk tm
   rintro tm ⟨e1, e2, e4, e9, bk, bB⟩
   have hw : i64.wrap ((s : Int) + 1) = ((s + 1 : Nat) : Int) := by rw [IntWalk.i64_in _ (by omega)]; omega
   have H2F : ∀ γ, γ < nx → γ ≠ δ → updH H1 δ (.map (encM aM bQ l2)) γ = H γ := by
    intro γ h1 h2
    rw [ba, if_neg h2]
    exact HX γ h1 h2
   have H2δ : updH H1 δ (.map (encM aM bQ l2)) δ = some (.map (encM aM bQ l2)) := by rw [ba, if_pos rfl]
   have H2n : updH H1 δ (.map (encM aM bQ l2)) nx = some (.cells (some 92) (cPl b pl δ)) := by rw [ba, if_neg (by omega), sq]; exact H1n
   generalize updH H1 δ (.map (encM aM bQ l2)) = H2 at H2F H2δ H2n ⊢
   have step : skL (skF b pl k) b pl ch (List.range' s (m + 1)) = cond (mfB b pl ch s) (cond (EE b pl 1 s == TK b pl) (some (ch ++ [(s : Int)])) (match skF b pl k (ch ++ [(s : Int)]) with | some c => some c | none => skL (skF b pl k) b pl ch (List.range' (s + 1) m))) (skL (skF b pl k) b pl ch (List.range' (s + 1) m)) := by rw [List.range'_succ]; rfl
   rw [step] at hsk
   cases hm : mfB b pl ch s with
   | false =>
    rw [hm, cond_false] at hsk
    rw [hm] at bB
    simp only [vz, mq, mqm, vsi, tyf, mqt, e1, e2, e4, e9, bk, bB, hw, nm, seval, ua]
    refine ⟨m, Nat.lt_succ_self _, ?_⟩
    rw [hIA]
    refine ⟨s + 1, l2, by omega, hsk, rfl, (by dsimp only; omega), H2δ, fk, H2n, H2F, ?_, ?_, ?_, ?_⟩
    all_goals first | (simp only [ua, e1, e2, e9, nm, seval] <;> rfl) | (simp only [ua, e1, e2, e9, nm, seval]; done) | rfl
   | true =>
    rw [hm, cond_true] at hsk
    rw [hm] at bB
    have hnext := hc.next hB so (by omega) hs hm
    have hchn : (ch ++ [(s : Int)]) ≠ [] := by simp
    refine joinP (R := ∀ (tm : Nat → VV) (g nf : Nat) (H3 : Nat → Option VObj) (el : Option TypeId), dc ≤ g → g < nf → dc ≤ nf → tm 1 = v → tm 2 = .ptr nx 0 → tm 4 = .lit (.int .i64 s) → tm 5 = .ref g 0 (ch ++ [(s : Int)]).length 1 (ch ++ [(s : Int)]).length → tm 9 = .lit (.int .i64 b.Strokes.length) → tm 10 = .lit (.int .i64 s) → H3 g = some (.cells el (ae eI (ch ++ [(s : Int)]))) → (∀ γ, γ < dc → H3 γ = H2 γ) → CWp Tryz.prog (G0.at (some none)) Tryz.f111.ntmps ?cc ?qq ⟨tm, H3, nf, []⟩) ?hk ?hm
    case hm =>
     intro key
     rcases hv with ⟨hch, hv'⟩ | ⟨hne, hv'⟩
     ·have e1' := e1.trans hv'
      simp only [vz, mq, mqm, vsi, tyf, mqt, e1', e2, e4, e9, bk, bB, nm, seval, ua]
      refine ktreeR rfl (ak.at HY) ?_
      simp only [vz, mq, mqm, vsi, tyf, mqt, e1', e2, e4, e9, bk, bB, nm, seval, ua]
      have hroom1 : aS 8 ([] ++ [(s : Int)]).length = true := rfl
      refine ru (w := 1) (enc := eI) (ys := [(s : Int)]) (gC := some 3) (fun _ => rfl) dW dL Tryz.underlying22 (by simp only [ua, nm, seval]; rfl) (Nat.zero_lt_succ _) hroom1 ?_
      simp only [vz, mq, mqm, vsi, tyf, mqt, e1', e2, e4, e9, bk, bB, nm, seval, ua]
      refine key _ (dc + 12) _ _ (some 3) ?_ ?_ ?_ ?_ ?_ ?_ ?_ ?_ ?_ ?_ ?_
      ·omega
      ·omega
      ·omega
      rotate_right
      ·intro γ hγ
       simp only [updH]
       repeat rw [if_neg (by omega)]
      all_goals (subst hch hv'; first | (simp only [ua, ba, e1', e2, e4, e9, bk, nm, seval] <;> rfl) | (simp only [ua, ba, e1', e2, e4, e9, bk, nm, seval]; done) | rfl)
     ·have e1' := e1.trans hv'
      have hcl : ym ch = some ch := by
       unfold ym
       have h1 : 1 ≤ ch.length := by cases ch with | nil => exact absurd rfl hne | cons a q => simp
       rw [pV h1, cond_true, room8 (by omega), cond_true]
      simp only [vz, mq, mqm, vsi, tyf, mqt, e1', e2, e4, e9, bk, bB, nm, seval, ua]
      refine kown (args0 := [sI ch]) (by first | (simp only [nrm, aF, @dH] <;> rfl) | rfl) (by simp only [tre, aI, mqr, Bool.and_self]) (Si _ _ hcl) ?_
      simp only [vz, mq, mqm, vsi, tyf, mqt, e1', e2, e4, e9, bk, bB, nm, seval, ua]
      have hroom : aS 8 (ch ++ [(s : Int)]).length = true := room8 (by simp; omega)
      refine k_app (w := 1) (enc := eI) (xs := ch) (ys := [(s : Int)]) (el := none) (gC := some 3) (fun _ => rfl) dW dL Tryz.underlying22 (by simp only [ua, nm, seval]) (by simp only [ua, nm, seval]; rfl) (Nat.zero_lt_succ _) hroom ?_
      simp only [vz, mq, mqm, vsi, tyf, mqt, e1', e2, e4, e9, bk, bB, nm, seval, ua]
      refine key _ (dc + 12) _ _ (sameEl none 3) ?_ ?_ ?_ ?_ ?_ ?_ ?_ ?_ ?_ ?_ ?_
      ·omega
      ·omega
      ·omega
      rotate_right
      ·intro γ hγ
       simp only [updH, without]
       repeat rw [if_neg (by omega)]
      all_goals (subst hv'; first | (simp only [ua, ba, bj, e1', e2, e4, e9, bk, nm, seval] <;> rfl) | (simp only [ua, ba, bj, e1', e2, e4, e9, bk, nm, seval]; done) | rfl)
    case hk =>
     intro tm g nf H3 el TA Sj xG e1 e2 e4 e5 e9 bk H3g H3F
     have H3δ : H3 δ = some (.map (encM aM bQ l2)) := by rw [H3F δ (by omega)]; exact H2δ
     have H3n : H3 nx = some (.cells (some 92) (cPl b pl δ)) := by rw [H3F nx (by omega)]; exact H2n
     rw [sq] at H3n
     have n2 := kH (a := nx) (m := 6) (b := nf) (by omega)
     have MZ := fZ (show δ < nf by omega)
     have Na := fZ Sj
     have qgd := ne_f (show g ≠ δ by omega)
     have qgn := ne_f (show g ≠ nx by omega)
     obtain ⟨l3, ee, ic⟩ := pW hB hp (.inr rfl) fk (s := (s : Int)) (by omega) (by omega)
     rw [Int.toNat_natCast] at ee
     obtain ⟨l4, et, tE⟩ := Fm hB hp ic
     refine rp (fun tm => tm 1 = v ∧ tm 2 = .ptr nx 0 ∧ tm 4 = .lit (.int .i64 s) ∧ tm 5 = .ref g 0 (ch ++ [(s : Int)]).length 1 (ch ++ [(s : Int)]).length ∧ tm 9 = .lit (.int .i64 b.Strokes.length) ∧ tm 10 = .lit (.int .i64 s)) ⟨e1, e2, e4, e5, e9, bk⟩ ?_
     clear e1 e2 e4 e5 e9 bk tm
     rintro tm ⟨e1, e2, e4, e5, e9, bk⟩
     simp only [vz, mq, mqm, vsi, tyf, mqt, n2, MZ, Na, qdn, qgd, qgn, H3δ, H3n, H3g, e2, e4, e5, nm, seval, ua]
     refine dkupd (VUpd.at (β := δ) (y := (fun _ => .lit (.int .i64 (EE b pl 1 s)))) (Fs _ _ _ _ _ _ ee) (by omega) (by first | rfl | assumption | (simp only [H3δ, nm, seval] <;> rfl)) (by first | rfl | (simp only [nrm, aF, @dH, @gk] <;> rfl)) (gj (fun _ => rfl) _)) ?_
     refine gD (fun tm => tm 1 = v ∧ tm 2 = .ptr nx 0 ∧ tm 4 = .lit (.int .i64 s) ∧ tm 5 = .ref g 0 (ch ++ [(s : Int)]).length 1 (ch ++ [(s : Int)]).length ∧ tm 9 = .lit (.int .i64 b.Strokes.length) ∧ tm 10 = .lit (.int .i64 s) ∧ tm 25 = .lit (.int .i64 (EE b pl 1 s))) (by refine ⟨?_, ?_, ?_, ?_, ?_, ?_, ?_⟩ <;> first | (simp only [ua, bW, e1, e2, e4, e5, e9, bk, nm, seval] <;> rfl) | (simp only [ua, bW, e1, e2, e4, e5, e9, bk, nm, seval]; done) | rfl) ?_
     clear e1 e2 e4 e5 e9 bk tm
     rintro tm ⟨e1, e2, e4, e5, e9, bk, cN⟩
     simp only [vz, mq, mqm, vsi, tyf, mqt, n2, MZ, Na, qdn, qgd, qgn, H3δ, H3n, H3g, e2, e4, e5, cN, nm, seval, ua]
     refine dkupd (VUpd.at (β := δ) (es := encM aM bQ l3) (y := (fun _ => .lit (.int .i64 (TK b pl)))) (uj _ _ _ _ et) (by omega) (by first | rfl | assumption | (simp only [ba, nm, seval] <;> rfl)) (by first | rfl | (simp only [nrm, aF, @dH, @gk] <;> rfl)) (gj (fun _ => rfl) _)) ?_
     refine gD (fun tm => tm 1 = v ∧ tm 2 = .ptr nx 0 ∧ tm 4 = .lit (.int .i64 s) ∧ tm 5 = .ref g 0 (ch ++ [(s : Int)]).length 1 (ch ++ [(s : Int)]).length ∧ tm 9 = .lit (.int .i64 b.Strokes.length) ∧ tm 10 = .lit (.int .i64 s) ∧ tm 25 = .lit (.int .i64 (EE b pl 1 s)) ∧ tm 27 = .lit (.int .i64 (TK b pl))) (by refine ⟨?_, ?_, ?_, ?_, ?_, ?_, ?_, ?_⟩ <;> first | (simp only [ua, bW, e1, e2, e4, e5, e9, bk, cN, nm, seval] <;> rfl) | (simp only [ua, bW, e1, e2, e4, e5, e9, bk, cN, nm, seval]; done) | rfl) ?_
     clear e1 e2 e4 e5 e9 bk cN tm
     rintro tm ⟨e1, e2, e4, e5, e9, bk, cN, bA⟩
     simp only [vz, mq, mqm, vsi, tyf, mqt, e2, e4, e5, cN, bA, nm, seval, ua]
     refine nc ⟨?_, ?_⟩
     ·simp only [iA, i9, dQ, i6, and_true, true_and]
      repeat' (first | exact trivial | refine And.intro ?_ ?_ | rw [dQ] | rw [i7] | exact Or.inl (by decide +kernel) | exact Or.inl (by dsimp only; decide +kernel) | (refine Or.inr ⟨?_, ?_⟩ <;> simp; done) | (refine Or.inr ⟨?_, ?_⟩ <;> simp <;> omega) | (refine Or.inr ⟨?_, ?_⟩ <;> simp [VEff.wr] <;> omega))
     have H4δ : updH (updH H3 δ (.map (encM aM bQ l3))) δ (.map (encM aM bQ l4)) δ = some (.map (encM aM bQ l4)) := by rw [ba, if_pos rfl]
     have H4F : ∀ γ, γ ≠ δ → updH (updH H3 δ (.map (encM aM bQ l3))) δ (.map (encM aM bQ l4)) γ = H3 γ := by
      intro γ h
      rw [ba, if_neg h, ba, if_neg h]
     generalize updH (updH H3 δ (.map (encM aM bQ l3))) δ (.map (encM aM bQ l4)) = H4 at H4δ H4F ⊢
     have H4g : H4 g = some (.cells el (ae eI (ch ++ [(s : Int)]))) := by rw [H4F g (by omega)]; exact H3g
     have H4n : H4 nx = some (.cells (some 92) (cPl b pl δ)) := by rw [H4F nx (by omega), sq]; exact H3n
     have H4fr : ∀ γ, γ < nx → γ ≠ δ → H4 γ = H γ := by
      intro γ h1 h2
      rw [H4F γ h2, H3F γ (by omega)]
      exact H2F γ h1 h2
     clear H3F H3g H3n H3δ
     cases hf : (EE b pl 1 s == TK b pl) with
     | true =>
      rw [hf, cond_true] at hsk
      simp only [vz, mq, mqm, vsi, tyf, mqt, e1, e2, e4, e5, e9, bk, cN, bA, hf, nm, seval, ua]
      refine Lv ?_
      exact ⟨by omega, ch ++ [(s : Int)], g, hsk.symm, hchn, rfl, by omega, ⟨el, H4g⟩, by omega, H4fr⟩
     | false =>
      rw [hf, cond_false] at hsk
      rw [sq] at H4n
      simp only [vz, mq, mqm, vsi, tyf, mqt, e1, e2, e4, e5, e9, bk, cN, bA, hf, H4n, nm, seval, ua]
      refine kopen ?_
      rw [lK]
      refine au.mono (au.freeze1 (args' := [plM b pl δ, sI (ch ++ [(s : Int)])]) H4g ⟨.same, Frozen.own H4g (eI_ok.treeL _) (ej (w := 1) (enc := eI) (fun _ => rfl) _), trivial⟩ (au.atR (ih (ch ++ [(s : Int)]) (sI (ch ++ [(s : Int)])) hnext (by simp; omega) (.inr ⟨hchn, rfl⟩) δ _ _ l4 (by omega) (by rw [bj, if_neg (by omega)]; exact H4δ) tE))) ?_ ?_
      ·rintro x H5 n5 ⟨g1, g2, ⟨l5, H5δ, Sk⟩, g4⟩
       rw [g1] at hsk
       simp only [vz, mq, mqm, vsi, tyf, mqt, e1, e2, e4, e5, e9, bk, cN, bA, hw, nm, seval, ua]
       refine ⟨m, Nat.lt_succ_self _, ?_⟩
       rw [hIA]
       refine ⟨s + 1, l5, by omega, hsk, rfl, (by dsimp only; omega), H5δ, Sk, ?_, ?_, ?_, ?_, ?_, ?_⟩
       ·show H5 nx = _
        rw [g4 nx (by omega) (by omega), bj, if_neg (by omega), sq]
        exact H4n
       ·intro γ h1 h2
        show H5 γ = _
        rw [g4 γ (by omega) h2, bj, if_neg (by omega)]
        exact H4fr γ h1 h2
       all_goals first | (simp only [ua, e1, e2, e9, nm, seval] <;> rfl) | (simp only [ua, e1, e2, e9, nm, seval]; done) | rfl
      ·rintro x H5 n5 ⟨g1, c, g', g2, g3, rfl, g5, g6, g7, g8⟩
       rw [g2] at hsk
       refine Lv ?_
       refine ⟨by omega, c, g', hsk.symm, g3, rfl, g5, g6, by omega, fun γ h1 h2 => ?_⟩
       rw [g8 γ (by omega) h2, bj, if_neg (by omega)]
       exact H4fr γ h1 h2
theorem Sl (b : GBk) (pl : List Int) (H : Nat → Option VObj) (nx : Nat) : au Tryz.prog G0 69 [.agg (cGBk b), sI pl] H nx (fun v H' nx' => ∃ δ, v = .agg (planC b pl ++ [.mp δ]) ∧ nx ≤ δ ∧ δ < nx' ∧ H' δ = some (.map []) ∧ ∀ γ, γ < nx → H' γ = H γ) (fun _ _ _ => False) := by
 refine au.run mixed Tryz.call69 Tryz.func69 rfl (by simp [Tryz.ntmps69]; kernel_rfl) ?_
 simp only [vz, mq, mqm, vsi, tyf, mqt, seval, ua, rg, nm]
 refine ct (x := .agg (planC b pl ++ [.mp (nx + 4)])) (by first | (simp only [Tryz.results69, resV, resL, aO, bX, bY, uw, cr, tyf, mqt, nm, seval] <;> rfl) | rfl) ?_
 refine ⟨nx + 4, rfl, by omega, by omega, by simp [updH], fun γ hγ => ?_⟩
 simp only [updH]
 repeat rw [if_neg (by omega)]
theorem Sm {b : GBk} (hB : BH b) (so : ∀ s, s < b.Strokes.length → 1 ≤ dF b 1 s) {pl : List Int} (hp : pl.length = b.Strokes.length) {c : List Int} (hc : skF b pl (b.Strokes.length + 1) [] = some c) {δ nx : Nat} {H : Nat → Option VObj} {l : List (Gbe × Int)} (hδ : δ < nx) (Hδ : H δ = some (.map (encM aM bQ l))) (hl : InvE b pl l) :
  au Tryz.prog G0 79 [plM b pl δ] H nx (fun x H' nx' => nx ≤ nx' ∧ ∃ g el, x = .ref g 0 c.length 1 c.length ∧ H' g = some (.cells el (ae eI c))) (fun _ _ _ => False) := by
 have hn := hB.ns
 have qd := fZ hδ
 refine au.run mixed Tryz.call79 Tryz.func79 rfl (by simp [Tryz.ntmps79]; kernel_rfl) ?_
 simp only [vT, vz, mq, mqm, vsi, tyf, mqt, qd, Hδ, nm, seval, ua]
 have h1 : ChOk b [] (b.Strokes.length + 1) := ⟨(fun x h => by cases h), (fun _ => Nat.le_refl _), (fun a h => by cases h), (by simp)⟩
 refine kopen ?_
 rw [lK]
 refine au.mono (au.atR (MY hB so hp (b.Strokes.length + 1) [] (.lit (.slice none 0 0)) h1 (by simp; omega) (.inl ⟨rfl, rfl⟩) δ _ _ l (by omega) (by simp only [ba, qd, nm, seval, Hδ]) hl)) ?_ ?_
 ·rintro x H5 n5 ⟨g1, _⟩
  rw [hc] at g1; cases g1
 ·rintro x H5 n5 ⟨g1, c', g, g2, g3, rfl, g5, ⟨el, g6⟩, g7, g8⟩
  rw [hc] at g2
  cases g2
  have n5' := kH (a := nx) (m := 6) (b := n5) g1
  have H5c : H5 (nx + 1) = some (.cells (some 22) [.lit (.slice none 0 0)]) := by
   rw [g8 (nx + 1) (by omega) (by omega)]
   simp [updH]
  refine BT ?_
  refine VDeferred.run mixed Tryz.call110 Tryz.func110 rfl (by kernel_rfl) ?_
  simp only [vz, mq, mqm, vsi, tyf, mqt, n5', H5c, nm, seval, ua]
  refine OD Tryz.results110 ?_
  refine BU (x := .ref g 0 c.length 1 c.length) (by first | (simp only [Tryz.results79, resV, resL, aO, bX, bY, ba, uw, cr, tyf, mqt, n5', H5c, nm, seval] <;> rfl) | (simp only [Tryz.results79, resV, resL, aO, bX, bY, ba, uw, cr, tyf, mqt, n5', H5c, nm, seval]; done)) ?_
  refine ⟨by omega, g, el, rfl, ?_⟩
  simp only [updH]
  repeat rw [if_neg (by omega)]
  exact g6
def qt (b : GBk) (pl : List Int) : Option (List Int × Int) := Option.bind (pT b) fun r => cond r (Option.bind (pU b pl) fun r2 => cond r2 (cond (benchB b && decide (pl.length = b.Strokes.length)) (Option.bind (skF b pl (b.Strokes.length + 1) []) fun c => some (c, 0)) none) (some ([], 2))) (some ([], 2))
theorem RI (al : GBk) (ah : List Int) (R : List Int × Int) (h : qt al ah = some R) : ak Tryz.prog G0 42 [.agg (cGBk al), .sl (ae eI ah) (List.length ah) false] (.tree (.tup [.sl (ae eI R.1) (List.length R.1) false, .lit (.int .i64 R.2)])) := by
 refine ak.runR mixed Tryz.call42 Tryz.func42 rfl (by simp [Tryz.ntmps42]; kernel_rfl) ?_
 unfold qt at h
 rcases o1 : pT al with _ | r1
 ·rw [o1] at h; cases h
 rw [o1, Option.bind_some] at h
 simp only [vz, mq, mqm, vsi, tyf, mqt, nm, seval]
 refine ktree (args0 := [.agg (cGBk al)]) (by first | (simp only [nrm, aF, @dH] <;> rfl) | rfl) (by simp only [tre, aI, mqr, Bool.and_self]) (Ml _ _ o1) ?_
 refine bN (fun tm => tm 1 = sI ah ∧ tm 2 = .ptr 0 0 ∧ tm 7 = .lit (.bool r1)) (by refine ⟨?_, ?_, ?_⟩ <;> first | (simp only [ua, bW, nm, seval] <;> rfl) | rfl) ?_
 rintro tm ⟨e1, e2, e7⟩
 cases r1 with
 | false =>
  simp only [cond_false, Option.some.injEq] at h
  subst h
  simp only [vz, mq, mqm, vsi, tyf, mqt, e1, e2, e7, nm, seval]
  refine ct (x := .tup [.lit (.slice none 0 0), .lit (.int .i64 2)]) (by first | (simp only [Tryz.results42, resV, resL, aO, bX, bY, uw, cr, tyf, mqt, nm, seval] <;> rfl) | rfl) ?_
  refine fB ?_ ?_
  ·simp only [tre, aI, mqr, Bool.and_self]
  ·first | (simp only [outV, uw, fp, cr, tyf, mqt, nrm, aF, nm, seval] <;> rfl) | rfl
 | true =>
 rw [cond_true] at h
 rcases o2 : pU al ah with _ | r2
 ·rw [o2] at h; cases h
 rw [o2, Option.bind_some] at h
 simp only [vz, mq, mqm, vsi, tyf, mqt, e1, e2, e7, nm, seval]
 refine ktree (args0 := [.agg (cGBk al), sI ah]) (by first | (simp only [nrm, aF, @dH] <;> rfl) | rfl) (by simp only [tre, aI, mqr, Bool.and_self]) (Mm _ _ _ o2) ?_
 refine bN (fun tm => tm 1 = sI ah ∧ tm 2 = .ptr 0 0 ∧ tm 9 = .lit (.bool false) ∧ tm 12 = .lit (.bool r2)) (by refine ⟨?_, ?_, ?_, ?_⟩ <;> first | (simp only [ua, bW, e1, e2, e7, nm, seval] <;> rfl) | rfl) ?_
 clear e1 e2 e7 tm
 rintro tm ⟨e1, e2, e9, cn⟩
 cases r2 with
 | false =>
  simp only [cond_false, Option.some.injEq] at h
  subst h
  simp only [vz, mq, mqm, vsi, tyf, mqt, e1, e2, e9, cn, nm, seval]
  refine ct (x := .tup [.lit (.slice none 0 0), .lit (.int .i64 2)]) (by first | (simp only [Tryz.results42, resV, resL, aO, bX, bY, uw, cr, tyf, mqt, nm, seval] <;> rfl) | rfl) ?_
  refine fB ?_ ?_
  ·simp only [tre, aI, mqr, Bool.and_self]
  ·first | (simp only [outV, uw, fp, cr, tyf, mqt, nrm, aF, nm, seval] <;> rfl) | rfl
 | true =>
 rw [cond_true] at h
 cases hB : benchB al && decide (ah.length = al.Strokes.length) with
 | false => rw [hB] at h; cases h
 | true =>
 rw [hB, cond_true] at h
 simp only [Bool.and_eq_true, decide_eq_true_eq] at hB
 rcases hc : skF al ah (al.Strokes.length + 1) [] with _ | c
 ·rw [hc] at h; cases h
 rw [hc, Option.bind_some, Option.some.injEq] at h
 subst h
 have hBO := xQ.1 hB.1
 have so : ∀ s, s < al.Strokes.length → 1 ≤ dF al 1 s := by
  intro s hs
  obtain ⟨y, _, g2⟩ := getS (b := al) (s := (s : Int)) (by omega) (by omega)
  rw [Int.toNat_natCast] at g2
  have := (hBO.s g2).hr
  unfold dF
  rw [g2]
  simp
  omega
 simp only [vz, mq, mqm, vsi, tyf, mqt, e1, e2, e9, cn, nm, seval]
 refine kopen ?_
 rw [lK]
 refine au.mono (au.atR (Sl al ah _ _)) ?_ (fun _ _ _ h => h.elim)
 rintro v H1 n1 ⟨δ1, rfl, u1, u2, u3, u4⟩
 simp only [vz, mq, mqm, vsi, tyf, mqt, e1, e2, e9, cn, nm, seval]
 refine kopen ?_
 rw [lK]
 refine au.mono (au.atR (Sm hBO.h so hB.2 hc u2 (l := []) (by rw [bW]; exact u3) InvE.nil)) ?_ (fun _ _ _ h => h.elim)
 rintro v H2 n2 ⟨g1, g, el, rfl, g2⟩
 simp only [vz, mq, mqm, vsi, tyf, mqt, e1, e2, e9, cn, nm, seval]
 refine ct (x := .tup [.ref g 0 c.length 1 c.length, .lit (.int .i64 0)]) (by first | (simp only [Tryz.results42, resV, resL, aO, bX, bY, uw, cr, tyf, mqt, nm, seval] <;> rfl) | rfl) ?_
 refine fB ?_ ?_
 ·simp only [tre, aI, mqr, Bool.and_self]
 ·first | (simp only [outV, uw, fp, g2, cr, tyf, mqt, nrm, aF, nm, seval] <;> rfl) | (simp only [outV, uw, fp, g2, cr, tyf, mqt, nrm, aF, nm, seval]; done) | rfl
theorem HG {b : GBk} (h : Len b) (hB : BOk b) {pl : List Int} (hP : planB b pl = true) {c : List Int} (hc : skF b pl (b.Strokes.length + 1) [] = some c) : qt b pl = some (c, 0) := by
 have hl := (Fp.1 hP).len
 unfold qt
 rw [xR h, xS h, xQ.2 hB, hP, show (true && decide (pl.length = b.Strokes.length)) = true by simp [hl]]
 simp only [Option.bind_some, cond_true, hc]
theorem HZ {b : GBk} {e : Int} {x : GBs} (hx : getI b.Strokes e = some x) : dF b 1 e.toNat = x.Hours.High := by
 have h := hx
 unfold getI at h
 rw [if_pos (vd hx).1] at h
 unfold dF
 rw [h]
 rfl
end Go.V
end
section
namespace Go.V
open Go Go.Proofs IntKind
end Go.V
namespace Go.V
theorem ug {α : Type} : ((([] : List α).length : Nat) : Int) = 0 := rfl
end Go.V
namespace Go.V
open Go Go.Proofs IntKind
end Go.V
end
section
namespace Go.V
open Go Go.Proofs IntKind
set_option maxRecDepth 4000
set_option maxHeartbeats 40000000
def blkL : Nat → Int → List (List Int)
 | 0, _ => []
 | m + 1, i => ([] :: blkL m (i + 1)).map (fun x => i :: x) ++ blkL m (i + 1)
def rsF (m : Nat) (f : Int) : List (List Int) := [] :: blkL m f
theorem vU : ∀ (m : Nat) (i : Int), (blkL m i).length + 1 = 2 ^ m
 | 0, _ => rfl
 | m + 1, i => by
  have := vU m (i + 1)
  simp only [blkL, List.length_append, List.length_map, List.length_cons, Nat.pow_succ]
  omega
theorem qH {m : Nat} (hm : m ≤ 6) (i : Int) : (rsF m i).length ≤ 64 := by
 have := vU m i
 have h2 : 2 ^ m ≤ 2 ^ 6 := Nat.pow_le_pow_right (by omega) hm
 simp only [rsF, List.length_cons]
 omega
theorem Ia : ∀ (m : Nat) (i : Int), ∀ x ∈ blkL m i, x.length ≤ m
 | 0, _, x, h => by cases h
 | m + 1, i, x, h => by
  simp only [blkL, List.mem_append, List.mem_map, List.mem_cons] at h
  rcases h with ⟨y, hy, rfl⟩ | h
  · rcases hy with rfl | hy
    · simp
    · have := Ia m (i + 1) y hy
      simp; omega
  · have := Ia m (i + 1) x h
    omega
theorem vV {m : Nat} {i : Int} : ∀ x ∈ rsF m i, x.length ≤ m := by
 intro x h
 rcases List.mem_cons.1 h with rfl | h
 · simp
 · exact Ia m i x h
theorem Sn {n : Nat} (h : n ≤ 100000) : aS 8 n = true := by simp [aS]; omega
theorem Ib {n : Nat} (h : n ≤ 100000) : aS 24 n = true := by simp [aS]; omega
theorem Ic : ∀ (m : Nat) (f b : Int), 0 ≤ f → f + m = b → b ≤ 6 → ak Tryz.prog G0 82 [.lit (.int .i64 f), .lit (.int .i64 b)] (.tree (.sl (ae (eSl eI) (rsF m f)) (rsF m f).length false)) := by
 intro m
 induction m using Nat.strongRecOn with
 | _ m ih =>
 intro f b hf hb h6
 refine ak.runR mixed Tryz.call82 Tryz.func82 rfl (by simp [Tryz.ntmps82]; kernel_rfl) ?_
 have So : m ≤ 6 := by omega
 have hlenR := qH So f
 simp only [vz, tyf, nm, seval]
 obtain ⟨I0, Ie⟩ : ∃ I : Nat → St → Prop, I = (fun n st => ∃ (j β : Nat) (el : Option TypeId) (L : List (List Int)), n = m - j ∧ j ≤ m ∧ L ++ blkL (m - j) (f + j) = rsF m f ∧ st.df = [] ∧ 1 ≤ st.nx ∧ β < st.nx ∧ st.H β = some (.cells el (ae (eSl eI) L)) ∧ st.tm 0 = .lit (.int .i64 f) ∧ st.tm 1 = .lit (.int .i64 b) ∧ st.tm 5 = .ref β 0 L.length 1 L.length ∧ st.tm 6 = .lit (.int .i64 (f + j))) := ⟨_, rfl⟩
 refine VWp.normO (β := 1) (el := some 22) (cs := [.lit (.slice none 0 0)]) (cs' := ae (eSl eI) [[]]) (by first | rfl | (simp only [ba, nm, seval]; done)) (by first | rfl | (simp only [nrm, aF]; rfl)) ?_
 refine loopK mixed (by kernel_rfl) I0 m (by rw [Ie]; refine ⟨0, 1, some 22, [[]], by omega, by omega, by simp [rsF], rfl, (by dsimp only; omega), (by dsimp only; omega), ?_, ?_, ?_, ?_, ?_⟩ <;> first | (simp only [ua, nm, seval] <;> rfl) | rfl | (simp [ua, nm, seval]; done)) ?_
 rintro n ⟨tm, H, nx, df⟩ hinv
 rw [Ie] at hinv
 obtain ⟨j, β, el, L, hn, hj, hL, hdf, hnx, lq, Hβ, e0, e1, e5, e6⟩ := hinv
 simp only at hdf hnx lq Hβ e0 e1 e5 e6
 subst hdf
 have q1 := fZ lq
 by_cases hlt : j < m
 rotate_left
 · obtain rfl : j = m := by omega
   have d : decide (f + (j : Int) < b) = false := by simp; omega
   rw [Nat.sub_self] at hL
   have hL' : L = rsF j f := by simpa [blkL] using hL
   simp only [vz, tyf, e0, e1, e5, e6, q1, Hβ, d, nm, seval]
   refine ct (x := (.ref β 0 L.length 1 L.length)) (by first | (simp only [Tryz.results82, resV, resL, aO, bX, bY, uw, cr, tyf, q1, Hβ, d, nm, seval] <;> rfl) | rfl) ?_
   subst hL'
   refine fB ?_ ?_
   · simp only [tre, aI, Bool.and_self]
   · first | (simp only [outV, uw, fp, cr, tyf, nrm, aF, e0, e1, e5, e6, q1, Hβ, d, nm, seval] <;> rfl) | rfl
 · have d : decide (f + (j : Int) < b) = true := by simp; omega
   have w : i64.wrap (f + (j : Int) + 1) = f + ((j + 1 : Nat) : Int) := by rw [fD (by omega) (by omega)]; omega
   obtain ⟨k0, yn⟩ : ∃ k0, m - j = k0 + 1 := ⟨m - j - 1, by omega⟩
   have Sp : L ++ (rsF k0 (f + ((j + 1 : Nat) : Int))).map (fun x => (f + (j : Int)) :: x) ++ blkL k0 (f + ((j + 1 : Nat) : Int)) = rsF m f := by
     rw [← hL, yn, blkL, List.append_assoc, show f + ((j + 1 : Nat) : Int) = f + (j : Int) + 1 by omega]; rfl
   have ihk := ih k0 (by omega) (f + ((j + 1 : Nat) : Int)) b (by omega) (by omega) h6
   have hmem := vV (m := k0) (i := f + ((j + 1 : Nat) : Int))
   have vW : m - (j + 1) = k0 := by omega
   have hlenl := qH (m := k0) (by omega) (f + ((j + 1 : Nat) : Int))
   have hLl : L.length ≤ 64 := by rw [← hL, List.length_append] at hlenR; omega
   generalize rsF k0 (f + ((j + 1 : Nat) : Int)) = l at *
   simp only [vz, tyf, e0, e1, e5, e6, q1, Hβ, d, w, nm, seval]
   refine ktree (args0 := [.lit (.int .i64 (f + ((j + 1 : Nat) : Int))), .lit (.int .i64 b)]) (by first | (simp only [nrm, aF] <;> rfl) | rfl) (by simp only [tre, aI, Bool.and_self]) ihk ?_
   refine bN (fun tm => tm 0 = .lit (.int .i64 f) ∧ tm 1 = .lit (.int .i64 b) ∧ tm 5 = .ref β 0 L.length 1 L.length ∧ tm 6 = .lit (.int .i64 (f + j)) ∧ tm 19 = .sl (ae (eSl eI) l) l.length false) (by refine ⟨?_, ?_, ?_, ?_, ?_⟩ <;> first | (simp only [ua, e0, e1, e5, e6, nm, seval] <;> rfl) | (simp only [ua, e0, e1, e5, e6, nm, seval]; done) | rfl) ?_
   clear e0 e1 e5 e6
   rintro tm ⟨e0, e1, e5, e6, cD⟩
   simp only [vz, tyf, e0, e1, e5, e6, cD, q1, Hβ, d, w, nm, seval]
   obtain ⟨I1, yo⟩ : ∃ I : Nat → St → Prop, I = (fun n st => ∃ (k γ : Nat) (el : Option TypeId) (N : List (List Int)), n = l.length - k ∧ k ≤ l.length ∧ N = L ++ (l.take k).map (fun x => (f + (j : Int)) :: x) ∧ st.df = [] ∧ 1 ≤ st.nx ∧ γ < st.nx ∧ st.H γ = some (.cells el (ae (eSl eI) N)) ∧ st.tm 0 = .lit (.int .i64 f) ∧ st.tm 1 = .lit (.int .i64 b) ∧ st.tm 5 = .ref γ 0 N.length 1 N.length ∧ st.tm 6 = .lit (.int .i64 (f + j)) ∧ st.tm 7 = .sl (ae (eSl eI) l) l.length false ∧ st.tm 8 = .lit (.int .i64 k)) := ⟨_, rfl⟩
   refine loopKG mixed (by kernel_rfl) I1 l.length (by
     rw [yo]
     refine ⟨0, β, el, L, rfl, Nat.zero_le _, by simp, rfl, (by dsimp only; omega), (by dsimp only; omega), ?_, ?_, ?_, ?_, ?_, ?_, ?_⟩
     all_goals first | assumption | (simp only [ua, e0, e1, e5, e6, cD, nm, seval] <;> rfl) | (simp only [ua, e0, e1, e5, e6, cD, nm, seval]; done) | rfl) ?_
   rintro n1 ⟨tm, H, dc, df⟩ hinv
   rw [yo] at hinv
   clear e0 e1 e5 e6 cD
   obtain ⟨k, γ, elN, N, uh, hk, hN, hdf, Ig, lg, Hγ, e0, e1, e5, e6, e7, e8⟩ := hinv
   simp only at hdf Ig lg Hγ e0 e1 e5 e6 e7 e8
   subst hdf
   have q2 := fZ lg
   by_cases hkl : k < l.length
   rotate_left
   · obtain rfl : k = l.length := by omega
     have d1 : decide (((l.length : Nat) : Int) < (l.length : Int)) = false := by simp
     rw [List.take_length] at hN
     simp only [vz, tyf, e0, e1, e5, e6, e7, e8, q2, Hγ, d1, w, nm, seval]
     refine ⟨m - (j + 1), by omega, ?_⟩
     rw [Ie]
     refine ⟨j + 1, γ, elN, N, rfl, by omega, by rw [hN, vW]; exact Sp, rfl, (by dsimp only; omega), (by dsimp only; omega), ?_, ?_, ?_, ?_, ?_⟩
     all_goals first | assumption | (simp only [ua, e0, e1, e5, e6, e7, e8, w, nm, seval] <;> rfl) | (simp only [ua, e0, e1, e5, e6, e7, e8, w, nm, seval]; done) | rfl
   · have d1 : decide ((k : Int) < (l.length : Int)) = true := by simp; omega
     have o1 : getI l (k : Int) = some l[k] := by
       unfold getI
       rw [if_pos (by omega), Int.toNat_natCast, List.getElem?_eq_getElem hkl]
     have hxl : l[k].length ≤ k0 := hmem _ (List.getElem_mem hkl)
     have yp : N ++ [(f + (j : Int)) :: l[k]] = L ++ (l.take (k + 1)).map (fun x => (f + (j : Int)) :: x) := by
       rw [hN, List.take_add_one, List.getElem?_eq_getElem hkl, List.map_append, List.append_assoc]; rfl
     have hNl : N.length ≤ 200 := by rw [hN]; simp; omega
     have w1 : i64.wrap ((k : Int) + 1) = ((k + 1 : Nat) : Int) := by rw [fD (by omega) (by omega)]; omega
     generalize l[k] = x at *
     have r1 : aS 8 ([f + (j : Int)] ++ x).length = true := Sn (by simp; omega)
     have r2 : aS 24 (N ++ [[f + (j : Int)] ++ x]).length = true := Ib (by simp; omega)
     have yp : N ++ [[f + (j : Int)] ++ x] = L ++ (l.take (k + 1)).map (fun x => (f + (j : Int)) :: x) := yp
     simp only [vz, tyf, e0, e1, e5, e6, e7, e8, q2, Hγ, d1, (fR o1), nm, seval]
     cases hx : neB x with
     | true =>
       refine oS (w := 1) (enc := eI) (xs := [f + (j : Int)]) (ys := x) (el := some 3) (fun _ => rfl) dW dL Tryz.underlying22 (by first | rfl | assumption | (simp only [ba, bj, cR, bC, q2, Hγ, nm, seval] <;> rfl) | (simp only [ba, bj, cR, bC, q2, Hγ, nm, seval]; done)) hx r1 ?_
       simp only [vz, tyf, e0, e1, e5, e6, e7, e8, q2, Hγ, d1, (fR o1), tz, tx, nm, seval]
       refine u5 (enc := (eSl eI)) (xs := N) (a := ([f + (j : Int)] ++ x)) (y := .ref (dc + 11) 0 ([f + (j : Int)] ++ x).length 1 ([f + (j : Int)] ++ x).length) (el := elN) (gC := some 22) (fun _ => rfl) px Tryz.underlying71 (by first | rfl | assumption | (simp only [ba, bj, cR, bC, q2, Hγ, nm, seval] <;> rfl) | (simp only [ba, bj, cR, bC, q2, Hγ, nm, seval]; done)) (by first | rfl | assumption | (simp only [ba, bj, cR, bC, q2, Hγ, nm, seval] <;> rfl) | (simp only [ba, bj, cR, bC, q2, Hγ, nm, seval]; done)) rfl r2 ?_
       simp only [vz, tyf, e0, e1, e5, e6, e7, e8, q2, Hγ, d1, (fR o1), nm, seval]
       refine ⟨l.length - (k + 1), by omega, _, Ghost.snocL (γ := dc + 11) (ε := dc + 13) (xs := N) (ys := ([f + (j : Int)] ++ x)) (cp := ([f + (j : Int)] ++ x).length) (by first | rfl | assumption | (simp only [ba, bj, cR, bC, q2, Hγ, nm, seval] <;> rfl) | (simp only [ba, bj, cR, bC, q2, Hγ, nm, seval]; done)) (by first | rfl | assumption | (simp only [ba, bj, cR, bC, q2, Hγ, nm, seval] <;> rfl) | (simp only [ba, bj, cR, bC, q2, Hγ, nm, seval]; done)) (by omega), ?_⟩
       rw [yo]
       refine ⟨k + 1, dc + 13, sameEl elN 22, N ++ [([f + (j : Int)] ++ x)], rfl, hkl, yp, rfl, (by dsimp only; omega), (by dsimp only; omega), ?_, ?_, ?_, ?_, ?_, ?_, ?_⟩
       all_goals first | assumption | (simp only [ua, ba, bj, e0, e1, e5, e6, e7, e8, q2, Hγ, d1, w1, nm, seval] <;> rfl) | (simp only [ua, ba, bj, e0, e1, e5, e6, e7, e8, q2, Hγ, d1, w1, nm, seval]; done) | rfl
     | false =>
       obtain rfl := Lm hx
       refine AG (w := 1) (enc := eI) (xs := [f + (j : Int)]) (ys := []) (el := some 3) (fun _ => rfl) dW dL Tryz.underlying22 (by first | rfl | assumption | (simp only [ba, bj, cR, bC, q2, Hγ, nm, seval] <;> rfl) | (simp only [ba, bj, cR, bC, q2, Hγ, nm, seval]; done)) hx ?_
       simp only [vz, tyf, e0, e1, e5, e6, e7, e8, q2, Hγ, d1, (fR o1), tz, tx, nm, seval]
       refine u5 (enc := (eSl eI)) (xs := N) (a := [f + (j : Int)]) (y := .ref (dc + 6) 0 [f + (j : Int)].length 1 [f + (j : Int)].length) (el := elN) (gC := some 22) (fun _ => rfl) px Tryz.underlying71 (by first | rfl | assumption | (simp only [ba, bj, cR, bC, q2, Hγ, nm, seval] <;> rfl) | (simp only [ba, bj, cR, bC, q2, Hγ, nm, seval]; done)) (by first | rfl | assumption | (simp only [ba, bj, cR, bC, q2, Hγ, nm, seval] <;> rfl) | (simp only [ba, bj, cR, bC, q2, Hγ, nm, seval]; done)) rfl r2 ?_
       simp only [vz, tyf, e0, e1, e5, e6, e7, e8, q2, Hγ, d1, (fR o1), nm, seval]
       refine ⟨l.length - (k + 1), by omega, _, Ghost.snocL (γ := dc + 6) (ε := dc + 13) (xs := N) (ys := [f + (j : Int)]) (cp := [f + (j : Int)].length) (by first | rfl | assumption | (simp only [ba, bj, cR, bC, q2, Hγ, nm, seval] <;> rfl) | (simp only [ba, bj, cR, bC, q2, Hγ, nm, seval]; done)) (by first | rfl | assumption | (simp only [ba, bj, cR, bC, q2, Hγ, nm, seval] <;> rfl) | (simp only [ba, bj, cR, bC, q2, Hγ, nm, seval]; done)) (by omega), ?_⟩
       rw [yo]
       refine ⟨k + 1, dc + 13, sameEl elN 22, N ++ [[f + (j : Int)]], rfl, hkl, yp, rfl, (by dsimp only; omega), (by dsimp only; omega), ?_, ?_, ?_, ?_, ?_, ?_, ?_⟩
       all_goals first | assumption | (simp only [ua, ba, bj, e0, e1, e5, e6, e7, e8, q2, Hγ, d1, w1, nm, seval] <;> rfl) | (simp only [ua, ba, bj, e0, e1, e5, e6, e7, e8, q2, Hγ, d1, w1, nm, seval]; done) | rfl
def yq (f b : Int) : Option (List (List Int)) := cond (decide (0 ≤ f) && decide (f ≤ b) && decide (b ≤ 6)) (some (rsF (b - f).toNat f)) none
theorem Sq (fI eK : Int) (R : List (List Int)) (h : yq fI eK = some R) : ak Tryz.prog G0 82 [.lit (.int .i64 fI), .lit (.int .i64 eK)] (.tree (.sl (ae (eSl eI) R) (List.length R) false)) := by
 unfold yq at h
 cases hc : (decide (0 ≤ fI) && decide (fI ≤ eK) && decide (eK ≤ 6)) with
 | false => rw [hc] at h; cases h
 | true =>
 rw [hc] at h
 obtain rfl := Option.some.inj h
 simp only [Bool.and_eq_true, decide_eq_true_eq] at hc
 exact Ic _ _ _ hc.1.1 (by omega) hc.2
end Go.V
end
section
namespace Go.V
open Go Go.Proofs IntKind
def qI (al : GBk) (ah : List Int) : List (List Int) → Int → Option (LOut (List Int) (Unit))
 | [], fz => some (.go ())
 | e0 :: p0, fz => Option.bind (vX al ah e0) (fun r2 => cond (r2) (some (.ret e0)) (qI al ah p0 (fz + 1)))
def vx (al : GBk) (ah : List Int) : Option (List Int) := Option.bind (yq 0 (List.length ah : Int)) (fun r1 => cond (aG r1) (lbind (qI al ah r1 0) (fun r4 => some r4) (fun c3 => some ([] : List Int)) (fun _ _ => none)) none)
theorem RO (al : GBk) (ah : List Int) (R : List Int) (h : vx al ah = some R) : ak Tryz.prog G0 44 [.agg (cGBk al), .sl (ae eI ah) (List.length ah) false] (.tree (.sl (ae eI R) (List.length R) false)) := by
 refine ak.runR mixed Tryz.call44 Tryz.func44 rfl (by simp [Tryz.ntmps44]; kernel_rfl) ?_
 obtain ⟨KF, h, kF, kN⟩ := cI h
 simp only [vx] at h
 obtain ⟨r5, o6, h⟩ := optI h kN
 try simp only [hs] at h
 simp only [vz, tyf, nm, seval]
 refine ktA (Sq _ _ _ o6) ?_
 refine bN (fun tm => tm 1 = .sl (ae eI ah) (List.length ah) false ∧ tm 2 = .ptr 0 0 ∧ tm 9 = .sl (ae (eSl eI) r5) (List.length r5) false ∧ True) (by refine ⟨?_, ?_, ?_, trivial⟩ <;> first | (simp only [ua, nm, seval] <;> rfl) | rfl) ?_
 rintro tm ⟨e7, e8, e9, _⟩
 cases jP : (aG r5)
 ·simp only [jP, hs] at h
  exact absurd h kN
 simp only [jP, hs] at h
 simp only [vz, tyf, e7, e8, e9, jP, nm, seval]
 obtain ⟨Sr, h, Ih, Ii, Ss, Ij⟩ := eR h kN
 obtain ⟨Su, Ik, h⟩ := call2 h
 obtain ⟨Sv, qJ⟩ : ∃ I : Nat → St → Prop, I = (fun m st => ∃ (od : List (List Int)) (dR : Int), m = List.length od ∧ 0 ≤ dR ∧ List.drop (Int.toNat dR) r5 = od ∧ st.df = [] ∧ 7 ≤ st.nx ∧ st.H 0 = some (.cells (some 25) (cGBk al)) ∧ st.tm 1 = .sl (ae eI ah) (List.length ah) false ∧ st.tm 2 = .ptr 0 0 ∧ st.tm 5 = .sl (ae (eSl eI) r5) (List.length r5) false ∧ st.tm 6 = .lit (.int .i64 dR) ∧ Sr (Su od dR)) := ⟨_, rfl⟩
 refine loopK mixed (by kernel_rfl) Sv (List.length r5) (by rw [qJ]; refine ⟨r5, 0, rfl, Int.le_refl _, rfl, rfl, (show 7 ≤ 7 by omega), ?_, e7, e8, ?_, ?_, h⟩ <;> first | (simp only [ua, e7, e8, e9, nm, seval] <;> rfl) | rfl) ?_
 rintro m ⟨tm, H, vY, df⟩ hinv
 rw [qJ] at hinv
 obtain ⟨od, dR, rfl, jQ, lz, hdf, Il, jR, bI, bS, cM, bB, h⟩ := hinv
 simp only at hdf Il jR bI bS cM bB
 have k8 := fw (m := 7) (b := vY) (by omega)
 subst hdf Ik
 cases od with
 | nil =>
  have eh : (decide (dR < (List.length r5 : Int))) = false := fj jQ lz
  simp only [qI, hs, reduceCtorEq] at h
  replace h := Ii _ h
  try dsimp only at h
  try simp only [hs] at h
  try simp only [vz, tyf, jP, k8, bI, bS, cM, bB, jR, eh, nm, seval]
  refine ct (x := (.lit (.slice none 0 0))) (by first | (simp only [Tryz.results44, resV, resL, aO, bX, bY, uw, cr, tyf, jP, k8, jR, eh, nm, seval] <;> rfl) | rfl) ?_
  obtain rfl := kF _ h
  refine fB ?_ ?_
  ·simp only [tre, aI, Bool.and_self]
  ·first | (simp only [outV, uw, fp, cr, tyf, nrm, aF, jP, k8, bI, bS, cM, bB, jR, eh, nm, seval] <;> rfl) | rfl
 | cons bk od =>
  have eC : (decide (dR < (List.length r5 : Int))) = true := fh jQ lz
  have iq := dG jQ lz
  have mS := eQ jQ lz jP
  simp only [qI, hs, reduceCtorEq] at h
  simp only [vz, tyf, jP, k8, bI, bS, cM, bB, jR, eC, (fR iq), mS, nm, seval]
  refine jk (fun tm => tm 1 = .sl (ae eI ah) (List.length ah) false ∧ tm 2 = .ptr 0 0 ∧ tm 5 = .sl (ae (eSl eI) r5) (List.length r5) false ∧ tm 6 = .lit (.int .i64 dR) ∧ True) (by refine ⟨bI, bS, cM, bB, trivial⟩ <;> first | (simp only [ua, k8, bI, bS, cM, bB, jR, eC, mS, nm, seval] <;> rfl) | rfl) ?_
  rintro tm ⟨cg, bG, cV, cN, _⟩
  obtain ⟨gf, Hy, h⟩ := optI h Ij
  try simp only [hs] at h
  simp only [vz, tyf, jP, k8, jR, eC, (fR iq), mS, cg, bG, cV, cN, nm, seval]
  refine dktA (Sw _ _ _ _ Hy) ?_
  refine bN (fun tm => tm 1 = .sl (ae eI ah) (List.length ah) false ∧ tm 2 = .ptr 0 0 ∧ tm 5 = .sl (ae (eSl eI) r5) (List.length r5) false ∧ tm 6 = .lit (.int .i64 dR) ∧ tm 22 = .lit (.bool gf) ∧ True) (by refine ⟨cg, bG, cV, cN, ?_, trivial⟩ <;> first | (simp only [ua, k8, jR, eC, mS, cg, bG, cV, cN, nm, seval] <;> rfl) | rfl) ?_
  rintro tm ⟨bZ, bR, cj, ck, dV, _⟩
  cases ff : (gf)
  ·simp only [ff, hs] at h
   simp only [vz, tyf, jP, k8, jR, eC, (fR iq), mS, bZ, bR, cj, ck, dV, ff, nm, seval]
   exact ⟨List.length od, Nat.lt_succ_self _, by rw [qJ]; refine ⟨od, dR + 1, rfl, Int.le_trans jQ (Int.le_add_one (Int.le_refl _)), cU jQ lz, rfl, (show 7 ≤ vY + 14 by omega), ?_, bZ, bR, cj, ?_, (by first | exact h | (simp only [eC, ff]; exact h))⟩ <;> first | (simp only [ua, k8, jR, eC, mS, bZ, bR, cj, ck, dV, ff, nm, seval] <;> rfl) | rfl⟩
  simp only [ff, hs] at h
  try simp only [vz, tyf, jP, k8, jR, eC, (fR iq), mS, bZ, bR, cj, ck, dV, ff, nm, seval]
  refine ct (x := (.sl (ae eI bk) (List.length bk) false)) (by first | (simp only [Tryz.results44, resV, resL, aO, bX, bY, uw, cr, tyf, jP, k8, jR, eC, (fR iq), mS, ff, nm, seval] <;> rfl) | rfl) ?_
  replace h := Ih _ h
  try dsimp only at h
  obtain rfl := kF _ h
  refine fB ?_ ?_
  ·simp only [tre, aI, Bool.and_self]
  ·first | (simp only [outV, uw, fp, cr, tyf, nrm, aF, jP, k8, jR, eC, (fR iq), mS, bZ, bR, cj, ck, dV, ff, nm, seval] <;> rfl) | rfl
end Go.V
end
section
namespace Go.V
open Go Go.Proofs IntKind
set_option maxRecDepth 4000
set_option maxHeartbeats 4000000
def yr (b : GBk) (g : Bool) : Option (List Int) := cond g (Option.bind (lP b true) fun R => cond (neB R) (some R) none) none
theorem Sx (al : GBk) (aW : Bool) (R : List Int) (h : yr al aW = some R) : ak Tryz.prog G0 33 [.agg (cGBk al), .lit (.bool aW)] (.own (ae eI R) R.length 1) := by
 obtain ⟨rfl, h, hne⟩ : aW = true ∧ lP al true = some R ∧ neB R = true := by
  unfold yr at h
  cases aW with
  | false => cases h
  | true =>
   rw [cond_true] at h
   cases o : lP al true with
   | none => rw [o] at h; cases h
   | some S =>
    rw [o, Option.bind_some] at h
    cases hn : neB S with
    | false => rw [hn] at h; cases h
    | true => rw [hn] at h; obtain rfl := Option.some.inj h; exact ⟨rfl, rfl, hn⟩
 refine ak.run mixed Tryz.call33 Tryz.func33 rfl (by simp [Tryz.ntmps33]; kernel_rfl) ?_
 obtain ⟨KF, h, kF, kN⟩ := cI h
 simp only [lP] at h
 cases g4 : (aG al.Strokes)
 ·simp only [g4, hs] at h
  exact absurd h kN
 simp only [g4, hs] at h
 simp only [vz, tyf, g4, nm, seval]
 obtain ⟨K3, h, mn, iB, rH, kh⟩ := eR h kN
 obtain ⟨f3, j8, h⟩ := call3 h
 obtain ⟨I3, dU⟩ : ∃ I : Nat → St → Prop, I = (fun m st => ∃ (p3 : List GBs) (cq : Int) (bu : List Int) (gO : VV), m = List.length p3 ∧ 0 ≤ cq ∧ List.drop (Int.toNat cq) al.Strokes = p3 ∧ st.df = [] ∧ 4 ≤ st.nx ∧ st.H 0 = some (.cells (some 25) (cGBk al)) ∧ st.tm 1 = .lit (.bool true) ∧ st.tm 2 = .ptr 0 0 ∧ st.tm 5 = gO ∧ st.tm 6 = .lit (.int .i64 cq) ∧ ((∃ (β : Nat) (el : Option TypeId), gO = .ref β 0 (List.length bu) 1 (List.length bu) ∧ β < st.nx ∧ β ≠ 0 ∧ st.H β = some (.cells el (ae eI bu))) ∨ (gO = .lit (.slice none 0 0) ∧ bu = [])) ∧ K3 (f3 p3 cq bu)) := ⟨_, rfl⟩
 refine loopK mixed (by kernel_rfl) I3 (List.length al.Strokes) (by rw [dU]; refine ⟨al.Strokes, 0, ([] : List Int), .lit (.slice none 0 0), rfl, Int.le_refl _, rfl, rfl, (show 4 ≤ 4 by omega), ?_, ?_, ?_, ?_, ?_, Or.inr ⟨rfl, rfl⟩, h⟩ <;> first | (simp only [ua, nm, seval] <;> rfl) | rfl) ?_
 rintro m ⟨tm, H, dr, df⟩ hinv
 rw [dU] at hinv
 obtain ⟨p3, cq, bu, gO, rfl, bJ, ca, hdf, j9, H5, e6, e7, e8, e9, ia, h⟩ := hinv
 simp only at hdf j9 H5 e6 e7 e8 e9 ia
 have di := fw (m := 4) (b := dr) (by omega)
 subst hdf j8
 rcases ia with ⟨m2, fP, rfl, pJ, pK, lQ⟩ | ⟨rfl, rfl⟩
 ·have m3 := fZ pJ
  have m4 := ne_f pK
  cases p3 with
  | nil =>
   have bx : (decide (cq < (List.length al.Strokes : Int))) = false := fj bJ ca
   simp only [jt, hs, reduceCtorEq] at h
   replace h := iB _ h
   try dsimp only at h
   try simp only [hs] at h
   try simp only [vz, tyf, g4, di, e6, e7, e8, e9, H5, m3, lQ, m4, bx, nm, seval]
   obtain rfl := kF _ h
   exact ⟨rfl, (.ref m2 0 (List.length bu) 1 (List.length bu)), (by first | (simp only [Tryz.results33, resV, resL, aO, bX, bY, uw, cr, tyf, g4, di, H5, m3, lQ, m4, bx, nm, seval] <;> rfl) | rfl), (ae eI bu).length + 1, m2, _, ae eI bu, ⟨_, rfl⟩, lQ, kE _ _ (eI_ok.treeL _) (Nat.lt_succ_self _)⟩
  | cons e3 p3 =>
   have eg : (decide (cq < (List.length al.Strokes : Int))) = true := fh bJ ca
   have iU := dG bJ ca
   have xz := eQ bJ ca g4
   simp only [jt, hs, reduceCtorEq] at h
   have gP := And.intro g4 (And.intro di (And.intro H5 (And.intro m3 (And.intro lQ (And.intro m4 (And.intro eg xz))))))
   cases iV : (aS 8 (List.length (bu ++ [e3.Hours.High])))
   ·simp only [iV, hs] at h
    exact absurd h kh
   simp only [iV, hs] at h
   simp only [vz, tyf, gP, e6, e7, e8, e9, (aT iU), iV, nm, seval]
   refine k_app (w := 1) (enc := eI) (xs := bu) (ys := ([e3.Hours.High])) (el := fP) (gC := (some 3)) (fun _ => rfl) dW dL Tryz.underlying22 (by first | rfl | assumption | (simp only [ba, bj, bC, gP, nm, seval] <;> rfl) | (simp only [ba, bj, ga, gi, gx, gy, tyf, gP, e6, e7, e8, e9, (aT iU), iV, nm, seval]; done)) (by first | rfl | assumption | (simp only [ba, bj, bC, gP, nm, seval] <;> rfl) | (simp only [ba, bj, ga, gi, gx, gy, tyf, gP, e6, e7, e8, e9, (aT iU), iV, nm, seval]; done)) (Nat.zero_lt_succ _) iV ?_
   simp only [vz, tyf, gP, e6, e7, e8, e9, (aT iU), iV, nm, seval]
   exact ⟨List.length p3, Nat.lt_succ_self _, by rw [dU]; refine ⟨p3, cq + 1, (bu ++ [e3.Hours.High]), .ref (dr + 15) 0 (List.length (bu ++ [e3.Hours.High])) 1 (List.length (bu ++ [e3.Hours.High])), rfl, Int.le_trans bJ (Int.le_add_one (Int.le_refl _)), cU bJ ca, rfl, (show 4 ≤ dr + 20 by omega), ?_, ?_, e7, ?_, ?_, Or.inl ⟨dr + 15, (sameEl fP 3), rfl, (by first | omega | (simp only [nm, seval]; done) | (simp only [nm, seval]; omega)), (by first | omega | (intro hh; simp only [gP, reduceCtorEq] at hh)), ?_⟩, (by first | exact h | (simp only [gP]; exact h))⟩ <;> first | (simp only [ua, gP, e6, e7, e8, e9, nm, seval] <;> rfl) | rfl⟩
 ·cases p3 with
  | nil =>
   have gW : (decide (cq < (List.length al.Strokes : Int))) = false := fj bJ ca
   simp only [jt, hs, reduceCtorEq] at h
   replace h := iB _ h
   try dsimp only at h
   try simp only [hs] at h
   try simp only [vz, tyf, g4, di, e6, e7, e8, e9, H5, gW, nm, seval]
   obtain rfl := kF _ h
   cases hne
  | cons e3 p3 =>
   have eP : (decide (cq < (List.length al.Strokes : Int))) = true := fh bJ ca
   have iE := dG bJ ca
   have hZ := eQ bJ ca g4
   simp only [jt, hs, reduceCtorEq] at h
   cases jG : (aS 8 (List.length (([] : List Int) ++ [e3.Hours.High])))
   ·simp only [jG, hs] at h
    exact absurd h kh
   simp only [jG, hs] at h
   simp only [vz, tyf, g4, di, e6, e7, e8, e9, H5, eP, (aT iE), hZ, jG, nm, seval]
   refine ru (w := 1) (enc := eI) (ys := ([e3.Hours.High])) (gC := (some 3)) (fun _ => rfl) dW dL Tryz.underlying22 (by first | rfl | assumption | (simp only [ba, bj, bC, di, H5, nm, seval] <;> rfl) | (simp only [ba, bj, ga, gi, gx, gy, tyf, g4, di, e6, e7, e8, e9, H5, eP, (aT iE), hZ, jG, nm, seval]; done)) (Nat.zero_lt_succ _) jG ?_
   simp only [vz, tyf, g4, di, e6, e7, e8, e9, H5, eP, (aT iE), hZ, jG, nm, seval]
   exact ⟨List.length p3, Nat.lt_succ_self _, by rw [dU]; refine ⟨p3, cq + 1, (([] : List Int) ++ [e3.Hours.High]), .ref (dr + 15) 0 (List.length (([] : List Int) ++ [e3.Hours.High])) 1 (List.length (([] : List Int) ++ [e3.Hours.High])), rfl, Int.le_trans bJ (Int.le_add_one (Int.le_refl _)), cU bJ ca, rfl, (show 4 ≤ dr + 20 by omega), ?_, ?_, e7, ?_, ?_, Or.inl ⟨dr + 15, (some 3), rfl, (by first | omega | (simp only [nm, seval]; done) | (simp only [nm, seval]; omega)), (by first | omega | (intro hh; simp only [di, reduceCtorEq] at hh)), ?_⟩, (by first | exact h | (simp only [eP]; exact h))⟩ <;> first | (simp only [ua, di, e6, e7, e8, e9, H5, eP, hZ, nm, seval] <;> rfl) | rfl⟩
end Go.V
end
section
namespace Go.V
open Go Go.Proofs IntKind
def vZ (al : GBk) (ah : List Int) (av : Int) (dS : Int) : Option (Int) := Option.bind (yr al true) (fun r1 => Option.bind (getI r1 av) (fun x2 => Option.bind (rL al ah (List.set r1 (Int.toNat av) (i64.wrap (x2 + dS)))) (fun r3 => Option.bind (su r3) (fun r4 => some r4))))
theorem Sy (al : GBk) (ah : List Int) (av : Int) (dS : Int) (R : Int) (h : vZ al ah av dS = some R) : ak Tryz.prog G0 83 [.agg (cGBk al), .sl (ae eI ah) (List.length ah) false, .lit (.int .i64 av), .lit (.int .i64 dS)] (.tree (.lit (.int .i64 R))) := by
 refine ak.runR mixed Tryz.call83 Tryz.func83 rfl (by simp [Tryz.ntmps83]; kernel_rfl) ?_
 obtain ⟨KF, h, kF, kN⟩ := cI h
 simp only [vZ] at h
 obtain ⟨r5, o6, h⟩ := optI h kN
 try simp only [hs] at h
 simp only [vz, tyf, nm, seval]
 refine kown (args0 := [.agg (cGBk al), .lit (.bool true)]) (by first | (simp only [nrm, aF] <;> rfl) | rfl) (by simp only [tre, aI, Bool.and_self]) (Sx _ _ _ o6) ?_
 obtain ⟨x7, o8, h⟩ := optI h kN
 try simp only [hs] at h
 have w9 := setA (w := 1) (enc := eI) (fun _ => rfl) o8
 have oe := setB (w := 1) (enc := eI) (i64.wrap (x7 + dS)) (fun _ => rfl) o8
 simp only [vz, tyf, nm, seval] at oe
 have jn := setC (w := 1) (enc := eI) r5 (Int.toNat av) (i64.wrap (x7 + dS)) (fun _ => rfl)
 obtain ⟨uo, gM, h⟩ := optI h kN
 try simp only [hs] at h
 simp only [vz, tyf, (bm o8), w9, oe, jn, nm, seval]
 refine kfreeze (g := 3) (el := none) (cs := ae eI (List.set r5 (Int.toNat av) (i64.wrap (x7 + dS)))) (args' := [.agg (cGBk al), .sl (ae eI ah) (List.length ah) false, .sl (ae eI (List.set r5 (Int.toNat av) (i64.wrap (x7 + dS)))) (List.length r5) false]) (args0 := [.agg (cGBk al), .sl (ae eI ah) (List.length ah) false, .sl (ae eI (List.set r5 (Int.toNat av) (i64.wrap (x7 + dS)))) (List.length (List.set r5 (Int.toNat av) (i64.wrap (x7 + dS)))) false]) rfl ⟨.same, .same, Frozen.own rfl (eI_ok.treeL _) (by rw [ej (w := 1) (enc := eI) (fun _ => rfl), List.length_set]), trivial⟩ (by simp only [List.length_set]; first | (simp only [nrm, aF] <;> rfl) | rfl) (by simp only [tre, aI, Bool.and_self]) (LZ _ _ _ _ gM) ?_
 refine bN (fun tm => tm 24 = .sl (ae eI uo) (List.length uo) false ∧ True) (by refine ⟨?_, trivial⟩ <;> first | (simp only [ua, w9, oe, jn, nm, seval] <;> rfl) | rfl) ?_
 rintro tm ⟨bS, _⟩
 obtain ⟨qs, dx, h⟩ := optI h kN
 try simp only [hs] at h
 simp only [vz, tyf, (bm o8), w9, oe, jn, bS, nm, seval]
 refine ktA (Nb _ _ dx) ?_
 refine bN (fun tm => tm 25 = .lit (.int .i64 qs) ∧ True) (by refine ⟨?_, trivial⟩ <;> first | (simp only [ua, w9, oe, jn, bS, nm, seval] <;> rfl) | rfl) ?_
 rintro tm ⟨bK, _⟩
 try simp only [vz, tyf, (bm o8), w9, oe, jn, bK, nm, seval]
 refine ct (x := (.lit (.int .i64 qs))) (by first | (simp only [Tryz.results83, resV, resL, aO, bX, bY, uw, cr, tyf, (bm o8), w9, oe, jn, nm, seval] <;> rfl) | rfl) ?_
 obtain rfl := kF _ h
 refine fB ?_ ?_
 ·simp only [tre, aI, Bool.and_self]
 ·first | (simp only [outV, uw, fp, cr, tyf, nrm, aF, (bm o8), w9, oe, jn, bK, nm, seval] <;> rfl) | rfl
def sv (al : GBk) (ah : List Int) (av : Int) : Nat → Int → Option (LOut (Int) (Int))
 | 0, cY => some (.go cY)
 | k0 + 1, cY => Option.bind (vZ al ah av (cY + 1)) (fun r1 => Option.bind (sw al ah) (fun r2 => cond (r1 == r2) (sv al ah av k0 (cY + 1)) (some (.go cY))))
def v3 (al : GBk) (ah : List Int) (av : Int) : Option (Int) := cond (boundOk 9) (lbind (sv al ah av (Int.toNat (9 - 0)) 0) (fun r4 => some r4) (fun c3 => some c3) (fun _ _ => none)) none
theorem RU (al : GBk) (ah : List Int) (av : Int) (R : Int) (h : v3 al ah av = some R) : ak Tryz.prog G0 46 [.agg (cGBk al), .sl (ae eI ah) (List.length ah) false, .lit (.int .i64 av)] (.tree (.lit (.int .i64 R))) := by
 refine ak.runR mixed Tryz.call46 Tryz.func46 rfl (by simp [Tryz.ntmps46]; kernel_rfl) ?_
 obtain ⟨KF, h, kF, kN⟩ := cI h
 simp only [v3] at h
 cases g6 : (boundOk 9)
 ·simp only [g6, hs] at h
  exact absurd h kN
 simp only [g6, hs] at h
 simp only [vz, tyf, g6, nm, seval]
 obtain ⟨K5, h, vp, mC, Hr, lj⟩ := eR h kN
 obtain ⟨f5, ql, h⟩ := call2 h
 obtain ⟨I5, iI⟩ : ∃ I : Nat → St → Prop, I = (fun m st => ∃ (p5 : Nat) (bz : Int), p5 = m ∧ loOk bz = true ∧ Int.toNat (9 - bz) = p5 ∧ st.df = [] ∧ 3 ≤ st.nx ∧ st.H 0 = some (.cells (some 25) (cGBk al)) ∧ st.tm 1 = .sl (ae eI ah) (List.length ah) false ∧ st.tm 2 = .lit (.int .i64 av) ∧ st.tm 3 = .ptr 0 0 ∧ st.tm 7 = .lit (.int .i64 bz) ∧ K5 (f5 p5 bz)) := ⟨_, rfl⟩
 refine loopK mixed (by kernel_rfl) I5 (Int.toNat (9 - 0)) (by rw [iI]; refine ⟨Int.toNat (9 - 0), 0, rfl, (by rfl), rfl, rfl, (show 3 ≤ 3 by omega), ?_, ?_, ?_, ?_, ?_, h⟩ <;> first | (simp only [ua, nm, seval] <;> rfl) | rfl) ?_
 rintro m ⟨tm, H, ir, df⟩ hinv
 rw [iI] at hinv
 obtain ⟨p5, bz, rfl, eG, fe, hdf, qm, H7, e8, e9, bk, bF, h⟩ := hinv
 simp only at hdf qm H7 e8 e9 bk bF
 have dP := fw (m := 3) (b := ir) (by omega)
 subst hdf ql
 cases p5 with
 | zero =>
  have de : (decide (bz < 9)) = false := KZ fe
  simp only [sv, hs, reduceCtorEq] at h
  simp only [vz, tyf, g6, dP, e8, e9, bk, bF, H7, de, nm, seval]
  refine jk (fun tm => tm 1 = .sl (ae eI ah) (List.length ah) false ∧ tm 2 = .lit (.int .i64 av) ∧ tm 3 = .ptr 0 0 ∧ tm 7 = .lit (.int .i64 bz) ∧ True) (by refine ⟨e8, e9, bk, bF, trivial⟩ <;> first | (simp only [ua, dP, e8, e9, bk, bF, H7, de, nm, seval] <;> rfl) | rfl) ?_
  rintro tm ⟨bS, cM, bB, bK, _⟩
  replace h := mC _ h
  try dsimp only at h
  try simp only [hs] at h
  try simp only [vz, tyf, g6, dP, H7, de, bS, cM, bB, bK, nm, seval]
  refine ct (x := (.lit (.int .i64 bz))) (by first | (simp only [Tryz.results46, resV, resL, aO, bX, bY, uw, cr, tyf, g6, dP, H7, de, nm, seval] <;> rfl) | rfl) ?_
  obtain rfl := kF _ h
  refine fB ?_ ?_
  ·simp only [tre, aI, Bool.and_self]
  ·first | (simp only [outV, uw, fp, cr, tyf, nrm, aF, g6, dP, H7, de, bS, cM, bB, bK, nm, seval] <;> rfl) | rfl
 | succ p5 =>
  have eh : (decide (bz < 9)) = true := tq fe
  have jg := tt eG fe g6
  simp only [sv, hs, reduceCtorEq] at h
  simp only [vz, tyf, g6, dP, e8, e9, bk, bF, H7, eh, jg, nm, seval]
  refine jk (fun tm => tm 1 = .sl (ae eI ah) (List.length ah) false ∧ tm 2 = .lit (.int .i64 av) ∧ tm 3 = .ptr 0 0 ∧ tm 7 = .lit (.int .i64 bz) ∧ True) (by refine ⟨e8, e9, bk, bF, trivial⟩ <;> first | (simp only [ua, dP, e8, e9, bk, bF, H7, eh, jg, nm, seval] <;> rfl) | rfl) ?_
  rintro tm ⟨dK, dI, cg, bG, _⟩
  obtain ⟨kO, nO, h⟩ := optI h lj
  try simp only [hs] at h
  simp only [vz, tyf, g6, dP, H7, eh, jg, dK, dI, cg, bG, nm, seval]
  refine dktA (Sy _ _ _ _ _ nO) ?_
  refine bN (fun tm => tm 1 = .sl (ae eI ah) (List.length ah) false ∧ tm 2 = .lit (.int .i64 av) ∧ tm 3 = .ptr 0 0 ∧ tm 7 = .lit (.int .i64 bz) ∧ tm 10 = .lit (.bool true) ∧ tm 16 = .lit (.int .i64 kO) ∧ True) (by refine ⟨dK, dI, cg, bG, ?_, ?_, trivial⟩ <;> first | (simp only [ua, dP, H7, eh, jg, dK, dI, cg, bG, nm, seval] <;> rfl) | rfl) ?_
  rintro tm ⟨du, bA, bZ, bR, cj, ck, _⟩
  obtain ⟨fF, Hz, h⟩ := optI h lj
  try simp only [hs] at h
  simp only [vz, tyf, g6, dP, H7, eh, jg, du, bA, bZ, bR, cj, ck, nm, seval]
  refine dktA (Nc _ _ _ Hz) ?_
  refine bN (fun tm => tm 1 = .sl (ae eI ah) (List.length ah) false ∧ tm 2 = .lit (.int .i64 av) ∧ tm 3 = .ptr 0 0 ∧ tm 7 = .lit (.int .i64 bz) ∧ tm 10 = .lit (.bool true) ∧ tm 16 = .lit (.int .i64 kO) ∧ tm 19 = .lit (.int .i64 fF) ∧ True) (by refine ⟨du, bA, bZ, bR, ?_, ck, ?_, trivial⟩ <;> first | (simp only [ua, dP, H7, eh, jg, du, bA, bZ, bR, cj, ck, nm, seval] <;> rfl) | rfl) ?_
  rintro tm ⟨ed, fm, gJ, gz, gb, ll, kq, _⟩
  cases lY : (kO == fF)
  ·simp only [lY, hs] at h
   replace h := mC _ h
   try dsimp only at h
   try simp only [hs] at h
   try simp only [vz, tyf, g6, dP, H7, eh, jg, ed, fm, gJ, gz, gb, ll, kq, lY, nm, seval]
   refine ct (x := (.lit (.int .i64 bz))) (by first | (simp only [Tryz.results46, resV, resL, aO, bX, bY, uw, cr, tyf, g6, dP, H7, eh, jg, lY, nm, seval] <;> rfl) | rfl) ?_
   obtain rfl := kF _ h
   refine fB ?_ ?_
   ·simp only [tre, aI, Bool.and_self]
   ·first | (simp only [outV, uw, fp, cr, tyf, nrm, aF, g6, dP, H7, eh, jg, ed, fm, gJ, gz, gb, ll, kq, lY, nm, seval] <;> rfl) | rfl
  simp only [lY, hs] at h
  simp only [vz, tyf, g6, dP, H7, eh, jg, ed, fm, gJ, gz, gb, ll, kq, lY, nm, seval]
  exact ⟨p5, Nat.lt_succ_self _, by rw [iI]; refine ⟨p5, bz + 1, rfl, oR eG, zU fe, rfl, (show 3 ≤ ir + 17 by omega), ?_, ed, fm, gJ, ?_, (by first | exact h | (simp only [eh, lY]; exact h))⟩ <;> first | (simp only [ua, dP, H7, eh, jg, ed, fm, gJ, gz, gb, ll, kq, lY, nm, seval] <;> rfl) | rfl⟩
theorem qK : ∀ (m : Nat) (f : Int) (c : List Int), (∀ x ∈ c, f ≤ x ∧ x < f + m) → c.Pairwise (· < ·) → c ∈ rsF m f
 | _, _, [], _, _ => List.mem_cons_self ..
 | 0, f, x :: t, h, _ => by
  have := h x (List.mem_cons_self ..)
  omega
 | m + 1, f, x :: t, h, hp => by
  have hx := h x (List.mem_cons_self ..)
  obtain ⟨p1, p2⟩ := List.pairwise_cons.1 hp
  refine List.mem_cons_of_mem _ ?_
  unfold blkL
  by_cases e : x = f
  ·subst e
   refine List.mem_append_left _ (List.mem_map.2 ⟨t, qK m (x + 1) t (fun y hy => ?_) p2, rfl⟩)
   have h1 := p1 y hy
   have h2 := h y (List.mem_cons_of_mem _ hy)
   omega
  ·have hin : x :: t ∈ rsF m (f + 1) := qK m (f + 1) (x :: t) (fun y hy => by
    have h2 := h y hy
    rcases List.mem_cons.1 hy with rfl | hy
    ·omega
    ·have h1 := p1 y hy
     omega) hp
   rcases List.mem_cons.1 hin with hin | hin
   ·cases hin
   ·exact List.mem_append_right _ hin
theorem Im : ∀ (m : Nat) (i : Int), ∀ y ∈ blkL m i, ∃ h t, y = h :: t ∧ i ≤ h
 | 0, _, y, hy => by cases hy
 | m + 1, i, y, hy => by
  unfold blkL at hy
  rcases List.mem_append.1 hy with hy | hy
  ·obtain ⟨a, _, rfl⟩ := List.mem_map.1 hy
   exact ⟨i, a, rfl, Int.le_refl _⟩
  ·obtain ⟨h, t, e, hi⟩ := Im m (i + 1) y hy
   exact ⟨h, t, e, by omega⟩
theorem wa : ∀ (m : Nat) (i : Int), (blkL m i).Pairwise (fun a c => bfB a c = true)
 | 0, _ => List.Pairwise.nil
 | m + 1, i => by
  have ih := wa m (i + 1)
  have hd := Im m (i + 1)
  unfold blkL
  refine List.pairwise_append.2 ⟨?_, ih, ?_⟩
  ·rw [List.pairwise_map]
   refine List.Pairwise.imp (R := fun a c => bfB a c = true) (fun {a c} h => by rw [bfB, if_pos rfl]; exact h) ?_
   refine List.pairwise_cons.2 ⟨fun y hy => ?_, ih⟩
   obtain ⟨h, t, rfl, _⟩ := hd y hy
   simp [bfB]
  ·intro a ha y hy
   obtain ⟨x, _, rfl⟩ := List.mem_map.1 ha
   obtain ⟨h, t, rfl, hi⟩ := hd y hy
   rw [bfB, if_neg (by omega)]
   exact decide_eq_true (by omega)
theorem rs_pw (m : Nat) (i : Int) : (rsF m i).Pairwise (fun a c => bfB a c = true) := by
 refine List.pairwise_cons.2 ⟨fun y hy => ?_, wa m i⟩
 obtain ⟨h, t, rfl, _⟩ := Im m i y hy
 simp [bfB]
theorem Nd {b : GBk} (h : Len b) (hB : BOk b) {pl : List Int} (hp : pl.length = b.Strokes.length) {q : List Int} {B : List (List Int)} (hq : chB b pl q = true) : ∀ (A : List (List Int)) (c : Int), (∀ a ∈ A, chB b pl a = false) → (∀ a ∈ A ++ q :: B, a.length ≤ 6) → qI b pl (A ++ q :: B) c = some (.ret q)
 | [], c, _, hl => by
  have := hl q (List.mem_append_right _ (List.mem_cons_self ..))
  simp only [List.nil_append, qI]
  rw [Nf h hB hp (show q.length < 9223372036854775808 by omega), hq]; rfl
 | a :: A, c, ha, hl => by
  have := hl a (by simp)
  simp only [List.cons_append, qI]
  rw [Nf h hB hp (show a.length < 9223372036854775808 by omega), ha a (List.mem_cons_self ..)]
  exact Nd h hB hp hq A (c + 1) (fun x hx => ha x (List.mem_cons_of_mem _ hx)) (fun x hx => hl x (List.mem_cons_of_mem _ hx))
theorem HH {b : GBk} (h : Len b) (hB : BOk b) {pl : List Int} (hp : pl.length = b.Strokes.length) {c : List Int} (hne : c ≠ []) (hcs : chS b pl none 0 c = some (TK b pl)) (hcf : ∀ t, t ≠ [] → chS b pl none 0 t = some (TK b pl) → bfB t c = false) : vx b pl = some c := by
 have hn := hB.ns
 obtain ⟨hlk, _⟩ := yk hB.h c _ _ _ hcs
 obtain ⟨h1, h2⟩ := vA c none hlk
 have hin : c ∈ rsF b.Strokes.length 0 := qK _ _ _ (fun x hx => by have := (h1 x hx).1; omega) h2
 obtain ⟨A, B, e⟩ := List.append_of_mem hin
 have hpw := rs_pw b.Strokes.length 0
 rw [e] at hpw
 have hA : ∀ a ∈ A, chB b pl a = false := by
  intro a ha
  cases hc : chB b pl a with
  | false => rfl
  | true =>
   obtain ⟨k1, k2⟩ := (wb hB).1 hc
   have b1 := (List.pairwise_append.1 hpw).2.2 a ha c (List.mem_cons_self ..)
   rw [hcf a k1 k2] at b1
   cases b1
 have hlen := qH (m := b.Strokes.length) hn.2 0
 unfold vx yq
 rw [hp, show (decide ((0 : Int) ≤ 0) && decide ((0 : Int) ≤ (b.Strokes.length : Int)) && decide ((b.Strokes.length : Int) ≤ 6)) = true by simp; omega, cond_true, Option.bind_some, Int.sub_zero, Int.toNat_natCast, fE (by omega), cond_true, e, Nd h hB hp ((wb hB).2 ⟨hne, hcs⟩) A 0 hA (fun a ha => by have := vV a (e ▸ ha); omega)]
 rfl
theorem Io {b : GBk} (h : Len b) (hB : BOk b) {pl : List Int} (hp : pl.length = b.Strokes.length) {s : Int} (dv : 0 ≤ s) {x : GBs} (hx : b.Strokes[s.toNat]? = some x) {k : Int} (h0 : 0 ≤ k) (h9 : k ≤ 9) : vZ b pl s k = some (TK (bump b s.toNat x k) pl) := by
 have hn := hB.ns
 have hlt : s.toNat < b.Strokes.length := (List.getElem?_eq_some_iff.1 hx).1
 have hd := hB.h.d 1 s.toNat
 have hlen : (hrL b true).length = b.Strokes.length := by simp [hrL]
 have hget : getI (hrL b true) s = some (dF b 1 s.toNat) := yu true dv hlt
 have hS : Sim6 b pl ((hrL b true).set s.toNat (dF b 1 s.toNat + k)) (dF (bump b s.toNat x k) 1) := by
  refine ⟨h, hn.2, hp, hB.h.nd, fun j => ?_, fun j hj => ?_⟩
  ·have TB := hB.h.d 1 j
   have hx' := (hB.s hx).hr
   rw [uu hx]
   have hxd := HZ (b := b) (x := x) (show getI b.Strokes s = some x by unfold getI; rw [if_pos dv]; exact hx)
   split
   ·rename_i e
    subst e
    omega
   ·omega
  ·rw [uu hx]
   unfold getI
   rw [if_pos (by omega), Int.toNat_natCast, List.getElem?_set]
   by_cases e : s.toNat = j
   ·rw [if_pos e, if_pos (by omega), if_pos e.symm, e]
   ·rw [if_neg e, if_neg (Ne.symm e)]
    have := yu (b := b) true (i := (j : Int)) (by omega) (by omega)
    unfold getI at this
    rw [if_pos (by omega), Int.toNat_natCast] at this
    exact this
 unfold vZ yr
 rw [cond_true, hr_eq hB, Option.bind_some, pV (by omega), cond_true, Option.bind_some, hget, Option.bind_some, fD (by omega) (by omega), hS.ended, Option.bind_some]
 unfold su
 rw [fE (by simp; omega), cond_true, Ip, Iq]
 unfold TK EE
 rw [Fi, Fl hx]
 rfl
theorem Ng {b : GBk} (h : Len b) (hB : BOk b) {pl : List Int} (hp : pl.length = b.Strokes.length) {s : Int} (dv : 0 ≤ s) {x : GBs} (hx : b.Strokes[s.toNat]? = some x) : ∀ (k : Nat) (c : Int), 0 ≤ c → c + k = 9 → sv b pl s k c = some (.go (spF b pl s.toNat x k c))
 | 0, c, _, _ => rfl
 | k + 1, c, h0, h1 => by
  simp only [sv]
  rw [Io h hB hp dv hx (by omega) (by omega), Option.bind_some, Nh h hB hp, Option.bind_some]
  unfold spF
  by_cases e : TK (bump b s.toNat x (c + 1)) pl = TK b pl
  ·rw [if_pos e, show (TK (bump b s.toNat x (c + 1)) pl == TK b pl) = true by simpa using e, cond_true]
   exact Ng h hB hp dv hx k (c + 1) (by omega) (by omega)
  ·rw [if_neg e, show (TK (bump b s.toNat x (c + 1)) pl == TK b pl) = false by simpa using e, cond_false]
theorem HI {b : GBk} (h : Len b) (hB : BOk b) {pl : List Int} (hp : pl.length = b.Strokes.length) {s : Int} (dv : 0 ≤ s) {x : GBs} (hx : b.Strokes[s.toNat]? = some x) : v3 b pl s = some (spF b pl s.toNat x 9 0) := by
 unfold v3
 rw [show boundOk 9 = true by decide, cond_true, show Int.toNat (9 - 0) = 9 from rfl, Ng h hB hp dv hx 9 0 (Int.le_refl _) rfl]
 rfl
end Go.V
end
