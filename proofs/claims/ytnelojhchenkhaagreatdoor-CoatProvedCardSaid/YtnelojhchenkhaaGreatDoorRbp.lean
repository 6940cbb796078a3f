/- Part of a proof: a logic of values by content, lifted functions, what follows. -/
import Derived.Test.YtnelojhchenkhaaGreatDoorRbn
import Derived.Test.YtnelojhchenkhaaGreatDoorRbo
set_option linter.all false
set_option maxRecDepth 4000
set_option maxHeartbeats 4000000
section
namespace Go.V
open Go
theorem CoatProved_true (s : GCoatSheet) (p w : List Int) (o : Int) (h : lenOk s.Dry = true ∧ lenOk s.Work = true ∧ lenOk s.Coats = true) (hp : lenOk p = true) (hw : lenOk w = true) : g_law03_CoatProved s p w o = some true := by
 have hs : OkS s := ⟨h.1, h.2.1, h.2.2⟩
 unfold g_law03_CoatProved
 obtain ⟨b, hb, hbt⟩ := right_eq hs hp
 rw [hb]
 simp only [rWeather_eq hw, rCoat_eq hs, Option.bind_some]
 cases b with
 | false => rfl
 | true =>
 obtain ⟨h1, h2⟩ := hbt rfl
 have hv := VP.of h1 h2
 have hc := hv.c
 have hl := hv.l
 cases decide ((w.length : Int) > 14) with
 | true => rfl
 | false =>
 cases h3 : inW s.Dry w with
 | false => rfl
 | true =>
 cases h4 : inB 0 ((s.Coats.length : Int) - 1) o with
 | false => rfl
 | true =>
 have ho := inB_iff.1 h4
 obtain ⟨a, q, hq⟩ := drop_some (l := p) (k := o.toNat) (by omega)
 obtain ⟨c, ds, hds⟩ := drop_some (l := s.Coats) (k := o.toNat) (by omega)
 have hlen := drop_len hq
 have hD1 := dries_eq hv hv.dk.low (by simp [lowsL]) ho.1 hq
 have hD2 := dries_eq hv hv.dk.high (by simp [highsL]) ho.1 hq
 have hL : decide ((IntKind.i64.wrap (o + 1)) < (p.length : Int)) = !q.isEmpty := by
  rw [wrap_eq (by omega) (by omega)]
  cases q with
  | nil => simp only [List.length_nil] at hlen; rw [decide_eq_false (by omega)]; rfl
  | cons b q => simp only [List.length_cons] at hlen; rw [decide_eq_true (by omega)]; rfl
 simp only [holds_eq hs hp hw, fails_eq hs hp, h1, h2, h3, hL, hD1, hD2, lows_eq hv.dk, highs_eq hv.dk, getI_of_drop ho.1 hds, cond_true, cond_false, Option.bind_some, Bool.and_self]
 rcases proof_eq hs hp h1 h2 with ⟨e1, e2⟩ | ⟨e1, r, e2, e3, e4, e5⟩
 ·have e6 : worstW s.Dry s.Coats p = none := by unfold sureB at e1; simpa using e1
  obtain ⟨f1, f2⟩ := failW_none e6 o.toNat hq hds
  simp only [e2, e6, sure_holds hv h3 e1, f1, Option.bind_some]
  cases hqe : q.isEmpty with
  | true => rfl
  | false =>
   rw [hqe] at f2
   have f2' : decide (SI (highsL s.Dry) (q.headD s.Dry.length) - SI (highsL s.Dry) a > c.Peel) = false := f2
   rw [f2']
   rfl
 ·have hlr : lenOk r = true := lenOk_of (by have := inW_len e3; have := hv.dk.l; omega)
  cases e6 : worstW s.Dry s.Coats p with
  | none => unfold sureB at e1; rw [e6] at e1; cases e1
  | some jy =>
  obtain ⟨j, y⟩ := jy
  obtain ⟨k, g1, g2, g3, g4, g5⟩ := failW_some hl e6
  have hbf : g_ref01_Before w r = some (ltL w r) := before_eq hw (by rw [inW_len h3, inW_len e3])
  have hj : inB 0 ((s.Coats.length : Int) - 1) j = true := inB_iff.2 ⟨by omega, by omega⟩
  simp only [e2, hbf, rWeather_eq hlr, e3, holds_eq hs hp hlr, h1, h2, e4, hj, Option.bind_some, cond_true, Bool.and_self]
  have hB : holdsW s.Dry s.Coats p w = false → ltL w r = false := e5 w h3
  have F1 : ∀ {E Pl : Bool}, decide (SI (lowsL s.Dry) (q.headD s.Dry.length) - SI (lowsL s.Dry) a < c.Need) = E → (!q.isEmpty && decide (SI (highsL s.Dry) (q.headD s.Dry.length) - SI (highsL s.Dry) a > c.Peel)) = Pl → ((E || Pl) = true → decide (j > o) = false) ∧ ((j == o) = true → (y == 1) = E ∧ (E || Pl) = true) := by
   intro E Pl hE hP
   refine ⟨fun hEP => ?_, fun hjo => ?_⟩
   ·refine decide_eq_false fun hgt => ?_
    obtain ⟨x1, x2⟩ := g5 o.toNat (by omega) hq hds
    rw [← hE, ← hP, x1, x2] at hEP
    cases hEP
   ·have hjo' : j = o := by simpa using hjo
    have hk : k = o.toNat := by omega
    subst hk
    obtain ⟨x1, x2⟩ := g4 hq hds
    rw [hE] at x1
    refine ⟨x1.symm, ?_⟩
    rcases g3 with rfl | rfl
    ·rw [x1]; rfl
    ·rw [← hP, x2 rfl]; simp
  generalize hEd : decide (SI (lowsL s.Dry) (q.headD s.Dry.length) - SI (lowsL s.Dry) a < c.Need) = E at F1 ⊢
  generalize hPd : decide (SI (highsL s.Dry) (q.headD s.Dry.length) - SI (highsL s.Dry) a > c.Peel) = Pd at F1 ⊢
  obtain ⟨F2, F3⟩ := F1 rfl rfl
  generalize decide (j > o) = gt at F2 ⊢
  generalize (j == o) = je at F3 ⊢
  generalize q.isEmpty = qe at F2 F3 ⊢
  generalize holdsW s.Dry s.Coats p w = H at hB ⊢
  generalize ltL w r = bf at hB ⊢
  rcases g3 with rfl | rfl
  ·cases H <;> cases bf <;> cases E <;> cases Pd <;> cases gt <;> cases je <;> cases qe <;> first | rfl | (exfalso; simp at hB; done) | (exfalso; simp at F2; done) | (exfalso; simp at F3; done)
  ·cases H <;> cases bf <;> cases E <;> cases Pd <;> cases gt <;> cases je <;> cases qe <;> first | rfl | (exfalso; simp at hB; done) | (exfalso; simp at F2; done) | (exfalso; simp at F3; done)
end Go.V
end
