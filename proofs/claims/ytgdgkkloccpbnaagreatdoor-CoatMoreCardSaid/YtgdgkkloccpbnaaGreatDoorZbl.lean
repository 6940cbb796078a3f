/- Part of a proof: a logic of values by content, lifted functions, what follows. -/
import Derived.Test.YtgdgkkloccpbnaaGreatDoorZbf
import Derived.Test.YtgdgkkloccpbnaaGreatDoorZbh
import Derived.Test.YtgdgkkloccpbnaaGreatDoorZbj
import Derived.Test.YtgdgkkloccpbnaaGreatDoorZbk
import Derived.Test.YtgdgkkloccpbnaaGreatDoorZbi
set_option linter.all false
set_option maxRecDepth 4000
set_option maxHeartbeats 40000000
section
namespace Go.V
open Go Go.Proofs
def g_coat_Word (x0_s : GCoatSheet) (x1_plan : List Int) : Option (Int × Int) := Option.bind (g_coat_isSheet x0_s) (fun r1 => cond (r1) (Option.bind (g_coat_isPlan x0_s x1_plan) (fun r2 => cond (r2) (Option.bind (g_coat_summed x0_s) (fun r3 => Option.bind (g_coat_firstFailure_worst r3 x1_plan) (fun r4 => cond (r4.2) (Option.bind (g_coat_firstFailure_best r3 x1_plan) (fun r5 => cond (r5.2) (some (1, 0)) (some (2, 0)))) (some (3, 0))))) (some (0, 2)))) (some (0, 2)))
theorem g_coat_Word_ok (x0_s : GCoatSheet) (x1_plan : List Int) (R : Int × Int) (h : g_coat_Word x0_s x1_plan = some R) : VPure Tryz.prog G0 53 [.agg (cGCoatSheet x0_s), .sl (cellsL eI x1_plan) (List.length x1_plan) false] (.tree (.tup [.lit (.int .i64 R.1), .lit (.int .i64 R.2)])) := by
 refine VPure.runR mixed Tryz.call53 Tryz.func53 rfl (by simp [Tryz.ntmps53]; kernel_rfl) ?_
 obtain ⟨KF, h, kF, kN⟩ := fun_intro h
 simp only [g_coat_Word] at h
 rcases o7 : (g_coat_isSheet x0_s) with _ | r6
 ·simp only [o7, hs] at h
  exact absurd h kN
 simp only [o7, hs] at h
 simp only [vz, tyf, nm, seval]
 refine ktree (args0 := [.agg (cGCoatSheet x0_s)]) (by first | (simp only [nrm, tynrm] <;> rfl) | rfl) (by simp only [tre, tytre, Bool.and_self]) (g_coat_isSheet_ok _ _ o7) ?_
 refine fin_cut (fun tm => tm 1 = .sl (cellsL eI x1_plan) (List.length x1_plan) false ∧ tm 2 = .ptr 0 0 ∧ tm 8 = .lit (.bool r6) ∧ True) (by refine ⟨?_, ?_, ?_, trivial⟩ <;> first | (simp only [ua, nm, seval] <;> rfl) | rfl) ?_
 rintro tm ⟨e8, e9, e10, _⟩
 cases d11 : (r6)
 ·simp only [d11, hs] at h
  try simp only [vz, tyf, e8, e9, e10, d11, nm, seval]
  refine opd_ret (x := (.tup [.lit (.int .i64 0), .lit (.int .i64 2)])) (by first | (simp only [Tryz.results53, resV, resL, resV1, tgt_ptr, tgt_tp, uw, cr, tyf, d11, nm, seval] <;> rfl) | rfl) ?_
  obtain rfl := kF _ h
  refine rr_tree ?_ ?_
  ·simp only [tre, tytre, Bool.and_self]
  ·first | (simp only [outV, uw, showV_ref, cr, tyf, nrm, tynrm, e8, e9, e10, d11, nm, seval] <;> rfl) | rfl
 simp only [d11, hs] at h
 rcases o13 : (g_coat_isPlan x0_s x1_plan) with _ | r12
 ·simp only [o13, hs] at h
  exact absurd h kN
 simp only [o13, hs] at h
 simp only [vz, tyf, e8, e9, e10, d11, nm, seval]
 refine ktree (args0 := [.agg (cGCoatSheet x0_s), .sl (cellsL eI x1_plan) (List.length x1_plan) false]) (by first | (simp only [nrm, tynrm] <;> rfl) | rfl) (by simp only [tre, tytre, Bool.and_self]) (g_coat_isPlan_ok _ _ _ o13) ?_
 refine fin_cut (fun tm => tm 1 = .sl (cellsL eI x1_plan) (List.length x1_plan) false ∧ tm 2 = .ptr 0 0 ∧ tm 10 = .lit (.bool false) ∧ tm 13 = .lit (.bool r12) ∧ True) (by refine ⟨e8, e9, ?_, ?_, trivial⟩ <;> first | (simp only [ua, e8, e9, e10, d11, nm, seval] <;> rfl) | rfl) ?_
 rintro tm ⟨e14, e15, e16, e17, _⟩
 cases d18 : (r12)
 ·simp only [d18, hs] at h
  try simp only [vz, tyf, d11, e14, e15, e16, e17, d18, nm, seval]
  refine opd_ret (x := (.tup [.lit (.int .i64 0), .lit (.int .i64 2)])) (by first | (simp only [Tryz.results53, resV, resL, resV1, tgt_ptr, tgt_tp, uw, cr, tyf, d11, d18, nm, seval] <;> rfl) | rfl) ?_
  obtain rfl := kF _ h
  refine rr_tree ?_ ?_
  ·simp only [tre, tytre, Bool.and_self]
  ·first | (simp only [outV, uw, showV_ref, cr, tyf, nrm, tynrm, d11, e14, e15, e16, e17, d18, nm, seval] <;> rfl) | rfl
 simp only [d18, hs] at h
 rcases o20 : (g_coat_summed x0_s) with _ | r19
 ·simp only [o20, hs] at h
  exact absurd h kN
 simp only [o20, hs] at h
 simp only [vz, tyf, d11, e14, e15, e16, e17, d18, nm, seval]
 refine ktree (args0 := [.agg (cGCoatSheet x0_s)]) (by first | (simp only [nrm, tynrm] <;> rfl) | rfl) (by simp only [tre, tytre, Bool.and_self]) (g_coat_summed_ok _ _ o20) ?_
 refine fin_cut (fun tm => tm 1 = .sl (cellsL eI x1_plan) (List.length x1_plan) false ∧ tm 17 = .agg (cGcoatsums r19) ∧ True) (by refine ⟨e14, ?_, trivial⟩ <;> first | (simp only [ua, d11, e14, e15, e16, e17, d18, nm, seval] <;> rfl) | rfl) ?_
 rintro tm ⟨e21, e22, _⟩
 simp only [vz, tyf, d11, d18, e21, e22, nm, seval]
 refine cwp_cutF (fun tm => tm 1 = .sl (cellsL eI x1_plan) (List.length x1_plan) false ∧ tm 6 = .ptr 14 0 ∧ True) (by refine ⟨e21, ?_, trivial⟩ <;> first | (simp only [ua, d11, d18, e21, e22, nm, seval] <;> rfl) | rfl) ?_
 rintro tm ⟨e23, e24, _⟩
 refine cwp_drawS mixed 4 rfl rfl rfl (by kernel_rfl) ?_
 simp only [vz, tyf, d11, d18, e23, e24, nm, seval]
 refine dktree (args0 := [.agg (cGcoatsums r19)]) (by first | (simp only [nrm, tynrm] <;> rfl) | rfl) (by simp only [tre, tytre, Bool.and_self]) (g_coat_sums_atWorst_ok _) ?_
 try simp only [vz, tyf, d11, d18, e23, e24, nm, seval]
 refine kopen ?_
 rw [openK_eq]
 refine VOpen.run mixed Tryz.call95 Tryz.func95 rfl (by simp [Tryz.ntmps95]; kernel_rfl) ?_
 rcases o26 : (g_coat_firstFailure_worst r19 x1_plan) with _ | r25
 ·simp only [o26, hs] at h
  exact absurd h kN
 simp only [o26, hs] at h
 simp only [vz, tyf, d11, d18, nm, seval]
 refine ktree (args0 := [.agg (cGcoatsums r19), .agg ([VV.lit Value.nilFunc] ++ [VV.fn (Fn.func 121) [.agg (cGcoatsums r19)] []] ++ [VV.fn (Fn.func 112) [.agg (cGcoatsums r19)] []]), .sl (cellsL eI x1_plan) (List.length x1_plan) false]) (by first | (simp only [nrm, tynrm, normV_fn, normV_nilF, mV_app, mV_app0] <;> rfl) | rfl) (by simp only [tre, tytre, tree_fn, mV_app, mV_app0, Bool.and_self]) (g_coat_firstFailure_worst_ok _ _ _ o26) ?_
 refine fin_cut (fun tm => tm 13 = .tup [.agg (cGcoatfailure r25.1), .lit (.bool r25.2)] ∧ True) (by refine ⟨?_, trivial⟩ <;> first | (simp only [ua, d11, d18, nm, seval] <;> rfl) | rfl) ?_
 rintro tm ⟨e27, _⟩
 try simp only [vz, tyf, d11, d18, e27, nm, seval]
 refine opd_ret (x := (.lit (.bool (!r25.2)))) (by first | (simp only [Tryz.results95, resV, resL, resV1, tgt_ptr, tgt_tp, uw, cr, tyf, d11, d18, nm, seval] <;> rfl) | rfl) ?_
 cases d28 : (r25.2)
 ·simp only [d28, hs] at h
  try simp only [vz, tyf, d11, d18, e23, e24, d28, nm, seval]
  refine opd_ret (x := (.tup [.lit (.int .i64 3), .lit (.int .i64 0)])) (by first | (simp only [Tryz.results53, resV, resL, resV1, tgt_ptr, tgt_tp, uw, cr, tyf, d11, d18, d28, nm, seval] <;> rfl) | rfl) ?_
  obtain rfl := kF _ h
  refine rr_tree ?_ ?_
  ·simp only [tre, tytre, Bool.and_self]
  ·first | (simp only [outV, uw, showV_ref, cr, tyf, nrm, tynrm, d11, d18, e23, e24, d28, nm, seval] <;> rfl) | rfl
 simp only [d28, hs] at h
 simp only [vz, tyf, d11, d18, e23, e24, d28, nm, seval]
 refine cwp_cutF (fun tm => tm 1 = .sl (cellsL eI x1_plan) (List.length x1_plan) false ∧ tm 6 = .ptr 14 0 ∧ True) (by refine ⟨e23, e24, trivial⟩ <;> first | (simp only [ua, d11, d18, e23, e24, d28, nm, seval] <;> rfl) | rfl) ?_
 rintro tm ⟨e29, e30, _⟩
 refine cwp_drawS mixed 4 rfl rfl rfl (by kernel_rfl) ?_
 simp only [vz, tyf, d11, d18, d28, e29, e30, nm, seval]
 refine dktree (args0 := [.agg (cGcoatsums r19)]) (by first | (simp only [nrm, tynrm] <;> rfl) | rfl) (by simp only [tre, tytre, Bool.and_self]) (g_coat_sums_atBest_ok _) ?_
 try simp only [vz, tyf, d11, d18, d28, e29, e30, nm, seval]
 refine kopen ?_
 rw [openK_eq]
 refine VOpen.run mixed Tryz.call95 Tryz.func95 rfl (by simp [Tryz.ntmps95]; kernel_rfl) ?_
 rcases o32 : (g_coat_firstFailure_best r19 x1_plan) with _ | r31
 ·simp only [o32, hs] at h
  exact absurd h kN
 simp only [o32, hs] at h
 simp only [vz, tyf, d11, d18, d28, nm, seval]
 refine ktree (args0 := [.agg (cGcoatsums r19), .agg ([VV.lit Value.nilFunc] ++ [VV.fn (Fn.func 112) [.agg (cGcoatsums r19)] []] ++ [VV.fn (Fn.func 121) [.agg (cGcoatsums r19)] []]), .sl (cellsL eI x1_plan) (List.length x1_plan) false]) (by first | (simp only [nrm, tynrm, normV_fn, normV_nilF, mV_app, mV_app0] <;> rfl) | rfl) (by simp only [tre, tytre, tree_fn, mV_app, mV_app0, Bool.and_self]) (g_coat_firstFailure_best_ok _ _ _ o32) ?_
 refine fin_cut (fun tm => tm 13 = .tup [.agg (cGcoatfailure r31.1), .lit (.bool r31.2)] ∧ True) (by refine ⟨?_, trivial⟩ <;> first | (simp only [ua, d11, d18, d28, nm, seval] <;> rfl) | rfl) ?_
 rintro tm ⟨e33, _⟩
 try simp only [vz, tyf, d11, d18, d28, e33, nm, seval]
 refine opd_ret (x := (.lit (.bool (!r31.2)))) (by first | (simp only [Tryz.results95, resV, resL, resV1, tgt_ptr, tgt_tp, uw, cr, tyf, d11, d18, d28, nm, seval] <;> rfl) | rfl) ?_
 cases d34 : (r31.2)
 ·simp only [d34, hs] at h
  try simp only [vz, tyf, d11, d18, d28, e29, e30, d34, nm, seval]
  refine opd_ret (x := (.tup [.lit (.int .i64 2), .lit (.int .i64 0)])) (by first | (simp only [Tryz.results53, resV, resL, resV1, tgt_ptr, tgt_tp, uw, cr, tyf, d11, d18, d28, d34, nm, seval] <;> rfl) | rfl) ?_
  obtain rfl := kF _ h
  refine rr_tree ?_ ?_
  ·simp only [tre, tytre, Bool.and_self]
  ·first | (simp only [outV, uw, showV_ref, cr, tyf, nrm, tynrm, d11, d18, d28, e29, e30, d34, nm, seval] <;> rfl) | rfl
 simp only [d34, hs] at h
 try simp only [vz, tyf, d11, d18, d28, e29, e30, d34, nm, seval]
 refine opd_ret (x := (.tup [.lit (.int .i64 1), .lit (.int .i64 0)])) (by first | (simp only [Tryz.results53, resV, resL, resV1, tgt_ptr, tgt_tp, uw, cr, tyf, d11, d18, d28, d34, nm, seval] <;> rfl) | rfl) ?_
 obtain rfl := kF _ h
 refine rr_tree ?_ ?_
 ·simp only [tre, tytre, Bool.and_self]
 ·first | (simp only [outV, uw, showV_ref, cr, tyf, nrm, tynrm, d11, d18, d28, e29, e30, d34, nm, seval] <;> rfl) | rfl
end Go.V
end
section
namespace Go.V
open Go Go.Proofs
end Go.V
end
section
namespace Go.V
open Go Go.Proofs
end Go.V
end
section
namespace Go.V
open Go Go.Proofs
end Go.V
end
section
namespace Go.V
open Go Go.Proofs
end Go.V
end
section
namespace Go.V
open Go
structure VP (d : List GSpan) (cs : List GCoatCoat) (p : List Int) : Prop where
 dk : DOk d
 c : 1 ≤ cs.length ∧ cs.length ≤ 5
 l : p.length = cs.length
 u : upB p = true
 r : ∀ x ∈ p, 0 ≤ x ∧ x ≤ (d.length : Int) - 1
theorem VP.of {s : GCoatSheet} {p : List Int} (h1 : sheetB s = true) (h2 : planB s p = true) : VP s.Dry s.Coats p := by
 unfold sheetB incB at h1
 unfold planB incB at h2
 simp only [Bool.and_eq_true, inB_iff, List.all_eq_true, decide_eq_true_eq] at h1 h2
 refine ⟨⟨h1.1.2, by omega⟩, by omega, h2.1.1, h2.1.2.1, fun x hx => ?_⟩
 have := h2.1.2.2 x hx
 unfold dayB at this
 exact inB_iff.1 this
def ffP (o : Option (Int × Int)) : Gcoatfailure × Bool := match o with
 | some r => (⟨r.1, r.2⟩, true)
 | none => (⟨0, 0⟩, false)
theorem clone_eq {p : List Int} (h1 : 1 ≤ p.length) (h2 : p.length ≤ 1000) : g_slices_Clone_Int p = some p := by
 unfold g_slices_Clone_Int
 rw [room_small h2, show neB p = true by cases p with | nil => simp at h1 | cons a p => rfl]
 rfl
def worstW (d : List GSpan) (cs : List GCoatCoat) (p : List Int) : Option (Int × Int) := failW (SI (lowsL d)) (SI (highsL d)) d.length p cs 0
def bestW (d : List GSpan) (cs : List GCoatCoat) (p : List Int) : Option (Int × Int) := failW (SI (highsL d)) (SI (lowsL d)) d.length p cs 0
def sumsOf (s : GCoatSheet) : Gcoatsums := ⟨s, preL (lowsL s.Dry) 0 (s.Dry.length + 1), preL (highsL s.Dry) 0 (s.Dry.length + 1)⟩
theorem worst_eq {s : GCoatSheet} {p : List Int} (h : VP s.Dry s.Coats p) : g_coat_firstFailure_worst (sumsOf s) p = some (ffP (worstW s.Dry s.Coats p)) := by
 have hc := h.c
 have hl := h.l
 unfold g_coat_firstFailure_worst
 rw [clone_eq (by omega) (by omega), lenOk_of (by omega)]
 simp only [Option.bind_some, cond_true]
 rw [room_small (by simp; omega), cond_true]
 have := ffw_l0 (x := sumsOf s) (lo := SI (lowsL s.Dry)) (hi := SI (highsL s.Dry)) (fun k h0 h1 => getI_pre h0 h1) (fun k h0 h1 => getI_pre h0 h1) (SI_bd h.dk.low) (SI_bd h.dk.high) (lenOk_of (show s.Coats.length < _ by omega)) (r := p) p s.Coats 0 (Int.le_refl _) rfl rfl hl (fun x hx => by have := h.r x hx; show 0 ≤ x ∧ x ≤ (s.Dry.length : Int); omega)
 rw [this]
 unfold worstW
 show lbind (ffR (failW _ _ (s.Dry.length : Int) p s.Coats 0)) _ _ _ = _
 cases failW (SI (lowsL s.Dry)) (SI (highsL s.Dry)) (s.Dry.length : Int) p s.Coats 0 <;> rfl
theorem best_eq {s : GCoatSheet} {p : List Int} (h : VP s.Dry s.Coats p) : g_coat_firstFailure_best (sumsOf s) p = some (ffP (bestW s.Dry s.Coats p)) := by
 have hc := h.c
 have hl := h.l
 unfold g_coat_firstFailure_best
 rw [clone_eq (by omega) (by omega), lenOk_of (by omega)]
 simp only [Option.bind_some, cond_true]
 rw [room_small (by simp; omega), cond_true]
 have := ffb_l0 (x := sumsOf s) (lo := SI (lowsL s.Dry)) (hi := SI (highsL s.Dry)) (fun k h0 h1 => getI_pre h0 h1) (fun k h0 h1 => getI_pre h0 h1) (SI_bd h.dk.low) (SI_bd h.dk.high) (lenOk_of (show s.Coats.length < _ by omega)) (r := p) p s.Coats 0 (Int.le_refl _) rfl rfl hl (fun x hx => by have := h.r x hx; show 0 ≤ x ∧ x ≤ (s.Dry.length : Int); omega)
 rw [this]
 unfold bestW
 show lbind (ffR (failW _ _ (s.Dry.length : Int) p s.Coats 0)) _ _ _ = _
 cases failW (SI (highsL s.Dry)) (SI (lowsL s.Dry)) (s.Dry.length : Int) p s.Coats 0 <;> rfl
theorem summed_of {s : GCoatSheet} (h : DOk s.Dry) : g_coat_summed s = some (sumsOf s) := summed_eq h
theorem ffP_2 (o : Option (Int × Int)) : (ffP o).2 = o.isSome := by cases o <;> rfl
def sureB (d : List GSpan) (cs : List GCoatCoat) (p : List Int) : Bool := (worstW d cs p).isNone
def wordW (d : List GSpan) (cs : List GCoatCoat) (p : List Int) : Int := cond (sureB d cs p) 3 (cond (bestW d cs p).isNone 2 1)
theorem word_eq {s : GCoatSheet} {p : List Int} (hs : OkS s) (hp : lenOk p = true) : g_coat_Word s p = some (cond (sheetB s) (cond (planB s p) (wordW s.Dry s.Coats p, 0) (0, 2)) (0, 2)) := by
 unfold g_coat_Word
 rw [isSheet_eq hs, isPlan_eq hs hp]
 simp only [Option.bind_some]
 cases h1 : sheetB s with
 | false => rfl
 | true =>
 cases h2 : planB s p with
 | false => rfl
 | true =>
 have h := VP.of h1 h2
 simp only [cond_true, summed_of h.dk, Option.bind_some, worst_eq h, best_eq h, ffP_2]
 unfold wordW sureB
 cases worstW s.Dry s.Coats p <;> cases bestW s.Dry s.Coats p <;> rfl
theorem up_head {a : Int} {p : List Int} {n : Int} (h : upB (a :: p) = true) (hn : a ≤ n) : a ≤ p.headD n := by
 cases p with
 | nil => exact hn
 | cons b p =>
  rw [upB_cons, Bool.and_eq_true, decide_eq_true_eq] at h
  show a ≤ b
  omega
theorem up_tail {a : Int} {p : List Int} (h : upB (a :: p) = true) : upB p = true := by
 cases p with
 | nil => rfl
 | cons b p => rw [upB_cons, Bool.and_eq_true] at h; exact h.2
section
variable {d : List GSpan} {cs0 : List GCoatCoat} {pl : List Int} (h : VP d cs0 pl) {w : List Int} (hw : WOk w) (hl : w.length = d.length)
include h hw hl in
include h hw hl in
include h hw hl in
end
theorem VP.pl {d : List GSpan} {cs : List GCoatCoat} {p : List Int} (h : VP d cs p) : lenOk p = true := by
 have := h.c; have := h.l
 exact lenOk_of (by omega)
def ptS (v : Int) : GSpan := ⟨v, v⟩
theorem DOk.pt {w : List Int} (h : WOk w) (h1 : 1 ≤ w.length) : DOk (w.map ptS) := ⟨fun x hx => by
 obtain ⟨v, hv, rfl⟩ := List.mem_map.1 hx
 have := h.v v hv
 exact span_iff.2 ⟨this.1, Int.le_refl _, this.2⟩, by simp; exact ⟨h1, h.l⟩⟩
end Go.V
end
section
set_option linter.unusedVariables false
set_option linter.defProp false
namespace Go.V
open Go
section
variable {P : Program} {H : Nat → Option VObj} {t : TypeId} {x y : Operand} {k : IntKind} {a b : Int}
end
end Go.V
end
section
set_option linter.unusedVariables false
namespace Go.V
open Go
section
variable {P : Program} {G : Glob} {ops : Array Oper} {base : Nat} {Q : VExit → St → Prop} {n : Nat}
end
end Go.V
namespace Go.V
open Go
section
variable {P : Program} {G : Glob} {ops : Array Oper} {base : Nat} {Q : VExit → St → Prop} {n : Nat}
end
section
variable {P : Program} {G : Glob} {ops : Array Oper} {base : Nat} {Q : VExit → St → Prop} {n : Nat} {i m b : Nat} {o : Oper} {l l2 : List Oper} {mk mE mL : List Bool} {tr : Tr} {K : Tr → St → Prop} {tm : Nat → VV} {H : Nat → Option VObj} {nx : Nat} {df : List VDef} {st : St} {rest : List (List Bool × Nat)}
end
end Go.V
namespace Go.V
set_option linter.defProp false
end Go.V
end
section
set_option linter.unusedVariables false
namespace Go.V
open Go
def gone (H H' : Nat → Option VObj) : Nat → Option VObj := fun β => if (H' β).isSome then none else H β
theorem SubHeap.gone (H H' : Nat → Option VObj) : SubHeap (gone H H') H := fun x o h => by
 unfold Go.V.gone at h
 split at h
 ·cases h
 ·exact h
def Frozen (H H' : Nat → Option VObj) (x y : VV) : Prop := y = x ∨ y = .any ∨ ∃ n, sealV (gone H H') n x = some y
def FrozenL (H H' : Nat → Option VObj) : List VV → List VV → Prop
 | [], [] => True
 | x :: xs, y :: ys => Frozen H H' x y ∧ FrozenL H H' xs ys
 | _, _ => False
def FrozenO (H H' : Nat → Option VObj) (o o' : VObj) : Prop := o' = o ∨ ∃ el cs cs', o = .cells el cs ∧ o' = .cells el cs' ∧ FrozenL H H' cs cs'
def Ctx.frz (c : Ctx) (H' : Nat → Option VObj) : Ctx := { c with H := H', A := fun b => c.A b ∨ ∃ β, c.live β ∧ (H' β).isSome = false ∧ c.φ β = b }
section
variable {c : Ctx} {W : World} {H' : Nat → Option VObj}
theorem abides_frz (hl : ∀ β, (H' β).isSome = true → c.live β) : Abides c W (c.frz H') W := ⟨fun _ h => .inl h, fun _ _ => rfl, fun _ h => h, fun β _ h => hl β h, fun _ _ _ => rfl, fun _ _ _ => rfl⟩
theorem ext_frz (hl : ∀ β, (H' β).isSome = true → c.live β) : Ext c W (c.frz H') W where
 A _ h := .inl h
 newA b h := h.imp id fun ⟨β, h1, _, e⟩ => .inr ⟨β, h1, e⟩
 used _ h := h
 live β _ h := hl β h
 φ _ _ _ := rfl
 room _ _ _ := rfl
 keep _ _ _ := rfl
 old x h _ := ⟨x, hl x h, rfl⟩
 size := Nat.le_refl _
 os := rfl
 tape := rfl
 output := rfl
theorem frozen_rep (s : Sim c W) (hl : ∀ β, (H' β).isSome = true → c.live β) {x y : VV} {v : Value} (h : Frozen c.H H' x y) (hr : Rep c W x v) : Rep (c.frz H') W y v := by
 rcases h with rfl | rfl | ⟨n, hn⟩
 ·exact Rep.abides (abides_frz hl) _ hr
 ·unfold Rep; trivial
 ·have h1 := (seal_rep s (SubHeap.gone c.H H') n).1 x v y hn hr
  refine Rep.abides (abides_of_p fun b hb => ?_) _ h1
  rcases hb with hb | ⟨β, hβ, e⟩
  ·exact .inl hb
  ·refine .inr ⟨β, ?_, ?_, e⟩
   ·unfold Go.V.gone at hβ
    split at hβ
    ·cases hβ
    ·exact hβ
   ·cases h0 : (H' β).isSome with
    | false => rfl
    | true => unfold Go.V.gone at hβ; rw [h0] at hβ; cases hβ
theorem frozenL_rep (s : Sim c W) (hl : ∀ β, (H' β).isSome = true → c.live β) : ∀ {xs ys : List VV} {l : List Value}, FrozenL c.H H' xs ys → RepL c W xs l → RepL (c.frz H') W ys l
 | [], [], _, _, h => h
 | _ :: _, _ :: _, _, ⟨h1, h2⟩, ⟨u, us, e, r1, r2⟩ => ⟨u, us, e, frozen_rep s hl h1 r1, frozenL_rep s hl h2 r2⟩
 | [], _ :: _, _, h, _ => h.elim
 | _ :: _, [], _, h, _ => h.elim
theorem FrozenL.length {H H' : Nat → Option VObj} : ∀ {xs ys : List VV}, FrozenL H H' xs ys → ys.length = xs.length
 | [], [], _ => rfl
 | _ :: _, _ :: _, h => by simp [FrozenL.length h.2]
 | [], _ :: _, h => h.elim
 | _ :: _, [], h => h.elim
theorem Sim.frz (s : Sim c W) (ho : ∀ β o', H' β = some o' → ∃ o, c.H β = some o ∧ FrozenO c.H H' o o') (hloop : ∀ x st pe tm ps asg bo df, H' x = some (.loop st pe tm ps asg bo df) → isDef H' df) : Sim (c.frz H') W := by
 have hl : ∀ β, (H' β).isSome = true → c.live β := by
  intro β h
  obtain ⟨o', h'⟩ := Option.isSome_iff_exists.1 h
  obtain ⟨o, h1, _⟩ := ho β o' h'
  simp [Ctx.live, h1]
 have ab : Abides c W (c.frz H') W := abides_frz hl
 refine ⟨fun x h => s.used x (hl x h), fun x ox hx => ?_, fun x h => s.lt x (hl x h), fun x h => ?_, fun x y hx hy e => s.inj x y (hl x hx) (hl y hy) e, fun b hb => ?_⟩
 ·have hx0 : H' x = some ox := hx
  obtain ⟨o, h1, hf⟩ := ho x ox hx0
  rcases hf with rfl | ⟨el, cs, cs', rfl, rfl, hcs⟩
  ·refine (s.obj x _ h1).abides ab (s.used x (hl x (by simp [hx0]))) (by simp [Ctx.live, Ctx.frz, hx0]) rfl ?_
   intro st pe tm ps asg bo df e'
   subst e'
   exact hloop x st pe tm ps asg bo df hx0
  ·obtain ⟨arr, e, a1, a2, a3, a4, a5⟩ := s.obj x _ h1
   exact ⟨arr, e, a1, a2, by rw [hcs.length]; exact a3, by rw [hcs.length]; exact frozenL_rep s hl hcs a4, a5⟩
 ·rintro (hA | ⟨β, h1, hn, e⟩)
  ·exact s.notA x (hl x h) hA
  ·have := s.inj β x h1 (hl x h) e
   subst this
   have h' : (H' β).isSome = true := h
   rw [h'] at hn; cases hn
 ·rcases hb with hA | ⟨β, h1, _, e⟩
  ·exact s.ltA b hA
  ·rw [← e]; exact s.lt β h1
end
theorem VWp.freeze {P : Program} {G : Glob} {n : Nat} {code : Code} {Q : VExit → St → Prop} {st : St} (H' : Nat → Option VObj) (tm' : Nat → VV) (ho : ∀ β o', H' β = some o' → ∃ o, st.H β = some o ∧ FrozenO st.H H' o o') (hloop : ∀ x s pe tm ps asg bo df, H' x = some (.loop s pe tm ps asg bo df) → isDef H' df)
  (htm : ∀ t, Frozen st.H H' (st.tm t) (tm' t)) (h : VWp P G n code Q ⟨tm', H', st.nx, st.df⟩) : VWp P G n code Q st := by
 intro ro c W a hro s hr hsz
 have ho' : ∀ β o', H' β = some o' → ∃ o, c.H β = some o ∧ FrozenO c.H H' o o' := by rw [hr.H]; exact ho
 have hl : ∀ β, (H' β).isSome = true → c.live β := by
  intro β h
  obtain ⟨o', h'⟩ := Option.isSome_iff_exists.1 h
  obtain ⟨o, h1, _⟩ := ho' β o' h'
  simp [Ctx.live, h1]
 have he : Ext c W (c.frz H') W := ext_frz hl
 have ab : Abides c W (c.frz H') W := abides_frz hl
 refine wpIn_mono (h ro (c.frz H') W a (hro.ext he) (s.frz ho' hloop) ⟨rfl, fun t => ?_, hr.nx, hr.df.abides ab, hr.G.abides ab⟩ hsz) fun _ _ _ hl => hl.of_ext he (fun β hb => .inl hb) (Nat.le_refl _)
 exact frozen_rep s hl (by rw [hr.H]; exact htm t) (hr.tm t)
end Go.V
end
section
set_option linter.unusedVariables false
namespace Go.V
open Go
theorem VOpen.freeze {P : Program} {G : Glob} {f : FuncId} {args args' : List VV} {H : Nat → Option VObj} {nx : Nat} {R Rp : VV → (Nat → Option VObj) → Nat → Prop} (H' : Nat → Option VObj) (ho : ∀ β o', H' β = some o' → ∃ o, H β = some o ∧ FrozenO H H' o o')
  (hloop : ∀ x s pe tm ps asg bo df, H' x = some (.loop s pe tm ps asg bo df) → isDef H' df) (ha : FrozenL H H' args args') (h : VOpen P G f args' H' nx R Rp) : VOpen P G f args H nx R Rp := by
 refine ⟨h.1, fun c W vs s hH hnx hG hargs => ?_⟩
 have ho' : ∀ β o', H' β = some o' → ∃ o, c.H β = some o ∧ FrozenO c.H H' o o' := by rw [hH]; exact ho
 have hl : ∀ β, (H' β).isSome = true → c.live β := by
  intro β h
  obtain ⟨o', h'⟩ := Option.isSome_iff_exists.1 h
  obtain ⟨o, h1, _⟩ := ho' β o' h'
  simp [Ctx.live, h1]
 have he : Ext c W (c.frz H') W := ext_frz hl
 have ab : Abides c W (c.frz H') W := abides_frz hl
 refine (h.2 (c.frz H') W vs (s.frz ho' hloop) rfl hnx (hG.abides ab) (frozenL_rep s hl (by rw [hH]; exact ha) hargs)).mono ?_
 rintro e W' ⟨c', H1, nx', g1, g2, g3, g4, g5, g6, g7⟩
 exact ⟨c', H1, nx', he.trans g1, g2, g3, g4, g5, g6, g7⟩
def Yields (P : Program) (G : Glob) (β : Nat) (x : VV) (H : Nat → Option VObj) (nx : Nat) (Post : Bool → (Nat → Option VObj) → Nat → Prop) : Prop :=
 ∀ (r : Option (Option Nat)) (o : Oper) (st : St) (K : St → Prop), st.H = H → st.nx = nx → (∀ b H' nx', Post b H' nx' → K ⟨(match o.dst with | some d => upd st.tm d (.lit (.bool b)) | none => st.tm), H', nx', st.df⟩) → yieldK P (G.at r) o β [x] st K
theorem Yields.mono {P : Program} {G : Glob} {β : Nat} {x : VV} {H : Nat → Option VObj} {nx : Nat} {Post Post' : Bool → (Nat → Option VObj) → Nat → Prop} (h : Yields P G β x H nx Post) (hp : ∀ b H' nx', Post b H' nx' → Post' b H' nx') : Yields P G β x H nx Post' :=
 fun r o st K h1 h2 hk => h r o st K h1 h2 fun b H' nx' hp' => hk b H' nx' (hp b H' nx' hp')
abbrev Inv := Option (List VV) → (Nat → Prop) → (Nat → Option VObj) → Nat → Prop
def Stable (I : Inv) : Prop := ∀ o (Fr Fr1 : Nat → Prop) (H H1 : Nat → Option VObj) (nx nx1 : Nat), I o Fr H nx → (∀ γ, γ < nx → ¬ Fr γ → H1 γ = H γ) → nx ≤ nx1 → (∀ γ, Fr1 γ → Fr γ ∨ (nx ≤ γ ∧ γ < nx1)) → I o Fr1 H1 nx1
def Rounds (P : Program) (G : Glob) (β : Nat) (I : Inv) : Prop := ∀ x rest (Fr : Nat → Prop) (H : Nat → Option VObj) (nx : Nat), (∀ γ, Fr γ → γ < nx) → I (some (x :: rest)) Fr H nx →
 Yields P G β x H nx (fun b H' nx' => nx ≤ nx' ∧ (∀ γ, Fr γ → H' γ = H γ) ∧ I (if b then some rest else none) Fr H' nx')
def noFr : Nat → Prop := fun _ => False
def Iter (P : Program) (G : Glob) (g : VV) (L : List VV) : Prop := ∃ f first captured, g = .fn (.func f) first captured ∧ ∀ (β : Nat) (I : Inv), Stable I → Rounds P G β I → ∀ (H : Nat → Option VObj) (nx : Nat), β < nx → I (some L) noFr H nx →
 VOpen P G f (first ++ [.yl β] ++ captured) H nx (fun _ H' nx' => I (some []) noFr H' nx' ∨ I none noFr H' nx') (fun _ _ _ => False)
def Own (hp : List (Nat × VObj)) (Fr : Nat → Prop) (H : Nat → Option VObj) (nx : Nat) : Prop := ∀ p ∈ hp, p.1 < nx ∧ ¬ Fr p.1 ∧ H p.1 = some p.2
theorem Own.stable {hp : List (Nat × VObj)} {Fr Fr1 : Nat → Prop} {H H1 : Nat → Option VObj} {nx nx1 : Nat} (h : Own hp Fr H nx) (h1 : ∀ γ, γ < nx → ¬ Fr γ → H1 γ = H γ) (h2 : nx ≤ nx1) (h3 : ∀ γ, Fr1 γ → Fr γ ∨ (nx ≤ γ ∧ γ < nx1)) : Own hp Fr1 H1 nx1 := by
 intro p hp
 obtain ⟨a, b, c⟩ := h p hp
 refine ⟨Nat.lt_of_lt_of_le a h2, fun hf => ?_, by rw [h1 p.1 a b]; exact c⟩
 rcases h3 p.1 hf with hf | hf
 ·exact b hf
 ·omega
theorem Own.nil {Fr : Nat → Prop} {H : Nat → Option VObj} {nx : Nat} : Own [] Fr H nx := fun _ h => by cases h
theorem Own.cons {p : Nat} {o : VObj} {hp : List (Nat × VObj)} {Fr : Nat → Prop} {H : Nat → Option VObj} {nx : Nat} (h1 : p < nx) (h2 : ¬ Fr p) (h3 : H p = some o) (h : Own hp Fr H nx) : Own ((p, o) :: hp) Fr H nx := by
 intro q hq
 rcases List.mem_cons.1 hq with rfl | hq
 ·exact ⟨h1, h2, h3⟩
 ·exact h q hq
theorem Own.head {p : Nat} {o : VObj} {hp : List (Nat × VObj)} {Fr : Nat → Prop} {H : Nat → Option VObj} {nx : Nat} (h : Own ((p, o) :: hp) Fr H nx) : p < nx ∧ ¬ Fr p ∧ H p = some o := h (p, o) (List.mem_cons_self ..)
theorem Own.tail {p : Nat} {o : VObj} {hp : List (Nat × VObj)} {Fr : Nat → Prop} {H : Nat → Option VObj} {nx : Nat} (h : Own ((p, o) :: hp) Fr H nx) : Own hp Fr H nx := fun q hq => h q (List.mem_cons_of_mem _ hq)
def ownI (J : Option (List VV) → List (Nat × VObj) → Prop) : Inv := fun o Fr H nx => ∃ hp, Own hp Fr H nx ∧ J o hp
theorem ownI_stable {J : Option (List VV) → List (Nat × VObj) → Prop} : Stable (ownI J) := fun _ _ _ _ _ _ _ ⟨hp, h, hj⟩ h1 h2 h3 => ⟨hp, h.stable h1 h2 h3, hj⟩
section
variable {P : Program} {G : Glob} {n : Nat} {Q : VExit → St → Prop} {tm : Nat → VV} {H : Nat → Option VObj} {nx : Nat} {df : List VDef} {g : Operand} {ps : Array Tmp} {az bo : Code}
def RPost (β : Nat) (LB LO : VObj) (LD : Code → VObj) (Post : Bool → (Nat → Option VObj) → Nat → Prop) : VExit → St → Prop
 | .normal, s => s.H β = some LB ∧ Post true (updH s.H β LO) s.nx
 | .ret, s => s.H β = some LB ∧ Post false (updH s.H β (LD .ret)) s.nx
 | .exit id, s => s.H β = some LB ∧ Post false (updH s.H β (LD (.exit id))) s.nx
 | _, _ => False
def RStart (P : Program) (G : Glob) (n β : Nat) (LB LO : VObj) (LD : Code → VObj) (bo : Code) (Post : Bool → (Nat → Option VObj) → Nat → Prop) : VExit → St → Prop
 | .normal, s => s.H β = some LO ∧ CWp P (G.at (some (some β))) n bo (RPost β LB LO LD Post) { s with H := updH s.H β LB }
 | _, _ => False
theorem yields_open (hm : P.follows .mixedOrders = true) {β : Nat} {x : VV} {Post : Bool → (Nat → Option VObj) → Nat → Prop} {LO : VObj} {tml : List VV} {d : Nat} {psl : List Tmp} (hL : LO = VObj.loop .ready none tml ⟨psl⟩ az bo d) (hβ : H β = some LO) (hn : tml.length = n) (ha : psl.length = 1)
  (h1 : codeOk n az = true) (h2 : codeOk n bo = true)
  (h : ∀ LB LD, LB = VObj.loop .busy none tml ⟨psl⟩ az bo d → LD = (fun c => VObj.loop .done (some c) tml ⟨psl⟩ az bo d) →
   CWp P (G.at (some (some β))) n az (RStart P G n β LB LO LD bo Post) ⟨argsTm (roundTm tml psl [x]), H, nx, []⟩) : Yields P G β x H nx Post := by
 intro r o st K e1 e2 hk
 subst e1 e2
 replace hk : ∀ b H' nx', Post b H' nx' → K { st.put o.dst (.lit (.bool b)) with H := H', nx := nx' } := by
  intro b H' nx' hp
  have := hk b H' nx' hp
  obtain ⟨d, op, ty, pos, af, gd⟩ := o
  cases d <;> exact this
 refine yield_open hm hL hβ hn (by simp [ha]) h1 h2 fun LB LD hB hD => ?_
 refine CWp.mono az _ ?_ (h LB LD hB hD)
 intro e s hs
 cases e with
 | normal =>
  refine ⟨hs.1, CWp.mono bo _ ?_ hs.2⟩
  intro e s2 hs2
  cases e with
  | normal => exact ⟨hs2.1, hk _ _ _ hs2.2⟩
  | ret => exact ⟨hs2.1, hk _ _ _ hs2.2⟩
  | exit id => exact ⟨hs2.1, hk _ _ _ hs2.2⟩
  | goto l => exact hs2.elim
  | panic x => exact hs2.elim
 | _ => exact hs.elim
theorem range_iter {itv : VV} {L : List VV} (hit : Iter P G itv L) (hg : ev (G.at (some none)) tm g = itv)
  (h : ∀ LO, LO = VObj.loop .ready none (tmL n tm) ps az bo nx → ∃ I : Inv, Stable I ∧ Rounds P G (nx + 1) I ∧ I (some L) noFr (updH (updH H nx (.deferred (some []))) (nx + 1) LO) (nx + 2) ∧
   ∀ H' nx', I (some []) noFr H' nx' ∨ I none noFr H' nx' → RangeEnd P (G.at (some none)) n Q ⟨tm, H, nx, df⟩ H' nx') : CWp P (G.at (some none)) n (.rangeFunc g ps az bo) Q ⟨tm, H, nx, df⟩ := by
 obtain ⟨f, first, captured, rfl, hv⟩ := hit
 refine range_open hg fun LO hL => ?_
 obtain ⟨I, hs, hr, h0, he⟩ := h LO hL
 exact VOpen.mono (hv (nx + 1) I hs hr _ _ (Nat.lt_succ_self _) h0) (fun _ H' nx' hh => he H' nx' hh) (fun _ _ _ hh => hh.elim)
end
end Go.V
end
section
set_option linter.unusedVariables false
namespace Go.V
open Go
theorem VOpen.freeze1 {P : Program} {G : Glob} {f : FuncId} {args args' : List VV} {H : Nat → Option VObj} {nx γ : Nat} {el : Option TypeId} {cs : List VV} {R Rp : VV → (Nat → Option VObj) → Nat → Prop} (hγ : H γ = some (.cells el cs))
  (ha : FrozenL H (without H γ) args args') (h : VOpen P G f args' (without H γ) nx R Rp) : VOpen P G f args H nx R Rp := by
 refine ⟨h.1, fun c W vs s hH hnx hG hargs => ?_⟩
 subst hH
 have ho' : ∀ β o', without c.H γ β = some o' → ∃ o, c.H β = some o ∧ FrozenO c.H (without c.H γ) o o' := fun β o' hb => ⟨o', SubHeap.without _ _ β o' hb, .inl rfl⟩
 have hl : ∀ β, (without c.H γ β).isSome = true → c.live β := by
  intro β h
  obtain ⟨o', h'⟩ := Option.isSome_iff_exists.1 h
  obtain ⟨o, h1, _⟩ := ho' β o' h'
  simp [Ctx.live, h1]
 have he : Ext c W (c.frz (without c.H γ)) W := ext_frz hl
 have ab : Abides c W (c.frz (without c.H γ)) W := abides_frz hl
 have hloop : ∀ x st pe tm ps asg bo df, without c.H γ x = some (.loop st pe tm ps asg bo df) → isDef (without c.H γ) df := by
  intro x st pe tm ps asg bo df hx
  obtain ⟨l, fn, _, _, _, hd⟩ := s.obj x _ (SubHeap.without _ _ x _ hx)
  exact hd.without hγ
 refine (h.2 (c.frz (without c.H γ)) W vs (s.frz ho' hloop) rfl hnx (hG.abides ab) (frozenL_rep s hl ha hargs)).mono ?_
 rintro e W' ⟨c', H1, nx', g1, g2, g3, g4, g5, g6, g7⟩
 exact ⟨c', H1, nx', he.trans g1, g2, g3, g4, g5, g6, g7⟩
theorem Frozen.same {H H' : Nat → Option VObj} {x : VV} : Frozen H H' x x := .inl rfl
theorem FrozenL.same {H H' : Nat → Option VObj} : ∀ {xs : List VV}, FrozenL H H' xs xs
 | [] => trivial
 | _ :: _ => ⟨.same, .same⟩
theorem Frozen.own {H : Nat → Option VObj} {γ n w cp : Nat} {el : Option TypeId} {cs : List VV} (hγ : H γ = some (.cells el cs)) (ht : treeL cs = true) (hl : cs.length = n * w) : Frozen H (without H γ) (.ref γ 0 n w cp) (.sl cs n false) := by
 refine .inr (.inr ⟨cs.length + 2, ?_⟩)
 have hg : gone H (without H γ) γ = some (.cells el cs) := by simp [gone, without, hγ]
 unfold sealV
 have : (VV.ref γ 0 n w cp).tree = false := rfl
 rw [this]
 simp only [Bool.false_eq_true, if_false, hg, Nat.zero_le, if_true, List.drop_zero]
 rw [List.take_of_length_le (by omega), seal_tree cs _ ht (by omega)]
 rfl
theorem VPure.weaken {P : Program} {G : Glob} {f : FuncId} {args args' : List VV} {r : PRes} (hw : ∀ c W vs, RepL c W args vs → RepL c W args' vs) (h : VPure P G f args' r) : VPure P G f args r :=
 ⟨h.1, fun A W vs h1 h2 h3 => h.2 A W vs h1 h2 (hw _ W vs h3)⟩
theorem rep_nil {c : Ctx} {W : World} {v : Value} (h : Rep c W (.lit (.slice none 0 0)) v) : Rep c W (.sl [] 0 false) v := by
 have e : v = .slice none 0 0 := h
 subst e
 exact ⟨none, 0, rfl, Nat.le_refl _, fun h => by simp at h, .inl rfl⟩
def vx {α : Type} (enc : α → List VV) : List α → VV
 | [] => .lit (.slice none 0 0)
 | l => .sl (cellsL enc l) l.length false
theorem rep_vx {α : Type} {enc : α → List VV} {c : Ctx} {W : World} {v : Value} : ∀ {l : List α}, Rep c W (vx enc l) v → Rep c W (.sl (cellsL enc l) l.length false) v
 | [], h => rep_nil h
 | _ :: _, h => h
theorem vx_cons {α : Type} {enc : α → List VV} {l : List α} (h : l ≠ []) : vx enc l = .sl (cellsL enc l) l.length false := by cases l with
 | nil => exact absurd rfl h
 | cons a l => rfl
def listsB (may : List Int → Int → Bool) (lim : Nat) : Nat → List Int → List (List Int)
 | 0, p => [p]
 | d + 1, p => (List.range' 0 lim).flatMap fun i : Nat => if may p (i : Int) then listsB may lim d (p ++ [(i : Int)]) else []
end Go.V
namespace Go.V
theorem tree_vx {α : Type} {enc : α → List VV} (he : EncOk enc) : ∀ {l : List α}, (vx enc l).tree = true
 | [] => rfl
 | a :: l => he.treeL (a :: l)
end Go.V
namespace Go.V
def lessN (H : Nat → Option VObj) (ns : List Nat) : Nat → Option VObj := fun γ => if γ ∈ ns then none else H γ
theorem lessN_sub {H : Nat → Option VObj} {ns : List Nat} : SubHeap (lessN H ns) H := fun x o h => by
 unfold lessN at h
 split at h
 ·cases h
 ·exact h
theorem VOpen.freezeN {P : Program} {G : Glob} {f : FuncId} {args args' : List VV} {H : Nat → Option VObj} {nx : Nat} {R Rp : VV → (Nat → Option VObj) → Nat → Prop} (ns : List Nat) (hns : ∀ γ ∈ ns, ∃ el cs, H γ = some (.cells el cs))
  (ha : FrozenL H (lessN H ns) args args') (h : VOpen P G f args' (lessN H ns) nx R Rp) : VOpen P G f args H nx R Rp := by
 refine ⟨h.1, fun c W vs s hH hnx hG hargs => ?_⟩
 subst hH
 have ho' : ∀ β o', lessN c.H ns β = some o' → ∃ o, c.H β = some o ∧ FrozenO c.H (lessN c.H ns) o o' := fun β o' hb => ⟨o', lessN_sub β o' hb, .inl rfl⟩
 have hl : ∀ β, (lessN c.H ns β).isSome = true → c.live β := by
  intro β h
  obtain ⟨o', h'⟩ := Option.isSome_iff_exists.1 h
  obtain ⟨o, h1, _⟩ := ho' β o' h'
  simp [Ctx.live, h1]
 have he : Ext c W (c.frz (lessN c.H ns)) W := ext_frz hl
 have ab : Abides c W (c.frz (lessN c.H ns)) W := abides_frz hl
 have hloop : ∀ x st pe tm ps asg bo df, lessN c.H ns x = some (.loop st pe tm ps asg bo df) → isDef (lessN c.H ns) df := by
  intro x st pe tm ps asg bo df hx
  obtain ⟨l, fn, _, _, _, ds, hd⟩ := s.obj x _ (lessN_sub x _ hx)
  refine ⟨ds, ?_⟩
  unfold lessN
  split
  ·rename_i hm
   obtain ⟨el, cs, hc⟩ := hns df hm
   rw [hc] at hd; cases hd
  ·exact hd
 refine (h.2 (c.frz (lessN c.H ns)) W vs (s.frz ho' hloop) rfl hnx (hG.abides ab) (frozenL_rep s hl ha hargs)).mono ?_
 rintro e W' ⟨c', H1, nx', g1, g2, g3, g4, g5, g6, g7⟩
 exact ⟨c', H1, nx', he.trans g1, g2, g3, g4, g5, g6, g7⟩
theorem VOpen.of_pure {P : Program} {G : Glob} {f : FuncId} {args : List VV} {x : VV} {H : Nat → Option VObj} {nx : Nat} (h : VPure P G f args (.tree x)) (ht : treeL args = true) : VOpen P G f args H nx (fun y H' nx' => y = x ∧ H' = H ∧ nx' = nx) (fun _ _ _ => False) := by
 refine ⟨h.1, fun c W vs s hH hnx hG ha => (h.2 c.A W vs s.ltA (fun g cs hg => hG.tree g cs hg) (repL_tree ht ha)).mono ?_⟩
 rintro e W' ⟨A', h1, h2, h3, hb, v, rfl, hx⟩
 exact ⟨c.more A', H, nx, Ext.more h1 h2 hb, Sim.more s h1 h2 h3 hb, hH, fun β hb => .inl hb, hnx, Nat.le_refl _, .inl ⟨x, v, rfl, Rep.abides (abides_of_p (fun _ h => h)) _ hx, rfl, rfl, rfl⟩⟩
abbrev sI (l : List Int) : VV := .sl (cellsL eI l) l.length false
theorem map_vx {L : List (List Int)} (h : ∀ q ∈ L, q ≠ []) : L.map (vx eI) = L.map sI := List.map_congr_left fun q hq => vx_cons (h q hq)
end Go.V
namespace Go.V
theorem sealL_caps {H : Nat → Option VObj} {m : Nat} : ∀ (caps : List (Nat × List VV)) (n : Nat), (∀ p ∈ caps, (∃ el, H p.1 = some (.cells el p.2)) ∧ treeL p.2 = true ∧ p.2.length < m) → caps.length + m + 2 < n →
  sealL H n (caps.map fun p => .ptr p.1 0) = some (caps.map fun p => .tp p.2)
 | [], n + 1, _, _ => by simp [sealL]
 | p :: caps, n + 1, h, hn => by
  obtain ⟨⟨el, h1⟩, h2, h3⟩ := h p (List.mem_cons_self ..)
  have ih := sealL_caps caps n (fun q hq => h q (List.mem_cons_of_mem _ hq)) (by simp at hn; omega)
  obtain ⟨n', rfl⟩ : ∃ n', n = n' + 1 := ⟨n - 1, by simp at hn; omega⟩
  have e : sealV H (n' + 1) (.ptr p.1 0) = some (.tp p.2) := by
   unfold sealV
   have : (VV.ptr p.1 0).tree = false := rfl
   rw [this]
   simp only [Bool.false_eq_true, if_false, h1, Nat.zero_le, if_true, List.drop_zero]
   rw [seal_tree _ _ h2 (by simp at hn; omega)]
   rfl
  simp only [List.map_cons]
  unfold sealL
  rw [e, ih]
theorem Frozen.closure {H H' : Nat → Option VObj} {f : Fn} (caps : List (Nat × List VV)) (m : Nat) (hne : caps ≠ []) (h : ∀ p ∈ caps, (∃ el, H p.1 = some (.cells el p.2)) ∧ (H' p.1).isSome = false ∧ treeL p.2 = true ∧ p.2.length < m) : Frozen H H' (.fn f [] (caps.map fun p => .ptr p.1 0)) (.fn f [] (caps.map fun p => .tp p.2)) := by
 refine .inr (.inr ⟨caps.length + m + 4, ?_⟩)
 have hg : ∀ p ∈ caps, (∃ el, gone H H' p.1 = some (.cells el p.2)) ∧ treeL p.2 = true ∧ p.2.length < m := by
  intro p hp
  obtain ⟨⟨el, h1⟩, h2, h3⟩ := h p hp
  exact ⟨⟨el, by simp [gone, h2, h1]⟩, h3⟩
 have ht : (VV.fn f [] (caps.map fun p => .ptr p.1 0)).tree = false := by
  cases caps with
  | nil => exact absurd rfl hne
  | cons p l => simp [VV.tree, treeL]
 unfold sealV
 rw [ht]
 simp only [Bool.false_eq_true, if_false]
 rw [sealL_caps caps _ hg (by omega)]
 have : sealL (gone H H') (caps.length + m + 3) [] = some [] := by simp [sealL]
 rw [this]
end Go.V
namespace Go.V
def goL (rc : List Int → Option (List (List Int))) (may : List Int → Int → Option Bool) (p : List Int) : List Nat → Option (List (List Int))
 | [] => some []
 | i :: is => Option.bind (may p (i : Int)) fun b => cond b (Option.bind (rc (p ++ [(i : Int)])) fun a => Option.bind (goL rc may p is) fun r => some (a ++ r)) (goL rc may p is)
def listsO (may : List Int → Int → Option Bool) (lim : Nat) : Nat → List Int → Option (List (List Int))
 | 0, p => some [p]
 | d + 1, p => goL (listsO may lim d) may p (List.range' 0 lim)
theorem goL_eq {rc : List Int → Option (List (List Int))} {rb : List Int → List (List Int)} {may : List Int → Int → Option Bool} {m : List Int → Int → Bool} {p : List Int} : ∀ (is : List Nat), (∀ i ∈ is, may p (i : Int) = some (m p (i : Int))) → (∀ i ∈ is, m p (i : Int) = true → rc (p ++ [(i : Int)]) = some (rb (p ++ [(i : Int)]))) →
  goL rc may p is = some (is.flatMap fun i : Nat => if m p (i : Int) then rb (p ++ [(i : Int)]) else [])
 | [], _, _ => rfl
 | i :: is, h1, h2 => by
  have ih := goL_eq (rb := rb) is (fun j hj => h1 j (List.mem_cons_of_mem _ hj)) (fun j hj => h2 j (List.mem_cons_of_mem _ hj))
  unfold goL
  rw [h1 i (List.mem_cons_self ..), ih]
  cases hb : m p (i : Int) with
  | false => simp [List.flatMap_cons, hb]
  | true => rw [Option.bind_some, cond_true, h2 i (List.mem_cons_self ..) hb]; simp [List.flatMap_cons, hb]
theorem listsO_eq {may : List Int → Int → Option Bool} {m : List Int → Int → Bool} {lim ln : Nat} (h : ∀ p j, p.length < ln → (∀ a ∈ p, 0 ≤ a ∧ a < (lim : Int)) → 0 ≤ j → j < (lim : Int) → may p j = some (m p j)) : ∀ (d : Nat) (p : List Int), p.length + d = ln → (∀ a ∈ p, 0 ≤ a ∧ a < (lim : Int)) → listsO may lim d p = some (listsB m lim d p)
 | 0, p, _, _ => rfl
 | d + 1, p, hd, hp => by
  unfold listsO listsB
  refine goL_eq _ (fun i hi => h p i (by omega) hp (by omega) (by have := (List.mem_range'_1.1 hi).2; omega)) (fun i hi _ => listsO_eq h d _ (by simp; omega) ?_)
  intro a ha
  rcases List.mem_append.1 ha with ha | ha
  ·exact hp a ha
  ·rw [List.mem_singleton.1 ha]
   have := (List.mem_range'_1.1 hi).2
   omega
theorem goL_mem {rc : List Int → Option (List (List Int))} {may : List Int → Int → Option Bool} {p : List Int} {Pr : List Int → Prop} (hr : ∀ i L, rc (p ++ [(i : Int)]) = some L → ∀ q ∈ L, Pr q) : ∀ (is : List Nat) (L : List (List Int)), goL rc may p is = some L → ∀ q ∈ L, Pr q
 | [], L, h, q, hq => by simp [goL] at h; subst h; cases hq
 | i :: is, L, h, q, hq => by
  unfold goL at h
  cases hm : may p (i : Int) with
  | none => rw [hm] at h; cases h
  | some b =>
   rw [hm, Option.bind_some] at h
   cases b with
   | false => exact goL_mem hr is L h q hq
   | true =>
    rw [cond_true] at h
    cases ha : rc (p ++ [(i : Int)]) with
    | none => rw [ha] at h; cases h
    | some a =>
     rw [ha, Option.bind_some] at h
     cases hg : goL rc may p is with
     | none => rw [hg] at h; cases h
     | some r =>
      rw [hg, Option.bind_some] at h
      cases h
      rcases List.mem_append.1 hq with hq | hq
      ·exact hr i a ha q hq
      ·exact goL_mem hr is r hg q hq
theorem listsO_len {may : List Int → Int → Option Bool} {lim : Nat} : ∀ (d : Nat) (p : List Int) (L : List (List Int)), listsO may lim d p = some L → ∀ q ∈ L, q.length = p.length + d
 | 0, p, L, h, q, hq => by
  simp [listsO] at h; subst h
  rw [List.mem_singleton.1 hq]; rfl
 | d + 1, p, L, h, q, hq => by
  unfold listsO at h
  exact goL_mem (Pr := fun q => q.length = p.length + (d + 1)) (fun i L' h' q' hq' => by rw [listsO_len d _ L' h' q' hq']; simp; omega) _ L h q hq
end Go.V
namespace Go.V
theorem ktreeR {P : Program} {G : Glob} {γ : Nat} {tm : Nat → VV} {H : Nat → Option VObj} {nx : Nat} {df : List VDef} {d : Option Tmp} {K : St → Prop} {Qp : VV → St → Prop} {f : FuncId} {args : List VV} {x : VV} (ht : treeL args = true) (hp : VPure P G f args (.tree x)) (h : fin d γ tm H nx df K x .none) : callK P G f args ⟨tm, H, nx, df⟩ d γ K Qp := by
 refine .inl ⟨ht, .tree x, hp, ?_⟩
 rw [← fin_eq (K := K), stepTo_none] at h
 exact h
end Go.V
namespace Go.V
theorem Frozen.ptr {H H' : Nat → Option VObj} {γ : Nat} {el : Option TypeId} {cs : List VV} (hγ : H γ = some (.cells el cs)) (hn : (H' γ).isSome = false) (ht : treeL cs = true) : Frozen H H' (.ptr γ 0) (.tp cs) := by
 refine .inr (.inr ⟨cs.length + 2, ?_⟩)
 have hg : gone H H' γ = some (.cells el cs) := by simp [gone, hn, hγ]
 unfold sealV
 have : (VV.ptr γ 0).tree = false := rfl
 rw [this]
 simp only [Bool.false_eq_true, if_false, hg, Nat.zero_le, if_true, List.drop_zero]
 rw [seal_tree cs _ ht (by omega)]
 rfl
end Go.V
end
section
namespace Go.V
open Go Go.Proofs
set_option linter.unusedSimpArgs false
set_option linter.unusedVariables false
set_option maxRecDepth 4000
set_option maxHeartbeats 4000000
def ExtOk (β y e : Nat) (mc : List VV) (mf : Nat) (ln lim : Nat) (may : List Int → Int → Option Bool) (I : Inv) (d : Nat) : Prop :=
 ∀ (p : List Int) (rest : List VV) (L : List (List Int)) (Fr : Nat → Prop) (H : Nat → Option VObj) (nx : Nat), p.length + d = ln → listsO may lim d p = some L → (∀ γ, Fr γ → γ < nx) → Fr y → Fr e → H y = some (.cells (some 128) [.yl β]) →
  H e = some (.cells (some 128) [.fn (.func 134) [] [.tp [.lit (.int .i64 ln)], .ptr y 0, .tp [.lit (.int .i64 lim)], .tp [.fn (.func mf) [] mc], .ptr e 0]]) →
  I (some (L.map (vx eI) ++ rest)) Fr H nx →
  VOpen Tryz.prog G0 134 [vx eI p, .tp [.lit (.int .i64 ln)], .ptr y 0, .tp [.lit (.int .i64 lim)], .tp [.fn (.func mf) [] mc], .ptr e 0] H nx
   (fun v H' nx' => ∃ b, v = .lit (.bool b) ∧ nx ≤ nx' ∧ (∀ γ, Fr γ → H' γ = H γ) ∧ I (if b then some rest else none) Fr H' nx') (fun _ _ _ => False)
theorem argsTm6 {a b c e f g : VV} : argsTm [a, b, c, e, f, g] = upd (upd (upd (upd (upd (upd (fun _ => .lit undef) 0 a) 1 b) 2 c) 3 e) 4 f) 5 g := by
 funext t; rcases t with _ | _ | _ | _ | _ | _ | t <;> simp [argsTm, upd]
theorem vlen_vx {P : Program} {t e : Nat} {H : Nat → Option VObj} (hu : P.underlying t = some (.slice e)) : ∀ {p : List Int}, vlen P H t (vx eI p) = some (.lit (.int .i64 p.length))
 | [] => by simp [vlen, vx, hu, sls]
 | _ :: _ => by simp [vlen, vx, hu, sls]
theorem clone_nil : VPure Tryz.prog G0 119 [.lit (.slice none 0 0)] (.tree (.lit (.slice none 0 0))) := by
 have hnil : ∀ (H : Nat → Option VObj) (x y : Operand), binV Tryz.prog H .eql 23 x y (.lit (.slice none 0 0)) (.lit (.slice none 0 0)) = some (.lit (.bool true)) := fun H x y => by kernel_rfl
 refine VPure.run mixed Tryz.call119 Tryz.func119 rfl (by simp [Tryz.ntmps119]; kernel_rfl) ?_
 simp only [vz, tyf, hnil, seval, ua]
 exact ⟨rfl, .lit (.slice none 0 0), by simp [Tryz.results119, resV, resL, resV1, upd], 1, rfl⟩
theorem ext_ok {β y e : Nat} {mc : List VV} {mf ln lim : Nat} {may : List Int → Int → Option Bool} {I : Inv} (hst : Stable I) (hr : Rounds Tryz.prog G0 β I) (htm : treeL mc = true) (hln0 : 0 < ln) (hln : ln < 1000) (hlim : lim < 1000000)
  (hm : ∀ (p : List Int) (j : Int) (b : Bool), may p j = some b → VPure Tryz.prog G0 mf (.sl (cellsL eI p) p.length false :: .lit (.int .i64 j) :: mc) (.tree (.lit (.bool b)))) : ∀ d, ExtOk β y e mc mf ln lim may I d := by
 intro d
 induction d with
 | zero =>
  intro p rest L Fr H nx hd hL hF hFy hFe hy he hI
  simp only [listsO, Option.some.injEq] at hL
  subst hL
  refine VOpen.run mixed Tryz.call134 Tryz.func134 rfl (by simp [Tryz.ntmps134]; kernel_rfl) ?_
  have hl := fun H => vlen_vx (P := Tryz.prog) (H := H) Tryz.underlying23 (p := p)
  have hq : ((p.length : Int) == (ln : Int)) = true := by rw [show p.length = ln from hd]; simp
  simp only [argsTm6, vz, tyf, seval, ua, hl, hq, hy, rg]
  have hI9 : I (some (vx eI p :: rest)) Fr H (nx + 9) := hst _ _ _ _ _ _ _ hI (fun _ _ _ => rfl) (by omega) (fun γ h => .inl h)
  refine (hr (vx eI p) rest Fr H (nx + 9) (fun γ h => by have := hF γ h; omega) hI9) (some none) _ _ _ rfl rfl ?_
  rintro b H' nx' ⟨h1, h2, h3⟩
  simp only [vz, tyf, seval, ua]
  exact opd_ret (x := .lit (.bool b)) (by simp [Tryz.results134, resV, resL, resV1, upd]) ⟨b, rfl, by omega, h2, h3⟩
 | succ d ih =>
  intro p rest L Fr H nx hd hL hF hFy hFe hy he hI
  rw [listsO] at hL
  refine VOpen.run mixed Tryz.call134 Tryz.func134 rfl (by simp [Tryz.ntmps134]; kernel_rfl) ?_
  have hl := fun H => vlen_vx (P := Tryz.prog) (H := H) Tryz.underlying23 (p := p)
  have hq : ((p.length : Int) == (ln : Int)) = false := by rw [← hd]; simp; omega
  simp only [argsTm6, vz, tyf, seval, ua, hl, hq, hy, rg]
  obtain ⟨J, hJ⟩ : ∃ J : Nat → St → Prop, J = (fun m st => ∃ j : Nat, j + m = lim ∧ st.df = [] ∧ nx ≤ st.nx ∧ (∀ γ, Fr γ → st.H γ = H γ) ∧
   (∃ L, goL (listsO may lim d) may p (List.range' j m) = some L ∧ I (some (L.map (vx eI) ++ rest)) Fr st.H st.nx) ∧
   st.tm 0 = vx eI p ∧ st.tm 4 = .tp [.fn (.func mf) [] mc] ∧ st.tm 5 = .ptr e 0 ∧ st.tm 16 = .lit (.int .i64 lim) ∧ st.tm 17 = .lit (.int .i64 j)) := ⟨_, rfl⟩
  refine loopK mixed (by kernel_rfl) J lim (by rw [hJ]; refine ⟨0, by omega, rfl, ?_, fun _ _ => rfl, ⟨L, hL, hst _ _ _ _ _ _ _ hI (fun _ _ _ => rfl) ?_ (fun γ h => .inl h)⟩, ?_, ?_, ?_, ?_, ?_⟩ <;> first | rfl | (simp only; omega)) ?_
  rintro m ⟨tm, H1, nx1, df⟩ hinv
  rw [hJ] at hinv
  obtain ⟨j, hj, hdf, hn, hF1, ⟨L1, hL1, hI1⟩, e0, e4, e5, e16, e17⟩ := hinv
  simp only at hdf hn hF1 hI1 e0 e4 e5 e16 e17
  subst hdf
  cases m with
  | zero =>
   have hd1 : decide ((j : Int) < (lim : Int)) = false := by simp; omega
   simp only [vz, tyf, seval, ua, e16, e17, hd1]
   refine opd_ret (x := .lit (.bool true)) (by simp [Tryz.results134, resV, resL, resV1, upd]) ⟨true, rfl, by omega, hF1, ?_⟩
   simp only [List.range'_zero, goL, Option.some.injEq] at hL1
   subst hL1
   exact hst _ _ _ _ _ _ _ hI1 (fun _ _ _ => rfl) (by omega) (fun γ h => .inl h)
  | succ m =>
   have hd1 : decide ((j : Int) < (lim : Int)) = true := by simp; omega
   simp only [vz, tyf, seval, ua, e16, e17, hd1, e0, e4, e5]
   refine cwp_cutF (fun tm => tm 0 = vx eI p ∧ tm 4 = .tp [.fn (.func mf) [] mc] ∧ tm 5 = .ptr e 0 ∧ tm 8 = .lit (.int .i64 j) ∧ tm 16 = .lit (.int .i64 lim) ∧ tm 17 = .lit (.int .i64 j)) (by refine ⟨?_, ?_, ?_, ?_, ?_, ?_⟩ <;> simp only [ua, seval, e0, e4, e5, e16, e17]) ?_
   clear e0 e4 e5 e16 e17 tm
   rintro tm ⟨e0, e4, e5, e8, e16, e17⟩
   refine cwp_drawS mixed 11 rfl rfl rfl (by kernel_rfl) ?_
   rw [List.range'_succ] at hL1
   unfold goL at hL1
   rcases hmb : may p (j : Int) with _ | mb
   ·rw [hmb] at hL1; cases hL1
   rw [hmb, Option.bind_some] at hL1
   have hmay' : VPure Tryz.prog G0 mf (vx eI p :: .lit (.int .i64 j) :: mc) (.tree (.lit (.bool mb))) := VPure.weaken (by
    rintro c W vs ⟨u, us, rfl, h1, h2⟩
    exact ⟨u, us, rfl, rep_vx h1, h2⟩) (hm p j mb hmb)
   simp only [vz, tyf, seval, ua, e0, e4, e5, e8, e16, e17, rg]
   refine .inl ⟨by simp only [treeL_cons, tree_vx eI_ok, tree_lit, htm, Bool.and_self], .tree _, hmay', ?_⟩
   have hw : IntKind.i64.wrap ((j : Int) + 1) = ((j + 1 : Nat) : Int) := by rw [IntWalk.i64_in _ (by omega)]; simp
   have he1 : H1 e = _ := (hF1 e hFe).trans he
   have hy1 : H1 y = _ := (hF1 y hFy).trans hy
   have hen : e < nx1 := Nat.lt_of_lt_of_le (hF e hFe) hn
   have hyn : y < nx1 := Nat.lt_of_lt_of_le (hF y hFy) hn
   cases mb with
   | false =>
    rw [cond_false] at hL1
    simp only [vz, tyf, seval, ua, e0, e4, e5, e8, e16, e17, rg, hw]
    rw [hJ]
    exact ⟨m, Nat.lt_succ_self _, j + 1, by omega, rfl, (by show nx ≤ nx1 + 19; omega), hF1, ⟨L1, hL1, hst _ _ _ _ _ _ _ hI1 (fun _ _ _ => rfl) (by show nx1 ≤ nx1 + 19; omega) (fun γ h => .inl h)⟩, by simp only [ua, seval, e0], by simp only [ua, seval, e4], by simp only [ua, seval, e5], by simp only [ua, seval, e16], by simp only [ua, seval]⟩
   | true =>
    rw [cond_true] at hL1
    rcases hLa : listsO may lim d (p ++ [(j : Int)]) with _ | La
    ·rw [hLa] at hL1; cases hL1
    rw [hLa, Option.bind_some] at hL1
    rcases hLr : goL (listsO may lim d) may p (List.range' (j + 1) m) with _ | Lr
    ·rw [hLr] at hL1; cases hL1
    rw [hLr, Option.bind_some, Option.some.injEq] at hL1
    subst hL1
    rw [List.map_append, List.append_assoc] at hI1
    have hv : vx eI (p ++ [(j : Int)]) = .sl (cellsL eI (p ++ [(j : Int)])) (p ++ [(j : Int)]).length false := vx_cons (by simp)
    have hroom : roomOk 8 (p ++ [(j : Int)]).length = true := by
     unfold roomOk
     simp only [List.length_append, List.length_cons, List.length_nil, decide_eq_true_eq]
     omega
    simp only [vz, tyf, seval, ua, e0, e4, e5, e8, e16, e17, rg, he1]
    rcases hpc : p with _ | ⟨p0, pt⟩
    ·subst hpc
     refine .inl ⟨rfl, .tree _, clone_nil, ?_⟩
     simp only [vz, tyf, seval, ua, e0, e4, e5, e8, e16, e17, rg, he1]
     have hroom1 : roomOk 8 ([] ++ [(j : Int)]).length = true := rfl
     refine k_appN (w := 1) (enc := eI) (ys := [(j : Int)]) (el2 := some 3) (fun _ => rfl) lf23 ao23 Tryz.underlying23 (by simp only [ua, nm, seval]; rfl) (Nat.zero_lt_succ _) hroom1 ?_
     simp only [vz, tyf, seval, ua, nm, e0, e4, e5, e8, e16, e17, rg, he1]
     refine drawK_nil ⟨?_, ?_⟩
     ·simp only [traceR_cons, traceR_nil, hitK_quiet, hitK_nil, and_true, true_and]
      repeat' (first | exact trivial | refine And.intro ?_ ?_ | rw [hitK_quiet] | rw [hitK_cons] | exact Or.inl (by decide +kernel) | exact Or.inl (by dsimp only; decide +kernel) | (refine Or.inr ⟨?_, ?_⟩ <;> simp; done) | (refine Or.inr ⟨?_, ?_⟩ <;> simp <;> omega) | (refine Or.inr ⟨?_, ?_⟩ <;> simp [VEff.wr] <;> omega))
     simp only [vz, tyf, seval, ua, e0, e4, e5, e8, e16, e17, rg, he1]
     refine kopen ?_
     rw [openK_eq]
     have hcell : (updH (updH H1 (nx1 + 12) (VObj.cells (some 3) [VV.lit (Value.int IntKind.i64 ↑j)])) (nx1 + 13) (VObj.cells (some 3) (cellsL eI ([] ++ [(j : Int)])))) (nx1 + 13) = some (.cells (some 3) (cellsL eI ([] ++ [(j : Int)]))) := by simp only [ua, seval]
     have hbig : ∀ γ, γ < nx1 → without (updH (updH H1 (nx1 + 12) (VObj.cells (some 3) [VV.lit (Value.int IntKind.i64 ↑j)])) (nx1 + 13) (VObj.cells (some 3) (cellsL eI ([] ++ [(j : Int)])))) (nx1 + 13) γ = H1 γ := by
      intro γ h
      simp only [updH, without]
      repeat rw [if_neg (by omega)]
     refine VOpen.mono (VOpen.freeze1 (γ := nx1 + 13) hcell (args' := [vx eI ([] ++ [(j : Int)]), .tp [.lit (.int .i64 ln)], .ptr y 0, .tp [.lit (.int .i64 lim)], .tp [.fn (.func mf) [] mc], .ptr e 0]) ⟨by rw [hv]; exact Frozen.own hcell (eI_ok.treeL _) (by rw [cellsL_length (w := 1) (fun _ => rfl)]), FrozenL.same⟩ (ih ([] ++ [(j : Int)]) _ La Fr _ _ (by simp at hd ⊢; omega) hLa (fun γ h => by have := hF γ h; omega) hFy hFe ((hbig y hyn).trans hy1) ((hbig e hen).trans he1) (hst _ _ _ _ _ _ _ hI1 (fun γ h _ => hbig γ h) (by omega) (fun γ h => .inl h)))) ?_ (fun _ _ _ h => h.elim)
     rintro v H2 nx2 ⟨b, rfl, h1, h2, h3⟩
     have hF2 : ∀ γ, Fr γ → H2 γ = H γ := fun γ h => by rw [h2 γ h, hbig γ (Nat.lt_of_lt_of_le (hF γ h) hn), hF1 γ h]
     simp only [vz, tyf, seval, ua, e0, e4, e5, e8, e16, e17, rg, he1]
     cases b with
     | false =>
      simp only [vz, tyf, seval, ua, Bool.not_false]
      refine opd_ret (x := .lit (.bool false)) (by simp [Tryz.results134, resV, resL, resV1, upd]) ⟨false, rfl, by omega, hF2, ?_⟩
      exact hst _ _ _ _ _ _ _ h3 (fun _ _ _ => rfl) (by omega) (fun γ h => .inl h)
     | true =>
      simp only [vz, tyf, seval, ua, Bool.not_true, hw]
      simp only [if_true] at h3
      rw [hJ]
      exact ⟨m, Nat.lt_succ_self _, j + 1, by omega, rfl, (by show nx ≤ nx2 + 2; omega), hF2, ⟨Lr, hLr, hst _ _ _ _ _ _ _ h3 (fun _ _ _ => rfl) (by show nx2 ≤ nx2 + 2; omega) (fun γ h => .inl h)⟩, by simp only [ua, seval, e0], by simp only [ua, seval, e4], by simp only [ua, seval, e5], by simp only [ua, seval, e16], by simp only [ua, seval]⟩
    rw [← hpc]
    have hne : p ≠ [] := by rw [hpc]; simp
    have hvp : vx eI p = .sl (cellsL eI p) p.length false := vx_cons hne
    rw [hvp]
    have hcl : g_slices_Clone_Int p = some p := by
     unfold g_slices_Clone_Int
     have h1 : neB p = true := by rw [hpc]; rfl
     have h2 : roomOk 8 p.length = true := by
      unfold roomOk at hroom ⊢
      simp only [List.length_append, List.length_cons, List.length_nil, decide_eq_true_eq] at hroom ⊢
      omega
     rw [h1, h2]; rfl
    refine dkown (args0 := [.sl (cellsL eI p) p.length false]) (by first | (simp only [nrm, tynrm]; done) | (simp only [nrm, tynrm]; rfl) | rfl) (by simp only [tre, tytre, Bool.and_self]) (g_slices_Clone_Int_ok _ _ hcl) ?_
    simp only [vz, tyf, seval, ua, e0, e4, e5, e8, e16, e17, rg, he1]
    refine k_app (w := 1) (enc := eI) (xs := p) (ys := [(j : Int)]) (el := none) (el2 := some 3) (fun _ => rfl) lf23 ao23 Tryz.underlying23 (by simp only [ua, nm, seval]) (by simp only [ua, nm, seval]; rfl) (Nat.zero_lt_succ _) hroom ?_
    simp only [vz, tyf, seval, ua, nm, e0, e4, e5, e8, e16, e17, rg, he1]
    refine drawK_nil ⟨?_, ?_⟩
    ·simp only [traceR_cons, traceR_nil, hitK_quiet, hitK_nil, and_true, true_and]
     repeat' (first | exact trivial | refine And.intro ?_ ?_ | rw [hitK_quiet] | rw [hitK_cons] | exact Or.inl (by decide +kernel) | exact Or.inl (by dsimp only; decide +kernel) | (refine Or.inr ⟨?_, ?_⟩ <;> simp; done) | (refine Or.inr ⟨?_, ?_⟩ <;> simp <;> omega) | (refine Or.inr ⟨?_, ?_⟩ <;> simp [VEff.wr] <;> omega))
    simp only [vz, tyf, seval, ua, e0, e4, e5, e8, e16, e17, rg, he1]
    refine kopen ?_
    rw [openK_eq]
    have hcell : (updH (without (updH (updH H1 (nx1 + 10) (VObj.cells none (cellsL eI p))) (nx1 + 12) (VObj.cells (some 3) [VV.lit (Value.int IntKind.i64 ↑j)])) (nx1 + 10)) (nx1 + 13) (VObj.cells (sameEl none 3) (cellsL eI (p ++ [(j : Int)])))) (nx1 + 13) = some (.cells (sameEl none 3) (cellsL eI (p ++ [(j : Int)]))) := by simp only [ua, seval]
    have hbig : ∀ γ, γ < nx1 → without (updH (without (updH (updH H1 (nx1 + 10) (VObj.cells none (cellsL eI p))) (nx1 + 12) (VObj.cells (some 3) [VV.lit (Value.int IntKind.i64 ↑j)])) (nx1 + 10)) (nx1 + 13) (VObj.cells (sameEl none 3) (cellsL eI (p ++ [(j : Int)])))) (nx1 + 13) γ = H1 γ := by
     intro γ h
     simp only [updH, without]
     repeat rw [if_neg (by omega)]
    refine VOpen.mono (VOpen.freeze1 (γ := nx1 + 13) hcell (args' := [vx eI (p ++ [(j : Int)]), .tp [.lit (.int .i64 ln)], .ptr y 0, .tp [.lit (.int .i64 lim)], .tp [.fn (.func mf) [] mc], .ptr e 0]) ⟨by rw [hv]; exact Frozen.own hcell (eI_ok.treeL _) (by rw [cellsL_length (w := 1) (fun _ => rfl)]), FrozenL.same⟩ (ih (p ++ [(j : Int)]) _ La Fr _ _ (by simp; omega) hLa (fun γ h => by have := hF γ h; omega) hFy hFe ((hbig y hyn).trans hy1) ((hbig e hen).trans he1) (hst _ _ _ _ _ _ _ hI1 (fun γ h _ => hbig γ h) (by omega) (fun γ h => .inl h)))) ?_ (fun _ _ _ h => h.elim)
    rintro v H2 nx2 ⟨b, rfl, h1, h2, h3⟩
    have hF2 : ∀ γ, Fr γ → H2 γ = H γ := fun γ h => by rw [h2 γ h, hbig γ (Nat.lt_of_lt_of_le (hF γ h) hn), hF1 γ h]
    simp only [vz, tyf, seval, ua, e0, e4, e5, e8, e16, e17, rg, he1]
    cases b with
    | false =>
     simp only [vz, tyf, seval, ua, Bool.not_false]
     refine opd_ret (x := .lit (.bool false)) (by simp [Tryz.results134, resV, resL, resV1, upd]) ⟨false, rfl, by omega, hF2, ?_⟩
     exact hst _ _ _ _ _ _ _ h3 (fun _ _ _ => rfl) (by omega) (fun γ h => .inl h)
    | true =>
     simp only [vz, tyf, seval, ua, Bool.not_true, hw]
     simp only [if_true] at h3
     rw [hJ]
     exact ⟨m, Nat.lt_succ_self _, j + 1, by omega, rfl, (by show nx ≤ nx2 + 2; omega), hF2, ⟨Lr, hLr, hst _ _ _ _ _ _ _ h3 (fun _ _ _ => rfl) (by show nx2 ≤ nx2 + 2; omega) (fun γ h => .inl h)⟩, by simp only [ua, seval, e0], by simp only [ua, seval, e4], by simp only [ua, seval, e5], by simp only [ua, seval, e16], by simp only [ua, seval]⟩
theorem lists_iter {mc : List VV} {mf ln lim : Nat} {may : List Int → Int → Option Bool} {L : List (List Int)} (htm : treeL mc = true) (hln0 : 0 < ln) (hln : ln < 1000) (hlim : lim < 1000000)
  (hL : listsO may lim ln [] = some L) (hm : ∀ (p : List Int) (j : Int) (b : Bool), may p j = some b → VPure Tryz.prog G0 mf (.sl (cellsL eI p) p.length false :: .lit (.int .i64 j) :: mc) (.tree (.lit (.bool b)))) :
  Iter Tryz.prog G0 (.fn (.func 133) [] [.tp [.lit (.int .i64 ln)], .tp [.lit (.int .i64 lim)], .tp [.fn (.func mf) [] mc]]) (L.map sI) := by
 rw [← map_vx (fun q hq hn => by have := listsO_len _ _ _ hL q hq; rw [hn] at this; simp at this; omega)]
 refine ⟨133, [], _, rfl, fun β I hst hr H nx hβ hI => ?_⟩
 refine VOpen.run mixed Tryz.call133 Tryz.func133 rfl (by simp [Tryz.ntmps133]; kernel_rfl) ?_
 simp only [List.nil_append, List.cons_append, argsTm4, vz, tyf, seval, ua, rg]
 refine kopen ?_
 rw [openK_eq]
 refine VOpen.mono (ext_ok hst hr htm hln0 hln hlim hm ln [] [] L (fun γ => γ = nx + 0 ∨ γ = nx + 1) _ _ (by simp) hL (by rintro γ (rfl | rfl) <;> omega) (.inl rfl) (.inr rfl) (by simp [updH]) (by simp [updH]) ?_) ?_ (fun _ _ _ h => h.elim)
 ·rw [List.append_nil]
  refine hst _ _ _ _ _ _ _ hI ?_ (by omega) (by rintro γ (rfl | rfl) <;> right <;> omega)
  intro γ h _
  simp only [updH]
  repeat rw [if_neg (by omega)]
 rintro v H2 nx2 ⟨b, rfl, h1, h2, h3⟩
 simp only [vz, tyf, seval, ua]
 refine opd_normal (x := .tup []) (by simp [Tryz.results133, resV, resL]) ?_
 replace h3 := hst _ _ noFr _ _ _ _ h3 (fun _ _ _ => rfl) (Nat.le_refl _) (fun γ h => h.elim)
 cases b with
 | true => exact .inl h3
 | false => exact .inr h3
end Go.V
end
