/- The frame of 'TintNearer': what its statement asks, out of the law on trees. -/
import Derived.Test.YtekhjalgmlflpaaGreatDoorVaw
import Derived.Test.YtekhjalgmlflpaaGreatDoorFaTintNearer
import Derived.Test.YtekhjalgmlflpaaGreatDoorCards
import Derived.Test.YtekhjalgmlflpaaGreatDoorTie
import Derived.ProofKit
import Derived.OpenShut
import Derived.Deep.DeepHandedRow
import Derived.Lay
namespace Go.Proofs.YtekhjalgmlflpaaGreatDoor.FrTintNearer
open Go Go.V Go.RowKit Go.ChangeShapes Go.ChangeAt Go.WideShapes

theorem own : ownKnob Tryz.prog.godebug = none := by kernel_rfl
theorem laidOut : laidOutB Tryz.prog = true := by kernel_rfl
theorem zagx : ∀ t ∈ Tryz.f14.params.toList, Tryz.prog.readableRec t = true ∧ t < Tryz.prog.types.size := by
  rw [Tryz.params14]
  have h : ([28, 3, 29].all fun t => Tryz.prog.readableRec t && decide (t < Tryz.prog.types.size)) = true := by kernel_rfl
  intro t ht
  have := List.all_eq_true.1 h t (by simpa using ht)
  simpa using this

theorem gok {W : World} (h : laidMet Tryz.prog Rows.tintNearerRow.laid W) : GOk G0 (PCtx fun b => b < W.heap.size) W := by
  have h1 := zagq (k := .u64) (is := gp10) h (n := "internal/strconv.uint64pow10") (g := 3) (N := 20) (e := 216) (t := 231) rfl (by kernel_rfl) (by kernel_rfl) Tryz.underlying231 Tryz.underlying216 (by kernel_rfl) rfl
  intro g cs hg
  match g, hg with
  | 3, hg => cases hg; exact ⟨h1.1, h1.2, ztc _⟩

set_option maxRecDepth 100000 in
/-- What a run of the law on trees gives, for every argument. -/
theorem contract (hlaw : ∀ xs, ArgsS Tryz.prog 10 [28, 3, 29] xs → VPure Tryz.prog G0 14 xs (.tree (.lit (.bool true))))
    (H : Type) (enc : TypeId × Value → H) (W : World) (base : Nat) (args : Array Value) (ds gs : List (DataW H)) (before : List MemPlace)
    (hval : ∀ (j : Nat) t v, Tryz.f14.params[j]? = some t → args[j]? = some v → Value.okWide Tryz.prog W .any base t v)
    (hW : DataW.Whole enc Tryz.prog Tryz.f14.params.toList Rows.tintNearerSpec.vars false W args.toList ds gs before)
    (hlaid : laidMet Tryz.prog Rows.tintNearerRow.laid W) :
    Calls Tryz.prog 14 args W fun e W' => ∃ v, e = .returned v ∧ Rows.tintNearerSpec.post enc Tryz.prog Tryz.f14 false true false false W args v W' := by
  have hW' := hW
  obtain ⟨p, q, hA, hV, rfl, hfz, hnd⟩ := hW
  rw [Tryz.params14] at hA
  have hv : ∀ (j : Nat) t v, [28, 3, 29][j]? = some t → args.toList[j]? = some v → Value.okWide Tryz.prog W .any base t v := by
    intro j t v a b
    refine hval j t v ?_ ?_
    · rw [Tryz.params14, ← Array.getElem?_toList]
      exact a
    · rw [← Array.getElem?_toList]
      exact b
  have hpl : ([28, 3, 29].all fun t => plainT Tryz.prog 10 t) = true := by kernel_rfl
  obtain ⟨xs, hx, hs⟩ := zub (n := 10) [28, 3, 29] _ _ _ hpl hv hA
  have hd : Rows.tintNearerSpec.fn H ds = { results := [.lit (.bool true)], args := ds } := by
    have := zld hA
    match ds, this with
    | [d0, d1, d2], _ => rfl
  exact zagz laidOut zagx rfl (show Tryz.f14.resultTypes = #[4] by kernel_rfl) Tryz.underlying4 hd hW' (gok hlaid) hx (hlaw xs hs)

theorem zalp (os : Os) : laidMet Tryz.prog Rows.tintNearerRow.laid (((World.laidAll Tryz.prog os Rows.tintNearerRow.laid)).forCall (fun _ _ => 0) ⟨#[], #[.agg #[.int .i64 0, .int .i64 0, .int .i64 0, .int .i64 0, .int .i64 0, .int .i64 0, .int .i64 0, .int .i64 0, .int .i64 0, .int .i64 0, .int .i64 0, .int .i64 0, .slice none 0 0], .int .i64 0, .slice none 0 0], []⟩).memory :=
  laidMet_laidAll _ (by kernel_rfl) (by kernel_rfl)
theorem reads (os : Os) {H : Type} (enc : TypeId × Value → H) : ∃ places, DataW.whole enc Tryz.prog ((World.laidAll Tryz.prog os Rows.tintNearerRow.laid).forCall (fun _ _ => 0) ⟨#[], #[.agg #[.int .i64 0, .int .i64 0, .int .i64 0, .int .i64 0, .int .i64 0, .int .i64 0, .int .i64 0, .int .i64 0, .int .i64 0, .int .i64 0, .int .i64 0, .int .i64 0, .slice none 0 0], .int .i64 0, .slice none 0 0], []⟩).memory Tryz.f14.params.toList Rows.tintNearerSpec.vars false (#[.agg #[.int .i64 0, .int .i64 0, .int .i64 0, .int .i64 0, .int .i64 0, .int .i64 0, .int .i64 0, .int .i64 0, .int .i64 0, .int .i64 0, .int .i64 0, .int .i64 0, .slice none 0 0], .int .i64 0, .slice none 0 0] : Array Value).toList 8 = some ([.agg [.agg [.lit (.int .i64 0), .lit (.int .i64 0), .lit (.int .i64 0)], .agg [.agg [.lit (.int .i64 0), .lit (.int .i64 0)], .agg [.lit (.int .i64 0), .lit (.int .i64 0)], .agg [.lit (.int .i64 0), .lit (.int .i64 0)]], .agg [.lit (.int .i64 0), .lit (.int .i64 0)], .lit (.int .i64 0), .nil], .lit (.int .i64 0), .nil], [], places) :=
  ⟨[], by kernel_rfl⟩

set_option maxRecDepth 100000 in
theorem lifted (hlaw : ∀ xs, ArgsS Tryz.prog 10 [28, 3, 29] xs → VPure Tryz.prog G0 14 xs (.tree (.lit (.bool true))))
    (os : Os) (started : os.Started) (H : Type) (enc : TypeId × Value → H) (F : Stop.Interp) :
    ReturnsInHanded {} Tryz.checked os 14 .any ((OpenSpec.ofChange Rows.tintNearerSpec).preRow enc Tryz.prog Tryz.f14 Rows.tintNearerRow.domain false Rows.tintNearerRow.laid) (((OpenSpec.ofChange Rows.tintNearerSpec).at F).post enc Tryz.prog Tryz.f14 false true false false) := by
  obtain ⟨places, hx⟩ := reads os enc
  refine returnsInHanded_of_row (C := Tryz.checked) (s := OpenSpec.ofChange Rows.tintNearerSpec) own started (by kernel_rfl) Tryz.func14
    (witness_row_at (enc := enc) (C := Tryz.checked) false (World.laidAll Tryz.prog os Rows.tintNearerRow.laid) #[.agg #[.int .i64 0, .int .i64 0, .int .i64 0, .int .i64 0, .int .i64 0, .int .i64 0, .int .i64 0, .int .i64 0, .int .i64 0, .int .i64 0, .int .i64 0, .int .i64 0, .slice none 0 0], .int .i64 0, .slice none 0 0] (World.laidAll_os _ _ _) (by kernel_rfl) (by kernel_rfl) (by kernel_rfl)
      (OpenSpec.preRow_of_cond 8 hx (by kernel_rfl) (fun k hk => by cases hk) (by kernel_rfl) (zalp os))) ?_
  intro W base args ds gs before hval hW _ _ _ hlaid _ _
  exact contract hlaw H enc W base args ds gs before hval hW hlaid

set_option maxRecDepth 100000 in
theorem facts : joinedFacts Tryz.checked.prog 14 Tryz.f14 (OpenSpec.ofChange Rows.tintNearerSpec).bare Rows.tintNearerRow = true := zaki (P := Tryz.checked.prog) (f := 14) (fn := Tryz.f14) (s := (OpenSpec.ofChange Rows.tintNearerSpec).bare) (c := Rows.tintNearerRow) jf1 jf2 jf3 jf4 jf5 jf6 jf7 jf8 jf9 jf10 jf11 jf12 jf13 jf14 jf15 jf16 jf17 jf18 jf19 jf20 jf21 jf22 jf23 jf24 jf25 jf26 jf27 jf28 jf29 jf30 jf31 jf32

theorem said (hlaw : ∀ xs, ArgsS Tryz.prog 10 [28, 3, 29] xs → VPure Tryz.prog G0 14 xs (.tree (.lit (.bool true)))) : Rows.TintNearerSaid :=
  OpenClaim.holds_of_cond 14 Tryz.f14 rfl rfl rfl rfl rfl rfl rfl ⟨rfl, rfl, rfl, rfl, rfl⟩ rfl rfl rfl rfl rfl (by kernel_rfl) Tryz.func14 facts
    (of_decide_eq_true (by kernel_rfl)) (by unfold Func.isWrapper; first | (rw [if_pos (by decide +kernel)]; kernel_rfl) | (rw [if_neg (by decide +kernel)]; exact ⟨rfl, rfl⟩))
    (fun os started H enc _ F => by rw [OpenClaim.pre_eq_preRow]; exact lifted hlaw os started H enc F)

theorem plain (f : FuncId) (fn : Func) (hf : Tryz.pinned.checked.prog.funcNamed "mahlstick/mahlsticklaw07.TintNearer" = some f) (hfn : Tryz.pinned.checked.prog.funcs[f]? = some fn) :
    true = Tryz.pinned.checked.prog.looks [] ∧ ∀ (j : Nat) t, fn.params[j]? = some t → Tryz.pinned.checked.prog.wantsStandIn t = false := by
  obtain rfl : f = 14 := Option.some.inj ((show Tryz.prog.funcNamed "mahlstick/mahlsticklaw07.TintNearer" = some 14 by kernel_rfl).symm.trans hf) |>.symm
  obtain rfl : fn = Tryz.f14 := (Option.some.inj (Tryz.func14.symm.trans hfn)).symm
  refine ⟨by kernel_rfl, fun j t ht => ?_⟩
  rw [Tryz.params14] at ht
  have hall : ([28, 3, 29].all fun u => !Tryz.prog.wantsStandIn u) = true := by kernel_rfl
  have hm : t ∈ [28, 3, 29] := by simpa using Array.mem_of_getElem? ht
  exact (show Tryz.prog.wantsStandIn t = false by simpa using List.all_eq_true.1 hall t hm)

/-- The card, out of the law on trees. -/
theorem card (hlaw : ∀ xs, ArgsS Tryz.prog 10 [28, 3, 29] xs → VPure Tryz.prog G0 14 xs (.tree (.lit (.bool true)))) : Rows.TintNearerCardSaid :=
  Claim7.holds_tied_plain_at .later [] _ _ _ _ (said hlaw) (fun _ h => by cases h) (by kernel_rfl) (fun _ h => by cases h) tintNearer_row_tie rfl ⟨rfl, rfl⟩ (by kernel_rfl) rfl plain (by kernel_rfl)
end Go.Proofs.YtekhjalgmlflpaaGreatDoor.FrTintNearer
