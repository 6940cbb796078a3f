/- The frame of 'LetterRival': what its statement asks, out of the law on trees. -/
import Derived.Test.YtlkognggeadanaaGreatDoorEay
import Derived.Test.YtlkognggeadanaaGreatDoorFaLetterRival
import Derived.Test.YtlkognggeadanaaGreatDoorCards
import Derived.Test.YtlkognggeadanaaGreatDoorTie
import Derived.ProofKit
import Derived.OpenShut
import Derived.Deep.DeepHandedRow
import Derived.Lay
namespace Go.Proofs.YtlkognggeadanaaGreatDoor.FrLetterRival
open Go Go.V Go.RowKit Go.ChangeShapes Go.ChangeAt Go.WideShapes

theorem own : ownKnob Tryz.prog.godebug = none := by kernel_rfl
theorem laidOut : laidOutB Tryz.prog = true := by kernel_rfl
theorem OL : ∀ t ∈ Tryz.f8.params.toList, Tryz.prog.readableRec t = true ∧ t < Tryz.prog.types.size := by
  rw [Tryz.params8]
  have h : ([28, 31].all fun t => Tryz.prog.readableRec t && decide (t < Tryz.prog.types.size)) = true := by kernel_rfl
  intro t ht
  have := List.all_eq_true.1 h t (by simpa using ht)
  simpa using this

theorem gok {W : World} (h : laidMet Tryz.prog Rows.letterRivalRow.laid W) : GOk G0 (PCtx fun b => b < W.heap.size) W := by
  have h1 := M6 (k := .u64) (is := AH) h (n := "internal/strconv.uint64pow10") (g := 3) (N := 20) (e := 242) (t := 257) rfl (by kernel_rfl) (by kernel_rfl) Tryz.underlying257 Tryz.underlying242 (by kernel_rfl) rfl
  intro g cs hg
  match g, hg with
  | 3, hg => cases hg; exact ⟨h1.1, h1.2, RL _⟩

set_option maxRecDepth 100000 in
/-- What a run of the law on trees gives, for every argument. -/
theorem contract (hlaw : ∀ xs, ArgsS Tryz.prog 10 [28, 31] xs → ad Tryz.prog G0 8 xs (.tree (.lit (.bool true))))
    (H : Type) (enc : TypeId × Value → H) (W : World) (base : Nat) (args : Array Value) (ds gs : List (DataW H)) (before : List MemPlace)
    (hval : ∀ (j : Nat) t v, Tryz.f8.params[j]? = some t → args[j]? = some v → Value.okWide Tryz.prog W .any base t v)
    (hW : DataW.Whole enc Tryz.prog Tryz.f8.params.toList Rows.letterRivalSpec.vars false W args.toList ds gs before)
    (hlaid : laidMet Tryz.prog Rows.letterRivalRow.laid W) :
    Calls Tryz.prog 8 args W fun e W' => ∃ v, e = .returned v ∧ Rows.letterRivalSpec.post enc Tryz.prog Tryz.f8 false true false false W args v W' := by
  have hW' := hW
  obtain ⟨p, q, hA, hV, rfl, hfz, hnd⟩ := hW
  rw [Tryz.params8] at hA
  have hv : ∀ (j : Nat) t v, [28, 31][j]? = some t → args.toList[j]? = some v → Value.okWide Tryz.prog W .any base t v := by
    intro j t v a b
    refine hval j t v ?_ ?_
    · rw [Tryz.params8, ← Array.getElem?_toList]
      exact a
    · rw [← Array.getElem?_toList]
      exact b
  have hpl : ([28, 31].all fun t => plainT Tryz.prog 10 t) = true := by kernel_rfl
  obtain ⟨xs, hx, hs⟩ := RH (n := 10) [28, 31] _ _ _ hpl hv hA
  have hd : Rows.letterRivalSpec.fn H ds = { results := [.lit (.bool true)], args := ds } := by
    have := RI hA
    match ds, this with
    | [d0, d1], _ => rfl
  exact M3 laidOut OL rfl (show Tryz.f8.resultTypes = #[4] by kernel_rfl) Tryz.underlying4 hd hW' (gok hlaid) hx (hlaw xs hs)

theorem OM (os : Os) : laidMet Tryz.prog Rows.letterRivalRow.laid (((World.laidAll Tryz.prog os Rows.letterRivalRow.laid)).forCall (fun _ _ => 0) ⟨#[], #[.agg #[.slice none 0 0, .slice none 0 0, .int .i64 0, .int .i64 0, .int .i64 0, .int .i64 0, .int .i64 0, .slice none 0 0, .int .i64 0, .int .i64 0], .agg #[.slice none 0 0, .slice none 0 0]], []⟩).memory :=
  laidMet_laidAll _ (by kernel_rfl) (by kernel_rfl)
theorem reads (os : Os) {H : Type} (enc : TypeId × Value → H) : ∃ places, DataW.whole enc Tryz.prog ((World.laidAll Tryz.prog os Rows.letterRivalRow.laid).forCall (fun _ _ => 0) ⟨#[], #[.agg #[.slice none 0 0, .slice none 0 0, .int .i64 0, .int .i64 0, .int .i64 0, .int .i64 0, .int .i64 0, .slice none 0 0, .int .i64 0, .int .i64 0], .agg #[.slice none 0 0, .slice none 0 0]], []⟩).memory Tryz.f8.params.toList Rows.letterRivalSpec.vars false (#[.agg #[.slice none 0 0, .slice none 0 0, .int .i64 0, .int .i64 0, .int .i64 0, .int .i64 0, .int .i64 0, .slice none 0 0, .int .i64 0, .int .i64 0], .agg #[.slice none 0 0, .slice none 0 0]] : Array Value).toList 8 = some ([.agg [.nil, .nil, .agg [.lit (.int .i64 0), .lit (.int .i64 0)], .agg [.lit (.int .i64 0), .lit (.int .i64 0)], .lit (.int .i64 0), .nil, .lit (.int .i64 0), .lit (.int .i64 0)], .agg [.nil, .nil]], [], places) :=
  ⟨[], by kernel_rfl⟩

set_option maxRecDepth 100000 in
theorem lifted (hlaw : ∀ xs, ArgsS Tryz.prog 10 [28, 31] xs → ad Tryz.prog G0 8 xs (.tree (.lit (.bool true))))
    (os : Os) (started : os.Started) (H : Type) (enc : TypeId × Value → H) (F : Stop.Interp) :
    ReturnsInHanded {} Tryz.checked os 8 .any ((OpenSpec.ofChange Rows.letterRivalSpec).preRow enc Tryz.prog Tryz.f8 Rows.letterRivalRow.domain false Rows.letterRivalRow.laid) (((OpenSpec.ofChange Rows.letterRivalSpec).at F).post enc Tryz.prog Tryz.f8 false true false false) := by
  obtain ⟨places, hx⟩ := reads os enc
  refine returnsInHanded_of_row (C := Tryz.checked) (s := OpenSpec.ofChange Rows.letterRivalSpec) own started (by kernel_rfl) Tryz.func8
    (witness_row_at (enc := enc) (C := Tryz.checked) false (World.laidAll Tryz.prog os Rows.letterRivalRow.laid) #[.agg #[.slice none 0 0, .slice none 0 0, .int .i64 0, .int .i64 0, .int .i64 0, .int .i64 0, .int .i64 0, .slice none 0 0, .int .i64 0, .int .i64 0], .agg #[.slice none 0 0, .slice none 0 0]] (World.laidAll_os _ _ _) (by kernel_rfl) (by kernel_rfl) (by kernel_rfl)
      (OpenSpec.preRow_of_cond 8 hx (by kernel_rfl) (fun k hk => by cases hk) (by kernel_rfl) (OM os))) ?_
  intro W base args ds gs before hval hW _ _ _ hlaid _ _
  exact contract hlaw H enc W base args ds gs before hval hW hlaid

set_option maxRecDepth 100000 in
theorem facts : joinedFacts Tryz.checked.prog 8 Tryz.f8 (OpenSpec.ofChange Rows.letterRivalSpec).bare Rows.letterRivalRow = true := M7 (P := Tryz.checked.prog) (f := 8) (fn := Tryz.f8) (s := (OpenSpec.ofChange Rows.letterRivalSpec).bare) (c := Rows.letterRivalRow) jf1 jf2 jf3 jf4 jf5 jf6 jf7 jf8 jf9 jf10 jf11 jf12 jf13 jf14 jf15 jf16 jf17 jf18 jf19 jf20 jf21 jf22 jf23 jf24 jf25 jf26 jf27 jf28 jf29 jf30 jf31 jf32

theorem said (hlaw : ∀ xs, ArgsS Tryz.prog 10 [28, 31] xs → ad Tryz.prog G0 8 xs (.tree (.lit (.bool true)))) : Rows.LetterRivalSaid :=
  OpenClaim.holds_of_cond 8 Tryz.f8 rfl rfl rfl rfl rfl rfl rfl ⟨rfl, rfl, rfl, rfl, rfl⟩ rfl rfl rfl rfl rfl (by kernel_rfl) Tryz.func8 facts
    (of_decide_eq_true (by kernel_rfl)) (by unfold Func.isWrapper; first | (rw [if_pos (by decide +kernel)]; kernel_rfl) | (rw [if_neg (by decide +kernel)]; exact ⟨rfl, rfl⟩))
    (fun os started H enc _ F => by rw [OpenClaim.pre_eq_preRow]; exact lifted hlaw os started H enc F)

theorem plain (f : FuncId) (fn : Func) (hf : Tryz.pinned.checked.prog.funcNamed "mahlstick/mahlsticklaw01.LetterRival" = some f) (hfn : Tryz.pinned.checked.prog.funcs[f]? = some fn) :
    true = Tryz.pinned.checked.prog.looks [] ∧ ∀ (j : Nat) t, fn.params[j]? = some t → Tryz.pinned.checked.prog.wantsStandIn t = false := by
  obtain rfl : f = 8 := Option.some.inj ((show Tryz.prog.funcNamed "mahlstick/mahlsticklaw01.LetterRival" = some 8 by kernel_rfl).symm.trans hf) |>.symm
  obtain rfl : fn = Tryz.f8 := (Option.some.inj (Tryz.func8.symm.trans hfn)).symm
  refine ⟨by kernel_rfl, fun j t ht => ?_⟩
  rw [Tryz.params8] at ht
  have hall : ([28, 31].all fun u => !Tryz.prog.wantsStandIn u) = true := by kernel_rfl
  have hm : t ∈ [28, 31] := by simpa using Array.mem_of_getElem? ht
  exact (show Tryz.prog.wantsStandIn t = false by simpa using List.all_eq_true.1 hall t hm)

theorem cg1 : OpenClaim.wfByText (OpenSpec.ofChange Rows.letterRivalSpec) Rows.letterRivalRow = true := by kernel_rfl
theorem cg2 : Tryz.pinned.checked.prog.mainIs = some (Rows.letterRivalCard.stood.harness.1, Rows.letterRivalCard.stood.harness.2.toList) := by kernel_rfl
theorem cg3 : false = Rows.letterRivalRow.goesBy Tryz.pinned.checked.prog := by kernel_rfl
/-- The card, out of the law on trees. -/
theorem card (hlaw : ∀ xs, ArgsS Tryz.prog 10 [28, 31] xs → ad Tryz.prog G0 8 xs (.tree (.lit (.bool true)))) : Rows.LetterRivalCardSaid :=
  Claim7.holds_tied_plain_at .later [] _ _ _ _ (said hlaw) (fun _ h => by cases h) cg1 (fun _ h => by cases h) letterRival_row_tie rfl ⟨rfl, rfl⟩ cg2 rfl plain cg3
end Go.Proofs.YtlkognggeadanaaGreatDoor.FrLetterRival
