/- The frame of 'LetterListed': what its statement asks, out of the law on trees. -/
import Derived.Test.YtlkognggeadanaaGreatDoorGay
import Derived.Test.YtlkognggeadanaaGreatDoorFaLetterListed
import Derived.Test.YtlkognggeadanaaGreatDoorCards
import Derived.Test.YtlkognggeadanaaGreatDoorTie
import Derived.ProofKit
import Derived.OpenShut
import Derived.Deep.DeepHandedRow
import Derived.Lay
namespace Go.Proofs.YtlkognggeadanaaGreatDoor.FrLetterListed
open Go Go.V Go.RowKit Go.ChangeShapes Go.ChangeAt Go.WideShapes

theorem own : ownKnob Tryz.prog.godebug = none := by kernel_rfl
theorem laidOut : laidOutB Tryz.prog = true := by kernel_rfl
theorem Gv : ∀ t ∈ Tryz.f10.params.toList, Tryz.prog.readableRec t = true ∧ t < Tryz.prog.types.size := by
  rw [Tryz.params10]
  have h : ([28, 31].all fun t => Tryz.prog.readableRec t && decide (t < Tryz.prog.types.size)) = true := by kernel_rfl
  intro t ht
  have := List.all_eq_true.1 h t (by simpa using ht)
  simpa using this

theorem gok {W : World} (h : laidMet Tryz.prog Rows.letterListedRow.laid W) : GOk G0 (PCtx fun b => b < W.heap.size) W := by
  have h1 := EI (k := .u64) (is := xG) h (n := "internal/strconv.uint64pow10") (g := 3) (N := 20) (e := 242) (t := 257) rfl (by kernel_rfl) (by kernel_rfl) Tryz.underlying257 Tryz.underlying242 (by kernel_rfl) rfl
  intro g cs hg
  match g, hg with
  | 3, hg => cases hg; exact ⟨h1.1, h1.2, PS _⟩

set_option maxRecDepth 100000 in
/-- What a run of the law on trees gives, for every argument. -/
theorem contract (hlaw : ∀ xs, ArgsS Tryz.prog 10 [28, 31] xs → ad Tryz.prog G0 10 xs (.tree (.lit (.bool true))))
    (H : Type) (enc : TypeId × Value → H) (W : World) (base : Nat) (args : Array Value) (ds gs : List (DataW H)) (before : List MemPlace)
    (hval : ∀ (j : Nat) t v, Tryz.f10.params[j]? = some t → args[j]? = some v → Value.okWide Tryz.prog W .any base t v)
    (hW : DataW.Whole enc Tryz.prog Tryz.f10.params.toList Rows.letterListedSpec.vars false W args.toList ds gs before)
    (hlaid : laidMet Tryz.prog Rows.letterListedRow.laid W) :
    Calls Tryz.prog 10 args W fun e W' => ∃ v, e = .returned v ∧ Rows.letterListedSpec.post enc Tryz.prog Tryz.f10 false true false false W args v W' := by
  have hW' := hW
  obtain ⟨p, q, hA, hV, rfl, hfz, hnd⟩ := hW
  rw [Tryz.params10] at hA
  have hv : ∀ (j : Nat) t v, [28, 31][j]? = some t → args.toList[j]? = some v → Value.okWide Tryz.prog W .any base t v := by
    intro j t v a b
    refine hval j t v ?_ ?_
    · rw [Tryz.params10, ← Array.getElem?_toList]
      exact a
    · rw [← Array.getElem?_toList]
      exact b
  have hpl : ([28, 31].all fun t => plainT Tryz.prog 10 t) = true := by kernel_rfl
  obtain ⟨xs, hx, hs⟩ := PN (n := 10) [28, 31] _ _ _ hpl hv hA
  have hd : Rows.letterListedSpec.fn H ds = { results := [.lit (.bool true)], args := ds } := by
    have := PO hA
    match ds, this with
    | [d0, d1], _ => rfl
  exact EF laidOut Gv rfl (show Tryz.f10.resultTypes = #[4] by kernel_rfl) Tryz.underlying4 hd hW' (gok hlaid) hx (hlaw xs hs)

theorem Gw (os : Os) : laidMet Tryz.prog Rows.letterListedRow.laid (((World.laidAll Tryz.prog os Rows.letterListedRow.laid)).forCall (fun _ _ => 0) ⟨#[], #[.agg #[.slice none 0 0, .slice none 0 0, .int .i64 0, .int .i64 0, .int .i64 0, .int .i64 0, .int .i64 0, .slice none 0 0, .int .i64 0, .int .i64 0], .agg #[.slice none 0 0, .slice none 0 0]], []⟩).memory :=
  laidMet_laidAll _ (by kernel_rfl) (by kernel_rfl)
theorem reads (os : Os) {H : Type} (enc : TypeId × Value → H) : ∃ places, DataW.whole enc Tryz.prog ((World.laidAll Tryz.prog os Rows.letterListedRow.laid).forCall (fun _ _ => 0) ⟨#[], #[.agg #[.slice none 0 0, .slice none 0 0, .int .i64 0, .int .i64 0, .int .i64 0, .int .i64 0, .int .i64 0, .slice none 0 0, .int .i64 0, .int .i64 0], .agg #[.slice none 0 0, .slice none 0 0]], []⟩).memory Tryz.f10.params.toList Rows.letterListedSpec.vars false (#[.agg #[.slice none 0 0, .slice none 0 0, .int .i64 0, .int .i64 0, .int .i64 0, .int .i64 0, .int .i64 0, .slice none 0 0, .int .i64 0, .int .i64 0], .agg #[.slice none 0 0, .slice none 0 0]] : Array Value).toList 8 = some ([.agg [.nil, .nil, .agg [.lit (.int .i64 0), .lit (.int .i64 0)], .agg [.lit (.int .i64 0), .lit (.int .i64 0)], .lit (.int .i64 0), .nil, .lit (.int .i64 0), .lit (.int .i64 0)], .agg [.nil, .nil]], [], places) :=
  ⟨[], by kernel_rfl⟩

set_option maxRecDepth 100000 in
theorem lifted (hlaw : ∀ xs, ArgsS Tryz.prog 10 [28, 31] xs → ad Tryz.prog G0 10 xs (.tree (.lit (.bool true))))
    (os : Os) (started : os.Started) (H : Type) (enc : TypeId × Value → H) (F : Stop.Interp) :
    ReturnsInHanded {} Tryz.checked os 10 .any ((OpenSpec.ofChange Rows.letterListedSpec).preRow enc Tryz.prog Tryz.f10 Rows.letterListedRow.domain false Rows.letterListedRow.laid) (((OpenSpec.ofChange Rows.letterListedSpec).at F).post enc Tryz.prog Tryz.f10 false true false false) := by
  obtain ⟨places, hx⟩ := reads os enc
  refine returnsInHanded_of_row (C := Tryz.checked) (s := OpenSpec.ofChange Rows.letterListedSpec) own started (by kernel_rfl) Tryz.func10
    (witness_row_at (enc := enc) (C := Tryz.checked) false (World.laidAll Tryz.prog os Rows.letterListedRow.laid) #[.agg #[.slice none 0 0, .slice none 0 0, .int .i64 0, .int .i64 0, .int .i64 0, .int .i64 0, .int .i64 0, .slice none 0 0, .int .i64 0, .int .i64 0], .agg #[.slice none 0 0, .slice none 0 0]] (World.laidAll_os _ _ _) (by kernel_rfl) (by kernel_rfl) (by kernel_rfl)
      (OpenSpec.preRow_of_cond 8 hx (by kernel_rfl) (fun k hk => by cases hk) (by kernel_rfl) (Gw os))) ?_
  intro W base args ds gs before hval hW _ _ _ hlaid _ _
  exact contract hlaw H enc W base args ds gs before hval hW hlaid

set_option maxRecDepth 100000 in
theorem facts : joinedFacts Tryz.checked.prog 10 Tryz.f10 (OpenSpec.ofChange Rows.letterListedSpec).bare Rows.letterListedRow = true := EJ (P := Tryz.checked.prog) (f := 10) (fn := Tryz.f10) (s := (OpenSpec.ofChange Rows.letterListedSpec).bare) (c := Rows.letterListedRow) jf1 jf2 jf3 jf4 jf5 jf6 jf7 jf8 jf9 jf10 jf11 jf12 jf13 jf14 jf15 jf16 jf17 jf18 jf19 jf20 jf21 jf22 jf23 jf24 jf25 jf26 jf27 jf28 jf29 jf30 jf31 jf32

theorem said (hlaw : ∀ xs, ArgsS Tryz.prog 10 [28, 31] xs → ad Tryz.prog G0 10 xs (.tree (.lit (.bool true)))) : Rows.LetterListedSaid :=
  OpenClaim.holds_of_cond 10 Tryz.f10 rfl rfl rfl rfl rfl rfl rfl ⟨rfl, rfl, rfl, rfl, rfl⟩ rfl rfl rfl rfl rfl (by kernel_rfl) Tryz.func10 facts
    (of_decide_eq_true (by kernel_rfl)) (by unfold Func.isWrapper; first | (rw [if_pos (by decide +kernel)]; kernel_rfl) | (rw [if_neg (by decide +kernel)]; exact ⟨rfl, rfl⟩))
    (fun os started H enc _ F => by rw [OpenClaim.pre_eq_preRow]; exact lifted hlaw os started H enc F)

theorem plain (f : FuncId) (fn : Func) (hf : Tryz.pinned.checked.prog.funcNamed "mahlstick/mahlsticklaw01.LetterListed" = some f) (hfn : Tryz.pinned.checked.prog.funcs[f]? = some fn) :
    true = Tryz.pinned.checked.prog.looks [] ∧ ∀ (j : Nat) t, fn.params[j]? = some t → Tryz.pinned.checked.prog.wantsStandIn t = false := by
  obtain rfl : f = 10 := Option.some.inj ((show Tryz.prog.funcNamed "mahlstick/mahlsticklaw01.LetterListed" = some 10 by kernel_rfl).symm.trans hf) |>.symm
  obtain rfl : fn = Tryz.f10 := (Option.some.inj (Tryz.func10.symm.trans hfn)).symm
  refine ⟨by kernel_rfl, fun j t ht => ?_⟩
  rw [Tryz.params10] at ht
  have hall : ([28, 31].all fun u => !Tryz.prog.wantsStandIn u) = true := by kernel_rfl
  have hm : t ∈ [28, 31] := by simpa using Array.mem_of_getElem? ht
  exact (show Tryz.prog.wantsStandIn t = false by simpa using List.all_eq_true.1 hall t hm)

theorem cg1 : OpenClaim.wfByText (OpenSpec.ofChange Rows.letterListedSpec) Rows.letterListedRow = true := by kernel_rfl
theorem cg2 : Tryz.pinned.checked.prog.mainIs = some (Rows.letterListedCard.stood.harness.1, Rows.letterListedCard.stood.harness.2.toList) := by kernel_rfl
theorem cg3 : false = Rows.letterListedRow.goesBy Tryz.pinned.checked.prog := by kernel_rfl
/-- The card, out of the law on trees. -/
theorem card (hlaw : ∀ xs, ArgsS Tryz.prog 10 [28, 31] xs → ad Tryz.prog G0 10 xs (.tree (.lit (.bool true)))) : Rows.LetterListedCardSaid :=
  Claim7.holds_tied_plain_at .later [] _ _ _ _ (said hlaw) (fun _ h => by cases h) cg1 (fun _ h => by cases h) letterListed_row_tie rfl ⟨rfl, rfl⟩ cg2 rfl plain cg3
end Go.Proofs.YtlkognggeadanaaGreatDoor.FrLetterListed
