/- The frame of 'LetterCutOff': what its statement asks, out of the law on trees. -/
import Derived.Test.YtclkbhbhohdgbaaGreatDoorE3aw
import Derived.Test.YtclkbhbhohdgbaaGreatDoorFaLetterCutOff
import Derived.Test.YtclkbhbhohdgbaaGreatDoorCards
import Derived.Test.YtclkbhbhohdgbaaGreatDoorTie
import Derived.ProofKit
import Derived.OpenShut
import Derived.Deep.DeepHandedRow
import Derived.Lay
namespace Go.Proofs.YtclkbhbhohdgbaaGreatDoor.FrLetterCutOff
open Go Go.V Go.RowKit Go.ChangeShapes Go.ChangeAt Go.WideShapes

theorem own : ownKnob Tryz.prog.godebug = none := by kernel_rfl
theorem laidOut : laidOutB Tryz.prog = true := by kernel_rfl
theorem RV : ∀ t ∈ Tryz.f14.params.toList, Tryz.prog.readableRec t = true ∧ t < Tryz.prog.types.size := by
  rw [Tryz.params14]
  have h : ([28, 3].all fun t => Tryz.prog.readableRec t && decide (t < Tryz.prog.types.size)) = true := by kernel_rfl
  intro t ht
  have := List.all_eq_true.1 h t (by simpa using ht)
  simpa using this

theorem gok {W : World} (h : laidMet Tryz.prog Rows.letterCutOffRow.laid W) : GOk G0 (PCtx fun b => b < W.heap.size) W := by
  have h1 := HU (k := .u64) (is := zK) h (n := "internal/strconv.uint64pow10") (g := 3) (N := 20) (e := 242) (t := 257) rfl (by kernel_rfl) (by kernel_rfl) Tryz.underlying257 Tryz.underlying242 (by kernel_rfl) rfl
  intro g cs hg
  match g, hg with
  | 3, hg => cases hg; exact ⟨h1.1, h1.2, T4 _⟩

set_option maxRecDepth 100000 in
/-- What a run of the law on trees gives, for every argument. -/
theorem contract (hlaw : ∀ xs, ArgsS Tryz.prog 10 [28, 3] xs → ah Tryz.prog G0 14 xs (.tree (.lit (.bool true))))
    (H : Type) (enc : TypeId × Value → H) (W : World) (aa : Nat) (args : Array Value) (ds gs : List (DataW H)) (before : List MemPlace)
    (hval : ∀ (j : Nat) t v, Tryz.f14.params[j]? = some t → args[j]? = some v → Value.okWide Tryz.prog W .any aa t v)
    (hW : DataW.Whole enc Tryz.prog Tryz.f14.params.toList Rows.letterCutOffSpec.vars false W args.toList ds gs before)
    (hlaid : laidMet Tryz.prog Rows.letterCutOffRow.laid W) :
    Calls Tryz.prog 14 args W fun e W' => ∃ v, e = .returned v ∧ Rows.letterCutOffSpec.post enc Tryz.prog Tryz.f14 false true false false W args v W' := by
  have hW' := hW
  obtain ⟨p, q, hA, hV, rfl, hfz, hnd⟩ := hW
  rw [Tryz.params14] at hA
  have hv : ∀ (j : Nat) t v, [28, 3][j]? = some t → args.toList[j]? = some v → Value.okWide Tryz.prog W .any aa t v := by
    intro j t v a b
    refine hval j t v ?_ ?_
    · rw [Tryz.params14, ← Array.getElem?_toList]
      exact a
    · rw [← Array.getElem?_toList]
      exact b
  have hpl : ([28, 3].all fun t => plainT Tryz.prog 10 t) = true := by kernel_rfl
  obtain ⟨xs, hx, hs⟩ := T0 (n := 10) [28, 3] _ _ _ hpl hv hA
  have hd : Rows.letterCutOffSpec.fn H ds = { results := [.lit (.bool true)], args := ds } := by
    have := T1 hA
    match ds, this with
    | [d0, d1], _ => rfl
  exact HR laidOut RV rfl (show Tryz.f14.resultTypes = #[4] by kernel_rfl) Tryz.underlying4 hd hW' (gok hlaid) hx (hlaw xs hs)

theorem RW (os : Os) : laidMet Tryz.prog Rows.letterCutOffRow.laid (((World.laidAll Tryz.prog os Rows.letterCutOffRow.laid)).forCall (fun _ _ => 0) ⟨#[], #[.agg #[.slice none 0 0, .slice none 0 0, .int .i64 0, .int .i64 0, .int .i64 0, .int .i64 0, .int .i64 0, .slice none 0 0, .int .i64 0, .int .i64 0], .int .i64 0], []⟩).memory :=
  laidMet_laidAll _ (by kernel_rfl) (by kernel_rfl)
theorem reads (os : Os) {H : Type} (enc : TypeId × Value → H) : ∃ places, DataW.whole enc Tryz.prog ((World.laidAll Tryz.prog os Rows.letterCutOffRow.laid).forCall (fun _ _ => 0) ⟨#[], #[.agg #[.slice none 0 0, .slice none 0 0, .int .i64 0, .int .i64 0, .int .i64 0, .int .i64 0, .int .i64 0, .slice none 0 0, .int .i64 0, .int .i64 0], .int .i64 0], []⟩).memory Tryz.f14.params.toList Rows.letterCutOffSpec.vars false (#[.agg #[.slice none 0 0, .slice none 0 0, .int .i64 0, .int .i64 0, .int .i64 0, .int .i64 0, .int .i64 0, .slice none 0 0, .int .i64 0, .int .i64 0], .int .i64 0] : Array Value).toList 8 = some ([.agg [.nil, .nil, .agg [.lit (.int .i64 0), .lit (.int .i64 0)], .agg [.lit (.int .i64 0), .lit (.int .i64 0)], .lit (.int .i64 0), .nil, .lit (.int .i64 0), .lit (.int .i64 0)], .lit (.int .i64 0)], [], places) :=
  ⟨[], by kernel_rfl⟩

set_option maxRecDepth 100000 in
theorem lifted (hlaw : ∀ xs, ArgsS Tryz.prog 10 [28, 3] xs → ah Tryz.prog G0 14 xs (.tree (.lit (.bool true))))
    (os : Os) (started : os.Started) (H : Type) (enc : TypeId × Value → H) (F : Stop.Interp) :
    ReturnsInHanded {} Tryz.checked os 14 .any ((OpenSpec.ofChange Rows.letterCutOffSpec).preRow enc Tryz.prog Tryz.f14 Rows.letterCutOffRow.domain false Rows.letterCutOffRow.laid) (((OpenSpec.ofChange Rows.letterCutOffSpec).at F).post enc Tryz.prog Tryz.f14 false true false false) := by
  obtain ⟨places, hx⟩ := reads os enc
  refine returnsInHanded_of_row (C := Tryz.checked) (s := OpenSpec.ofChange Rows.letterCutOffSpec) own started (by kernel_rfl) Tryz.func14
    (witness_row_at (enc := enc) (C := Tryz.checked) false (World.laidAll Tryz.prog os Rows.letterCutOffRow.laid) #[.agg #[.slice none 0 0, .slice none 0 0, .int .i64 0, .int .i64 0, .int .i64 0, .int .i64 0, .int .i64 0, .slice none 0 0, .int .i64 0, .int .i64 0], .int .i64 0] (World.laidAll_os _ _ _) (by kernel_rfl) (by kernel_rfl) (by kernel_rfl)
      (OpenSpec.preRow_of_cond 8 hx (by kernel_rfl) (fun k hk => by cases hk) (by kernel_rfl) (RW os))) ?_
  intro W aa args ds gs before hval hW _ _ _ hlaid _ _
  exact contract hlaw H enc W aa args ds gs before hval hW hlaid

set_option maxRecDepth 100000 in
theorem facts : joinedFacts Tryz.checked.prog 14 Tryz.f14 (OpenSpec.ofChange Rows.letterCutOffSpec).bare Rows.letterCutOffRow = true := HV (P := Tryz.checked.prog) (f := 14) (fn := Tryz.f14) (s := (OpenSpec.ofChange Rows.letterCutOffSpec).bare) (c := Rows.letterCutOffRow) ZY ZZ jf3 jf4 jf5 jf6 jf7 jf8 jf9 NU NV NW NX NY NZ Oa Ob Oc Od Oe Of Og Oh Oi Oj Ok Ol Om On Oo Oq Ot

theorem said (hlaw : ∀ xs, ArgsS Tryz.prog 10 [28, 3] xs → ah Tryz.prog G0 14 xs (.tree (.lit (.bool true)))) : Rows.LetterCutOffSaid :=
  OpenClaim.holds_of_cond 14 Tryz.f14 rfl rfl rfl rfl rfl rfl rfl ⟨rfl, rfl, rfl, rfl, rfl⟩ rfl rfl rfl rfl rfl (by kernel_rfl) Tryz.func14 facts
    (of_decide_eq_true (by kernel_rfl)) (by unfold Func.isWrapper; first | (rw [if_pos (by decide +kernel)]; kernel_rfl) | (rw [if_neg (by decide +kernel)]; exact ⟨rfl, rfl⟩))
    (fun os started H enc _ F => by rw [OpenClaim.pre_eq_preRow]; exact lifted hlaw os started H enc F)

theorem plain (f : FuncId) (fn : Func) (hf : Tryz.pinned.checked.prog.funcNamed "mahlstick/mahlsticklaw01.LetterCutOff" = some f) (hfn : Tryz.pinned.checked.prog.funcs[f]? = some fn) :
    true = Tryz.pinned.checked.prog.looks [] ∧ ∀ (j : Nat) t, fn.params[j]? = some t → Tryz.pinned.checked.prog.wantsStandIn t = false := by
  obtain rfl : f = 14 := Option.some.inj ((show Tryz.prog.funcNamed "mahlstick/mahlsticklaw01.LetterCutOff" = some 14 by kernel_rfl).symm.trans hf) |>.symm
  obtain rfl : fn = Tryz.f14 := (Option.some.inj (Tryz.func14.symm.trans hfn)).symm
  refine ⟨by kernel_rfl, fun j t ht => ?_⟩
  rw [Tryz.params14] at ht
  have hall : ([28, 3].all fun u => !Tryz.prog.wantsStandIn u) = true := by kernel_rfl
  have hm : t ∈ [28, 3] := by simpa using Array.mem_of_getElem? ht
  exact (show Tryz.prog.wantsStandIn t = false by simpa using List.all_eq_true.1 hall t hm)

theorem cg1 : OpenClaim.wfByText (OpenSpec.ofChange Rows.letterCutOffSpec) Rows.letterCutOffRow = true := by kernel_rfl
theorem cg2 : Tryz.pinned.checked.prog.mainIs = some (Rows.letterCutOffCard.stood.harness.1, Rows.letterCutOffCard.stood.harness.2.toList) := by kernel_rfl
theorem cg3 : false = Rows.letterCutOffRow.goesBy Tryz.pinned.checked.prog := by kernel_rfl
/-- The card, out of the law on trees. -/
theorem card (hlaw : ∀ xs, ArgsS Tryz.prog 10 [28, 3] xs → ah Tryz.prog G0 14 xs (.tree (.lit (.bool true)))) : Rows.LetterCutOffCardSaid :=
  Claim7.holds_tied_plain_at .later [] _ _ _ _ (said hlaw) (fun _ h => by cases h) cg1 (fun _ h => by cases h) letterCutOff_row_tie rfl ⟨rfl, rfl⟩ cg2 rfl plain cg3
end Go.Proofs.YtclkbhbhohdgbaaGreatDoor.FrLetterCutOff
