/- The frame of 'LetterMore': what its statement asks, out of the law on trees. -/
import Derived.Test.YtclkbhbhohdgbaaGreatDoorE2aw
import Derived.Test.YtclkbhbhohdgbaaGreatDoorFaLetterMore
import Derived.Test.YtclkbhbhohdgbaaGreatDoorCards
import Derived.Test.YtclkbhbhohdgbaaGreatDoorTie
import Derived.ProofKit
import Derived.OpenShut
import Derived.Deep.DeepHandedRow
import Derived.Lay
namespace Go.Proofs.YtclkbhbhohdgbaaGreatDoor.FrLetterMore
open Go Go.V Go.RowKit Go.ChangeShapes Go.ChangeAt Go.WideShapes

theorem own : ownKnob Tryz.prog.godebug = none := by kernel_rfl
theorem laidOut : laidOutB Tryz.prog = true := by kernel_rfl
theorem Ru : ∀ t ∈ Tryz.f16.params.toList, Tryz.prog.readableRec t = true ∧ t < Tryz.prog.types.size := by
  rw [Tryz.params16]
  have h : ([28, 3, 3, 3, 3].all fun t => Tryz.prog.readableRec t && decide (t < Tryz.prog.types.size)) = true := by kernel_rfl
  intro t ht
  have := List.all_eq_true.1 h t (by simpa using ht)
  simpa using this

theorem gok {W : World} (h : laidMet Tryz.prog Rows.letterMoreRow.laid W) : GOk G0 (PCtx fun b => b < W.heap.size) W := by
  have h1 := Nv (k := .u64) (is := Bx) h (n := "internal/strconv.uint64pow10") (g := 3) (N := 20) (e := 242) (t := 257) rfl (by kernel_rfl) (by kernel_rfl) Tryz.underlying257 Tryz.underlying242 (by kernel_rfl) rfl
  intro g cs hg
  match g, hg with
  | 3, hg => cases hg; exact ⟨h1.1, h1.2, Uw _⟩

set_option maxRecDepth 100000 in
/-- What a run of the law on trees gives, for every argument. -/
theorem contract (hlaw : ∀ xs, ArgsS Tryz.prog 10 [28, 3, 3, 3, 3] xs → ah Tryz.prog G0 16 xs (.tree (.lit (.bool true))))
    (H : Type) (enc : TypeId × Value → H) (W : World) (aa : Nat) (args : Array Value) (ds gs : List (DataW H)) (before : List MemPlace)
    (hval : ∀ (j : Nat) t v, Tryz.f16.params[j]? = some t → args[j]? = some v → Value.okWide Tryz.prog W .any aa t v)
    (hW : DataW.Whole enc Tryz.prog Tryz.f16.params.toList Rows.letterMoreSpec.vars false W args.toList ds gs before)
    (hlaid : laidMet Tryz.prog Rows.letterMoreRow.laid W) :
    Calls Tryz.prog 16 args W fun e W' => ∃ v, e = .returned v ∧ Rows.letterMoreSpec.post enc Tryz.prog Tryz.f16 false true false false W args v W' := by
  have hW' := hW
  obtain ⟨p, q, hA, hV, rfl, hfz, hnd⟩ := hW
  rw [Tryz.params16] at hA
  have hv : ∀ (j : Nat) t v, [28, 3, 3, 3, 3][j]? = some t → args.toList[j]? = some v → Value.okWide Tryz.prog W .any aa t v := by
    intro j t v a b
    refine hval j t v ?_ ?_
    · rw [Tryz.params16, ← Array.getElem?_toList]
      exact a
    · rw [← Array.getElem?_toList]
      exact b
  have hpl : ([28, 3, 3, 3, 3].all fun t => plainT Tryz.prog 10 t) = true := by kernel_rfl
  obtain ⟨xs, hx, hs⟩ := Us (n := 10) [28, 3, 3, 3, 3] _ _ _ hpl hv hA
  have hd : Rows.letterMoreSpec.fn H ds = { results := [.lit (.bool true)], args := ds } := by
    have := Ut hA
    match ds, this with
    | [d0, d1, d2, d3, d4], _ => rfl
  exact Ns laidOut Ru rfl (show Tryz.f16.resultTypes = #[4] by kernel_rfl) Tryz.underlying4 hd hW' (gok hlaid) hx (hlaw xs hs)

theorem Rv (os : Os) : laidMet Tryz.prog Rows.letterMoreRow.laid (((World.laidAll Tryz.prog os Rows.letterMoreRow.laid)).forCall (fun _ _ => 0) ⟨#[], #[.agg #[.slice none 0 0, .slice none 0 0, .int .i64 0, .int .i64 0, .int .i64 0, .int .i64 0, .int .i64 0, .slice none 0 0, .int .i64 0, .int .i64 0], .int .i64 0, .int .i64 0, .int .i64 0, .int .i64 0], []⟩).memory :=
  laidMet_laidAll _ (by kernel_rfl) (by kernel_rfl)
theorem reads (os : Os) {H : Type} (enc : TypeId × Value → H) : ∃ places, DataW.whole enc Tryz.prog ((World.laidAll Tryz.prog os Rows.letterMoreRow.laid).forCall (fun _ _ => 0) ⟨#[], #[.agg #[.slice none 0 0, .slice none 0 0, .int .i64 0, .int .i64 0, .int .i64 0, .int .i64 0, .int .i64 0, .slice none 0 0, .int .i64 0, .int .i64 0], .int .i64 0, .int .i64 0, .int .i64 0, .int .i64 0], []⟩).memory Tryz.f16.params.toList Rows.letterMoreSpec.vars false (#[.agg #[.slice none 0 0, .slice none 0 0, .int .i64 0, .int .i64 0, .int .i64 0, .int .i64 0, .int .i64 0, .slice none 0 0, .int .i64 0, .int .i64 0], .int .i64 0, .int .i64 0, .int .i64 0, .int .i64 0] : Array Value).toList 8 = some ([.agg [.nil, .nil, .agg [.lit (.int .i64 0), .lit (.int .i64 0)], .agg [.lit (.int .i64 0), .lit (.int .i64 0)], .lit (.int .i64 0), .nil, .lit (.int .i64 0), .lit (.int .i64 0)], .lit (.int .i64 0), .lit (.int .i64 0), .lit (.int .i64 0), .lit (.int .i64 0)], [], places) :=
  ⟨[], by kernel_rfl⟩

set_option maxRecDepth 100000 in
theorem lifted (hlaw : ∀ xs, ArgsS Tryz.prog 10 [28, 3, 3, 3, 3] xs → ah Tryz.prog G0 16 xs (.tree (.lit (.bool true))))
    (os : Os) (started : os.Started) (H : Type) (enc : TypeId × Value → H) (F : Stop.Interp) :
    ReturnsInHanded {} Tryz.checked os 16 .any ((OpenSpec.ofChange Rows.letterMoreSpec).preRow enc Tryz.prog Tryz.f16 Rows.letterMoreRow.domain false Rows.letterMoreRow.laid) (((OpenSpec.ofChange Rows.letterMoreSpec).at F).post enc Tryz.prog Tryz.f16 false true false false) := by
  obtain ⟨places, hx⟩ := reads os enc
  refine returnsInHanded_of_row (C := Tryz.checked) (s := OpenSpec.ofChange Rows.letterMoreSpec) own started (by kernel_rfl) Tryz.func16
    (witness_row_at (enc := enc) (C := Tryz.checked) false (World.laidAll Tryz.prog os Rows.letterMoreRow.laid) #[.agg #[.slice none 0 0, .slice none 0 0, .int .i64 0, .int .i64 0, .int .i64 0, .int .i64 0, .int .i64 0, .slice none 0 0, .int .i64 0, .int .i64 0], .int .i64 0, .int .i64 0, .int .i64 0, .int .i64 0] (World.laidAll_os _ _ _) (by kernel_rfl) (by kernel_rfl) (by kernel_rfl)
      (OpenSpec.preRow_of_cond 8 hx (by kernel_rfl) (fun k hk => by cases hk) (by kernel_rfl) (Rv os))) ?_
  intro W aa args ds gs before hval hW _ _ _ hlaid _ _
  exact contract hlaw H enc W aa args ds gs before hval hW hlaid

set_option maxRecDepth 100000 in
theorem facts : joinedFacts Tryz.checked.prog 16 Tryz.f16 (OpenSpec.ofChange Rows.letterMoreSpec).bare Rows.letterMoreRow = true := Nw (P := Tryz.checked.prog) (f := 16) (fn := Tryz.f16) (s := (OpenSpec.ofChange Rows.letterMoreSpec).bare) (c := Rows.letterMoreRow) ZE ZF ZG ZH ZI ZJ ZK ZL ZM PS PT PU PV PW PX PY PZ Qa Qb Qc Qd Qe Qf Qg Qh Qi Qj Qk Ql Qm Qn Qo

theorem said (hlaw : ∀ xs, ArgsS Tryz.prog 10 [28, 3, 3, 3, 3] xs → ah Tryz.prog G0 16 xs (.tree (.lit (.bool true)))) : Rows.LetterMoreSaid :=
  OpenClaim.holds_of_cond 16 Tryz.f16 rfl rfl rfl rfl rfl rfl rfl ⟨rfl, rfl, rfl, rfl, rfl⟩ rfl rfl rfl rfl rfl (by kernel_rfl) Tryz.func16 facts
    (of_decide_eq_true (by kernel_rfl)) (by unfold Func.isWrapper; first | (rw [if_pos (by decide +kernel)]; kernel_rfl) | (rw [if_neg (by decide +kernel)]; exact ⟨rfl, rfl⟩))
    (fun os started H enc _ F => by rw [OpenClaim.pre_eq_preRow]; exact lifted hlaw os started H enc F)

theorem plain (f : FuncId) (fn : Func) (hf : Tryz.pinned.checked.prog.funcNamed "mahlstick/mahlsticklaw01.LetterMore" = some f) (hfn : Tryz.pinned.checked.prog.funcs[f]? = some fn) :
    true = Tryz.pinned.checked.prog.looks [] ∧ ∀ (j : Nat) t, fn.params[j]? = some t → Tryz.pinned.checked.prog.wantsStandIn t = false := by
  obtain rfl : f = 16 := Option.some.inj ((show Tryz.prog.funcNamed "mahlstick/mahlsticklaw01.LetterMore" = some 16 by kernel_rfl).symm.trans hf) |>.symm
  obtain rfl : fn = Tryz.f16 := (Option.some.inj (Tryz.func16.symm.trans hfn)).symm
  refine ⟨by kernel_rfl, fun j t ht => ?_⟩
  rw [Tryz.params16] at ht
  have hall : ([28, 3, 3, 3, 3].all fun u => !Tryz.prog.wantsStandIn u) = true := by kernel_rfl
  have hm : t ∈ [28, 3, 3, 3, 3] := by simpa using Array.mem_of_getElem? ht
  exact (show Tryz.prog.wantsStandIn t = false by simpa using List.all_eq_true.1 hall t hm)

theorem ZY : OpenClaim.wfByText (OpenSpec.ofChange Rows.letterMoreSpec) Rows.letterMoreRow = true := by kernel_rfl
theorem ZZ : Tryz.pinned.checked.prog.mainIs = some (Rows.letterMoreCard.stood.harness.1, Rows.letterMoreCard.stood.harness.2.toList) := by kernel_rfl
theorem cg3 : false = Rows.letterMoreRow.goesBy Tryz.pinned.checked.prog := by kernel_rfl
/-- The card, out of the law on trees. -/
theorem card (hlaw : ∀ xs, ArgsS Tryz.prog 10 [28, 3, 3, 3, 3] xs → ah Tryz.prog G0 16 xs (.tree (.lit (.bool true)))) : Rows.LetterMoreCardSaid :=
  Claim7.holds_tied_plain_at .later [] _ _ _ _ (said hlaw) (fun _ h => by cases h) ZY (fun _ h => by cases h) letterMore_row_tie rfl ⟨rfl, rfl⟩ ZZ rfl plain cg3
end Go.Proofs.YtclkbhbhohdgbaaGreatDoor.FrLetterMore
