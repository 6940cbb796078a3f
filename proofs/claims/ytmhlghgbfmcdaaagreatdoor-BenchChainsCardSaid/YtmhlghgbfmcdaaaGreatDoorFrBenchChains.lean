/- The frame of 'BenchChains': what its statement asks, out of the law on trees. -/
import Derived.Test.YtmhlghgbfmcdaaaGreatDoorG6az
import Derived.Test.YtmhlghgbfmcdaaaGreatDoorFaBenchChains
import Derived.Test.YtmhlghgbfmcdaaaGreatDoorCards
import Derived.Test.YtmhlghgbfmcdaaaGreatDoorTie
import Derived.ProofKit
import Derived.OpenShut
import Derived.Deep.DeepHandedRow
import Derived.Lay
namespace Go.Proofs.YtmhlghgbfmcdaaaGreatDoor.FrBenchChains
open Go Go.V Go.RowKit Go.ChangeShapes Go.ChangeAt Go.WideShapes

theorem own : ownKnob Tryz.prog.godebug = none := by kernel_rfl
theorem laidOut : laidOutB Tryz.prog = true := by kernel_rfl
theorem Ko : ∀ t ∈ Tryz.f7.params.toList, Tryz.prog.readableRec t = true ∧ t < Tryz.prog.types.size := by
  rw [Tryz.params7]
  have h : ([25, 22, 3].all fun t => Tryz.prog.readableRec t && decide (t < Tryz.prog.types.size)) = true := by kernel_rfl
  intro t ht
  have := List.all_eq_true.1 h t (by simpa using ht)
  simpa using this

theorem gok {W : World} (h : laidMet Tryz.prog Rows.benchChainsRow.laid W) : GOk G0 (PCtx fun b => b < W.heap.size) W := by
  have h1 := Dk (k := .u64) (is := tG) h (n := "internal/strconv.uint64pow10") (g := 3) (N := 20) (e := 165) (t := 239) rfl (by kernel_rfl) (by kernel_rfl) Tryz.underlying239 Tryz.underlying165 (by kernel_rfl) rfl
  intro g cs hg
  match g, hg with
  | 3, hg => cases hg; exact ⟨h1.1, h1.2, LN _⟩

set_option maxRecDepth 100000 in
/-- What a run of the law on trees gives, for every argument. -/
theorem contract (hlaw : ∀ xs, ArgsS Tryz.prog 10 [25, 22, 3] xs → ak Tryz.prog G0 7 xs (.tree (.lit (.bool true))))
    (H : Type) (enc : TypeId × Value → H) (W : World) (base : Nat) (args : Array Value) (ds gs : List (DataW H)) (before : List MemPlace)
    (hval : ∀ (j : Nat) t v, Tryz.f7.params[j]? = some t → args[j]? = some v → Value.okWide Tryz.prog W .any base t v)
    (hW : DataW.Whole enc Tryz.prog Tryz.f7.params.toList Rows.benchChainsSpec.vars false W args.toList ds gs before)
    (hlaid : laidMet Tryz.prog Rows.benchChainsRow.laid W) :
    Calls Tryz.prog 7 args W fun e W' => ∃ v, e = .returned v ∧ Rows.benchChainsSpec.post enc Tryz.prog Tryz.f7 false true false false W args v W' := by
  have hW' := hW
  obtain ⟨p, q, hA, hV, rfl, hfz, hnd⟩ := hW
  rw [Tryz.params7] at hA
  have hv : ∀ (j : Nat) t v, [25, 22, 3][j]? = some t → args.toList[j]? = some v → Value.okWide Tryz.prog W .any base t v := by
    intro j t v a b
    refine hval j t v ?_ ?_
    · rw [Tryz.params7, ← Array.getElem?_toList]
      exact a
    · rw [← Array.getElem?_toList]
      exact b
  have hpl : ([25, 22, 3].all fun t => plainT Tryz.prog 10 t) = true := by kernel_rfl
  obtain ⟨xs, hx, hs⟩ := LJ (n := 10) [25, 22, 3] _ _ _ hpl hv hA
  have hd : Rows.benchChainsSpec.fn H ds = { results := [.lit (.bool true)], args := ds } := by
    have := LK hA
    match ds, this with
    | [d0, d1, d2], _ => rfl
  exact Dh laidOut Ko rfl (show Tryz.f7.resultTypes = #[4] by kernel_rfl) Tryz.underlying4 hd hW' (gok hlaid) hx (hlaw xs hs)

theorem Kp (os : Os) : laidMet Tryz.prog Rows.benchChainsRow.laid (((World.laidAll Tryz.prog os Rows.benchChainsRow.laid)).forCall (fun _ _ => 0) ⟨#[], #[.agg #[.int .i64 0, .slice none 0 0, .slice none 0 0], .slice none 0 0, .int .i64 0], []⟩).memory :=
  laidMet_laidAll _ (by kernel_rfl) (by kernel_rfl)
theorem reads (os : Os) {H : Type} (enc : TypeId × Value → H) : ∃ places, DataW.whole enc Tryz.prog ((World.laidAll Tryz.prog os Rows.benchChainsRow.laid).forCall (fun _ _ => 0) ⟨#[], #[.agg #[.int .i64 0, .slice none 0 0, .slice none 0 0], .slice none 0 0, .int .i64 0], []⟩).memory Tryz.f7.params.toList Rows.benchChainsSpec.vars false (#[.agg #[.int .i64 0, .slice none 0 0, .slice none 0 0], .slice none 0 0, .int .i64 0] : Array Value).toList 8 = some ([.agg [.lit (.int .i64 0), .nil, .nil], .nil, .lit (.int .i64 0)], [], places) :=
  ⟨[], by kernel_rfl⟩

set_option maxRecDepth 100000 in
theorem lifted (hlaw : ∀ xs, ArgsS Tryz.prog 10 [25, 22, 3] xs → ak Tryz.prog G0 7 xs (.tree (.lit (.bool true))))
    (os : Os) (started : os.Started) (H : Type) (enc : TypeId × Value → H) (F : Stop.Interp) :
    ReturnsInHanded {} Tryz.checked os 7 .any ((OpenSpec.ofChange Rows.benchChainsSpec).preRow enc Tryz.prog Tryz.f7 Rows.benchChainsRow.domain false Rows.benchChainsRow.laid) (((OpenSpec.ofChange Rows.benchChainsSpec).at F).post enc Tryz.prog Tryz.f7 false true false false) := by
  obtain ⟨places, hx⟩ := reads os enc
  refine returnsInHanded_of_row (C := Tryz.checked) (s := OpenSpec.ofChange Rows.benchChainsSpec) own started (by kernel_rfl) Tryz.func7
    (witness_row_at (enc := enc) (C := Tryz.checked) false (World.laidAll Tryz.prog os Rows.benchChainsRow.laid) #[.agg #[.int .i64 0, .slice none 0 0, .slice none 0 0], .slice none 0 0, .int .i64 0] (World.laidAll_os _ _ _) (by kernel_rfl) (by kernel_rfl) (by kernel_rfl)
      (OpenSpec.preRow_of_cond 8 hx (by kernel_rfl) (fun k hk => by cases hk) (by kernel_rfl) (Kp os))) ?_
  intro W base args ds gs before hval hW _ _ _ hlaid _ _
  exact contract hlaw H enc W base args ds gs before hval hW hlaid

set_option maxRecDepth 100000 in
theorem facts : joinedFacts Tryz.checked.prog 7 Tryz.f7 (OpenSpec.ofChange Rows.benchChainsSpec).bare Rows.benchChainsRow = true := Dm (P := Tryz.checked.prog) (f := 7) (fn := Tryz.f7) (s := (OpenSpec.ofChange Rows.benchChainsSpec).bare) (c := Rows.benchChainsRow) NN NO NP NQ NR NS NT NU NV zq zr zt zu zw zx zy z1 z2 z3 z4 z5 z6 z7 z8 z9 zA zB zC zD zE zF zG

theorem said (hlaw : ∀ xs, ArgsS Tryz.prog 10 [25, 22, 3] xs → ak Tryz.prog G0 7 xs (.tree (.lit (.bool true)))) : Rows.BenchChainsSaid :=
  OpenClaim.holds_of_cond 7 Tryz.f7 rfl rfl rfl rfl rfl rfl rfl ⟨rfl, rfl, rfl, rfl, rfl⟩ rfl rfl rfl rfl rfl (by kernel_rfl) Tryz.func7 facts
    (of_decide_eq_true (by kernel_rfl)) (by unfold Func.isWrapper; first | (rw [if_pos (by decide +kernel)]; kernel_rfl) | (rw [if_neg (by decide +kernel)]; exact ⟨rfl, rfl⟩))
    (fun os started H enc _ F => by rw [OpenClaim.pre_eq_preRow]; exact lifted hlaw os started H enc F)

theorem plain (f : FuncId) (fn : Func) (hf : Tryz.pinned.checked.prog.funcNamed "mahlstick/mahlsticklaw06.BenchChains" = some f) (hfn : Tryz.pinned.checked.prog.funcs[f]? = some fn) :
    true = Tryz.pinned.checked.prog.looks [] ∧ ∀ (j : Nat) t, fn.params[j]? = some t → Tryz.pinned.checked.prog.wantsStandIn t = false := by
  obtain rfl : f = 7 := Option.some.inj ((show Tryz.prog.funcNamed "mahlstick/mahlsticklaw06.BenchChains" = some 7 by kernel_rfl).symm.trans hf) |>.symm
  obtain rfl : fn = Tryz.f7 := (Option.some.inj (Tryz.func7.symm.trans hfn)).symm
  refine ⟨by kernel_rfl, fun j t ht => ?_⟩
  rw [Tryz.params7] at ht
  have hall : ([25, 22, 3].all fun u => !Tryz.prog.wantsStandIn u) = true := by kernel_rfl
  have hm : t ∈ [25, 22, 3] := by simpa using Array.mem_of_getElem? ht
  exact (show Tryz.prog.wantsStandIn t = false by simpa using List.all_eq_true.1 hall t hm)

theorem Tw : OpenClaim.wfByText (OpenSpec.ofChange Rows.benchChainsSpec) Rows.benchChainsRow = true := by kernel_rfl
theorem Tx : Tryz.pinned.checked.prog.mainIs = some (Rows.benchChainsCard.stood.harness.1, Rows.benchChainsCard.stood.harness.2.toList) := by kernel_rfl
theorem Ty : false = Rows.benchChainsRow.goesBy Tryz.pinned.checked.prog := by kernel_rfl
/-- The card, out of the law on trees. -/
theorem card (hlaw : ∀ xs, ArgsS Tryz.prog 10 [25, 22, 3] xs → ak Tryz.prog G0 7 xs (.tree (.lit (.bool true)))) : Rows.BenchChainsCardSaid :=
  Claim7.holds_tied_plain_at .later [] _ _ _ _ (said hlaw) (fun _ h => by cases h) Tw (fun _ h => by cases h) benchChains_row_tie rfl ⟨rfl, rfl⟩ Tx rfl plain Ty
end Go.Proofs.YtmhlghgbfmcdaaaGreatDoor.FrBenchChains
