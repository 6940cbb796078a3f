/- Part of a proof. -/
import Derived.Test.YtmhlghgbfmcdaaaGreatDoorN1bl
set_option linter.all false
set_option maxRecDepth 4000
set_option maxHeartbeats 40000000
section
namespace Go.V
open Go Go.Proofs IntKind
theorem hmix : Tryz.prog.follows .mixedOrders = true := by kernel_rfl
def kB : VV := (VV.agg [(VV.lit (Value.int IntKind.i64 (Int.ofNat 1))), (VV.sl [(VV.lit (Value.int IntKind.i64 (Int.ofNat 5))), (VV.lit (Value.int IntKind.i64 (Int.ofNat 6)))] 2 Bool.false), (VV.sl [(VV.lit (Value.int IntKind.i64 (Int.ofNat 1))), (VV.lit (Value.bool Bool.true)), (VV.lit (Value.int IntKind.i64 (Int.ofNat 2))), (VV.lit (Value.int IntKind.i64 (Int.ofNat 2))), (VV.lit (Value.slice Option.none 0 0)), (VV.lit (Value.int IntKind.i64 (Int.ofNat 0))), (VV.lit (Value.bool Bool.false)), (VV.lit (Value.int IntKind.i64 (Int.ofNat 2))), (VV.lit (Value.int IntKind.i64 (Int.ofNat 3))), (VV.lit (Value.slice Option.none 0 0)), (VV.lit (Value.int IntKind.i64 (Int.ofNat 0))), (VV.lit (Value.bool Bool.true)), (VV.lit (Value.int IntKind.i64 (Int.ofNat 1))), (VV.lit (Value.int IntKind.i64 (Int.ofNat 2))), (VV.sl [(VV.lit (Value.int IntKind.i64 (Int.ofNat 1)))] 1 Bool.false), (VV.lit (Value.int IntKind.i64 (Int.ofNat 1))), (VV.lit (Value.bool Bool.false)), (VV.lit (Value.int IntKind.i64 (Int.ofNat 1))), (VV.lit (Value.int IntKind.i64 (Int.ofNat 3))), (VV.sl [(VV.lit (Value.int IntKind.i64 (Int.ofNat 0)))] 1 Bool.false)] 4 Bool.false)])
def kEnds : VV := (VV.tup [(VV.sl [(VV.lit (Value.int IntKind.i64 (Int.ofNat 2))), (VV.lit (Value.int IntKind.i64 (Int.ofNat 2))), (VV.lit (Value.int IntKind.i64 (Int.ofNat 2))), (VV.lit (Value.int IntKind.i64 (Int.ofNat 3))), (VV.lit (Value.int IntKind.i64 (Int.ofNat 3))), (VV.lit (Value.int IntKind.i64 (Int.ofNat 5))), (VV.lit (Value.int IntKind.i64 (Int.ofNat 3))), (VV.lit (Value.int IntKind.i64 (Int.ofNat 6)))] 4 Bool.false), (VV.lit (Value.int IntKind.i64 (Int.ofNat 0)))])
def kDone : VV := (VV.tup [(VV.agg [(VV.lit (Value.int IntKind.i64 (Int.ofNat 3))), (VV.lit (Value.int IntKind.i64 (Int.ofNat 5)))]), (VV.lit (Value.int IntKind.i64 (Int.ofNat 0)))])
def kLate : VV := (VV.tup [(VV.sl [(VV.lit (Value.int IntKind.i64 (Int.ofNat 1))), (VV.lit (Value.int IntKind.i64 (Int.ofNat 2)))] 2 Bool.false), (VV.lit (Value.int IntKind.i64 (Int.ofNat 0)))])
def kWaits : VV := (VV.tup [(VV.sl [(VV.lit (Value.int IntKind.i64 (Int.ofNat 0))), (VV.lit (Value.int IntKind.i64 (Int.ofNat 0))), (VV.lit (Value.int IntKind.i64 (Int.ofNat 1))), (VV.lit (Value.int IntKind.i64 (Int.ofNat 0)))] 4 Bool.false), (VV.lit (Value.int IntKind.i64 (Int.ofNat 0)))])
def kChain : VV := (VV.tup [(VV.sl [(VV.lit (Value.int IntKind.i64 (Int.ofNat 1))), (VV.lit (Value.int IntKind.i64 (Int.ofNat 3)))] 2 Bool.false), (VV.lit (Value.int IntKind.i64 (Int.ofNat 0)))])
def kSpare : VV := (VV.tup [(VV.lit (Value.int IntKind.i64 (Int.ofNat 1))), (VV.lit (Value.int IntKind.i64 (Int.ofNat 0)))])
def kBest : VV := (VV.tup [(VV.sl [(VV.lit (Value.int IntKind.i64 (Int.ofNat 0))), (VV.lit (Value.int IntKind.i64 (Int.ofNat 1))), (VV.lit (Value.int IntKind.i64 (Int.ofNat 0))), (VV.lit (Value.int IntKind.i64 (Int.ofNat 1)))] 4 Bool.false), (VV.lit (Value.int IntKind.i64 (Int.ofNat 6))), (VV.lit (Value.int IntKind.i64 (Int.ofNat 0)))])
def kCount : VV := (VV.tup [(VV.lit (Value.int IntKind.i64 (Int.ofNat 1))), (VV.lit (Value.int IntKind.i64 (Int.ofNat 0)))])
def kWho : VV := (VV.tup [(VV.sl [(VV.lit (Value.int IntKind.i64 (Int.ofNat 1)))] 1 Bool.false), (VV.lit (Value.int IntKind.i64 (Int.ofNat 0)))])
def kGive : VV := (VV.tup [(VV.lit (Value.int IntKind.i64 (Int.ofNat 1))), (VV.lit (Value.int IntKind.i64 (Int.ofNat 8))), (VV.lit (Value.int IntKind.i64 (Int.ofNat 0)))])
def kMore : VV := (VV.tup [(VV.lit (Value.int IntKind.i64 (Int.ofNat 5))), (VV.lit (Value.int IntKind.i64 (Int.ofNat 0)))])
def kLeast : VV := (VV.tup [(VV.lit (Value.int IntKind.i64 (Int.ofNat 2))), (VV.lit (Value.int IntKind.i64 (Int.ofNat 0)))])
def kRead : VV := (VV.tup [(VV.agg [(VV.lit (Value.int IntKind.i64 (Int.ofNat 0))), (VV.sl [(VV.lit (Value.int IntKind.i64 (Int.ofNat 0)))] 1 Bool.false), (VV.sl [(VV.lit (Value.int IntKind.i64 (Int.ofNat 0))), (VV.lit (Value.bool Bool.false)), (VV.lit (Value.int IntKind.i64 (Int.ofNat 1))), (VV.lit (Value.int IntKind.i64 (Int.ofNat 1))), (VV.lit (Value.slice Option.none 0 0))] 1 Bool.false)]), (VV.lit (Value.int IntKind.i64 (Int.ofNat 0)))])
theorem pB : ag Tryz.prog G0 64 [] (.tree kB) := ag.closedF (fs := []) (tab := []) hmix trivial 1000 (by kernel_rfl)
theorem pEnds : ag Tryz.prog G0 22 [kB, .sl [.lit (.int .i64 (0)), .lit (.int .i64 (1)), .lit (.int .i64 (0)), .lit (.int .i64 (1))] 4 false] (.tree kEnds) := ag.closedF (fs := []) (tab := []) hmix trivial 1000 (by kernel_rfl)
theorem pDone : ag Tryz.prog G0 23 [kB, .sl [.lit (.int .i64 (0)), .lit (.int .i64 (1)), .lit (.int .i64 (0)), .lit (.int .i64 (1))] 4 false, .lit (.int .i64 (0))] (.tree kDone) := ag.closedF (fs := []) (tab := []) hmix trivial 1000 (by kernel_rfl)
theorem pLate : ag Tryz.prog G0 36 [kB, .sl [.lit (.int .i64 (0)), .lit (.int .i64 (1)), .lit (.int .i64 (0)), .lit (.int .i64 (0))] 4 false] (.tree kLate) := ag.closedF (fs := []) (tab := []) hmix trivial 1000 (by kernel_rfl)
theorem pWaits : ag Tryz.prog G0 37 [kB, .sl [.lit (.int .i64 (0)), .lit (.int .i64 (1)), .lit (.int .i64 (0)), .lit (.int .i64 (1))] 4 false] (.tree kWaits) := ag.closedF (fs := []) (tab := []) hmix trivial 1000 (by kernel_rfl)
theorem pChain : ag Tryz.prog G0 42 [kB, .sl [.lit (.int .i64 (0)), .lit (.int .i64 (1)), .lit (.int .i64 (0)), .lit (.int .i64 (1))] 4 false] (.tree kChain) := ag.closedF (fs := []) (tab := []) hmix trivial 1000 (by kernel_rfl)
theorem pSpare : ag Tryz.prog G0 43 [kB, .sl [.lit (.int .i64 (0)), .lit (.int .i64 (1)), .lit (.int .i64 (0)), .lit (.int .i64 (1))] 4 false, .lit (.int .i64 (0))] (.tree kSpare) := ag.closedF (fs := []) (tab := []) hmix trivial 1000 (by kernel_rfl)
theorem pBest : ag Tryz.prog G0 51 [kB] (.tree kBest) := ag.closedF (fs := []) (tab := []) hmix trivial 1000 (by kernel_rfl)
theorem pCount : ag Tryz.prog G0 52 [kB] (.tree kCount) := ag.closedF (fs := []) (tab := []) hmix trivial 1000 (by kernel_rfl)
theorem pWho : ag Tryz.prog G0 55 [kB, .lit (.int .i64 (1))] (.tree kWho) := ag.closedF (fs := []) (tab := []) hmix trivial 1000 (by kernel_rfl)
theorem pGive : ag Tryz.prog G0 56 [kB, .sl [.lit (.int .i64 (0)), .lit (.int .i64 (0)), .lit (.int .i64 (0)), .lit (.int .i64 (0))] 4 false, .lit (.int .i64 (1))] (.tree kGive) := ag.closedF (fs := []) (tab := []) hmix trivial 1000 (by kernel_rfl)
theorem pMore : ag Tryz.prog G0 60 [kB] (.tree kMore) := ag.closedF (fs := []) (tab := []) hmix trivial 1000 (by kernel_rfl)
theorem pLeast : ag Tryz.prog G0 61 [kB, .lit (.int .i64 (5))] (.tree kLeast) := ag.closedF (fs := []) (tab := []) hmix trivial 1000 (by kernel_rfl)
theorem pRead : ag Tryz.prog G0 65 [.lit (.string ⟨⟨[98, 101, 110, 99, 104, 32, 48, 10, 98, 111, 97, 114, 100, 32, 48, 10, 115, 116, 114, 97, 105, 103, 104, 116, 32, 48, 32, 49, 32, 49, 32, 45, 10, 101, 110, 100, 32, 49, 55, 53, 10]⟩⟩)] (.tree kRead) := ag.closedF (fs := []) (tab := []) hmix trivial 1000 (by kernel_rfl)
def kTab : KTab := [
  (64, [], kB),
  (22, [kB, .sl [.lit (.int .i64 (0)), .lit (.int .i64 (1)), .lit (.int .i64 (0)), .lit (.int .i64 (1))] 4 false], kEnds),
  (23, [kB, .sl [.lit (.int .i64 (0)), .lit (.int .i64 (1)), .lit (.int .i64 (0)), .lit (.int .i64 (1))] 4 false, .lit (.int .i64 (0))], kDone),
  (36, [kB, .sl [.lit (.int .i64 (0)), .lit (.int .i64 (1)), .lit (.int .i64 (0)), .lit (.int .i64 (0))] 4 false], kLate),
  (37, [kB, .sl [.lit (.int .i64 (0)), .lit (.int .i64 (1)), .lit (.int .i64 (0)), .lit (.int .i64 (1))] 4 false], kWaits),
  (42, [kB, .sl [.lit (.int .i64 (0)), .lit (.int .i64 (1)), .lit (.int .i64 (0)), .lit (.int .i64 (1))] 4 false], kChain),
  (43, [kB, .sl [.lit (.int .i64 (0)), .lit (.int .i64 (1)), .lit (.int .i64 (0)), .lit (.int .i64 (1))] 4 false, .lit (.int .i64 (0))], kSpare),
  (51, [kB], kBest),
  (52, [kB], kCount),
  (55, [kB, .lit (.int .i64 (1))], kWho),
  (56, [kB, .sl [.lit (.int .i64 (0)), .lit (.int .i64 (0)), .lit (.int .i64 (0)), .lit (.int .i64 (0))] 4 false, .lit (.int .i64 (1))], kGive),
  (60, [kB], kMore),
  (61, [kB, .lit (.int .i64 (5))], kLeast),
  (65, [.lit (.string ⟨⟨[98, 101, 110, 99, 104, 32, 48, 10, 98, 111, 97, 114, 100, 32, 48, 10, 115, 116, 114, 97, 105, 103, 104, 116, 32, 48, 32, 49, 32, 49, 32, 45, 10, 101, 110, 100, 32, 49, 55, 53, 10]⟩⟩)], kRead)]
theorem kTabOk : KTabOk Tryz.prog G0 kTab := ⟨⟨by kernel_rfl, pB⟩, ⟨⟨by kernel_rfl, pEnds⟩, ⟨⟨by kernel_rfl, pDone⟩, ⟨⟨by kernel_rfl, pLate⟩, ⟨⟨by kernel_rfl, pWaits⟩, ⟨⟨by kernel_rfl, pChain⟩, ⟨⟨by kernel_rfl, pSpare⟩, ⟨⟨by kernel_rfl, pBest⟩, ⟨⟨by kernel_rfl, pCount⟩, ⟨⟨by kernel_rfl, pWho⟩, ⟨⟨by kernel_rfl, pGive⟩, ⟨⟨by kernel_rfl, pMore⟩, ⟨⟨by kernel_rfl, pLeast⟩, ⟨⟨by kernel_rfl, pRead⟩, trivial⟩⟩⟩⟩⟩⟩⟩⟩⟩⟩⟩⟩⟩⟩
theorem pKnown : ag Tryz.prog G0 20 [] (.tree (.lit (.bool true))) := ag.closedF (fs := []) hmix kTabOk 1000 (by kernel_rfl)
#print axioms pKnown
theorem fv : ag Tryz.prog G0 20 [] (.tree (.lit (.bool true))) := pKnown
def nK (ai : GBk) (aq : Int) : Option (Int × Int) := Option.bind (i7 ai) (fun r1 => cond (r1) (Option.bind (i9 0 aq 60) (fun r2 => cond (r2) (Option.bind (rq ai aq) (fun r3 => cond (r3.2) (some (r3.1, 0)) (some (0, 5)))) (some (0, 2)))) (some (0, 2)))
theorem Jr (ai : GBk) (aq : Int) (R : Int × Int) (h : nK ai aq = some R) : ag Tryz.prog G0 61 [.agg (cGBk ai), .lit (.int .i64 aq)] (.tree (.tup [.lit (.int .i64 R.1), .lit (.int .i64 R.2)])) := by
 refine ag.runR mixed Tryz.call61 Tryz.func61 rfl (by simp [Tryz.ntmps61]; kernel_rfl) ?_
 obtain ⟨KF, h, kF, kN⟩ := cu h
 simp only [nK] at h
 obtain ⟨r4, o5, h⟩ := optI h kN
 try simp only [hs] at h
 simp only [vz, tyf, nm, seval]
 refine ktA (v8 _ _ o5) ?_
 refine aZ (fun tm => tm 1 = .lit (.int .i64 aq) ∧ tm 2 = .ptr 0 0 ∧ tm 9 = .lit (.bool r4) ∧ True) (by refine ⟨?_, ?_, ?_, trivial⟩ <;> first | (simp only [ua, nm, seval] <;> rfl) | rfl) ?_
 rintro tm ⟨e6, e7, e8, _⟩
 cases d9 : (r4)
 ·simp only [d9, hs] at h
  try simp only [vz, tyf, e6, e7, e8, d9, nm, seval]
  refine bG (x := (.tup [.lit (.int .i64 0), .lit (.int .i64 2)])) (by first | (simp only [Tryz.results61, resV, resL, resV1, bN, bO, uw, cr, tyf, d9, nm, seval] <;> rfl) | rfl) ?_
  obtain rfl := kF _ h
  refine dM ?_ ?_
  ·simp only [tre, tytre, Bool.and_self]
  ·first | (simp only [outV, uw, dE, cr, tyf, nrm, tynrm, e6, e7, e8, d9, nm, seval] <;> rfl) | rfl
 simp only [d9, hs] at h
 obtain ⟨jm, v9, h⟩ := optI h kN
 try simp only [hs] at h
 simp only [vz, tyf, e6, e7, e8, d9, nm, seval]
 refine ktA (lW _ _ _ _ v9) ?_
 refine aZ (fun tm => tm 1 = .lit (.int .i64 aq) ∧ tm 2 = .ptr 0 0 ∧ tm 11 = .lit (.bool false) ∧ tm 13 = .lit (.bool jm) ∧ True) (by refine ⟨e6, e7, ?_, ?_, trivial⟩ <;> first | (simp only [ua, e6, e7, e8, d9, nm, seval] <;> rfl) | rfl) ?_
 rintro tm ⟨b6, bg, bl, cv, _⟩
 cases bV : (jm)
 ·simp only [bV, hs] at h
  try simp only [vz, tyf, d9, b6, bg, bl, cv, bV, nm, seval]
  refine bG (x := (.tup [.lit (.int .i64 0), .lit (.int .i64 2)])) (by first | (simp only [Tryz.results61, resV, resL, resV1, bN, bO, uw, cr, tyf, d9, bV, nm, seval] <;> rfl) | rfl) ?_
  obtain rfl := kF _ h
  refine dM ?_ ?_
  ·simp only [tre, tytre, Bool.and_self]
  ·first | (simp only [outV, uw, dE, cr, tyf, nrm, tynrm, d9, b6, bg, bl, cv, bV, nm, seval] <;> rfl) | rfl
 simp only [bV, hs] at h
 obtain ⟨dN, ke, h⟩ := optI h kN
 try simp only [hs] at h
 simp only [vz, tyf, d9, b6, bg, bl, cv, bV, nm, seval]
 refine ktA (Js _ _ _ ke) ?_
 refine aZ (fun tm => tm 19 = .tup [.lit (.int .i64 dN.1), .lit (.bool dN.2)] ∧ True) (by refine ⟨?_, trivial⟩ <;> first | (simp only [ua, d9, b6, bg, bl, cv, bV, nm, seval] <;> rfl) | rfl) ?_
 rintro tm ⟨bw, _⟩
 cases cq : (dN.2)
 ·simp only [cq, hs] at h
  try simp only [vz, tyf, d9, bV, bw, cq, nm, seval]
  refine bG (x := (.tup [.lit (.int .i64 0), .lit (.int .i64 5)])) (by first | (simp only [Tryz.results61, resV, resL, resV1, bN, bO, uw, cr, tyf, d9, bV, cq, nm, seval] <;> rfl) | rfl) ?_
  obtain rfl := kF _ h
  refine dM ?_ ?_
  ·simp only [tre, tytre, Bool.and_self]
  ·first | (simp only [outV, uw, dE, cr, tyf, nrm, tynrm, d9, bV, bw, cq, nm, seval] <;> rfl) | rfl
 simp only [cq, hs] at h
 try simp only [vz, tyf, d9, bV, bw, cq, nm, seval]
 refine bG (x := (.tup [.lit (.int .i64 dN.1), .lit (.int .i64 0)])) (by first | (simp only [Tryz.results61, resV, resL, resV1, bN, bO, uw, cr, tyf, d9, bV, cq, nm, seval] <;> rfl) | rfl) ?_
 obtain rfl := kF _ h
 refine dM ?_ ?_
 ·simp only [tre, tytre, Bool.and_self]
 ·first | (simp only [outV, uw, dE, cr, tyf, nrm, tynrm, d9, bV, bw, cq, nm, seval] <;> rfl) | rfl
def ru (ai : GBk) (aq : Int) (ah : Int) : Option (Bool) := Option.bind (lX ai) (fun r1 => cond (r1) (cond (decide (aq < 0)) (some true) (cond (decide (aq > 60)) (some true) (cond (decide (ah < 0)) (some true) (cond (decide (ah > 3)) (some true) (Option.bind (nK ai aq) (fun r2 => Option.bind (iA ai ah) (fun r3 => Option.bind (hY r3) (fun r4 => cond (r4.2.2 != 0) (some false) (cond (r2.2 != 0) (cond (r2.2 != 5) (some false) (cond (decide (r2.1 < 0)) (some false) (cond (decide (r2.1 > 3)) (some false) (cond (r2.2 == 0) (cond ((decide (r4.2.1 ≤ aq)) != (decide (ah ≥ r2.1))) (some false) (cond (ah == 3) (some true) (Option.bind (iB r3) (fun r5 => Option.bind (iA ai (i64.wrap (ah + 1))) (fun r6 => Option.bind (hY r6) (fun r7 => cond (r5.2 == 0) (cond (r7.2.2 == 0) (cond (r5.1 == r7.2.1) (cond (decide (r5.1 ≤ r4.2.1)) (some true) (some false)) (some false)) (some false)) (some false))))))) (cond ((decide (r4.2.1 ≤ aq)) != false) (some false) (cond (ah == 3) (some true) (Option.bind (iB r3) (fun r8 => Option.bind (iA ai (i64.wrap (ah + 1))) (fun r9 => Option.bind (hY r9) (fun jm => cond (r8.2 == 0) (cond (jm.2.2 == 0) (cond (r8.1 == jm.2.1) (cond (decide (r8.1 ≤ r4.2.1)) (some true) (some false)) (some false)) (some false)) (some false))))))))))) (cond (decide (r2.1 < 0)) (some false) (cond (decide (r2.1 > 3)) (some false) (cond (r2.2 == 0) (cond ((decide (r4.2.1 ≤ aq)) != (decide (ah ≥ r2.1))) (some false) (cond (ah == 3) (some true) (Option.bind (iB r3) (fun lY => Option.bind (iA ai (i64.wrap (ah + 1))) (fun Jt => Option.bind (hY Jt) (fun Ez => cond (lY.2 == 0) (cond (Ez.2.2 == 0) (cond (lY.1 == Ez.2.1) (cond (decide (lY.1 ≤ r4.2.1)) (some true) (some false)) (some false)) (some false)) (some false))))))) (cond ((decide (r4.2.1 ≤ aq)) != false) (some false) (cond (ah == 3) (some true) (Option.bind (iB r3) (fun nL => Option.bind (iA ai (i64.wrap (ah + 1))) (fun lZ => Option.bind (hY lZ) (fun nM => cond (nL.2 == 0) (cond (nM.2.2 == 0) (cond (nL.1 == nM.2.1) (cond (decide (nL.1 ≤ r4.2.1)) (some true) (some false)) (some false)) (some false)) (some false))))))))))))))))))) (some true))
theorem Jm (ai : GBk) (aq : Int) (ah : Int) (R : Bool) (h : ru ai aq ah = some R) : ag Tryz.prog G0 15 [.agg (cGBk ai), .lit (.int .i64 aq), .lit (.int .i64 ah)] (.tree (.lit (.bool R))) := by
 refine ag.runR mixed Tryz.call15 Tryz.func15 rfl (by simp [Tryz.ntmps15]; kernel_rfl) ?_
 obtain ⟨KF, h, kF, kN⟩ := cu h
 simp only [ru] at h
 obtain ⟨dN, ke, h⟩ := optI h kN
 try simp only [hs] at h
 simp only [vz, tyf, nm, seval]
 refine ktA (Ju _ _ ke) ?_
 refine aZ (fun tm => tm 1 = .lit (.int .i64 aq) ∧ tm 2 = .lit (.int .i64 ah) ∧ tm 3 = .ptr 0 0 ∧ tm 18 = .lit (.bool dN) ∧ True) (by refine ⟨?_, ?_, ?_, ?_, trivial⟩ <;> first | (simp only [ua, nm, seval] <;> rfl) | rfl) ?_
 rintro tm ⟨bw, bR, cw, cK, _⟩
 cases bL : (dN)
 ·simp only [bL, hs] at h
  simp only [vz, tyf, bw, bR, cw, cK, bL, nm, seval]
  refine ktree0 fv ?_
  try simp only [vz, tyf, bw, bR, cw, cK, bL, nm, seval]
  obtain rfl := kF _ h
  exact aS Tryz.results15 rfl
 simp only [bL, hs] at h
 cases bS : (decide (aq < 0))
 ·simp only [bS, hs] at h
  cases dO : (decide (aq > 60))
  ·simp only [dO, hs] at h
   cases bD : (decide (ah < 0))
   ·simp only [bD, hs] at h
    cases fw : (decide (ah > 3))
    ·simp only [fw, hs] at h
     obtain ⟨dZ, Jv, h⟩ := optI h kN
     try simp only [hs] at h
     simp only [vz, tyf, bw, bR, cw, cK, bL, bS, dO, bD, fw, nm, seval]
     refine ktA (Jr _ _ _ Jv) ?_
     refine aZ (fun tm => tm 1 = .lit (.int .i64 aq) ∧ tm 2 = .lit (.int .i64 ah) ∧ tm 3 = .ptr 0 0 ∧ tm 40 = .tup [.lit (.int .i64 dZ.1), .lit (.int .i64 dZ.2)] ∧ True) (by refine ⟨bw, bR, cw, ?_, trivial⟩ <;> first | (simp only [ua, bw, bR, cw, cK, bL, bS, dO, bD, fw, nm, seval] <;> rfl) | rfl) ?_
     rintro tm ⟨cU, cy, dP, dQ, _⟩
     obtain ⟨nN, nO, h⟩ := optI h kN
     try simp only [hs] at h
     simp only [vz, tyf, bL, bS, dO, bD, fw, cU, cy, dP, dQ, nm, seval]
     refine ktA (iC _ _ _ nO) ?_
     refine aZ (fun tm => tm 1 = .lit (.int .i64 aq) ∧ tm 2 = .lit (.int .i64 ah) ∧ tm 3 = .ptr 0 0 ∧ tm 7 = .lit (.int .i64 dZ.1) ∧ tm 8 = .lit (.int .i64 dZ.2) ∧ tm 46 = .agg (cGBk nN) ∧ True) (by refine ⟨cU, cy, dP, ?_, ?_, ?_, trivial⟩ <;> first | (simp only [ua, bL, bS, dO, bD, fw, cU, cy, dP, dQ, nm, seval] <;> rfl) | rfl) ?_
     rintro tm ⟨iD, iE, eY, kf, kh, ki, _⟩
     obtain ⟨bW, Jw, h⟩ := optI h kN
     try simp only [hs] at h
     simp only [vz, tyf, bL, bS, dO, bD, fw, iD, iE, eY, kf, kh, ki, nm, seval]
     refine ktA (nP _ _ Jw) ?_
     refine aZ (fun tm => tm 1 = .lit (.int .i64 aq) ∧ tm 2 = .lit (.int .i64 ah) ∧ tm 3 = .ptr 0 0 ∧ tm 7 = .lit (.int .i64 dZ.1) ∧ tm 8 = .lit (.int .i64 dZ.2) ∧ tm 47 = .tup [.sl (aa eI bW.1) (List.length bW.1) false, .lit (.int .i64 bW.2.1), .lit (.int .i64 bW.2.2)] ∧ True) (by refine ⟨iD, iE, eY, kf, kh, ?_, trivial⟩ <;> first | (simp only [ua, bL, bS, dO, bD, fw, iD, iE, eY, kf, kh, ki, nm, seval] <;> rfl) | rfl) ?_
     rintro tm ⟨b2, b3, bH, bE, bp, br, _⟩
     cases nQ : (bW.2.2 != 0)
     ·simp only [nQ, hs] at h
      cases gq : (dZ.2 != 0)
      ·simp only [gq, hs] at h
       have ct := And.intro bL (And.intro bS (And.intro dO (And.intro bD (And.intro fw (And.intro nQ gq)))))
       cases b4 : (decide (dZ.1 < 0))
       ·simp only [b4, hs] at h
        cases bX : (decide (dZ.1 > 3))
        ·simp only [bX, hs] at h
         cases bI : (dZ.2 == 0)
         ·simp only [bI, hs] at h
          cases cZ : ((decide (bW.2.1 ≤ aq)) != false)
          ·simp only [cZ, hs] at h
           cases eZ : (ah == 3)
           ·simp only [eZ, hs] at h
            simp only [vz, tyf, ct, b2, b3, bH, bE, bp, br, b4, bX, bI, cZ, eZ, nm, seval]
            refine ktA (iC _ _ _ nO) ?_
            refine aZ (fun tm => tm 2 = .lit (.int .i64 ah) ∧ tm 3 = .ptr 0 0 ∧ tm 10 = .lit (.int .i64 bW.2.1) ∧ tm 88 = .agg (cGBk nN) ∧ True) (by refine ⟨b3, bH, ?_, ?_, trivial⟩ <;> first | (simp only [ua, ct, b2, b3, bH, bE, bp, br, b4, bX, bI, cZ, eZ, nm, seval] <;> rfl) | rfl) ?_
            rintro tm ⟨kj, kl, vA, E0, _⟩
            obtain ⟨iF, Jx, h⟩ := optI h kN
            try simp only [hs] at h
            simp only [vz, tyf, ct, b4, bX, bI, cZ, eZ, kj, kl, vA, E0, nm, seval]
            refine ktA (rv _ _ Jx) ?_
            refine aZ (fun tm => tm 2 = .lit (.int .i64 ah) ∧ tm 3 = .ptr 0 0 ∧ tm 10 = .lit (.int .i64 bW.2.1) ∧ tm 89 = .tup [.lit (.int .i64 iF.1), .lit (.int .i64 iF.2)] ∧ True) (by refine ⟨kj, kl, vA, ?_, trivial⟩ <;> first | (simp only [ua, ct, b4, bX, bI, cZ, eZ, kj, kl, vA, E0, nm, seval] <;> rfl) | rfl) ?_
            rintro tm ⟨E1, E2, vB, E3, _⟩
            obtain ⟨Jy, Jz, h⟩ := optI h kN
            try simp only [hs] at h
            simp only [vz, tyf, ct, b4, bX, bI, cZ, eZ, E1, E2, vB, E3, nm, seval]
            refine ktA (iC _ _ _ Jz) ?_
            refine aZ (fun tm => tm 10 = .lit (.int .i64 bW.2.1) ∧ tm 12 = .lit (.int .i64 iF.1) ∧ tm 13 = .lit (.int .i64 iF.2) ∧ tm 96 = .agg (cGBk Jy) ∧ True) (by refine ⟨vB, ?_, ?_, ?_, trivial⟩ <;> first | (simp only [ua, ct, b4, bX, bI, cZ, eZ, E1, E2, vB, E3, nm, seval] <;> rfl) | rfl) ?_
            rintro tm ⟨vC, vD, vE, E4, _⟩
            obtain ⟨ma, J0, h⟩ := optI h kN
            try simp only [hs] at h
            simp only [vz, tyf, ct, b4, bX, bI, cZ, eZ, vC, vD, vE, E4, nm, seval]
            refine ktA (nP _ _ J0) ?_
            refine aZ (fun tm => tm 10 = .lit (.int .i64 bW.2.1) ∧ tm 12 = .lit (.int .i64 iF.1) ∧ tm 13 = .lit (.int .i64 iF.2) ∧ tm 97 = .tup [.sl (aa eI ma.1) (List.length ma.1) false, .lit (.int .i64 ma.2.1), .lit (.int .i64 ma.2.2)] ∧ True) (by refine ⟨vC, vD, vE, ?_, trivial⟩ <;> first | (simp only [ua, ct, b4, bX, bI, cZ, eZ, vC, vD, vE, E4, nm, seval] <;> rfl) | rfl) ?_
            rintro tm ⟨md, me, mg, mh, _⟩
            cases ry : (iF.2 == 0)
            ·simp only [ry, hs] at h
             have J1 := And.intro ct (And.intro b4 (And.intro bX (And.intro bI (And.intro cZ (And.intro eZ ry)))))
             try simp only [vz, tyf, J1, md, me, mg, mh, nm, seval]
             obtain rfl := kF _ h
             exact aS Tryz.results15 rfl
            simp only [ry, hs] at h
            have nR := And.intro ct (And.intro b4 (And.intro bX (And.intro bI (And.intro cZ (And.intro eZ ry)))))
            cases km : (ma.2.2 == 0)
            ·simp only [km, hs] at h
             try simp only [vz, tyf, nR, md, me, mg, mh, km, nm, seval]
             obtain rfl := kF _ h
             exact aS Tryz.results15 rfl
            simp only [km, hs] at h
            cases mi : (iF.1 == ma.2.1)
            ·simp only [mi, hs] at h
             try simp only [vz, tyf, nR, md, me, mg, mh, km, mi, nm, seval]
             obtain rfl := kF _ h
             exact aS Tryz.results15 rfl
            simp only [mi, hs] at h
            cases nS : (decide (iF.1 ≤ bW.2.1))
            ·simp only [nS, hs] at h
             try simp only [vz, tyf, nR, md, me, mg, mh, km, mi, nS, nm, seval]
             obtain rfl := kF _ h
             exact aS Tryz.results15 rfl
            simp only [nS, hs] at h
            simp only [vz, tyf, nR, md, me, mg, mh, km, mi, nS, nm, seval]
            refine ktree0 fv ?_
            try simp only [vz, tyf, nR, md, me, mg, mh, km, mi, nS, nm, seval]
            obtain rfl := kF _ h
            exact aS Tryz.results15 rfl
           simp only [eZ, hs] at h
           simp only [vz, tyf, ct, b2, b3, bH, bE, bp, br, b4, bX, bI, cZ, eZ, nm, seval]
           refine ktree0 fv ?_
           try simp only [vz, tyf, ct, b2, b3, bH, bE, bp, br, b4, bX, bI, cZ, eZ, nm, seval]
           obtain rfl := kF _ h
           exact aS Tryz.results15 rfl
          simp only [cZ, hs] at h
          try simp only [vz, tyf, ct, b2, b3, bH, bE, bp, br, b4, bX, bI, cZ, nm, seval]
          obtain rfl := kF _ h
          exact aS Tryz.results15 rfl
         simp only [bI, hs] at h
         cases eF : ((decide (bW.2.1 ≤ aq)) != (decide (ah ≥ dZ.1)))
         ·simp only [eF, hs] at h
          cases fa : (ah == 3)
          ·simp only [fa, hs] at h
           simp only [vz, tyf, ct, b2, b3, bH, bE, bp, br, b4, bX, bI, eF, fa, nm, seval]
           refine ktA (iC _ _ _ nO) ?_
           refine aZ (fun tm => tm 2 = .lit (.int .i64 ah) ∧ tm 3 = .ptr 0 0 ∧ tm 10 = .lit (.int .i64 bW.2.1) ∧ tm 88 = .agg (cGBk nN) ∧ True) (by refine ⟨b3, bH, ?_, ?_, trivial⟩ <;> first | (simp only [ua, ct, b2, b3, bH, bE, bp, br, b4, bX, bI, eF, fa, nm, seval] <;> rfl) | rfl) ?_
           rintro tm ⟨vF, vG, vH, E5, _⟩
           obtain ⟨iG, J2, h⟩ := optI h kN
           try simp only [hs] at h
           simp only [vz, tyf, ct, b4, bX, bI, eF, fa, vF, vG, vH, E5, nm, seval]
           refine ktA (rv _ _ J2) ?_
           refine aZ (fun tm => tm 2 = .lit (.int .i64 ah) ∧ tm 3 = .ptr 0 0 ∧ tm 10 = .lit (.int .i64 bW.2.1) ∧ tm 89 = .tup [.lit (.int .i64 iG.1), .lit (.int .i64 iG.2)] ∧ True) (by refine ⟨vF, vG, vH, ?_, trivial⟩ <;> first | (simp only [ua, ct, b4, bX, bI, eF, fa, vF, vG, vH, E5, nm, seval] <;> rfl) | rfl) ?_
           rintro tm ⟨E6, E7, vI, E8, _⟩
           obtain ⟨J3, J4, h⟩ := optI h kN
           try simp only [hs] at h
           simp only [vz, tyf, ct, b4, bX, bI, eF, fa, E6, E7, vI, E8, nm, seval]
           refine ktA (iC _ _ _ J4) ?_
           refine aZ (fun tm => tm 10 = .lit (.int .i64 bW.2.1) ∧ tm 12 = .lit (.int .i64 iG.1) ∧ tm 13 = .lit (.int .i64 iG.2) ∧ tm 96 = .agg (cGBk J3) ∧ True) (by refine ⟨vI, ?_, ?_, ?_, trivial⟩ <;> first | (simp only [ua, ct, b4, bX, bI, eF, fa, E6, E7, vI, E8, nm, seval] <;> rfl) | rfl) ?_
           rintro tm ⟨kn, ko, kq, nT, _⟩
           obtain ⟨fx, vJ, h⟩ := optI h kN
           try simp only [hs] at h
           simp only [vz, tyf, ct, b4, bX, bI, eF, fa, kn, ko, kq, nT, nm, seval]
           refine ktA (nP _ _ vJ) ?_
           refine aZ (fun tm => tm 10 = .lit (.int .i64 bW.2.1) ∧ tm 12 = .lit (.int .i64 iG.1) ∧ tm 13 = .lit (.int .i64 iG.2) ∧ tm 97 = .tup [.sl (aa eI fx.1) (List.length fx.1) false, .lit (.int .i64 fx.2.1), .lit (.int .i64 fx.2.2)] ∧ True) (by refine ⟨kn, ko, kq, ?_, trivial⟩ <;> first | (simp only [ua, ct, b4, bX, bI, eF, fa, kn, ko, kq, nT, nm, seval] <;> rfl) | rfl) ?_
           rintro tm ⟨fy, fz, f8, f9, _⟩
           cases iH : (iG.2 == 0)
           ·simp only [iH, hs] at h
            have vK := And.intro ct (And.intro b4 (And.intro bX (And.intro bI (And.intro eF (And.intro fa iH)))))
            try simp only [vz, tyf, vK, fy, fz, f8, f9, nm, seval]
            obtain rfl := kF _ h
            exact aS Tryz.results15 rfl
           simp only [iH, hs] at h
           have gu := And.intro ct (And.intro b4 (And.intro bX (And.intro bI (And.intro eF (And.intro fa iH)))))
           cases eG : (fx.2.2 == 0)
           ·simp only [eG, hs] at h
            try simp only [vz, tyf, gu, fy, fz, f8, f9, eG, nm, seval]
            obtain rfl := kF _ h
            exact aS Tryz.results15 rfl
           simp only [eG, hs] at h
           cases fA : (iG.1 == fx.2.1)
           ·simp only [fA, hs] at h
            try simp only [vz, tyf, gu, fy, fz, f8, f9, eG, fA, nm, seval]
            obtain rfl := kF _ h
            exact aS Tryz.results15 rfl
           simp only [fA, hs] at h
           cases gv : (decide (iG.1 ≤ bW.2.1))
           ·simp only [gv, hs] at h
            try simp only [vz, tyf, gu, fy, fz, f8, f9, eG, fA, gv, nm, seval]
            obtain rfl := kF _ h
            exact aS Tryz.results15 rfl
           simp only [gv, hs] at h
           simp only [vz, tyf, gu, fy, fz, f8, f9, eG, fA, gv, nm, seval]
           refine ktree0 fv ?_
           try simp only [vz, tyf, gu, fy, fz, f8, f9, eG, fA, gv, nm, seval]
           obtain rfl := kF _ h
           exact aS Tryz.results15 rfl
          simp only [fa, hs] at h
          simp only [vz, tyf, ct, b2, b3, bH, bE, bp, br, b4, bX, bI, eF, fa, nm, seval]
          refine ktree0 fv ?_
          try simp only [vz, tyf, ct, b2, b3, bH, bE, bp, br, b4, bX, bI, eF, fa, nm, seval]
          obtain rfl := kF _ h
          exact aS Tryz.results15 rfl
         simp only [eF, hs] at h
         try simp only [vz, tyf, ct, b2, b3, bH, bE, bp, br, b4, bX, bI, eF, nm, seval]
         obtain rfl := kF _ h
         exact aS Tryz.results15 rfl
        simp only [bX, hs] at h
        try simp only [vz, tyf, ct, b2, b3, bH, bE, bp, br, b4, bX, nm, seval]
        obtain rfl := kF _ h
        exact aS Tryz.results15 rfl
       simp only [b4, hs] at h
       try simp only [vz, tyf, ct, b2, b3, bH, bE, bp, br, b4, nm, seval]
       obtain rfl := kF _ h
       exact aS Tryz.results15 rfl
      simp only [gq, hs] at h
      have dy := And.intro bL (And.intro bS (And.intro dO (And.intro bD (And.intro fw (And.intro nQ gq)))))
      cases cV : (dZ.2 != 5)
      ·simp only [cV, hs] at h
       cases dh : (decide (dZ.1 < 0))
       ·simp only [dh, hs] at h
        cases dz : (decide (dZ.1 > 3))
        ·simp only [dz, hs] at h
         cases dR : (dZ.2 == 0)
         ·simp only [dR, hs] at h
          cases gw : ((decide (bW.2.1 ≤ aq)) != false)
          ·simp only [gw, hs] at h
           cases iI : (ah == 3)
           ·simp only [iI, hs] at h
            have bY := And.intro dy (And.intro cV (And.intro dh (And.intro dz (And.intro dR (And.intro gw iI)))))
            simp only [vz, tyf, bY, b2, b3, bH, bE, bp, br, nm, seval]
            refine ktA (iC _ _ _ nO) ?_
            refine aZ (fun tm => tm 2 = .lit (.int .i64 ah) ∧ tm 3 = .ptr 0 0 ∧ tm 10 = .lit (.int .i64 bW.2.1) ∧ tm 88 = .agg (cGBk nN) ∧ True) (by refine ⟨b3, bH, ?_, ?_, trivial⟩ <;> first | (simp only [ua, bY, b2, b3, bH, bE, bp, br, nm, seval] <;> rfl) | rfl) ?_
            rintro tm ⟨ku, ky, kz, nU, _⟩
            obtain ⟨d4, vL, h⟩ := optI h kN
            try simp only [hs] at h
            simp only [vz, tyf, bY, ku, ky, kz, nU, nm, seval]
            refine ktA (rv _ _ vL) ?_
            refine aZ (fun tm => tm 2 = .lit (.int .i64 ah) ∧ tm 3 = .ptr 0 0 ∧ tm 10 = .lit (.int .i64 bW.2.1) ∧ tm 89 = .tup [.lit (.int .i64 d4.1), .lit (.int .i64 d4.2)] ∧ True) (by refine ⟨ku, ky, kz, ?_, trivial⟩ <;> first | (simp only [ua, bY, ku, ky, kz, nU, nm, seval] <;> rfl) | rfl) ?_
            rintro tm ⟨nV, nW, k6, nX, _⟩
            obtain ⟨vM, vN, h⟩ := optI h kN
            try simp only [hs] at h
            simp only [vz, tyf, bY, nV, nW, k6, nX, nm, seval]
            refine ktA (iC _ _ _ vN) ?_
            refine aZ (fun tm => tm 10 = .lit (.int .i64 bW.2.1) ∧ tm 12 = .lit (.int .i64 d4.1) ∧ tm 13 = .lit (.int .i64 d4.2) ∧ tm 96 = .agg (cGBk vM) ∧ True) (by refine ⟨k6, ?_, ?_, ?_, trivial⟩ <;> first | (simp only [ua, bY, nV, nW, k6, nX, nm, seval] <;> rfl) | rfl) ?_
            rintro tm ⟨k7, k8, k9, nY, _⟩
            obtain ⟨fB, vO, h⟩ := optI h kN
            try simp only [hs] at h
            simp only [vz, tyf, bY, k7, k8, k9, nY, nm, seval]
            refine ktA (nP _ _ vO) ?_
            refine aZ (fun tm => tm 10 = .lit (.int .i64 bW.2.1) ∧ tm 12 = .lit (.int .i64 d4.1) ∧ tm 13 = .lit (.int .i64 d4.2) ∧ tm 97 = .tup [.sl (aa eI fB.1) (List.length fB.1) false, .lit (.int .i64 fB.2.1), .lit (.int .i64 fB.2.2)] ∧ True) (by refine ⟨k7, k8, k9, ?_, trivial⟩ <;> first | (simp only [ua, bY, k7, k8, k9, nY, nm, seval] <;> rfl) | rfl) ?_
            rintro tm ⟨fC, fD, fE, fF, _⟩
            cases dS : (d4.2 == 0)
            ·simp only [dS, hs] at h
             try simp only [vz, tyf, bY, fC, fD, fE, fF, dS, nm, seval]
             obtain rfl := kF _ h
             exact aS Tryz.results15 rfl
            simp only [dS, hs] at h
            cases eJ : (fB.2.2 == 0)
            ·simp only [eJ, hs] at h
             try simp only [vz, tyf, bY, fC, fD, fE, fF, dS, eJ, nm, seval]
             obtain rfl := kF _ h
             exact aS Tryz.results15 rfl
            simp only [eJ, hs] at h
            cases fG : (d4.1 == fB.2.1)
            ·simp only [fG, hs] at h
             try simp only [vz, tyf, bY, fC, fD, fE, fF, dS, eJ, fG, nm, seval]
             obtain rfl := kF _ h
             exact aS Tryz.results15 rfl
            simp only [fG, hs] at h
            cases gx : (decide (d4.1 ≤ bW.2.1))
            ·simp only [gx, hs] at h
             try simp only [vz, tyf, bY, fC, fD, fE, fF, dS, eJ, fG, gx, nm, seval]
             obtain rfl := kF _ h
             exact aS Tryz.results15 rfl
            simp only [gx, hs] at h
            simp only [vz, tyf, bY, fC, fD, fE, fF, dS, eJ, fG, gx, nm, seval]
            refine ktree0 fv ?_
            try simp only [vz, tyf, bY, fC, fD, fE, fF, dS, eJ, fG, gx, nm, seval]
            obtain rfl := kF _ h
            exact aS Tryz.results15 rfl
           simp only [iI, hs] at h
           have nZ := And.intro dy (And.intro cV (And.intro dh (And.intro dz (And.intro dR (And.intro gw iI)))))
           simp only [vz, tyf, nZ, b2, b3, bH, bE, bp, br, nm, seval]
           refine ktree0 fv ?_
           try simp only [vz, tyf, nZ, b2, b3, bH, bE, bp, br, nm, seval]
           obtain rfl := kF _ h
           exact aS Tryz.results15 rfl
          simp only [gw, hs] at h
          try simp only [vz, tyf, dy, b2, b3, bH, bE, bp, br, cV, dh, dz, dR, gw, nm, seval]
          obtain rfl := kF _ h
          exact aS Tryz.results15 rfl
         simp only [dR, hs] at h
         cases gy : ((decide (bW.2.1 ≤ aq)) != (decide (ah ≥ dZ.1)))
         ·simp only [gy, hs] at h
          cases iJ : (ah == 3)
          ·simp only [iJ, hs] at h
           have bZ := And.intro dy (And.intro cV (And.intro dh (And.intro dz (And.intro dR (And.intro gy iJ)))))
           simp only [vz, tyf, bZ, b2, b3, bH, bE, bp, br, nm, seval]
           refine ktA (iC _ _ _ nO) ?_
           refine aZ (fun tm => tm 2 = .lit (.int .i64 ah) ∧ tm 3 = .ptr 0 0 ∧ tm 10 = .lit (.int .i64 bW.2.1) ∧ tm 88 = .agg (cGBk nN) ∧ True) (by refine ⟨b3, bH, ?_, ?_, trivial⟩ <;> first | (simp only [ua, bZ, b2, b3, bH, bE, bp, br, nm, seval] <;> rfl) | rfl) ?_
           rintro tm ⟨kA, kC, kD, oa, _⟩
           obtain ⟨d5, vP, h⟩ := optI h kN
           try simp only [hs] at h
           simp only [vz, tyf, bZ, kA, kC, kD, oa, nm, seval]
           refine ktA (rv _ _ vP) ?_
           refine aZ (fun tm => tm 2 = .lit (.int .i64 ah) ∧ tm 3 = .ptr 0 0 ∧ tm 10 = .lit (.int .i64 bW.2.1) ∧ tm 89 = .tup [.lit (.int .i64 d5.1), .lit (.int .i64 d5.2)] ∧ True) (by refine ⟨kA, kC, kD, ?_, trivial⟩ <;> first | (simp only [ua, bZ, kA, kC, kD, oa, nm, seval] <;> rfl) | rfl) ?_
           rintro tm ⟨oc, od, kE, oe, _⟩
           obtain ⟨vQ, vR, h⟩ := optI h kN
           try simp only [hs] at h
           simp only [vz, tyf, bZ, oc, od, kE, oe, nm, seval]
           refine ktA (iC _ _ _ vR) ?_
           refine aZ (fun tm => tm 10 = .lit (.int .i64 bW.2.1) ∧ tm 12 = .lit (.int .i64 d5.1) ∧ tm 13 = .lit (.int .i64 d5.2) ∧ tm 96 = .agg (cGBk vQ) ∧ True) (by refine ⟨kE, ?_, ?_, ?_, trivial⟩ <;> first | (simp only [ua, bZ, oc, od, kE, oe, nm, seval] <;> rfl) | rfl) ?_
           rintro tm ⟨kG, kH, kI, og, _⟩
           obtain ⟨fH, vS, h⟩ := optI h kN
           try simp only [hs] at h
           simp only [vz, tyf, bZ, kG, kH, kI, og, nm, seval]
           refine ktA (nP _ _ vS) ?_
           refine aZ (fun tm => tm 10 = .lit (.int .i64 bW.2.1) ∧ tm 12 = .lit (.int .i64 d5.1) ∧ tm 13 = .lit (.int .i64 d5.2) ∧ tm 97 = .tup [.sl (aa eI fH.1) (List.length fH.1) false, .lit (.int .i64 fH.2.1), .lit (.int .i64 fH.2.2)] ∧ True) (by refine ⟨kG, kH, kI, ?_, trivial⟩ <;> first | (simp only [ua, bZ, kG, kH, kI, og, nm, seval] <;> rfl) | rfl) ?_
           rintro tm ⟨fI, fJ, fK, fL, _⟩
           cases dT : (d5.2 == 0)
           ·simp only [dT, hs] at h
            try simp only [vz, tyf, bZ, fI, fJ, fK, fL, dT, nm, seval]
            obtain rfl := kF _ h
            exact aS Tryz.results15 rfl
           simp only [dT, hs] at h
           cases eK : (fH.2.2 == 0)
           ·simp only [eK, hs] at h
            try simp only [vz, tyf, bZ, fI, fJ, fK, fL, dT, eK, nm, seval]
            obtain rfl := kF _ h
            exact aS Tryz.results15 rfl
           simp only [eK, hs] at h
           cases fM : (d5.1 == fH.2.1)
           ·simp only [fM, hs] at h
            try simp only [vz, tyf, bZ, fI, fJ, fK, fL, dT, eK, fM, nm, seval]
            obtain rfl := kF _ h
            exact aS Tryz.results15 rfl
           simp only [fM, hs] at h
           cases gz : (decide (d5.1 ≤ bW.2.1))
           ·simp only [gz, hs] at h
            try simp only [vz, tyf, bZ, fI, fJ, fK, fL, dT, eK, fM, gz, nm, seval]
            obtain rfl := kF _ h
            exact aS Tryz.results15 rfl
           simp only [gz, hs] at h
           simp only [vz, tyf, bZ, fI, fJ, fK, fL, dT, eK, fM, gz, nm, seval]
           refine ktree0 fv ?_
           try simp only [vz, tyf, bZ, fI, fJ, fK, fL, dT, eK, fM, gz, nm, seval]
           obtain rfl := kF _ h
           exact aS Tryz.results15 rfl
          simp only [iJ, hs] at h
          have oh := And.intro dy (And.intro cV (And.intro dh (And.intro dz (And.intro dR (And.intro gy iJ)))))
          simp only [vz, tyf, oh, b2, b3, bH, bE, bp, br, nm, seval]
          refine ktree0 fv ?_
          try simp only [vz, tyf, oh, b2, b3, bH, bE, bp, br, nm, seval]
          obtain rfl := kF _ h
          exact aS Tryz.results15 rfl
         simp only [gy, hs] at h
         try simp only [vz, tyf, dy, b2, b3, bH, bE, bp, br, cV, dh, dz, dR, gy, nm, seval]
         obtain rfl := kF _ h
         exact aS Tryz.results15 rfl
        simp only [dz, hs] at h
        try simp only [vz, tyf, dy, b2, b3, bH, bE, bp, br, cV, dh, dz, nm, seval]
        obtain rfl := kF _ h
        exact aS Tryz.results15 rfl
       simp only [dh, hs] at h
       try simp only [vz, tyf, dy, b2, b3, bH, bE, bp, br, cV, dh, nm, seval]
       obtain rfl := kF _ h
       exact aS Tryz.results15 rfl
      simp only [cV, hs] at h
      try simp only [vz, tyf, dy, b2, b3, bH, bE, bp, br, cV, nm, seval]
      obtain rfl := kF _ h
      exact aS Tryz.results15 rfl
     simp only [nQ, hs] at h
     try simp only [vz, tyf, bL, bS, dO, bD, fw, b2, b3, bH, bE, bp, br, nQ, nm, seval]
     obtain rfl := kF _ h
     exact aS Tryz.results15 rfl
    simp only [fw, hs] at h
    simp only [vz, tyf, bw, bR, cw, cK, bL, bS, dO, bD, fw, nm, seval]
    refine ktree0 fv ?_
    try simp only [vz, tyf, bw, bR, cw, cK, bL, bS, dO, bD, fw, nm, seval]
    obtain rfl := kF _ h
    exact aS Tryz.results15 rfl
   simp only [bD, hs] at h
   simp only [vz, tyf, bw, bR, cw, cK, bL, bS, dO, bD, nm, seval]
   refine ktree0 fv ?_
   try simp only [vz, tyf, bw, bR, cw, cK, bL, bS, dO, bD, nm, seval]
   obtain rfl := kF _ h
   exact aS Tryz.results15 rfl
  simp only [dO, hs] at h
  simp only [vz, tyf, bw, bR, cw, cK, bL, bS, dO, nm, seval]
  refine ktree0 fv ?_
  try simp only [vz, tyf, bw, bR, cw, cK, bL, bS, dO, nm, seval]
  obtain rfl := kF _ h
  exact aS Tryz.results15 rfl
 simp only [bS, hs] at h
 simp only [vz, tyf, bw, bR, cw, cK, bL, bS, nm, seval]
 refine ktree0 fv ?_
 try simp only [vz, tyf, bw, bR, cw, cK, bL, bS, nm, seval]
 obtain rfl := kF _ h
 exact aS Tryz.results15 rfl
theorem om (b : GBk) (a : Int) : iA b a = some (wiB b a) := rfl
theorem Jn (b : GBk) (h a : Int) (hb : lenOk b.Boards = true ∧ lenOk b.Strokes = true ∧ ∀ y ∈ b.Strokes, lenOk y.Needs = true) : ru b h a = some true := by
 have hL := Len.of hb
 unfold ru
 rcases J5 hL with e | ⟨e, hB⟩
 ·rw [e]; rfl
 simp only [e, Option.bind_some, cond_true]
 by_cases h1 : h < 0
 ·rw [decide_eq_true h1]; rfl
 by_cases h2 : h > 60
 ·rw [decide_eq_false h1, decide_eq_true h2]; rfl
 by_cases h3 : a < 0
 ·rw [decide_eq_false h1, decide_eq_false h2, decide_eq_true h3]; rfl
 by_cases h4 : a > 3
 ·rw [decide_eq_false h1, decide_eq_false h2, decide_eq_false h3, decide_eq_true h4]; rfl
 obtain ⟨R, hR⟩ := oo b a
 obtain ⟨r, er, r0, r4, rmin, rok⟩ := E9 hB h 4 0 (Int.le_refl _) (by omega)
 have eL : nK b h = some (if r ≤ 3 then (r, 0) else (0, 5)) := by
  unfold nK rq
  rw [vT hL, kJ.2 hB, rz, show inB 0 60 h = true by rw [vU]; omega]
  simp only [Option.bind_some, cond_true, er]
  by_cases hr : r ≤ 3
  ·rw [decide_eq_true hr, if_pos hr]; rfl
  ·rw [decide_eq_false hr, if_neg hr]; rfl
 have hval : TK b R ≤ h ↔ r ≤ 3 ∧ r ≤ a := by
  constructor
  ·intro hh
   have : r ≤ a := by
    by_cases hra : r ≤ a
    ·exact hra
    ·exact absurd hh (rmin a (by omega) (by omega) R hR.2.1)
   exact ⟨by omega, this⟩
  ·rintro ⟨hr, hra⟩
   obtain ⟨p, hp, ht⟩ := rok hr
   have := hR.2.2 p (oq (by omega) hra hp)
   omega
 have next : cond (a == 3) (some true) (Option.bind (iB (wiB b a)) fun r5 => Option.bind (iA b (i64.wrap (a + 1))) fun r6 => Option.bind (hY r6) fun r7 => cond (r5.2 == 0) (cond (r7.2.2 == 0) (cond (r5.1 == r7.2.1) (cond (decide (r5.1 ≤ TK b R)) (some true) (some false)) (some false)) (some false)) (some false)) = some true := by
  by_cases EA : a = 3
  ·rw [show (a == 3) = true by simpa using EA]; rfl
  ·rw [show (a == 3) = false by simpa using EA, cond_false, fb (by omega) (by omega)]
   obtain ⟨R', hR'⟩ := oo b (a + 1)
   have hle : TK b R' ≤ TK b R := hR'.2.2 R (oq (by omega) (by omega) hR.2.1)
   rw [vV hL hB (by omega) (by omega) hR', om]
   simp only [Option.bind_some, ot hL hB (show 0 ≤ a + 1 by omega) (by omega) hR']
   rw [decide_eq_true hle]
   simp
 rw [decide_eq_false h1, decide_eq_false h2, decide_eq_false h3, decide_eq_false h4, eL, om]
 simp only [cond_false, Option.bind_some, ot hL hB (show 0 ≤ a by omega) (show a ≤ 3 by omega) hR]
 have z0 : ((0 : Int) != 0) = false := rfl
 have z5 : ((5 : Int) != 0) = true := rfl
 have J6 : ((5 : Int) != 5) = false := rfl
 have y0 : ((0 : Int) == 0) = true := rfl
 have y5 : ((5 : Int) == 0) = false := rfl
 have J7 : decide ((0 : Int) < 0) = false := rfl
 have J8 : decide ((0 : Int) > 3) = false := rfl
 by_cases hr : r ≤ 3
 ·rw [if_pos hr]
  have c1 : (decide (TK b R ≤ h) != decide (a ≥ r)) = false := by
   by_cases hra : r ≤ a
   ·rw [decide_eq_true (hval.2 ⟨hr, hra⟩), decide_eq_true (show a ≥ r from hra)]; rfl
   ·rw [decide_eq_false (fun hh => hra (hval.1 hh).2), decide_eq_false (show ¬ a ≥ r from hra)]; rfl
  simp only [z0, y0, cond_false, cond_true, decide_eq_false (show ¬ r < 0 by omega), decide_eq_false (show ¬ r > 3 by omega), c1]
  exact next
 ·rw [if_neg hr]
  have c1 : (decide (TK b R ≤ h) != false) = false := by
   rw [decide_eq_false (fun hh => hr (hval.1 hh).1)]; rfl
  simp only [z0, z5, J6, y5, J7, J8, cond_false, cond_true, c1]
  exact next
end Go.V
end
