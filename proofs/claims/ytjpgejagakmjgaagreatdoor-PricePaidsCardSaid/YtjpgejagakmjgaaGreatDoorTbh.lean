/- Part of a proof. -/
import Derived.Test.YtjpgejagakmjgaaGreatDoorTbg
import Derived.Test.YtjpgejagakmjgaaGreatDoorTay
import Derived.Test.YtjpgejagakmjgaaGreatDoorProg
set_option linter.all false
set_option maxRecDepth 4000
set_option maxHeartbeats 40000000
section
namespace Go.V
open Go Go.Proofs
theorem mixed : Tryz.prog.follows .mixedOrders = true := by kernel_rfl
structure GSpan where
 Low : Int
 High : Int
 deriving Inhabited, DecidableEq
def cGSpan (x : GSpan) : List VV := [.lit (.int .i64 x.Low), .lit (.int .i64 x.High)]
theorem zib {x : GSpan} : cGSpan x = [.lit (.int .i64 x.Low), .lit (.int .i64 x.High)] := rfl
theorem zap : EncOk cGSpan := EncOk.of (fun x => by simp only [zib, tre, Bool.and_self]) (fun x => by simp only [zib, nrm]) (fun x H d => by simp only [zib, nrm, List.map_cons, List.map_nil])
structure GPriceBoard where
 Letters : Int
 Feet : Int
 Hours : GSpan
 Owner : Int
 deriving Inhabited, DecidableEq
def cGPriceBoard (x : GPriceBoard) : List VV := [.lit (.int .i64 x.Letters), .lit (.int .i64 x.Feet), .lit (.int .i64 x.Hours.Low), .lit (.int .i64 x.Hours.High), .lit (.int .i64 x.Owner)]
theorem zei {x : GPriceBoard} : cGPriceBoard x = [.lit (.int .i64 x.Letters), .lit (.int .i64 x.Feet), .lit (.int .i64 x.Hours.Low), .lit (.int .i64 x.Hours.High), .lit (.int .i64 x.Owner)] := rfl
theorem zae : EncOk cGPriceBoard := EncOk.of (fun x => by simp only [zei, tre, zap.tree, zap.treeL, Bool.and_self]) (fun x => by simp only [zei, nrm, zap.norm, zap.normL, zap.shown, zap.showL]) (fun x H d => by simp only [zei, nrm, List.map_cons, List.map_nil])
structure GPriceTariff where
 Kind : Int
 Coins : Int
 Units : Int
 Rule : Int
 Each : Bool
 deriving Inhabited, DecidableEq
def cGPriceTariff (x : GPriceTariff) : List VV := [.lit (.int .i64 x.Kind), .lit (.int .i64 x.Coins), .lit (.int .i64 x.Units), .lit (.int .i64 x.Rule), .lit (.bool x.Each)]
theorem zea {x : GPriceTariff} : cGPriceTariff x = [.lit (.int .i64 x.Kind), .lit (.int .i64 x.Coins), .lit (.int .i64 x.Units), .lit (.int .i64 x.Rule), .lit (.bool x.Each)] := rfl
theorem zaf : EncOk cGPriceTariff := EncOk.of (fun x => by simp only [zea, tre, zap.tree, zap.treeL, zae.tree, zae.treeL, Bool.and_self]) (fun x => by simp only [zea, nrm, zap.norm, zap.normL, zap.shown, zap.showL, zae.norm, zae.normL, zae.shown, zae.showL]) (fun x H d => by simp only [zea, nrm, List.map_cons, List.map_nil])
structure GPriceSheet where
 Offs : List Int
 Boards : List GPriceBoard
 Tariffs : List GPriceTariff
 deriving Inhabited, DecidableEq
def cGPriceSheet (x : GPriceSheet) : List VV := [.sl (cellsL eI x.Offs) (List.length x.Offs) false, .sl (cellsL cGPriceBoard x.Boards) (List.length x.Boards) false, .sl (cellsL cGPriceTariff x.Tariffs) (List.length x.Tariffs) false]
theorem zeh {x : GPriceSheet} : cGPriceSheet x = [.sl (cellsL eI x.Offs) (List.length x.Offs) false, .sl (cellsL cGPriceBoard x.Boards) (List.length x.Boards) false, .sl (cellsL cGPriceTariff x.Tariffs) (List.length x.Tariffs) false] := rfl
theorem zag : EncOk cGPriceSheet := EncOk.of (fun x => by simp only [zeh, tre, zap.tree, zap.treeL, zae.tree, zae.treeL, zaf.tree, zaf.treeL, Bool.and_self]) (fun x => by simp only [zeh, nrm, zap.norm, zap.normL, zap.shown, zap.showL, zae.norm, zae.normL, zae.shown, zae.showL, zaf.norm, zaf.normL, zaf.shown, zaf.showL]) (fun x H d => by simp only [zeh, nrm, List.map_cons, List.map_nil])
structure Gpriceoffer where
 tariff : Int
 paid : Int
 deriving Inhabited, DecidableEq
def cGpriceoffer (x : Gpriceoffer) : List VV := [.lit (.int .i64 x.tariff), .lit (.int .i64 x.paid)]
theorem zfh {x : Gpriceoffer} : cGpriceoffer x = [.lit (.int .i64 x.tariff), .lit (.int .i64 x.paid)] := rfl
theorem zal : EncOk cGpriceoffer := EncOk.of (fun x => by simp only [zfh, tre, zap.tree, zap.treeL, zae.tree, zae.treeL, zaf.tree, zaf.treeL, zag.tree, zag.treeL, Bool.and_self]) (fun x => by simp only [zfh, nrm, zap.norm, zap.normL, zap.shown, zap.showL, zae.norm, zae.normL, zae.shown, zae.showL, zaf.norm, zaf.normL, zaf.shown, zaf.showL, zag.norm, zag.normL, zag.shown, zag.showL]) (fun x H d => by simp only [zfh, nrm, List.map_cons, List.map_nil])
structure GA2Int where
 a0 : Int
 a1 : Int
 deriving Inhabited, DecidableEq
def cGA2Int (x : GA2Int) : List VV := [.lit (.int .i64 x.a0), .lit (.int .i64 x.a1)]
theorem zjt {x : GA2Int} : cGA2Int x = [.lit (.int .i64 x.a0), .lit (.int .i64 x.a1)] := rfl
theorem zcc : EncOk cGA2Int := EncOk.of (fun x => by simp only [zjt, tre, zap.tree, zap.treeL, zae.tree, zae.treeL, zaf.tree, zaf.treeL, zag.tree, zag.treeL, zal.tree, zal.treeL, Bool.and_self]) (fun x => by simp only [zjt, nrm, zap.norm, zap.normL, zap.shown, zap.showL, zae.norm, zae.normL, zae.shown, zae.showL, zaf.norm, zaf.normL, zaf.shown, zaf.showL, zag.norm, zag.normL, zag.shown, zag.showL, zal.norm, zal.normL, zal.shown, zal.showL]) (fun x H d => by simp only [zjt, nrm, List.map_cons, List.map_nil])
structure Gpricebill where
 tariff : GPriceTariff
 quantity : Int
 deriving Inhabited, DecidableEq
def cGpricebill (x : Gpricebill) : List VV := [.lit (.int .i64 x.tariff.Kind), .lit (.int .i64 x.tariff.Coins), .lit (.int .i64 x.tariff.Units), .lit (.int .i64 x.tariff.Rule), .lit (.bool x.tariff.Each), .lit (.int .i64 x.quantity)]
theorem zfv {x : Gpricebill} : cGpricebill x = [.lit (.int .i64 x.tariff.Kind), .lit (.int .i64 x.tariff.Coins), .lit (.int .i64 x.tariff.Units), .lit (.int .i64 x.tariff.Rule), .lit (.bool x.tariff.Each), .lit (.int .i64 x.quantity)] := rfl
theorem zbr : EncOk cGpricebill := EncOk.of (fun x => by simp only [zfv, tre, zap.tree, zap.treeL, zae.tree, zae.treeL, zaf.tree, zaf.treeL, zag.tree, zag.treeL, zal.tree, zal.treeL, zcc.tree, zcc.treeL, Bool.and_self]) (fun x => by simp only [zfv, nrm, zap.norm, zap.normL, zap.shown, zap.showL, zae.norm, zae.normL, zae.shown, zae.showL, zaf.norm, zaf.normL, zaf.shown, zaf.showL, zag.norm, zag.normL, zag.shown, zag.showL, zal.norm, zal.normL, zal.shown, zal.showL, zcc.norm, zcc.normL, zcc.shown, zcc.showL]) (fun x H d => by simp only [zfv, nrm, List.map_cons, List.map_nil])
structure Gpriceexact where
 coins : Int
 units : Int
 deriving Inhabited, DecidableEq
def cGpriceexact (x : Gpriceexact) : List VV := [.lit (.int .i64 x.coins), .lit (.int .i64 x.units)]
theorem zfi {x : Gpriceexact} : cGpriceexact x = [.lit (.int .i64 x.coins), .lit (.int .i64 x.units)] := rfl
theorem zdo : EncOk cGpriceexact := EncOk.of (fun x => by simp only [zfi, tre, zap.tree, zap.treeL, zae.tree, zae.treeL, zaf.tree, zaf.treeL, zag.tree, zag.treeL, zal.tree, zal.treeL, zcc.tree, zcc.treeL, zbr.tree, zbr.treeL, Bool.and_self]) (fun x => by simp only [zfi, nrm, zap.norm, zap.normL, zap.shown, zap.showL, zae.norm, zae.normL, zae.shown, zae.showL, zaf.norm, zaf.normL, zaf.shown, zaf.showL, zag.norm, zag.normL, zag.shown, zag.showL, zal.norm, zal.normL, zal.shown, zal.showL, zcc.norm, zcc.normL, zcc.shown, zcc.showL, zbr.norm, zbr.normL, zbr.shown, zbr.showL]) (fun x H d => by simp only [zfi, nrm, List.map_cons, List.map_nil])
theorem zoq : EncOk (eSl eI) := EncOk.sl eI_ok
theorem ld2 {c : VV} {cs : List VV} : vload Tryz.prog 2 (c :: cs) = some c := by
 have h1 : aggT Tryz.prog 2 = some false := by kernel_rfl
 simp [vload, vpart, h1]
theorem sz2 : szT Tryz.prog 2 = some 1 := by kernel_rfl
theorem vzl2 : vzl Tryz.prog 2 = some [.lit (.int .i64 0)] := by kernel_rfl
theorem ld3 {c : VV} {cs : List VV} : vload Tryz.prog 3 (c :: cs) = some c := by
 have h1 : aggT Tryz.prog 3 = some false := by kernel_rfl
 simp [vload, vpart, h1]
theorem sz3 : szT Tryz.prog 3 = some 1 := by kernel_rfl
theorem vzl3 : vzl Tryz.prog 3 = some [.lit (.int .i64 0)] := by kernel_rfl
theorem ld4 {c : VV} {cs : List VV} : vload Tryz.prog 4 (c :: cs) = some c := by
 have h1 : aggT Tryz.prog 4 = some false := by kernel_rfl
 simp [vload, vpart, h1]
theorem sz4 : szT Tryz.prog 4 = some 1 := by kernel_rfl
theorem vzl4 : vzl Tryz.prog 4 = some [.lit (.bool false)] := by kernel_rfl
theorem ld9 {c : VV} {cs : List VV} : vload Tryz.prog 9 (c :: cs) = some c := by
 have h1 : aggT Tryz.prog 9 = some false := by kernel_rfl
 simp [vload, vpart, h1]
theorem sz9 : szT Tryz.prog 9 = some 1 := by kernel_rfl
theorem vzl9 : vzl Tryz.prog 9 = some [.lit (.string ⟨#[]⟩)] := by kernel_rfl
theorem ld22 {c : VV} {cs : List VV} : vload Tryz.prog 22 (c :: cs) = some c := by
 have h1 : aggT Tryz.prog 22 = some false := by kernel_rfl
 simp [vload, vpart, h1]
theorem sz22 : szT Tryz.prog 22 = some 1 := by kernel_rfl
theorem vzl22 : vzl Tryz.prog 22 = some [.lit (.slice none 0 0)] := by kernel_rfl
theorem len22 {H : Nat → Option VObj} {cs : List VV} {n : Nat} {f : Bool} : vlen Tryz.prog H 22 (.sl cs n f) = some (.lit (.int .i64 n)) := by simp [vlen, Tryz.underlying22, sls]
theorem lenN22 {H : Nat → Option VObj} : vlen Tryz.prog H 22 (.lit (.slice none 0 0)) = some (.lit (.int .i64 0)) := by simp [vlen, Tryz.underlying22, sls]
theorem lenR22 {H : Nat → Option VObj} {β off n w c : Nat} : vlen Tryz.prog H 22 (.ref β off n w c) = (match H β with | some (.cells _ cs) => if off ≤ cs.length then some (.lit (.int .i64 n)) else none | _ => none) := lenR Tryz.underlying22
theorem et22 : elemT Tryz.prog 22 = some 3 := by simp [elemT, Tryz.underlying22]
theorem ao22 : appOk Tryz.prog 22 = some (3, 1, 8) := by kernel_rfl
theorem tk22 {xs : List Int} : (cellsL eI xs).take (xs.length * 1) = cellsL eI xs := zjl (fun _ => rfl)
theorem lf22 : ∀ x : Int, leafL (eI x) = true := fun x => by simp only [eI_eq, zara, eB_eq, eS_eq, zarf, zbw, zbm, zzq, zwj, zof, zrf, zahj, Bool.and_self]
theorem zasa {a0 : VV} (h : leafL [a0] = true) : vbuildSlice Tryz.prog 22 1 [(0, a0)] = some ([a0], 1) := by
 have h2 : szT Tryz.prog 3 = some 1 := by kernel_rfl
 have h3 : vzero Tryz.prog 3 = some #[.int .i64 0] := by kernel_rfl
 simp only [zbm, zbw, Bool.and_true, Bool.and_eq_true] at h
 simp [vbuildSlice, Tryz.underlying22, h2, h3, vfill, vcells1, h, overwrite, vzeros, List.range_succ]
theorem zavg {a0 a1 : VV} (h : leafL [a0, a1] = true) : vbuildSlice Tryz.prog 22 2 [(0, a0), (1, a1)] = some ([a0, a1], 1) := by
 have h2 : szT Tryz.prog 3 = some 1 := by kernel_rfl
 have h3 : vzero Tryz.prog 3 = some #[.int .i64 0] := by kernel_rfl
 simp only [zbm, zbw, Bool.and_true, Bool.and_eq_true] at h
 simp [vbuildSlice, Tryz.underlying22, h2, h3, vfill, vcells1, h, overwrite, vzeros, List.range_succ]
theorem zaro {a0 a1 a2 : VV} (h : leafL [a0, a1, a2] = true) : vbuildSlice Tryz.prog 22 3 [(0, a0), (1, a1), (2, a2)] = some ([a0, a1, a2], 1) := by
 have h2 : szT Tryz.prog 3 = some 1 := by kernel_rfl
 have h3 : vzero Tryz.prog 3 = some #[.int .i64 0] := by kernel_rfl
 simp only [zbm, zbw, Bool.and_true, Bool.and_eq_true] at h
 simp [vbuildSlice, Tryz.underlying22, h2, h3, vfill, vcells1, h, overwrite, vzeros, List.range_succ]
theorem ix22 {H : Nat → Option VObj} {xs : List Int} {x : Int} {f : Bool} {k : IntKind} {i : Int} (h : getI xs i = some x) : vindexAddr Tryz.prog H 22 (.sl (cellsL eI xs) xs.length f) (.lit (.int k i)) = some (.tp (eI x ++ cellsL eI (xs.drop (i.toNat + 1)))) :=
 ixG Tryz.underlying22 (by kernel_rfl : szT Tryz.prog 3 = some 1) (by decide) (fun _ => rfl) h
theorem ld23 {c : VV} {cs : List VV} : vload Tryz.prog 23 (c :: cs) = some c := by
 have h1 : aggT Tryz.prog 23 = some false := by kernel_rfl
 simp [vload, vpart, h1]
theorem sz23 : szT Tryz.prog 23 = some 1 := by kernel_rfl
theorem vzl23 : vzl Tryz.prog 23 = some [.lit (.slice none 0 0)] := by kernel_rfl
theorem len23 {H : Nat → Option VObj} {cs : List VV} {n : Nat} {f : Bool} : vlen Tryz.prog H 23 (.sl cs n f) = some (.lit (.int .i64 n)) := by simp [vlen, Tryz.underlying23, sls]
theorem lenN23 {H : Nat → Option VObj} : vlen Tryz.prog H 23 (.lit (.slice none 0 0)) = some (.lit (.int .i64 0)) := by simp [vlen, Tryz.underlying23, sls]
theorem lenR23 {H : Nat → Option VObj} {β off n w c : Nat} : vlen Tryz.prog H 23 (.ref β off n w c) = (match H β with | some (.cells _ cs) => if off ≤ cs.length then some (.lit (.int .i64 n)) else none | _ => none) := lenR Tryz.underlying23
theorem et23 : elemT Tryz.prog 23 = some 75 := by simp [elemT, Tryz.underlying23]
theorem tk23 {xs : List GPriceBoard} : (cellsL cGPriceBoard xs).take (xs.length * 5) = cellsL cGPriceBoard xs := zjl (fun _ => rfl)
theorem ixo23 {xs : List GPriceBoard} {x : GPriceBoard} {i : Int} (h : getI xs i = some x) : (∀ (H : Nat → Option VObj) (β c : Nat) (k : IntKind), vindexAddr Tryz.prog H 23 (.ref β 0 xs.length 5 c) (.lit (.int k i)) = if (H β).isSome = true then some (.ptr β (i.toNat * 5)) else none) ∧ (cellsL cGPriceBoard xs).drop (i.toNat * 5) = cGPriceBoard x ++ cellsL cGPriceBoard (xs.drop (i.toNat + 1)) ∧ (i.toNat * 5 ≤ (cellsL cGPriceBoard xs).length) = True := ixO Tryz.underlying23 (by kernel_rfl : szT Tryz.prog 75 = some 5) (fun _ => rfl) h
theorem zarz {c0 c1 c2 c3 c4 : VV} (h : leafL [c0, c1, c2, c3, c4] = true) : vbuildSlice Tryz.prog 23 1 [(0, .agg [c0, c1, c2, c3, c4])] = some ([c0, c1, c2, c3, c4], 5) := by
 have h2 : szT Tryz.prog 75 = some 5 := by kernel_rfl
 have h3 : vzero Tryz.prog 75 = some #[.int .i64 0, .int .i64 0, .int .i64 0, .int .i64 0, .int .i64 0] := by kernel_rfl
 simp only [zbm, zbw, Bool.and_true, Bool.and_eq_true] at h
 simp [vbuildSlice, Tryz.underlying23, h2, h3, vfill, vcells, h, overwrite, vzeros]
theorem ix23 {H : Nat → Option VObj} {xs : List GPriceBoard} {x : GPriceBoard} {f : Bool} {k : IntKind} {i : Int} (h : getI xs i = some x) : vindexAddr Tryz.prog H 23 (.sl (cellsL cGPriceBoard xs) xs.length f) (.lit (.int k i)) = some (.tp (cGPriceBoard x ++ cellsL cGPriceBoard (xs.drop (i.toNat + 1)))) :=
 ixG Tryz.underlying23 (by kernel_rfl : szT Tryz.prog 75 = some 5) (by decide) (fun _ => rfl) h
theorem ld24 {c : VV} {cs : List VV} : vload Tryz.prog 24 (c :: cs) = some c := by
 have h1 : aggT Tryz.prog 24 = some false := by kernel_rfl
 simp [vload, vpart, h1]
theorem sz24 : szT Tryz.prog 24 = some 1 := by kernel_rfl
theorem vzl24 : vzl Tryz.prog 24 = some [.lit (.slice none 0 0)] := by kernel_rfl
theorem len24 {H : Nat → Option VObj} {cs : List VV} {n : Nat} {f : Bool} : vlen Tryz.prog H 24 (.sl cs n f) = some (.lit (.int .i64 n)) := by simp [vlen, Tryz.underlying24, sls]
theorem lenN24 {H : Nat → Option VObj} : vlen Tryz.prog H 24 (.lit (.slice none 0 0)) = some (.lit (.int .i64 0)) := by simp [vlen, Tryz.underlying24, sls]
theorem lenR24 {H : Nat → Option VObj} {β off n w c : Nat} : vlen Tryz.prog H 24 (.ref β off n w c) = (match H β with | some (.cells _ cs) => if off ≤ cs.length then some (.lit (.int .i64 n)) else none | _ => none) := lenR Tryz.underlying24
theorem et24 : elemT Tryz.prog 24 = some 42 := by simp [elemT, Tryz.underlying24]
theorem tk24 {xs : List GPriceTariff} : (cellsL cGPriceTariff xs).take (xs.length * 5) = cellsL cGPriceTariff xs := zjl (fun _ => rfl)
theorem zatt {c0 c1 c2 c3 c4 : VV} (h : leafL [c0, c1, c2, c3, c4] = true) : vbuildSlice Tryz.prog 24 1 [(0, .agg [c0, c1, c2, c3, c4])] = some ([c0, c1, c2, c3, c4], 5) := by
 have h2 : szT Tryz.prog 42 = some 5 := by kernel_rfl
 have h3 : vzero Tryz.prog 42 = some #[.int .i64 0, .int .i64 0, .int .i64 0, .int .i64 0, .bool false] := by kernel_rfl
 simp only [zbm, zbw, Bool.and_true, Bool.and_eq_true] at h
 simp [vbuildSlice, Tryz.underlying24, h2, h3, vfill, vcells, h, overwrite, vzeros]
theorem ix24 {H : Nat → Option VObj} {xs : List GPriceTariff} {x : GPriceTariff} {f : Bool} {k : IntKind} {i : Int} (h : getI xs i = some x) : vindexAddr Tryz.prog H 24 (.sl (cellsL cGPriceTariff xs) xs.length f) (.lit (.int k i)) = some (.tp (cGPriceTariff x ++ cellsL cGPriceTariff (xs.drop (i.toNat + 1)))) :=
 ixG Tryz.underlying24 (by kernel_rfl : szT Tryz.prog 42 = some 5) (by decide) (fun _ => rfl) h
theorem ld26 {c0 c1 c2 : VV} {cs : List VV} : vload Tryz.prog 26 (c0 :: c1 :: c2 :: cs) = some (.agg [c0, c1, c2]) := by
 have h1 : aggT Tryz.prog 26 = some true := by kernel_rfl
 have h2 : szT Tryz.prog 26 = some 3 := by kernel_rfl
 simp [vload, vpart, h1, h2]
theorem sz26 : szT Tryz.prog 26 = some 3 := by kernel_rfl
theorem vzl26 : vzl Tryz.prog 26 = some [.lit (.slice none 0 0), .lit (.slice none 0 0), .lit (.slice none 0 0)] := by kernel_rfl
theorem zaru {H : Nat → Option VObj} {cs : List VV} : vfieldAddr Tryz.prog H 26 (.tp cs) 0 = some (.tp (cs.drop 0)) := by
 have h2 : szT Tryz.prog 22 = some 1 := by kernel_rfl
 simp [vfieldAddr, Tryz.underlying26, h2]
theorem zasf {H : Nat → Option VObj} {β o : Nat} : vfieldAddr Tryz.prog H 26 (.ptr β o) 0 = if (H β).isSome = true then some (.ptr β (o + 0)) else none := by
 have h2 : szT Tryz.prog 22 = some 1 := by kernel_rfl
 simp [vfieldAddr, Tryz.underlying26, h2]
theorem zatn {c0 c1 c2 : VV} : vfield Tryz.prog 26 (.agg [c0, c1, c2]) 0 = some (c0) := by
 have h1 : aggT Tryz.prog 22 = some false := by kernel_rfl
 have h2 : szT Tryz.prog 22 = some 1 := by kernel_rfl
 simp [vfield, Tryz.underlying26, vpart, h1, h2]
theorem zarr {H : Nat → Option VObj} {cs : List VV} : vfieldAddr Tryz.prog H 26 (.tp cs) 1 = some (.tp (cs.drop 1)) := by
 have h2 : szT Tryz.prog 23 = some 1 := by kernel_rfl
 simp [vfieldAddr, Tryz.underlying26, h2]
theorem zavi {H : Nat → Option VObj} {β o : Nat} : vfieldAddr Tryz.prog H 26 (.ptr β o) 1 = if (H β).isSome = true then some (.ptr β (o + 1)) else none := by
 have h2 : szT Tryz.prog 23 = some 1 := by kernel_rfl
 simp [vfieldAddr, Tryz.underlying26, h2]
theorem zasu {c0 c1 c2 : VV} : vfield Tryz.prog 26 (.agg [c0, c1, c2]) 1 = some (c1) := by
 have h1 : aggT Tryz.prog 23 = some false := by kernel_rfl
 have h2 : szT Tryz.prog 23 = some 1 := by kernel_rfl
 simp [vfield, Tryz.underlying26, vpart, h1, h2]
theorem zatv {H : Nat → Option VObj} {cs : List VV} : vfieldAddr Tryz.prog H 26 (.tp cs) 2 = some (.tp (cs.drop 2)) := by
 have h2 : szT Tryz.prog 24 = some 1 := by kernel_rfl
 simp [vfieldAddr, Tryz.underlying26, h2]
theorem zatb {H : Nat → Option VObj} {β o : Nat} : vfieldAddr Tryz.prog H 26 (.ptr β o) 2 = if (H β).isSome = true then some (.ptr β (o + 2)) else none := by
 have h2 : szT Tryz.prog 24 = some 1 := by kernel_rfl
 simp [vfieldAddr, Tryz.underlying26, h2]
theorem zaua {c0 c1 c2 : VV} : vfield Tryz.prog 26 (.agg [c0, c1, c2]) 2 = some (c2) := by
 have h1 : aggT Tryz.prog 24 = some false := by kernel_rfl
 have h2 : szT Tryz.prog 24 = some 1 := by kernel_rfl
 simp [vfield, Tryz.underlying26, vpart, h1, h2]
theorem ld30 {c : VV} {cs : List VV} : vload Tryz.prog 30 (c :: cs) = some c := by
 have h1 : aggT Tryz.prog 30 = some false := by kernel_rfl
 simp [vload, vpart, h1]
theorem sz30 : szT Tryz.prog 30 = some 1 := by kernel_rfl
theorem vzl30 : vzl Tryz.prog 30 = some [.lit (.int .i64 0)] := by kernel_rfl
theorem ld33 {c0 c1 : VV} {cs : List VV} : vload Tryz.prog 33 (c0 :: c1 :: cs) = some (.agg [c0, c1]) := by
 have h1 : aggT Tryz.prog 33 = some true := by kernel_rfl
 have h2 : szT Tryz.prog 33 = some 2 := by kernel_rfl
 simp [vload, vpart, h1, h2]
theorem sz33 : szT Tryz.prog 33 = some 2 := by kernel_rfl
theorem vzl33 : vzl Tryz.prog 33 = some [.lit (.int .i64 0), .lit (.int .i64 0)] := by kernel_rfl
theorem zarv {H : Nat → Option VObj} {cs : List VV} : vfieldAddr Tryz.prog H 33 (.tp cs) 0 = some (.tp (cs.drop 0)) := by
 have h2 : szT Tryz.prog 3 = some 1 := by kernel_rfl
 simp [vfieldAddr, Tryz.underlying33, h2]
theorem zaud {H : Nat → Option VObj} {β o : Nat} : vfieldAddr Tryz.prog H 33 (.ptr β o) 0 = if (H β).isSome = true then some (.ptr β (o + 0)) else none := by
 have h2 : szT Tryz.prog 3 = some 1 := by kernel_rfl
 simp [vfieldAddr, Tryz.underlying33, h2]
theorem zauo {c0 c1 : VV} : vfield Tryz.prog 33 (.agg [c0, c1]) 0 = some (c0) := by
 have h1 : aggT Tryz.prog 3 = some false := by kernel_rfl
 have h2 : szT Tryz.prog 3 = some 1 := by kernel_rfl
 simp [vfield, Tryz.underlying33, vpart, h1, h2]
theorem zasb {H : Nat → Option VObj} {cs : List VV} : vfieldAddr Tryz.prog H 33 (.tp cs) 1 = some (.tp (cs.drop 1)) := by
 have h2 : szT Tryz.prog 3 = some 1 := by kernel_rfl
 simp [vfieldAddr, Tryz.underlying33, h2]
theorem zatp {H : Nat → Option VObj} {β o : Nat} : vfieldAddr Tryz.prog H 33 (.ptr β o) 1 = if (H β).isSome = true then some (.ptr β (o + 1)) else none := by
 have h2 : szT Tryz.prog 3 = some 1 := by kernel_rfl
 simp [vfieldAddr, Tryz.underlying33, h2]
theorem zatg {c0 c1 : VV} : vfield Tryz.prog 33 (.agg [c0, c1]) 1 = some (c1) := by
 have h1 : aggT Tryz.prog 3 = some false := by kernel_rfl
 have h2 : szT Tryz.prog 3 = some 1 := by kernel_rfl
 simp [vfield, Tryz.underlying33, vpart, h1, h2]
theorem ld39 {c : VV} {cs : List VV} : vload Tryz.prog 39 (c :: cs) = some c := by
 have h1 : aggT Tryz.prog 39 = some false := by kernel_rfl
 simp [vload, vpart, h1]
theorem sz39 : szT Tryz.prog 39 = some 1 := by kernel_rfl
theorem vzl39 : vzl Tryz.prog 39 = some [.lit (.int .i64 0)] := by kernel_rfl
theorem ld40 {c : VV} {cs : List VV} : vload Tryz.prog 40 (c :: cs) = some c := by
 have h1 : aggT Tryz.prog 40 = some false := by kernel_rfl
 simp [vload, vpart, h1]
theorem sz40 : szT Tryz.prog 40 = some 1 := by kernel_rfl
theorem vzl40 : vzl Tryz.prog 40 = some [.lit (.int .i64 0)] := by kernel_rfl
theorem ld42 {c0 c1 c2 c3 c4 : VV} {cs : List VV} : vload Tryz.prog 42 (c0 :: c1 :: c2 :: c3 :: c4 :: cs) = some (.agg [c0, c1, c2, c3, c4]) := by
 have h1 : aggT Tryz.prog 42 = some true := by kernel_rfl
 have h2 : szT Tryz.prog 42 = some 5 := by kernel_rfl
 simp [vload, vpart, h1, h2]
theorem sz42 : szT Tryz.prog 42 = some 5 := by kernel_rfl
theorem vzl42 : vzl Tryz.prog 42 = some [.lit (.int .i64 0), .lit (.int .i64 0), .lit (.int .i64 0), .lit (.int .i64 0), .lit (.bool false)] := by kernel_rfl
theorem zarn {H : Nat → Option VObj} {cs : List VV} : vfieldAddr Tryz.prog H 42 (.tp cs) 0 = some (.tp (cs.drop 0)) := by
 have h2 : szT Tryz.prog 39 = some 1 := by kernel_rfl
 simp [vfieldAddr, Tryz.underlying42, h2]
theorem zaun {H : Nat → Option VObj} {β o : Nat} : vfieldAddr Tryz.prog H 42 (.ptr β o) 0 = if (H β).isSome = true then some (.ptr β (o + 0)) else none := by
 have h2 : szT Tryz.prog 39 = some 1 := by kernel_rfl
 simp [vfieldAddr, Tryz.underlying42, h2]
theorem zavk {c0 c1 c2 c3 c4 : VV} : vfield Tryz.prog 42 (.agg [c0, c1, c2, c3, c4]) 0 = some (c0) := by
 have h1 : aggT Tryz.prog 39 = some false := by kernel_rfl
 have h2 : szT Tryz.prog 39 = some 1 := by kernel_rfl
 simp [vfield, Tryz.underlying42, vpart, h1, h2]
theorem zavc {H : Nat → Option VObj} {cs : List VV} : vfieldAddr Tryz.prog H 42 (.tp cs) 1 = some (.tp (cs.drop 1)) := by
 have h2 : szT Tryz.prog 3 = some 1 := by kernel_rfl
 simp [vfieldAddr, Tryz.underlying42, h2]
theorem zavd {H : Nat → Option VObj} {β o : Nat} : vfieldAddr Tryz.prog H 42 (.ptr β o) 1 = if (H β).isSome = true then some (.ptr β (o + 1)) else none := by
 have h2 : szT Tryz.prog 3 = some 1 := by kernel_rfl
 simp [vfieldAddr, Tryz.underlying42, h2]
theorem zatd {c0 c1 c2 c3 c4 : VV} : vfield Tryz.prog 42 (.agg [c0, c1, c2, c3, c4]) 1 = some (c1) := by
 have h1 : aggT Tryz.prog 3 = some false := by kernel_rfl
 have h2 : szT Tryz.prog 3 = some 1 := by kernel_rfl
 simp [vfield, Tryz.underlying42, vpart, h1, h2]
theorem zasn {H : Nat → Option VObj} {cs : List VV} : vfieldAddr Tryz.prog H 42 (.tp cs) 2 = some (.tp (cs.drop 2)) := by
 have h2 : szT Tryz.prog 3 = some 1 := by kernel_rfl
 simp [vfieldAddr, Tryz.underlying42, h2]
theorem zaso {H : Nat → Option VObj} {β o : Nat} : vfieldAddr Tryz.prog H 42 (.ptr β o) 2 = if (H β).isSome = true then some (.ptr β (o + 2)) else none := by
 have h2 : szT Tryz.prog 3 = some 1 := by kernel_rfl
 simp [vfieldAddr, Tryz.underlying42, h2]
theorem zavj {c0 c1 c2 c3 c4 : VV} : vfield Tryz.prog 42 (.agg [c0, c1, c2, c3, c4]) 2 = some (c2) := by
 have h1 : aggT Tryz.prog 3 = some false := by kernel_rfl
 have h2 : szT Tryz.prog 3 = some 1 := by kernel_rfl
 simp [vfield, Tryz.underlying42, vpart, h1, h2]
theorem zasp {H : Nat → Option VObj} {cs : List VV} : vfieldAddr Tryz.prog H 42 (.tp cs) 3 = some (.tp (cs.drop 3)) := by
 have h2 : szT Tryz.prog 40 = some 1 := by kernel_rfl
 simp [vfieldAddr, Tryz.underlying42, h2]
theorem zaug {H : Nat → Option VObj} {β o : Nat} : vfieldAddr Tryz.prog H 42 (.ptr β o) 3 = if (H β).isSome = true then some (.ptr β (o + 3)) else none := by
 have h2 : szT Tryz.prog 40 = some 1 := by kernel_rfl
 simp [vfieldAddr, Tryz.underlying42, h2]
theorem zauw {c0 c1 c2 c3 c4 : VV} : vfield Tryz.prog 42 (.agg [c0, c1, c2, c3, c4]) 3 = some (c3) := by
 have h1 : aggT Tryz.prog 40 = some false := by kernel_rfl
 have h2 : szT Tryz.prog 40 = some 1 := by kernel_rfl
 simp [vfield, Tryz.underlying42, vpart, h1, h2]
theorem zatf {H : Nat → Option VObj} {cs : List VV} : vfieldAddr Tryz.prog H 42 (.tp cs) 4 = some (.tp (cs.drop 4)) := by
 have h2 : szT Tryz.prog 4 = some 1 := by kernel_rfl
 simp [vfieldAddr, Tryz.underlying42, h2]
theorem zasd {H : Nat → Option VObj} {β o : Nat} : vfieldAddr Tryz.prog H 42 (.ptr β o) 4 = if (H β).isSome = true then some (.ptr β (o + 4)) else none := by
 have h2 : szT Tryz.prog 4 = some 1 := by kernel_rfl
 simp [vfieldAddr, Tryz.underlying42, h2]
theorem zasy {c0 c1 c2 c3 c4 : VV} : vfield Tryz.prog 42 (.agg [c0, c1, c2, c3, c4]) 4 = some (c4) := by
 have h1 : aggT Tryz.prog 4 = some false := by kernel_rfl
 have h2 : szT Tryz.prog 4 = some 1 := by kernel_rfl
 simp [vfield, Tryz.underlying42, vpart, h1, h2]
theorem ld53 {c : VV} {cs : List VV} : vload Tryz.prog 53 (c :: cs) = some c := by
 have h1 : aggT Tryz.prog 53 = some false := by kernel_rfl
 simp [vload, vpart, h1]
theorem sz53 : szT Tryz.prog 53 = some 1 := by kernel_rfl
theorem vzl53 : vzl Tryz.prog 53 = some [.lit (.int .i64 0)] := by kernel_rfl
theorem ld57 {c : VV} {cs : List VV} : vload Tryz.prog 57 (c :: cs) = some c := by
 have h1 : aggT Tryz.prog 57 = some false := by kernel_rfl
 simp [vload, vpart, h1]
theorem sz57 : szT Tryz.prog 57 = some 1 := by kernel_rfl
theorem vzl57 : vzl Tryz.prog 57 = some [.lit (.slice none 0 0)] := by kernel_rfl
theorem len57 {H : Nat → Option VObj} {cs : List VV} {n : Nat} {f : Bool} : vlen Tryz.prog H 57 (.sl cs n f) = some (.lit (.int .i64 n)) := by simp [vlen, Tryz.underlying57, sls]
theorem lenN57 {H : Nat → Option VObj} : vlen Tryz.prog H 57 (.lit (.slice none 0 0)) = some (.lit (.int .i64 0)) := by simp [vlen, Tryz.underlying57, sls]
theorem lenR57 {H : Nat → Option VObj} {β off n w c : Nat} : vlen Tryz.prog H 57 (.ref β off n w c) = (match H β with | some (.cells _ cs) => if off ≤ cs.length then some (.lit (.int .i64 n)) else none | _ => none) := lenR Tryz.underlying57
theorem et57 : elemT Tryz.prog 57 = some 22 := by simp [elemT, Tryz.underlying57]
theorem ao57 : appOk Tryz.prog 57 = some (22, 1, 24) := by kernel_rfl
theorem tk57 {xs : List (List Int)} : (cellsL (eSl eI) xs).take (xs.length * 1) = cellsL (eSl eI) xs := zjl (fun _ => rfl)
theorem ixo57 {xs : List (List Int)} {x : (List Int)} {i : Int} (h : getI xs i = some x) : (∀ (H : Nat → Option VObj) (β c : Nat) (k : IntKind), vindexAddr Tryz.prog H 57 (.ref β 0 xs.length 1 c) (.lit (.int k i)) = if (H β).isSome = true then some (.ptr β (i.toNat * 1)) else none) ∧ (cellsL (eSl eI) xs).drop (i.toNat * 1) = (eSl eI) x ++ cellsL (eSl eI) (xs.drop (i.toNat + 1)) ∧ (i.toNat * 1 ≤ (cellsL (eSl eI) xs).length) = True := ixO Tryz.underlying57 (by kernel_rfl : szT Tryz.prog 22 = some 1) (fun _ => rfl) h
theorem zatk {a0 : VV} (h : leafL [a0] = true) : vbuildSlice Tryz.prog 57 1 [(0, a0)] = some ([a0], 1) := by
 have h2 : szT Tryz.prog 22 = some 1 := by kernel_rfl
 have h3 : vzero Tryz.prog 22 = some #[.slice none 0 0] := by kernel_rfl
 simp only [zbm, zbw, Bool.and_true, Bool.and_eq_true] at h
 simp [vbuildSlice, Tryz.underlying57, h2, h3, vfill, vcells1, h, overwrite, vzeros, List.range_succ]
theorem zasq {a0 a1 : VV} (h : leafL [a0, a1] = true) : vbuildSlice Tryz.prog 57 2 [(0, a0), (1, a1)] = some ([a0, a1], 1) := by
 have h2 : szT Tryz.prog 22 = some 1 := by kernel_rfl
 have h3 : vzero Tryz.prog 22 = some #[.slice none 0 0] := by kernel_rfl
 simp only [zbm, zbw, Bool.and_true, Bool.and_eq_true] at h
 simp [vbuildSlice, Tryz.underlying57, h2, h3, vfill, vcells1, h, overwrite, vzeros, List.range_succ]
theorem zats {a0 a1 a2 : VV} (h : leafL [a0, a1, a2] = true) : vbuildSlice Tryz.prog 57 3 [(0, a0), (1, a1), (2, a2)] = some ([a0, a1, a2], 1) := by
 have h2 : szT Tryz.prog 22 = some 1 := by kernel_rfl
 have h3 : vzero Tryz.prog 22 = some #[.slice none 0 0] := by kernel_rfl
 simp only [zbm, zbw, Bool.and_true, Bool.and_eq_true] at h
 simp [vbuildSlice, Tryz.underlying57, h2, h3, vfill, vcells1, h, overwrite, vzeros, List.range_succ]
theorem ix57 {H : Nat → Option VObj} {xs : List (List Int)} {x : (List Int)} {f : Bool} {k : IntKind} {i : Int} (h : getI xs i = some x) : vindexAddr Tryz.prog H 57 (.sl (cellsL (eSl eI) xs) xs.length f) (.lit (.int k i)) = some (.tp ((eSl eI) x ++ cellsL (eSl eI) (xs.drop (i.toNat + 1)))) :=
 ixG Tryz.underlying57 (by kernel_rfl : szT Tryz.prog 22 = some 1) (by decide) (fun _ => rfl) h
theorem ld75 {c0 c1 c2 c3 c4 : VV} {cs : List VV} : vload Tryz.prog 75 (c0 :: c1 :: c2 :: c3 :: c4 :: cs) = some (.agg [c0, c1, c2, c3, c4]) := by
 have h1 : aggT Tryz.prog 75 = some true := by kernel_rfl
 have h2 : szT Tryz.prog 75 = some 5 := by kernel_rfl
 simp [vload, vpart, h1, h2]
theorem sz75 : szT Tryz.prog 75 = some 5 := by kernel_rfl
theorem vzl75 : vzl Tryz.prog 75 = some [.lit (.int .i64 0), .lit (.int .i64 0), .lit (.int .i64 0), .lit (.int .i64 0), .lit (.int .i64 0)] := by kernel_rfl
theorem zasj {H : Nat → Option VObj} {cs : List VV} : vfieldAddr Tryz.prog H 75 (.tp cs) 0 = some (.tp (cs.drop 0)) := by
 have h2 : szT Tryz.prog 3 = some 1 := by kernel_rfl
 simp [vfieldAddr, Tryz.underlying75, h2]
theorem zaul {H : Nat → Option VObj} {β o : Nat} : vfieldAddr Tryz.prog H 75 (.ptr β o) 0 = if (H β).isSome = true then some (.ptr β (o + 0)) else none := by
 have h2 : szT Tryz.prog 3 = some 1 := by kernel_rfl
 simp [vfieldAddr, Tryz.underlying75, h2]
theorem zaur {c0 c1 c2 c3 c4 : VV} : vfield Tryz.prog 75 (.agg [c0, c1, c2, c3, c4]) 0 = some (c0) := by
 have h1 : aggT Tryz.prog 3 = some false := by kernel_rfl
 have h2 : szT Tryz.prog 3 = some 1 := by kernel_rfl
 simp [vfield, Tryz.underlying75, vpart, h1, h2]
theorem zatc {H : Nat → Option VObj} {cs : List VV} : vfieldAddr Tryz.prog H 75 (.tp cs) 1 = some (.tp (cs.drop 1)) := by
 have h2 : szT Tryz.prog 3 = some 1 := by kernel_rfl
 simp [vfieldAddr, Tryz.underlying75, h2]
theorem zaue {H : Nat → Option VObj} {β o : Nat} : vfieldAddr Tryz.prog H 75 (.ptr β o) 1 = if (H β).isSome = true then some (.ptr β (o + 1)) else none := by
 have h2 : szT Tryz.prog 3 = some 1 := by kernel_rfl
 simp [vfieldAddr, Tryz.underlying75, h2]
theorem zauf {c0 c1 c2 c3 c4 : VV} : vfield Tryz.prog 75 (.agg [c0, c1, c2, c3, c4]) 1 = some (c1) := by
 have h1 : aggT Tryz.prog 3 = some false := by kernel_rfl
 have h2 : szT Tryz.prog 3 = some 1 := by kernel_rfl
 simp [vfield, Tryz.underlying75, vpart, h1, h2]
theorem zath {H : Nat → Option VObj} {cs : List VV} : vfieldAddr Tryz.prog H 75 (.tp cs) 2 = some (.tp (cs.drop 2)) := by
 have h2 : szT Tryz.prog 33 = some 2 := by kernel_rfl
 simp [vfieldAddr, Tryz.underlying75, h2]
theorem zaup {H : Nat → Option VObj} {β o : Nat} : vfieldAddr Tryz.prog H 75 (.ptr β o) 2 = if (H β).isSome = true then some (.ptr β (o + 2)) else none := by
 have h2 : szT Tryz.prog 33 = some 2 := by kernel_rfl
 simp [vfieldAddr, Tryz.underlying75, h2]
theorem zasv {c0 c1 c2 c3 c4 : VV} : vfield Tryz.prog 75 (.agg [c0, c1, c2, c3, c4]) 2 = some (.agg [c2, c3]) := by
 have h1 : aggT Tryz.prog 33 = some true := by kernel_rfl
 have h2 : szT Tryz.prog 33 = some 2 := by kernel_rfl
 simp [vfield, Tryz.underlying75, vpart, h1, h2]
theorem zary {H : Nat → Option VObj} {cs : List VV} : vfieldAddr Tryz.prog H 75 (.tp cs) 3 = some (.tp (cs.drop 4)) := by
 have h2 : szT Tryz.prog 3 = some 1 := by kernel_rfl
 simp [vfieldAddr, Tryz.underlying75, h2]
theorem zavh {H : Nat → Option VObj} {β o : Nat} : vfieldAddr Tryz.prog H 75 (.ptr β o) 3 = if (H β).isSome = true then some (.ptr β (o + 4)) else none := by
 have h2 : szT Tryz.prog 3 = some 1 := by kernel_rfl
 simp [vfieldAddr, Tryz.underlying75, h2]
theorem zash {c0 c1 c2 c3 c4 : VV} : vfield Tryz.prog 75 (.agg [c0, c1, c2, c3, c4]) 3 = some (c4) := by
 have h1 : aggT Tryz.prog 3 = some false := by kernel_rfl
 have h2 : szT Tryz.prog 3 = some 1 := by kernel_rfl
 simp [vfield, Tryz.underlying75, vpart, h1, h2]
theorem ld87 {c0 c1 c2 c3 c4 c5 c6 c7 c8 c9 : VV} {cs : List VV} : vload Tryz.prog 87 (c0 :: c1 :: c2 :: c3 :: c4 :: c5 :: c6 :: c7 :: c8 :: c9 :: cs) = some (.agg [c0, c1, c2, c3, c4, c5, c6, c7, c8, c9]) := by
 have h1 : aggT Tryz.prog 87 = some true := by kernel_rfl
 have h2 : szT Tryz.prog 87 = some 10 := by kernel_rfl
 simp [vload, vpart, h1, h2]
theorem sz87 : szT Tryz.prog 87 = some 10 := by kernel_rfl
theorem vzl87 : vzl Tryz.prog 87 = some [.lit (.slice none 0 0), .lit (.slice none 0 0), .lit (.slice none 0 0), .lit (.int .i64 0), .lit (.int .i64 0), .lit (.int .i64 0), .lit (.int .i64 0), .lit (.bool false), .lit (.slice none 0 0), .lit (.map none)] := by kernel_rfl
theorem zate {H : Nat → Option VObj} {cs : List VV} : vfieldAddr Tryz.prog H 87 (.tp cs) 0 = some (.tp (cs.drop 0)) := by
 have h2 : szT Tryz.prog 26 = some 3 := by kernel_rfl
 simp [vfieldAddr, Tryz.underlying87, h2]
theorem zave {H : Nat → Option VObj} {β o : Nat} : vfieldAddr Tryz.prog H 87 (.ptr β o) 0 = if (H β).isSome = true then some (.ptr β (o + 0)) else none := by
 have h2 : szT Tryz.prog 26 = some 3 := by kernel_rfl
 simp [vfieldAddr, Tryz.underlying87, h2]
theorem zauc {c0 c1 c2 c3 c4 c5 c6 c7 c8 c9 : VV} : vfield Tryz.prog 87 (.agg [c0, c1, c2, c3, c4, c5, c6, c7, c8, c9]) 0 = some (.agg [c0, c1, c2]) := by
 have h1 : aggT Tryz.prog 26 = some true := by kernel_rfl
 have h2 : szT Tryz.prog 26 = some 3 := by kernel_rfl
 simp [vfield, Tryz.underlying87, vpart, h1, h2]
theorem zasr {H : Nat → Option VObj} {cs : List VV} : vfieldAddr Tryz.prog H 87 (.tp cs) 1 = some (.tp (cs.drop 3)) := by
 have h2 : szT Tryz.prog 42 = some 5 := by kernel_rfl
 simp [vfieldAddr, Tryz.underlying87, h2]
theorem zaui {H : Nat → Option VObj} {β o : Nat} : vfieldAddr Tryz.prog H 87 (.ptr β o) 1 = if (H β).isSome = true then some (.ptr β (o + 3)) else none := by
 have h2 : szT Tryz.prog 42 = some 5 := by kernel_rfl
 simp [vfieldAddr, Tryz.underlying87, h2]
theorem zauq {c0 c1 c2 c3 c4 c5 c6 c7 c8 c9 : VV} : vfield Tryz.prog 87 (.agg [c0, c1, c2, c3, c4, c5, c6, c7, c8, c9]) 1 = some (.agg [c3, c4, c5, c6, c7]) := by
 have h1 : aggT Tryz.prog 42 = some true := by kernel_rfl
 have h2 : szT Tryz.prog 42 = some 5 := by kernel_rfl
 simp [vfield, Tryz.underlying87, vpart, h1, h2]
theorem zava {H : Nat → Option VObj} {cs : List VV} : vfieldAddr Tryz.prog H 87 (.tp cs) 2 = some (.tp (cs.drop 8)) := by
 have h2 : szT Tryz.prog 22 = some 1 := by kernel_rfl
 simp [vfieldAddr, Tryz.underlying87, h2]
theorem zaux {H : Nat → Option VObj} {β o : Nat} : vfieldAddr Tryz.prog H 87 (.ptr β o) 2 = if (H β).isSome = true then some (.ptr β (o + 8)) else none := by
 have h2 : szT Tryz.prog 22 = some 1 := by kernel_rfl
 simp [vfieldAddr, Tryz.underlying87, h2]
theorem zauy {c0 c1 c2 c3 c4 c5 c6 c7 c8 c9 : VV} : vfield Tryz.prog 87 (.agg [c0, c1, c2, c3, c4, c5, c6, c7, c8, c9]) 2 = some (c8) := by
 have h1 : aggT Tryz.prog 22 = some false := by kernel_rfl
 have h2 : szT Tryz.prog 22 = some 1 := by kernel_rfl
 simp [vfield, Tryz.underlying87, vpart, h1, h2]
theorem zast {H : Nat → Option VObj} {cs : List VV} : vfieldAddr Tryz.prog H 87 (.tp cs) 3 = some (.tp (cs.drop 9)) := by
 have h2 : szT Tryz.prog 85 = some 1 := by kernel_rfl
 simp [vfieldAddr, Tryz.underlying87, h2]
theorem zasw {H : Nat → Option VObj} {β o : Nat} : vfieldAddr Tryz.prog H 87 (.ptr β o) 3 = if (H β).isSome = true then some (.ptr β (o + 9)) else none := by
 have h2 : szT Tryz.prog 85 = some 1 := by kernel_rfl
 simp [vfieldAddr, Tryz.underlying87, h2]
theorem zauz {c0 c1 c2 c3 c4 c5 c6 c7 c8 c9 : VV} : vfield Tryz.prog 87 (.agg [c0, c1, c2, c3, c4, c5, c6, c7, c8, c9]) 3 = some (c9) := by
 have h1 : aggT Tryz.prog 85 = some false := by kernel_rfl
 have h2 : szT Tryz.prog 85 = some 1 := by kernel_rfl
 simp [vfield, Tryz.underlying87, vpart, h1, h2]
theorem ld104 {c0 c1 : VV} {cs : List VV} : vload Tryz.prog 104 (c0 :: c1 :: cs) = some (.agg [c0, c1]) := by
 have h1 : aggT Tryz.prog 104 = some true := by kernel_rfl
 have h2 : szT Tryz.prog 104 = some 2 := by kernel_rfl
 simp [vload, vpart, h1, h2]
theorem sz104 : szT Tryz.prog 104 = some 2 := by kernel_rfl
theorem vzl104 : vzl Tryz.prog 104 = some [.lit (.int .i64 0), .lit (.int .i64 0)] := by kernel_rfl
theorem zami {H : Nat → Option VObj} {cs : List VV} : vfieldAddr Tryz.prog H 104 (.tp cs) 0 = some (.tp (cs.drop 0)) := by
 have h2 : szT Tryz.prog 3 = some 1 := by kernel_rfl
 simp [vfieldAddr, Tryz.underlying104, h2]
theorem zamv {H : Nat → Option VObj} {β o : Nat} : vfieldAddr Tryz.prog H 104 (.ptr β o) 0 = if (H β).isSome = true then some (.ptr β (o + 0)) else none := by
 have h2 : szT Tryz.prog 3 = some 1 := by kernel_rfl
 simp [vfieldAddr, Tryz.underlying104, h2]
theorem zaoh {c0 c1 : VV} : vfield Tryz.prog 104 (.agg [c0, c1]) 0 = some (c0) := by
 have h1 : aggT Tryz.prog 3 = some false := by kernel_rfl
 have h2 : szT Tryz.prog 3 = some 1 := by kernel_rfl
 simp [vfield, Tryz.underlying104, vpart, h1, h2]
theorem zapw {H : Nat → Option VObj} {cs : List VV} : vfieldAddr Tryz.prog H 104 (.tp cs) 1 = some (.tp (cs.drop 1)) := by
 have h2 : szT Tryz.prog 3 = some 1 := by kernel_rfl
 simp [vfieldAddr, Tryz.underlying104, h2]
theorem zanz {H : Nat → Option VObj} {β o : Nat} : vfieldAddr Tryz.prog H 104 (.ptr β o) 1 = if (H β).isSome = true then some (.ptr β (o + 1)) else none := by
 have h2 : szT Tryz.prog 3 = some 1 := by kernel_rfl
 simp [vfieldAddr, Tryz.underlying104, h2]
theorem zaqa {c0 c1 : VV} : vfield Tryz.prog 104 (.agg [c0, c1]) 1 = some (c1) := by
 have h1 : aggT Tryz.prog 3 = some false := by kernel_rfl
 have h2 : szT Tryz.prog 3 = some 1 := by kernel_rfl
 simp [vfield, Tryz.underlying104, vpart, h1, h2]
theorem ld130 {c0 c1 : VV} {cs : List VV} : vload Tryz.prog 130 (c0 :: c1 :: cs) = some (.agg [c0, c1]) := by
 have h1 : aggT Tryz.prog 130 = some true := by kernel_rfl
 have h2 : szT Tryz.prog 130 = some 2 := by kernel_rfl
 simp [vload, vpart, h1, h2]
theorem sz130 : szT Tryz.prog 130 = some 2 := by kernel_rfl
theorem vzl130 : vzl Tryz.prog 130 = some [.lit (.int .i64 0), .lit (.int .i64 0)] := by kernel_rfl
theorem zamx {H : Nat → Option VObj} {β o : Nat} {k : IntKind} : vindexAddr Tryz.prog H 130 (.ptr β o) (.lit (.int k (0 : Int))) = if (H β).isSome = true then some (.ptr β (o + 0)) else none := by
 have h2 : szT Tryz.prog 3 = some 1 := by kernel_rfl
 simp [vindexAddr, Tryz.underlying130, h2]
theorem zalv {H : Nat → Option VObj} {cs : List VV} {k : IntKind} : vindexAddr Tryz.prog H 130 (.tp cs) (.lit (.int k (0 : Int))) = some (.tp (cs.drop 0)) := by
 have h2 : szT Tryz.prog 3 = some 1 := by kernel_rfl
 simp [vindexAddr, Tryz.underlying130, h2]
theorem zamn {c0 c1 : VV} {k : IntKind} : vindex Tryz.prog 130 (.agg [c0, c1]) (.lit (.int k (0 : Int))) = some (c0) := by
 have h1 : aggT Tryz.prog 3 = some false := by kernel_rfl
 have h2 : szT Tryz.prog 3 = some 1 := by kernel_rfl
 simp [vindex, Tryz.underlying130, vpart, h1, h2]
theorem zamp {H : Nat → Option VObj} {β o : Nat} {k : IntKind} : vindexAddr Tryz.prog H 130 (.ptr β o) (.lit (.int k (1 : Int))) = if (H β).isSome = true then some (.ptr β (o + 1)) else none := by
 have h2 : szT Tryz.prog 3 = some 1 := by kernel_rfl
 simp [vindexAddr, Tryz.underlying130, h2]
theorem zaly {H : Nat → Option VObj} {cs : List VV} {k : IntKind} : vindexAddr Tryz.prog H 130 (.tp cs) (.lit (.int k (1 : Int))) = some (.tp (cs.drop 1)) := by
 have h2 : szT Tryz.prog 3 = some 1 := by kernel_rfl
 simp [vindexAddr, Tryz.underlying130, h2]
theorem zaof {c0 c1 : VV} {k : IntKind} : vindex Tryz.prog 130 (.agg [c0, c1]) (.lit (.int k (1 : Int))) = some (c1) := by
 have h1 : aggT Tryz.prog 3 = some false := by kernel_rfl
 have h2 : szT Tryz.prog 3 = some 1 := by kernel_rfl
 simp [vindex, Tryz.underlying130, vpart, h1, h2]
theorem ld146 {c0 c1 c2 c3 c4 c5 : VV} {cs : List VV} : vload Tryz.prog 146 (c0 :: c1 :: c2 :: c3 :: c4 :: c5 :: cs) = some (.agg [c0, c1, c2, c3, c4, c5]) := by
 have h1 : aggT Tryz.prog 146 = some true := by kernel_rfl
 have h2 : szT Tryz.prog 146 = some 6 := by kernel_rfl
 simp [vload, vpart, h1, h2]
theorem sz146 : szT Tryz.prog 146 = some 6 := by kernel_rfl
theorem vzl146 : vzl Tryz.prog 146 = some [.lit (.int .i64 0), .lit (.int .i64 0), .lit (.int .i64 0), .lit (.int .i64 0), .lit (.bool false), .lit (.int .i64 0)] := by kernel_rfl
theorem zann {H : Nat → Option VObj} {cs : List VV} : vfieldAddr Tryz.prog H 146 (.tp cs) 0 = some (.tp (cs.drop 0)) := by
 have h2 : szT Tryz.prog 42 = some 5 := by kernel_rfl
 simp [vfieldAddr, Tryz.underlying146, h2]
theorem zanh {H : Nat → Option VObj} {β o : Nat} : vfieldAddr Tryz.prog H 146 (.ptr β o) 0 = if (H β).isSome = true then some (.ptr β (o + 0)) else none := by
 have h2 : szT Tryz.prog 42 = some 5 := by kernel_rfl
 simp [vfieldAddr, Tryz.underlying146, h2]
theorem zaob {c0 c1 c2 c3 c4 c5 : VV} : vfield Tryz.prog 146 (.agg [c0, c1, c2, c3, c4, c5]) 0 = some (.agg [c0, c1, c2, c3, c4]) := by
 have h1 : aggT Tryz.prog 42 = some true := by kernel_rfl
 have h2 : szT Tryz.prog 42 = some 5 := by kernel_rfl
 simp [vfield, Tryz.underlying146, vpart, h1, h2]
theorem zant {H : Nat → Option VObj} {cs : List VV} : vfieldAddr Tryz.prog H 146 (.tp cs) 1 = some (.tp (cs.drop 5)) := by
 have h2 : szT Tryz.prog 3 = some 1 := by kernel_rfl
 simp [vfieldAddr, Tryz.underlying146, h2]
theorem zaqo {H : Nat → Option VObj} {β o : Nat} : vfieldAddr Tryz.prog H 146 (.ptr β o) 1 = if (H β).isSome = true then some (.ptr β (o + 5)) else none := by
 have h2 : szT Tryz.prog 3 = some 1 := by kernel_rfl
 simp [vfieldAddr, Tryz.underlying146, h2]
theorem zaot {c0 c1 c2 c3 c4 c5 : VV} : vfield Tryz.prog 146 (.agg [c0, c1, c2, c3, c4, c5]) 1 = some (c5) := by
 have h1 : aggT Tryz.prog 3 = some false := by kernel_rfl
 have h2 : szT Tryz.prog 3 = some 1 := by kernel_rfl
 simp [vfield, Tryz.underlying146, vpart, h1, h2]
theorem ld148 {c0 c1 : VV} {cs : List VV} : vload Tryz.prog 148 (c0 :: c1 :: cs) = some (.agg [c0, c1]) := by
 have h1 : aggT Tryz.prog 148 = some true := by kernel_rfl
 have h2 : szT Tryz.prog 148 = some 2 := by kernel_rfl
 simp [vload, vpart, h1, h2]
theorem sz148 : szT Tryz.prog 148 = some 2 := by kernel_rfl
theorem vzl148 : vzl Tryz.prog 148 = some [.lit (.int .i64 0), .lit (.int .i64 0)] := by kernel_rfl
theorem zamc {H : Nat → Option VObj} {cs : List VV} : vfieldAddr Tryz.prog H 148 (.tp cs) 0 = some (.tp (cs.drop 0)) := by
 have h2 : szT Tryz.prog 3 = some 1 := by kernel_rfl
 simp [vfieldAddr, Tryz.underlying148, h2]
theorem zaqj {H : Nat → Option VObj} {β o : Nat} : vfieldAddr Tryz.prog H 148 (.ptr β o) 0 = if (H β).isSome = true then some (.ptr β (o + 0)) else none := by
 have h2 : szT Tryz.prog 3 = some 1 := by kernel_rfl
 simp [vfieldAddr, Tryz.underlying148, h2]
theorem zapc {c0 c1 : VV} : vfield Tryz.prog 148 (.agg [c0, c1]) 0 = some (c0) := by
 have h1 : aggT Tryz.prog 3 = some false := by kernel_rfl
 have h2 : szT Tryz.prog 3 = some 1 := by kernel_rfl
 simp [vfield, Tryz.underlying148, vpart, h1, h2]
theorem zalz {H : Nat → Option VObj} {cs : List VV} : vfieldAddr Tryz.prog H 148 (.tp cs) 1 = some (.tp (cs.drop 1)) := by
 have h2 : szT Tryz.prog 3 = some 1 := by kernel_rfl
 simp [vfieldAddr, Tryz.underlying148, h2]
theorem zamo {H : Nat → Option VObj} {β o : Nat} : vfieldAddr Tryz.prog H 148 (.ptr β o) 1 = if (H β).isSome = true then some (.ptr β (o + 1)) else none := by
 have h2 : szT Tryz.prog 3 = some 1 := by kernel_rfl
 simp [vfieldAddr, Tryz.underlying148, h2]
theorem zanw {c0 c1 : VV} : vfield Tryz.prog 148 (.agg [c0, c1]) 1 = some (c1) := by
 have h1 : aggT Tryz.prog 3 = some false := by kernel_rfl
 have h2 : szT Tryz.prog 3 = some 1 := by kernel_rfl
 simp [vfield, Tryz.underlying148, vpart, h1, h2]
theorem sz1 : szT Tryz.prog 1 = some 1 := by kernel_rfl
theorem ld1 {c : VV} {cs : List VV} : vload Tryz.prog 1 (c :: cs) = some c := by
 have h1 : aggT Tryz.prog 1 = some false := by kernel_rfl
 simp [vload, vpart, h1]
theorem vzl1 : vzl Tryz.prog 1 = some [.lit .nilFunc] := by kernel_rfl
theorem sz28 : szT Tryz.prog 28 = some 1 := by kernel_rfl
theorem ld28 {c : VV} {cs : List VV} : vload Tryz.prog 28 (c :: cs) = some c := by
 have h1 : aggT Tryz.prog 28 = some false := by kernel_rfl
 simp [vload, vpart, h1]
theorem vzl28 : vzl Tryz.prog 28 = some [.lit .nilFunc] := by kernel_rfl
theorem sz72 : szT Tryz.prog 72 = some 1 := by kernel_rfl
theorem ld72 {c : VV} {cs : List VV} : vload Tryz.prog 72 (c :: cs) = some c := by
 have h1 : aggT Tryz.prog 72 = some false := by kernel_rfl
 simp [vload, vpart, h1]
theorem vzl72 : vzl Tryz.prog 72 = some [.lit .nilFunc] := by kernel_rfl
theorem sz89 : szT Tryz.prog 89 = some 1 := by kernel_rfl
theorem ld89 {c : VV} {cs : List VV} : vload Tryz.prog 89 (c :: cs) = some c := by
 have h1 : aggT Tryz.prog 89 = some false := by kernel_rfl
 simp [vload, vpart, h1]
theorem vzl89 : vzl Tryz.prog 89 = some [.lit .nilFunc] := by kernel_rfl
theorem sz96 : szT Tryz.prog 96 = some 1 := by kernel_rfl
theorem ld96 {c : VV} {cs : List VV} : vload Tryz.prog 96 (c :: cs) = some c := by
 have h1 : aggT Tryz.prog 96 = some false := by kernel_rfl
 simp [vload, vpart, h1]
theorem vzl96 : vzl Tryz.prog 96 = some [.lit .nilFunc] := by kernel_rfl
theorem sz100 : szT Tryz.prog 100 = some 1 := by kernel_rfl
theorem ld100 {c : VV} {cs : List VV} : vload Tryz.prog 100 (c :: cs) = some c := by
 have h1 : aggT Tryz.prog 100 = some false := by kernel_rfl
 simp [vload, vpart, h1]
theorem vzl100 : vzl Tryz.prog 100 = some [.lit .nilFunc] := by kernel_rfl
theorem sz101 : szT Tryz.prog 101 = some 1 := by kernel_rfl
theorem ld101 {c : VV} {cs : List VV} : vload Tryz.prog 101 (c :: cs) = some c := by
 have h1 : aggT Tryz.prog 101 = some false := by kernel_rfl
 simp [vload, vpart, h1]
theorem vzl101 : vzl Tryz.prog 101 = some [.lit .nilFunc] := by kernel_rfl
theorem sz107 : szT Tryz.prog 107 = some 1 := by kernel_rfl
theorem ld107 {c : VV} {cs : List VV} : vload Tryz.prog 107 (c :: cs) = some c := by
 have h1 : aggT Tryz.prog 107 = some false := by kernel_rfl
 simp [vload, vpart, h1]
theorem vzl107 : vzl Tryz.prog 107 = some [.lit .nilFunc] := by kernel_rfl
theorem sz108 : szT Tryz.prog 108 = some 1 := by kernel_rfl
theorem ld108 {c : VV} {cs : List VV} : vload Tryz.prog 108 (c :: cs) = some c := by
 have h1 : aggT Tryz.prog 108 = some false := by kernel_rfl
 simp [vload, vpart, h1]
theorem vzl108 : vzl Tryz.prog 108 = some [.lit .nilFunc] := by kernel_rfl
theorem sz110 : szT Tryz.prog 110 = some 1 := by kernel_rfl
theorem ld110 {c : VV} {cs : List VV} : vload Tryz.prog 110 (c :: cs) = some c := by
 have h1 : aggT Tryz.prog 110 = some false := by kernel_rfl
 simp [vload, vpart, h1]
theorem vzl110 : vzl Tryz.prog 110 = some [.lit .nilFunc] := by kernel_rfl
theorem sz129 : szT Tryz.prog 129 = some 1 := by kernel_rfl
theorem ld129 {c : VV} {cs : List VV} : vload Tryz.prog 129 (c :: cs) = some c := by
 have h1 : aggT Tryz.prog 129 = some false := by kernel_rfl
 simp [vload, vpart, h1]
theorem vzl129 : vzl Tryz.prog 129 = some [.lit .nilFunc] := by kernel_rfl
theorem sz153 : szT Tryz.prog 153 = some 1 := by kernel_rfl
theorem ld153 {c : VV} {cs : List VV} : vload Tryz.prog 153 (c :: cs) = some c := by
 have h1 : aggT Tryz.prog 153 = some false := by kernel_rfl
 simp [vload, vpart, h1]
theorem vzl153 : vzl Tryz.prog 153 = some [.lit .nilFunc] := by kernel_rfl
theorem sz155 : szT Tryz.prog 155 = some 1 := by kernel_rfl
theorem ld155 {c : VV} {cs : List VV} : vload Tryz.prog 155 (c :: cs) = some c := by
 have h1 : aggT Tryz.prog 155 = some false := by kernel_rfl
 simp [vload, vpart, h1]
theorem vzl155 : vzl Tryz.prog 155 = some [.lit .nilFunc] := by kernel_rfl
theorem sz171 : szT Tryz.prog 171 = some 4 := by kernel_rfl
theorem vzl171 : vzl Tryz.prog 171 = some [.lit .nilFunc, .lit .nilFunc, .lit .nilFunc, .lit .nilFunc] := by kernel_rfl
theorem ld171 {c0 c1 c2 c3 : VV} {cs : List VV} : vload Tryz.prog 171 (c0 :: c1 :: c2 :: c3 :: cs) = some (.agg [c0, c1, c2, c3]) := by
 have h1 : aggT Tryz.prog 171 = some true := by kernel_rfl
 have h2 : szT Tryz.prog 171 = some 4 := by kernel_rfl
 simp [vload, vpart, h1, h2]
theorem zapy {c0 c1 c2 c3 : VV} {k : IntKind} : vindex Tryz.prog 171 (.agg [c0, c1, c2, c3]) (.lit (.int k 0)) = some c0 := by
 have h1 : aggT Tryz.prog 89 = some false := by kernel_rfl
 have h2 : szT Tryz.prog 89 = some 1 := by kernel_rfl
 simp [vindex, Tryz.underlying171, vpart, h1, h2]
theorem zagv {H : Nat → Option VObj} {β o : Nat} {k : IntKind} : vindexAddr Tryz.prog H 171 (.ptr β o) (.lit (.int k 0)) = if (H β).isSome = true then some (.ptr β (o + 0)) else none := by
 have h2 : szT Tryz.prog 89 = some 1 := by kernel_rfl
 simp [vindexAddr, Tryz.underlying171, h2]
theorem zxh {H : Nat → Option VObj} {β o : Nat} {k : IntKind} {i : Int} (h : (i == 0) = true) : vindexAddr Tryz.prog H 171 (.ptr β o) (.lit (.int k i)) = if (H β).isSome = true then some (.ptr β (o + 0)) else none := by
 obtain rfl : i = 0 := by simpa using h
 exact zagv
theorem zaqh {c0 c1 c2 c3 : VV} {k : IntKind} : vindex Tryz.prog 171 (.agg [c0, c1, c2, c3]) (.lit (.int k 1)) = some c1 := by
 have h1 : aggT Tryz.prog 89 = some false := by kernel_rfl
 have h2 : szT Tryz.prog 89 = some 1 := by kernel_rfl
 simp [vindex, Tryz.underlying171, vpart, h1, h2]
theorem zaht {H : Nat → Option VObj} {β o : Nat} {k : IntKind} : vindexAddr Tryz.prog H 171 (.ptr β o) (.lit (.int k 1)) = if (H β).isSome = true then some (.ptr β (o + 1)) else none := by
 have h2 : szT Tryz.prog 89 = some 1 := by kernel_rfl
 simp [vindexAddr, Tryz.underlying171, h2]
theorem zvg {H : Nat → Option VObj} {β o : Nat} {k : IntKind} {i : Int} (h : (i == 1) = true) : vindexAddr Tryz.prog H 171 (.ptr β o) (.lit (.int k i)) = if (H β).isSome = true then some (.ptr β (o + 1)) else none := by
 obtain rfl : i = 1 := by simpa using h
 exact zaht
theorem zanu {c0 c1 c2 c3 : VV} {k : IntKind} : vindex Tryz.prog 171 (.agg [c0, c1, c2, c3]) (.lit (.int k 2)) = some c2 := by
 have h1 : aggT Tryz.prog 89 = some false := by kernel_rfl
 have h2 : szT Tryz.prog 89 = some 1 := by kernel_rfl
 simp [vindex, Tryz.underlying171, vpart, h1, h2]
theorem zaho {H : Nat → Option VObj} {β o : Nat} {k : IntKind} : vindexAddr Tryz.prog H 171 (.ptr β o) (.lit (.int k 2)) = if (H β).isSome = true then some (.ptr β (o + 2)) else none := by
 have h2 : szT Tryz.prog 89 = some 1 := by kernel_rfl
 simp [vindexAddr, Tryz.underlying171, h2]
theorem zwv {H : Nat → Option VObj} {β o : Nat} {k : IntKind} {i : Int} (h : (i == 2) = true) : vindexAddr Tryz.prog H 171 (.ptr β o) (.lit (.int k i)) = if (H β).isSome = true then some (.ptr β (o + 2)) else none := by
 obtain rfl : i = 2 := by simpa using h
 exact zaho
theorem zanm {c0 c1 c2 c3 : VV} {k : IntKind} : vindex Tryz.prog 171 (.agg [c0, c1, c2, c3]) (.lit (.int k 3)) = some c3 := by
 have h1 : aggT Tryz.prog 89 = some false := by kernel_rfl
 have h2 : szT Tryz.prog 89 = some 1 := by kernel_rfl
 simp [vindex, Tryz.underlying171, vpart, h1, h2]
theorem zagz {H : Nat → Option VObj} {β o : Nat} {k : IntKind} : vindexAddr Tryz.prog H 171 (.ptr β o) (.lit (.int k 3)) = if (H β).isSome = true then some (.ptr β (o + 3)) else none := by
 have h2 : szT Tryz.prog 89 = some 1 := by kernel_rfl
 simp [vindexAddr, Tryz.underlying171, h2]
theorem zvf {H : Nat → Option VObj} {β o : Nat} {k : IntKind} {i : Int} (h : (i == 3) = true) : vindexAddr Tryz.prog H 171 (.ptr β o) (.lit (.int k i)) = if (H β).isSome = true then some (.ptr β (o + 3)) else none := by
 obtain rfl : i = 3 := by simpa using h
 exact zagz
theorem sz176 : szT Tryz.prog 176 = some 4 := by kernel_rfl
theorem vzl176 : vzl Tryz.prog 176 = some [.lit .nilIface, .lit .nilIface, .lit .nilIface, .lit .nilIface] := by kernel_rfl
theorem ld176 {c0 c1 c2 c3 : VV} {cs : List VV} : vload Tryz.prog 176 (c0 :: c1 :: c2 :: c3 :: cs) = some (.agg [c0, c1, c2, c3]) := by
 have h1 : aggT Tryz.prog 176 = some true := by kernel_rfl
 have h2 : szT Tryz.prog 176 = some 4 := by kernel_rfl
 simp [vload, vpart, h1, h2]
theorem zaon {c0 c1 c2 c3 : VV} {k : IntKind} : vindex Tryz.prog 176 (.agg [c0, c1, c2, c3]) (.lit (.int k 0)) = some c0 := by
 have h1 : aggT Tryz.prog 151 = some false := by kernel_rfl
 have h2 : szT Tryz.prog 151 = some 1 := by kernel_rfl
 simp [vindex, Tryz.underlying176, vpart, h1, h2]
theorem zard {H : Nat → Option VObj} {β o : Nat} {k : IntKind} : vindexAddr Tryz.prog H 176 (.ptr β o) (.lit (.int k 0)) = if (H β).isSome = true then some (.ptr β (o + 0)) else none := by
 have h2 : szT Tryz.prog 151 = some 1 := by kernel_rfl
 simp [vindexAddr, Tryz.underlying176, h2]
theorem zapx {c0 c1 c2 c3 : VV} {k : IntKind} : vindex Tryz.prog 176 (.agg [c0, c1, c2, c3]) (.lit (.int k 1)) = some c1 := by
 have h1 : aggT Tryz.prog 151 = some false := by kernel_rfl
 have h2 : szT Tryz.prog 151 = some 1 := by kernel_rfl
 simp [vindex, Tryz.underlying176, vpart, h1, h2]
theorem zaox {H : Nat → Option VObj} {β o : Nat} {k : IntKind} : vindexAddr Tryz.prog H 176 (.ptr β o) (.lit (.int k 1)) = if (H β).isSome = true then some (.ptr β (o + 1)) else none := by
 have h2 : szT Tryz.prog 151 = some 1 := by kernel_rfl
 simp [vindexAddr, Tryz.underlying176, h2]
theorem zaqt {c0 c1 c2 c3 : VV} {k : IntKind} : vindex Tryz.prog 176 (.agg [c0, c1, c2, c3]) (.lit (.int k 2)) = some c2 := by
 have h1 : aggT Tryz.prog 151 = some false := by kernel_rfl
 have h2 : szT Tryz.prog 151 = some 1 := by kernel_rfl
 simp [vindex, Tryz.underlying176, vpart, h1, h2]
theorem zaqy {H : Nat → Option VObj} {β o : Nat} {k : IntKind} : vindexAddr Tryz.prog H 176 (.ptr β o) (.lit (.int k 2)) = if (H β).isSome = true then some (.ptr β (o + 2)) else none := by
 have h2 : szT Tryz.prog 151 = some 1 := by kernel_rfl
 simp [vindexAddr, Tryz.underlying176, h2]
theorem zaqf {c0 c1 c2 c3 : VV} {k : IntKind} : vindex Tryz.prog 176 (.agg [c0, c1, c2, c3]) (.lit (.int k 3)) = some c3 := by
 have h1 : aggT Tryz.prog 151 = some false := by kernel_rfl
 have h2 : szT Tryz.prog 151 = some 1 := by kernel_rfl
 simp [vindex, Tryz.underlying176, vpart, h1, h2]
theorem zari {H : Nat → Option VObj} {β o : Nat} {k : IntKind} : vindexAddr Tryz.prog H 176 (.ptr β o) (.lit (.int k 3)) = if (H β).isSome = true then some (.ptr β (o + 3)) else none := by
 have h2 : szT Tryz.prog 151 = some 1 := by kernel_rfl
 simp [vindexAddr, Tryz.underlying176, h2]
theorem vb33 : vbuild Tryz.prog 33 [] = some (.agg [.lit (.int .i64 0), .lit (.int .i64 0)]) := by
 rw [zfl vzl33 (by kernel_rfl)]
 rfl
theorem zalc {x0_0 x1_0 : VV} (h : leafL [x0_0, x1_0] = true) : vbuild Tryz.prog 33 [(0, x0_0), (1, x1_0)] = some (.agg [x0_0, x1_0]) := by
 have p0 : placeT Tryz.prog 33 0 = some (0, 1) := by kernel_rfl
 have p1 : placeT Tryz.prog 33 1 = some (1, 1) := by kernel_rfl
 simp only [zbm, zbw, Bool.and_true, Bool.and_eq_true] at h
 rw [zfl vzl33 (by kernel_rfl)]
 simp [vfill, p0, p1, vcells1, h, overwrite]
theorem ztz {x0_0 x1_0 x2_0 x2_1 x3_0 : VV} (h : leafL [x0_0, x1_0, x2_0, x2_1, x3_0] = true) : vbuild Tryz.prog 75 [(0, x0_0), (1, x1_0), (2, .agg [x2_0, x2_1]), (3, x3_0)] = some (.agg [x0_0, x1_0, x2_0, x2_1, x3_0]) := by
 have p0 : placeT Tryz.prog 75 0 = some (0, 1) := by kernel_rfl
 have p1 : placeT Tryz.prog 75 1 = some (1, 1) := by kernel_rfl
 have p2 : placeT Tryz.prog 75 2 = some (2, 2) := by kernel_rfl
 have p3 : placeT Tryz.prog 75 3 = some (4, 1) := by kernel_rfl
 simp only [zbm, zbw, Bool.and_true, Bool.and_eq_true] at h
 have q2 : vcells (.agg [x2_0, x2_1]) = some [x2_0, x2_1] := by rw [zhu]; simp [zbm, zbw, h]
 rw [zfl vzl75 (by kernel_rfl)]
 simp [vfill, p0, p1, p2, p3, vcells1, h, overwrite, q2]
theorem ztl {x0_0 x0_1 x0_2 x1_0 x1_1 x1_2 x1_3 x1_4 x2_0 x3_0 : VV} (h : leafL [x0_0, x0_1, x0_2, x1_0, x1_1, x1_2, x1_3, x1_4, x2_0, x3_0] = true) : vbuild Tryz.prog 87 [(0, .agg [x0_0, x0_1, x0_2]), (1, .agg [x1_0, x1_1, x1_2, x1_3, x1_4]), (2, x2_0), (3, x3_0)] = some (.agg [x0_0, x0_1, x0_2, x1_0, x1_1, x1_2, x1_3, x1_4, x2_0, x3_0]) := by
 have p0 : placeT Tryz.prog 87 0 = some (0, 3) := by kernel_rfl
 have p1 : placeT Tryz.prog 87 1 = some (3, 5) := by kernel_rfl
 have p2 : placeT Tryz.prog 87 2 = some (8, 1) := by kernel_rfl
 have p3 : placeT Tryz.prog 87 3 = some (9, 1) := by kernel_rfl
 simp only [zbm, zbw, Bool.and_true, Bool.and_eq_true] at h
 have q0 : vcells (.agg [x0_0, x0_1, x0_2]) = some [x0_0, x0_1, x0_2] := by rw [zhu]; simp [zbm, zbw, h]
 have q1 : vcells (.agg [x1_0, x1_1, x1_2, x1_3, x1_4]) = some [x1_0, x1_1, x1_2, x1_3, x1_4] := by rw [zhu]; simp [zbm, zbw, h]
 rw [zfl vzl87 (by kernel_rfl)]
 simp [vfill, p0, p1, p2, p3, vcells1, h, overwrite, q0, q1]
theorem zaeg {x0_0 x1_0 : VV} (h : leafL [x0_0, x1_0] = true) : vbuild Tryz.prog 104 [(0, x0_0), (1, x1_0)] = some (.agg [x0_0, x1_0]) := by
 have p0 : placeT Tryz.prog 104 0 = some (0, 1) := by kernel_rfl
 have p1 : placeT Tryz.prog 104 1 = some (1, 1) := by kernel_rfl
 simp only [zbm, zbw, Bool.and_true, Bool.and_eq_true] at h
 rw [zfl vzl104 (by kernel_rfl)]
 simp [vfill, p0, p1, vcells1, h, overwrite]
theorem zado {x0_0 x1_0 : VV} (h : leafL [x0_0, x1_0] = true) : vbuild Tryz.prog 130 [(0, x0_0), (1, x1_0)] = some (.agg [x0_0, x1_0]) := by
 have p0 : placeT Tryz.prog 130 0 = some (0, 1) := by kernel_rfl
 have p1 : placeT Tryz.prog 130 1 = some (1, 1) := by kernel_rfl
 simp only [zbm, zbw, Bool.and_true, Bool.and_eq_true] at h
 rw [zfl vzl130 (by kernel_rfl)]
 simp [vfill, p0, p1, vcells1, h, overwrite]
theorem vb134 : vbuild Tryz.prog 134 [] = some (.agg []) := by kernel_rfl
theorem sz134 : szT Tryz.prog 134 = some 0 := by kernel_rfl
theorem vzl134 : vzl Tryz.prog 134 = some [] := by kernel_rfl
theorem ld134 {cs : List VV} : vload Tryz.prog 134 cs = some (.agg []) := by
 have h1 : aggT Tryz.prog 134 = some true := by kernel_rfl
 have h2 : szT Tryz.prog 134 = some 0 := by kernel_rfl
 simp [vload, vpart, h1, h2]
theorem zagj {x0_0 x0_1 x0_2 x0_3 x0_4 x1_0 : VV} (h : leafL [x0_0, x0_1, x0_2, x0_3, x0_4, x1_0] = true) : vbuild Tryz.prog 146 [(0, .agg [x0_0, x0_1, x0_2, x0_3, x0_4]), (1, x1_0)] = some (.agg [x0_0, x0_1, x0_2, x0_3, x0_4, x1_0]) := by
 have p0 : placeT Tryz.prog 146 0 = some (0, 5) := by kernel_rfl
 have p1 : placeT Tryz.prog 146 1 = some (5, 1) := by kernel_rfl
 simp only [zbm, zbw, Bool.and_true, Bool.and_eq_true] at h
 have q0 : vcells (.agg [x0_0, x0_1, x0_2, x0_3, x0_4]) = some [x0_0, x0_1, x0_2, x0_3, x0_4] := by rw [zhu]; simp [zbm, zbw, h]
 rw [zfl vzl146 (by kernel_rfl)]
 simp [vfill, p0, p1, vcells1, h, overwrite, q0]
theorem zady {x0_0 x1_0 : VV} (h : leafL [x0_0, x1_0] = true) : vbuild Tryz.prog 148 [(0, x0_0), (1, x1_0)] = some (.agg [x0_0, x1_0]) := by
 have p0 : placeT Tryz.prog 148 0 = some (0, 1) := by kernel_rfl
 have p1 : placeT Tryz.prog 148 1 = some (1, 1) := by kernel_rfl
 simp only [zbm, zbw, Bool.and_true, Bool.and_eq_true] at h
 rw [zfl vzl148 (by kernel_rfl)]
 simp [vfill, p0, p1, vcells1, h, overwrite]
theorem zsm {x0_0 x1_0 x2_0 x3_0 : VV} (h : leafL [x0_0, x1_0, x2_0, x3_0] = true) : vbuild Tryz.prog 171 [(0, x0_0), (1, x1_0), (2, x2_0), (3, x3_0)] = some (.agg [x0_0, x1_0, x2_0, x3_0]) := by
 have p0 : placeT Tryz.prog 171 0 = some (0, 1) := by kernel_rfl
 have p1 : placeT Tryz.prog 171 1 = some (1, 1) := by kernel_rfl
 have p2 : placeT Tryz.prog 171 2 = some (2, 1) := by kernel_rfl
 have p3 : placeT Tryz.prog 171 3 = some (3, 1) := by kernel_rfl
 simp only [zbm, zbw, Bool.and_true, Bool.and_eq_true] at h
 rw [zfl vzl171 (by kernel_rfl)]
 simp [vfill, p0, p1, p2, p3, vcells1, h, overwrite]
theorem vb172 : vbuild Tryz.prog 172 [] = some (.agg []) := by kernel_rfl
theorem sz172 : szT Tryz.prog 172 = some 0 := by kernel_rfl
theorem vzl172 : vzl Tryz.prog 172 = some [] := by kernel_rfl
theorem ld172 {cs : List VV} : vload Tryz.prog 172 cs = some (.agg []) := by
 have h1 : aggT Tryz.prog 172 = some true := by kernel_rfl
 have h2 : szT Tryz.prog 172 = some 0 := by kernel_rfl
 simp [vload, vpart, h1, h2]
theorem vb173 : vbuild Tryz.prog 173 [] = some (.agg []) := by kernel_rfl
theorem sz173 : szT Tryz.prog 173 = some 0 := by kernel_rfl
theorem vzl173 : vzl Tryz.prog 173 = some [] := by kernel_rfl
theorem ld173 {cs : List VV} : vload Tryz.prog 173 cs = some (.agg []) := by
 have h1 : aggT Tryz.prog 173 = some true := by kernel_rfl
 have h2 : szT Tryz.prog 173 = some 0 := by kernel_rfl
 simp [vload, vpart, h1, h2]
theorem vb174 : vbuild Tryz.prog 174 [] = some (.agg []) := by kernel_rfl
theorem sz174 : szT Tryz.prog 174 = some 0 := by kernel_rfl
theorem vzl174 : vzl Tryz.prog 174 = some [] := by kernel_rfl
theorem ld174 {cs : List VV} : vload Tryz.prog 174 cs = some (.agg []) := by
 have h1 : aggT Tryz.prog 174 = some true := by kernel_rfl
 have h2 : szT Tryz.prog 174 = some 0 := by kernel_rfl
 simp [vload, vpart, h1, h2]
theorem vb175 : vbuild Tryz.prog 175 [] = some (.agg []) := by kernel_rfl
theorem sz175 : szT Tryz.prog 175 = some 0 := by kernel_rfl
theorem vzl175 : vzl Tryz.prog 175 = some [] := by kernel_rfl
theorem ld175 {cs : List VV} : vload Tryz.prog 175 cs = some (.agg []) := by
 have h1 : aggT Tryz.prog 175 = some true := by kernel_rfl
 have h2 : szT Tryz.prog 175 = some 0 := by kernel_rfl
 simp [vload, vpart, h1, h2]
theorem zrj {x0_0 x1_0 x2_0 x3_0 : VV} (h : leafL [x0_0, x1_0, x2_0, x3_0] = true) : vbuild Tryz.prog 176 [(0, x0_0), (1, x1_0), (2, x2_0), (3, x3_0)] = some (.agg [x0_0, x1_0, x2_0, x3_0]) := by
 have p0 : placeT Tryz.prog 176 0 = some (0, 1) := by kernel_rfl
 have p1 : placeT Tryz.prog 176 1 = some (1, 1) := by kernel_rfl
 have p2 : placeT Tryz.prog 176 2 = some (2, 1) := by kernel_rfl
 have p3 : placeT Tryz.prog 176 3 = some (3, 1) := by kernel_rfl
 simp only [zbm, zbw, Bool.and_true, Bool.and_eq_true] at h
 rw [zfl vzl176 (by kernel_rfl)]
 simp [vfill, p0, p1, p2, p3, vcells1, h, overwrite]
theorem zvs : mfun Tryz.prog 172 "mahlstick/price.quantity" = some 219 := by kernel_rfl
theorem zsd {x : VV} : recvV Tryz.prog "mahlstick/price.quantity" (.ifc 172 x) = .fn (.func 219) [x] [] := by unfold recvV; simp only [zvs]
theorem zru {x : VV} : (nilOkM Tryz.prog "mahlstick/price.quantity" [.ifc 172 x] [] = true) = True := by simp [nilOkM, zvs]
theorem zxd : mfun Tryz.prog 173 "mahlstick/price.quantity" = some 220 := by kernel_rfl
theorem zrw {x : VV} : recvV Tryz.prog "mahlstick/price.quantity" (.ifc 173 x) = .fn (.func 220) [x] [] := by unfold recvV; simp only [zxd]
theorem zrz {x : VV} : (nilOkM Tryz.prog "mahlstick/price.quantity" [.ifc 173 x] [] = true) = True := by simp [nilOkM, zxd]
theorem zvy : mfun Tryz.prog 174 "mahlstick/price.quantity" = some 221 := by kernel_rfl
theorem zsi {x : VV} : recvV Tryz.prog "mahlstick/price.quantity" (.ifc 174 x) = .fn (.func 221) [x] [] := by unfold recvV; simp only [zvy]
theorem zrn {x : VV} : (nilOkM Tryz.prog "mahlstick/price.quantity" [.ifc 174 x] [] = true) = True := by simp [nilOkM, zvy]
theorem zwh : mfun Tryz.prog 175 "mahlstick/price.quantity" = some 222 := by kernel_rfl
theorem zrl {x : VV} : recvV Tryz.prog "mahlstick/price.quantity" (.ifc 175 x) = .fn (.func 222) [x] [] := by unfold recvV; simp only [zwh]
theorem zre {x : VV} : (nilOkM Tryz.prog "mahlstick/price.quantity" [.ifc 175 x] [] = true) = True := by simp [nilOkM, zwh]
theorem mi134 {x : VV} : mkIfcV Tryz.prog 134 x = some (.ifc 134 x) := by simp [mkIfcV, Tryz.underlying134]
theorem mi172 {x : VV} : mkIfcV Tryz.prog 172 x = some (.ifc 172 x) := by simp [mkIfcV, Tryz.underlying172]
theorem mi173 {x : VV} : mkIfcV Tryz.prog 173 x = some (.ifc 173 x) := by simp [mkIfcV, Tryz.underlying173]
theorem mi174 {x : VV} : mkIfcV Tryz.prog 174 x = some (.ifc 174 x) := by simp [mkIfcV, Tryz.underlying174]
theorem mi175 {x : VV} : mkIfcV Tryz.prog 175 x = some (.ifc 175 x) := by simp [mkIfcV, Tryz.underlying175]
theorem tz134 : ((Tryz.prog.info? 134).bind (·.zero)).map (fun z => VV.tup [ofVal2 z, .lit (.bool false)]) = some (.tup [.agg [], .lit (.bool false)]) := by kernel_rfl
theorem tn134 : vtypeAssert Tryz.prog (.lit .nilIface) 134 true = some (.tup [.agg [], .lit (.bool false)]) := by
 simp only [vtypeAssert, Tryz.underlying134, if_true]
 exact tz134
theorem tt134 {x : VV} : vtypeAssert Tryz.prog (.ifc 134 x) 134 true = some (.tup [x, .lit (.bool true)]) := by
 simp [vtypeAssert, Tryz.underlying134]
theorem zagf {x : VV} : vtypeAssert Tryz.prog (.ifc 172 x) 134 true = some (.tup [.agg [], .lit (.bool false)]) := by
 simp only [vtypeAssert, Tryz.underlying134, if_true]
 rw [if_neg (by decide)]
 exact tz134
theorem zadr {x : VV} : vtypeAssert Tryz.prog (.ifc 173 x) 134 true = some (.tup [.agg [], .lit (.bool false)]) := by
 simp only [vtypeAssert, Tryz.underlying134, if_true]
 rw [if_neg (by decide)]
 exact tz134
theorem zadu {x : VV} : vtypeAssert Tryz.prog (.ifc 174 x) 134 true = some (.tup [.agg [], .lit (.bool false)]) := by
 simp only [vtypeAssert, Tryz.underlying134, if_true]
 rw [if_neg (by decide)]
 exact tz134
theorem zadl {x : VV} : vtypeAssert Tryz.prog (.ifc 175 x) 134 true = some (.tup [.agg [], .lit (.bool false)]) := by
 simp only [vtypeAssert, Tryz.underlying134, if_true]
 rw [if_neg (by decide)]
 exact tz134
theorem tz135 : ((Tryz.prog.info? 135).bind (·.zero)).map (fun z => VV.tup [ofVal2 z, .lit (.bool false)]) = some (.tup [.agg [], .lit (.bool false)]) := by kernel_rfl
theorem tn135 : vtypeAssert Tryz.prog (.lit .nilIface) 135 true = some (.tup [.agg [], .lit (.bool false)]) := by
 simp only [vtypeAssert, Tryz.underlying135, if_true]
 exact tz135
theorem zagr {x : VV} : vtypeAssert Tryz.prog (.ifc 134 x) 135 true = some (.tup [.agg [], .lit (.bool false)]) := by
 simp only [vtypeAssert, Tryz.underlying135, if_true]
 rw [if_neg (by decide)]
 exact tz135
theorem zadw {x : VV} : vtypeAssert Tryz.prog (.ifc 172 x) 135 true = some (.tup [.agg [], .lit (.bool false)]) := by
 simp only [vtypeAssert, Tryz.underlying135, if_true]
 rw [if_neg (by decide)]
 exact tz135
theorem zaey {x : VV} : vtypeAssert Tryz.prog (.ifc 173 x) 135 true = some (.tup [.agg [], .lit (.bool false)]) := by
 simp only [vtypeAssert, Tryz.underlying135, if_true]
 rw [if_neg (by decide)]
 exact tz135
theorem zagm {x : VV} : vtypeAssert Tryz.prog (.ifc 174 x) 135 true = some (.tup [.agg [], .lit (.bool false)]) := by
 simp only [vtypeAssert, Tryz.underlying135, if_true]
 rw [if_neg (by decide)]
 exact tz135
theorem zadv {x : VV} : vtypeAssert Tryz.prog (.ifc 175 x) 135 true = some (.tup [.agg [], .lit (.bool false)]) := by
 simp only [vtypeAssert, Tryz.underlying135, if_true]
 rw [if_neg (by decide)]
 exact tz135
theorem be4 {H : Nat → Option VObj} {x y : Operand} {a b : Bool} : binV Tryz.prog H .eql 4 x y (.lit (.bool a)) (.lit (.bool b)) = some (.lit (.bool (a == b))) := zams Tryz.underlying4
theorem bn4 {H : Nat → Option VObj} {x y : Operand} {a b : Bool} : binV Tryz.prog H .neq 4 x y (.lit (.bool a)) (.lit (.bool b)) = some (.lit (.bool (a != b))) := zand Tryz.underlying4
theorem sq33 {H : Nat → Option VObj} {x y : Operand} {a0 b0 : Int} {a1 b1 : Int} : binV Tryz.prog H .eql 33 x y (.agg [.lit (.int .i64 a0), .lit (.int .i64 a1)]) (.agg [.lit (.int .i64 b0), .lit (.int .i64 b1)]) = some (.lit (.bool (a0 == b0 && (a1 == b1)))) ∧ binV Tryz.prog H .neq 33 x y (.agg [.lit (.int .i64 a0), .lit (.int .i64 a1)]) (.agg [.lit (.int .i64 b0), .lit (.int .i64 b1)]) = some (.lit (.bool (!(a0 == b0 && (a1 == b1))))) := by
 refine binS (xs := [.int .i64 a0, .int .i64 a1]) (ys := [.int .i64 b0, .int .i64 b1]) (by simp [VV.val?, valL?]) (by simp [VV.val?, valL?]) Tryz.underlying33 (by kernel_rfl) (by kernel_rfl) ?_
 simp [eqF, ok1, eq1, Tryz.underlying3]
theorem se33 {H : Nat → Option VObj} {x y : Operand} {a0 b0 : Int} {a1 b1 : Int} : binV Tryz.prog H .eql 33 x y (.agg [.lit (.int .i64 a0), .lit (.int .i64 a1)]) (.agg [.lit (.int .i64 b0), .lit (.int .i64 b1)]) = some (.lit (.bool (a0 == b0 && (a1 == b1)))) := sq33.1
theorem sn33 {H : Nat → Option VObj} {x y : Operand} {a0 b0 : Int} {a1 b1 : Int} : binV Tryz.prog H .neq 33 x y (.agg [.lit (.int .i64 a0), .lit (.int .i64 a1)]) (.agg [.lit (.int .i64 b0), .lit (.int .i64 b1)]) = some (.lit (.bool (!(a0 == b0 && (a1 == b1))))) := sq33.2
theorem zaov : (VV.lit Value.nilFunc).leaf = true := rfl
theorem zaoq : (VV.lit Value.nilIface).leaf = true := rfl
def tyf := (And.intro (And.intro (And.intro (And.intro (And.intro (And.intro (And.intro (And.intro @zib @zei) (And.intro @zea @zeh)) (And.intro (And.intro @zfh @zjt) (And.intro @zfv (And.intro @zfi @ld2)))) (And.intro (And.intro (And.intro @sz2 @vzl2) (And.intro @ld3 (And.intro @sz3 @vzl3))) (And.intro (And.intro @ld4 @sz4) (And.intro @vzl4 (And.intro @ld9 @sz9))))) (And.intro (And.intro (And.intro (And.intro @vzl9 @ld22) (And.intro @sz22 @vzl22)) (And.intro (And.intro @len22 @lenN22) (And.intro @lenR22 (And.intro @et22 @tk22)))) (And.intro (And.intro (And.intro @zasa @zavg) (And.intro @zaro (And.intro @ld23 @sz23))) (And.intro (And.intro @vzl23 @len23) (And.intro @lenN23 (And.intro @lenR23 @et23)))))) (And.intro (And.intro (And.intro (And.intro (And.intro @tk23 @zarz) (And.intro @ld24 @sz24)) (And.intro (And.intro @vzl24 @len24) (And.intro @lenN24 (And.intro @lenR24 @et24)))) (And.intro (And.intro (And.intro @tk24 @zatt) (And.intro @ld26 (And.intro @sz26 @vzl26))) (And.intro (And.intro @zaru @zasf) (And.intro @zatn (And.intro @zarr @zavi))))) (And.intro (And.intro (And.intro (And.intro @zasu @zatv) (And.intro @zatb @zaua)) (And.intro (And.intro @ld30 @sz30) (And.intro @vzl30 (And.intro @ld33 @sz33)))) (And.intro (And.intro (And.intro @vzl33 @zarv) (And.intro @zaud (And.intro @zauo @zasb))) (And.intro (And.intro @zatp @zatg) (And.intro @ld39 (And.intro @sz39 @vzl39))))))) (And.intro (And.intro (And.intro (And.intro (And.intro (And.intro @ld40 @sz40) (And.intro @vzl40 @ld42)) (And.intro (And.intro @sz42 @vzl42) (And.intro @zarn (And.intro @zaun @zavk)))) (And.intro (And.intro (And.intro @zavc @zavd) (And.intro @zatd (And.intro @zasn @zaso))) (And.intro (And.intro @zavj @zasp) (And.intro @zaug (And.intro @zauw @zatf))))) (And.intro (And.intro (And.intro (And.intro @zasd @zasy) (And.intro @ld53 @sz53)) (And.intro (And.intro @vzl53 @ld57) (And.intro @sz57 (And.intro @vzl57 @len57)))) (And.intro (And.intro (And.intro @lenN57 @lenR57) (And.intro @et57 (And.intro @tk57 @zatk))) (And.intro (And.intro @zasq @zats) (And.intro @ld75 (And.intro @sz75 @vzl75)))))) (And.intro (And.intro (And.intro (And.intro (And.intro @zasj @zaul) (And.intro @zaur @zatc)) (And.intro (And.intro @zaue @zauf) (And.intro @zath (And.intro @zaup @zasv)))) (And.intro (And.intro (And.intro @zary @zavh) (And.intro @zash (And.intro @ld87 @sz87))) (And.intro (And.intro @vzl87 @zate) (And.intro @zave (And.intro @zauc @zasr))))) (And.intro (And.intro (And.intro (And.intro @zaui @zauq) (And.intro @zava @zaux)) (And.intro (And.intro @zauy @zast) (And.intro @zasw (And.intro @zauz @ld104)))) (And.intro (And.intro (And.intro @sz104 @vzl104) (And.intro @zami (And.intro @zamv @zaoh))) (And.intro (And.intro @zapw @zanz) (And.intro @zaqa (And.intro @ld130 @sz130)))))))) (And.intro (And.intro (And.intro (And.intro (And.intro (And.intro (And.intro @vzl130 @zamx) (And.intro @zalv @zamn)) (And.intro (And.intro @zamp @zaly) (And.intro @zaof (And.intro @ld146 @sz146)))) (And.intro (And.intro (And.intro @vzl146 @zann) (And.intro @zanh (And.intro @zaob @zant))) (And.intro (And.intro @zaqo @zaot) (And.intro @ld148 (And.intro @sz148 @vzl148))))) (And.intro (And.intro (And.intro (And.intro @zamc @zaqj) (And.intro @zapc @zalz)) (And.intro (And.intro @zamo @zanw) (And.intro @sz1 (And.intro @ld1 @vzl1)))) (And.intro (And.intro (And.intro @sz28 @ld28) (And.intro @vzl28 (And.intro @sz72 @ld72))) (And.intro (And.intro @vzl72 @sz89) (And.intro @ld89 (And.intro @vzl89 @sz96)))))) (And.intro (And.intro (And.intro (And.intro (And.intro @ld96 @vzl96) (And.intro @sz100 @ld100)) (And.intro (And.intro @vzl100 @sz101) (And.intro @ld101 (And.intro @vzl101 @sz107)))) (And.intro (And.intro (And.intro @ld107 @vzl107) (And.intro @sz108 (And.intro @ld108 @vzl108))) (And.intro (And.intro @sz110 @ld110) (And.intro @vzl110 (And.intro @sz129 @ld129))))) (And.intro (And.intro (And.intro (And.intro @vzl129 @sz153) (And.intro @ld153 @vzl153)) (And.intro (And.intro @sz155 @ld155) (And.intro @vzl155 (And.intro @sz171 @vzl171)))) (And.intro (And.intro (And.intro @ld171 @zapy) (And.intro @zagv (And.intro @zaqh @zaht))) (And.intro (And.intro @zanu @zaho) (And.intro @zanm (And.intro @zagz @sz176))))))) (And.intro (And.intro (And.intro (And.intro (And.intro (And.intro @vzl176 @ld176) (And.intro @zaon @zard)) (And.intro (And.intro @zapx @zaox) (And.intro @zaqt (And.intro @zaqy @zaqf)))) (And.intro (And.intro (And.intro @zari @vb33) (And.intro @zalc (And.intro @ztz @ztl))) (And.intro (And.intro @zaeg @zado) (And.intro @vb134 (And.intro @sz134 @vzl134))))) (And.intro (And.intro (And.intro (And.intro @ld134 @zagj) (And.intro @zady @zsm)) (And.intro (And.intro @vb172 @sz172) (And.intro @vzl172 (And.intro @ld172 @vb173)))) (And.intro (And.intro (And.intro @sz173 @vzl173) (And.intro @ld173 (And.intro @vb174 @sz174))) (And.intro (And.intro @vzl174 @ld174) (And.intro @vb175 (And.intro @sz175 @vzl175)))))) (And.intro (And.intro (And.intro (And.intro (And.intro @ld175 @zrj) (And.intro @zsd @zru)) (And.intro (And.intro @zrw @zrz) (And.intro @zsi (And.intro @zrn @zrl)))) (And.intro (And.intro (And.intro @zre @mi134) (And.intro @mi172 (And.intro @mi173 @mi174))) (And.intro (And.intro @mi175 @tn134) (And.intro @tt134 (And.intro @zagf @zadr))))) (And.intro (And.intro (And.intro (And.intro @zadu @zadl) (And.intro @tn135 (And.intro @zagr @zadw))) (And.intro (And.intro @zaey @zagm) (And.intro @zadv (And.intro @be4 @bn4)))) (And.intro (And.intro (And.intro @se33 @sn33) (And.intro @zaov (And.intro @zaoq @zxj))) (And.intro (And.intro @eI_eq @zara) (And.intro @eB_eq (And.intro @eS_eq @zarf)))))))))
def tynrm := (And.intro (And.intro (And.intro (And.intro (And.intro @zap.norm @zap.normL) (And.intro @zap.shown @zap.showL)) (And.intro (And.intro @zae.norm @zae.normL) (And.intro @zae.shown (And.intro @zae.showL @zaf.norm)))) (And.intro (And.intro (And.intro @zaf.normL @zaf.shown) (And.intro @zaf.showL @zag.norm)) (And.intro (And.intro @zag.normL @zag.shown) (And.intro @zag.showL (And.intro @zal.norm @zal.normL))))) (And.intro (And.intro (And.intro (And.intro @zal.shown @zal.showL) (And.intro @zcc.norm @zcc.normL)) (And.intro (And.intro @zcc.shown @zcc.showL) (And.intro @zbr.norm (And.intro @zbr.normL @zbr.shown)))) (And.intro (And.intro (And.intro @zbr.showL @zdo.norm) (And.intro @zdo.normL @zdo.shown)) (And.intro (And.intro @zdo.showL @zoq.norm) (And.intro @zoq.normL (And.intro @zoq.shown @zoq.showL))))))
def tytre := (And.intro (And.intro (And.intro (And.intro @zap.tree @zap.treeL) (And.intro @zae.tree @zae.treeL)) (And.intro (And.intro @zaf.tree @zaf.treeL) (And.intro @zag.tree (And.intro @zag.treeL @zal.tree)))) (And.intro (And.intro (And.intro @zal.treeL @zcc.tree) (And.intro @zcc.treeL @zbr.tree)) (And.intro (And.intro @zbr.treeL @zdo.tree) (And.intro @zdo.treeL (And.intro @zoq.tree @zoq.treeL)))))
end Go.V
namespace Go.V
open Go Go.Proofs
theorem ktA {P : Program} {G : Glob} {d : Option Tmp} {γ : Nat} {tm : Nat → VV} {H : Nat → Option VObj} {nx : Nat} {df : List VDef} {K : St → Prop} {Qp : VV → St → Prop} {f : FuncId} {args args0 : List VV} {x : VV} (hp : VPure P G f args0 (.tree x)) (h : fin d γ tm H nx df K x .none) (hn : normL args = args0 := by first | (simp only [nrm, tynrm] <;> rfl) | rfl) (ht : treeL args = true := by simp only [tre, tytre, Bool.and_self]) : callK P G f args ⟨tm, H, nx, df⟩ d γ K Qp := ktree hn ht hp h
theorem dktA {P : Program} {G : Glob} {d : Option Tmp} {γ : Nat} {tm : Nat → VV} {H : Nat → Option VObj} {nx : Nat} {df : List VDef} {K : List Nat → List Nat → St → Prop} {f : FuncId} {args args0 : List VV} {x : VV} (hp : VPure P G f args0 (.tree x)) (h : fin d γ tm H nx df (K [] []) x .none) (hn : normL args = args0 := by first | (simp only [nrm, tynrm] <;> rfl) | rfl) (ht : treeL args = true := by simp only [tre, tytre, Bool.and_self]) : dcallK P G f args tm H nx df d γ K := dktree hn ht hp h
theorem optI {α β : Type} {K : Option β → Prop} {X : Option α} {F : α → Option β} (h : K (Option.bind X F)) (kN : ¬ K none) : ∃ r, X = some r ∧ K (F r) := by
  cases X with
  | none => exact absurd h kN
  | some r => exact ⟨r, rfl, h⟩
end Go.V
end
