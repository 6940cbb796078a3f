/- Part of a proof. -/
import Derived.Test.YtjpgejagakmjgaaGreatDoorTbi
set_option linter.all false
set_option maxRecDepth 4000
set_option maxHeartbeats 40000000
section
namespace Go.V
open Go
theorem zhh (a n b : Int) : zba a n b = some (inB a b n) := csome _ _
theorem zyg (n a b : Int) : zci n a b = some (inB a b n) := csome _ _
def boardB (b : GPriceBoard) : Bool := inB 0 60 b.Letters && (inB 0 40 b.Feet && (inB 0 40 b.Hours.Low && inB b.Hours.Low (if b.Hours.Low + 6 < 40 then b.Hours.Low + 6 else 40) b.Hours.High))
def tariffB (t : GPriceTariff) : Bool := inB 1 4 t.Kind && (inB 1 4 t.Rule && (inB 0 500 t.Coins && inB 1 12 t.Units))
def ownB (n : Nat) (b : GPriceBoard) : Bool := boardB b && inB 0 ((n : Int) - 1) b.Owner
def sheetB (s : GPriceSheet) : Bool := (inB 1 3 s.Offs.length && s.Offs.all (inB 0 100)) && ((inB 1 4 s.Boards.length && s.Boards.all (ownB s.Offs.length)) && (inB 1 3 s.Tariffs.length && s.Tariffs.all tariffB))
theorem zadi (x : GSpan) : zeg 0 x 40 = some (decide (0 ≤ x.Low) && (decide (x.Low ≤ x.High) && decide (x.High ≤ 40))) := by
 unfold zeg
 cases decide (0 ≤ x.Low) <;> cases decide (x.Low ≤ x.High) <;> rfl
theorem zzf (b : GPriceBoard) : zej b = some (boardB b) := by
 unfold zej boardB
 simp only [zhh, zadi, Option.bind_some]
 cases inB 0 60 b.Letters <;> cases inB 0 40 b.Feet <;> try rfl
 simp only [cond_true, Bool.true_and]
 by_cases h1 : 0 ≤ b.Hours.Low
 ·by_cases h2 : b.Hours.Low ≤ b.Hours.High
  ·by_cases h3 : b.Hours.High ≤ 40
   ·rw [zco (by omega) (by omega)]
    simp only [inB, decide_eq_true h1, decide_eq_true h2, decide_eq_true h3, decide_eq_true (show b.Hours.Low ≤ 40 by omega), Bool.and_self, Bool.true_and, cond_true]
    congr 1
    rw [decide_eq_decide]
    split <;> omega
   ·simp only [inB, decide_eq_true h1, decide_eq_true h2, decide_eq_false h3, Bool.and_false, cond_false, Bool.true_and]
    rw [decide_eq_false (p := b.Hours.High ≤ _) (by split <;> omega)]
    cases decide (b.Hours.Low ≤ 40) <;> rfl
  ·simp only [inB, decide_eq_true h1, decide_eq_false h2, Bool.false_and, Bool.and_false, cond_false]
 ·simp only [inB, decide_eq_false h1, Bool.false_and, cond_false]
theorem zqz (a b : Int) : ∀ (p : List Int) (c : Int), zch a b p c = goB (p.all (inB a b))
 | [], _ => rfl
 | e :: p, c => by simp only [zch, zhh, Option.bind_some, zqz a b p, List.all_cons, zky]
theorem znc {n : Nat} (hn : (n : Int) < 9223372036854775808) : ∀ (p : List GPriceBoard) (c : Int), zcf n p c = goB (p.all (ownB n))
 | [], _ => rfl
 | e :: p, c => by
  simp only [zcf, zzf, zhh, Option.bind_some, znc hn p, List.all_cons, zky, ownB]
  rw [zco (by omega) (by omega)]
  cases boardB e <;> cases inB 0 ((n : Int) - 1) e.Owner <;> rfl
theorem zyd (t : GPriceTariff) : zdz t = some (tariffB t) := by
 unfold zdz tariffB
 simp only [zhh, Option.bind_some]
 generalize inB 0 500 t.Coins = x
 generalize inB 1 12 t.Units = y
 unfold inB
 cases decide (1 ≤ t.Kind) <;> cases decide (t.Kind ≤ 4) <;> cases decide (1 ≤ t.Rule) <;> cases decide (t.Rule ≤ 4) <;> cases x <;> rfl
theorem zkx : ∀ (p : List GPriceTariff) (c : Int), zby p c = goB (p.all tariffB)
 | [], _ => rfl
 | e :: p, c => by simp only [zby, zyd, Option.bind_some, zkx p, List.all_cons, zky]
structure OkS (s : GPriceSheet) : Prop where
 o : lenOk s.Offs = true
 b : lenOk s.Boards = true
 t : lenOk s.Tariffs = true
theorem zhr {s : GPriceSheet} (h : OkS s) : zcq s = some (sheetB s) := by
 have := zki h.o
 unfold zcq sheetB zeu zek zec
 rw [h.o, h.b, h.t, zqz, znc (by omega), zkx]
 simp only [zhh, Option.bind_some, cond_true, zll]
 cases inB 1 3 (s.Offs.length : Int) <;> cases s.Offs.all (inB 0 100) <;> cases inB 1 4 (s.Boards.length : Int) <;> cases s.Boards.all (ownB s.Offs.length) <;> cases s.Tariffs.all tariffB <;> cases inB 1 3 (s.Tariffs.length : Int) <;> rfl
theorem zalu (t : GPriceTariff) : zgk t = some (tariffB t) := by
 unfold zgk tariffB
 simp only [zyg, Option.bind_some]
 generalize inB 0 500 t.Coins = x
 generalize inB 1 12 t.Units = y
 unfold inB
 show cond (decide (1 ≤ t.Kind)) (cond (decide (t.Kind ≤ 4)) (cond x (cond y (cond (decide (1 ≤ t.Rule)) (some (decide (t.Rule ≤ 4))) (some false)) (some false)) (some false)) (some false)) (some false) = _
 cases decide (1 ≤ t.Kind) <;> cases decide (t.Kind ≤ 4) <;> cases decide (1 ≤ t.Rule) <;> cases decide (t.Rule ≤ 4) <;> cases x <;> cases y <;> rfl
theorem zabv : ∀ (p : List Int) (c : Int), zcz p c = goB (p.all (inB 0 100))
 | [], _ => rfl
 | e :: p, c => by simp only [zcz, zyg, Option.bind_some, zabv p, List.all_cons, zky]
theorem zact {s : GPriceSheet} (hs : OkS s) : ∀ (p : List GPriceBoard) (c : Int), zcv s p c = goB (p.all (ownB s.Offs.length))
 | [], _ => rfl
 | e :: p, c => by
  have := zki hs.o
  simp only [zcv, zyg, Option.bind_some, zact hs p, List.all_cons, zky, ownB, boardB]
  rw [zco (n := (s.Offs.length : Int) - 1) (by omega) (by omega)]
  cases inB 0 60 e.Letters <;> cases inB 0 40 e.Feet <;> cases h : inB 0 40 e.Hours.Low <;> try rfl
  rw [zgy] at h
  rw [zco (by omega) (by omega)]
  cases inB e.Hours.Low (if e.Hours.Low + 6 < 40 then e.Hours.Low + 6 else 40) e.Hours.High <;> cases inB 0 ((s.Offs.length : Int) - 1) e.Owner <;> rfl
theorem zaco : ∀ (p : List GPriceTariff) (c : Int), zct p c = goB (p.all tariffB)
 | [], _ => rfl
 | e :: p, c => by simp only [zct, zalu, Option.bind_some, zaco p, List.all_cons, zky]
theorem zakr {s : GPriceSheet} (h : OkS s) : zfp s = some (sheetB s) := by
 unfold zfp sheetB
 rw [h.o, h.b, h.t, zabv, zact h, zaco]
 simp only [zyg, Option.bind_some, cond_true, zll]
 cases inB 1 3 (s.Offs.length : Int) <;> cases s.Offs.all (inB 0 100) <;> cases inB 1 4 (s.Boards.length : Int) <;> cases s.Boards.all (ownB s.Offs.length) <;> cases s.Tariffs.all tariffB <;> cases inB 1 3 (s.Tariffs.length : Int) <;> rfl
def tarB (s : GPriceSheet) (n : Int) : Bool := inB 0 ((s.Tariffs.length : Int) - 1) n
theorem zgm {s : GPriceSheet} (h : OkS s) (n : Int) : zck s n = some (tarB s n) := by
 have := zki h.t
 unfold zck tarB
 rw [zhh, zco (by omega) (by omega)]; rfl
theorem zael {s : GPriceSheet} (h : OkS s) (n : Int) : zev s n = some (tarB s n) := by
 have := zki h.t
 unfold zev tarB
 rw [zyg, zco (by omega) (by omega)]; rfl
def hrsB : List GPriceBoard → List Int → Bool
 | [], [] => true
 | b :: bs, h :: hs => inB b.Hours.Low b.Hours.High h && hrsB bs hs
 | _, _ => false
theorem zadc {s : GPriceSheet} : ∀ (p : List Int) (c : Int) (bs : List GPriceBoard), 0 ≤ c → s.Boards.drop c.toNat = bs → bs.length = p.length → zbz s p c = goB (hrsB bs p)
 | [], _, [], _, _, _ => rfl
 | e :: p, c, b :: bs, h0, h, hl => by
  simp only [zbz, zak h0 h, Option.bind_some, zet, zhh, hrsB, zky]
  rw [zadc p (c + 1) bs (by omega) (zax h0 h) (by simpa using hl)]
theorem zvv {s : GPriceSheet} : ∀ (p : List Int) (c : Int) (bs : List GPriceBoard), 0 ≤ c → s.Boards.drop c.toNat = bs → bs.length = p.length → zcs s p c = goB (hrsB bs p)
 | [], _, [], _, _, _ => rfl
 | e :: p, c, b :: bs, h0, h, hl => by
  simp only [zcs, zak h0 h, Option.bind_some, zyg, hrsB, zky]
  rw [zvv p (c + 1) bs (by omega) (zax h0 h) (by simpa using hl)]
theorem ztr : ∀ {bs : List GPriceBoard} {hs : List Int}, hrsB bs hs = true → hs.length = bs.length
 | [], [], _ => rfl
 | b :: bs, h :: hs, e => by
  simp only [hrsB, Bool.and_eq_true] at e
  simp [ztr e.2]
theorem zahb : ∀ {bs : List GPriceBoard} {hs : List Int}, hs.length ≠ bs.length → hrsB bs hs = false := fun {bs hs} h => by
 cases e : hrsB bs hs with
 | false => rfl
 | true => exact absurd (ztr e) h
theorem bneq {a b : Nat} : (((a : Int) != (b : Int)) = true) ↔ a ≠ b := by simp; omega
theorem zku {s : GPriceSheet} (h : OkS s) (l : List Int) : zcy s l = some (hrsB s.Boards l) := by
 unfold zcy
 cases hq : ((l.length : Int) != (s.Boards.length : Int)) with
 | true => rw [zahb (bneq.1 hq)]; rfl
 | false =>
  have hl : s.Boards.length = l.length := by
   rcases Nat.decEq l.length s.Boards.length with h1 | h1
   ·rw [bneq.2 h1] at hq; cases hq
   ·exact h1.symm
  have hb := zki h.b
  rw [zgj (by omega), zadc l 0 s.Boards (Int.le_refl _) rfl hl, zll]
  cases hrsB s.Boards l <;> rfl
theorem zadm {s : GPriceSheet} (h : OkS s) (l : List Int) : zfm s l = some (hrsB s.Boards l) := by
 unfold zfm
 cases hq : ((l.length : Int) != (s.Boards.length : Int)) with
 | true => rw [zahb (bneq.1 hq)]; rfl
 | false =>
  have hl : s.Boards.length = l.length := by
   rcases Nat.decEq l.length s.Boards.length with h1 | h1
   ·rw [bneq.2 h1] at hq; cases hq
   ·exact h1.symm
  have hb := zki h.b
  rw [zgj (by omega), zvv l 0 s.Boards (Int.le_refl _) rfl hl, zll]
  cases hrsB s.Boards l <;> rfl
theorem zajk (s : GPriceSheet) : zer s = some true ∨ zer s = some false := by
 unfold zer
 simp only [csome]
 cases decide ((s.Offs.length : Int) ≤ 5) <;> cases decide ((s.Boards.length : Int) ≤ 6) <;> cases decide ((s.Tariffs.length : Int) ≤ 5) <;> first | exact .inl rfl | exact .inr rfl
theorem zaqb (l : List Int) : zfd l = some true ∨ zfd l = some false := by
 unfold zfd
 cases decide ((l.length : Int) ≤ 7)
 ·exact .inr rfl
 ·exact .inl rfl
structure Asked (s : GPriceSheet) (n : Int) (hs : List Int) : Prop where
 ok : OkS s
 sheet : sheetB s = true
 tar : tarB s n = true
 hrs : hrsB s.Boards hs = true
end Go.V
end
section
namespace Go.V
open Go Go.Proofs
def kv146 (k : Gpricebill) : Value := .agg ⟨[.int .i64 k.tariff.Kind, .int .i64 k.tariff.Coins, .int .i64 k.tariff.Units, .int .i64 k.tariff.Rule, .bool k.tariff.Each, .int .i64 k.quantity]⟩
def q146 (a b : Gpricebill) : Bool := (((a.tariff.Kind == b.tariff.Kind) && ((a.tariff.Coins == b.tariff.Coins) && ((a.tariff.Units == b.tariff.Units) && ((a.tariff.Rule == b.tariff.Rule) && ((a.tariff.Each == b.tariff.Each) && true))))) && ((a.quantity == b.quantity) && true))
def ev3 (n : Int) : VV := .lit (.int .i64 n)
theorem he146 (a b : Gpricebill) : evalP Tryz.prog (Op.equal 146 (kv146 a) (kv146 b)) = some (q146 a b) := by
 unfold Op.equal
 exact zpm 5 146 _ _ _ (by kernel_rfl) 9995
theorem hc146 (b : Bool) (k : Gpricebill) : evalP Tryz.prog (Instr.checkKey b 10000 146 (kv146 k)) = some () := by
 cases b <;> kernel_rfl
theorem hq146 (a b : Gpricebill) (h : q146 a b = true) : a = b := by
 obtain ⟨⟨atariffKind, atariffCoins, atariffUnits, atariffRule, atariffEach⟩, aquantity⟩ := a
 obtain ⟨⟨btariffKind, btariffCoins, btariffUnits, btariffRule, btariffEach⟩, bquantity⟩ := b
 simp only [q146, Bool.and_true, Bool.and_eq_true, beq_iff_eq] at h
 simp only [h]
theorem hs146 (a : Gpricebill) : Instr.sameBits 10000 (kv146 a) (kv146 a) = true := by
 simp [kv146, Instr.sameBits]
theorem hz3 : ((Tryz.prog.info? 3).bind (·.zero)).map ofVal2 = some (ev3 0) := by kernel_rfl
theorem hk146 (k : Gpricebill) : VV.val? (.agg [.lit (.int .i64 k.tariff.Kind), .lit (.int .i64 k.tariff.Coins), .lit (.int .i64 k.tariff.Units), .lit (.int .i64 k.tariff.Rule), .lit (.bool k.tariff.Each), .lit (.int .i64 k.quantity)]) = some (kv146 k) := rfl
theorem lko85 {β : Nat} (l : List (Gpricebill × Int)) (k : Gpricebill) (H : Nat → Option VObj) (hb : H β = some (.map (encM kv146 ev3 l))) : vlookup Tryz.prog H 85 (.mp β) (.agg [.lit (.int .i64 k.tariff.Kind), .lit (.int .i64 k.tariff.Coins), .lit (.int .i64 k.tariff.Units), .lit (.int .i64 k.tariff.Rule), .lit (.bool k.tariff.Each), .lit (.int .i64 k.quantity)]) true = some (.tup [.lit (.int .i64 (mapGet q146 0 l k)), .lit (.bool (mapHas q146 l k))]) :=
 zuo Tryz.underlying85 Tryz.underlying146 he146 hc146 hz3 (hk146 k) hb
theorem up85 {β : Nat} (l : List (Gpricebill × Int)) (k : Gpricebill) (n : Int) (H : Nat → Option VObj) (hb : H β = some (.map (encM kv146 ev3 l))) : vmapUpdate Tryz.prog H 85 (.mp β) (.agg [.lit (.int .i64 k.tariff.Kind), .lit (.int .i64 k.tariff.Coins), .lit (.int .i64 k.tariff.Units), .lit (.int .i64 k.tariff.Rule), .lit (.bool k.tariff.Each), .lit (.int .i64 k.quantity)]) (.lit (.int .i64 n)) = some (.upd β (.map (encM kv146 ev3 (mapSet q146 l k n)))) :=
 zadg Tryz.underlying85 Tryz.underlying146 he146 hc146 hq146 hs146 (hk146 k) hb
theorem ld85 {c : VV} {cs : List VV} : vload Tryz.prog 85 (c :: cs) = some c := by
 have h1 : aggT Tryz.prog 85 = some false := by kernel_rfl
 simp [vload, vpart, h1]
theorem sz85 : szT Tryz.prog 85 = some 1 := by kernel_rfl
theorem vzl85 : vzl Tryz.prog 85 = some [.lit (.map none)] := by kernel_rfl
def mqr := And.intro (And.intro @zaio @zake) True.intro
def mqt := And.intro (And.intro @ld85 @sz85) @vzl85
def zep (x1_b : GPriceBoard) (x2_hours : Int) : Option (Int) := some x1_b.Letters
theorem zgf (x1_b : GPriceBoard) (x2_hours : Int) (R : Int) (h : zep x1_b x2_hours = some R) : VPure Tryz.prog G0 219 [.agg ([]), .agg (cGPriceBoard x1_b), .lit (.int .i64 x2_hours)] (.tree (.lit (.int .i64 R))) := by
 refine VPure.runR mixed Tryz.call219 Tryz.func219 rfl (by simp [Tryz.ntmps219]; kernel_rfl) ?_
 obtain ⟨KF, h, kF, kN⟩ := zaq h
 simp only [zep] at h
 try simp only [vz, tyf, nm, seval]
 refine zau (x := (.lit (.int .i64 x1_b.Letters))) (by first | (simp only [Tryz.results219, resV, resL, resV1, zat, zbu, uw, cr, tyf, nm, seval] <;> rfl) | rfl) ?_
 obtain rfl := kF _ h
 refine zbc ?_ ?_
 ·simp only [tre, tytre, Bool.and_self]
 ·first | (simp only [outV, uw, zan, cr, tyf, nrm, tynrm, nm, seval] <;> rfl) | rfl
def zez (x1_b : GPriceBoard) (x2_hours : Int) : Option (Int) := some x1_b.Feet
theorem zgu (x1_b : GPriceBoard) (x2_hours : Int) (R : Int) (h : zez x1_b x2_hours = some R) : VPure Tryz.prog G0 220 [.agg ([]), .agg (cGPriceBoard x1_b), .lit (.int .i64 x2_hours)] (.tree (.lit (.int .i64 R))) := by
 refine VPure.runR mixed Tryz.call220 Tryz.func220 rfl (by simp [Tryz.ntmps220]; kernel_rfl) ?_
 obtain ⟨KF, h, kF, kN⟩ := zaq h
 simp only [zez] at h
 try simp only [vz, tyf, nm, seval]
 refine zau (x := (.lit (.int .i64 x1_b.Feet))) (by first | (simp only [Tryz.results220, resV, resL, resV1, zat, zbu, uw, cr, tyf, nm, seval] <;> rfl) | rfl) ?_
 obtain rfl := kF _ h
 refine zbc ?_ ?_
 ·simp only [tre, tytre, Bool.and_self]
 ·first | (simp only [outV, uw, zan, cr, tyf, nrm, tynrm, nm, seval] <;> rfl) | rfl
def zfa (x1_b : GPriceBoard) (x2_hours : Int) : Option (Int) := some x2_hours
theorem zgt (x1_b : GPriceBoard) (x2_hours : Int) (R : Int) (h : zfa x1_b x2_hours = some R) : VPure Tryz.prog G0 221 [.agg ([]), .agg (cGPriceBoard x1_b), .lit (.int .i64 x2_hours)] (.tree (.lit (.int .i64 R))) := by
 refine VPure.runR mixed Tryz.call221 Tryz.func221 rfl (by simp [Tryz.ntmps221]; kernel_rfl) ?_
 obtain ⟨KF, h, kF, kN⟩ := zaq h
 simp only [zfa] at h
 try simp only [vz, tyf, nm, seval]
 refine zau (x := (.lit (.int .i64 x2_hours))) (by first | (simp only [Tryz.results221, resV, resL, resV1, zat, zbu, uw, cr, tyf, nm, seval] <;> rfl) | rfl) ?_
 obtain rfl := kF _ h
 refine zbc ?_ ?_
 ·simp only [tre, tytre, Bool.and_self]
 ·first | (simp only [outV, uw, zan, cr, tyf, nrm, tynrm, nm, seval] <;> rfl) | rfl
def zeq (x1_b : GPriceBoard) (x2_hours : Int) : Option (Int) := some 1
theorem zgi (x1_b : GPriceBoard) (x2_hours : Int) (R : Int) (h : zeq x1_b x2_hours = some R) : VPure Tryz.prog G0 222 [.agg ([]), .agg (cGPriceBoard x1_b), .lit (.int .i64 x2_hours)] (.tree (.lit (.int .i64 R))) := by
 refine VPure.runR mixed Tryz.call222 Tryz.func222 rfl (by simp [Tryz.ntmps222]; kernel_rfl) ?_
 obtain ⟨KF, h, kF, kN⟩ := zaq h
 simp only [zeq] at h
 try simp only [vz, tyf, nm, seval]
 refine zau (x := (.lit (.int .i64 1))) (by first | (simp only [Tryz.results222, resV, resL, resV1, zat, zbu, uw, cr, tyf, nm, seval] <;> rfl) | rfl) ?_
 obtain rfl := kF _ h
 refine zbc ?_ ?_
 ·simp only [tre, tytre, Bool.and_self]
 ·first | (simp only [outV, uw, zan, cr, tyf, nrm, tynrm, nm, seval] <;> rfl) | rfl
end Go.V
end
section
namespace Go.V
open Go Go.Proofs
set_option linter.defProp false
def ktI (k : Int) : Nat := if k = 1 then 172 else if k = 2 then 173 else if k = 3 then 174 else 175
def kfI (k : Int) : Nat := if k = 1 then 219 else if k = 2 then 220 else if k = 3 then 221 else 222
def zfx (k : Int) : Option Int := cond (decide (1 ≤ k) && decide (k ≤ 4)) (some k) none
theorem hmixK : Tryz.prog.follows .mixedOrders = true := by kernel_rfl
theorem kind1 : VPure Tryz.prog G0 129 [.lit (.int .i64 1)] (.tree (.ifc 172 (.agg []))) := VPure.closedB hmixK 1000 (by kernel_rfl)
theorem kind2 : VPure Tryz.prog G0 129 [.lit (.int .i64 2)] (.tree (.ifc 173 (.agg []))) := VPure.closedB hmixK 1000 (by kernel_rfl)
theorem kind3 : VPure Tryz.prog G0 129 [.lit (.int .i64 3)] (.tree (.ifc 174 (.agg []))) := VPure.closedB hmixK 1000 (by kernel_rfl)
theorem kind4 : VPure Tryz.prog G0 129 [.lit (.int .i64 4)] (.tree (.ifc 175 (.agg []))) := VPure.closedB hmixK 1000 (by kernel_rfl)
theorem zld (k R : Int) (h : zfx k = some R) : VPure Tryz.prog G0 129 [.lit (.int .i64 k)] (.tree (.ifc (ktI R) (.agg []))) := by
 unfold zfx at h
 cases hc : (decide (1 ≤ k) && decide (k ≤ 4)) with
 | false => rw [hc] at h; cases h
 | true =>
  rw [hc] at h
  simp only [Bool.and_eq_true, decide_eq_true_eq] at hc
  obtain rfl : k = R := by simpa using h
  have : k = 1 ∨ k = 2 ∨ k = 3 ∨ k = 4 := by omega
  rcases this with rfl | rfl | rfl | rfl
  ·exact kind1
  ·exact kind2
  ·exact kind3
  ·exact kind4
def g_kq (k : Int) (b : GPriceBoard) (h : Int) : Option Int := some (if k = 1 then b.Letters else if k = 2 then b.Feet else if k = 3 then h else 1)
theorem zagx (k : Int) (b : GPriceBoard) (n R : Int) (h : g_kq k b n = some R) : VPure Tryz.prog G0 (kfI k) [.agg [], .agg (cGPriceBoard b), .lit (.int .i64 n)] (.tree (.lit (.int .i64 R))) := by
 unfold g_kq at h
 unfold kfI
 by_cases h1 : k = 1
 ·rw [if_pos h1] at h ⊢; exact zgf b n R h
 by_cases h2 : k = 2
 ·rw [if_neg h1, if_pos h2] at h ⊢; exact zgu b n R h
 by_cases h3 : k = 3
 ·rw [if_neg h1, if_neg h2, if_pos h3] at h ⊢; exact zgt b n R h
 ·rw [if_neg h1, if_neg h2, if_neg h3] at h ⊢; exact zgi b n R h
theorem rcvI {k : Int} {x : VV} : recvV Tryz.prog "mahlstick/price.quantity" (.ifc (ktI k) x) = .fn (.func (kfI k)) [x] [] := by
 unfold ktI kfI
 by_cases h1 : k = 1
 ·simp only [h1, if_true]; exact zsd
 by_cases h2 : k = 2
 ·simp only [h1, h2, if_true, if_false]; exact zrw
 by_cases h3 : k = 3
 ·simp only [h1, h2, h3, if_true, if_false]; exact zsi
 ·simp only [h1, h2, h3, if_false]; exact zrl
theorem nokI {k : Int} {x : VV} : (nilOkM Tryz.prog "mahlstick/price.quantity" [.ifc (ktI k) x] [] = true) = True := by
 unfold ktI
 by_cases h1 : k = 1
 ·simp only [h1, if_true]; exact zru
 by_cases h2 : k = 2
 ·simp only [h1, h2, if_true, if_false]; exact zrz
 by_cases h3 : k = 3
 ·simp only [h1, h2, h3, if_true, if_false]; exact zrn
 ·simp only [h1, h2, h3, if_false]; exact zre
def kqf := And.intro @rcvI @nokI
end Go.V
end
section
namespace Go.V
open Go Go.Proofs
def zao (x0_x_hours : List Int) (r1 : Int) : List GPriceBoard → Int → (List Int) → Option (LOut (List Int) ((List Int)))
 | [], c0_14, c0_4 => some (.go c0_4)
 | e0 :: p0, c0_14, c0_4 => Option.bind (getI x0_x_hours c0_14) (fun x2 => Option.bind (g_kq r1 e0 x2) (fun r3 => cond (roomOk 8 (List.length (c0_4 ++ [r3]))) (zao x0_x_hours r1 p0 (c0_14 + 1) (c0_4 ++ [r3])) none))
def zbd (x0_x_PriceSheet : GPriceSheet) (x0_x_tariff : GPriceTariff) (x0_x_hours : List Int) : Option (List Int) := Option.bind (zfx x0_x_tariff.Kind) (fun r1 => cond (lenOk x0_x_PriceSheet.Boards) (lbind (zao x0_x_hours r1 x0_x_PriceSheet.Boards 0 ([] : List Int)) (fun r5 => some r5) (fun c4 => some c4) (fun _ _ => none)) none)
theorem zdk (x0_x_PriceSheet : GPriceSheet) (x0_x_tariff : GPriceTariff) (x0_x_hours : List Int) (b : Nat) (R : List Int) (h : zbd x0_x_PriceSheet x0_x_tariff x0_x_hours = some R) : VPure Tryz.prog G0 104 [.agg [.sl (cellsL eI x0_x_PriceSheet.Offs) (List.length x0_x_PriceSheet.Offs) false, .sl (cellsL cGPriceBoard x0_x_PriceSheet.Boards) (List.length x0_x_PriceSheet.Boards) false, .sl (cellsL cGPriceTariff x0_x_PriceSheet.Tariffs) (List.length x0_x_PriceSheet.Tariffs) false, .lit (.int .i64 x0_x_tariff.Kind), .lit (.int .i64 x0_x_tariff.Coins), .lit (.int .i64 x0_x_tariff.Units), .lit (.int .i64 x0_x_tariff.Rule), .lit (.bool x0_x_tariff.Each), .sl (cellsL eI x0_x_hours) (List.length x0_x_hours) false, .lit (.map (some b))]] (.tree (.sl (cellsL eI R) (List.length R) false)) := by
 refine VPure.runR mixed Tryz.call104 Tryz.func104 rfl (by simp [Tryz.ntmps104]; kernel_rfl) ?_
 obtain ⟨KF, h, kF, kN⟩ := zaq h
 simp only [zbd] at h
 obtain ⟨r6, o7, h⟩ := optI h kN
 try simp only [hs] at h
 simp only [vz, kqf, vsi, tyf, nm, seval]
 refine ktree (args0 := [.lit (.int .i64 x0_x_tariff.Kind)]) (by first | (simp only [nrm, tynrm, @zbh] <;> rfl) | rfl) (by simp only [tre, tytre, Bool.and_self]) (zld _ _ o7) ?_
 refine zar (fun tm => tm 1 = .ptr 0 0 ∧ tm 9 = .ifc (ktI r6) (.agg []) ∧ True) (by refine ⟨?_, ?_, trivial⟩ <;> first | (simp only [ua, nm, seval] <;> rfl) | rfl) ?_
 rintro tm ⟨e8, e9, _⟩
 cases g11 : (lenOk x0_x_PriceSheet.Boards)
 ·simp only [g11, hs] at h
  exact absurd h kN
 simp only [g11, hs] at h
 simp only [vz, kqf, vsi, tyf, e8, e9, g11, nm, seval]
 obtain ⟨K10, h, kR10, kG10, kB10, kN10⟩ := zbf h kN
 obtain ⟨f10, hf10, h⟩ := call3 h
 obtain ⟨I10, hI10⟩ : ∃ I : Nat → St → Prop, I = (fun m st => ∃ (p10 : List GPriceBoard) (c10_14 : Int) (c10_4 : List Int) (y10_0 : VV), m = List.length p10 ∧ 0 ≤ c10_14 ∧ List.drop (Int.toNat c10_14) x0_x_PriceSheet.Boards = p10 ∧ st.df = [] ∧ 13 ≤ st.nx ∧ st.H 0 = some (.cells (some 87) ((cGPriceSheet x0_x_PriceSheet) ++ (cGPriceTariff x0_x_tariff) ++ [.sl (cellsL eI x0_x_hours) (List.length x0_x_hours) false] ++ [.lit (.map (some b))])) ∧ st.tm 1 = .ptr 0 0 ∧ st.tm 3 = .ifc (ktI r6) (.agg []) ∧ st.tm 13 = .lit (.int .i64 (List.length x0_x_PriceSheet.Boards : Int)) ∧ st.tm 4 = y10_0 ∧ st.tm 14 = .lit (.int .i64 c10_14) ∧ ((∃ (β : Nat) (el : Option TypeId), y10_0 = .ref β 0 (List.length c10_4) 1 (List.length c10_4) ∧ β < st.nx ∧ β ≠ 0 ∧ st.H β = some (.cells el (cellsL eI c10_4))) ∨ (y10_0 = .lit (.slice none 0 0) ∧ c10_4 = [])) ∧ K10 (f10 p10 c10_14 c10_4)) := ⟨_, rfl⟩
 refine loopK mixed (by kernel_rfl) I10 (List.length x0_x_PriceSheet.Boards) (by rw [hI10]; refine ⟨x0_x_PriceSheet.Boards, 0, ([] : List Int), .lit (.slice none 0 0), rfl, Int.le_refl _, rfl, rfl, (show 13 ≤ 13 by omega), ?_, e8, ?_, ?_, ?_, ?_, Or.inr ⟨rfl, rfl⟩, h⟩ <;> first | (simp only [ua, e8, e9, nm, seval] <;> rfl) | rfl) ?_
 rintro m ⟨tm, H, nx10, df⟩ hinv
 rw [hI10] at hinv
 obtain ⟨p10, c10_14, c10_4, y10_0, rfl, hi10, hp10, hdf, hn10, H12, e13, e14, e15, e16, e17, ow10_0, h⟩ := hinv
 simp only at hdf hn10 H12 e13 e14 e15 e16 e17 ow10_0
 have n18 := zda (m := 13) (b := nx10) (by omega)
 subst hdf hf10
 rcases ow10_0 with ⟨b10_0, el10_0, rfl, lq20, lq21, H19⟩ | ⟨rfl, rfl⟩
 ·have q20 := zhn lq20
  have q21 := ne_f lq21
  cases p10 with
  | nil =>
   have d22 : (decide (c10_14 < (List.length x0_x_PriceSheet.Boards : Int))) = false := zaj hi10 hp10
   simp only [zao, hs, reduceCtorEq] at h
   replace h := kG10 _ h
   try dsimp only at h
   try simp only [hs] at h
   try simp only [vz, kqf, vsi, tyf, g11, n18, e13, e14, e15, e16, e17, H12, q20, H19, q21, d22, nm, seval]
   refine zau (x := (.ref b10_0 0 (List.length c10_4) 1 (List.length c10_4))) (by first | (simp only [Tryz.results104, resV, resL, resV1, zat, zbu, uw, cr, tyf, g11, n18, H12, q20, H19, q21, d22, nm, seval] <;> rfl) | rfl) ?_
   obtain rfl := kF _ h
   refine zbc ?_ ?_
   ·simp only [tre, tytre, Bool.and_self]
   ·first | (simp only [outV, uw, zan, cr, tyf, nrm, tynrm, g11, n18, e13, e14, e15, e16, e17, H12, q20, H19, q21, d22, nm, seval] <;> rfl) | rfl
  | cons e10 p10 =>
   have d23 : (decide (c10_14 < (List.length x0_x_PriceSheet.Boards : Int))) = true := zaw hi10 hp10
   have o25 := zak hi10 hp10
   have w24 := zbj hi10 hp10 g11
   simp only [zao, hs, reduceCtorEq] at h
   simp only [vz, kqf, vsi, tyf, g11, n18, e13, e14, e15, e16, e17, H12, q20, H19, q21, d23, (ix23 o25), w24, nm, seval]
   refine zdb (fun tm => tm 1 = .ptr 0 0 ∧ tm 3 = .ifc (ktI r6) (.agg []) ∧ tm 4 = .ref b10_0 0 (List.length c10_4) 1 (List.length c10_4) ∧ tm 5 = .lit (.int .i64 c10_14) ∧ tm 13 = .lit (.int .i64 (List.length x0_x_PriceSheet.Boards : Int)) ∧ tm 14 = .lit (.int .i64 c10_14) ∧ True) (by refine ⟨e13, e14, e16, ?_, e15, e17, trivial⟩ <;> first | (simp only [ua, n18, e13, e14, e15, e16, e17, H12, q20, H19, q21, d23, w24, nm, seval] <;> rfl) | rfl) ?_
   rintro tm ⟨e26, e27, e28, e29, e30, e31, _⟩
   have b32 := And.intro g11 (And.intro n18 (And.intro H12 (And.intro q20 (And.intro H19 (And.intro q21 (And.intro d23 w24))))))
   obtain ⟨x33, o34, h⟩ := optI h kN10
   try simp only [hs] at h
   obtain ⟨r35, o36, h⟩ := optI h kN10
   try simp only [hs] at h
   simp only [vz, kqf, vsi, tyf, b32, (ix23 o25), e26, e27, e28, e29, e30, e31, (ix22 o34), nm, seval]
   refine dktree (args0 := [.agg [], .agg (cGPriceBoard e10), .lit (.int .i64 x33)]) (by first | (simp only [nrm, tynrm, @zbh] <;> rfl) | rfl) (by simp only [tre, tytre, Bool.and_self]) (zagx _ _ _ _ o36) ?_
   refine zar (fun tm => tm 1 = .ptr 0 0 ∧ tm 3 = .ifc (ktI r6) (.agg []) ∧ tm 13 = .lit (.int .i64 (List.length x0_x_PriceSheet.Boards : Int)) ∧ tm 14 = .lit (.int .i64 c10_14) ∧ tm 17 = .ref b10_0 0 (List.length c10_4) 1 (List.length c10_4) ∧ tm 33 = .lit (.int .i64 r35) ∧ True) (by refine ⟨e26, e27, e30, e31, ?_, ?_, trivial⟩ <;> first | (simp only [ua, b32, e26, e27, e28, e29, e30, e31, nm, seval] <;> rfl) | rfl) ?_
   rintro tm ⟨e37, e38, e39, e40, e41, e42, _⟩
   cases g43 : (roomOk 8 (List.length (c10_4 ++ [r35])))
   ·simp only [g43, hs] at h
    exact absurd h kN10
   simp only [g43, hs] at h
   simp only [vz, kqf, vsi, tyf, b32, (ix23 o25), (ix22 o34), e37, e38, e39, e40, e41, e42, g43, nm, seval]
   refine k_app (w := 1) (enc := eI) (xs := c10_4) (ys := ([r35])) (el := el10_0) (el2 := (some 3)) (fun _ => rfl) lf22 ao22 Tryz.underlying22 (by first | rfl | assumption | (simp only [zab, zaa, et22, b32, nm, seval] <;> rfl) | (simp only [zab, zaa, zac, zad, zcn, zbl, tyf, b32, (ix23 o25), (ix22 o34), e37, e38, e39, e40, e41, e42, g43, nm, seval]; done)) (by first | rfl | assumption | (simp only [zab, zaa, et22, b32, nm, seval] <;> rfl) | (simp only [zab, zaa, zac, zad, zcn, zbl, tyf, b32, (ix23 o25), (ix22 o34), e37, e38, e39, e40, e41, e42, g43, nm, seval]; done)) (Nat.zero_lt_succ _) g43 ?_
   simp only [vz, kqf, vsi, tyf, b32, (ix23 o25), (ix22 o34), e37, e38, e39, e40, e41, e42, g43, nm, seval]
   refine zee ⟨?_, ?_⟩
   ·simp only [zcl, zde, zbb, zfc, and_true, true_and]
    repeat' (first | exact trivial | refine And.intro ?_ ?_ | rw [zbb] | rw [zeb] | exact Or.inl (by decide +kernel) | exact Or.inl (by dsimp only; decide +kernel) | (refine Or.inr ⟨?_, ?_⟩ <;> simp; done) | (refine Or.inr ⟨?_, ?_⟩ <;> simp <;> omega) | (refine Or.inr ⟨?_, ?_⟩ <;> simp [VEff.wr] <;> omega))
   simp only [vz, kqf, vsi, tyf, b32, (ix23 o25), (ix22 o34), e37, e38, e39, e40, e41, e42, g43, nm, seval]
   exact ⟨List.length p10, Nat.lt_succ_self _, by rw [hI10]; refine ⟨p10, c10_14 + 1, (c10_4 ++ [r35]), .ref (nx10 + 21) 0 (List.length (c10_4 ++ [r35])) 1 (List.length (c10_4 ++ [r35])), rfl, Int.le_trans hi10 (Int.le_add_one (Int.le_refl _)), zax hi10 hp10, rfl, (show 13 ≤ nx10 + 25 by omega), ?_, e37, e38, e39, ?_, ?_, Or.inl ⟨nx10 + 21, (sameEl el10_0 3), rfl, (by first | omega | (simp only [nm, seval]; done) | (simp only [nm, seval]; omega)), (by first | omega | (intro hh; simp only [b32, reduceCtorEq] at hh)), ?_⟩, (by first | exact h | (simp only [b32]; exact h))⟩ <;> first | (simp only [ua, b32, e37, e38, e39, e40, e41, e42, nm, seval] <;> rfl) | rfl⟩
 ·cases p10 with
  | nil =>
   have d44 : (decide (c10_14 < (List.length x0_x_PriceSheet.Boards : Int))) = false := zaj hi10 hp10
   simp only [zao, hs, reduceCtorEq] at h
   replace h := kG10 _ h
   try dsimp only at h
   try simp only [hs] at h
   try simp only [vz, kqf, vsi, tyf, g11, n18, e13, e14, e15, e16, e17, H12, d44, nm, seval]
   refine zau (x := (.lit (.slice none 0 0))) (by first | (simp only [Tryz.results104, resV, resL, resV1, zat, zbu, uw, cr, tyf, g11, n18, H12, d44, nm, seval] <;> rfl) | rfl) ?_
   obtain rfl := kF _ h
   refine zbc ?_ ?_
   ·simp only [tre, tytre, Bool.and_self]
   ·first | (simp only [outV, uw, zan, cr, tyf, nrm, tynrm, g11, n18, e13, e14, e15, e16, e17, H12, d44, nm, seval] <;> rfl) | rfl
  | cons e10 p10 =>
   have d45 : (decide (c10_14 < (List.length x0_x_PriceSheet.Boards : Int))) = true := zaw hi10 hp10
   have o47 := zak hi10 hp10
   have w46 := zbj hi10 hp10 g11
   simp only [zao, hs, reduceCtorEq] at h
   simp only [vz, kqf, vsi, tyf, g11, n18, e13, e14, e15, e16, e17, H12, d45, (ix23 o47), w46, nm, seval]
   refine zdb (fun tm => tm 1 = .ptr 0 0 ∧ tm 3 = .ifc (ktI r6) (.agg []) ∧ tm 4 = .lit (.slice none 0 0) ∧ tm 5 = .lit (.int .i64 c10_14) ∧ tm 13 = .lit (.int .i64 (List.length x0_x_PriceSheet.Boards : Int)) ∧ tm 14 = .lit (.int .i64 c10_14) ∧ True) (by refine ⟨e13, e14, e16, ?_, e15, e17, trivial⟩ <;> first | (simp only [ua, n18, e13, e14, e15, e16, e17, H12, d45, w46, nm, seval] <;> rfl) | rfl) ?_
   rintro tm ⟨e48, e49, e50, e51, e52, e53, _⟩
   obtain ⟨x54, o55, h⟩ := optI h kN10
   try simp only [hs] at h
   obtain ⟨r56, o57, h⟩ := optI h kN10
   try simp only [hs] at h
   simp only [vz, kqf, vsi, tyf, g11, n18, H12, d45, (ix23 o47), w46, e48, e49, e50, e51, e52, e53, (ix22 o55), nm, seval]
   refine dktree (args0 := [.agg [], .agg (cGPriceBoard e10), .lit (.int .i64 x54)]) (by first | (simp only [nrm, tynrm, @zbh] <;> rfl) | rfl) (by simp only [tre, tytre, Bool.and_self]) (zagx _ _ _ _ o57) ?_
   refine zar (fun tm => tm 1 = .ptr 0 0 ∧ tm 3 = .ifc (ktI r6) (.agg []) ∧ tm 13 = .lit (.int .i64 (List.length x0_x_PriceSheet.Boards : Int)) ∧ tm 14 = .lit (.int .i64 c10_14) ∧ tm 17 = .lit (.slice none 0 0) ∧ tm 33 = .lit (.int .i64 r56) ∧ True) (by refine ⟨e48, e49, e52, e53, ?_, ?_, trivial⟩ <;> first | (simp only [ua, n18, H12, d45, w46, e48, e49, e50, e51, e52, e53, nm, seval] <;> rfl) | rfl) ?_
   rintro tm ⟨e58, e59, e60, e61, e62, e63, _⟩
   cases g64 : (roomOk 8 (List.length (([] : List Int) ++ [r56])))
   ·simp only [g64, hs] at h
    exact absurd h kN10
   simp only [g64, hs] at h
   simp only [vz, kqf, vsi, tyf, g11, n18, H12, d45, (ix23 o47), w46, (ix22 o55), e58, e59, e60, e61, e62, e63, g64, nm, seval]
   refine zmp (w := 1) (enc := eI) (ys := ([r56])) (el2 := (some 3)) (fun _ => rfl) lf22 ao22 Tryz.underlying22 (by first | rfl | assumption | (simp only [zab, zaa, et22, n18, H12, nm, seval] <;> rfl) | (simp only [zab, zaa, zac, zad, zcn, zbl, tyf, g11, n18, H12, d45, (ix23 o47), w46, (ix22 o55), e58, e59, e60, e61, e62, e63, g64, nm, seval]; done)) (Nat.zero_lt_succ _) g64 ?_
   simp only [vz, kqf, vsi, tyf, g11, n18, H12, d45, (ix23 o47), w46, (ix22 o55), e58, e59, e60, e61, e62, e63, g64, nm, seval]
   refine zee ⟨?_, ?_⟩
   ·simp only [zcl, zde, zbb, zfc, and_true, true_and]
    repeat' (first | exact trivial | refine And.intro ?_ ?_ | rw [zbb] | rw [zeb] | exact Or.inl (by decide +kernel) | exact Or.inl (by dsimp only; decide +kernel) | (refine Or.inr ⟨?_, ?_⟩ <;> simp; done) | (refine Or.inr ⟨?_, ?_⟩ <;> simp <;> omega) | (refine Or.inr ⟨?_, ?_⟩ <;> simp [VEff.wr] <;> omega))
   simp only [vz, kqf, vsi, tyf, g11, n18, H12, d45, (ix23 o47), w46, (ix22 o55), e58, e59, e60, e61, e62, e63, g64, nm, seval]
   exact ⟨List.length p10, Nat.lt_succ_self _, by rw [hI10]; refine ⟨p10, c10_14 + 1, (([] : List Int) ++ [r56]), .ref (nx10 + 21) 0 (List.length (([] : List Int) ++ [r56])) 1 (List.length (([] : List Int) ++ [r56])), rfl, Int.le_trans hi10 (Int.le_add_one (Int.le_refl _)), zax hi10 hp10, rfl, (show 13 ≤ nx10 + 25 by omega), ?_, e58, e59, e60, ?_, ?_, Or.inl ⟨nx10 + 21, (some 3), rfl, (by first | omega | (simp only [nm, seval]; done) | (simp only [nm, seval]; omega)), (by first | omega | (intro hh; simp only [n18, reduceCtorEq] at hh)), ?_⟩, (by first | exact h | (simp only [d45]; exact h))⟩ <;> first | (simp only [ua, n18, H12, d45, w46, e58, e59, e60, e61, e62, e63, nm, seval] <;> rfl) | rfl⟩
def zcu (x0_x : Gpriceexact) : Option (Int) := cond ((x0_x.units != 0)) (some (IntKind.i64.wrap (Int.tdiv x0_x.coins x0_x.units))) none
theorem ziq (x0_x : Gpriceexact) (R : Int) (h : zcu x0_x = some R) : VPure Tryz.prog G0 144 [.agg (cGpriceexact x0_x)] (.tree (.lit (.int .i64 R))) := by
 refine VPure.runR mixed Tryz.call144 Tryz.func144 rfl (by simp [Tryz.ntmps144]; kernel_rfl) ?_
 obtain ⟨KF, h, kF, kN⟩ := zaq h
 simp only [zcu] at h
 cases g1 : ((x0_x.units != 0))
 ·simp only [g1, hs] at h
  exact absurd h kN
 simp only [g1, hs] at h
 try simp only [vz, qr, tyf, g1, nm, seval]
 refine zau (x := (.lit (.int .i64 (IntKind.i64.wrap (Int.tdiv x0_x.coins x0_x.units))))) (by first | (simp only [Tryz.results144, resV, resL, resV1, zat, zbu, uw, cr, tyf, g1, nm, seval] <;> rfl) | rfl) ?_
 obtain rfl := kF _ h
 refine zbc ?_ ?_
 ·simp only [tre, tytre, Bool.and_self]
 ·first | (simp only [outV, uw, zan, cr, tyf, nrm, tynrm, g1, nm, seval] <;> rfl) | rfl
def zdy (x0_x : Gpriceexact) : Option (Int) := cond ((x0_x.units != 0)) (some (IntKind.i64.wrap (Int.tdiv (IntKind.i64.wrap ((IntKind.i64.wrap (x0_x.coins + x0_x.units)) - 1)) x0_x.units))) none
theorem zji (x0_x : Gpriceexact) (R : Int) (h : zdy x0_x = some R) : VPure Tryz.prog G0 145 [.agg (cGpriceexact x0_x)] (.tree (.lit (.int .i64 R))) := by
 refine VPure.runR mixed Tryz.call145 Tryz.func145 rfl (by simp [Tryz.ntmps145]; kernel_rfl) ?_
 obtain ⟨KF, h, kF, kN⟩ := zaq h
 simp only [zdy] at h
 cases g1 : ((x0_x.units != 0))
 ·simp only [g1, hs] at h
  exact absurd h kN
 simp only [g1, hs] at h
 try simp only [vz, qr, tyf, g1, nm, seval]
 refine zau (x := (.lit (.int .i64 (IntKind.i64.wrap (Int.tdiv (IntKind.i64.wrap ((IntKind.i64.wrap (x0_x.coins + x0_x.units)) - 1)) x0_x.units))))) (by first | (simp only [Tryz.results145, resV, resL, resV1, zat, zbu, uw, cr, tyf, g1, nm, seval] <;> rfl) | rfl) ?_
 obtain rfl := kF _ h
 refine zbc ?_ ?_
 ·simp only [tre, tytre, Bool.and_self]
 ·first | (simp only [outV, uw, zan, cr, tyf, nrm, tynrm, g1, nm, seval] <;> rfl) | rfl
def zcd (x0_x : Gpriceexact) : Option (Int) := cond (((IntKind.i64.wrap (2 * x0_x.units)) != 0)) (some (IntKind.i64.wrap (Int.tdiv (IntKind.i64.wrap ((IntKind.i64.wrap (2 * x0_x.coins)) + x0_x.units)) (IntKind.i64.wrap (2 * x0_x.units))))) none
theorem zft (x0_x : Gpriceexact) (R : Int) (h : zcd x0_x = some R) : VPure Tryz.prog G0 146 [.agg (cGpriceexact x0_x)] (.tree (.lit (.int .i64 R))) := by
 refine VPure.runR mixed Tryz.call146 Tryz.func146 rfl (by simp [Tryz.ntmps146]; kernel_rfl) ?_
 obtain ⟨KF, h, kF, kN⟩ := zaq h
 simp only [zcd] at h
 cases g1 : (((IntKind.i64.wrap (2 * x0_x.units)) != 0))
 ·simp only [g1, hs] at h
  exact absurd h kN
 simp only [g1, hs] at h
 try simp only [vz, qr, tyf, g1, nm, seval]
 refine zau (x := (.lit (.int .i64 (IntKind.i64.wrap (Int.tdiv (IntKind.i64.wrap ((IntKind.i64.wrap (2 * x0_x.coins)) + x0_x.units)) (IntKind.i64.wrap (2 * x0_x.units))))))) (by first | (simp only [Tryz.results146, resV, resL, resV1, zat, zbu, uw, cr, tyf, g1, nm, seval] <;> rfl) | rfl) ?_
 obtain rfl := kF _ h
 refine zbc ?_ ?_
 ·simp only [tre, tytre, Bool.and_self]
 ·first | (simp only [outV, uw, zan, cr, tyf, nrm, tynrm, g1, nm, seval] <;> rfl) | rfl
def zcx (x0_x : Gpriceexact) : Option (Int) := Option.bind (zcd x0_x) (fun r1 => cond ((IntKind.i64.wrap (2 * (IntKind.i64.wrap ((IntKind.i64.wrap (r1 * x0_x.units)) - x0_x.coins)))) == x0_x.units) (cond ((Int.tmod r1 2) == 1) (some (IntKind.i64.wrap (r1 - 1))) (some r1)) (some r1))
theorem zil (x0_x : Gpriceexact) (R : Int) (h : zcx x0_x = some R) : VPure Tryz.prog G0 147 [.agg (cGpriceexact x0_x)] (.tree (.lit (.int .i64 R))) := by
 refine VPure.runR mixed Tryz.call147 Tryz.func147 rfl (by simp [Tryz.ntmps147]; kernel_rfl) ?_
 obtain ⟨KF, h, kF, kN⟩ := zaq h
 simp only [zcx] at h
 obtain ⟨r2, o3, h⟩ := optI h kN
 try simp only [hs] at h
 simp only [vz, qr, tyf, nm, seval]
 refine ktA (zft _ _ o3) ?_
 refine zar (fun tm => tm 1 = .ptr 0 0 ∧ tm 6 = .lit (.int .i64 r2) ∧ True) (by refine ⟨?_, ?_, trivial⟩ <;> first | (simp only [ua, nm, seval] <;> rfl) | rfl) ?_
 rintro tm ⟨e4, e5, _⟩
 cases d6 : ((IntKind.i64.wrap (2 * (IntKind.i64.wrap ((IntKind.i64.wrap (r2 * x0_x.units)) - x0_x.coins)))) == x0_x.units)
 ·simp only [d6, hs] at h
  try simp only [vz, qr, tyf, e4, e5, d6, nm, seval]
  refine zau (x := (.lit (.int .i64 r2))) (by first | (simp only [Tryz.results147, resV, resL, resV1, zat, zbu, uw, cr, tyf, d6, nm, seval] <;> rfl) | rfl) ?_
  obtain rfl := kF _ h
  refine zbc ?_ ?_
  ·simp only [tre, tytre, Bool.and_self]
  ·first | (simp only [outV, uw, zan, cr, tyf, nrm, tynrm, e4, e5, d6, nm, seval] <;> rfl) | rfl
 simp only [d6, hs] at h
 cases d7 : ((Int.tmod r2 2) == 1)
 ·simp only [d7, hs] at h
  try simp only [vz, qr, tyf, e4, e5, d6, d7, nm, seval]
  refine zau (x := (.lit (.int .i64 r2))) (by first | (simp only [Tryz.results147, resV, resL, resV1, zat, zbu, uw, cr, tyf, d6, d7, nm, seval] <;> rfl) | rfl) ?_
  obtain rfl := kF _ h
  refine zbc ?_ ?_
  ·simp only [tre, tytre, Bool.and_self]
  ·first | (simp only [outV, uw, zan, cr, tyf, nrm, tynrm, e4, e5, d6, d7, nm, seval] <;> rfl) | rfl
 simp only [d7, hs] at h
 try simp only [vz, qr, tyf, e4, e5, d6, d7, nm, seval]
 refine zau (x := (.lit (.int .i64 (IntKind.i64.wrap (r2 - 1))))) (by first | (simp only [Tryz.results147, resV, resL, resV1, zat, zbu, uw, cr, tyf, d6, d7, nm, seval] <;> rfl) | rfl) ?_
 obtain rfl := kF _ h
 refine zbc ?_ ?_
 ·simp only [tre, tytre, Bool.and_self]
 ·first | (simp only [outV, uw, zan, cr, tyf, nrm, tynrm, e4, e5, d6, d7, nm, seval] <;> rfl) | rfl
def zdv (x0_x : Gpriceexact) (x1_rule : Int) : Option (Int) := cond ((IntKind.i64.wrap (x1_rule - 1)) == 0) (Option.bind (zcu x0_x) (fun r1 => some r1)) (cond ((IntKind.i64.wrap (x1_rule - 1)) == 1) (Option.bind (zdy x0_x) (fun r2 => some r2)) (cond ((IntKind.i64.wrap (x1_rule - 1)) == 2) (Option.bind (zcd x0_x) (fun r3 => some r3)) (cond ((IntKind.i64.wrap (x1_rule - 1)) == 3) (Option.bind (zcx x0_x) (fun r4 => some r4)) (none))))
theorem zjr (x0_x : Gpriceexact) (x1_rule : Int) (R : Int) (h : zdv x0_x x1_rule = some R) : VPure Tryz.prog G0 128 [.agg (cGpriceexact x0_x), .lit (.int .i64 x1_rule)] (.tree (.lit (.int .i64 R))) := by
 refine VPure.runR mixed Tryz.call128 Tryz.func128 rfl (by simp [Tryz.ntmps128]; kernel_rfl) ?_
 obtain ⟨KF, h, kF, kN⟩ := zaq h
 simp only [zdv] at h
 cases d5 : ((IntKind.i64.wrap (x1_rule - 1)) == 0)
 ·simp only [d5, hs] at h
  cases d6 : ((IntKind.i64.wrap (x1_rule - 1)) == 1)
  ·simp only [d6, hs] at h
   cases d7 : ((IntKind.i64.wrap (x1_rule - 1)) == 2)
   ·simp only [d7, hs] at h
    cases d8 : ((IntKind.i64.wrap (x1_rule - 1)) == 3)
    ·simp only [d8, hs] at h
     exact absurd h kN
    simp only [d8, hs] at h
    obtain ⟨r9, o10, h⟩ := optI h kN
    try simp only [hs] at h
    simp only [vz, tyf, d5, d6, d7, d8, (zvf d8), nm, seval]
    refine ktA (zil _ _ o10) ?_
    refine zar (fun tm => tm 19 = .lit (.int .i64 r9) ∧ True) (by refine ⟨?_, trivial⟩ <;> first | (simp only [ua, d5, d6, d7, d8, nm, seval] <;> rfl) | rfl) ?_
    rintro tm ⟨e11, _⟩
    try simp only [vz, tyf, d5, d6, d7, d8, (zvf d8), e11, nm, seval]
    refine zau (x := (.lit (.int .i64 r9))) (by first | (simp only [Tryz.results128, resV, resL, resV1, zat, zbu, uw, cr, tyf, d5, d6, d7, d8, (zvf d8), nm, seval] <;> rfl) | rfl) ?_
    obtain rfl := kF _ h
    refine zbc ?_ ?_
    ·simp only [tre, tytre, Bool.and_self]
    ·first | (simp only [outV, uw, zan, cr, tyf, nrm, tynrm, d5, d6, d7, d8, (zvf d8), e11, nm, seval] <;> rfl) | rfl
   simp only [d7, hs] at h
   obtain ⟨r12, o13, h⟩ := optI h kN
   try simp only [hs] at h
   simp only [vz, tyf, d5, d6, d7, (zwv d7), nm, seval]
   refine ktA (zft _ _ o13) ?_
   refine zar (fun tm => tm 19 = .lit (.int .i64 r12) ∧ True) (by refine ⟨?_, trivial⟩ <;> first | (simp only [ua, d5, d6, d7, nm, seval] <;> rfl) | rfl) ?_
   rintro tm ⟨e14, _⟩
   try simp only [vz, tyf, d5, d6, d7, (zwv d7), e14, nm, seval]
   refine zau (x := (.lit (.int .i64 r12))) (by first | (simp only [Tryz.results128, resV, resL, resV1, zat, zbu, uw, cr, tyf, d5, d6, d7, (zwv d7), nm, seval] <;> rfl) | rfl) ?_
   obtain rfl := kF _ h
   refine zbc ?_ ?_
   ·simp only [tre, tytre, Bool.and_self]
   ·first | (simp only [outV, uw, zan, cr, tyf, nrm, tynrm, d5, d6, d7, (zwv d7), e14, nm, seval] <;> rfl) | rfl
  simp only [d6, hs] at h
  obtain ⟨r15, o16, h⟩ := optI h kN
  try simp only [hs] at h
  simp only [vz, tyf, d5, d6, (zvg d6), nm, seval]
  refine ktA (zji _ _ o16) ?_
  refine zar (fun tm => tm 19 = .lit (.int .i64 r15) ∧ True) (by refine ⟨?_, trivial⟩ <;> first | (simp only [ua, d5, d6, nm, seval] <;> rfl) | rfl) ?_
  rintro tm ⟨e17, _⟩
  try simp only [vz, tyf, d5, d6, (zvg d6), e17, nm, seval]
  refine zau (x := (.lit (.int .i64 r15))) (by first | (simp only [Tryz.results128, resV, resL, resV1, zat, zbu, uw, cr, tyf, d5, d6, (zvg d6), nm, seval] <;> rfl) | rfl) ?_
  obtain rfl := kF _ h
  refine zbc ?_ ?_
  ·simp only [tre, tytre, Bool.and_self]
  ·first | (simp only [outV, uw, zan, cr, tyf, nrm, tynrm, d5, d6, (zvg d6), e17, nm, seval] <;> rfl) | rfl
 simp only [d5, hs] at h
 obtain ⟨r18, o19, h⟩ := optI h kN
 try simp only [hs] at h
 simp only [vz, tyf, d5, (zxh d5), nm, seval]
 refine ktA (ziq _ _ o19) ?_
 refine zar (fun tm => tm 19 = .lit (.int .i64 r18) ∧ True) (by refine ⟨?_, trivial⟩ <;> first | (simp only [ua, d5, nm, seval] <;> rfl) | rfl) ?_
 rintro tm ⟨e20, _⟩
 try simp only [vz, tyf, d5, (zxh d5), e20, nm, seval]
 refine zau (x := (.lit (.int .i64 r18))) (by first | (simp only [Tryz.results128, resV, resL, resV1, zat, zbu, uw, cr, tyf, d5, (zxh d5), nm, seval] <;> rfl) | rfl) ?_
 obtain rfl := kF _ h
 refine zbc ?_ ?_
 ·simp only [tre, tytre, Bool.and_self]
 ·first | (simp only [outV, uw, zan, cr, tyf, nrm, tynrm, d5, (zxh d5), e20, nm, seval] <;> rfl) | rfl
def zbt (x0_x_PriceSheet : GPriceSheet) (x0_x_tariff : GPriceTariff) (x0_x_hours : List Int) (x1_quantity : Int) (l0 : List (Gpricebill × Int)) : Option ((Int) × List (Gpricebill × Int)) := cond (mapHas q146 l0 (Gpricebill.mk x0_x_tariff x1_quantity)) (some (mapGet q146 0 l0 (Gpricebill.mk x0_x_tariff x1_quantity), l0)) (Option.bind (zdv (Gpriceexact.mk (IntKind.i64.wrap (x1_quantity * x0_x_tariff.Coins)) x0_x_tariff.Units) x0_x_tariff.Rule) (fun r1 => some (r1, (mapSet q146 l0 (Gpricebill.mk x0_x_tariff x1_quantity) r1))))
theorem zcw (x0_x_PriceSheet : GPriceSheet) (x0_x_tariff : GPriceTariff) (x0_x_hours : List Int) (x1_quantity : Int) (l0 : List (Gpricebill × Int)) (R : (Int) × List (Gpricebill × Int)) (h : zbt x0_x_PriceSheet x0_x_tariff x0_x_hours x1_quantity l0 = some R) : VUpd Tryz.prog G0 103 (fun β => [.agg [.sl (cellsL eI x0_x_PriceSheet.Offs) (List.length x0_x_PriceSheet.Offs) false, .sl (cellsL cGPriceBoard x0_x_PriceSheet.Boards) (List.length x0_x_PriceSheet.Boards) false, .sl (cellsL cGPriceTariff x0_x_PriceSheet.Tariffs) (List.length x0_x_PriceSheet.Tariffs) false, .lit (.int .i64 x0_x_tariff.Kind), .lit (.int .i64 x0_x_tariff.Coins), .lit (.int .i64 x0_x_tariff.Units), .lit (.int .i64 x0_x_tariff.Rule), .lit (.bool x0_x_tariff.Each), .sl (cellsL eI x0_x_hours) (List.length x0_x_hours) false, .mp β], .lit (.int .i64 x1_quantity)]) (encM kv146 ev3 l0) (encM kv146 ev3 R.2) (fun _ => .lit (.int .i64 R.1)) := by
 intro b0_0 nx hlt
 have q00 := zhn (β := b0_0) (nx := nx) hlt
 refine VOpen.run mixed Tryz.call103 Tryz.func103 rfl (by simp [Tryz.ntmps103]; kernel_rfl) ?_
 obtain ⟨KF, h, kF, kN⟩ := zaq h
 simp only [zbt] at h
 have w2 := fun H => lko85 (β := b0_0) l0 (Gpricebill.mk x0_x_tariff x1_quantity) H
 try simp only [zbk] at w2
 cases d3 : (mapHas q146 l0 (Gpricebill.mk x0_x_tariff x1_quantity))
 ·simp only [d3, hs] at h
  obtain ⟨r4, o5, h⟩ := optI h kN
  try simp only [hs] at h
  simp only [vz, mq, mqm, vsi, tyf, mqt, q00, w2, d3, nm, seval]
  refine ktree (args0 := [.agg (cGpriceexact (Gpriceexact.mk (IntKind.i64.wrap (x1_quantity * x0_x_tariff.Coins)) x0_x_tariff.Units)), .lit (.int .i64 x0_x_tariff.Rule)]) (by first | (simp only [nrm, tynrm, @zbh] <;> rfl) | rfl) (by simp only [tre, tytre, mqr, Bool.and_self]) (zjr _ _ _ o5) ?_
  refine zar (fun tm => tm 2 = .ptr nx 0 ∧ tm 5 = .ptr (nx + 6) 0 ∧ tm 33 = .lit (.int .i64 r4) ∧ True) (by refine ⟨?_, ?_, ?_, trivial⟩ <;> first | (simp only [ua, zbk, q00, w2, d3, nm, seval] <;> rfl) | rfl) ?_
  rintro tm ⟨e6, e7, e8, _⟩
  have w9 := fun H => up85 (β := b0_0) l0 (Gpricebill.mk x0_x_tariff x1_quantity) r4 H
  try simp only [zbk] at w9
  try simp only [vz, mq, mqm, vsi, tyf, mqt, q00, w2, d3, e6, e7, e8, w9, nm, seval]
  refine zau (x := (.lit (.int .i64 r4))) (by first | (simp only [Tryz.results103, resV, resL, resV1, zat, zbu, uw, cr, tyf, mqt, q00, w2, d3, w9, nm, seval] <;> rfl) | rfl) ?_
  obtain rfl := kF _ h
  refine ⟨(by first | rfl | assumption | (simp only [zab, zaa, q00, nm, seval] <;> rfl)), ?_⟩
  exact sq_of (zrx (by simp only [tre, tytre, mqr, Bool.and_self]) rfl)
 simp only [d3, hs] at h
 try simp only [vz, mq, mqm, vsi, tyf, mqt, q00, w2, d3, nm, seval]
 refine zau (x := (.lit (.int .i64 (mapGet q146 0 l0 (Gpricebill.mk x0_x_tariff x1_quantity))))) (by first | (simp only [Tryz.results103, resV, resL, resV1, zat, zbu, uw, cr, tyf, mqt, q00, w2, d3, nm, seval] <;> rfl) | rfl) ?_
 obtain rfl := kF _ h
 refine ⟨(by first | rfl | assumption | (simp only [zab, zaa, q00, nm, seval] <;> rfl)), ?_⟩
 exact sq_of (zrx (by simp only [tre, tytre, mqr, Bool.and_self]) rfl)
def zas (x0_x_PriceSheet : GPriceSheet) (x0_x_tariff : GPriceTariff) (x0_x_hours : List Int) : List Int → Int → (List Int) → (List (Gpricebill × Int)) → Option (LOut ((List Int) × List (Gpricebill × Int)) ((List Int) × (List (Gpricebill × Int))))
 | [], c0_9, c0_3, c0_o0 => some (.go (c0_3, c0_o0))
 | e0 :: p0, c0_9, c0_3, c0_o0 => Option.bind (zbt x0_x_PriceSheet x0_x_tariff x0_x_hours e0 c0_o0) (fun r3 => cond (roomOk 8 (List.length (c0_3 ++ [r3.1]))) (zas x0_x_PriceSheet x0_x_tariff x0_x_hours p0 (c0_9 + 1) (c0_3 ++ [r3.1]) r3.2) none)
def zcb (x0_x_PriceSheet : GPriceSheet) (x0_x_tariff : GPriceTariff) (x0_x_hours : List Int) (l0 : List (Gpricebill × Int)) : Option ((List Int) × List (Gpricebill × Int)) := Option.bind (zbd x0_x_PriceSheet x0_x_tariff x0_x_hours) (fun r1 => cond (lenOk r1) (lbind (zas x0_x_PriceSheet x0_x_tariff x0_x_hours r1 0 ([] : List Int) l0) (fun r5 => some r5) (fun c4 => some (c4.1, c4.2)) (fun _ _ => none)) none)
theorem zgr (x0_x_PriceSheet : GPriceSheet) (x0_x_tariff : GPriceTariff) (x0_x_hours : List Int) (l0 : List (Gpricebill × Int)) (R : (List Int) × List (Gpricebill × Int)) (h : zcb x0_x_PriceSheet x0_x_tariff x0_x_hours l0 = some R) : VUpd Tryz.prog G0 76 (fun β => [.agg [.sl (cellsL eI x0_x_PriceSheet.Offs) (List.length x0_x_PriceSheet.Offs) false, .sl (cellsL cGPriceBoard x0_x_PriceSheet.Boards) (List.length x0_x_PriceSheet.Boards) false, .sl (cellsL cGPriceTariff x0_x_PriceSheet.Tariffs) (List.length x0_x_PriceSheet.Tariffs) false, .lit (.int .i64 x0_x_tariff.Kind), .lit (.int .i64 x0_x_tariff.Coins), .lit (.int .i64 x0_x_tariff.Units), .lit (.int .i64 x0_x_tariff.Rule), .lit (.bool x0_x_tariff.Each), .sl (cellsL eI x0_x_hours) (List.length x0_x_hours) false, .mp β]]) (encM kv146 ev3 l0) (encM kv146 ev3 R.2) (fun _ => .sl (cellsL eI R.1) (List.length R.1) false) := by
 intro b0_0 nx hlt
 have q00 := zhn (β := b0_0) (nx := nx) hlt
 refine VOpen.run mixed Tryz.call76 Tryz.func76 rfl (by simp [Tryz.ntmps76]; kernel_rfl) ?_
 obtain ⟨KF, h, kF, kN⟩ := zaq h
 simp only [zcb] at h
 obtain ⟨r6, o7, h⟩ := optI h kN
 try simp only [hs] at h
 simp only [vz, mq, mqm, vsi, tyf, mqt, q00, nm, seval]
 refine kmap (β := (b0_0)) (es := encM kv146 ev3 l0) (args0 := fun b => [.agg [.sl (cellsL eI x0_x_PriceSheet.Offs) (List.length x0_x_PriceSheet.Offs) false, .sl (cellsL cGPriceBoard x0_x_PriceSheet.Boards) (List.length x0_x_PriceSheet.Boards) false, .sl (cellsL cGPriceTariff x0_x_PriceSheet.Tariffs) (List.length x0_x_PriceSheet.Tariffs) false, .lit (.int .i64 x0_x_tariff.Kind), .lit (.int .i64 x0_x_tariff.Coins), .lit (.int .i64 x0_x_tariff.Units), .lit (.int .i64 x0_x_tariff.Rule), .lit (.bool x0_x_tariff.Each), .sl (cellsL eI x0_x_hours) (List.length x0_x_hours) false, .lit (.map (some b))]]) (y := .sl (cellsL eI r6) (List.length r6) false) (by first | rfl | assumption | (simp only [zab, zaa, q00, nm, seval] <;> rfl)) (fun b => by first | rfl | (simp only [List.map_cons, List.map_nil, vlt, if_true, nrm, tynrm, @zbh, tyf, mqt] <;> rfl)) (fun b => by simp only [List.map_cons, List.map_nil, vlt, if_true, tre, tytre, tyf, mqt, Bool.and_self]) (fun b => by first | rfl | (simp only [vlt, List.map_cons, List.map_nil, if_true] <;> rfl)) (fun b => zdk _ _ _ b _ o7) ?_
 refine zar (fun tm => tm 1 = .ptr nx 0 ∧ tm 3 = .lit (.slice none 0 0) ∧ tm 7 = .sl (cellsL eI r6) (List.length r6) false ∧ True) (by refine ⟨?_, ?_, ?_, trivial⟩ <;> first | (simp only [ua, zbk, q00, nm, seval] <;> rfl) | rfl) ?_
 rintro tm ⟨e8, e9, e10, _⟩
 cases g12 : (lenOk r6)
 ·simp only [g12, hs] at h
  exact absurd h kN
 simp only [g12, hs] at h
 simp only [vz, mq, mqm, vsi, tyf, mqt, q00, e8, e9, e10, g12, nm, seval]
 obtain ⟨K11, h, kR11, kG11, kB11, kN11⟩ := zbf h kN
 obtain ⟨f11, hf11, h⟩ := call4 h
 obtain ⟨I11, hI11⟩ : ∃ I : Nat → St → Prop, I = (fun m st => ∃ (p11 : List Int) (c11_9 : Int) (c11_3 : List Int) (c11_o0 : List (Gpricebill × Int)) (y11_0 : VV), m = List.length p11 ∧ 0 ≤ c11_9 ∧ List.drop (Int.toNat c11_9) r6 = p11 ∧ st.df = [] ∧ nx + 7 ≤ st.nx ∧ st.H b0_0 = some (.map (encM kv146 ev3 c11_o0)) ∧ st.H nx = some (.cells (some 87) ((cGPriceSheet x0_x_PriceSheet) ++ (cGPriceTariff x0_x_tariff) ++ [.sl (cellsL eI x0_x_hours) (List.length x0_x_hours) false] ++ [.mp b0_0])) ∧ st.tm 1 = .ptr nx 0 ∧ st.tm 7 = .sl (cellsL eI r6) (List.length r6) false ∧ st.tm 8 = .lit (.int .i64 (List.length r6 : Int)) ∧ st.tm 3 = y11_0 ∧ st.tm 9 = .lit (.int .i64 c11_9) ∧ ((∃ (β : Nat) (el : Option TypeId), y11_0 = .ref β 0 (List.length c11_3) 1 (List.length c11_3) ∧ β < st.nx ∧ β ≠ b0_0 ∧ β ≠ nx ∧ st.H β = some (.cells el (cellsL eI c11_3))) ∨ (y11_0 = .lit (.slice none 0 0) ∧ c11_3 = [])) ∧ K11 (f11 p11 c11_9 c11_3 c11_o0)) := ⟨_, rfl⟩
 refine loopK mixed (by kernel_rfl) I11 (List.length r6) (by rw [hI11]; refine ⟨r6, 0, ([] : List Int), l0, .lit (.slice none 0 0), rfl, Int.le_refl _, rfl, rfl, (show nx + 7 ≤ nx + 7 by omega), ?_, ?_, e8, e10, ?_, ?_, ?_, Or.inr ⟨rfl, rfl⟩, h⟩ <;> first | (simp only [ua, zbk, q00, e8, e9, e10, nm, seval] <;> rfl) | rfl) ?_
 rintro m ⟨tm, H, nx11, df⟩ hinv
 rw [hI11] at hinv
 obtain ⟨p11, c11_9, c11_3, c11_o0, y11_0, rfl, hi11, hp11, hdf, hn11, H13, H14, e15, e16, e17, e18, e19, ow11_0, h⟩ := hinv
 simp only at hdf hn11 H13 H14 e15 e16 e17 e18 e19 ow11_0
 have n20 := zit (a := nx) (m := 7) (b := nx11) (by omega)
 have n21 := zhn (β := b0_0) (nx := nx11) (by omega)
 subst hdf hf11
 rcases ow11_0 with ⟨b11_0, el11_0, rfl, lq23, lq24, lq25, H22⟩ | ⟨rfl, rfl⟩
 ·have q23 := zhn lq23
  have q24 := ne_f lq24
  have q25 := ne_f lq25
  cases p11 with
  | nil =>
   have d26 : (decide (c11_9 < (List.length r6 : Int))) = false := zaj hi11 hp11
   simp only [zas, hs, reduceCtorEq] at h
   replace h := kG11 _ h
   try dsimp only at h
   try simp only [hs] at h
   try simp only [vz, mq, mqm, vsi, tyf, mqt, q00, g12, n20, n21, e15, e16, e17, e18, e19, H13, H14, q23, H22, q24, q25, d26, nm, seval]
   refine zau (x := (.ref b11_0 0 (List.length c11_3) 1 (List.length c11_3))) (by first | (simp only [Tryz.results76, resV, resL, resV1, zat, zbu, uw, cr, tyf, mqt, q00, g12, n20, n21, H13, H14, q23, H22, q24, q25, d26, nm, seval] <;> rfl) | rfl) ?_
   obtain rfl := kF _ h
   refine ⟨(by first | rfl | assumption | (simp only [zab, zaa, q00, n20, n21, H13, H14, q23, H22, q24, q25, nm, seval] <;> rfl)), ?_⟩
   exact zavb (by first | rfl | assumption | (simp only [zab, zaa, q00, n20, n21, H13, H14, q23, H22, q24, q25, nm, seval] <;> rfl)) (by first | rfl | assumption | (simp only [zab, zaa, q00, n20, n21, H13, H14, q23, H22, q24, q25, nm, seval] <;> rfl)) eI_ok (fun _ => rfl)
  | cons e11 p11 =>
   have d27 : (decide (c11_9 < (List.length r6 : Int))) = true := zaw hi11 hp11
   have o29 := zak hi11 hp11
   have w28 := zbj hi11 hp11 g12
   simp only [zas, hs, reduceCtorEq] at h
   obtain ⟨r30, o31, h⟩ := optI h kN11
   try simp only [hs] at h
   simp only [vz, mq, mqm, vsi, tyf, mqt, q00, g12, n20, n21, e15, e16, e17, e18, e19, H13, H14, q23, H22, q24, q25, d27, (ix22 o29), w28, nm, seval]
   refine kupd (VUpd.at (β := b0_0) (y := (fun _ => .lit (.int .i64 r30.1))) (zcw _ _ _ _ _ _ o31) (by omega) (by first | rfl | assumption | (simp only [zab, zaa, q00, n20, n21, H13, H14, q23, H22, q24, q25, nm, seval] <;> rfl)) (by first | rfl | (simp only [nrm, tynrm, @zbh, @zhc] <;> rfl)) (zgs (fun _ => rfl) _)) ?_
   refine zhi (fun tm => tm 1 = .ptr nx 0 ∧ tm 7 = .sl (cellsL eI r6) (List.length r6) false ∧ tm 8 = .lit (.int .i64 (List.length r6 : Int)) ∧ tm 9 = .lit (.int .i64 c11_9) ∧ tm 13 = .ref b11_0 0 (List.length c11_3) 1 (List.length c11_3) ∧ tm 16 = .lit (.int .i64 r30.1) ∧ True) (by refine ⟨e15, e16, e17, e19, ?_, ?_, trivial⟩ <;> first | (simp only [ua, zbk, q00, n20, n21, e15, e16, e17, e18, e19, H13, H14, q23, H22, q24, q25, d27, w28, nm, seval] <;> rfl) | rfl) ?_
   rintro tm ⟨e32, e33, e34, e35, e36, e37, _⟩
   have b38 := And.intro q00 (And.intro g12 (And.intro n20 (And.intro n21 (And.intro H13 (And.intro H14 (And.intro q23 (And.intro H22 (And.intro q24 (And.intro q25 (And.intro d27 w28))))))))))
   cases g39 : (roomOk 8 (List.length (c11_3 ++ [r30.1])))
   ·simp only [g39, hs] at h
    exact absurd h kN11
   simp only [g39, hs] at h
   simp only [vz, mq, mqm, vsi, tyf, mqt, b38, (ix22 o29), e32, e33, e34, e35, e36, e37, g39, nm, seval]
   refine k_app (w := 1) (enc := eI) (xs := c11_3) (ys := ([r30.1])) (el := el11_0) (el2 := (some 3)) (fun _ => rfl) lf22 ao22 Tryz.underlying22 (by first | rfl | assumption | (simp only [zab, zaa, et22, b38, nm, seval] <;> rfl) | (simp only [zab, zaa, zac, zad, zcn, zbl, tyf, mqt, b38, (ix22 o29), e32, e33, e34, e35, e36, e37, g39, nm, seval]; done)) (by first | rfl | assumption | (simp only [zab, zaa, et22, b38, nm, seval] <;> rfl) | (simp only [zab, zaa, zac, zad, zcn, zbl, tyf, mqt, b38, (ix22 o29), e32, e33, e34, e35, e36, e37, g39, nm, seval]; done)) (Nat.zero_lt_succ _) g39 ?_
   simp only [vz, mq, mqm, vsi, tyf, mqt, b38, (ix22 o29), e32, e33, e34, e35, e36, e37, g39, nm, seval]
   exact ⟨List.length p11, Nat.lt_succ_self _, by rw [hI11]; refine ⟨p11, c11_9 + 1, (c11_3 ++ [r30.1]), r30.2, .ref (nx11 + 9) 0 (List.length (c11_3 ++ [r30.1])) 1 (List.length (c11_3 ++ [r30.1])), rfl, Int.le_trans hi11 (Int.le_add_one (Int.le_refl _)), zax hi11 hp11, rfl, (show nx + 7 ≤ nx11 + 13 by omega), ?_, ?_, e32, e33, e34, ?_, ?_, Or.inl ⟨nx11 + 9, (sameEl el11_0 3), rfl, (by first | omega | (simp only [nm, seval]; done) | (simp only [nm, seval]; omega)), (by first | omega | (intro hh; simp only [b38, reduceCtorEq] at hh)), (by first | omega | (intro hh; simp only [b38, reduceCtorEq] at hh)), ?_⟩, (by first | exact h | (simp only [b38]; exact h))⟩ <;> first | (simp only [ua, zbk, b38, e32, e33, e34, e35, e36, e37, nm, seval] <;> rfl) | rfl⟩
 ·cases p11 with
  | nil =>
   have d40 : (decide (c11_9 < (List.length r6 : Int))) = false := zaj hi11 hp11
   simp only [zas, hs, reduceCtorEq] at h
   replace h := kG11 _ h
   try dsimp only at h
   try simp only [hs] at h
   try simp only [vz, mq, mqm, vsi, tyf, mqt, q00, g12, n20, n21, e15, e16, e17, e18, e19, H13, H14, d40, nm, seval]
   refine zau (x := (.lit (.slice none 0 0))) (by first | (simp only [Tryz.results76, resV, resL, resV1, zat, zbu, uw, cr, tyf, mqt, q00, g12, n20, n21, H13, H14, d40, nm, seval] <;> rfl) | rfl) ?_
   obtain rfl := kF _ h
   refine ⟨(by first | rfl | assumption | (simp only [zab, zaa, q00, n20, n21, H13, H14, nm, seval] <;> rfl)), ?_⟩
   exact sq_of zasc
  | cons e11 p11 =>
   have d41 : (decide (c11_9 < (List.length r6 : Int))) = true := zaw hi11 hp11
   have o43 := zak hi11 hp11
   have w42 := zbj hi11 hp11 g12
   simp only [zas, hs, reduceCtorEq] at h
   obtain ⟨r44, o45, h⟩ := optI h kN11
   try simp only [hs] at h
   simp only [vz, mq, mqm, vsi, tyf, mqt, q00, g12, n20, n21, e15, e16, e17, e18, e19, H13, H14, d41, (ix22 o43), w42, nm, seval]
   refine kupd (VUpd.at (β := b0_0) (y := (fun _ => .lit (.int .i64 r44.1))) (zcw _ _ _ _ _ _ o45) (by omega) (by first | rfl | assumption | (simp only [zab, zaa, q00, n20, n21, H13, H14, nm, seval] <;> rfl)) (by first | rfl | (simp only [nrm, tynrm, @zbh, @zhc] <;> rfl)) (zgs (fun _ => rfl) _)) ?_
   refine zhi (fun tm => tm 1 = .ptr nx 0 ∧ tm 7 = .sl (cellsL eI r6) (List.length r6) false ∧ tm 8 = .lit (.int .i64 (List.length r6 : Int)) ∧ tm 9 = .lit (.int .i64 c11_9) ∧ tm 13 = .lit (.slice none 0 0) ∧ tm 16 = .lit (.int .i64 r44.1) ∧ True) (by refine ⟨e15, e16, e17, e19, ?_, ?_, trivial⟩ <;> first | (simp only [ua, zbk, q00, n20, n21, e15, e16, e17, e18, e19, H13, H14, d41, w42, nm, seval] <;> rfl) | rfl) ?_
   rintro tm ⟨e46, e47, e48, e49, e50, e51, _⟩
   have b52 := And.intro q00 (And.intro g12 (And.intro n20 (And.intro n21 (And.intro H13 (And.intro H14 (And.intro d41 w42))))))
   cases g53 : (roomOk 8 (List.length (([] : List Int) ++ [r44.1])))
   ·simp only [g53, hs] at h
    exact absurd h kN11
   simp only [g53, hs] at h
   simp only [vz, mq, mqm, vsi, tyf, mqt, b52, (ix22 o43), e46, e47, e48, e49, e50, e51, g53, nm, seval]
   refine zmp (w := 1) (enc := eI) (ys := ([r44.1])) (el2 := (some 3)) (fun _ => rfl) lf22 ao22 Tryz.underlying22 (by first | rfl | assumption | (simp only [zab, zaa, et22, b52, nm, seval] <;> rfl) | (simp only [zab, zaa, zac, zad, zcn, zbl, tyf, mqt, b52, (ix22 o43), e46, e47, e48, e49, e50, e51, g53, nm, seval]; done)) (Nat.zero_lt_succ _) g53 ?_
   simp only [vz, mq, mqm, vsi, tyf, mqt, b52, (ix22 o43), e46, e47, e48, e49, e50, e51, g53, nm, seval]
   exact ⟨List.length p11, Nat.lt_succ_self _, by rw [hI11]; refine ⟨p11, c11_9 + 1, (([] : List Int) ++ [r44.1]), r44.2, .ref (nx11 + 9) 0 (List.length (([] : List Int) ++ [r44.1])) 1 (List.length (([] : List Int) ++ [r44.1])), rfl, Int.le_trans hi11 (Int.le_add_one (Int.le_refl _)), zax hi11 hp11, rfl, (show nx + 7 ≤ nx11 + 13 by omega), ?_, ?_, e46, e47, e48, ?_, ?_, Or.inl ⟨nx11 + 9, (some 3), rfl, (by first | omega | (simp only [nm, seval]; done) | (simp only [nm, seval]; omega)), (by first | omega | (intro hh; simp only [b52, reduceCtorEq] at hh)), (by first | omega | (intro hh; simp only [b52, reduceCtorEq] at hh)), ?_⟩, (by first | exact h | (simp only [b52]; exact h))⟩ <;> first | (simp only [ua, zbk, b52, e46, e47, e48, e49, e50, e51, nm, seval] <;> rfl) | rfl⟩
def zfg  : List Int → Int → Int → Option (LOut (Int) (Int))
 | [], c0_8, c0_3 => some (.go c0_3)
 | e0 :: p0, c0_8, c0_3 => zfg p0 (c0_8 + 1) (IntKind.i64.wrap (c0_3 + e0))
def zke (x0_numbers : List Int) : Option (Int) := cond (lenOk x0_numbers) (lbind (zfg x0_numbers 0 0) (fun r2 => some r2) (fun c1 => some c1) (fun _ _ => none)) none
theorem zom (x0_numbers : List Int) (R : Int) (h : zke x0_numbers = some R) : VPure Tryz.prog G0 102 [.sl (cellsL eI x0_numbers) (List.length x0_numbers) false] (.tree (.lit (.int .i64 R))) := by
 refine VPure.runR mixed Tryz.call102 Tryz.func102 rfl (by simp [Tryz.ntmps102]; kernel_rfl) ?_
 obtain ⟨KF, h, kF, kN⟩ := zaq h
 simp only [zke] at h
 cases g4 : (lenOk x0_numbers)
 ·simp only [g4, hs] at h
  exact absurd h kN
 simp only [g4, hs] at h
 simp only [vz, tyf, g4, nm, seval]
 obtain ⟨K3, h, kR3, kG3, kB3, kN3⟩ := zbf h kN
 obtain ⟨f3, hf3, h⟩ := call3 h
 obtain ⟨I3, hI3⟩ : ∃ I : Nat → St → Prop, I = (fun m st => ∃ (p3 : List Int) (c3_8 : Int) (c3_3 : Int), m = List.length p3 ∧ 0 ≤ c3_8 ∧ List.drop (Int.toNat c3_8) x0_numbers = p3 ∧ st.df = [] ∧ 5 ≤ st.nx ∧ st.tm 6 = .sl (cellsL eI x0_numbers) (List.length x0_numbers) false ∧ st.tm 7 = .lit (.int .i64 (List.length x0_numbers : Int)) ∧ st.tm 3 = .lit (.int .i64 c3_3) ∧ st.tm 8 = .lit (.int .i64 c3_8) ∧ K3 (f3 p3 c3_8 c3_3)) := ⟨_, rfl⟩
 refine loopK mixed (by kernel_rfl) I3 (List.length x0_numbers) (by rw [hI3]; refine ⟨x0_numbers, 0, 0, rfl, Int.le_refl _, rfl, rfl, (show 5 ≤ 5 by omega), ?_, ?_, ?_, ?_, h⟩ <;> first | (simp only [ua, nm, seval] <;> rfl) | rfl) ?_
 rintro m ⟨tm, H, nx3, df⟩ hinv
 rw [hI3] at hinv
 obtain ⟨p3, c3_8, c3_3, rfl, hi3, hp3, hdf, hn3, e5, e6, e7, e8, h⟩ := hinv
 simp only at hdf hn3 e5 e6 e7 e8
 have n9 := zda (m := 5) (b := nx3) (by omega)
 subst hdf hf3
 cases p3 with
 | nil =>
  have d10 : (decide (c3_8 < (List.length x0_numbers : Int))) = false := zaj hi3 hp3
  simp only [zfg, hs, reduceCtorEq] at h
  replace h := kG3 _ h
  try dsimp only at h
  try simp only [hs] at h
  try simp only [vz, tyf, g4, n9, e5, e6, e7, e8, d10, nm, seval]
  refine zau (x := (.lit (.int .i64 c3_3))) (by first | (simp only [Tryz.results102, resV, resL, resV1, zat, zbu, uw, cr, tyf, g4, n9, d10, nm, seval] <;> rfl) | rfl) ?_
  obtain rfl := kF _ h
  refine zbc ?_ ?_
  ·simp only [tre, tytre, Bool.and_self]
  ·first | (simp only [outV, uw, zan, cr, tyf, nrm, tynrm, g4, n9, e5, e6, e7, e8, d10, nm, seval] <;> rfl) | rfl
 | cons e3 p3 =>
  have d11 : (decide (c3_8 < (List.length x0_numbers : Int))) = true := zaw hi3 hp3
  have o13 := zak hi3 hp3
  have w12 := zbj hi3 hp3 g4
  simp only [zfg, hs, reduceCtorEq] at h
  simp only [vz, tyf, g4, n9, e5, e6, e7, e8, d11, (ix22 o13), w12, nm, seval]
  exact ⟨List.length p3, Nat.lt_succ_self _, by rw [hI3]; refine ⟨p3, c3_8 + 1, IntKind.i64.wrap (c3_3 + e3), rfl, Int.le_trans hi3 (Int.le_add_one (Int.le_refl _)), zax hi3 hp3, rfl, (show 5 ≤ nx3 + 10 by omega), e5, e6, ?_, ?_, (by first | exact h | (simp only [d11]; exact h))⟩ <;> first | (simp only [ua, n9, e5, e6, e7, e8, d11, w12, nm, seval] <;> rfl) | rfl⟩
def zbp (x0_x_PriceSheet : GPriceSheet) (x0_x_tariff : GPriceTariff) (x0_x_hours : List Int) (l0 : List (Gpricebill × Int)) : Option ((Int) × List (Gpricebill × Int)) := cond (x0_x_tariff.Each) (Option.bind (zcb x0_x_PriceSheet x0_x_tariff x0_x_hours l0) (fun r1 => Option.bind (zke r1.1) (fun r2 => some (r2, r1.2)))) (Option.bind (zbd x0_x_PriceSheet x0_x_tariff x0_x_hours) (fun r3 => Option.bind (zke r3) (fun r4 => Option.bind (zbt x0_x_PriceSheet x0_x_tariff x0_x_hours r4 l0) (fun r5 => some (r5.1, r5.2)))))
theorem zdh (x0_x_PriceSheet : GPriceSheet) (x0_x_tariff : GPriceTariff) (x0_x_hours : List Int) (l0 : List (Gpricebill × Int)) (R : (Int) × List (Gpricebill × Int)) (h : zbp x0_x_PriceSheet x0_x_tariff x0_x_hours l0 = some R) : VUpd Tryz.prog G0 67 (fun β => [.agg [.sl (cellsL eI x0_x_PriceSheet.Offs) (List.length x0_x_PriceSheet.Offs) false, .sl (cellsL cGPriceBoard x0_x_PriceSheet.Boards) (List.length x0_x_PriceSheet.Boards) false, .sl (cellsL cGPriceTariff x0_x_PriceSheet.Tariffs) (List.length x0_x_PriceSheet.Tariffs) false, .lit (.int .i64 x0_x_tariff.Kind), .lit (.int .i64 x0_x_tariff.Coins), .lit (.int .i64 x0_x_tariff.Units), .lit (.int .i64 x0_x_tariff.Rule), .lit (.bool x0_x_tariff.Each), .sl (cellsL eI x0_x_hours) (List.length x0_x_hours) false, .mp β]]) (encM kv146 ev3 l0) (encM kv146 ev3 R.2) (fun _ => .lit (.int .i64 R.1)) := by
 intro b0_0 nx hlt
 have q00 := zhn (β := b0_0) (nx := nx) hlt
 refine VOpen.run mixed Tryz.call67 Tryz.func67 rfl (by simp [Tryz.ntmps67]; kernel_rfl) ?_
 obtain ⟨KF, h, kF, kN⟩ := zaq h
 simp only [zbp] at h
 cases d6 : (x0_x_tariff.Each)
 ·simp only [d6, hs] at h
  simp only [vz, mq, mqm, vsi, tyf, mqt, q00, d6, nm, seval]
  refine zdb (fun tm => tm 1 = .ptr nx 0 ∧ True) (by refine ⟨?_, trivial⟩ <;> first | (simp only [ua, zbk, q00, d6, nm, seval] <;> rfl) | rfl | (simp only [ua, zbk, tyf, mqt, q00, d6, nm, seval] <;> rfl)) ?_
  rintro tm ⟨e7, _⟩
  obtain ⟨r8, o9, h⟩ := optI h kN
  try simp only [hs] at h
  simp only [vz, mq, mqm, vsi, tyf, mqt, q00, d6, e7, nm, seval]
  refine dkupd (VUpd.at (β := b0_0) (es := encM kv146 ev3 l0) (y := (fun _ => .sl (cellsL eI r8) (List.length r8) false)) (VUpd.of_lit (A := fun β => [.agg [.sl (cellsL eI x0_x_PriceSheet.Offs) (List.length x0_x_PriceSheet.Offs) false, .sl (cellsL cGPriceBoard x0_x_PriceSheet.Boards) (List.length x0_x_PriceSheet.Boards) false, .sl (cellsL cGPriceTariff x0_x_PriceSheet.Tariffs) (List.length x0_x_PriceSheet.Tariffs) false, .lit (.int .i64 x0_x_tariff.Kind), .lit (.int .i64 x0_x_tariff.Coins), .lit (.int .i64 x0_x_tariff.Units), .lit (.int .i64 x0_x_tariff.Rule), .lit (.bool x0_x_tariff.Each), .sl (cellsL eI x0_x_hours) (List.length x0_x_hours) false, .mp β]]) (A0 := fun _ b => [.agg [.sl (cellsL eI x0_x_PriceSheet.Offs) (List.length x0_x_PriceSheet.Offs) false, .sl (cellsL cGPriceBoard x0_x_PriceSheet.Boards) (List.length x0_x_PriceSheet.Boards) false, .sl (cellsL cGPriceTariff x0_x_PriceSheet.Tariffs) (List.length x0_x_PriceSheet.Tariffs) false, .lit (.int .i64 x0_x_tariff.Kind), .lit (.int .i64 x0_x_tariff.Coins), .lit (.int .i64 x0_x_tariff.Units), .lit (.int .i64 x0_x_tariff.Rule), .lit (.bool x0_x_tariff.Each), .sl (cellsL eI x0_x_hours) (List.length x0_x_hours) false, .lit (.map (some b))]]) (fun β b => by first | rfl | (simp only [List.map_cons, List.map_nil, vlt, if_true, nrm, tynrm, @zbh, tyf, mqt, d6] <;> rfl)) (fun β b => by simp only [List.map_cons, List.map_nil, vlt, if_true, tre, tytre, tyf, mqt, Bool.and_self]) (fun β b => by first | rfl | (simp only [vlt, List.map_cons, List.map_nil, if_true] <;> rfl)) (fun _ => (fun b => zdk _ _ _ b _ o9)) (fun β M H h1 h2 => zrx (by simp only [tre, tytre, tyf, mqt, Bool.and_self]) rfl)) (by omega) (by first | rfl | assumption | (simp only [zab, zaa, q00, nm, seval] <;> rfl)) (by first | rfl | (simp only [nrm, tynrm, @zbh, @zhc, tyf, mqt, d6] <;> rfl)) (zgs (fun _ => rfl) _)) ?_
  refine zhi (fun tm => tm 9 = .agg ((cGPriceSheet x0_x_PriceSheet) ++ (cGPriceTariff x0_x_tariff) ++ [.sl (cellsL eI x0_x_hours) (List.length x0_x_hours) false] ++ [.mp b0_0]) ∧ tm 11 = .sl (cellsL eI r8) (List.length r8) false ∧ True) (by refine ⟨?_, ?_, trivial⟩ <;> first | (simp only [ua, zbk, q00, d6, e7, nm, seval] <;> rfl) | rfl | (simp only [ua, zbk, tyf, mqt, q00, d6, e7, nm, seval] <;> rfl)) ?_
  rintro tm ⟨e10, e11, _⟩
  obtain ⟨r12, o13, h⟩ := optI h kN
  try simp only [hs] at h
  simp only [vz, mq, mqm, vsi, tyf, mqt, q00, d6, e10, e11, nm, seval]
  refine dktree (args0 := [.sl (cellsL eI r8) (List.length r8) false]) (by first | (simp only [nrm, tynrm, @zbh, tyf, mqt, d6] <;> rfl) | rfl) (by simp only [tre, tytre, mqr, Bool.and_self]) (zom _ _ o13) ?_
  refine zar (fun tm => tm 9 = .agg ((cGPriceSheet x0_x_PriceSheet) ++ (cGPriceTariff x0_x_tariff) ++ [.sl (cellsL eI x0_x_hours) (List.length x0_x_hours) false] ++ [.mp b0_0]) ∧ tm 12 = .lit (.int .i64 r12) ∧ True) (by refine ⟨e10, ?_, trivial⟩ <;> first | (simp only [ua, zbk, q00, d6, e10, e11, nm, seval] <;> rfl) | rfl | (simp only [ua, zbk, tyf, mqt, q00, d6, e10, e11, nm, seval] <;> rfl)) ?_
  rintro tm ⟨e14, e15, _⟩
  obtain ⟨r16, o17, h⟩ := optI h kN
  try simp only [hs] at h
  simp only [vz, mq, mqm, vsi, tyf, mqt, q00, d6, e14, e15, nm, seval]
  refine dkupd (VUpd.at (β := b0_0) (y := (fun _ => .lit (.int .i64 r16.1))) (zcw _ _ _ _ _ _ o17) (by omega) (by first | rfl | assumption | (simp only [zab, zaa, q00, nm, seval] <;> rfl)) (by first | rfl | (simp only [nrm, tynrm, @zbh, @zhc, tyf, mqt, d6] <;> rfl)) (zgs (fun _ => rfl) _)) ?_
  refine zhi (fun tm => tm 13 = .lit (.int .i64 r16.1) ∧ True) (by refine ⟨?_, trivial⟩ <;> first | (simp only [ua, zbk, q00, d6, e14, e15, nm, seval] <;> rfl) | rfl | (simp only [ua, zbk, tyf, mqt, q00, d6, e14, e15, nm, seval] <;> rfl)) ?_
  rintro tm ⟨e18, _⟩
  simp only [vz, mq, mqm, vsi, tyf, mqt, q00, d6, e18, nm, seval]
  refine zee ⟨?_, ?_⟩
  ·simp only [zcl, zde, zbb, zfc, and_true, true_and]
   repeat' (first | exact trivial | refine And.intro ?_ ?_ | rw [zbb] | rw [zeb] | exact Or.inl (by decide +kernel) | exact Or.inl (by dsimp only; decide +kernel) | (refine Or.inr ⟨?_, ?_⟩ <;> simp; done) | (refine Or.inr ⟨?_, ?_⟩ <;> simp <;> omega) | (refine Or.inr ⟨?_, ?_⟩ <;> simp [VEff.wr] <;> omega))
  try simp only [vz, mq, mqm, vsi, tyf, mqt, q00, d6, e18, nm, seval]
  refine zau (x := (.lit (.int .i64 r16.1))) (by first | (simp only [Tryz.results67, resV, resL, resV1, zat, zbu, uw, cr, tyf, mqt, q00, d6, nm, seval] <;> rfl) | rfl) ?_
  obtain rfl := kF _ h
  refine ⟨(by first | rfl | assumption | (simp only [zab, zaa, q00, nm, seval] <;> rfl)), ?_⟩
  exact sq_of (zrx (by simp only [tre, tytre, mqr, Bool.and_self]) rfl)
 simp only [d6, hs] at h
 obtain ⟨r19, o20, h⟩ := optI h kN
 try simp only [hs] at h
 simp only [vz, mq, mqm, vsi, tyf, mqt, q00, d6, nm, seval]
 refine kupd (VUpd.at (β := b0_0) (y := (fun _ => .sl (cellsL eI r19.1) (List.length r19.1) false)) (zgr _ _ _ _ _ o20) (by omega) (by first | rfl | assumption | (simp only [zab, zaa, q00, nm, seval] <;> rfl)) (by first | rfl | (simp only [nrm, tynrm, @zbh, @zhc, tyf, mqt, d6] <;> rfl)) (zgs (fun _ => rfl) _)) ?_
 refine zhi (fun tm => tm 7 = .sl (cellsL eI r19.1) (List.length r19.1) false ∧ True) (by refine ⟨?_, trivial⟩ <;> first | (simp only [ua, zbk, q00, d6, nm, seval] <;> rfl) | rfl | (simp only [ua, zbk, tyf, mqt, q00, d6, nm, seval] <;> rfl)) ?_
 rintro tm ⟨e21, _⟩
 obtain ⟨r22, o23, h⟩ := optI h kN
 try simp only [hs] at h
 simp only [vz, mq, mqm, vsi, tyf, mqt, q00, d6, e21, nm, seval]
 refine ktree (args0 := [.sl (cellsL eI r19.1) (List.length r19.1) false]) (by first | (simp only [nrm, tynrm, @zbh, tyf, mqt, d6] <;> rfl) | rfl) (by simp only [tre, tytre, mqr, Bool.and_self]) (zom _ _ o23) ?_
 refine zar (fun tm => tm 8 = .lit (.int .i64 r22) ∧ True) (by refine ⟨?_, trivial⟩ <;> first | (simp only [ua, zbk, q00, d6, e21, nm, seval] <;> rfl) | rfl | (simp only [ua, zbk, tyf, mqt, q00, d6, e21, nm, seval] <;> rfl)) ?_
 rintro tm ⟨e24, _⟩
 try simp only [vz, mq, mqm, vsi, tyf, mqt, q00, d6, e24, nm, seval]
 refine zau (x := (.lit (.int .i64 r22))) (by first | (simp only [Tryz.results67, resV, resL, resV1, zat, zbu, uw, cr, tyf, mqt, q00, d6, nm, seval] <;> rfl) | rfl) ?_
 obtain rfl := kF _ h
 refine ⟨(by first | rfl | assumption | (simp only [zab, zaa, q00, nm, seval] <;> rfl)), ?_⟩
 exact sq_of (zrx (by simp only [tre, tytre, mqr, Bool.and_self]) rfl)
end Go.V
end
