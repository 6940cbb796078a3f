/- Part of a proof. -/
import Derived.Test.YtjpgejagakmjgaaGreatDoorSbj
set_option linter.all false
set_option maxRecDepth 4000
set_option maxHeartbeats 40000000
section
namespace Go.V
open Go Go.Proofs
def zbp (x0_x_PriceSheet : GPriceSheet) (x0_x_tariff : GPriceTariff) (x0_x_hours : List Int) (l0 : List (Gpricebill × Int)) : Option ((Int) × List (Gpricebill × Int)) := cond (x0_x_tariff.Each) (Option.bind (zbi x0_x_PriceSheet x0_x_tariff x0_x_hours l0) (fun r1 => Option.bind (zjs r1.1) (fun r2 => some (r2, r1.2)))) (Option.bind (zaw x0_x_PriceSheet x0_x_tariff x0_x_hours) (fun r3 => Option.bind (zjs r3) (fun r4 => Option.bind (zbm x0_x_PriceSheet x0_x_tariff x0_x_hours r4 l0) (fun r5 => some (r5.1, r5.2)))))
theorem zcv (x0_x_PriceSheet : GPriceSheet) (x0_x_tariff : GPriceTariff) (x0_x_hours : List Int) (l0 : List (Gpricebill × Int)) (R : (Int) × List (Gpricebill × Int)) (h : zbp x0_x_PriceSheet x0_x_tariff x0_x_hours l0 = some R) : VUpd Tryz.prog G0 67 (fun β => [.agg [.sl (cellsL eI x0_x_PriceSheet.Offs) (List.length x0_x_PriceSheet.Offs) false, .sl (cellsL cGPriceBoard x0_x_PriceSheet.Boards) (List.length x0_x_PriceSheet.Boards) false, .sl (cellsL cGPriceTariff x0_x_PriceSheet.Tariffs) (List.length x0_x_PriceSheet.Tariffs) false, .lit (.int .i64 x0_x_tariff.Kind), .lit (.int .i64 x0_x_tariff.Coins), .lit (.int .i64 x0_x_tariff.Units), .lit (.int .i64 x0_x_tariff.Rule), .lit (.bool x0_x_tariff.Each), .sl (cellsL eI x0_x_hours) (List.length x0_x_hours) false, .mp β]]) (encM kv146 ev3 l0) (encM kv146 ev3 R.2) (fun _ => .lit (.int .i64 R.1)) := by
 intro b0_0 nx hlt
 have q00 := zow (β := b0_0) (nx := nx) hlt
 refine VOpen.run mixed Tryz.call67 Tryz.func67 rfl (by simp [Tryz.ntmps67]; kernel_rfl) ?_
 obtain ⟨KF, h, kF, kN⟩ := zan h
 simp only [zbp] at h
 cases d6 : (x0_x_tariff.Each)
 ·simp only [d6, hs] at h
  simp only [vz, mq, mqm, vsi, tyf, mqt, q00, d6, nm, seval]
  refine zfq (fun tm => tm 1 = .ptr nx 0 ∧ True) (by refine ⟨?_, trivial⟩ <;> first | (simp only [ua, zaq, q00, d6, nm, seval] <;> rfl) | rfl | (simp only [ua, zaq, tyf, mqt, q00, d6, nm, seval] <;> rfl)) ?_
  rintro tm ⟨e7, _⟩
  obtain ⟨r8, o9, h⟩ := optI h kN
  try simp only [hs] at h
  simp only [vz, mq, mqm, vsi, tyf, mqt, q00, d6, e7, nm, seval]
  refine dkupd (VUpd.at (β := b0_0) (es := encM kv146 ev3 l0) (y := (fun _ => .sl (cellsL eI r8) (List.length r8) false)) (VUpd.of_lit (A := fun β => [.agg [.sl (cellsL eI x0_x_PriceSheet.Offs) (List.length x0_x_PriceSheet.Offs) false, .sl (cellsL cGPriceBoard x0_x_PriceSheet.Boards) (List.length x0_x_PriceSheet.Boards) false, .sl (cellsL cGPriceTariff x0_x_PriceSheet.Tariffs) (List.length x0_x_PriceSheet.Tariffs) false, .lit (.int .i64 x0_x_tariff.Kind), .lit (.int .i64 x0_x_tariff.Coins), .lit (.int .i64 x0_x_tariff.Units), .lit (.int .i64 x0_x_tariff.Rule), .lit (.bool x0_x_tariff.Each), .sl (cellsL eI x0_x_hours) (List.length x0_x_hours) false, .mp β]]) (A0 := fun _ b => [.agg [.sl (cellsL eI x0_x_PriceSheet.Offs) (List.length x0_x_PriceSheet.Offs) false, .sl (cellsL cGPriceBoard x0_x_PriceSheet.Boards) (List.length x0_x_PriceSheet.Boards) false, .sl (cellsL cGPriceTariff x0_x_PriceSheet.Tariffs) (List.length x0_x_PriceSheet.Tariffs) false, .lit (.int .i64 x0_x_tariff.Kind), .lit (.int .i64 x0_x_tariff.Coins), .lit (.int .i64 x0_x_tariff.Units), .lit (.int .i64 x0_x_tariff.Rule), .lit (.bool x0_x_tariff.Each), .sl (cellsL eI x0_x_hours) (List.length x0_x_hours) false, .lit (.map (some b))]]) (fun β b => by first | rfl | (simp only [List.map_cons, List.map_nil, vlt, if_true, nrm, tynrm, @zaz, tyf, mqt, d6] <;> rfl)) (fun β b => by simp only [List.map_cons, List.map_nil, vlt, if_true, tre, tytre, tyf, mqt, Bool.and_self]) (fun β b => by first | rfl | (simp only [vlt, List.map_cons, List.map_nil, if_true] <;> rfl)) (fun _ => (fun b => zcy _ _ _ b _ o9)) (fun β M H h1 h2 => zqq (by simp only [tre, tytre, tyf, mqt, Bool.and_self]) rfl)) (by omega) (by first | rfl | assumption | (simp only [zag, zac, q00, nm, seval] <;> rfl)) (by first | rfl | (simp only [nrm, tynrm, @zaz, @zgf, tyf, mqt, d6] <;> rfl)) (zft (fun _ => rfl) _)) ?_
  refine zge (fun tm => tm 9 = .agg ((cGPriceSheet x0_x_PriceSheet) ++ (cGPriceTariff x0_x_tariff) ++ [.sl (cellsL eI x0_x_hours) (List.length x0_x_hours) false] ++ [.mp b0_0]) ∧ tm 11 = .sl (cellsL eI r8) (List.length r8) false ∧ True) (by refine ⟨?_, ?_, trivial⟩ <;> first | (simp only [ua, zaq, q00, d6, e7, nm, seval] <;> rfl) | rfl | (simp only [ua, zaq, tyf, mqt, q00, d6, e7, nm, seval] <;> rfl)) ?_
  rintro tm ⟨e10, e11, _⟩
  obtain ⟨r12, o13, h⟩ := optI h kN
  try simp only [hs] at h
  simp only [vz, mq, mqm, vsi, tyf, mqt, q00, d6, e10, e11, nm, seval]
  refine dktree (args0 := [.sl (cellsL eI r8) (List.length r8) false]) (by first | (simp only [nrm, tynrm, @zaz, tyf, mqt, d6] <;> rfl) | rfl) (by simp only [tre, tytre, mqr, Bool.and_self]) (zoc _ _ o13) ?_
  refine zao (fun tm => tm 9 = .agg ((cGPriceSheet x0_x_PriceSheet) ++ (cGPriceTariff x0_x_tariff) ++ [.sl (cellsL eI x0_x_hours) (List.length x0_x_hours) false] ++ [.mp b0_0]) ∧ tm 12 = .lit (.int .i64 r12) ∧ True) (by refine ⟨e10, ?_, trivial⟩ <;> first | (simp only [ua, zaq, q00, d6, e10, e11, nm, seval] <;> rfl) | rfl | (simp only [ua, zaq, tyf, mqt, q00, d6, e10, e11, nm, seval] <;> rfl)) ?_
  rintro tm ⟨e14, e15, _⟩
  obtain ⟨r16, o17, h⟩ := optI h kN
  try simp only [hs] at h
  simp only [vz, mq, mqm, vsi, tyf, mqt, q00, d6, e14, e15, nm, seval]
  refine dkupd (VUpd.at (β := b0_0) (y := (fun _ => .lit (.int .i64 r16.1))) (zcq _ _ _ _ _ _ o17) (by omega) (by first | rfl | assumption | (simp only [zag, zac, q00, nm, seval] <;> rfl)) (by first | rfl | (simp only [nrm, tynrm, @zaz, @zgf, tyf, mqt, d6] <;> rfl)) (zft (fun _ => rfl) _)) ?_
  refine zge (fun tm => tm 13 = .lit (.int .i64 r16.1) ∧ True) (by refine ⟨?_, trivial⟩ <;> first | (simp only [ua, zaq, q00, d6, e14, e15, nm, seval] <;> rfl) | rfl | (simp only [ua, zaq, tyf, mqt, q00, d6, e14, e15, nm, seval] <;> rfl)) ?_
  rintro tm ⟨e18, _⟩
  simp only [vz, mq, mqm, vsi, tyf, mqt, q00, d6, e18, nm, seval]
  refine zgp ⟨?_, ?_⟩
  ·simp only [zen, zfx, zcf, zib, and_true, true_and]
   repeat' (first | exact trivial | refine And.intro ?_ ?_ | rw [zcf] | rw [zgr] | exact Or.inl (by decide +kernel) | exact Or.inl (by dsimp only; decide +kernel) | (refine Or.inr ⟨?_, ?_⟩ <;> simp; done) | (refine Or.inr ⟨?_, ?_⟩ <;> simp <;> omega) | (refine Or.inr ⟨?_, ?_⟩ <;> simp [VEff.wr] <;> omega))
  try simp only [vz, mq, mqm, vsi, tyf, mqt, q00, d6, e18, nm, seval]
  refine zbb (x := (.lit (.int .i64 r16.1))) (by first | (simp only [Tryz.results67, resV, resL, resV1, zbc, zbz, uw, cr, tyf, mqt, q00, d6, nm, seval] <;> rfl) | rfl) ?_
  obtain rfl := kF _ h
  refine ⟨(by first | rfl | assumption | (simp only [zag, zac, q00, nm, seval] <;> rfl)), ?_⟩
  exact sq_of (zqq (by simp only [tre, tytre, mqr, Bool.and_self]) rfl)
 simp only [d6, hs] at h
 obtain ⟨r19, o20, h⟩ := optI h kN
 try simp only [hs] at h
 simp only [vz, mq, mqm, vsi, tyf, mqt, q00, d6, nm, seval]
 refine kupd (VUpd.at (β := b0_0) (y := (fun _ => .sl (cellsL eI r19.1) (List.length r19.1) false)) (zdt _ _ _ _ _ o20) (by omega) (by first | rfl | assumption | (simp only [zag, zac, q00, nm, seval] <;> rfl)) (by first | rfl | (simp only [nrm, tynrm, @zaz, @zgf, tyf, mqt, d6] <;> rfl)) (zft (fun _ => rfl) _)) ?_
 refine zge (fun tm => tm 7 = .sl (cellsL eI r19.1) (List.length r19.1) false ∧ True) (by refine ⟨?_, trivial⟩ <;> first | (simp only [ua, zaq, q00, d6, nm, seval] <;> rfl) | rfl | (simp only [ua, zaq, tyf, mqt, q00, d6, nm, seval] <;> rfl)) ?_
 rintro tm ⟨e21, _⟩
 obtain ⟨r22, o23, h⟩ := optI h kN
 try simp only [hs] at h
 simp only [vz, mq, mqm, vsi, tyf, mqt, q00, d6, e21, nm, seval]
 refine ktree (args0 := [.sl (cellsL eI r19.1) (List.length r19.1) false]) (by first | (simp only [nrm, tynrm, @zaz, tyf, mqt, d6] <;> rfl) | rfl) (by simp only [tre, tytre, mqr, Bool.and_self]) (zoc _ _ o23) ?_
 refine zao (fun tm => tm 8 = .lit (.int .i64 r22) ∧ True) (by refine ⟨?_, trivial⟩ <;> first | (simp only [ua, zaq, q00, d6, e21, nm, seval] <;> rfl) | rfl | (simp only [ua, zaq, tyf, mqt, q00, d6, e21, nm, seval] <;> rfl)) ?_
 rintro tm ⟨e24, _⟩
 try simp only [vz, mq, mqm, vsi, tyf, mqt, q00, d6, e24, nm, seval]
 refine zbb (x := (.lit (.int .i64 r22))) (by first | (simp only [Tryz.results67, resV, resL, resV1, zbc, zbz, uw, cr, tyf, mqt, q00, d6, nm, seval] <;> rfl) | rfl) ?_
 obtain rfl := kF _ h
 refine ⟨(by first | rfl | assumption | (simp only [zag, zac, q00, nm, seval] <;> rfl)), ?_⟩
 exact sq_of (zqq (by simp only [tre, tytre, mqr, Bool.and_self]) rfl)






end Go.V
end
section
namespace Go.V
open Go
def rd (c u r : Int) : Int := if r = 1 then c / u else if r = 2 then (c + u - 1) / u else if r = 3 then (2 * c + u) / (2 * u) else if 2 * (((2 * c + u) / (2 * u)) * u - c) = u ∧ ((2 * c + u) / (2 * u)) % 2 = 1 then (2 * c + u) / (2 * u) - 1 else (2 * c + u) / (2 * u)
theorem zdn {u : Int} (h1 : 1 ≤ u) (h2 : u ≤ 12) : u = 1 ∨ u = 2 ∨ u = 3 ∨ u = 4 ∨ u = 5 ∨ u = 6 ∨ u = 7 ∨ u = 8 ∨ u = 9 ∨ u = 10 ∨ u = 11 ∨ u = 12 := by omega
theorem zaln {c u : Int} (h0 : 0 ≤ c) (h1 : c ≤ 200000) (h2 : 1 ≤ u) (h3 : u ≤ 12) : zbv ⟨c, u⟩ = some ((2 * c + u) / (2 * u)) ∧ 0 ≤ (2 * c + u) / (2 * u) ∧ (2 * c + u) / (2 * u) ≤ c := by
 unfold zbv
 simp only
 rw [zch (n := 2 * u) (by omega) (by omega), zch (n := 2 * c) (by omega) (by omega), zch (n := 2 * c + u) (by omega) (by omega), Int.tdiv_eq_ediv_of_nonneg (by omega)]
 have hb : 0 ≤ (2 * c + u) / (2 * u) ∧ (2 * c + u) / (2 * u) ≤ c := by
  rcases zdn h2 h3 with h | h | h | h | h | h | h | h | h | h | h | h <;> subst h <;> omega
 rw [zch (by omega) (by omega), show ((2 * u) != 0) = true from by simp; omega]
 exact ⟨rfl, hb⟩
theorem by_eq {c u r : Int} (h0 : 0 ≤ c) (h1 : c ≤ 200000) (h2 : 1 ≤ u) (h3 : u ≤ 12) (h4 : 1 ≤ r) (h5 : r ≤ 4) : zdg ⟨c, u⟩ r = some (rd c u r) := by
 have hu : (u != 0) = true := by simp; omega
 obtain ⟨hn, hn0, hn1⟩ := zaln h0 h1 h2 h3
 unfold zdg
 rw [zch (by omega) (by omega)]
 rcases (show r = 1 ∨ r = 2 ∨ r = 3 ∨ r = 4 by omega) with h | h | h | h <;> subst h
 ·show Option.bind (zcl ⟨c, u⟩) _ = _
  unfold zcl
  simp only [hu, cond_true, Option.bind_some]
  have hb : 0 ≤ c / u ∧ c / u ≤ c := by
   rcases zdn h2 h3 with h | h | h | h | h | h | h | h | h | h | h | h <;> subst h <;> omega
  rw [Int.tdiv_eq_ediv_of_nonneg h0, zch (by omega) (by omega)]
  rfl
 ·show Option.bind (zdi ⟨c, u⟩) _ = _
  unfold zdi
  simp only [hu, cond_true, Option.bind_some]
  have hb : 0 ≤ (c + u - 1) / u ∧ (c + u - 1) / u ≤ c := by
   rcases zdn h2 h3 with h | h | h | h | h | h | h | h | h | h | h | h <;> subst h <;> omega
  rw [zch (n := c + u) (by omega) (by omega), zch (n := c + u - 1) (by omega) (by omega), Int.tdiv_eq_ediv_of_nonneg (by omega), zch (by omega) (by omega)]
  rfl
 ·show Option.bind (zbv ⟨c, u⟩) _ = _
  rw [hn]; rfl
 ·show Option.bind (zcm ⟨c, u⟩) _ = _
  unfold zcm
  rw [hn]
  simp only [Option.bind_some]
  generalize hm : (2 * c + u) / (2 * u) = n at *
  have hm2 : n * u ≤ c + u ∧ 0 ≤ n * u := by
   subst hm
   rcases zdn h2 h3 with h | h | h | h | h | h | h | h | h | h | h | h <;> subst h <;> omega
  rw [zch (n := n * u) (by omega) (by omega), zch (n := n * u - c) (by omega) (by omega), zch (n := 2 * (n * u - c)) (by omega) (by omega), zch (n := n - 1) (by omega) (by omega), Int.tmod_eq_emod_of_nonneg hn0]
  unfold rd
  rw [hm]
  simp only [show ¬ ((4 : Int) = 1) by omega, show ¬ ((4 : Int) = 2) by omega, show ¬ ((4 : Int) = 3) by omega, if_false]
  by_cases e1 : 2 * (n * u - c) = u
  ·rw [show (2 * (n * u - c) == u) = true from by simpa using e1, cond_true]
   by_cases e2 : n % 2 = 1
   ·rw [show (n % 2 == 1) = true from by simpa using e2, cond_true, if_pos ⟨e1, e2⟩]; rfl
   ·rw [show (n % 2 == 1) = false from by simpa using e2, cond_false, if_neg fun h => e2 h.2]; rfl
  ·rw [show (2 * (n * u - c) == u) = false from by simpa using e1, cond_false, if_neg fun h => e1 h.1]; rfl
theorem rd_b {c u r : Int} (h0 : 0 ≤ c) (h2 : 1 ≤ u) (h3 : u ≤ 12) : 0 ≤ rd c u r ∧ rd c u r ≤ c := by
 unfold rd
 rcases zdn h2 h3 with h | h | h | h | h | h | h | h | h | h | h | h <;> subst h <;> (repeat' split) <;> omega
def rdT (t : GPriceTariff) (q : Int) : Int := rd (q * t.Coins) t.Units t.Rule
structure TOk (t : GPriceTariff) : Prop where
 k : 1 ≤ t.Kind ∧ t.Kind ≤ 4
 c : 0 ≤ t.Coins ∧ t.Coins ≤ 500
 u : 1 ≤ t.Units ∧ t.Units ≤ 12
 r : 1 ≤ t.Rule ∧ t.Rule ≤ 4
theorem zaqw {t : GPriceTariff} (h : tariffB t = true) : TOk t := by
 simp only [tariffB, Bool.and_eq_true, zlf] at h
 exact ⟨h.1, h.2.2.1, h.2.2.2, h.2.1⟩
theorem zapi {t : GPriceTariff} (ht : TOk t) {q M : Int} (h0 : 0 ≤ q) (h1 : q ≤ M) : 0 ≤ q * t.Coins ∧ q * t.Coins ≤ M * 500 := mulR h0 h1 ht.c.1 ht.c.2
theorem rdT_b {t : GPriceTariff} (ht : TOk t) {q M : Int} (h0 : 0 ≤ q) (h1 : q ≤ M) : 0 ≤ rdT t q ∧ rdT t q ≤ M * 500 := by
 have := zapi ht h0 h1
 have := rd_b (r := t.Rule) this.1 ht.u.1 ht.u.2
 unfold rdT; omega
def InvM (l : List (Gpricebill × Int)) : Prop := ∀ p ∈ l, p.2 = rdT p.1.tariff p.1.quantity
theorem InvM.nil : InvM [] := fun _ h => by cases h
theorem zabp (s : GPriceSheet) {t : GPriceTariff} (ht : TOk t) (hs : List Int) {q : Int} (h0 : 0 ≤ q) (h1 : q ≤ 240) {l : List (Gpricebill × Int)} (hl : InvM l) : ∃ l', zbm s t hs q l = some (rdT t q, l') ∧ InvM l' := by
 have hp := zapi ht h0 h1
 unfold zbm mapHas mapGet mapSet
 cases hk : kIdx q146 ⟨t, q⟩ (l.map (·.1)) 0 with
 | some i =>
  obtain ⟨_, e, he, hq⟩ := zkp _ _ _ hk
  rw [Nat.sub_zero, List.getElem?_map] at he
  cases hg : l[i]? with
  | none => rw [hg] at he; cases he
  | some p =>
   rw [hg] at he
   simp only [Option.map_some, Option.some.injEq] at he
   have hpe := hq146 _ _ hq
   have hv := hl p (List.mem_of_getElem? hg)
   rw [he, ← hpe] at hv
   simp only [Option.isSome_some, cond_true, hg, hv]
   exact ⟨l, rfl, hl⟩
 | none =>
  simp only [Option.isSome_none, cond_false]
  rw [zch (by omega) (by omega), by_eq hp.1 (by omega) ht.u.1 ht.u.2 ht.r.1 ht.r.2]
  refine ⟨l ++ [(⟨t, q⟩, rdT t q)], rfl, ?_⟩
  intro p hp
  rcases List.mem_append.1 hp with hp | hp
  ·exact hl p hp
  ·rw [List.mem_singleton.1 hp]
def qtyP (k : Int) (b : GPriceBoard) (h : Int) : Int := if k = 1 then b.Letters else if k = 2 then b.Feet else if k = 3 then h else 1
def qsP (k : Int) : List GPriceBoard → List Int → List Int
 | b :: bs, h :: hs => qtyP k b h :: qsP k bs hs
 | _, _ => []
theorem zny {k : Int} : ∀ {bs : List GPriceBoard} {hs : List Int}, hs.length = bs.length → (qsP k bs hs).length = bs.length
 | [], [], _ => rfl
 | b :: bs, h :: hs, e => by simp only [qsP, List.length_cons]; rw [zny (by simpa using e)]
def sumL : List Int → Int
 | [] => 0
 | a :: l => a + sumL l
theorem zahu {M : Int} : ∀ {l : List Int}, (∀ q ∈ l, 0 ≤ q ∧ q ≤ M) → 0 ≤ sumL l ∧ sumL l ≤ M * l.length
 | [], _ => by simp [sumL]
 | a :: l, h => by
  have h1 := h a (List.mem_cons_self ..)
  have h2 := zahu fun q hq => h q (List.mem_cons_of_mem _ hq)
  simp only [sumL, List.length_cons]
  have : M * ((l.length + 1 : Nat) : Int) = M * l.length + M := by rw [Int.natCast_add, Int.mul_add]; simp
  rw [this]
  omega
theorem zoo {n : Nat} (h : n ≤ 1000) : roomOk 8 n = true := by simp [roomOk]; omega
theorem zabb (hs : List Int) {k : Int} : ∀ (bs : List GPriceBoard) (i : Int) (acc hr : List Int), 0 ≤ i → hs.drop i.toNat = hr → hr.length = bs.length → acc.length + bs.length ≤ 1000 → zak hs k bs i acc = some (.go (acc ++ qsP k bs hr))
 | [], i, acc, [], _, _, _, _ => by simp [zak, qsP]
 | b :: bs, i, acc, h :: hr, h0, hd, hl, hn => by
  simp only [zak, zau h0 hd, Option.bind_some, g_kq]
  rw [zoo (by simp at hn ⊢; omega), cond_true, zabb hs bs (i + 1) _ hr (by omega) (zce h0 hd) (by simpa using hl) (by simp at hn ⊢; omega)]
  simp [qsP, qtyP]
structure Fit (bs : List GPriceBoard) (hs : List Int) : Prop where
 len : hs.length = bs.length
 few : bs.length ≤ 4
 q : ∀ k, ∀ q ∈ qsP k bs hs, 0 ≤ q ∧ q ≤ 60
theorem zjz {s : GPriceSheet} {t : GPriceTariff} (ht : TOk t) {hs : List Int} (hf : Fit s.Boards hs) : zaw s t hs = some (qsP t.Kind s.Boards hs) := by
 unfold zaw zfh
 rw [decide_eq_true ht.k.1, decide_eq_true ht.k.2]
 simp only [Bool.and_self, cond_true, Option.bind_some]
 rw [zgg (by have := hf.few; omega), zabb hs s.Boards 0 [] hs (Int.le_refl _) rfl hf.len (by have := hf.few; simp; omega)]
 rfl
theorem zvn (s : GPriceSheet) {t : GPriceTariff} (ht : TOk t) (hs : List Int) : ∀ (qs : List Int) (i : Int) (acc : List Int) (l : List (Gpricebill × Int)), (∀ q ∈ qs, 0 ≤ q ∧ q ≤ 240) → acc.length + qs.length ≤ 1000 → InvM l → ∃ l', zam s t hs qs i acc l = some (.go (acc ++ qs.map (rdT t), l')) ∧ InvM l'
 | [], i, acc, l, _, _, hl => ⟨l, by simp [zam], hl⟩
 | q :: qs, i, acc, l, hq, hn, hl => by
  have h1 := hq q (List.mem_cons_self ..)
  obtain ⟨l1, e1, hl1⟩ := zabp s ht hs h1.1 h1.2 hl
  simp only [zam, e1, Option.bind_some]
  rw [zoo (by simp at hn ⊢; omega), cond_true]
  obtain ⟨l2, e2, hl2⟩ := zvn s ht hs qs (i + 1) (acc ++ [rdT t q]) l1 (fun q hq' => hq q (List.mem_cons_of_mem _ hq')) (by simp at hn ⊢; omega) hl1
  exact ⟨l2, by rw [e2]; simp, hl2⟩
def partsP (t : GPriceTariff) (bs : List GPriceBoard) (hs : List Int) : List Int := (qsP t.Kind bs hs).map (rdT t)
theorem zuu {s : GPriceSheet} {t : GPriceTariff} (ht : TOk t) {hs : List Int} (hf : Fit s.Boards hs) {l : List (Gpricebill × Int)} (hl : InvM l) : ∃ l', zbi s t hs l = some (partsP t s.Boards hs, l') ∧ InvM l' := by
 have hn := zny (k := t.Kind) hf.len
 have hfew := hf.few
 obtain ⟨l1, e1, hl1⟩ := zvn s ht hs (qsP t.Kind s.Boards hs) 0 [] l (fun q hq => by have := hf.q _ q hq; omega) (by simp; omega) hl
 unfold zbi
 rw [zjz ht hf, Option.bind_some, zgg (by omega), e1]
 exact ⟨l1, rfl, hl1⟩
theorem zani : ∀ (p : List Int) (i a : Int), (∀ q ∈ p, 0 ≤ q ∧ q ≤ 1000000) → 0 ≤ a → a + 1000000 * p.length ≤ 1000000000000 → zem p i a = some (.go (a + sumL p))
 | [], i, a, _, _, _ => by simp [zem, sumL]
 | q :: p, i, a, h, h0, hn => by
  have h1 := h q (List.mem_cons_self ..)
  simp only [List.length_cons, Int.natCast_add, Int.mul_add] at hn
  simp only [zem]
  rw [zch (by omega) (by omega), zani p (i + 1) (a + q) (fun q hq => h q (List.mem_cons_of_mem _ hq)) (by omega) (by omega)]
  simp only [sumL]
  rw [Int.add_assoc]
theorem zall {p : List Int} (h : ∀ q ∈ p, 0 ≤ q ∧ q ≤ 1000000) (hn : p.length ≤ 1000) : zjs p = some (sumL p) := by
 unfold zjs
 rw [zgg (by omega), zani p 0 0 h (Int.le_refl _) (by omega), Int.zero_add]
 rfl
def paidP (t : GPriceTariff) (bs : List GPriceBoard) (hs : List Int) : Int := if t.Each then sumL (partsP t bs hs) else rdT t (sumL (qsP t.Kind bs hs))
theorem zaas {t : GPriceTariff} (ht : TOk t) {bs : List GPriceBoard} {hs : List Int} (hf : Fit bs hs) : ∀ x ∈ partsP t bs hs, 0 ≤ x ∧ x ≤ 30000 := by
 intro x hx
 obtain ⟨q, hq, rfl⟩ := List.mem_map.1 hx
 have := hf.q _ q hq
 have := rdT_b ht this.1 this.2
 omega
theorem zpe {t : GPriceTariff} {bs : List GPriceBoard} {hs : List Int} (hf : Fit bs hs) : (partsP t bs hs).length = bs.length := by
 unfold partsP; rw [List.length_map, zny hf.len]
theorem zahq {k : Int} {bs : List GPriceBoard} {hs : List Int} (hf : Fit bs hs) : 0 ≤ sumL (qsP k bs hs) ∧ sumL (qsP k bs hs) ≤ 240 := by
 have := zahu (hf.q k)
 have h2 := zny (k := k) hf.len
 have := hf.few
 omega
theorem zafy {s : GPriceSheet} {t : GPriceTariff} (ht : TOk t) {hs : List Int} (hf : Fit s.Boards hs) {l : List (Gpricebill × Int)} (hl : InvM l) : ∃ l', zbp s t hs l = some (paidP t s.Boards hs, l') ∧ InvM l' := by
 have hfew := hf.few
 unfold zbp paidP
 cases t.Each with
 | true =>
  obtain ⟨l1, e1, hl1⟩ := zuu ht hf hl
  have hn := zpe (t := t) hf
  rw [e1]
  simp only [cond_true, Option.bind_some, if_true]
  rw [zall (fun q hq => by have := zaas ht hf q hq; omega) (by omega)]
  exact ⟨l1, rfl, hl1⟩
 | false =>
  have hn := zny (k := t.Kind) hf.len
  have hq := zahq (k := t.Kind) hf
  rw [zjz ht hf]
  simp only [cond_false, Option.bind_some, Bool.false_eq_true, if_false]
  rw [zall (fun q hq => by have := hf.q _ q hq; omega) (by omega)]
  obtain ⟨l1, e1, hl1⟩ := zabp s ht hs hq.1 hq.2 hl
  simp only [Option.bind_some, e1]
  exact ⟨l1, rfl, hl1⟩
theorem zari {t : GPriceTariff} (ht : TOk t) {bs : List GPriceBoard} {hs : List Int} (hf : Fit bs hs) : 0 ≤ paidP t bs hs ∧ paidP t bs hs ≤ 120000 := by
 have hfew := hf.few
 unfold paidP
 cases t.Each with
 | true =>
  have h := zahu (zaas ht hf)
  have hn := zpe (t := t) hf
  simp only [if_true]
  omega
 | false =>
  have hq := zahq (k := t.Kind) hf
  have := rdT_b ht hq.1 hq.2
  simp only [Bool.false_eq_true, if_false]
  omega
end Go.V
end
section
namespace Go.V
open Go Go.Proofs
def zev (x0_s : GPriceSheet) (x1_tariff : Int) (x2_hours : List Int) : Option (Int × Int) := Option.bind (zcg x0_s) (fun r1 => cond (r1) (Option.bind (zbw x0_s x1_tariff) (fun r2 => cond (r2) (Option.bind (zbs x0_s x2_hours) (fun r3 => cond (r3) (Option.bind (getI x0_s.Tariffs x1_tariff) (fun x4 => Option.bind (zbp x0_s x4 x2_hours ([] : List (Gpricebill × Int))) (fun r5 => some (r5.1, 0)))) (some (0, 2)))) (some (0, 2)))) (some (0, 2)))
theorem zml (x0_s : GPriceSheet) (x1_tariff : Int) (x2_hours : List Int) (R : Int × Int) (h : zev x0_s x1_tariff x2_hours = some R) : VPure Tryz.prog G0 24 [.agg (cGPriceSheet x0_s), .lit (.int .i64 x1_tariff), .sl (cellsL eI x2_hours) (List.length x2_hours) false] (.tree (.tup [.lit (.int .i64 R.1), .lit (.int .i64 R.2)])) := by
 refine VPure.runR mixed Tryz.call24 Tryz.func24 rfl (by simp [Tryz.ntmps24]; kernel_rfl) ?_
 obtain ⟨KF, h, kF, kN⟩ := zan h
 simp only [zev] at h
 obtain ⟨r6, o7, h⟩ := optI h kN
 try simp only [hs] at h
 simp only [vz, mq, mqm, vsi, tyf, mqt, nm, seval]
 refine ktree (args0 := [.agg (cGPriceSheet x0_s)]) (by first | (simp only [nrm, tynrm, @zaz] <;> rfl) | rfl) (by simp only [tre, tytre, mqr, Bool.and_self]) (zeo _ _ o7) ?_
 refine zao (fun tm => tm 1 = .lit (.int .i64 x1_tariff) ∧ tm 2 = .sl (cellsL eI x2_hours) (List.length x2_hours) false ∧ tm 3 = .ptr 0 0 ∧ tm 9 = .lit (.bool r6) ∧ True) (by refine ⟨?_, ?_, ?_, ?_, trivial⟩ <;> first | (simp only [ua, zaq, nm, seval] <;> rfl) | rfl) ?_
 rintro tm ⟨e8, e9, e10, e11, _⟩
 cases d12 : (r6)
 ·simp only [d12, hs] at h
  try simp only [vz, mq, mqm, vsi, tyf, mqt, e8, e9, e10, e11, d12, nm, seval]
  refine zbb (x := (.tup [.lit (.int .i64 0), .lit (.int .i64 2)])) (by first | (simp only [Tryz.results24, resV, resL, resV1, zbc, zbz, uw, cr, tyf, mqt, d12, nm, seval] <;> rfl) | rfl) ?_
  obtain rfl := kF _ h
  refine zcc ?_ ?_
  ·simp only [tre, tytre, mqr, Bool.and_self]
  ·first | (simp only [outV, uw, zay, cr, tyf, mqt, nrm, tynrm, e8, e9, e10, e11, d12, nm, seval] <;> rfl) | rfl
 simp only [d12, hs] at h
 obtain ⟨r13, o14, h⟩ := optI h kN
 try simp only [hs] at h
 simp only [vz, mq, mqm, vsi, tyf, mqt, e8, e9, e10, e11, d12, nm, seval]
 refine ktree (args0 := [.agg (cGPriceSheet x0_s), .lit (.int .i64 x1_tariff)]) (by first | (simp only [nrm, tynrm, @zaz] <;> rfl) | rfl) (by simp only [tre, tytre, mqr, Bool.and_self]) (zdo _ _ _ o14) ?_
 refine zao (fun tm => tm 1 = .lit (.int .i64 x1_tariff) ∧ tm 2 = .sl (cellsL eI x2_hours) (List.length x2_hours) false ∧ tm 3 = .ptr 0 0 ∧ tm 11 = .lit (.bool false) ∧ tm 14 = .lit (.bool r13) ∧ True) (by refine ⟨e8, e9, e10, ?_, ?_, trivial⟩ <;> first | (simp only [ua, zaq, e8, e9, e10, e11, d12, nm, seval] <;> rfl) | rfl) ?_
 rintro tm ⟨e15, e16, e17, e18, e19, _⟩
 cases d20 : (r13)
 ·simp only [d20, hs] at h
  try simp only [vz, mq, mqm, vsi, tyf, mqt, d12, e15, e16, e17, e18, e19, d20, nm, seval]
  refine zbb (x := (.tup [.lit (.int .i64 0), .lit (.int .i64 2)])) (by first | (simp only [Tryz.results24, resV, resL, resV1, zbc, zbz, uw, cr, tyf, mqt, d12, d20, nm, seval] <;> rfl) | rfl) ?_
  obtain rfl := kF _ h
  refine zcc ?_ ?_
  ·simp only [tre, tytre, mqr, Bool.and_self]
  ·first | (simp only [outV, uw, zay, cr, tyf, mqt, nrm, tynrm, d12, e15, e16, e17, e18, e19, d20, nm, seval] <;> rfl) | rfl
 simp only [d20, hs] at h
 obtain ⟨r21, o22, h⟩ := optI h kN
 try simp only [hs] at h
 simp only [vz, mq, mqm, vsi, tyf, mqt, d12, e15, e16, e17, e18, e19, d20, nm, seval]
 refine ktree (args0 := [.agg (cGPriceSheet x0_s), .sl (cellsL eI x2_hours) (List.length x2_hours) false]) (by first | (simp only [nrm, tynrm, @zaz] <;> rfl) | rfl) (by simp only [tre, tytre, mqr, Bool.and_self]) (zdp _ _ _ o22) ?_
 refine zao (fun tm => tm 1 = .lit (.int .i64 x1_tariff) ∧ tm 2 = .sl (cellsL eI x2_hours) (List.length x2_hours) false ∧ tm 3 = .ptr 0 0 ∧ tm 17 = .lit (.bool false) ∧ tm 20 = .lit (.bool r21) ∧ True) (by refine ⟨e15, e16, e17, ?_, ?_, trivial⟩ <;> first | (simp only [ua, zaq, d12, e15, e16, e17, e18, e19, d20, nm, seval] <;> rfl) | rfl) ?_
 rintro tm ⟨e23, e24, e25, e26, e27, _⟩
 cases d28 : (r21)
 ·simp only [d28, hs] at h
  try simp only [vz, mq, mqm, vsi, tyf, mqt, d12, d20, e23, e24, e25, e26, e27, d28, nm, seval]
  refine zbb (x := (.tup [.lit (.int .i64 0), .lit (.int .i64 2)])) (by first | (simp only [Tryz.results24, resV, resL, resV1, zbc, zbz, uw, cr, tyf, mqt, d12, d20, d28, nm, seval] <;> rfl) | rfl) ?_
  obtain rfl := kF _ h
  refine zcc ?_ ?_
  ·simp only [tre, tytre, mqr, Bool.and_self]
  ·first | (simp only [outV, uw, zay, cr, tyf, mqt, nrm, tynrm, d12, d20, e23, e24, e25, e26, e27, d28, nm, seval] <;> rfl) | rfl
 simp only [d28, hs] at h
 try simp only [vz, mq, mqm, vsi, tyf, mqt, d12, d20, e23, e24, e25, e26, e27, d28, nm, seval]
 refine kopen ?_
 rw [zmj]
 refine VOpen.run mixed Tryz.call66 Tryz.func66 rfl (by simp [Tryz.ntmps66]; kernel_rfl) ?_
 simp only [vz, mq, mqm, vsi, tyf, mqt, d12, d20, d28, nm, seval]
 refine zfq (fun tm => tm 1 = .lit (.int .i64 x1_tariff) ∧ tm 2 = .sl (cellsL eI x2_hours) (List.length x2_hours) false ∧ tm 3 = .ptr 25 0 ∧ tm 6 = .ptr 26 0 ∧ True) (by refine ⟨?_, ?_, ?_, ?_, trivial⟩ <;> first | (simp only [ua, zaq, d12, d20, d28, nm, seval] <;> rfl) | rfl) ?_
 rintro tm ⟨e29, e30, e31, e32, _⟩
 obtain ⟨x33, o34, h⟩ := optI h kN
 try simp only [hs] at h
 simp only [vz, mq, mqm, vsi, tyf, mqt, d12, d20, d28, e29, e30, e31, e32, (ix24 o34), nm, seval]
 refine zgp ⟨?_, ?_⟩
 ·simp only [zen, zfx, zcf, zib, and_true, true_and]
  repeat' (first | exact trivial | refine And.intro ?_ ?_ | rw [zcf] | rw [zgr] | exact Or.inl (by decide +kernel) | exact Or.inl (by dsimp only; decide +kernel) | (refine Or.inr ⟨?_, ?_⟩ <;> simp; done) | (refine Or.inr ⟨?_, ?_⟩ <;> simp <;> omega) | (refine Or.inr ⟨?_, ?_⟩ <;> simp [VEff.wr] <;> omega))
 try simp only [vz, mq, mqm, vsi, tyf, mqt, d12, d20, d28, e29, e30, e31, e32, (ix24 o34), nm, seval]
 refine zbb (x := (.agg ((cGPriceSheet x0_s) ++ (cGPriceTariff x33) ++ [.sl (cellsL eI x2_hours) (List.length x2_hours) false] ++ [.mp 34]))) (by first | (simp only [Tryz.results66, resV, resL, resV1, zbc, zbz, uw, cr, tyf, mqt, d12, d20, d28, e29, e30, e31, e32, (ix24 o34), nm, seval] <;> rfl) | rfl) ?_
 obtain ⟨r35, o36, h⟩ := optI h kN
 try simp only [hs] at h
 simp only [vz, mq, mqm, vsi, tyf, mqt, d12, d20, d28, (ix24 o34), e23, e24, e25, e26, e27, nm, seval]
 refine kupd (VUpd.at (β := 34) (y := (fun _ => .lit (.int .i64 r35.1))) (zcv _ _ _ _ _ o36) (by omega) (by first | rfl | assumption | (simp only [zag, zac, nm, seval] <;> rfl)) (by first | rfl | (simp only [nrm, tynrm, @zaz, @zgf] <;> rfl)) (zft (fun _ => rfl) _)) ?_
 refine zge (fun tm => tm 27 = .lit (.int .i64 r35.1) ∧ True) (by refine ⟨?_, trivial⟩ <;> first | (simp only [ua, zaq, d12, d20, d28, e23, e24, e25, e26, e27, nm, seval] <;> rfl) | rfl) ?_
 rintro tm ⟨e37, _⟩
 try simp only [vz, mq, mqm, vsi, tyf, mqt, d12, d20, d28, (ix24 o34), e37, nm, seval]
 refine zbb (x := (.tup [.lit (.int .i64 r35.1), .lit (.int .i64 0)])) (by first | (simp only [Tryz.results24, resV, resL, resV1, zbc, zbz, uw, cr, tyf, mqt, d12, d20, d28, (ix24 o34), nm, seval] <;> rfl) | rfl) ?_
 obtain rfl := kF _ h
 refine zcc ?_ ?_
 ·simp only [tre, tytre, mqr, Bool.and_self]
 ·first | (simp only [outV, uw, zay, cr, tyf, mqt, nrm, tynrm, d12, d20, d28, (ix24 o34), e37, nm, seval] <;> rfl) | rfl



def zfb (x0_s : GPriceSheet) (x1_tariff : Int) (x2_hours : List Int) : Option ((List Int) × Int) := Option.bind (zcg x0_s) (fun r1 => cond (r1) (Option.bind (zbw x0_s x1_tariff) (fun r2 => cond (r2) (Option.bind (zbs x0_s x2_hours) (fun r3 => cond (r3) (Option.bind (getI x0_s.Tariffs x1_tariff) (fun x4 => Option.bind (zbi x0_s x4 x2_hours ([] : List (Gpricebill × Int))) (fun r5 => some (r5.1, 0)))) (some (([] : List Int), 2)))) (some (([] : List Int), 2)))) (some (([] : List Int), 2)))
theorem zll (x0_s : GPriceSheet) (x1_tariff : Int) (x2_hours : List Int) (R : (List Int) × Int) (h : zfb x0_s x1_tariff x2_hours = some R) : VPure Tryz.prog G0 33 [.agg (cGPriceSheet x0_s), .lit (.int .i64 x1_tariff), .sl (cellsL eI x2_hours) (List.length x2_hours) false] (.tree (.tup [.sl (cellsL eI R.1) (List.length R.1) false, .lit (.int .i64 R.2)])) := by
 refine VPure.runR mixed Tryz.call33 Tryz.func33 rfl (by simp [Tryz.ntmps33]; kernel_rfl) ?_
 obtain ⟨KF, h, kF, kN⟩ := zan h
 simp only [zfb] at h
 try simp only [vz, mq, mqm, vsi, tyf, mqt, nm, seval]
 refine kopen ?_
 rw [zmj]
 refine VOpen.run mixed Tryz.call75 Tryz.func75 rfl (by simp [Tryz.ntmps75]; kernel_rfl) ?_
 obtain ⟨r6, o7, h⟩ := optI h kN
 try simp only [hs] at h
 simp only [vz, mq, mqm, vsi, tyf, mqt, nm, seval]
 refine ktree (args0 := [.agg (cGPriceSheet x0_s)]) (by first | (simp only [nrm, tynrm, @zaz] <;> rfl) | rfl) (by simp only [tre, tytre, mqr, Bool.and_self]) (zeo _ _ o7) ?_
 refine zao (fun tm => tm 1 = .lit (.int .i64 x1_tariff) ∧ tm 2 = .sl (cellsL eI x2_hours) (List.length x2_hours) false ∧ tm 3 = VV.fn (Fn.func 76) [] [] ∧ tm 4 = .ptr 11 0 ∧ tm 11 = .lit (.bool r6) ∧ True) (by refine ⟨?_, ?_, ?_, ?_, ?_, trivial⟩ <;> first | (simp only [ua, zaq, nm, seval] <;> rfl) | rfl) ?_
 rintro tm ⟨e8, e9, e10, e11, e12, _⟩
 cases d13 : (r6)
 ·simp only [d13, hs] at h
  try simp only [vz, mq, mqm, vsi, tyf, mqt, e8, e9, e10, e11, e12, d13, nm, seval]
  refine zbb (x := (.tup [.lit (.slice none 0 0), .lit (.int .i64 2)])) (by first | (simp only [Tryz.results75, resV, resL, resV1, zbc, zbz, uw, cr, tyf, mqt, d13, nm, seval] <;> rfl) | rfl) ?_
  try simp only [vz, mq, mqm, vsi, tyf, mqt, d13, nm, seval]
  refine zbb (x := (.tup [.lit (.slice none 0 0), .lit (.int .i64 2)])) (by first | (simp only [Tryz.results33, resV, resL, resV1, zbc, zbz, uw, cr, tyf, mqt, d13, nm, seval] <;> rfl) | rfl) ?_
  obtain rfl := kF _ h
  refine zcc ?_ ?_
  ·simp only [tre, tytre, mqr, Bool.and_self]
  ·first | (simp only [outV, uw, zay, cr, tyf, mqt, nrm, tynrm, d13, nm, seval] <;> rfl) | rfl
 simp only [d13, hs] at h
 obtain ⟨r14, o15, h⟩ := optI h kN
 try simp only [hs] at h
 simp only [vz, mq, mqm, vsi, tyf, mqt, e8, e9, e10, e11, e12, d13, nm, seval]
 refine ktree (args0 := [.agg (cGPriceSheet x0_s), .lit (.int .i64 x1_tariff)]) (by first | (simp only [nrm, tynrm, @zaz] <;> rfl) | rfl) (by simp only [tre, tytre, mqr, Bool.and_self]) (zdo _ _ _ o15) ?_
 refine zao (fun tm => tm 1 = .lit (.int .i64 x1_tariff) ∧ tm 2 = .sl (cellsL eI x2_hours) (List.length x2_hours) false ∧ tm 3 = VV.fn (Fn.func 76) [] [] ∧ tm 4 = .ptr 11 0 ∧ tm 13 = .lit (.bool false) ∧ tm 16 = .lit (.bool r14) ∧ True) (by refine ⟨e8, e9, e10, e11, ?_, ?_, trivial⟩ <;> first | (simp only [ua, zaq, e8, e9, e10, e11, e12, d13, nm, seval] <;> rfl) | rfl) ?_
 rintro tm ⟨e16, e17, e18, e19, e20, e21, _⟩
 cases d22 : (r14)
 ·simp only [d22, hs] at h
  try simp only [vz, mq, mqm, vsi, tyf, mqt, d13, e16, e17, e18, e19, e20, e21, d22, nm, seval]
  refine zbb (x := (.tup [.lit (.slice none 0 0), .lit (.int .i64 2)])) (by first | (simp only [Tryz.results75, resV, resL, resV1, zbc, zbz, uw, cr, tyf, mqt, d13, d22, nm, seval] <;> rfl) | rfl) ?_
  try simp only [vz, mq, mqm, vsi, tyf, mqt, d13, d22, nm, seval]
  refine zbb (x := (.tup [.lit (.slice none 0 0), .lit (.int .i64 2)])) (by first | (simp only [Tryz.results33, resV, resL, resV1, zbc, zbz, uw, cr, tyf, mqt, d13, d22, nm, seval] <;> rfl) | rfl) ?_
  obtain rfl := kF _ h
  refine zcc ?_ ?_
  ·simp only [tre, tytre, mqr, Bool.and_self]
  ·first | (simp only [outV, uw, zay, cr, tyf, mqt, nrm, tynrm, d13, d22, nm, seval] <;> rfl) | rfl
 simp only [d22, hs] at h
 obtain ⟨r23, o24, h⟩ := optI h kN
 try simp only [hs] at h
 simp only [vz, mq, mqm, vsi, tyf, mqt, d13, e16, e17, e18, e19, e20, e21, d22, nm, seval]
 refine ktree (args0 := [.agg (cGPriceSheet x0_s), .sl (cellsL eI x2_hours) (List.length x2_hours) false]) (by first | (simp only [nrm, tynrm, @zaz] <;> rfl) | rfl) (by simp only [tre, tytre, mqr, Bool.and_self]) (zdp _ _ _ o24) ?_
 refine zao (fun tm => tm 1 = .lit (.int .i64 x1_tariff) ∧ tm 2 = .sl (cellsL eI x2_hours) (List.length x2_hours) false ∧ tm 3 = VV.fn (Fn.func 76) [] [] ∧ tm 4 = .ptr 11 0 ∧ tm 19 = .lit (.bool false) ∧ tm 22 = .lit (.bool r23) ∧ True) (by refine ⟨e16, e17, e18, e19, ?_, ?_, trivial⟩ <;> first | (simp only [ua, zaq, d13, e16, e17, e18, e19, e20, e21, d22, nm, seval] <;> rfl) | rfl) ?_
 rintro tm ⟨e25, e26, e27, e28, e29, e30, _⟩
 cases d31 : (r23)
 ·simp only [d31, hs] at h
  try simp only [vz, mq, mqm, vsi, tyf, mqt, d13, d22, e25, e26, e27, e28, e29, e30, d31, nm, seval]
  refine zbb (x := (.tup [.lit (.slice none 0 0), .lit (.int .i64 2)])) (by first | (simp only [Tryz.results75, resV, resL, resV1, zbc, zbz, uw, cr, tyf, mqt, d13, d22, d31, nm, seval] <;> rfl) | rfl) ?_
  try simp only [vz, mq, mqm, vsi, tyf, mqt, d13, d22, d31, nm, seval]
  refine zbb (x := (.tup [.lit (.slice none 0 0), .lit (.int .i64 2)])) (by first | (simp only [Tryz.results33, resV, resL, resV1, zbc, zbz, uw, cr, tyf, mqt, d13, d22, d31, nm, seval] <;> rfl) | rfl) ?_
  obtain rfl := kF _ h
  refine zcc ?_ ?_
  ·simp only [tre, tytre, mqr, Bool.and_self]
  ·first | (simp only [outV, uw, zay, cr, tyf, mqt, nrm, tynrm, d13, d22, d31, nm, seval] <;> rfl) | rfl
 simp only [d31, hs] at h
 try simp only [vz, mq, mqm, vsi, tyf, mqt, d13, d22, e25, e26, e27, e28, e29, e30, d31, nm, seval]
 refine kopen ?_
 rw [zmj]
 refine VOpen.run mixed Tryz.call66 Tryz.func66 rfl (by simp [Tryz.ntmps66]; kernel_rfl) ?_
 simp only [vz, mq, mqm, vsi, tyf, mqt, d13, d22, d31, nm, seval]
 refine zfq (fun tm => tm 1 = .lit (.int .i64 x1_tariff) ∧ tm 2 = .sl (cellsL eI x2_hours) (List.length x2_hours) false ∧ tm 3 = .ptr 37 0 ∧ tm 6 = .ptr 38 0 ∧ True) (by refine ⟨?_, ?_, ?_, ?_, trivial⟩ <;> first | (simp only [ua, zaq, d13, d22, d31, nm, seval] <;> rfl) | rfl) ?_
 rintro tm ⟨e32, e33, e34, e35, _⟩
 obtain ⟨x36, o37, h⟩ := optI h kN
 try simp only [hs] at h
 simp only [vz, mq, mqm, vsi, tyf, mqt, d13, d22, d31, e32, e33, e34, e35, (ix24 o37), nm, seval]
 refine zgp ⟨?_, ?_⟩
 ·simp only [zen, zfx, zcf, zib, and_true, true_and]
  repeat' (first | exact trivial | refine And.intro ?_ ?_ | rw [zcf] | rw [zgr] | exact Or.inl (by decide +kernel) | exact Or.inl (by dsimp only; decide +kernel) | (refine Or.inr ⟨?_, ?_⟩ <;> simp; done) | (refine Or.inr ⟨?_, ?_⟩ <;> simp <;> omega) | (refine Or.inr ⟨?_, ?_⟩ <;> simp [VEff.wr] <;> omega))
 try simp only [vz, mq, mqm, vsi, tyf, mqt, d13, d22, d31, e32, e33, e34, e35, (ix24 o37), nm, seval]
 refine zbb (x := (.agg ((cGPriceSheet x0_s) ++ (cGPriceTariff x36) ++ [.sl (cellsL eI x2_hours) (List.length x2_hours) false] ++ [.mp 46]))) (by first | (simp only [Tryz.results66, resV, resL, resV1, zbc, zbz, uw, cr, tyf, mqt, d13, d22, d31, e32, e33, e34, e35, (ix24 o37), nm, seval] <;> rfl) | rfl) ?_
 obtain ⟨r38, o39, h⟩ := optI h kN
 try simp only [hs] at h
 simp only [vz, mq, mqm, vsi, tyf, mqt, d13, d22, d31, (ix24 o37), e25, e26, e27, e28, e29, e30, nm, seval]
 refine kupd (VUpd.at (β := 46) (y := (fun _ => .sl (cellsL eI r38.1) (List.length r38.1) false)) (zdt _ _ _ _ _ o39) (by omega) (by first | rfl | assumption | (simp only [zag, zac, nm, seval] <;> rfl)) (by first | rfl | (simp only [nrm, tynrm, @zaz, @zgf] <;> rfl)) (zft (fun _ => rfl) _)) ?_
 refine zge (fun tm => tm 30 = .sl (cellsL eI r38.1) (List.length r38.1) false ∧ True) (by refine ⟨?_, trivial⟩ <;> first | (simp only [ua, zaq, d13, d22, d31, e25, e26, e27, e28, e29, e30, nm, seval] <;> rfl) | rfl) ?_
 rintro tm ⟨e40, _⟩
 try simp only [vz, mq, mqm, vsi, tyf, mqt, d13, d22, d31, (ix24 o37), e40, nm, seval]
 refine zbb (x := (.tup [.sl (cellsL eI r38.1) (List.length r38.1) false, .lit (.int .i64 0)])) (by first | (simp only [Tryz.results75, resV, resL, resV1, zbc, zbz, uw, cr, tyf, mqt, d13, d22, d31, (ix24 o37), nm, seval] <;> rfl) | rfl) ?_
 try simp only [vz, mq, mqm, vsi, tyf, mqt, d13, d22, d31, (ix24 o37), nm, seval]
 refine zbb (x := (.tup [.sl (cellsL eI r38.1) (List.length r38.1) false, .lit (.int .i64 0)])) (by first | (simp only [Tryz.results33, resV, resL, resV1, zbc, zbz, uw, cr, tyf, mqt, d13, d22, d31, (ix24 o37), nm, seval] <;> rfl) | rfl) ?_
 obtain rfl := kF _ h
 refine zcc ?_ ?_
 ·simp only [tre, tytre, mqr, Bool.and_self]
 ·first | (simp only [outV, uw, zay, cr, tyf, mqt, nrm, tynrm, d13, d22, d31, (ix24 o37), nm, seval] <;> rfl) | rfl




end Go.V
end
section
namespace Go.V
open Go
theorem zaev {s : GPriceSheet} (h : sheetB s = true) : ∀ t ∈ s.Tariffs, TOk t := by
 simp only [sheetB, Bool.and_eq_true, List.all_eq_true] at h
 exact fun t ht => zaqw (h.2.2.2 t ht)
theorem zafu {s : GPriceSheet} (h : sheetB s = true) : (1 ≤ s.Boards.length ∧ s.Boards.length ≤ 4) ∧ (1 ≤ s.Tariffs.length ∧ s.Tariffs.length ≤ 3) := by
 simp only [sheetB, Bool.and_eq_true, zlf] at h
 omega
theorem zanu {s : GPriceSheet} (h : sheetB s = true) : ∀ b ∈ s.Boards, boardB b = true := by
 simp only [sheetB, Bool.and_eq_true, List.all_eq_true, ownB] at h
 exact fun b hb => (h.2.1.2 b hb).1
structure BOk (b : GPriceBoard) : Prop where
 l : 0 ≤ b.Letters ∧ b.Letters ≤ 60
 f : 0 ≤ b.Feet ∧ b.Feet ≤ 40
 h : 0 ≤ b.Hours.Low ∧ b.Hours.Low ≤ b.Hours.High ∧ b.Hours.High ≤ 40
theorem zaro {b : GPriceBoard} (h : boardB b = true) : BOk b := by
 simp only [boardB, Bool.and_eq_true, zlf] at h
 obtain ⟨h1, h2, h3, h4, h5⟩ := h
 refine ⟨h1, h2, h3.1, h4, ?_⟩
 split at h5 <;> omega
theorem qty_b {b : GPriceBoard} (h : BOk b) (k : Int) {n : Int} (hn : 0 ≤ n ∧ n ≤ 40) : 0 ≤ qtyP k b n ∧ qtyP k b n ≤ 60 := by
 have := h.l; have := h.f
 unfold qtyP
 repeat' split
 all_goals omega
theorem qs_b : ∀ {bs : List GPriceBoard} {hs : List Int}, (∀ b ∈ bs, BOk b) → hrsB bs hs = true → ∀ k, ∀ q ∈ qsP k bs hs, 0 ≤ q ∧ q ≤ 60
 | [], [], _, _, k, q, hq => by cases hq
 | b :: bs, h :: hs, hb, hh, k, q, hq => by
  simp only [hrsB, Bool.and_eq_true, zlf] at hh
  have b1 := hb b (List.mem_cons_self ..)
  rcases List.mem_cons.1 hq with rfl | hq
  ·have := b1.h
   exact qty_b b1 k (by omega)
  ·exact qs_b (fun b h => hb b (List.mem_cons_of_mem _ h)) hh.2 k q hq
theorem zacx {s : GPriceSheet} (h : sheetB s = true) {hs : List Int} (hh : hrsB s.Boards hs = true) : Fit s.Boards hs :=
 ⟨ztq hh, (zafu h).1.2, qs_b (fun b hb => zaro (zanu h b hb)) hh⟩
theorem zaje {s : GPriceSheet} (h : sheetB s = true) {n : Int} (hn : tarB s n = true) : ∃ t, getI s.Tariffs n = some t ∧ t ∈ s.Tariffs ∧ TOk t := by
 simp only [tarB, zlf] at hn
 obtain ⟨t, h1, h2⟩ := zacu (xs := s.Tariffs) hn.1 (by omega)
 exact ⟨t, h1, h2, zaev h t h2⟩
theorem zahe {s : GPriceSheet} {n : Int} {hs : List Int} (a : Asked s n hs) {t : GPriceTariff} (ht : getI s.Tariffs n = some t) (hk : TOk t) : zev s n hs = some (paidP t s.Boards hs, 0) := by
 unfold zev
 obtain ⟨l, e, _⟩ := zafy (s := s) hk (zacx a.sheet a.hrs) InvM.nil
 rw [zmd a.ok, a.sheet, zhi a.ok, a.tar, zhd a.ok, a.hrs]
 simp only [Option.bind_some, cond_true, ht, e]
theorem zagx {s : GPriceSheet} {n : Int} {hs : List Int} (a : Asked s n hs) {t : GPriceTariff} (ht : getI s.Tariffs n = some t) (hk : TOk t) : zfb s n hs = some (partsP t s.Boards hs, 0) := by
 unfold zfb
 obtain ⟨l, e, _⟩ := zuu (s := s) hk (zacx a.sheet a.hrs) InvM.nil
 rw [zmd a.ok, a.sheet, zhi a.ok, a.tar, zhd a.ok, a.hrs]
 simp only [Option.bind_some, cond_true, ht, e]
theorem setAF {α : Type} {enc : α → List VV} {w : Nat} {xs : List α} {x : α} {i : Int} (o m : Nat) (he : ∀ x, (enc x).length = w) (hm : o + m ≤ w) (h : getI xs i = some x) : (i.toNat * w + o + m ≤ (cellsL enc xs).length) = True := by
 have h1 := of_eq_true (setA (w := w) (enc := enc) he h)
 exact eq_true (by omega)
theorem zqe (A X B : List VV) (o : Nat) (cs : List VV) (h : o + cs.length ≤ X.length) : overwrite (A ++ (X ++ B)) (A.length + o) cs = A ++ (overwrite X o cs ++ B) := by
 unfold overwrite
 rw [List.take_append, List.take_of_length_le (Nat.le_add_right _ _), show A.length + o - A.length = o by omega, List.take_append_of_le_length (by omega),
  List.drop_append, List.drop_of_length_le (by omega), List.nil_append, show A.length + o + cs.length - A.length = o + cs.length by omega, List.drop_append_of_le_length h]
 simp only [List.append_assoc]
theorem setBF {α : Type} {enc : α → List VV} {w : Nat} {xs : List α} {x : α} {i : Int} (o : Nat) (cs : List VV) (v : α) (he : ∀ x, (enc x).length = w) (hc : o + cs.length ≤ w) (h : getI xs i = some x) (hv : enc v = overwrite (enc x) o cs) : overwrite (cellsL enc xs) (i.toNat * w + o) cs = cellsL enc (xs.set i.toNat v) := by
 obtain ⟨h0, h1, h2⟩ := zgc h
 have hn : i.toNat < xs.length := by omega
 have e1 : xs = xs.take i.toNat ++ (x :: xs.drop (i.toNat + 1)) := by
  rw [← h2, List.take_append_drop]
 have e2 : xs.set i.toNat v = xs.take i.toNat ++ (v :: xs.drop (i.toNat + 1)) := by
  rw [List.set_eq_take_append_cons_drop, if_pos hn]
 have hl : (xs.take i.toNat).length = i.toNat := by rw [List.length_take]; omega
 have e3 : cellsL enc xs = cellsL enc (xs.take i.toNat) ++ (enc x ++ cellsL enc (xs.drop (i.toNat + 1))) := by
  conv => lhs; rw [e1, zfa]
  rfl
 have e4 : (cellsL enc (xs.take i.toNat)).length = i.toNat * w := by rw [zbh he, hl]
 rw [e3, ← e4, zqe _ _ _ _ _ (by rw [he]; exact hc), ← hv, e2, zfa]
 rfl
def rangeFR (f : FuncId) (cf : CallR) (jump : Code → RS → ER) (n : Nat) (s : RS) (f0 : FuncId) (first captured : List VV) (ps : Array Tmp) (asg bo : Code) : ER :=
 match cf f0 (first ++ [.yl (s.nx + 1)] ++ captured) ((s.H.put s.nx (some (.deferred (some [])))).put (s.nx + 1) (some (.loopF .ready none (tmL n s.st.tm) ps asg bo f))) (s.nx + 2) with
 | .ret _ H' nx' => match H'.get (s.nx + 1) with
  | some (.loopF .busy _ _ _ _ _ _) => .no (.text 1)
  | some (.loopF _ pe tm ps asg bo fn) => match pe with
   | none => .mk .normal { s with H := H'.put (s.nx + 1) (some (.loopF .exhausted pe tm ps asg bo fn)), nx := nx', df := .coll s.nx :: s.df }
   | some c => jump c { s with H := H'.put (s.nx + 1) (some (.loopF .exhausted pe tm ps asg bo fn)), nx := nx', df := .coll s.nx :: s.df }
  | _ => .no (.text 2)
 | .pan x H' nx' => .mk (.panic x) { s with H := H', nx := nx', df := .coll s.nx :: s.df }
 | .no w => .no w
def GoOk (P : Program) (G : Glob) (f n : Nat) (go : Code → RS → ER) : Prop := ∀ code s e s', go code s = .mk e s' → ∀ Q : VExit → St → Prop, Q e s'.st → VGo P G f n code Q s.st
theorem zre {P : Program} {G : Glob} {cf : CallR} (hcf : CallOk P G cf) {f : FuncId} {jump : Code → RS → ER} {n : Nat} (hj : GoOk P G f n jump) {s s' : RS} {e : VExit} {g : Operand} {f0 : FuncId} {first captured : List VV} {ps : Array Tmp} {asg bo : Code}
  (hg : s.st.ρ G g = .fn (.func f0) first captured) (h : rangeFR f cf jump n s f0 first captured ps asg bo = .mk e s') {Q : VExit → St → Prop} (hq : Q e s'.st) : VGo P G f n (.rangeFunc g ps asg bo) Q s.st := by
 refine VGo.range hg ?_
 unfold rangeFR at h
 have eH : ((s.H.put s.nx (some (.deferred (some [])))).put (s.nx + 1) (some (.loopF .ready none (tmL n s.st.tm) ps asg bo f))).get = updH (updH s.st.H s.st.nx (.deferred (some []))) (s.st.nx + 1) (.loopF .ready none (tmL n s.st.tm) ps asg bo f) := by
  rw [zfp, zfp]; rfl
 split at h
 ·rename_i x H' nx' hc
  have hv := hcf.1 _ _ _ _ _ _ _ hc
  rw [eH] at hv
  refine VOpen.mono hv ?_ ?_
  ·rintro y H1 n1 ⟨_, rfl, rfl⟩
   split at h
   ·cases h
   ·rename_i st pe tm2 ps2 as2 bo2 df2 hnb hl
    have e2 : ({ s with H := H'.put (s.nx + 1) (some (.loopF .exhausted pe tm2 ps2 as2 bo2 df2)), nx := n1, df := .coll s.nx :: s.df } : RS).st = { s.st with H := updH H'.get (s.st.nx + 1) (.loopF .exhausted pe tm2 ps2 as2 bo2 df2), nx := n1, df := .coll s.st.nx :: s.st.df } := by
     simp only [RS.st, zfp]
    refine ⟨st, pe, tm2, ps2, as2, bo2, df2, hl, hnb, ?_⟩
    split at h
    ·cases h
     show Q .normal _
     rw [← e2]; exact hq
    ·rename_i c
     show VGo P _ f n c Q _
     rw [← e2]
     exact hj c _ e s' h Q hq
   ·cases h
  ·intro y H1 n1 h; exact h.elim
 ·rename_i x H' nx' hc
  have hv := hcf.2 _ _ _ _ _ _ _ hc
  rw [eH] at hv
  cases h
  refine VOpen.mono hv ?_ ?_
  ·intro y H1 n1 h; exact h.elim
  ·rintro y H1 n1 ⟨rfl, rfl, rfl⟩
   exact hq
 ·cases h
noncomputable def rangeFF (f : FuncId) (cf : CallR) (jump : Code → RS → ER) (n : Nat) (s : RS) (ps : Array Tmp) (asg bo : Code) (code : Code) (x : VV) : ER := match x with
 | .fn (.func f0) first captured => rangeFR f cf jump n s f0 first captured ps asg bo
 | _ => .no (.code code)
noncomputable def goF (G : Glob) (f : FuncId) (run : RunR) (cf : CallR) (n : Nat) (k : Nat) : Code → RS → ER :=
 Nat.rec (motive := fun _ => Code → RS → ER) (fun code s => run none n code s) (fun _ ih code s => match code with
  | .seq a b => thenQ (ih a s) (fun s' => ih b s')
  | .block id a => blockQ (ih a s) id
  | .rangeFunc g ps asg bo => rangeFF f cf (fun c s => run none n c s) n s ps asg bo code (ρQ G s.tm g)
  | code => run none n code s) k
theorem zalh {P : Program} {G : Glob} {f n : Nat} {run : RunR} {cf : CallR} (hrun : RunOk P G run) (hcf : CallOk P G cf) : ∀ (k : Nat), GoOk P G f n (goF G f run cf n k)
 | 0, code, s, e, s', h, Q, hq => VGo.of (hrun none n code s e s' h Q hq)
 | k + 1, code, s, e, s', h, Q, hq => by
  have ih := zalh (f := f) (n := n) hrun hcf k
  have dflt : run none n code s = .mk e s' → VGo P G f n code Q s.st := fun h => VGo.of (hrun none n code s e s' h Q hq)
  cases code with
  | seq a b =>
   have h' : thenQ (goF G f run cf n k a s) (fun s' => goF G f run cf n k b s') = .mk e s' := h
   cases hs : goF G f run cf n k a s with
   | no w => rw [hs] at h'; cases h'
   | mk e1 s1 =>
    rw [hs] at h'
    cases e1 with
    | normal => exact VGo.seq (ih a s .normal s1 hs _ (ih b s1 e s' h' Q hq))
    | exit id => cases h'; exact VGo.seq (ih a s _ _ hs _ hq)
    | goto l => cases h'; exact VGo.seq (ih a s _ _ hs _ hq)
    | ret => cases h'; exact VGo.seq (ih a s _ _ hs _ hq)
    | panic x => cases h'; exact VGo.seq (ih a s _ _ hs _ hq)
  | block id a =>
   have h' : blockQ (goF G f run cf n k a s) id = .mk e s' := h
   cases hs : goF G f run cf n k a s with
   | no w => rw [hs] at h'; cases h'
   | mk e1 s1 =>
    rw [hs] at h'
    refine VGo.block (ih a s e1 s1 hs _ ?_)
    cases e1 with
    | normal => cases h'; exact hq
    | goto l => cases h'; exact hq
    | ret => cases h'; exact hq
    | panic x => cases h'; exact hq
    | exit id' =>
     have h'' : Bool.rec (motive := fun _ => ER) (.mk (.exit id') s1) (.mk .normal s1) (Nat.beq id' id) = .mk e s' := h'
     show (if id' = id then _ else _)
     by_cases hid : id' = id
     ·have hb : Nat.beq id' id = true := by simpa using hid
      rw [hb] at h''
      cases h''
      rw [if_pos hid]; exact hq
     ·have hb : Nat.beq id' id = false := by cases hq : Nat.beq id' id with | false => rfl | true => exact absurd (by simpa using hq) hid
      rw [hb] at h''
      cases h''
      rw [if_neg hid]; exact hq
  | rangeFunc g ps asg bo =>
   have h' : rangeFF f cf (fun c s => run none n c s) n s ps asg bo (.rangeFunc g ps asg bo) (ρQ G s.tm g) = .mk e s' := h
   rw [ρQ_eq] at h'
   unfold rangeFF at h'
   split at h'
   ·rename_i f0 first captured hg
    exact zre hcf (fun c s e s' hs Q hq => VGo.of (hrun none n c s e s' hs Q hq)) hg h' hq
   ·cases h'
  | _ => exact dflt h
noncomputable def enterF (P : Program) (G : Glob) (run : RunR) (cf : CallR) (k : Nat) (f : FuncId) (fn : Func) (code : Code) (args : List VV) (H : Trie VObj) (nx : Nat) : CR :=
 match goF G f run cf fn.ntmps k code (RS.mk (listV args 0 .nil) H nx []) with
 | .mk .ret s => leaveR P G run fn f s s.df .ret s.H s.nx
 | .mk .normal s => leaveR P G run fn f s s.df .ret s.H s.nx
 | .mk (.panic x) s => leaveR P G run fn f s s.df (.pan x false) s.H s.nx
 | .mk _ _ => .no (.fn f)
 | .no w => .no w
noncomputable def cfF1 (P : Program) (G : Glob) (run : RunR) (cf : CallR) (k : Nat) : CallR := fun f args H nx => match textQ P f with
 | some (fn, code) => Bool.rec (motive := fun _ => CR) (.no (.fn f)) (enterF P G run cf k f fn code args H nx) (Nat.ble args.length fn.ntmps)
 | none => .no (.fn f)
theorem zaix {P : Program} {f : FuncId} {fn : Func} {code : Code} (h : textQ P f = some (fn, code)) : P.funcs[f]? = some fn ∧ fn.body = some code ∧ nameQ fn = true := by
 unfold textQ at h
 split at h
 ·cases h
 ·rename_i fn1 hf
  split at h
  ·cases h
  ·rename_i c1 hb
   split at h
   ·rename_i hn
    cases h
    exact ⟨hf, hb, hn⟩
   ·cases h
theorem zug {P : Program} {G : Glob} {run : RunR} {cf : CallR} {k : Nat} (hrun : RunOk P G run) (hcf : CallOk P G cf) {f : FuncId} {args : List VV} {H : Trie VObj} {nx : Nat} {R Rp : VV → (Nat → Option VObj) → Nat → Prop}
  (h1 : ∀ x H' nx', cfF1 P (G.at (some none)) run cf k f args H nx = .ret x H' nx' → R x H'.get nx') (h2 : ∀ x H' nx', cfF1 P (G.at (some none)) run cf k f args H nx = .pan x H' nx' → Rp x H'.get nx') (h3 : ∀ w, cfF1 P (G.at (some none)) run cf k f args H nx ≠ .no w) : VOpen P G f args H.get nx R Rp := by
 unfold cfF1 at h1 h2 h3
 cases ht : textQ P f with
 | none => exact absurd (by simp only [ht]) (h3 (.fn f))
 | some p =>
  obtain ⟨fn, code⟩ := p
  obtain ⟨hf, hb, hn⟩ := zaix ht
  cases hc : Nat.ble args.length fn.ntmps with
  | false => exact absurd (by simp only [ht, hc]) (h3 (.fn f))
  | true =>
   simp only [ht, hc] at h1 h2 h3
   simp only [Nat.ble_eq] at hc
   unfold enterF at h1 h2 h3
   rw [ztd] at h1 h2 h3
   cases hr : goF (G.at (some none)) f run cf fn.ntmps k code (RS.mk (Trie.ofList 0 args .nil) H nx []) with
   | no w => exact absurd (by rw [hr]) (h3 w)
   | mk e s =>
    rw [hr] at h1 h2 h3
    have body : OpenPostD P G fn R Rp e s.st → VOpen P G f args H.get nx R Rp := by
     intro hq
     have := zalh (G := G.at (some none)) (f := f) (n := fn.ntmps) hrun hcf k code _ e s hr _ hq
     rw [argsR] at this
     exact VOpen.of_bodyGo (zjr hf hb hn) hf hb hc this
    cases e with
    | ret => exact body (zdh hrun s.df .ret s.H s.nx h1 h2 h3)
    | normal => exact body (zdh hrun s.df .ret s.H s.nx h1 h2 h3)
    | panic x => exact body (zdh hrun s.df (.pan x false) s.H s.nx h1 h2 h3)
    | exit id => exact absurd rfl (h3 (.fn f))
    | goto l => exact absurd rfl (h3 (.fn f))
noncomputable def cfF (P : Program) (G : Glob) (run : RunR) (fs : List Nat) (k : Nat) : CallR := fun f args H nx => match fs.elem f with
 | true => cfF1 P G run (cfQ P G run) k f args H nx
 | false => cfQ P G run f args H nx
theorem zapm {P : Program} {G : Glob} {run : RunR} {fs : List Nat} {k : Nat} (hrun : RunOk P G run) : CallOk P G (cfF P (G.at (some none)) run fs k) := by
 have hcf : CallOk P G (cfQ P (G.at (some none)) run) := by rw [zaja]; exact zjm hrun
 constructor
 ·intro f args H nx x H' nx' h
  unfold cfF at h
  split at h
  ·exact zug hrun hcf (fun y H1 n1 e => by rw [h] at e; cases e; exact ⟨rfl, rfl, rfl⟩) (fun y H1 n1 e => by rw [h] at e; cases e) (fun w e => by rw [h] at e; cases e)
  ·exact hcf.1 _ _ _ _ _ _ _ h
 ·intro f args H nx x H' nx' h
  unfold cfF at h
  split at h
  ·exact zug hrun hcf (fun y H1 n1 e => by rw [h] at e; cases e) (fun y H1 n1 e => by rw [h] at e; cases e; exact ⟨rfl, rfl, rfl⟩) (fun w e => by rw [h] at e; cases e)
  ·exact hcf.2 _ _ _ _ _ _ _ h
noncomputable def runF (P : Program) (G : Glob) (fs : List Nat) (tab : KTab) (k : Nat) : RunR :=
 Nat.rec (motive := fun _ => RunR) (fun _ _ _ _ => .no .fuel) (fun k ih ro n code s => bodyA k ih (cfT tab (cfF P (G.at (some none)) ih fs k)) ro n s (ccB P G code)) k
theorem zqg {P : Program} {G : Glob} {fs : List Nat} {tab : KTab} (hm : P.follows .mixedOrders = true) (ht : KTabOk P G tab) : ∀ (k : Nat), RunOk P G (runF P G fs tab k)
 | 0, _, _, _, _, _, _, h => by cases h
 | k + 1, ro, n, code, s, e, s', h => by
  intro Q hq
  have ih := zqg (G := G) (fs := fs) hm ht k
  exact znm hm ih (zary ht (zapm ih)) h hq
noncomputable def closedF (P : Program) (G : Glob) (fs : List Nat) (tab : KTab) (k : Nat) (f : FuncId) (args : List VV) : PRes ⊕ Why := pureQ (cfF P (G.at (some none)) (runF P G fs tab k) fs k) f args
theorem VPure.closedF {P : Program} {G : Glob} {fs : List Nat} {tab : KTab} (hm : P.follows .mixedOrders = true) (ht : KTabOk P G tab) (k : Nat) {f : FuncId} {args : List VV} {r : PRes} (h : closedF P G fs tab k f args = .inl r) : VPure P G f args r := by
 unfold Go.V.closedF at h
 rw [zpa] at h
 exact zfn (zapm (zqg hm ht k)) h
end Go.V
end
section
namespace Go.V
open Go Go.Proofs
theorem hmix : Tryz.prog.follows .mixedOrders = true := by kernel_rfl
def kP : VV := (VV.agg [(VV.sl [(VV.lit (Value.int IntKind.i64 (Int.ofNat 0))), (VV.lit (Value.int IntKind.i64 (Int.ofNat 25)))] 2 Bool.false), (VV.sl [(VV.lit (Value.int IntKind.i64 (Int.ofNat 7))), (VV.lit (Value.int IntKind.i64 (Int.ofNat 10))), (VV.lit (Value.int IntKind.i64 (Int.ofNat 3))), (VV.lit (Value.int IntKind.i64 (Int.ofNat 4))), (VV.lit (Value.int IntKind.i64 (Int.ofNat 0))), (VV.lit (Value.int IntKind.i64 (Int.ofNat 5))), (VV.lit (Value.int IntKind.i64 (Int.ofNat 6))), (VV.lit (Value.int IntKind.i64 (Int.ofNat 2))), (VV.lit (Value.int IntKind.i64 (Int.ofNat 2))), (VV.lit (Value.int IntKind.i64 (Int.ofNat 1)))] 2 Bool.false), (VV.sl [(VV.lit (Value.int IntKind.i64 (Int.ofNat 1))), (VV.lit (Value.int IntKind.i64 (Int.ofNat 5))), (VV.lit (Value.int IntKind.i64 (Int.ofNat 3))), (VV.lit (Value.int IntKind.i64 (Int.ofNat 3))), (VV.lit (Value.bool Bool.true)), (VV.lit (Value.int IntKind.i64 (Int.ofNat 2))), (VV.lit (Value.int IntKind.i64 (Int.ofNat 5))), (VV.lit (Value.int IntKind.i64 (Int.ofNat 4))), (VV.lit (Value.int IntKind.i64 (Int.ofNat 1))), (VV.lit (Value.bool Bool.false)), (VV.lit (Value.int IntKind.i64 (Int.ofNat 3))), (VV.lit (Value.int IntKind.i64 (Int.ofNat 4))), (VV.lit (Value.int IntKind.i64 (Int.ofNat 1))), (VV.lit (Value.int IntKind.i64 (Int.ofNat 2))), (VV.lit (Value.bool Bool.true))] 3 Bool.false)])
def kPaid : VV := (VV.tup [(VV.agg [(VV.lit (Value.int IntKind.i64 (Int.ofNat 20))), (VV.lit (Value.int IntKind.i64 (Int.ofNat 24)))]), (VV.lit (Value.int IntKind.i64 (Int.ofNat 0)))])
def kTotal : VV := (VV.tup [(VV.lit (Value.int IntKind.i64 (Int.ofNat 24))), (VV.lit (Value.int IntKind.i64 (Int.ofNat 0)))])
def kParts : VV := (VV.tup [(VV.sl [(VV.lit (Value.int IntKind.i64 (Int.ofNat 12))), (VV.lit (Value.int IntKind.i64 (Int.ofNat 7)))] 2 Bool.false), (VV.lit (Value.int IntKind.i64 (Int.ofNat 0)))])
def kRules : VV := (VV.tup [(VV.sl [(VV.lit (Value.int IntKind.i64 (Int.ofNat 19))), (VV.lit (Value.int IntKind.i64 (Int.ofNat 21))), (VV.lit (Value.int IntKind.i64 (Int.ofNat 20))), (VV.lit (Value.int IntKind.i64 (Int.ofNat 20)))] 4 Bool.false), (VV.lit (Value.int IntKind.i64 (Int.ofNat 0)))])
def kSame : VV := (VV.tup [(VV.lit (Value.int IntKind.i64 (Int.ofNat 2))), (VV.lit (Value.int IntKind.i64 (Int.ofNat 0)))])
def kWhen : VV := (VV.tup [(VV.sl [(VV.lit (Value.int IntKind.i64 (Int.ofNat 3))), (VV.lit (Value.int IntKind.i64 (Int.ofNat 2)))] 2 Bool.false), (VV.lit (Value.int IntKind.i64 (Int.ofNat 0)))])
def kWhere : VV := (VV.tup [(VV.lit (Value.int IntKind.i64 (Int.ofNat 1))), (VV.lit (Value.int IntKind.i64 (Int.ofNat 0)))])
def kChange : VV := (VV.tup [(VV.lit (Value.int IntKind.i64 (Int.ofNat 6))), (VV.lit (Value.int IntKind.i64 (Int.ofNat 0)))])
def kCheapest : VV := (VV.tup [(VV.lit (Value.int IntKind.i64 (Int.ofNat 0))), (VV.lit (Value.int IntKind.i64 (Int.ofNat 20))), (VV.lit (Value.int IntKind.i64 (Int.ofNat 0)))])
def kShare : VV := (VV.tup [(VV.sl [(VV.lit (Value.int IntKind.i64 (Int.ofNat 13))), (VV.lit (Value.int IntKind.i64 (Int.ofNat 7)))] 2 Bool.false), (VV.lit (Value.int IntKind.i64 (Int.ofNat 0)))])
def kLoses : VV := (VV.tup [(VV.sl [(VV.lit (Value.int IntKind.i64 (Int.ofNat 1))), (VV.lit (Value.int IntKind.i64 (Int.ofNat 0)))] 2 Bool.false), (VV.lit (Value.int IntKind.i64 (Int.ofNat 0)))])
def kOwes : VV := (VV.tup [(VV.sl [(VV.lit (Value.int IntKind.i64 (Int.ofNat 12))), (VV.lit (Value.int IntKind.i64 (Int.ofNat 6)))] 2 Bool.false), (VV.lit (Value.int IntKind.i64 (Int.ofNat 0)))])
def kRead : VV := (VV.tup [(VV.agg [(VV.sl [(VV.lit (Value.int IntKind.i64 (Int.ofNat 0)))] 1 Bool.false), (VV.sl [(VV.lit (Value.int IntKind.i64 (Int.ofNat 1))), (VV.lit (Value.int IntKind.i64 (Int.ofNat 1))), (VV.lit (Value.int IntKind.i64 (Int.ofNat 1))), (VV.lit (Value.int IntKind.i64 (Int.ofNat 1))), (VV.lit (Value.int IntKind.i64 (Int.ofNat 0)))] 1 Bool.false), (VV.sl [(VV.lit (Value.int IntKind.i64 (Int.ofNat 3))), (VV.lit (Value.int IntKind.i64 (Int.ofNat 1))), (VV.lit (Value.int IntKind.i64 (Int.ofNat 1))), (VV.lit (Value.int IntKind.i64 (Int.ofNat 1))), (VV.lit (Value.bool Bool.false))] 1 Bool.false)]), (VV.lit (Value.int IntKind.i64 (Int.ofNat 0)))])
theorem pP : VPure Tryz.prog G0 60 [] (.tree kP) := VPure.closedF (fs := [108]) (tab := []) hmix trivial 1000 (by kernel_rfl)
theorem pPaid : VPure Tryz.prog G0 23 [kP, .lit (.int .i64 (2))] (.tree kPaid) := VPure.closedF (fs := [108]) (tab := []) hmix trivial 1000 (by kernel_rfl)
theorem pTotal : VPure Tryz.prog G0 24 [kP, .lit (.int .i64 (2)), .sl [.lit (.int .i64 (4)), .lit (.int .i64 (2))] 2 false] (.tree kTotal) := VPure.closedF (fs := [108]) (tab := []) hmix trivial 1000 (by kernel_rfl)
theorem pParts : VPure Tryz.prog G0 33 [kP, .lit (.int .i64 (1)), .sl [.lit (.int .i64 (3)), .lit (.int .i64 (2))] 2 false] (.tree kParts) := VPure.closedF (fs := [108]) (tab := []) hmix trivial 1000 (by kernel_rfl)
theorem pRules : VPure Tryz.prog G0 34 [kP, .lit (.int .i64 (0)), .sl [.lit (.int .i64 (3)), .lit (.int .i64 (2))] 2 false] (.tree kRules) := VPure.closedF (fs := [108]) (tab := []) hmix trivial 1000 (by kernel_rfl)
theorem pSame : VPure Tryz.prog G0 38 [kP, .lit (.int .i64 (0)), .lit (.int .i64 (2))] (.tree kSame) := VPure.closedF (fs := [108]) (tab := []) hmix trivial 1000 (by kernel_rfl)
theorem pWhen : VPure Tryz.prog G0 39 [kP, .lit (.int .i64 (0)), .lit (.int .i64 (2))] (.tree kWhen) := VPure.closedF (fs := [108]) (tab := []) hmix trivial 1000 (by kernel_rfl)
theorem pWhere : VPure Tryz.prog G0 44 [kP, .lit (.int .i64 (0)), .lit (.int .i64 (1)), .sl [.lit (.int .i64 (3)), .lit (.int .i64 (2))] 2 false] (.tree kWhere) := VPure.closedF (fs := [108]) (tab := []) hmix trivial 1000 (by kernel_rfl)
theorem pChange : VPure Tryz.prog G0 48 [kP, .lit (.int .i64 (0)), .lit (.int .i64 (2)), .sl [.lit (.int .i64 (4)), .lit (.int .i64 (2))] 2 false] (.tree kChange) := VPure.closedF (fs := [108]) (tab := []) hmix trivial 1000 (by kernel_rfl)
theorem pCheapest : VPure Tryz.prog G0 45 [kP, .sl [.lit (.int .i64 (4)), .lit (.int .i64 (2))] 2 false] (.tree kCheapest) := VPure.closedF (fs := [108]) (tab := []) hmix trivial 1000 (by kernel_rfl)
theorem pShare : VPure Tryz.prog G0 52 [kP, .lit (.int .i64 (1)), .sl [.lit (.int .i64 (3)), .lit (.int .i64 (2))] 2 false] (.tree kShare) := VPure.closedF (fs := [108]) (tab := []) hmix trivial 1000 (by kernel_rfl)
theorem pLoses : VPure Tryz.prog G0 53 [kP, .lit (.int .i64 (1)), .sl [.lit (.int .i64 (3)), .lit (.int .i64 (2))] 2 false] (.tree kLoses) := VPure.closedF (fs := [108]) (tab := []) hmix trivial 1000 (by kernel_rfl)
theorem pOwes : VPure Tryz.prog G0 58 [kP, .lit (.int .i64 (0)), .sl [.lit (.int .i64 (3)), .lit (.int .i64 (2))] 2 false] (.tree kOwes) := VPure.closedF (fs := [108]) (tab := []) hmix trivial 1000 (by kernel_rfl)
theorem pRead : VPure Tryz.prog G0 61 [.lit (.string ⟨⟨[112, 114, 105, 99, 101, 10, 111, 119, 110, 101, 114, 32, 48, 10, 98, 111, 97, 114, 100, 32, 49, 32, 49, 32, 49, 32, 49, 32, 48, 10, 104, 111, 117, 114, 32, 49, 32, 49, 32, 100, 111, 119, 110, 32, 97, 108, 108, 10, 101, 110, 100, 32, 48, 54, 57, 10]⟩⟩)] (.tree kRead) := VPure.closedF (fs := [108]) (tab := []) hmix trivial 1000 (by kernel_rfl)
def kTab : KTab := [
  (60, [], kP),
  (23, [kP, .lit (.int .i64 (2))], kPaid),
  (24, [kP, .lit (.int .i64 (2)), .sl [.lit (.int .i64 (4)), .lit (.int .i64 (2))] 2 false], kTotal),
  (33, [kP, .lit (.int .i64 (1)), .sl [.lit (.int .i64 (3)), .lit (.int .i64 (2))] 2 false], kParts),
  (34, [kP, .lit (.int .i64 (0)), .sl [.lit (.int .i64 (3)), .lit (.int .i64 (2))] 2 false], kRules),
  (38, [kP, .lit (.int .i64 (0)), .lit (.int .i64 (2))], kSame),
  (39, [kP, .lit (.int .i64 (0)), .lit (.int .i64 (2))], kWhen),
  (44, [kP, .lit (.int .i64 (0)), .lit (.int .i64 (1)), .sl [.lit (.int .i64 (3)), .lit (.int .i64 (2))] 2 false], kWhere),
  (48, [kP, .lit (.int .i64 (0)), .lit (.int .i64 (2)), .sl [.lit (.int .i64 (4)), .lit (.int .i64 (2))] 2 false], kChange),
  (45, [kP, .sl [.lit (.int .i64 (4)), .lit (.int .i64 (2))] 2 false], kCheapest),
  (52, [kP, .lit (.int .i64 (1)), .sl [.lit (.int .i64 (3)), .lit (.int .i64 (2))] 2 false], kShare),
  (53, [kP, .lit (.int .i64 (1)), .sl [.lit (.int .i64 (3)), .lit (.int .i64 (2))] 2 false], kLoses),
  (58, [kP, .lit (.int .i64 (0)), .sl [.lit (.int .i64 (3)), .lit (.int .i64 (2))] 2 false], kOwes),
  (61, [.lit (.string ⟨⟨[112, 114, 105, 99, 101, 10, 111, 119, 110, 101, 114, 32, 48, 10, 98, 111, 97, 114, 100, 32, 49, 32, 49, 32, 49, 32, 49, 32, 48, 10, 104, 111, 117, 114, 32, 49, 32, 49, 32, 100, 111, 119, 110, 32, 97, 108, 108, 10, 101, 110, 100, 32, 48, 54, 57, 10]⟩⟩)], kRead)]
theorem kTabOk : KTabOk Tryz.prog G0 kTab := ⟨⟨by kernel_rfl, pP⟩, ⟨⟨by kernel_rfl, pPaid⟩, ⟨⟨by kernel_rfl, pTotal⟩, ⟨⟨by kernel_rfl, pParts⟩, ⟨⟨by kernel_rfl, pRules⟩, ⟨⟨by kernel_rfl, pSame⟩, ⟨⟨by kernel_rfl, pWhen⟩, ⟨⟨by kernel_rfl, pWhere⟩, ⟨⟨by kernel_rfl, pChange⟩, ⟨⟨by kernel_rfl, pCheapest⟩, ⟨⟨by kernel_rfl, pShare⟩, ⟨⟨by kernel_rfl, pLoses⟩, ⟨⟨by kernel_rfl, pOwes⟩, ⟨⟨by kernel_rfl, pRead⟩, trivial⟩⟩⟩⟩⟩⟩⟩⟩⟩⟩⟩⟩⟩⟩
theorem pKnown : VPure Tryz.prog G0 21 [] (.tree (.lit (.bool true))) := VPure.closedF (fs := [108]) hmix kTabOk 1000 (by kernel_rfl)
#print axioms pKnown
theorem zdk : VPure Tryz.prog G0 21 [] (.tree (.lit (.bool true))) := pKnown


end Go.V
end
section
namespace Go.V
open Go
structure LeT (t u : GPriceTariff) : Prop where
 k : t.Kind = u.Kind
 c : t.Coins ≤ u.Coins
 n : u.Units ≤ t.Units
 r : t.Rule = u.Rule
 e : t.Each = u.Each
theorem zajb {α : Type} {xs : List α} {i : Int} {x y : α} (h : getI xs i = some x) : getI (xs.set i.toNat y) i = some y := by
 have := zakq h
 unfold getI
 rw [if_pos this.1, List.getElem?_set_self (by omega)]
theorem zasb {α : Type} {xs : List α} (h : 1 ≤ xs.length) : neB xs = true := by
 cases xs with
 | nil => simp at h
 | cons => rfl
theorem room40 {n : Nat} (h : n ≤ 1000) : roomOk 40 n = true := by simp [roomOk]; omega
end Go.V
end
section
namespace Go.V
open Go Go.Proofs
def zde (x0_x_PriceSheet : GPriceSheet) (x0_x_tariff : GPriceTariff) (x0_x_hours : List Int) (x1_tariff : GPriceTariff) : Option (GPriceSheet × GPriceTariff × (List Int)) := some (x0_x_PriceSheet, x1_tariff, x0_x_hours)
theorem zey (x0_x_PriceSheet : GPriceSheet) (x0_x_tariff : GPriceTariff) (x0_x_hours : List Int) (x1_tariff : GPriceTariff) (b : Nat) (R : GPriceSheet × GPriceTariff × (List Int)) (h : zde x0_x_PriceSheet x0_x_tariff x0_x_hours x1_tariff = some R) : VPure Tryz.prog G0 106 [.agg [.sl (cellsL eI x0_x_PriceSheet.Offs) (List.length x0_x_PriceSheet.Offs) false, .sl (cellsL cGPriceBoard x0_x_PriceSheet.Boards) (List.length x0_x_PriceSheet.Boards) false, .sl (cellsL cGPriceTariff x0_x_PriceSheet.Tariffs) (List.length x0_x_PriceSheet.Tariffs) false, .lit (.int .i64 x0_x_tariff.Kind), .lit (.int .i64 x0_x_tariff.Coins), .lit (.int .i64 x0_x_tariff.Units), .lit (.int .i64 x0_x_tariff.Rule), .lit (.bool x0_x_tariff.Each), .sl (cellsL eI x0_x_hours) (List.length x0_x_hours) false, .lit (.map (some b))], .agg (cGPriceTariff x1_tariff)] (.tree (.agg [.sl (cellsL eI R.1.Offs) (List.length R.1.Offs) false, .sl (cellsL cGPriceBoard R.1.Boards) (List.length R.1.Boards) false, .sl (cellsL cGPriceTariff R.1.Tariffs) (List.length R.1.Tariffs) false, .lit (.int .i64 R.2.1.Kind), .lit (.int .i64 R.2.1.Coins), .lit (.int .i64 R.2.1.Units), .lit (.int .i64 R.2.1.Rule), .lit (.bool R.2.1.Each), .sl (cellsL eI R.2.2) (List.length R.2.2) false, .lit (.map (some b))])) := by
 refine VPure.runR mixed Tryz.call106 Tryz.func106 rfl (by simp [Tryz.ntmps106]; kernel_rfl) ?_
 obtain ⟨KF, h, kF, kN⟩ := zan h
 simp only [zde] at h
 try simp only [vz, vsi, tyf, nm, seval]
 refine zbb (x := (.agg ((cGPriceSheet x0_x_PriceSheet) ++ (cGPriceTariff x1_tariff) ++ [.sl (cellsL eI x0_x_hours) (List.length x0_x_hours) false] ++ [.lit (.map (some b))]))) (by first | (simp only [Tryz.results106, resV, resL, resV1, zbc, zbz, uw, cr, tyf, nm, seval] <;> rfl) | rfl) ?_
 obtain rfl := kF _ h
 refine zcc ?_ ?_
 ·simp only [tre, tytre, Bool.and_self]
 ·first | (simp only [outV, uw, zay, cr, tyf, nrm, tynrm, nm, seval] <;> rfl) | rfl
end Go.V
end
