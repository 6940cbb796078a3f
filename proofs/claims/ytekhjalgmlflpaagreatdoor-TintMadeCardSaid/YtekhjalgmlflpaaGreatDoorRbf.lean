/- Part of a proof. -/
import Derived.Test.YtekhjalgmlflpaaGreatDoorRbe
set_option linter.all false
set_option maxRecDepth 4000
set_option maxHeartbeats 40000000
section
namespace Go.V
open Go
def dot {α : Type} (f : α → Int) : List Int → List α → Int
 | m :: ms, t :: ts => m * f t + dot f ms ts
 | _, _ => 0
theorem dot_b {α : Type} {f : α → Int} : ∀ (ms : List Int) (ts : List α), (∀ e ∈ ms, 0 ≤ e ∧ e ≤ 8) → (∀ t ∈ ts, 0 ≤ f t ∧ f t ≤ 99) → 0 ≤ dot f ms ts ∧ dot f ms ts ≤ 99 * sumL ms
 | [], _, _, _ => by simp [dot, sumL]
 | e :: ms, [], h, _ => by
  have := (zapt h).1
  simp only [dot]
  omega
 | e :: ms, t :: ts, h, h2 => by
  have h1 := h e (List.mem_cons_self ..)
  have h3 := h2 t (List.mem_cons_self ..)
  have ih := dot_b ms ts (fun x hx => h x (List.mem_cons_of_mem _ hx)) (fun x hx => h2 x (List.mem_cons_of_mem _ hx))
  have h4 := mulR h1.1 (Int.le_refl e) h3.1 h3.2
  simp only [dot, sumL]
  omega
theorem zadr {α β : Type} {f : α → Int} {g : β → Int} : ∀ (ms : List Int) (ts : List α) (us : List β), ts.length = us.length → (∀ e ∈ ms, 0 ≤ e ∧ e ≤ 8) → (∀ (i : Nat) t u, ts[i]? = some t → us[i]? = some u → f t ≤ g u) → dot f ms ts ≤ dot g ms us
 | [], _, _, _, _, _ => by simp [dot]
 | e :: ms, [], [], _, _, _ => by simp [dot]
 | e :: ms, t :: ts, u :: us, hl, h, h2 => by
  have h1 := h e (List.mem_cons_self ..)
  have h3 := h2 0 t u rfl rfl
  have ih := zadr ms ts us (by simpa using hl) (fun x hx => h x (List.mem_cons_of_mem _ hx)) (fun i a b ha hb => h2 (i + 1) a b (by simpa using ha) (by simpa using hb))
  have h4 := Int.mul_le_mul_of_nonneg_left h3 h1.1
  simp only [dot]
  omega
 | _ :: _, [], _ :: _, hl, _, _ => by simp at hl
 | _ :: _, _ :: _, [], hl, _, _ => by simp at hl
def lowT (p : P3) (t : Gt) : Int := (selS t.pg p).Low
def highT (p : P3) (t : Gt) : Int := (selS t.pg p).High
theorem zack (x : Gm) (p : P3) : ∀ (ms : List Int) (ts : List Gt) (c acc : Int), 0 ≤ c → List.drop c.toNat x.sh.Tins = ts → ms.length ≤ ts.length → (∀ e ∈ ms, 0 ≤ e ∧ e ≤ 8) → (∀ t ∈ ts, 0 ≤ lowT p t ∧ lowT p t ≤ 99) → 0 ≤ acc → acc + 792 * ms.length ≤ 1000000 →
  zbt x p.i ms c acc = some (.go (acc + dot (lowT p) ms ts))
 | [], ts, c, acc, _, _, _, _, _, _, _ => by simp [zbt, dot]
 | e :: ms, [], _, _, _, _, hl, _, _, _, _ => by simp at hl
 | e :: ms, t :: ts, c, acc, h0, hd, hl, h, h2, ha, hb => by
  have h1 := h e (List.mem_cons_self ..)
  have h3 := h2 t (List.mem_cons_self ..)
  have h4 := mulR h1.1 h1.2 h3.1 h3.2
  simp only [List.length_cons] at hb hl
  have ih := zack x p ms ts (c + 1) (acc + e * lowT p t) (by omega) (zbe h0 hd) (by omega) (fun x hx => h x (List.mem_cons_of_mem _ hx)) (fun x hx => h2 x (List.mem_cons_of_mem _ hx)) (by omega) (by omega)
  simp only [zbt, zal h0 hd, Option.bind_some]
  have hw : IntKind.i64.wrap (acc + IntKind.i64.wrap (e * lowT p t)) = acc + e * lowT p t := by rw [zdg (n := e * lowT p t) (by omega) (by omega), zdg (by omega) (by omega)]
  have hg : acc + e * lowT p t + dot (lowT p) ms ts = acc + dot (lowT p) (e :: ms) (t :: ts) := by simp only [dot]; omega
  rw [hg] at ih
  cases p <;> simp only [P3.i, Int.reduceBEq, cond_true, cond_false] <;> simp only [lowT, selS] at hw <;> rw [hw] <;> exact ih
theorem zrb (x : Gm) (p : P3) : ∀ (ms : List Int) (ts : List Gt) (c acc : Int), 0 ≤ c → List.drop c.toNat x.sh.Tins = ts → ms.length ≤ ts.length → (∀ e ∈ ms, 0 ≤ e ∧ e ≤ 8) → (∀ t ∈ ts, 0 ≤ highT p t ∧ highT p t ≤ 99) → 0 ≤ acc → acc + 792 * ms.length ≤ 1000000 →
  zbh x p.i ms c acc = some (.go (acc + dot (highT p) ms ts))
 | [], ts, c, acc, _, _, _, _, _, _, _ => by simp [zbh, dot]
 | e :: ms, [], _, _, _, _, hl, _, _, _, _ => by simp at hl
 | e :: ms, t :: ts, c, acc, h0, hd, hl, h, h2, ha, hb => by
  have h1 := h e (List.mem_cons_self ..)
  have h3 := h2 t (List.mem_cons_self ..)
  have h4 := mulR h1.1 h1.2 h3.1 h3.2
  simp only [List.length_cons] at hb hl
  have ih := zrb x p ms ts (c + 1) (acc + e * highT p t) (by omega) (zbe h0 hd) (by omega) (fun x hx => h x (List.mem_cons_of_mem _ hx)) (fun x hx => h2 x (List.mem_cons_of_mem _ hx)) (by omega) (by omega)
  simp only [zbh, zal h0 hd, Option.bind_some]
  have hw : IntKind.i64.wrap (acc + IntKind.i64.wrap (e * highT p t)) = acc + e * highT p t := by rw [zdg (n := e * highT p t) (by omega) (by omega), zdg (by omega) (by omega)]
  have hg : acc + e * highT p t + dot (highT p) ms ts = acc + dot (highT p) (e :: ms) (t :: ts) := by simp only [dot]; omega
  rw [hg] at ih
  cases p <;> simp only [P3.i, Int.reduceBEq, cond_true, cond_false] <;> simp only [highT, selS] at hw <;> rw [hw] <;> exact ih
theorem ShOk.low {s : Gs} (h : ShOk s) (p : P3) : ∀ t ∈ s.Tins, 0 ≤ lowT p t ∧ lowT p t ≤ 99 := fun t ht => by
 have := h.tin t ht p
 unfold lowT
 omega
theorem ShOk.high {s : Gs} (h : ShOk s) (p : P3) : ∀ t ∈ s.Tins, 0 ≤ highT p t ∧ highT p t ≤ 99 := fun t ht => by
 have := h.tin t ht p
 unfold highT
 omega
def sumsP (s : Gs) (mix : List Int) (p : P3) : GSpan := ⟨dot (lowT p) mix s.Tins, dot (highT p) mix s.Tins⟩
def sumsS (s : Gs) (mix : List Int) : Ga := ⟨sumsP s mix .p0, sumsP s mix .p1, sumsP s mix .p2⟩
theorem zvy {s : Gs} (hs : ShOk s) {mix : List Int} (hm : MixOk s mix) (p : P3) : zdc ⟨s, mix⟩ p.i = some (dot (lowT p) mix s.Tins) := by
 have hl := hs.n
 have hn := hm.n
 unfold zdc
 rw [zhh (by show mix.length < _; omega)]
 have := zack ⟨s, mix⟩ p mix s.Tins 0 0 (Int.le_refl _) rfl (by omega) hm.b (hs.low p) (Int.le_refl _) (by omega)
 simp only [cond_true]
 rw [this]
 simp [lbind]
theorem znc {s : Gs} (hs : ShOk s) {mix : List Int} (hm : MixOk s mix) (p : P3) : zcl ⟨s, mix⟩ p.i = some (dot (highT p) mix s.Tins) := by
 have hl := hs.n
 have hn := hm.n
 unfold zcl
 rw [zhh (by show mix.length < _; omega)]
 have := zrb ⟨s, mix⟩ p mix s.Tins 0 0 (Int.le_refl _) rfl (by omega) hm.b (hs.high p) (Int.le_refl _) (by omega)
 simp only [cond_true]
 rw [this]
 simp [lbind]
theorem zakg {s : Gs} (hs : ShOk s) {mix : List Int} (hm : MixOk s mix) : zed ⟨s, mix⟩ = some (sumsS s mix) := by
 unfold zed
 have a0 := zvy hs hm .p0
 have a1 := zvy hs hm .p1
 have a2 := zvy hs hm .p2
 have b0 := znc hs hm .p0
 have b1 := znc hs hm .p1
 have b2 := znc hs hm .p2
 simp only [P3.i] at a0 a1 a2 b0 b1 b2
 rw [a0, a1, a2, b0, b1, b2]
 rfl
theorem zacp {s : Gs} (hs : ShOk s) {mix : List Int} (hm : MixOk s mix) : zcw ⟨s, mix⟩ = some (sumL mix) := by
 have hl := hs.n
 have hn := hm.n
 unfold zcw
 rw [zaeo hm.b (by omega)]
 rfl
def leftI (old y f : Int) : Int := if 0 < old - y * f then old - y * f else 0
theorem zva {old y f : Int} (h1 : 0 ≤ old ∧ old ≤ 99) (h2 : 0 ≤ y ∧ y ≤ 20) (h3 : 0 ≤ f ∧ f ≤ 9) : zdd old y f = some (leftI old y f) := by
 have := mulR h2.1 h2.2 h3.1 h3.2
 unfold zdd leftI
 rw [zdg (n := y * f) (by omega) (by omega), zdg (by omega) (by omega)]
theorem zacw {old y f : Int} (h1 : 0 ≤ old ∧ old ≤ 99) (h2 : 0 ≤ y) (h3 : 0 ≤ f) : 0 ≤ leftI old y f ∧ leftI old y f ≤ old := by
 have := Int.mul_nonneg h2 h3
 unfold leftI
 split <;> omega
theorem zadl {old y f y' f' : Int} (h2 : 0 ≤ y) (h : y ≤ y') (h3 : 0 ≤ f) (h' : f ≤ f') : leftI old y' f' ≤ leftI old y f := by
 have h4 : y * f ≤ y' * f' := Int.mul_le_mul h h' h3 (by omega)
 unfold leftI
 split <;> split <;> omega
def aimP (s : Gs) (p : P3) : GSpan := ⟨leftI (selI s.Old p) s.Years.High (selS s.Fade p).High, leftI (selI s.Old p) s.Years.Low (selS s.Fade p).Low⟩
def aimS (s : Gs) : Ga := ⟨aimP s .p0, aimP s .p1, aimP s .p2⟩
theorem zwq {s : Gs} (hs : ShOk s) (p : P3) : zdd (selI s.Old p) s.Years.High (selS s.Fade p).High = some (aimP s p).Low := by
 have h1 := hs.old p
 have h2 := hs.yrs
 have h3 := hs.fade p
 exact zva h1 (by omega) (by omega)
theorem ztf {s : Gs} (hs : ShOk s) (p : P3) : zdd (selI s.Old p) s.Years.Low (selS s.Fade p).Low = some (aimP s p).High := by
 have h1 := hs.old p
 have h2 := hs.yrs
 have h3 := hs.fade p
 exact zva h1 (by omega) (by omega)
theorem zawj {s : Gs} (hs : ShOk s) : zgr s = some (aimS s) := by
 have a0 := zwq hs .p0
 have a1 := zwq hs .p1
 have a2 := zwq hs .p2
 have b0 := ztf hs .p0
 have b1 := ztf hs .p1
 have b2 := ztf hs .p2
 simp only [selI, selS] at a0 a1 a2 b0 b1 b2
 unfold zgr
 rw [a0, a1, a2, b0, b1, b2]
 rfl
theorem zawp {s : Gs} (hs : ShOk s) (p : P3) : 0 ≤ (aimP s p).Low ∧ (aimP s p).Low ≤ (aimP s p).High ∧ (aimP s p).High ≤ 99 := by
 have h1 := hs.old p
 have h2 := hs.yrs
 have h3 := hs.fade p
 have h4 := zacw (y := s.Years.High) (f := (selS s.Fade p).High) h1 (by omega) (by omega)
 have h5 := zacw (y := s.Years.Low) (f := (selS s.Fade p).Low) h1 (by omega) (by omega)
 have h6 := zadl (old := selI s.Old p) (y := s.Years.Low) (y' := s.Years.High) (f := (selS s.Fade p).Low) (f' := (selS s.Fade p).High) (by omega) (by omega) (by omega) (by omega)
 unfold aimP
 simp only
 omega
end Go.V
end
section
namespace Go.V
open Go Go.Proofs
def zgg (x0_n : Int) : Option (GSpan) := some (GSpan.mk x0_n x0_n)
theorem zgx (x0_n : Int) (R : GSpan) (h : zgg x0_n = some R) : VPure Tryz.prog G0 99 [.lit (.int .i64 x0_n)] (.tree (.agg (cGSpan R))) := by
 refine VPure.runR mixed Tryz.call99 Tryz.func99 rfl (by simp [Tryz.ntmps99]; kernel_rfl) ?_
 obtain ⟨KF, h, kF, kN⟩ := zaq h
 simp only [zgg] at h
 try simp only [vz, tyf, nm, seval]
 refine zay (x := (.agg ([.lit (.int .i64 x0_n)] ++ [.lit (.int .i64 x0_n)]))) (by first | (simp only [Tryz.results99, resV, resL, resV1, zba, zcc, uw, cr, tyf, nm, seval] <;> rfl) | rfl) ?_
 obtain rfl := kF _ h
 refine zbb ?_ ?_
 ·simp only [tre, tytre, Bool.and_self]
 ·first | (simp only [outV, uw, zaf, cr, tyf, nrm, tynrm, nm, seval] <;> rfl) | rfl
end Go.V
end
section
namespace Go.V
open Go Go.Proofs
def zgb (x0_numbers : Gi) : Option (Ga) := Option.bind (zgg x0_numbers.a0) (fun r1 => Option.bind (zgg x0_numbers.a1) (fun r2 => Option.bind (zgg x0_numbers.a2) (fun r3 => some (Ga.mk r1 r2 r3))))
theorem zgw (x0_numbers : Gi) (R : Ga) (h : zgb x0_numbers = some R) : VPure Tryz.prog G0 100 [.agg (cGi x0_numbers)] (.tree (.agg (cGa R))) := by
 refine VPure.runR mixed Tryz.call100 Tryz.func100 rfl (by simp [Tryz.ntmps100]; kernel_rfl) ?_
 obtain ⟨KF, h, kF, kN⟩ := zaq h
 simp only [zgb] at h
 simp only [vz, tyf, nm, seval]
 refine zfj mixed (by kernel_rfl) 4 ?_
 obtain ⟨r4, o5, h⟩ := optI h kN
 try simp only [hs] at h
 simp only [vz, tyf, nm, seval]
 refine ktA (zgx _ _ o5) ?_
 refine zae (fun tm => tm 2 = .ptr 1 0 ∧ tm 3 = .ptr 2 0 ∧ tm 6 = .agg (cGi x0_numbers) ∧ tm 7 = .lit (.int .i64 0) ∧ tm 11 = .lit (.int .i64 0) ∧ tm 13 = .agg (cGSpan r4) ∧ True) (by refine ⟨?_, ?_, ?_, ?_, ?_, ?_, trivial⟩ <;> first | (simp only [ua, nm, seval] <;> rfl) | rfl) ?_
 rintro tm ⟨e6, e7, e8, e9, e10, e11, _⟩
 obtain ⟨r12, o13, h⟩ := optI h kN
 try simp only [hs] at h
 simp only [vz, tyf, e6, e7, e8, e9, e10, e11, nm, seval]
 refine ktA (zgx _ _ o13) ?_
 refine zae (fun tm => tm 2 = .ptr 1 0 ∧ tm 3 = .ptr 2 0 ∧ tm 6 = .agg (cGi x0_numbers) ∧ tm 7 = .lit (.int .i64 1) ∧ tm 11 = .lit (.int .i64 1) ∧ tm 13 = .agg (cGSpan r12) ∧ True) (by refine ⟨e6, e7, e8, ?_, ?_, ?_, trivial⟩ <;> first | (simp only [ua, e6, e7, e8, e9, e10, e11, nm, seval] <;> rfl) | rfl) ?_
 rintro tm ⟨e14, e15, e16, e17, e18, e19, _⟩
 obtain ⟨r20, o21, h⟩ := optI h kN
 try simp only [hs] at h
 simp only [vz, tyf, e14, e15, e16, e17, e18, e19, nm, seval]
 refine ktA (zgx _ _ o21) ?_
 refine zae (fun tm => tm 2 = .ptr 1 0 ∧ tm 3 = .ptr 2 0 ∧ tm 6 = .agg (cGi x0_numbers) ∧ tm 7 = .lit (.int .i64 2) ∧ tm 11 = .lit (.int .i64 2) ∧ tm 13 = .agg (cGSpan r20) ∧ True) (by refine ⟨e14, e15, e16, ?_, ?_, ?_, trivial⟩ <;> first | (simp only [ua, e14, e15, e16, e17, e18, e19, nm, seval] <;> rfl) | rfl) ?_
 rintro tm ⟨e22, e23, e24, e25, e26, e27, _⟩
 try simp only [vz, tyf, e22, e23, e24, e25, e26, e27, nm, seval]
 refine zay (x := (.agg ((cGSpan r4) ++ (cGSpan r12) ++ (cGSpan r20)))) (by first | (simp only [Tryz.results100, resV, resL, resV1, zba, zcc, uw, cr, tyf, e22, e23, e24, e25, e26, e27, nm, seval] <;> rfl) | rfl) ?_
 obtain rfl := kF _ h
 refine zbb ?_ ?_
 ·simp only [tre, tytre, Bool.and_self]
 ·first | (simp only [outV, uw, zaf, cr, tyf, nrm, tynrm, e22, e23, e24, e25, e26, e27, nm, seval] <;> rfl) | rfl
end Go.V
end
section
namespace Go.V
open Go Go.Proofs
def zdh  : List Gi → Int → (List Gt) → Option (LOut (Gs) ((List Gt)))
 | [], c0_19, c0_o0 => some (.go c0_o0)
 | e0 :: p0, c0_19, c0_o0 => Option.bind (zgb e0) (fun r4 => cond (roomOk 48 (List.length (c0_o0 ++ [(Gt.mk r4)]))) (zdh p0 (c0_19 + 1) (c0_o0 ++ [(Gt.mk r4)])) none)
def zhu (x0_s : Gs) (x1_t : Gu) : Option (Gs) := Option.bind (zgg x1_t.Years) (fun r1 => Option.bind (zgb x1_t.Fade) (fun r2 => cond (lenOk x1_t.Tins) (lbind (zdh x1_t.Tins 0 ([] : List Gt)) (fun r6 => some r6) (fun c5 => some (Gs.mk x0_s.Old r2 r1 x0_s.Off c5)) (fun _ _ => none)) none))
theorem zqp (x0_s : Gs) (x1_t : Gu) (R : Gs) (h : zhu x0_s x1_t = some R) : VPure Tryz.prog G0 67 [.agg (cGs x0_s), .agg (cGu x1_t)] (.tree (.agg (cGs R))) := by
 refine VPure.runR mixed Tryz.call67 Tryz.func67 rfl (by simp [Tryz.ntmps67]; kernel_rfl) ?_
 obtain ⟨KF, h, kF, kN⟩ := zaq h
 simp only [zhu] at h
 simp only [vz, tyf, nm, seval]
 refine zbw (fun tm => tm 2 = .ptr 0 0 ∧ tm 3 = .ptr 1 0 ∧ tm 4 = .ptr 2 0 ∧ True) (by refine ⟨?_, ?_, ?_, trivial⟩ <;> first | (simp only [ua, nm, seval] <;> rfl) | rfl) ?_
 rintro tm ⟨e7, e8, e9, _⟩
 obtain ⟨r10, o11, h⟩ := optI h kN
 try simp only [hs] at h
 simp only [vz, tyf, e7, e8, e9, nm, seval]
 refine dktA (zgx _ _ o11) ?_
 refine zae (fun tm => tm 2 = .ptr 0 0 ∧ tm 3 = .ptr 1 0 ∧ tm 4 = .ptr 2 0 ∧ tm 9 = .agg (cGSpan r10) ∧ True) (by refine ⟨e7, e8, e9, ?_, trivial⟩ <;> first | (simp only [ua, e7, e8, e9, nm, seval] <;> rfl) | rfl) ?_
 rintro tm ⟨e12, e13, e14, e15, _⟩
 obtain ⟨r16, o17, h⟩ := optI h kN
 try simp only [hs] at h
 simp only [vz, tyf, e12, e13, e14, e15, nm, seval]
 refine dktA (zgw _ _ o17) ?_
 refine zae (fun tm => tm 2 = .ptr 0 0 ∧ tm 3 = .ptr 1 0 ∧ tm 4 = .ptr 2 0 ∧ tm 9 = .agg (cGSpan r10) ∧ tm 12 = .agg (cGa r16) ∧ True) (by refine ⟨e12, e13, e14, e15, ?_, trivial⟩ <;> first | (simp only [ua, e12, e13, e14, e15, nm, seval] <;> rfl) | rfl) ?_
 rintro tm ⟨e18, e19, e20, e21, e22, _⟩
 simp only [vz, tyf, e18, e19, e20, e21, e22, nm, seval]
 refine zbl ⟨?_, ?_⟩
 ·simp only [zas, zaz, zad, zbz, and_true, true_and]
  repeat' (first | exact trivial | refine And.intro ?_ ?_ | rw [zad] | rw [zbk] | exact Or.inl (by decide +kernel) | exact Or.inl (by dsimp only; decide +kernel) | (refine Or.inr ⟨?_, ?_⟩ <;> simp; done) | (refine Or.inr ⟨?_, ?_⟩ <;> simp <;> omega) | (refine Or.inr ⟨?_, ?_⟩ <;> simp [VEff.wr] <;> omega))
 cases g24 : (lenOk x1_t.Tins)
 ·simp only [g24, hs] at h
  exact absurd h kN
 simp only [g24, hs] at h
 simp only [vz, tyf, e18, e19, e20, e21, e22, g24, nm, seval]
 obtain ⟨K23, h, kR23, kG23, kB23, kN23⟩ := zat h kN
 obtain ⟨f23, hf23, h⟩ := call3 h
 obtain ⟨I23, hI23⟩ : ∃ I : Nat → St → Prop, I = (fun m st => ∃ (p23 : List Gi) (c23_19 : Int) (c23_o0 : List Gt) (y23_0 : VV), m = List.length p23 ∧ 0 ≤ c23_19 ∧ List.drop (Int.toNat c23_19) x1_t.Tins = p23 ∧ st.df = [] ∧ 19 ≤ st.nx ∧ st.H 0 = some (.cells (some 28) ((cGi x0_s.Old) ++ (cGa r16) ++ (cGSpan r10) ++ [.lit (.int .i64 x0_s.Off)] ++ [y23_0])) ∧ st.H 2 = some (.cells (some 28) ([.lit (.int .i64 0)] ++ [.lit (.int .i64 0)] ++ [.lit (.int .i64 0)] ++ [.lit (.int .i64 0)] ++ [.lit (.int .i64 0)] ++ [.lit (.int .i64 0)] ++ [.lit (.int .i64 0)] ++ [.lit (.int .i64 0)] ++ [.lit (.int .i64 0)] ++ [.lit (.int .i64 0)] ++ [.lit (.int .i64 0)] ++ [.lit (.int .i64 0)] ++ [.lit (.slice none 0 0)])) ∧ st.tm 2 = .ptr 0 0 ∧ st.tm 4 = .ptr 2 0 ∧ st.tm 17 = .sl (cellsL cGi x1_t.Tins) (List.length x1_t.Tins) false ∧ st.tm 18 = .lit (.int .i64 (List.length x1_t.Tins : Int)) ∧ st.tm 19 = .lit (.int .i64 c23_19) ∧ ((∃ (β : Nat) (el : Option TypeId), y23_0 = .ref β 0 (List.length c23_o0) 6 (List.length c23_o0) ∧ β < st.nx ∧ β ≠ 0 ∧ β ≠ 2 ∧ st.H β = some (.cells el (cellsL cGt c23_o0))) ∨ (y23_0 = .lit (.slice none 0 0) ∧ c23_o0 = [])) ∧ K23 (f23 p23 c23_19 c23_o0)) := ⟨_, rfl⟩
 refine loopK mixed (by kernel_rfl) I23 (List.length x1_t.Tins) (by rw [hI23]; refine ⟨x1_t.Tins, 0, ([] : List Gt), .lit (.slice none 0 0), rfl, Int.le_refl _, rfl, rfl, (show 19 ≤ 19 by omega), ?_, ?_, e18, e20, ?_, ?_, ?_, Or.inr ⟨rfl, rfl⟩, h⟩ <;> first | (simp only [ua, e18, e19, e20, e21, e22, nm, seval] <;> rfl) | rfl) ?_
 rintro m ⟨tm, H, nx23, df⟩ hinv
 rw [hI23] at hinv
 obtain ⟨p23, c23_19, c23_o0, y23_0, rfl, hi23, hp23, hdf, hn23, H25, H26, e27, e28, e29, e30, e31, ow23_0, h⟩ := hinv
 simp only at hdf hn23 H25 H26 e27 e28 e29 e30 e31 ow23_0
 have n32 := zcg (m := 19) (b := nx23) (by omega)
 subst hdf hf23
 rcases ow23_0 with ⟨b23_0, el23_0, rfl, lq34, lq35, lq36, H33⟩ | ⟨rfl, rfl⟩
 ·have q34 := ztn lq34
  have q35 := ne_f lq35
  have q36 := ne_f lq36
  cases p23 with
  | nil =>
   have d37 : (decide (c23_19 < (List.length x1_t.Tins : Int))) = false := zap hi23 hp23
   simp only [zdh, hs, reduceCtorEq] at h
   replace h := kG23 _ h
   try dsimp only at h
   try simp only [hs] at h
   try simp only [vz, tyf, g24, n32, e27, e28, e29, e30, e31, H25, H26, q34, H33, q35, q36, d37, nm, seval]
   refine zay (x := (.agg ((cGi x0_s.Old) ++ (cGa r16) ++ (cGSpan r10) ++ [.lit (.int .i64 x0_s.Off)] ++ [.ref b23_0 0 (List.length c23_o0) 6 (List.length c23_o0)]))) (by first | (simp only [Tryz.results67, resV, resL, resV1, zba, zcc, uw, cr, tyf, g24, n32, e27, e28, e29, e30, e31, H25, H26, q34, H33, q35, q36, d37, nm, seval] <;> rfl) | rfl) ?_
   obtain rfl := kF _ h
   refine zbb ?_ ?_
   ·simp only [tre, tytre, Bool.and_self]
   ·first | (simp only [outV, uw, zaf, cr, tyf, nrm, tynrm, g24, n32, e27, e28, e29, e30, e31, H25, H26, q34, H33, q35, q36, d37, nm, seval] <;> rfl) | rfl
  | cons e23 p23 =>
   have d38 : (decide (c23_19 < (List.length x1_t.Tins : Int))) = true := zbr hi23 hp23
   have o40 := zal hi23 hp23
   have w39 := zcf hi23 hp23 g24
   simp only [zdh, hs, reduceCtorEq] at h
   simp only [vz, tyf, g24, n32, e27, e28, e29, e30, e31, H25, H26, q34, H33, q35, q36, d38, (ix40 o40), w39, nm, seval]
   refine zbw (fun tm => tm 2 = .ptr 0 0 ∧ tm 4 = .ptr 2 0 ∧ tm 6 = .ptr (nx23 + 3) 0 ∧ tm 17 = .sl (cellsL cGi x1_t.Tins) (List.length x1_t.Tins) false ∧ tm 18 = .lit (.int .i64 (List.length x1_t.Tins : Int)) ∧ tm 19 = .lit (.int .i64 c23_19) ∧ True) (by refine ⟨e27, e28, ?_, e29, e30, e31, trivial⟩ <;> first | (simp only [ua, n32, e27, e28, e29, e30, e31, H25, H26, q34, H33, q35, q36, d38, w39, nm, seval] <;> rfl) | rfl) ?_
   rintro tm ⟨e41, e42, e43, e44, e45, e46, _⟩
   have b47 := And.intro g24 (And.intro n32 (And.intro H25 (And.intro H26 (And.intro q34 (And.intro H33 (And.intro q35 (And.intro q36 (And.intro d38 w39))))))))
   obtain ⟨r48, o49, h⟩ := optI h kN23
   try simp only [hs] at h
   simp only [vz, tyf, b47, (ix40 o40), e41, e42, e43, e44, e45, e46, nm, seval]
   refine dktA (zgw _ _ o49) ?_
   refine zae (fun tm => tm 2 = .ptr 0 0 ∧ tm 4 = .ptr 2 0 ∧ tm 17 = .sl (cellsL cGi x1_t.Tins) (List.length x1_t.Tins) false ∧ tm 18 = .lit (.int .i64 (List.length x1_t.Tins : Int)) ∧ tm 19 = .lit (.int .i64 c23_19) ∧ tm 24 = .ref b23_0 0 (List.length c23_o0) 6 (List.length c23_o0) ∧ tm 26 = .agg (cGa r48) ∧ True) (by refine ⟨e41, e42, e44, e45, e46, ?_, ?_, trivial⟩ <;> first | (simp only [ua, b47, e41, e42, e43, e44, e45, e46, nm, seval] <;> rfl) | rfl) ?_
   rintro tm ⟨e50, e51, e52, e53, e54, e55, e56, _⟩
   cases g57 : (roomOk 48 (List.length (c23_o0 ++ [(Gt.mk r48)])))
   ·simp only [g57, hs] at h
    exact absurd h kN23
   simp only [g57, hs] at h
   simp only [vz, tyf, b47, (ix40 o40), e50, e51, e52, e53, e54, e55, e56, g57, nm, seval]
   refine k_app (w := 6) (enc := cGt) (xs := c23_o0) (ys := ([(Gt.mk r48)])) (el := el23_0) (el2 := (some 94)) (fun _ => rfl) lf26 ao26 Tryz.underlying26 (by first | rfl | assumption | (simp only [zaa, zac, et26, b47, nm, seval] <;> rfl) | (simp only [zaa, zac, zci, zbu, zjb, zgn, tyf, b47, (ix40 o40), e50, e51, e52, e53, e54, e55, e56, g57, nm, seval]; done)) (by first | rfl | assumption | (simp only [zaa, zac, et26, b47, nm, seval] <;> rfl) | (simp only [zaa, zac, zci, zbu, zjb, zgn, tyf, b47, (ix40 o40), e50, e51, e52, e53, e54, e55, e56, g57, nm, seval]; done)) (Nat.zero_lt_succ _) g57 ?_
   simp only [vz, tyf, b47, (ix40 o40), e50, e51, e52, e53, e54, e55, e56, g57, nm, seval]
   refine zbl ⟨?_, ?_⟩
   ·simp only [zas, zaz, zad, zbz, and_true, true_and]
    repeat' (first | exact trivial | refine And.intro ?_ ?_ | rw [zad] | rw [zbk] | exact Or.inl (by decide +kernel) | exact Or.inl (by dsimp only; decide +kernel) | (refine Or.inr ⟨?_, ?_⟩ <;> simp; done) | (refine Or.inr ⟨?_, ?_⟩ <;> simp <;> omega) | (refine Or.inr ⟨?_, ?_⟩ <;> simp [VEff.wr] <;> omega))
   simp only [vz, tyf, b47, (ix40 o40), e50, e51, e52, e53, e54, e55, e56, g57, nm, seval]
   exact ⟨List.length p23, Nat.lt_succ_self _, by rw [hI23]; refine ⟨p23, c23_19 + 1, (c23_o0 ++ [(Gt.mk r48)]), .ref (nx23 + 11) 0 (List.length (c23_o0 ++ [(Gt.mk r48)])) 6 (List.length (c23_o0 ++ [(Gt.mk r48)])), rfl, Int.le_trans hi23 (Int.le_add_one (Int.le_refl _)), zbe hi23 hp23, rfl, (show 19 ≤ nx23 + 16 by omega), ?_, ?_, e50, e51, e52, e53, ?_, Or.inl ⟨nx23 + 11, (sameEl el23_0 94), rfl, (by first | omega | (simp only [nm, seval]; omega)), (by first | omega | (intro hh; simp only [b47, reduceCtorEq] at hh)), (by first | omega | (intro hh; simp only [b47, reduceCtorEq] at hh)), ?_⟩, h⟩ <;> first | (simp only [ua, b47, e50, e51, e52, e53, e54, e55, e56, nm, seval] <;> rfl) | rfl⟩
 ·cases p23 with
  | nil =>
   have d58 : (decide (c23_19 < (List.length x1_t.Tins : Int))) = false := zap hi23 hp23
   simp only [zdh, hs, reduceCtorEq] at h
   replace h := kG23 _ h
   try dsimp only at h
   try simp only [hs] at h
   try simp only [vz, tyf, g24, n32, e27, e28, e29, e30, e31, H25, H26, d58, nm, seval]
   refine zay (x := (.agg ((cGi x0_s.Old) ++ (cGa r16) ++ (cGSpan r10) ++ [.lit (.int .i64 x0_s.Off)] ++ [.lit (.slice none 0 0)]))) (by first | (simp only [Tryz.results67, resV, resL, resV1, zba, zcc, uw, cr, tyf, g24, n32, e27, e28, e29, e30, e31, H25, H26, d58, nm, seval] <;> rfl) | rfl) ?_
   obtain rfl := kF _ h
   refine zbb ?_ ?_
   ·simp only [tre, tytre, Bool.and_self]
   ·first | (simp only [outV, uw, zaf, cr, tyf, nrm, tynrm, g24, n32, e27, e28, e29, e30, e31, H25, H26, d58, nm, seval] <;> rfl) | rfl
  | cons e23 p23 =>
   have d59 : (decide (c23_19 < (List.length x1_t.Tins : Int))) = true := zbr hi23 hp23
   have o61 := zal hi23 hp23
   have w60 := zcf hi23 hp23 g24
   simp only [zdh, hs, reduceCtorEq] at h
   simp only [vz, tyf, g24, n32, e27, e28, e29, e30, e31, H25, H26, d59, (ix40 o61), w60, nm, seval]
   refine zbw (fun tm => tm 2 = .ptr 0 0 ∧ tm 4 = .ptr 2 0 ∧ tm 6 = .ptr (nx23 + 3) 0 ∧ tm 17 = .sl (cellsL cGi x1_t.Tins) (List.length x1_t.Tins) false ∧ tm 18 = .lit (.int .i64 (List.length x1_t.Tins : Int)) ∧ tm 19 = .lit (.int .i64 c23_19) ∧ True) (by refine ⟨e27, e28, ?_, e29, e30, e31, trivial⟩ <;> first | (simp only [ua, n32, e27, e28, e29, e30, e31, H25, H26, d59, w60, nm, seval] <;> rfl) | rfl) ?_
   rintro tm ⟨e62, e63, e64, e65, e66, e67, _⟩
   obtain ⟨r68, o69, h⟩ := optI h kN23
   try simp only [hs] at h
   simp only [vz, tyf, g24, n32, H25, H26, d59, (ix40 o61), w60, e62, e63, e64, e65, e66, e67, nm, seval]
   refine dktA (zgw _ _ o69) ?_
   refine zae (fun tm => tm 2 = .ptr 0 0 ∧ tm 4 = .ptr 2 0 ∧ tm 17 = .sl (cellsL cGi x1_t.Tins) (List.length x1_t.Tins) false ∧ tm 18 = .lit (.int .i64 (List.length x1_t.Tins : Int)) ∧ tm 19 = .lit (.int .i64 c23_19) ∧ tm 24 = .lit (.slice none 0 0) ∧ tm 26 = .agg (cGa r68) ∧ True) (by refine ⟨e62, e63, e65, e66, e67, ?_, ?_, trivial⟩ <;> first | (simp only [ua, n32, H25, H26, d59, w60, e62, e63, e64, e65, e66, e67, nm, seval] <;> rfl) | rfl) ?_
   rintro tm ⟨e70, e71, e72, e73, e74, e75, e76, _⟩
   cases g77 : (roomOk 48 (List.length (([] : List Gt) ++ [(Gt.mk r68)])))
   ·simp only [g77, hs] at h
    exact absurd h kN23
   simp only [g77, hs] at h
   simp only [vz, tyf, g24, n32, H25, H26, d59, (ix40 o61), w60, e70, e71, e72, e73, e74, e75, e76, g77, nm, seval]
   refine zxd (w := 6) (enc := cGt) (ys := ([(Gt.mk r68)])) (el2 := (some 94)) (fun _ => rfl) lf26 ao26 Tryz.underlying26 (by first | rfl | assumption | (simp only [zaa, zac, et26, n32, H25, H26, nm, seval] <;> rfl) | (simp only [zaa, zac, zci, zbu, zjb, zgn, tyf, g24, n32, H25, H26, d59, (ix40 o61), w60, e70, e71, e72, e73, e74, e75, e76, g77, nm, seval]; done)) (Nat.zero_lt_succ _) g77 ?_
   simp only [vz, tyf, g24, n32, H25, H26, d59, (ix40 o61), w60, e70, e71, e72, e73, e74, e75, e76, g77, nm, seval]
   refine zbl ⟨?_, ?_⟩
   ·simp only [zas, zaz, zad, zbz, and_true, true_and]
    repeat' (first | exact trivial | refine And.intro ?_ ?_ | rw [zad] | rw [zbk] | exact Or.inl (by decide +kernel) | exact Or.inl (by dsimp only; decide +kernel) | (refine Or.inr ⟨?_, ?_⟩ <;> simp; done) | (refine Or.inr ⟨?_, ?_⟩ <;> simp <;> omega) | (refine Or.inr ⟨?_, ?_⟩ <;> simp [VEff.wr] <;> omega))
   simp only [vz, tyf, g24, n32, H25, H26, d59, (ix40 o61), w60, e70, e71, e72, e73, e74, e75, e76, g77, nm, seval]
   exact ⟨List.length p23, Nat.lt_succ_self _, by rw [hI23]; refine ⟨p23, c23_19 + 1, (([] : List Gt) ++ [(Gt.mk r68)]), .ref (nx23 + 11) 0 (List.length (([] : List Gt) ++ [(Gt.mk r68)])) 6 (List.length (([] : List Gt) ++ [(Gt.mk r68)])), rfl, Int.le_trans hi23 (Int.le_add_one (Int.le_refl _)), zbe hi23 hp23, rfl, (show 19 ≤ nx23 + 16 by omega), ?_, ?_, e70, e71, e72, e73, ?_, Or.inl ⟨nx23 + 11, (some 94), rfl, (by first | omega | (simp only [nm, seval]; omega)), (by first | omega | (intro hh; simp only [n32, reduceCtorEq] at hh)), (by first | omega | (intro hh; simp only [n32, reduceCtorEq] at hh)), ?_⟩, h⟩ <;> first | (simp only [ua, n32, H25, H26, d59, w60, e70, e71, e72, e73, e74, e75, e76, nm, seval] <;> rfl) | rfl⟩
end Go.V
end
section
set_option linter.defProp false
namespace Go.V
open Go
section
variable {P : Program} {H : Nat → Option VObj} {t : TypeId} {x y : Operand} {k : IntKind} {a b : Int}
theorem zarb (h : (b != 0) = true) : binV P H .quo t x y (.lit (.int k a)) (.lit (.int k b)) = some (.lit (.int k (k.wrap (a.tdiv b)))) := by
 have : b ≠ 0 := by simpa using h
 simp [binV, VV.val?, vbin, ofVal, ofVal2, ofVal1, this]
theorem zaph (h : (b != 0) = true) : binV P H .rem t x y (.lit (.int k a)) (.lit (.int k b)) = some (.lit (.int k (a.tmod b))) := by
 have : b ≠ 0 := by simpa using h
 simp [binV, VV.val?, vbin, ofVal, ofVal2, ofVal1, this]
theorem zauu : unV P .neg (.lit (.int k a)) = some (.lit (.int k (k.wrap (-a)))) := by simp [unV, VV.val?, Op.unary, Op.intArith, zck, ofVal, ofVal2, ofVal1]
theorem zasq {a b : ByteArray} : binV P H .eql t x y (.lit (.string a)) (.lit (.string b)) = some (.lit (.bool (a.toList == b.toList))) := by simp [binV, VV.val?, vbin, ofVal, ofVal2, ofVal1]
theorem zaqm {a b : ByteArray} : binV P H .neq t x y (.lit (.string a)) (.lit (.string b)) = some (.lit (.bool (!(a.toList == b.toList)))) := by simp [binV, VV.val?, vbin, ofVal, ofVal2, ofVal1]
def qr := And.intro @zarb (And.intro @zaph (And.intro @zauu (And.intro @zasq @zaqm)))
end
end Go.V
end
section
namespace Go.V
open Go Go.Proofs
def zby (x0_x : Gm) (xpg : Int) : Option (Int) := Option.bind (zed x0_x) (fun r1 => cond (xpg == 0) (Option.bind (zgr x0_x.sh) (fun r2 => Option.bind (zcw x0_x) (fun r3 => cond ((r3 != 0)) (some (IntKind.i64.wrap (Int.tdiv (IntKind.i64.wrap ((IntKind.i64.wrap ((if (IntKind.i64.wrap (r1.a0.High - (IntKind.i64.wrap (r3 * r2.a0.Low)))) < (IntKind.i64.wrap ((IntKind.i64.wrap (r3 * r2.a0.High)) - r1.a0.Low)) then (IntKind.i64.wrap ((IntKind.i64.wrap (r3 * r2.a0.High)) - r1.a0.Low)) else (IntKind.i64.wrap (r1.a0.High - (IntKind.i64.wrap (r3 * r2.a0.Low))))) + r3)) - 1)) r3))) none))) (cond (xpg == 1) (Option.bind (zgr x0_x.sh) (fun r4 => Option.bind (zcw x0_x) (fun r5 => cond ((r5 != 0)) (some (IntKind.i64.wrap (Int.tdiv (IntKind.i64.wrap ((IntKind.i64.wrap ((if (IntKind.i64.wrap (r1.a1.High - (IntKind.i64.wrap (r5 * r4.a1.Low)))) < (IntKind.i64.wrap ((IntKind.i64.wrap (r5 * r4.a1.High)) - r1.a1.Low)) then (IntKind.i64.wrap ((IntKind.i64.wrap (r5 * r4.a1.High)) - r1.a1.Low)) else (IntKind.i64.wrap (r1.a1.High - (IntKind.i64.wrap (r5 * r4.a1.Low))))) + r5)) - 1)) r5))) none))) (cond (xpg == 2) (Option.bind (zgr x0_x.sh) (fun r6 => Option.bind (zcw x0_x) (fun r7 => cond ((r7 != 0)) (some (IntKind.i64.wrap (Int.tdiv (IntKind.i64.wrap ((IntKind.i64.wrap ((if (IntKind.i64.wrap (r1.a2.High - (IntKind.i64.wrap (r7 * r6.a2.Low)))) < (IntKind.i64.wrap ((IntKind.i64.wrap (r7 * r6.a2.High)) - r1.a2.Low)) then (IntKind.i64.wrap ((IntKind.i64.wrap (r7 * r6.a2.High)) - r1.a2.Low)) else (IntKind.i64.wrap (r1.a2.High - (IntKind.i64.wrap (r7 * r6.a2.Low))))) + r7)) - 1)) r7))) none))) (none))))
theorem zdr (x0_x : Gm) (xpg : Int) (R : Int) (h : zby x0_x xpg = some R) : VPure Tryz.prog G0 111 [.agg (cGm x0_x), .lit (.int .i64 xpg)] (.tree (.lit (.int .i64 R))) := by
 refine VPure.runR mixed Tryz.call111 Tryz.func111 rfl (by simp [Tryz.ntmps111]; kernel_rfl) ?_
 obtain ⟨KF, h, kF, kN⟩ := zaq h
 simp only [zby] at h
 simp only [vz, qr, tyf, nm, seval]
 refine zbw (fun tm => tm 1 = .lit (.int .i64 xpg) ∧ tm 2 = .ptr 0 0 ∧ True) (by refine ⟨?_, ?_, trivial⟩ <;> first | (simp only [ua, nm, seval] <;> rfl) | rfl) ?_
 rintro tm ⟨e8, e9, _⟩
 obtain ⟨r10, o11, h⟩ := optI h kN
 try simp only [hs] at h
 simp only [vz, qr, tyf, e8, e9, nm, seval]
 refine dktA (zhx _ _ o11) ?_
 refine zae (fun tm => tm 1 = .lit (.int .i64 xpg) ∧ tm 2 = .ptr 0 0 ∧ tm 10 = .agg (cGa r10) ∧ True) (by refine ⟨e8, e9, ?_, trivial⟩ <;> first | (simp only [ua, e8, e9, nm, seval] <;> rfl) | rfl) ?_
 rintro tm ⟨e12, e13, e14, _⟩
 cases d15 : (xpg == 0)
 ·simp only [d15, hs] at h
  cases d16 : (xpg == 1)
  ·simp only [d16, hs] at h
   cases d17 : (xpg == 2)
   ·simp only [d17, hs] at h
    exact absurd h kN
   simp only [d17, hs] at h
   obtain ⟨r18, o19, h⟩ := optI h kN
   try simp only [hs] at h
   simp only [vz, qr, tyf, e12, e13, e14, d15, d16, d17, (zabg d17), nm, seval]
   refine dktA (zii _ _ o19) ?_
   refine zae (fun tm => tm 1 = .lit (.int .i64 xpg) ∧ tm 2 = .ptr 0 0 ∧ tm 12 = .agg (cGSpan r10.a2) ∧ tm 15 = .agg (cGa r18) ∧ True) (by refine ⟨e12, e13, ?_, ?_, trivial⟩ <;> first | (simp only [ua, e12, e13, e14, d15, d16, d17, nm, seval] <;> rfl) | rfl) ?_
   rintro tm ⟨e20, e21, e22, e23, _⟩
   obtain ⟨r24, o25, h⟩ := optI h kN
   try simp only [hs] at h
   simp only [vz, qr, tyf, d15, d16, d17, (zabg d17), e20, e21, e22, e23, nm, seval]
   refine dktA (zej _ _ o25) ?_
   refine zae (fun tm => tm 12 = .agg (cGSpan r10.a2) ∧ tm 17 = .agg (cGSpan r18.a2) ∧ tm 19 = .lit (.int .i64 r24) ∧ True) (by refine ⟨e22, ?_, ?_, trivial⟩ <;> first | (simp only [ua, d15, d16, d17, e20, e21, e22, e23, nm, seval] <;> rfl) | rfl) ?_
   rintro tm ⟨e26, e27, e28, _⟩
   simp only [vz, qr, tyf, d15, d16, d17, (zabg d17), e26, e27, e28, nm, seval]
   refine zbl ⟨?_, ?_⟩
   ·simp only [zas, zaz, zad, zbz, and_true, true_and]
    repeat' (first | exact trivial | refine And.intro ?_ ?_ | rw [zad] | rw [zbk] | exact Or.inl (by decide +kernel) | exact Or.inl (by dsimp only; decide +kernel) | (refine Or.inr ⟨?_, ?_⟩ <;> simp; done) | (refine Or.inr ⟨?_, ?_⟩ <;> simp <;> omega) | (refine Or.inr ⟨?_, ?_⟩ <;> simp [VEff.wr] <;> omega))
   cases g29 : ((r24 != 0))
   ·simp only [g29, hs] at h
    exact absurd h kN
   simp only [g29, hs] at h
   try simp only [vz, qr, tyf, d15, d16, d17, (zabg d17), e26, e27, e28, g29, nm, seval]
   refine zay (x := (.lit (.int .i64 (IntKind.i64.wrap (Int.tdiv (IntKind.i64.wrap ((IntKind.i64.wrap ((if (IntKind.i64.wrap (r10.a2.High - (IntKind.i64.wrap (r24 * r18.a2.Low)))) < (IntKind.i64.wrap ((IntKind.i64.wrap (r24 * r18.a2.High)) - r10.a2.Low)) then (IntKind.i64.wrap ((IntKind.i64.wrap (r24 * r18.a2.High)) - r10.a2.Low)) else (IntKind.i64.wrap (r10.a2.High - (IntKind.i64.wrap (r24 * r18.a2.Low))))) + r24)) - 1)) r24))))) (by first | (simp only [Tryz.results111, resV, resL, resV1, zba, zcc, uw, cr, tyf, d15, d16, d17, (zabg d17), g29, nm, seval] <;> rfl) | rfl) ?_
   obtain rfl := kF _ h
   refine zbb ?_ ?_
   ·simp only [tre, tytre, Bool.and_self]
   ·first | (simp only [outV, uw, zaf, cr, tyf, nrm, tynrm, d15, d16, d17, (zabg d17), e26, e27, e28, g29, nm, seval] <;> rfl) | rfl
  simp only [d16, hs] at h
  obtain ⟨r30, o31, h⟩ := optI h kN
  try simp only [hs] at h
  simp only [vz, qr, tyf, e12, e13, e14, d15, d16, (zaar d16), nm, seval]
  refine dktA (zii _ _ o31) ?_
  refine zae (fun tm => tm 1 = .lit (.int .i64 xpg) ∧ tm 2 = .ptr 0 0 ∧ tm 12 = .agg (cGSpan r10.a1) ∧ tm 15 = .agg (cGa r30) ∧ True) (by refine ⟨e12, e13, ?_, ?_, trivial⟩ <;> first | (simp only [ua, e12, e13, e14, d15, d16, nm, seval] <;> rfl) | rfl) ?_
  rintro tm ⟨e32, e33, e34, e35, _⟩
  obtain ⟨r36, o37, h⟩ := optI h kN
  try simp only [hs] at h
  simp only [vz, qr, tyf, d15, d16, (zaar d16), e32, e33, e34, e35, nm, seval]
  refine dktA (zej _ _ o37) ?_
  refine zae (fun tm => tm 12 = .agg (cGSpan r10.a1) ∧ tm 17 = .agg (cGSpan r30.a1) ∧ tm 19 = .lit (.int .i64 r36) ∧ True) (by refine ⟨e34, ?_, ?_, trivial⟩ <;> first | (simp only [ua, d15, d16, e32, e33, e34, e35, nm, seval] <;> rfl) | rfl) ?_
  rintro tm ⟨e38, e39, e40, _⟩
  simp only [vz, qr, tyf, d15, d16, (zaar d16), e38, e39, e40, nm, seval]
  refine zbl ⟨?_, ?_⟩
  ·simp only [zas, zaz, zad, zbz, and_true, true_and]
   repeat' (first | exact trivial | refine And.intro ?_ ?_ | rw [zad] | rw [zbk] | exact Or.inl (by decide +kernel) | exact Or.inl (by dsimp only; decide +kernel) | (refine Or.inr ⟨?_, ?_⟩ <;> simp; done) | (refine Or.inr ⟨?_, ?_⟩ <;> simp <;> omega) | (refine Or.inr ⟨?_, ?_⟩ <;> simp [VEff.wr] <;> omega))
  cases g41 : ((r36 != 0))
  ·simp only [g41, hs] at h
   exact absurd h kN
  simp only [g41, hs] at h
  try simp only [vz, qr, tyf, d15, d16, (zaar d16), e38, e39, e40, g41, nm, seval]
  refine zay (x := (.lit (.int .i64 (IntKind.i64.wrap (Int.tdiv (IntKind.i64.wrap ((IntKind.i64.wrap ((if (IntKind.i64.wrap (r10.a1.High - (IntKind.i64.wrap (r36 * r30.a1.Low)))) < (IntKind.i64.wrap ((IntKind.i64.wrap (r36 * r30.a1.High)) - r10.a1.Low)) then (IntKind.i64.wrap ((IntKind.i64.wrap (r36 * r30.a1.High)) - r10.a1.Low)) else (IntKind.i64.wrap (r10.a1.High - (IntKind.i64.wrap (r36 * r30.a1.Low))))) + r36)) - 1)) r36))))) (by first | (simp only [Tryz.results111, resV, resL, resV1, zba, zcc, uw, cr, tyf, d15, d16, (zaar d16), g41, nm, seval] <;> rfl) | rfl) ?_
  obtain rfl := kF _ h
  refine zbb ?_ ?_
  ·simp only [tre, tytre, Bool.and_self]
  ·first | (simp only [outV, uw, zaf, cr, tyf, nrm, tynrm, d15, d16, (zaar d16), e38, e39, e40, g41, nm, seval] <;> rfl) | rfl
 simp only [d15, hs] at h
 obtain ⟨r42, o43, h⟩ := optI h kN
 try simp only [hs] at h
 simp only [vz, qr, tyf, e12, e13, e14, d15, (zaca d15), nm, seval]
 refine dktA (zii _ _ o43) ?_
 refine zae (fun tm => tm 1 = .lit (.int .i64 xpg) ∧ tm 2 = .ptr 0 0 ∧ tm 12 = .agg (cGSpan r10.a0) ∧ tm 15 = .agg (cGa r42) ∧ True) (by refine ⟨e12, e13, ?_, ?_, trivial⟩ <;> first | (simp only [ua, e12, e13, e14, d15, nm, seval] <;> rfl) | rfl) ?_
 rintro tm ⟨e44, e45, e46, e47, _⟩
 obtain ⟨r48, o49, h⟩ := optI h kN
 try simp only [hs] at h
 simp only [vz, qr, tyf, d15, (zaca d15), e44, e45, e46, e47, nm, seval]
 refine dktA (zej _ _ o49) ?_
 refine zae (fun tm => tm 12 = .agg (cGSpan r10.a0) ∧ tm 17 = .agg (cGSpan r42.a0) ∧ tm 19 = .lit (.int .i64 r48) ∧ True) (by refine ⟨e46, ?_, ?_, trivial⟩ <;> first | (simp only [ua, d15, e44, e45, e46, e47, nm, seval] <;> rfl) | rfl) ?_
 rintro tm ⟨e50, e51, e52, _⟩
 simp only [vz, qr, tyf, d15, (zaca d15), e50, e51, e52, nm, seval]
 refine zbl ⟨?_, ?_⟩
 ·simp only [zas, zaz, zad, zbz, and_true, true_and]
  repeat' (first | exact trivial | refine And.intro ?_ ?_ | rw [zad] | rw [zbk] | exact Or.inl (by decide +kernel) | exact Or.inl (by dsimp only; decide +kernel) | (refine Or.inr ⟨?_, ?_⟩ <;> simp; done) | (refine Or.inr ⟨?_, ?_⟩ <;> simp <;> omega) | (refine Or.inr ⟨?_, ?_⟩ <;> simp [VEff.wr] <;> omega))
 cases g53 : ((r48 != 0))
 ·simp only [g53, hs] at h
  exact absurd h kN
 simp only [g53, hs] at h
 try simp only [vz, qr, tyf, d15, (zaca d15), e50, e51, e52, g53, nm, seval]
 refine zay (x := (.lit (.int .i64 (IntKind.i64.wrap (Int.tdiv (IntKind.i64.wrap ((IntKind.i64.wrap ((if (IntKind.i64.wrap (r10.a0.High - (IntKind.i64.wrap (r48 * r42.a0.Low)))) < (IntKind.i64.wrap ((IntKind.i64.wrap (r48 * r42.a0.High)) - r10.a0.Low)) then (IntKind.i64.wrap ((IntKind.i64.wrap (r48 * r42.a0.High)) - r10.a0.Low)) else (IntKind.i64.wrap (r10.a0.High - (IntKind.i64.wrap (r48 * r42.a0.Low))))) + r48)) - 1)) r48))))) (by first | (simp only [Tryz.results111, resV, resL, resV1, zba, zcc, uw, cr, tyf, d15, (zaca d15), g53, nm, seval] <;> rfl) | rfl) ?_
 obtain rfl := kF _ h
 refine zbb ?_ ?_
 ·simp only [tre, tytre, Bool.and_self]
 ·first | (simp only [outV, uw, zaf, cr, tyf, nrm, tynrm, d15, (zaca d15), e50, e51, e52, g53, nm, seval] <;> rfl) | rfl
end Go.V
end
section
namespace Go.V
open Go Go.Proofs
def zch (x0_x : Gm) (xpg : Int) : Option ((Unit) ⊕ (Unit)) := Option.bind (zby x0_x xpg) (fun r1 => cond (decide (r1 > x0_x.sh.Off)) (some (.inr ())) (some (.inl ())))
theorem zcd (x0_x : Gm) (xpg : Int) (R : (Unit) ⊕ (Unit)) (h : zch x0_x xpg = some R) : VPure Tryz.prog G0 102 [.agg (cGm x0_x), .lit (.int .i64 xpg)] (presB R (fun r => .tree (.tup [])) (fun e => .panic (.ifc 132 (.agg [])))) := by
 refine VPure.runR mixed Tryz.call102 Tryz.func102 rfl (by simp [Tryz.ntmps102]; kernel_rfl) ?_
 obtain ⟨KF, h, kF, kN⟩ := zaq h
 simp only [zch] at h
 simp only [vz, tyf, nm, seval]
 refine zeb (fun tm => tm 1 = .lit (.int .i64 xpg) ∧ tm 2 = .ptr 0 0 ∧ True) (by refine ⟨?_, ?_, trivial⟩ <;> first | (simp only [ua, nm, seval] <;> rfl) | rfl) ?_
 rintro tm ⟨e2, e3, _⟩
 obtain ⟨r4, o5, h⟩ := optI h kN
 try simp only [hs] at h
 simp only [vz, tyf, e2, e3, nm, seval]
 refine dktA (zdr _ _ _ o5) ?_
 refine zae (fun tm => tm 2 = .ptr 0 0 ∧ tm 6 = .lit (.int .i64 r4) ∧ True) (by refine ⟨e3, ?_, trivial⟩ <;> first | (simp only [ua, e2, e3, nm, seval] <;> rfl) | rfl) ?_
 rintro tm ⟨e6, e7, _⟩
 cases d8 : (decide (r4 > x0_x.sh.Off))
 ·simp only [d8, hs] at h
  try simp only [vz, tyf, e6, e7, d8, nm, seval]
  refine zkl (x := (.tup [])) (by first | (simp only [Tryz.results102, resV, resL, resV1, zba, zcc, uw, cr, tyf, d8, nm, seval] <;> rfl) | rfl) ?_
  obtain rfl := kF _ h
  refine zbb ?_ ?_
  ·simp only [tre, tytre, Bool.and_self]
  ·first | (simp only [outV, uw, zaf, cr, tyf, nrm, tynrm, e6, e7, d8, nm, seval] <;> rfl) | rfl
 simp only [d8, hs] at h
 simp only [vz, tyf, e6, e7, d8, nm, seval]
 refine zahy ?_
 obtain rfl := kF _ h
 refine zaxd ?_ ?_
 ·simp only [tre, tytre, zaoj, Bool.and_self]
 ·first | (simp only [outV, uw, zaf, zaim, zajj, cr, tyf, nrm, tynrm, e6, e7, d8, nm, seval] <;> rfl) | rfl
end Go.V
end
section
namespace Go.V
open Go Go.Proofs
def zbp (x0_x : Gm) : Option (Bool) := Option.bind (zch x0_x 0) (fun r1 => sumB r1 (fun u2 => Option.bind (zch x0_x 1) (fun r4 => sumB r4 (fun u5 => Option.bind (zch x0_x 2) (fun r7 => sumB r7 (fun u8 => some true) (fun w9 => some false))) (fun w6 => some false))) (fun w3 => some false))
theorem zds (x0_x : Gm) (R : Bool) (h : zbp x0_x = some R) : VPure Tryz.prog G0 68 [.agg (cGm x0_x)] (.tree (.lit (.bool R))) := by
 refine VPure.runR mixed Tryz.call68 Tryz.func68 rfl (by simp [Tryz.ntmps68]; kernel_rfl) ?_
 obtain ⟨KF, h, kF, kN⟩ := zaq h
 simp only [zbp] at h
 simp only [vz, tyf, nm, seval]
 refine zfj mixed (by kernel_rfl) 4 ?_
 obtain ⟨r10, o11, h⟩ := optI h kN
 try simp only [hs] at h
 cases r10 with
 | inl u12 =>
  simp only [hs] at h
  simp only [vz, tyf, nm, seval]
  refine ktA (zcd _ _ _ o11) ?_
  refine zae (fun tm => tm 1 = .ptr 0 0 ∧ tm 2 = .ptr 1 0 ∧ tm 5 = .lit (.int .i64 0) ∧ True) (by refine ⟨?_, ?_, ?_, trivial⟩ <;> first | (simp only [ua, nm, seval] <;> rfl) | rfl) ?_
  rintro tm ⟨e14, e15, e16, _⟩
  obtain ⟨r17, o18, h⟩ := optI h kN
  try simp only [hs] at h
  cases r17 with
  | inl u19 =>
   simp only [hs] at h
   simp only [vz, tyf, e14, e15, e16, nm, seval]
   refine ktA (zcd _ _ _ o18) ?_
   refine zae (fun tm => tm 1 = .ptr 0 0 ∧ tm 2 = .ptr 1 0 ∧ tm 5 = .lit (.int .i64 1) ∧ True) (by refine ⟨e14, e15, ?_, trivial⟩ <;> first | (simp only [ua, e14, e15, e16, nm, seval] <;> rfl) | rfl) ?_
   rintro tm ⟨e21, e22, e23, _⟩
   obtain ⟨r24, o25, h⟩ := optI h kN
   try simp only [hs] at h
   cases r24 with
   | inl u26 =>
    simp only [hs] at h
    simp only [vz, tyf, e21, e22, e23, nm, seval]
    refine ktA (zcd _ _ _ o25) ?_
    refine zae (fun tm => tm 1 = .ptr 0 0 ∧ tm 2 = .ptr 1 0 ∧ tm 5 = .lit (.int .i64 2) ∧ True) (by refine ⟨e21, e22, ?_, trivial⟩ <;> first | (simp only [ua, e21, e22, e23, nm, seval] <;> rfl) | rfl) ?_
    rintro tm ⟨e28, e29, e30, _⟩
    try simp only [vz, tyf, e28, e29, e30, nm, seval]
    refine zany ?_
    refine VDeferred.run mixed Tryz.call101 Tryz.func101 rfl (by kernel_rfl) ?_
    try simp only [vz, tyf, nm, seval]
    refine zjl Tryz.results101 ?_
    refine zaea (x := (.lit (.bool true))) (by first | (simp only [Tryz.results68, resV, resL, resV1, zba, zcc, uw, cr, tyf, e28, e29, e30, nm, seval] <;> rfl) | rfl) ?_
    obtain rfl := kF _ h
    refine zbb ?_ ?_
    ·simp only [tre, tytre, Bool.and_self]
    ·first | (simp only [outV, uw, zaf, cr, tyf, nrm, tynrm, e28, e29, e30, nm, seval] <;> rfl) | rfl
   | inr w27 =>
    simp only [hs] at h
    simp only [vz, tyf, e21, e22, e23, nm, seval]
    refine kpan (args0 := [.agg (cGm x0_x), .lit (.int .i64 2)]) (by first | (simp only [nrm, tynrm] <;> rfl) | rfl) (by simp only [tre, tytre, Bool.and_self]) (zcd _ _ _ o25) ?_
    try simp only [vz, tyf, e21, e22, e23, nm, seval]
    refine zpp ?_
    refine VDeferred.run mixed Tryz.call101 Tryz.func101 rfl (by kernel_rfl) ?_
    try simp only [vz, tyf, nm, seval]
    refine zjl Tryz.results101 ?_
    refine zoz (x := (.lit (.bool false))) (by first | (simp only [Tryz.results68, resV, resL, resV1, zba, zcc, uw, cr, tyf, e21, e22, e23, nm, seval] <;> rfl) | rfl) ?_
    obtain rfl := kF _ h
    refine zbb ?_ ?_
    ·simp only [tre, tytre, Bool.and_self]
    ·first | (simp only [outV, uw, zaf, cr, tyf, nrm, tynrm, e21, e22, e23, nm, seval] <;> rfl) | rfl
  | inr w20 =>
   simp only [hs] at h
   simp only [vz, tyf, e14, e15, e16, nm, seval]
   refine kpan (args0 := [.agg (cGm x0_x), .lit (.int .i64 1)]) (by first | (simp only [nrm, tynrm] <;> rfl) | rfl) (by simp only [tre, tytre, Bool.and_self]) (zcd _ _ _ o18) ?_
   try simp only [vz, tyf, e14, e15, e16, nm, seval]
   refine zpp ?_
   refine VDeferred.run mixed Tryz.call101 Tryz.func101 rfl (by kernel_rfl) ?_
   try simp only [vz, tyf, nm, seval]
   refine zjl Tryz.results101 ?_
   refine zoz (x := (.lit (.bool false))) (by first | (simp only [Tryz.results68, resV, resL, resV1, zba, zcc, uw, cr, tyf, e14, e15, e16, nm, seval] <;> rfl) | rfl) ?_
   obtain rfl := kF _ h
   refine zbb ?_ ?_
   ·simp only [tre, tytre, Bool.and_self]
   ·first | (simp only [outV, uw, zaf, cr, tyf, nrm, tynrm, e14, e15, e16, nm, seval] <;> rfl) | rfl
 | inr w13 =>
  simp only [hs] at h
  simp only [vz, tyf, nm, seval]
  refine kpan (args0 := [.agg (cGm x0_x), .lit (.int .i64 0)]) (by first | (simp only [nrm, tynrm] <;> rfl) | rfl) (by simp only [tre, tytre, Bool.and_self]) (zcd _ _ _ o11) ?_
  try simp only [vz, tyf, nm, seval]
  refine zpp ?_
  refine VDeferred.run mixed Tryz.call101 Tryz.func101 rfl (by kernel_rfl) ?_
  try simp only [vz, tyf, nm, seval]
  refine zjl Tryz.results101 ?_
  refine zoz (x := (.lit (.bool false))) (by first | (simp only [Tryz.results68, resV, resL, resV1, zba, zcc, uw, cr, tyf, nm, seval] <;> rfl) | rfl) ?_
  obtain rfl := kF _ h
  refine zbb ?_ ?_
  ·simp only [tre, tytre, Bool.and_self]
  ·first | (simp only [outV, uw, zaf, cr, tyf, nrm, tynrm, nm, seval] <;> rfl) | rfl
end Go.V
end
section
namespace Go.V
open Go Go.Proofs
def zfm (x0_s : Gs) (x1_mix : List Int) (x2_t : Gu) : Option (Bool × Int) := Option.bind (zbv x0_s) (fun r1 => cond (r1) (Option.bind (zdu x0_s x1_mix) (fun r2 => cond (r2) (Option.bind (zff x0_s x2_t) (fun r3 => cond (r3) (Option.bind (zhu x0_s x2_t) (fun r4 => Option.bind (zbp (Gm.mk r4 x1_mix)) (fun r5 => some (r5, 0)))) (some (false, 2)))) (some (false, 2)))) (some (false, 2)))
theorem zeg (x0_s : Gs) (x1_mix : List Int) (x2_t : Gu) (R : Bool × Int) (h : zfm x0_s x1_mix x2_t = some R) : VPure Tryz.prog G0 24 [.agg (cGs x0_s), .sl (cellsL eI x1_mix) (List.length x1_mix) false, .agg (cGu x2_t)] (.tree (.tup [.lit (.bool R.1), .lit (.int .i64 R.2)])) := by
 refine VPure.runR mixed Tryz.call24 Tryz.func24 rfl (by simp [Tryz.ntmps24]; kernel_rfl) ?_
 obtain ⟨KF, h, kF, kN⟩ := zaq h
 simp only [zfm] at h
 obtain ⟨r6, o7, h⟩ := optI h kN
 try simp only [hs] at h
 simp only [vz, tyf, nm, seval]
 refine ktA (zdm _ _ o7) ?_
 refine zae (fun tm => tm 1 = .sl (cellsL eI x1_mix) (List.length x1_mix) false ∧ tm 3 = .ptr 0 0 ∧ tm 5 = .ptr 1 0 ∧ tm 9 = .lit (.bool r6) ∧ True) (by refine ⟨?_, ?_, ?_, ?_, trivial⟩ <;> first | (simp only [ua, nm, seval] <;> rfl) | rfl) ?_
 rintro tm ⟨e8, e9, e10, e11, _⟩
 cases d12 : (r6)
 ·simp only [d12, hs] at h
  try simp only [vz, tyf, e8, e9, e10, e11, d12, nm, seval]
  refine zay (x := (.tup [.lit (.bool false), .lit (.int .i64 2)])) (by first | (simp only [Tryz.results24, resV, resL, resV1, zba, zcc, uw, cr, tyf, d12, nm, seval] <;> rfl) | rfl) ?_
  obtain rfl := kF _ h
  refine zbb ?_ ?_
  ·simp only [tre, tytre, Bool.and_self]
  ·first | (simp only [outV, uw, zaf, cr, tyf, nrm, tynrm, e8, e9, e10, e11, d12, nm, seval] <;> rfl) | rfl
 simp only [d12, hs] at h
 obtain ⟨r13, o14, h⟩ := optI h kN
 try simp only [hs] at h
 simp only [vz, tyf, e8, e9, e10, e11, d12, nm, seval]
 refine ktA (zhi _ _ _ o14) ?_
 refine zae (fun tm => tm 1 = .sl (cellsL eI x1_mix) (List.length x1_mix) false ∧ tm 3 = .ptr 0 0 ∧ tm 5 = .ptr 1 0 ∧ tm 11 = .lit (.bool false) ∧ tm 14 = .lit (.bool r13) ∧ True) (by refine ⟨e8, e9, e10, ?_, ?_, trivial⟩ <;> first | (simp only [ua, e8, e9, e10, e11, d12, nm, seval] <;> rfl) | rfl) ?_
 rintro tm ⟨e15, e16, e17, e18, e19, _⟩
 cases d20 : (r13)
 ·simp only [d20, hs] at h
  try simp only [vz, tyf, d12, e15, e16, e17, e18, e19, d20, nm, seval]
  refine zay (x := (.tup [.lit (.bool false), .lit (.int .i64 2)])) (by first | (simp only [Tryz.results24, resV, resL, resV1, zba, zcc, uw, cr, tyf, d12, d20, nm, seval] <;> rfl) | rfl) ?_
  obtain rfl := kF _ h
  refine zbb ?_ ?_
  ·simp only [tre, tytre, Bool.and_self]
  ·first | (simp only [outV, uw, zaf, cr, tyf, nrm, tynrm, d12, e15, e16, e17, e18, e19, d20, nm, seval] <;> rfl) | rfl
 simp only [d20, hs] at h
 obtain ⟨r21, o22, h⟩ := optI h kN
 try simp only [hs] at h
 simp only [vz, tyf, d12, e15, e16, e17, e18, e19, d20, nm, seval]
 refine ktA (zmh _ _ _ o22) ?_
 refine zae (fun tm => tm 1 = .sl (cellsL eI x1_mix) (List.length x1_mix) false ∧ tm 3 = .ptr 0 0 ∧ tm 5 = .ptr 1 0 ∧ tm 17 = .lit (.bool false) ∧ tm 20 = .lit (.bool r21) ∧ True) (by refine ⟨e15, e16, e17, ?_, ?_, trivial⟩ <;> first | (simp only [ua, d12, e15, e16, e17, e18, e19, d20, nm, seval] <;> rfl) | rfl) ?_
 rintro tm ⟨e23, e24, e25, e26, e27, _⟩
 cases d28 : (r21)
 ·simp only [d28, hs] at h
  try simp only [vz, tyf, d12, d20, e23, e24, e25, e26, e27, d28, nm, seval]
  refine zay (x := (.tup [.lit (.bool false), .lit (.int .i64 2)])) (by first | (simp only [Tryz.results24, resV, resL, resV1, zba, zcc, uw, cr, tyf, d12, d20, d28, nm, seval] <;> rfl) | rfl) ?_
  obtain rfl := kF _ h
  refine zbb ?_ ?_
  ·simp only [tre, tytre, Bool.and_self]
  ·first | (simp only [outV, uw, zaf, cr, tyf, nrm, tynrm, d12, d20, e23, e24, e25, e26, e27, d28, nm, seval] <;> rfl) | rfl
 simp only [d28, hs] at h
 obtain ⟨r29, o30, h⟩ := optI h kN
 try simp only [hs] at h
 simp only [vz, tyf, d12, d20, e23, e24, e25, e26, e27, d28, nm, seval]
 refine ktA (zqp _ _ _ o30) ?_
 refine zae (fun tm => tm 1 = .sl (cellsL eI x1_mix) (List.length x1_mix) false ∧ tm 25 = .agg (cGs r29) ∧ True) (by refine ⟨e23, ?_, trivial⟩ <;> first | (simp only [ua, d12, d20, e23, e24, e25, e26, e27, d28, nm, seval] <;> rfl) | rfl) ?_
 rintro tm ⟨e31, e32, _⟩
 obtain ⟨r33, o34, h⟩ := optI h kN
 try simp only [hs] at h
 simp only [vz, tyf, d12, d20, d28, e31, e32, nm, seval]
 refine ktA (zds _ _ o34) ?_
 refine zae (fun tm => tm 28 = .lit (.bool r33) ∧ True) (by refine ⟨?_, trivial⟩ <;> first | (simp only [ua, d12, d20, d28, e31, e32, nm, seval] <;> rfl) | rfl) ?_
 rintro tm ⟨e35, _⟩
 try simp only [vz, tyf, d12, d20, d28, e35, nm, seval]
 refine zay (x := (.tup [.lit (.bool r33), .lit (.int .i64 0)])) (by first | (simp only [Tryz.results24, resV, resL, resV1, zba, zcc, uw, cr, tyf, d12, d20, d28, nm, seval] <;> rfl) | rfl) ?_
 obtain rfl := kF _ h
 refine zbb ?_ ?_
 ·simp only [tre, tytre, Bool.and_self]
 ·first | (simp only [outV, uw, zaf, cr, tyf, nrm, tynrm, d12, d20, d28, e35, nm, seval] <;> rfl) | rfl
end Go.V
end
section
namespace Go.V
open Go Go.Proofs
end Go.V
end
section
namespace Go.V
open Go Go.Proofs
end Go.V
end
section
namespace Go.V
open Go
def withinB (c : Ga) (n : Gi) : Bool := inB c.a0.Low c.a0.High n.a0 && (inB c.a1.Low c.a1.High n.a1 && inB c.a2.Low c.a2.High n.a2)
theorem zpz (c : Ga) (n : Gi) : zen c n = some (withinB c n) := by
 unfold zen withinB
 simp only [zli, Option.bind_some]
 cases inB c.a0.Low c.a0.High n.a0 <;> cases inB c.a1.Low c.a1.High n.a1 <;> cases inB c.a2.Low c.a2.High n.a2 <;> rfl
def zipB (f : Ga → Gi → Bool) : List Gi → List Gt → Bool
 | a :: qs, t :: ts => f t.pg a && zipB f qs ts
 | [], [] => true
 | _, _ => false
theorem zuc (s : Gs) : ∀ (p : List Gi) (ts : List Gt) (c : Int), 0 ≤ c → List.drop c.toNat s.Tins = ts → p.length = ts.length → zdk s p c = goB (zipB withinB p ts)
 | [], [], _, _, _, _ => rfl
 | a :: p, t :: ts, c, h0, h, hl => by
  simp only [zdk, zal h0 h, Option.bind_some, zpz, zipB, zkj]
  rw [zuc s p ts (c + 1) (by omega) (zbe h0 h) (by simpa using hl)]
 | [], _ :: _, _, _, _, hl => by simp at hl
 | _ :: _, [], _, _, _, hl => by simp at hl
def cmpB (p : P3) (c : Ga) (n : Gi) : Bool := inB (selS c p).Low (selS c p).High (selI n p)
theorem zyh : ∀ (p : List Gi) (ts : List Gt), zipB withinB p ts = (zipB (cmpB .p0) p ts && (zipB (cmpB .p1) p ts && zipB (cmpB .p2) p ts))
 | [], [] => rfl
 | a :: p, t :: ts => by
  simp only [zipB, zyh p ts, withinB, cmpB, selS, selI]
  cases inB t.pg.a0.Low t.pg.a0.High a.a0 <;> cases inB t.pg.a1.Low t.pg.a1.High a.a1 <;> cases inB t.pg.a2.Low t.pg.a2.High a.a2 <;> simp
 | [], _ :: _ => rfl
 | _ :: _, [] => rfl
theorem zaaa (s : Gs) : ∀ (p : List Gi) (ts : List Gt) (c : Int), 0 ≤ c → List.drop c.toNat s.Tins = ts → p.length = ts.length → zcn s p c = goB (zipB (cmpB .p0) p ts)
 | [], [], _, _, _, _ => rfl
 | a :: p, t :: ts, c, h0, h, hl => by
  simp only [zcn, zal h0 h, Option.bind_some, zvb, zipB, cmpB, selS, selI, zkj]
  rw [zaaa s p ts (c + 1) (by omega) (zbe h0 h) (by simpa using hl)]
 | [], _ :: _, _, _, _, hl => by simp at hl
 | _ :: _, [], _, _, _, hl => by simp at hl
theorem zxv (s : Gs) : ∀ (p : List Gi) (ts : List Gt) (c : Int), 0 ≤ c → List.drop c.toNat s.Tins = ts → p.length = ts.length → zcq s p c = goB (zipB (cmpB .p1) p ts)
 | [], [], _, _, _, _ => rfl
 | a :: p, t :: ts, c, h0, h, hl => by
  simp only [zcq, zal h0 h, Option.bind_some, zvb, zipB, cmpB, selS, selI, zkj]
  rw [zxv s p ts (c + 1) (by omega) (zbe h0 h) (by simpa using hl)]
 | [], _ :: _, _, _, _, hl => by simp at hl
 | _ :: _, [], _, _, _, hl => by simp at hl
theorem zyi (s : Gs) : ∀ (p : List Gi) (ts : List Gt) (c : Int), 0 ≤ c → List.drop c.toNat s.Tins = ts → p.length = ts.length → zcs s p c = goB (zipB (cmpB .p2) p ts)
 | [], [], _, _, _, _ => rfl
 | a :: p, t :: ts, c, h0, h, hl => by
  simp only [zcs, zal h0 h, Option.bind_some, zvb, zipB, cmpB, selS, selI, zkj]
  rw [zyi s p ts (c + 1) (by omega) (zbe h0 h) (by simpa using hl)]
 | [], _ :: _, _, _, _, hl => by simp at hl
 | _ :: _, [], _, _, _, hl => by simp at hl
def truthB (s : Gs) (t : Gu) : Bool := decide (t.Tins.length = s.Tins.length) && (inB s.Years.Low s.Years.High t.Years && (withinB s.Fade t.Fade && zipB withinB t.Tins s.Tins))
theorem zafb (s : Gs) {t : Gu} (hl : lenOk t.Tins = true) : zff s t = some (truthB s t) := by
 unfold zff truthB
 simp only [bne, lenB, cnot]
 by_cases h : t.Tins.length = s.Tins.length
 ·rw [decide_eq_true h, zli, zpz, hl, zuc s t.Tins s.Tins 0 (Int.le_refl _) rfl h, zjq]
  simp only [cond_true, Option.bind_some, Bool.true_and]
  cases inB s.Years.Low s.Years.High t.Years <;> cases withinB s.Fade t.Fade <;> cases zipB withinB t.Tins s.Tins <;> rfl
 ·rw [decide_eq_false h]
  rfl
theorem zajd (s : Gs) {t : Gu} (hl : lenOk t.Tins = true) : zhe s t = some (truthB s t) := by
 unfold zhe truthB
 simp only [bne, lenB, cnot]
 by_cases h : t.Tins.length = s.Tins.length
 ·rw [decide_eq_true h, zyh, show Int.toNat (3 - 0) = 3 from rfl, show boundOk 3 = true from rfl]
  simp only [zdz, hl, zaaa s t.Tins s.Tins 0 (Int.le_refl _) rfl h, zxv s t.Tins s.Tins 0 (Int.le_refl _) rfl h, zyi s t.Tins s.Tins 0 (Int.le_refl _) rfl h, zjq, zvb, Option.bind_some, Int.reduceAdd, Int.reduceBEq, cond_true, cond_false, Bool.true_and, withinB]
  cases inB s.Years.Low s.Years.High t.Years <;> cases inB s.Fade.a0.Low s.Fade.a0.High t.Fade.a0 <;> cases inB s.Fade.a1.Low s.Fade.a1.High t.Fade.a1 <;> cases inB s.Fade.a2.Low s.Fade.a2.High t.Fade.a2 <;> simp only [cond_true, cond_false, Bool.false_and, Bool.true_and, Bool.and_false, lbind] <;> first | rfl | (cases zipB (cmpB .p0) t.Tins s.Tins <;> first | rfl | (cases zipB (cmpB .p1) t.Tins s.Tins <;> first | rfl | (cases zipB (cmpB .p2) t.Tins s.Tins <;> rfl)))
 ·rw [decide_eq_false h]
  rfl
theorem zakt {f : Ga → Gi → Bool} : ∀ {p : List Gi} {ts : List Gt}, zipB f p ts = true → ∀ (i : Nat) a t, p[i]? = some a → ts[i]? = some t → f t.pg a = true
 | [], _, _, _, _, _, h, _ => by simp at h
 | _ :: _, [], h, _, _, _, _, _ => by cases h
 | a :: p, t :: ts, h, i, a', t', ha, ht => by
  simp only [zipB, Bool.and_eq_true] at h
  cases i with
  | zero =>
   simp only [List.getElem?_cons_zero, Option.some.injEq] at ha ht
   subst ha ht
   exact h.1
  | succ i => exact zakt h.2 i a' t' (by simpa using ha) (by simpa using ht)
structure TrOk (s : Gs) (t : Gu) : Prop where
 n : t.Tins.length = s.Tins.length
 y : s.Years.Low ≤ t.Years ∧ t.Years ≤ s.Years.High
 fade : ∀ p, (selS s.Fade p).Low ≤ selI t.Fade p ∧ selI t.Fade p ≤ (selS s.Fade p).High
 tin : ∀ (i : Nat) a c, t.Tins[i]? = some a → s.Tins[i]? = some c → ∀ p, lowT p c ≤ selI a p ∧ selI a p ≤ highT p c
theorem TrOk.of {s : Gs} {t : Gu} (h : truthB s t = true) : TrOk s t := by
 simp only [truthB, Bool.and_eq_true, decide_eq_true_eq, zkb] at h
 obtain ⟨h1, h2, h3, h4⟩ := h
 simp only [withinB, Bool.and_eq_true, zkb] at h3
 refine ⟨h1, h2, fun p => ?_, fun i a c ha hc p => ?_⟩
 ·cases p
  ·exact h3.1
  ·exact h3.2.1
  ·exact h3.2.2
 ·have := zakt h4 i a c ha hc
  simp only [withinB, Bool.and_eq_true, zkb] at this
  cases p
  ·exact this.1
  ·exact this.2.1
  ·exact this.2.2
def alo (n : Int) : GSpan := ⟨n, n⟩
def al3 (n : Gi) : Ga := ⟨alo n.a0, alo n.a1, alo n.a2⟩
def tinK (a : Gi) : Gt := ⟨al3 a⟩
def knS (s : Gs) (t : Gu) : Gs := ⟨s.Old, al3 t.Fade, alo t.Years, s.Off, t.Tins.map tinK⟩
theorem zre (n : Gi) : zgb n = some (al3 n) := rfl
theorem zagm : ∀ (p : List Gi) (c : Int) (acc : List Gt), acc.length + p.length ≤ 1000 → zdh p c acc = some (.go (acc ++ p.map tinK))
 | [], c, acc, _ => by simp [zdh]
 | a :: p, c, acc, h => by
  simp only [List.length_cons] at h
  have hr : roomOk 48 (List.length (acc ++ [Gt.mk (al3 a)])) = true := by
   unfold roomOk
   simp only [List.length_append, List.length_cons, List.length_nil, decide_eq_true_eq]
   omega
  simp only [zdh, zre, Option.bind_some, hr, cond_true]
  rw [zagm p (c + 1) _ (by simp only [List.length_append, List.length_cons, List.length_nil]; omega)]
  simp [tinK]
theorem zaoi {s : Gs} (hs : ShOk s) {t : Gu} (ht : TrOk s t) : zhu s t = some (knS s t) := by
 have h1 := hs.n
 have h2 := ht.n
 unfold zhu
 rw [show zgg t.Years = some (alo t.Years) from rfl, zre, zhh (by omega), zagm t.Tins 0 [] (by simp only [List.length_nil]; omega)]
 simp [lbind, knS]
theorem zwh (n : Gi) (p : P3) : selS (al3 n) p = alo (selI n p) := by cases p <;> rfl
theorem knOk {s : Gs} (hs : ShOk s) {t : Gu} (ht : TrOk s t) : ShOk (knS s t) := by
 refine ⟨hs.old, fun p => ?_, ?_, hs.off, ?_, fun x hx p => ?_⟩
 ·have h1 := hs.fade p
  have h2 := ht.fade p
  show 0 ≤ (selS (al3 t.Fade) p).Low ∧ (selS (al3 t.Fade) p).Low ≤ (selS (al3 t.Fade) p).High ∧ (selS (al3 t.Fade) p).High ≤ 9
  rw [zwh]
  simp only [alo]
  omega
 ·have h1 := hs.yrs
  have h2 := ht.y
  show 0 ≤ t.Years ∧ t.Years ≤ t.Years ∧ t.Years ≤ 20
  omega
 ·have h1 := hs.n
  have h2 := ht.n
  show 1 ≤ (t.Tins.map tinK).length ∧ (t.Tins.map tinK).length ≤ 4
  rw [List.length_map]
  omega
 ·obtain ⟨a, ha, rfl⟩ := List.mem_map.1 (show x ∈ t.Tins.map tinK from hx)
  obtain ⟨i, hi⟩ := List.mem_iff_getElem?.1 ha
  have hlt := (List.getElem?_eq_some_iff.1 hi).1
  obtain ⟨c, hc⟩ : ∃ c, s.Tins[i]? = some c := ⟨_, List.getElem?_eq_getElem (by rw [← ht.n]; exact hlt)⟩
  have h1 := ht.tin i a c hi hc p
  have h2 := hs.tin c (List.mem_of_getElem? hc) p
  show 0 ≤ (selS (al3 a) p).Low ∧ (selS (al3 a) p).Low ≤ (selS (al3 a) p).High ∧ (selS (al3 a) p).High ≤ 99
  rw [zwh]
  simp only [alo, lowT, highT] at h1 ⊢
  omega
theorem knMix {s : Gs} {t : Gu} (ht : TrOk s t) {mix : List Int} (hm : MixOk s mix) : MixOk (knS s t) mix := by
 refine ⟨?_, hm.b, hm.s⟩
 show mix.length = (t.Tins.map tinK).length
 rw [List.length_map, hm.n, ht.n]
theorem zun {α β : Type} (g : α → β) (f : β → Int) : ∀ (ms : List Int) (ts : List α), dot f ms (ts.map g) = dot (fun a => f (g a)) ms ts
 | [], _ => by simp [dot]
 | _ :: _, [] => rfl
 | m :: ms, t :: ts => by simp only [List.map_cons, dot, zun g f ms ts]
def sumT (mix : List Int) (t : Gu) (p : P3) : Int := dot (fun a => selI a p) mix t.Tins
def fadT (s : Gs) (t : Gu) (p : P3) : Int := leftI (selI s.Old p) t.Years (selI t.Fade p)
theorem zalm {s : Gs} {t : Gu} {mix : List Int} (p : P3) : sumsP (knS s t) mix p = alo (sumT mix t p) := by
 have e1 : (fun a => lowT p (tinK a)) = fun a => selI a p := by
  funext a
  cases p <;> rfl
 have e2 : (fun a => highT p (tinK a)) = fun a => selI a p := by
  funext a
  cases p <;> rfl
 show GSpan.mk (dot (lowT p) mix (t.Tins.map tinK)) (dot (highT p) mix (t.Tins.map tinK)) = _
 rw [zun, zun, e1, e2]
 rfl
theorem zasp {s : Gs} {t : Gu} (p : P3) : aimP (knS s t) p = alo (fadT s t p) := by
 show GSpan.mk (leftI (selI s.Old p) t.Years (selS (al3 t.Fade) p).High) (leftI (selI s.Old p) t.Years (selS (al3 t.Fade) p).Low) = _
 rw [zwh]
 rfl
def mostI (s : Gs) (mix : List Int) (p : P3) : Int :=
 if (sumsP s mix p).High - sumL mix * (aimP s p).Low < sumL mix * (aimP s p).High - (sumsP s mix p).Low then sumL mix * (aimP s p).High - (sumsP s mix p).Low else (sumsP s mix p).High - sumL mix * (aimP s p).Low
def farI (s : Gs) (mix : List Int) (p : P3) : Int := Int.tdiv (mostI s mix p + sumL mix - 1) (sumL mix)
theorem zaei {s : Gs} (hs : ShOk s) {mix : List Int} (hm : MixOk s mix) (p : P3) : 0 ≤ (sumsP s mix p).Low ∧ (sumsP s mix p).Low ≤ (sumsP s mix p).High ∧ (sumsP s mix p).High ≤ 792 := by
 have h1 := dot_b mix s.Tins hm.b (hs.low p)
 have h2 := dot_b mix s.Tins hm.b (hs.high p)
 have h3 := zadr (f := lowT p) (g := highT p) mix s.Tins s.Tins rfl hm.b (fun i t u ht hu => by
  rw [ht] at hu
  cases hu
  have := hs.tin t (List.mem_of_getElem? ht) p
  unfold lowT highT
  omega)
 have h4 := hm.s
 unfold sumsP
 simp only
 omega
theorem zaae {s : Gs} (hs : ShOk s) {mix : List Int} (hm : MixOk s mix) (p : P3) : 0 ≤ mostI s mix p ∧ mostI s mix p ≤ 800 ∧ 0 ≤ sumL mix * (aimP s p).Low ∧ sumL mix * (aimP s p).Low ≤ sumL mix * (aimP s p).High ∧ sumL mix * (aimP s p).High ≤ 792 := by
 have h1 := zaei hs hm p
 have h2 := zawp hs p
 have h3 := hm.s
 have h4 := mulR (a := sumL mix) (A := 8) (by omega) h3.2 h2.1 (show (aimP s p).Low ≤ 99 by omega)
 have h5 := mulR (a := sumL mix) (A := 8) (by omega) h3.2 (show 0 ≤ (aimP s p).High by omega) h2.2.2
 have h6 := Int.mul_le_mul_of_nonneg_left h2.2.1 (show 0 ≤ sumL mix by omega)
 unfold mostI
 split <;> omega
theorem zaku {s : Gs} (hs : ShOk s) {mix : List Int} (hm : MixOk s mix) (p : P3) (k : Int) : farI s mix p ≤ k ↔ mostI s mix p ≤ k * sumL mix := by
 have h1 := (zaae hs hm p).1
 have h3 := hm.s
 unfold farI
 rw [Int.tdiv_eq_ediv_of_nonneg (by omega)]
 have h2 := Int.ediv_lt_iff_lt_mul (a := mostI s mix p + sumL mix - 1) (b := k + 1) (c := sumL mix) (by omega)
 rw [Int.add_mul, Int.one_mul] at h2
 omega
theorem zaxg {s : Gs} (hs : ShOk s) {mix : List Int} (hm : MixOk s mix) (p : P3) : 0 ≤ farI s mix p ∧ farI s mix p ≤ 800 := by
 have h1 := zaae hs hm p
 have h3 := hm.s
 refine ⟨?_, (zaku hs hm p 800).2 (by omega)⟩
 unfold farI
 rw [Int.tdiv_eq_ediv_of_nonneg (by omega)]
 exact Int.ediv_nonneg (by omega) (by omega)
theorem zawi {s : Gs} (hs : ShOk s) {mix : List Int} (hm : MixOk s mix) (p : P3) : zby ⟨s, mix⟩ p.i = some (farI s mix p) := by
 have h1 := zaei hs hm p
 have h2 := zaae hs hm p
 have h3 := hm.s
 have h4 := zaxg hs hm p
 have hne : (sumL mix != 0) = true := by simp; omega
 have e1 : IntKind.i64.wrap (sumL mix * (aimP s p).Low) = sumL mix * (aimP s p).Low := zdg (by omega) (by omega)
 have e2 : IntKind.i64.wrap (sumL mix * (aimP s p).High) = sumL mix * (aimP s p).High := zdg (by omega) (by omega)
 have e3 : IntKind.i64.wrap ((sumsP s mix p).High - sumL mix * (aimP s p).Low) = (sumsP s mix p).High - sumL mix * (aimP s p).Low := zdg (by omega) (by omega)
 have e4 : IntKind.i64.wrap (sumL mix * (aimP s p).High - (sumsP s mix p).Low) = sumL mix * (aimP s p).High - (sumsP s mix p).Low := zdg (by omega) (by omega)
 have e5 : IntKind.i64.wrap (mostI s mix p + sumL mix) = mostI s mix p + sumL mix := zdg (by omega) (by omega)
 have e6 : IntKind.i64.wrap (mostI s mix p + sumL mix - 1) = mostI s mix p + sumL mix - 1 := zdg (by omega) (by omega)
 have e7 : IntKind.i64.wrap (farI s mix p) = farI s mix p := zdg (by omega) (by omega)
 have key : some (IntKind.i64.wrap (Int.tdiv (IntKind.i64.wrap ((IntKind.i64.wrap ((if (IntKind.i64.wrap ((sumsP s mix p).High - (IntKind.i64.wrap (sumL mix * (aimP s p).Low)))) < (IntKind.i64.wrap ((IntKind.i64.wrap (sumL mix * (aimP s p).High)) - (sumsP s mix p).Low)) then (IntKind.i64.wrap ((IntKind.i64.wrap (sumL mix * (aimP s p).High)) - (sumsP s mix p).Low)) else (IntKind.i64.wrap ((sumsP s mix p).High - (IntKind.i64.wrap (sumL mix * (aimP s p).Low))))) + sumL mix)) - 1)) (sumL mix))) = some (farI s mix p) := by
  rw [e1, e2, e3, e4]
  show some (IntKind.i64.wrap (Int.tdiv (IntKind.i64.wrap ((IntKind.i64.wrap (mostI s mix p + sumL mix)) - 1)) (sumL mix))) = _
  rw [e5, e6]
  exact congrArg some e7
 unfold zby
 rw [zakg hs hm, zawj hs, zacp hs hm]
 simp only [Option.bind_some, hne, cond_true]
 cases p <;> simp only [P3.i, Int.reduceBEq, cond_true, cond_false] <;> exact key
def surelyB (s : Gs) (mix : List Int) : Bool := decide (farI s mix .p0 ≤ s.Off) && (decide (farI s mix .p1 ≤ s.Off) && decide (farI s mix .p2 ≤ s.Off))
theorem zaez {s : Gs} (hs : ShOk s) {mix : List Int} (hm : MixOk s mix) (p : P3) : zch ⟨s, mix⟩ p.i = some (cond (decide (farI s mix p ≤ s.Off)) (.inl ()) (.inr ())) := by
 unfold zch
 rw [zawi hs hm p]
 simp only [Option.bind_some]
 by_cases h : farI s mix p ≤ s.Off
 ·rw [decide_eq_true h, decide_eq_false (by show ¬ farI s mix p > s.Off; omega)]; rfl
 ·rw [decide_eq_false h, decide_eq_true (by show farI s mix p > s.Off; omega)]; rfl
theorem zyw {s : Gs} (hs : ShOk s) {mix : List Int} (hm : MixOk s mix) : zbp ⟨s, mix⟩ = some (surelyB s mix) := by
 have m0 := zaez hs hm .p0
 have m1 := zaez hs hm .p1
 have m2 := zaez hs hm .p2
 simp only [P3.i] at m0 m1 m2
 unfold zbp surelyB
 rw [m0, m1, m2]
 cases decide (farI s mix .p0 ≤ s.Off) <;> cases decide (farI s mix .p1 ≤ s.Off) <;> cases decide (farI s mix .p2 ≤ s.Off) <;> rfl
theorem zit {s : Gs} (hs : ShOk s) {mix : List Int} (hm : MixOk s mix) : surelyB s mix = true ↔ ∀ p, mostI s mix p ≤ s.Off * sumL mix := by
 simp only [surelyB, Bool.and_eq_true, decide_eq_true_eq, zaku hs hm]
 constructor
 ·rintro ⟨a, b, c⟩ p
  cases p <;> assumption
 ·intro h
  exact ⟨h .p0, h .p1, h .p2⟩
def absI (n : Int) : Int := if n < -n then -n else n
def trueB (s : Gs) (mix : List Int) (t : Gu) : Bool := decide (absI (sumT mix t .p0 - sumL mix * fadT s t .p0) ≤ sumL mix * s.Off) && (decide (absI (sumT mix t .p1 - sumL mix * fadT s t .p1) ≤ sumL mix * s.Off) && decide (absI (sumT mix t .p2 - sumL mix * fadT s t .p2) ≤ sumL mix * s.Off))
theorem zoc {s : Gs} {mix : List Int} {t : Gu} : trueB s mix t = true ↔ ∀ p, absI (sumT mix t p - sumL mix * fadT s t p) ≤ s.Off * sumL mix := by
 simp only [trueB, Bool.and_eq_true, decide_eq_true_eq, Int.mul_comm (sumL mix) s.Off]
 constructor
 ·rintro ⟨a, b, c⟩ p
  cases p <;> assumption
 ·intro h
  exact ⟨h .p0, h .p1, h .p2⟩
theorem zapp {s : Gs} {mix : List Int} {t : Gu} (p : P3) : mostI (knS s t) mix p = absI (sumT mix t p - sumL mix * fadT s t p) := by
 unfold mostI absI
 rw [zalm, zasp]
 simp only [alo]
 have key : ∀ a b : Int, (if a - b < b - a then b - a else a - b) = (if a - b < -(a - b) then -(a - b) else a - b) := by
  intro a b
  by_cases h : a - b < b - a
  ·rw [if_pos h, if_pos (by omega)]
   omega
  ·rw [if_neg h, if_neg (by omega)]
 exact key _ _
theorem zagx {s : Gs} (hs : ShOk s) {mix : List Int} (hm : MixOk s mix) {t : Gu} (ht : TrOk s t) : surelyB (knS s t) mix = trueB s mix t := by
 rw [Bool.eq_iff_iff, zit (knOk hs ht) (knMix ht hm), zoc]
 simp only [zapp]
 rfl
end Go.V
end
section
namespace Go.V
open Go
section
variable {P : Program} {G : Glob} {ops : Array Oper} {base : Nat} {Q : VExit → St → Prop} {n : Nat}
end
end Go.V
namespace Go.V
open Go
section
variable {P : Program} {G : Glob} {ops : Array Oper} {base : Nat} {Q : VExit → St → Prop} {n : Nat}
end
section
variable {P : Program} {G : Glob} {ops : Array Oper} {base : Nat} {Q : VExit → St → Prop} {n : Nat} {i m b : Nat} {o : Oper} {l l2 : List Oper} {mk mE mL : List Bool} {tr : Tr} {K : Tr → St → Prop} {tm : Nat → VV} {H : Nat → Option VObj} {nx : Nat} {df : List VDef} {st : St} {rest : List (List Bool × Nat)}
end
end Go.V
namespace Go.V
set_option linter.defProp false
end Go.V
end
section
namespace Go.V
open Go
def gone (H H' : Nat → Option VObj) : Nat → Option VObj := fun β => if (H' β).isSome then none else H β
theorem SubHeap.gone (H H' : Nat → Option VObj) : SubHeap (gone H H') H := fun x o h => by
 unfold Go.V.gone at h
 split at h
 ·cases h
 ·exact h
def Frozen (H H' : Nat → Option VObj) (x y : VV) : Prop := y = x ∨ y = .any ∨ ∃ n, sealV (gone H H') n x = some y
def FrozenL (H H' : Nat → Option VObj) : List VV → List VV → Prop
 | [], [] => True
 | x :: xs, y :: ys => Frozen H H' x y ∧ FrozenL H H' xs ys
 | _, _ => False
def FrozenO (H H' : Nat → Option VObj) (o o' : VObj) : Prop := o' = o ∨ ∃ el cs cs', o = .cells el cs ∧ o' = .cells el cs' ∧ FrozenL H H' cs cs'
def Ctx.frz (c : Ctx) (H' : Nat → Option VObj) : Ctx := { c with H := H', A := fun b => c.A b ∨ ∃ β, c.live β ∧ (H' β).isSome = false ∧ c.φ β = b }
section
variable {c : Ctx} {W : World} {H' : Nat → Option VObj}
theorem zix (hl : ∀ β, (H' β).isSome = true → c.live β) : Abides c W (c.frz H') W := ⟨fun _ h => .inl h, fun _ _ => rfl, fun _ h => h, fun β _ h => hl β h, fun _ _ _ => rfl, fun _ _ _ => rfl⟩
theorem zyf (hl : ∀ β, (H' β).isSome = true → c.live β) : Ext c W (c.frz H') W where
 A _ h := .inl h
 newA b h := h.imp id fun ⟨β, h1, _, e⟩ => .inr ⟨β, h1, e⟩
 used _ h := h
 live β _ h := hl β h
 φ _ _ _ := rfl
 room _ _ _ := rfl
 keep _ _ _ := rfl
 old x h _ := ⟨x, hl x h, rfl⟩
 size := Nat.le_refl _
 os := rfl
 tape := rfl
 output := rfl
theorem zul (s : Sim c W) (hl : ∀ β, (H' β).isSome = true → c.live β) {x y : VV} {v : Value} (h : Frozen c.H H' x y) (hr : Rep c W x v) : Rep (c.frz H') W y v := by
 rcases h with rfl | rfl | ⟨n, hn⟩
 ·exact Rep.abides (zix hl) _ hr
 ·unfold Rep; trivial
 ·have h1 := (zjr s (SubHeap.gone c.H H') n).1 x v y hn hr
  refine Rep.abides (zde fun b hb => ?_) _ h1
  rcases hb with hb | ⟨β, hβ, e⟩
  ·exact .inl hb
  ·refine .inr ⟨β, ?_, ?_, e⟩
   ·unfold Go.V.gone at hβ
    split at hβ
    ·cases hβ
    ·exact hβ
   ·cases h0 : (H' β).isSome with
    | false => rfl
    | true => unfold Go.V.gone at hβ; rw [h0] at hβ; cases hβ
theorem ziy (s : Sim c W) (hl : ∀ β, (H' β).isSome = true → c.live β) : ∀ {xs ys : List VV} {l : List Value}, FrozenL c.H H' xs ys → RepL c W xs l → RepL (c.frz H') W ys l
 | [], [], _, _, h => h
 | _ :: _, _ :: _, _, ⟨h1, h2⟩, ⟨u, us, e, r1, r2⟩ => ⟨u, us, e, zul s hl h1 r1, ziy s hl h2 r2⟩
 | [], _ :: _, _, h, _ => h.elim
 | _ :: _, [], _, h, _ => h.elim
theorem FrozenL.length {H H' : Nat → Option VObj} : ∀ {xs ys : List VV}, FrozenL H H' xs ys → ys.length = xs.length
 | [], [], _ => rfl
 | _ :: _, _ :: _, h => by simp [FrozenL.length h.2]
 | [], _ :: _, h => h.elim
 | _ :: _, [], h => h.elim
theorem Sim.frz (s : Sim c W) (ho : ∀ β o', H' β = some o' → ∃ o, c.H β = some o ∧ FrozenO c.H H' o o') (hloop : ∀ x st pe tm ps asg bo df, H' x = some (.loop st pe tm ps asg bo df) → isDef H' df) : Sim (c.frz H') W := by
 have hl : ∀ β, (H' β).isSome = true → c.live β := by
  intro β h
  obtain ⟨o', h'⟩ := Option.isSome_iff_exists.1 h
  obtain ⟨o, h1, _⟩ := ho β o' h'
  simp [Ctx.live, h1]
 have ab : Abides c W (c.frz H') W := zix hl
 refine ⟨fun x h => s.used x (hl x h), fun x ox hx => ?_, fun x h => s.lt x (hl x h), fun x h => ?_, fun x y hx hy e => s.inj x y (hl x hx) (hl y hy) e, fun b hb => ?_⟩
 ·have hx0 : H' x = some ox := hx
  obtain ⟨o, h1, hf⟩ := ho x ox hx0
  rcases hf with rfl | ⟨el, cs, cs', rfl, rfl, hcs⟩
  ·refine (s.obj x _ h1).abides ab (s.used x (hl x (by simp [hx0]))) (by simp [Ctx.live, Ctx.frz, hx0]) rfl ?_
   intro st pe tm ps asg bo df e'
   subst e'
   exact hloop x st pe tm ps asg bo df hx0
  ·obtain ⟨arr, e, a1, a2, a3, a4, a5⟩ := s.obj x _ h1
   exact ⟨arr, e, a1, a2, by rw [hcs.length]; exact a3, by rw [hcs.length]; exact ziy s hl hcs a4, a5⟩
 ·rintro (hA | ⟨β, h1, hn, e⟩)
  ·exact s.notA x (hl x h) hA
  ·have := s.inj β x h1 (hl x h) e
   subst this
   have h' : (H' β).isSome = true := h
   rw [h'] at hn; cases hn
 ·rcases hb with hA | ⟨β, h1, _, e⟩
  ·exact s.ltA b hA
  ·rw [← e]; exact s.lt β h1
end
theorem VWp.freeze {P : Program} {G : Glob} {n : Nat} {code : Code} {Q : VExit → St → Prop} {st : St} (H' : Nat → Option VObj) (tm' : Nat → VV) (ho : ∀ β o', H' β = some o' → ∃ o, st.H β = some o ∧ FrozenO st.H H' o o') (hloop : ∀ x s pe tm ps asg bo df, H' x = some (.loop s pe tm ps asg bo df) → isDef H' df)
  (htm : ∀ t, Frozen st.H H' (st.tm t) (tm' t)) (h : VWp P G n code Q ⟨tm', H', st.nx, st.df⟩) : VWp P G n code Q st := by
 intro ro c W a hro s hr hsz
 have ho' : ∀ β o', H' β = some o' → ∃ o, c.H β = some o ∧ FrozenO c.H H' o o' := by rw [hr.H]; exact ho
 have hl : ∀ β, (H' β).isSome = true → c.live β := by
  intro β h
  obtain ⟨o', h'⟩ := Option.isSome_iff_exists.1 h
  obtain ⟨o, h1, _⟩ := ho' β o' h'
  simp [Ctx.live, h1]
 have he : Ext c W (c.frz H') W := zyf hl
 have ab : Abides c W (c.frz H') W := zix hl
 refine wpIn_mono (h ro (c.frz H') W a (hro.ext he) (s.frz ho' hloop) ⟨rfl, fun t => ?_, hr.nx, hr.df.abides ab, hr.G.abides ab⟩ hsz) fun _ _ _ hl => hl.of_ext he (fun β hb => .inl hb) (Nat.le_refl _)
 exact zul s hl (by rw [hr.H]; exact htm t) (hr.tm t)
end Go.V
end
