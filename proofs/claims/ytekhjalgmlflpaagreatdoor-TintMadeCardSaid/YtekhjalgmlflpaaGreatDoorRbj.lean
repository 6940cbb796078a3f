/- Part of a proof. -/
import Derived.Test.YtekhjalgmlflpaaGreatDoorRbi
set_option linter.all false
set_option maxRecDepth 4000
set_option maxHeartbeats 40000000
section
namespace Go.V
open Go Go.Proofs
def zef (x0_a : Gm) (x1_b : Gm) : Option (Bool) := Option.bind (zee x0_a) (fun r1 => Option.bind (zee x1_b) (fun r2 => Option.bind (zge (List.length r1 : Int) (List.length r2 : Int)) (fun r3 => Option.bind (zes r1 r2) (fun r4 => Option.bind (zlp ([r3, r4])) (fun r5 => some (decide (r5 < 0)))))))
theorem zki (x0_a : Gm) (x1_b : Gm) (R : Bool) (h : zef x0_a x1_b = some R) : VPure Tryz.prog G0 83 [.agg (cGm x0_a), .agg (cGm x1_b)] (.tree (.lit (.bool R))) := by
 refine VPure.runR mixed Tryz.call83 Tryz.func83 rfl (by simp [Tryz.ntmps83]; kernel_rfl) ?_
 obtain ⟨KF, h, kF, kN⟩ := zaq h
 simp only [zef] at h
 simp only [vz, tyf, nm, seval]
 refine zbw (fun tm => tm 2 = .ptr 0 0 ∧ tm 3 = .ptr 1 0 ∧ True) (by refine ⟨?_, ?_, trivial⟩ <;> first | (simp only [ua, nm, seval] <;> rfl) | rfl) ?_
 rintro tm ⟨e6, e7, _⟩
 obtain ⟨r8, o9, h⟩ := optI h kN
 try simp only [hs] at h
 simp only [vz, tyf, e6, e7, nm, seval]
 refine dktA (zea _ _ o9) ?_
 refine zae (fun tm => tm 2 = .ptr 0 0 ∧ tm 3 = .ptr 1 0 ∧ tm 6 = .sl (cellsL eI r8) (List.length r8) false ∧ True) (by refine ⟨e6, e7, ?_, trivial⟩ <;> first | (simp only [ua, e6, e7, nm, seval] <;> rfl) | rfl) ?_
 rintro tm ⟨e10, e11, e12, _⟩
 obtain ⟨r13, o14, h⟩ := optI h kN
 try simp only [hs] at h
 simp only [vz, tyf, e10, e11, e12, nm, seval]
 refine dktA (zea _ _ o14) ?_
 refine zae (fun tm => tm 2 = .ptr 0 0 ∧ tm 3 = .ptr 1 0 ∧ tm 7 = .lit (.int .i64 (List.length r8 : Int)) ∧ tm 9 = .sl (cellsL eI r13) (List.length r13) false ∧ True) (by refine ⟨e10, e11, ?_, ?_, trivial⟩ <;> first | (simp only [ua, e10, e11, e12, nm, seval] <;> rfl) | rfl) ?_
 rintro tm ⟨e15, e16, e17, e18, _⟩
 obtain ⟨r19, o20, h⟩ := optI h kN
 try simp only [hs] at h
 simp only [vz, tyf, e15, e16, e17, e18, nm, seval]
 refine dktA (zid _ _ _ o20) ?_
 refine zae (fun tm => tm 2 = .ptr 0 0 ∧ tm 3 = .ptr 1 0 ∧ tm 11 = .lit (.int .i64 r19) ∧ True) (by refine ⟨e15, e16, ?_, trivial⟩ <;> first | (simp only [ua, e15, e16, e17, e18, nm, seval] <;> rfl) | rfl) ?_
 rintro tm ⟨e21, e22, e23, _⟩
 simp only [vz, tyf, e21, e22, e23, nm, seval]
 refine dktA (zea _ _ o9) ?_
 refine zae (fun tm => tm 3 = .ptr 1 0 ∧ tm 11 = .lit (.int .i64 r19) ∧ tm 13 = .sl (cellsL eI r8) (List.length r8) false ∧ True) (by refine ⟨e22, e23, ?_, trivial⟩ <;> first | (simp only [ua, e21, e22, e23, nm, seval] <;> rfl) | rfl) ?_
 rintro tm ⟨e24, e25, e26, _⟩
 simp only [vz, tyf, e24, e25, e26, nm, seval]
 refine dktA (zea _ _ o14) ?_
 refine zae (fun tm => tm 11 = .lit (.int .i64 r19) ∧ tm 13 = .sl (cellsL eI r8) (List.length r8) false ∧ tm 15 = .sl (cellsL eI r13) (List.length r13) false ∧ True) (by refine ⟨e25, e26, ?_, trivial⟩ <;> first | (simp only [ua, e24, e25, e26, nm, seval] <;> rfl) | rfl) ?_
 rintro tm ⟨e27, e28, e29, _⟩
 obtain ⟨r30, o31, h⟩ := optI h kN
 try simp only [hs] at h
 simp only [vz, tyf, e27, e28, e29, nm, seval]
 refine dktA (zif _ _ _ o31) ?_
 refine zae (fun tm => tm 11 = .lit (.int .i64 r19) ∧ tm 16 = .lit (.int .i64 r30) ∧ True) (by refine ⟨e27, ?_, trivial⟩ <;> first | (simp only [ua, e27, e28, e29, nm, seval] <;> rfl) | rfl) ?_
 rintro tm ⟨e32, e33, _⟩
 obtain ⟨r34, o35, h⟩ := optI h kN
 try simp only [hs] at h
 simp only [vz, tyf, e32, e33, nm, seval]
 refine dkseen1 (w := 1) (enc := eI) (xs := ([r19, r30])) (el := (some 3)) ⟨eI_ok.tree, eI_ok.norm⟩ (fun _ => rfl) (by simp only [List.length_cons, List.length_nil]; decide) (by simp only [zaa, zac, et29, nm, seval] <;> rfl) (zqe _ _ o35) (by first | rfl | simp only [VV.flat, flatL, Bool.and_self]) ?_
 refine zae (fun tm => tm 18 = .lit (.int .i64 r34) ∧ True) (by refine ⟨?_, trivial⟩ <;> first | (simp only [ua, e32, e33, nm, seval] <;> rfl) | rfl) ?_
 rintro tm ⟨e36, _⟩
 simp only [vz, tyf, e36, nm, seval]
 refine zbl ⟨?_, ?_⟩
 ·simp only [zas, zaz, zad, zbz, and_true, true_and]
  repeat' (first | exact trivial | refine And.intro ?_ ?_ | rw [zad] | rw [zbk] | exact Or.inl (by decide +kernel) | exact Or.inl (by dsimp only; decide +kernel) | (refine Or.inr ⟨?_, ?_⟩ <;> simp; done) | (refine Or.inr ⟨?_, ?_⟩ <;> simp <;> omega) | (refine Or.inr ⟨?_, ?_⟩ <;> simp [VEff.wr] <;> omega))
 try simp only [vz, tyf, e36, nm, seval]
 obtain rfl := kF _ h
 exact zab Tryz.results83 rfl
end Go.V
end
section
namespace Go.V
open Go Go.Proofs
theorem ktreeP {P : Program} {G : Glob} {f : FuncId} {args : List VV} {x : VV} {d : Option Tmp} {γ : Nat} {tm : Nat → VV} {H : Nat → Option VObj} {nx : Nat} {df : List VDef} {K : St → Prop} {Qp : VV → St → Prop} (ht : treeL args = true) (hp : VPure P G f args (.tree x)) (h : fin d γ tm H nx df K x .none) : callK P G f args ⟨tm, H, nx, df⟩ d γ K Qp := by
 refine .inl ⟨ht, .tree x, hp, ?_⟩
 rw [← ziv (K := K), zce] at h
 exact h
def zms (s : Gs) : Option (List Int × Int × Int) := Option.bind (zbv s) fun b1 => cond b1
 (Option.bind (zis s) fun L => Option.bind (bestO zhg L (zM, false)) fun r => Option.bind (zdi r.1) fun n => some (r.1.mix, n, 0))
 (some ([], 0, 2))
theorem zsb (s : Gs) (R : List Int × Int × Int) (h : zms s = some R) : VPure Tryz.prog G0 50 [.agg (cGs s)] (.tree (.tup [.sl (cellsL eI R.1) (List.length R.1) false, .lit (.int .i64 R.2.1), .lit (.int .i64 R.2.2)])) := by
 refine VPure.runR mixed Tryz.call50 Tryz.func50 rfl (by simp [Tryz.ntmps50]; kernel_rfl) ?_
 unfold zms at h
 rcases o0 : zbv s with _ | b
 ·rw [o0] at h; cases h
 rw [o0, Option.bind_some] at h
 simp only [vz, tyf, seval, ua, rg]
 refine ktA (zdm _ _ o0) ?_
 cases b with
 | false =>
  simp only [cond_false, Option.some.injEq] at h
  subst h
  simp only [vz, tyf, seval, ua, rg, Bool.not_false]
  refine zay (x := .tup [.lit (.slice none 0 0), .lit (.int .i64 0), .lit (.int .i64 2)]) (by simp only [Tryz.results50, resV, resL, resV1, zba, zcc, uw, cr, tyf, nm, seval] <;> rfl) ?_
  refine zbb (by simp only [tre, tytre]; rfl) ?_
  simp only [outV, nrm, seval, List.map_cons, List.map_nil, zbu, List.length_nil]
 | true =>
 rw [cond_true] at h
 rcases o2 : zis s with _ | L
 ·rw [o2] at h; cases h
 rw [o2, Option.bind_some] at h
 rcases o6 : bestO zhg L (zM, false) with _ | r
 ·rw [o6] at h; cases h
 rw [o6, Option.bind_some] at h
 rcases o7 : zdi r.1 with _ | n
 ·rw [o7] at h; cases h
 rw [o7, Option.bind_some, Option.some.injEq] at h
 have hbo := zyo (bf := 80) (mc := []) (znk s L o2) rfl (better := zhg) (fun a b t ht => zpy a b t ht) r o6
 simp only [vz, tyf, seval, ua, rg, Bool.not_true]
 refine ktA (zrl s) ?_
 simp only [vz, tyf, seval, ua, rg]
 refine ktreeP (by simp only [zjg, zme, zqa]; rfl) hbo ?_
 simp only [vz, tyf, seval, ua, rg]
 refine zeb (fun tm => tm 5 = .ptr 13 0) (by simp only [ua, seval]) ?_
 intro tm e5
 simp only [vz, tyf, seval, ua, rg, e5]
 refine dktA (zfg _ _ o7) ?_
 simp only [vz, tyf, seval, ua, rg, e5]
 subst h
 refine zay (x := .tup [.sl (cellsL eI r.1.mix) r.1.mix.length false, .lit (.int .i64 n), .lit (.int .i64 0)]) (by simp only [Tryz.results50, resV, resL, resV1, zba, zcc, uw, cr, tyf, nm, seval] <;> rfl) ?_
 refine zbb (by simp only [tre, tytre, Bool.and_self]) ?_
 simp only [outV, nrm, seval, List.map_cons, List.map_nil]
def zlu (s : Gs) : Option (List Int × Int) := Option.bind (zbv s) fun b1 => cond b1
 (Option.bind (znp s) fun L => Option.bind (bestO zef L (zM, false)) fun r => cond r.2 (Option.bind (zee r.1) fun n => some (n, 0)) (some ([], 5)))
 (some ([], 2))
theorem zqq (s : Gs) (R : List Int × Int) (h : zlu s = some R) : VPure Tryz.prog G0 55 [.agg (cGs s)] (.tree (.tup [.sl (cellsL eI R.1) (List.length R.1) false, .lit (.int .i64 R.2)])) := by
 refine VPure.runR mixed Tryz.call55 Tryz.func55 rfl (by simp [Tryz.ntmps55]; kernel_rfl) ?_
 unfold zlu at h
 rcases o0 : zbv s with _ | b
 ·rw [o0] at h; cases h
 rw [o0, Option.bind_some] at h
 simp only [vz, tyf, seval, ua, rg]
 refine ktA (zdm _ _ o0) ?_
 cases b with
 | false =>
  simp only [cond_false, Option.some.injEq] at h
  subst h
  simp only [vz, tyf, seval, ua, rg, Bool.not_false]
  refine zay (x := .tup [.lit (.slice none 0 0), .lit (.int .i64 2)]) (by simp only [Tryz.results55, resV, resL, resV1, zba, zcc, uw, cr, tyf, nm, seval] <;> rfl) ?_
  refine zbb (by simp only [tre, tytre]; rfl) ?_
  simp only [outV, nrm, seval, List.map_cons, List.map_nil, zbu, List.length_nil]
 | true =>
 rw [cond_true] at h
 rcases o2 : znp s with _ | L
 ·rw [o2] at h; cases h
 rw [o2, Option.bind_some] at h
 rcases o6 : bestO zef L (zM, false) with _ | r
 ·rw [o6] at h; cases h
 rw [o6, Option.bind_some] at h
 obtain ⟨hp, hi⟩ := zagq s L o2
 have hbo := zyo (bf := 83) (mc := []) hi rfl (better := zef) (fun a b t ht => zki a b t ht) r o6
 simp only [vz, tyf, seval, ua, rg, Bool.not_true]
 refine ktA hp ?_
 simp only [vz, tyf, seval, ua, rg]
 refine ktreeP (by simp only [zjg, zme, zvo]; rfl) hbo ?_
 simp only [vz, tyf, seval, ua, rg]
 obtain ⟨r1, r2⟩ := r
 cases r2 with
 | false =>
  simp only [cond_false, Option.some.injEq] at h
  subst h
  simp only [vz, tyf, seval, nm, ua, rg, Bool.not_false]
  refine zay (x := .tup [.lit (.slice none 0 0), .lit (.int .i64 5)]) (by simp only [Tryz.results55, resV, resL, resV1, zba, zcc, uw, cr, tyf, nm, seval] <;> rfl) ?_
  refine zbb (by simp only [tre, tytre]; rfl) ?_
  simp only [outV, nrm, seval, List.map_cons, List.map_nil, zbu, List.length_nil]
 | true =>
  simp only [cond_true] at h
  rcases o7 : zee r1 with _ | n
  ·rw [o7] at h; cases h
  rw [o7, Option.bind_some, Option.some.injEq] at h
  subst h
  simp only [vz, tyf, seval, nm, ua, rg, Bool.not_true]
  refine ktA (zea _ _ o7) ?_
  simp only [vz, tyf, seval, nm, ua, rg]
  refine zay (x := .tup [.sl (cellsL eI n) n.length false, .lit (.int .i64 0)]) (by simp only [Tryz.results55, resV, resL, resV1, zba, zcc, uw, cr, tyf, nm, seval] <;> rfl) ?_
  refine zbb (by simp only [tre, tytre, Bool.and_self]) ?_
  simp only [outV, nrm, seval, List.map_cons, List.map_nil]
end Go.V
end
section
namespace Go.V
open Go Go.Proofs
def zel (x0_a0 : List Int) (x1_a1 : Int) : Option (Bool) := some true
theorem zju (x0_a0 : List Int) (x1_a1 : Int) (R : Bool) (h : zel x0_a0 x1_a1 = some R) : VPure Tryz.prog G0 124 [.sl (cellsL eI x0_a0) (List.length x0_a0) false, .lit (.int .i64 x1_a1)] (.tree (.lit (.bool R))) := by
 refine VPure.runR mixed Tryz.call124 Tryz.func124 rfl (by simp [Tryz.ntmps124]; kernel_rfl) ?_
 obtain ⟨KF, h, kF, kN⟩ := zaq h
 simp only [zel] at h
 try simp only [vz, tyf, nm, seval]
 obtain rfl := kF _ h
 exact zab Tryz.results124 rfl
end Go.V
end
section
namespace Go.V
open Go Go.Proofs
abbrev sD (x : Gi) : VV := .agg (cGi x)
def dirL : List (List Int) → Option (List Gi)
 | [] => some []
 | [a, b, c] :: L => Option.bind (dirL L) fun r => some (⟨IntKind.i64.wrap (a - 2), IntKind.i64.wrap (b - 2), IntKind.i64.wrap (c - 2)⟩ :: r)
 | _ => none
def zzz : Option (List Gi) := Option.bind (listsO (fun l j => zel l j) 5 3 []) dirL
def itD : VV := .fn (.func 123) [] []
def itDL : VV := .fn (.func 138) [] [.tp [.lit (.int .i64 3)], .tp [.lit (.int .i64 5)], .tp [.fn (.func 124) [] []]]
theorem zaoy : VPure Tryz.prog G0 104 [] (.tree itD) := by
 refine VPure.run mixed Tryz.call104 Tryz.func104 rfl (by simp [Tryz.ntmps104]; kernel_rfl) ?_
 simp only [vz, tyf, seval, ua, rg]
 exact ⟨rfl, itD, by simp [Tryz.results104, resV, resL, resV1, upd]; rfl, 20, rfl⟩
theorem zahd {e : List Int} {p : List (List Int)} {r : List Gi} (h : dirL (e :: p) = some r) : ∃ a b c r', e = [a, b, c] ∧ dirL p = some r' ∧ r = ⟨IntKind.i64.wrap (a - 2), IntKind.i64.wrap (b - 2), IntKind.i64.wrap (c - 2)⟩ :: r' := by
 match e, h with
 | [a, b, c], h =>
  simp only [dirL] at h
  rcases hr : dirL p with _ | r'
  ·rw [hr] at h; cases h
  rw [hr, Option.bind_some, Option.some.injEq] at h
  exact ⟨a, b, c, r', rfl, rfl, h.symm⟩
 | [], h => cases h
 | [_], h => cases h
 | [_, _], h => cases h
 | _ :: _ :: _ :: _ :: _, h => cases h
theorem zahn (R : List Gi) (h : zzz = some R) : Iter Tryz.prog G0 itD (R.map sD) := by
 unfold zzz at h
 rcases hL : listsO (fun l j => zel l j) 5 3 [] with _ | L
 ·rw [hL] at h; cases h
 rw [hL, Option.bind_some] at h
 have hit : Iter Tryz.prog G0 itDL (L.map sI) := zvd (ln := 3) (lim := 5) (mc := []) rfl (by omega) (by omega) (by omega) hL (fun p j b hb => zju p j b hb)
 refine ⟨123, [], [], rfl, fun β I hst hr H nx hβ hI => ?_⟩
 refine VOpen.run mixed Tryz.call123 Tryz.func123 rfl (by simp [Tryz.ntmps123]; kernel_rfl) ?_
 simp only [List.nil_append, List.cons_append, argsTm1, vz, tyf, seval, ua, rg]
 refine ktree (args0 := [.lit (.int .i64 3), .lit (.int .i64 5), .fn (.func 124) [] []]) (by simp only [nrm, tynrm, zacu] <;> rfl) rfl (zaen (mc := []) (mf := 124) rfl) ?_
 simp only [vz, tyf, seval, ua, rg]
 refine zmu (fun tm => tm 5 = itDL ∧ tm 1 = .ptr nx 0) (by refine ⟨?_, ?_⟩ <;> simp only [ua, seval, Nat.add_zero] <;> rfl) ?_
 rintro tm ⟨e5, e1⟩
 refine zhw hit (by first | (simp only [zpn, zkq, e5, zgf, seval] <;> rfl) | rfl) ?_
 intro LO hLO
 obtain ⟨J, hJ⟩ : ∃ J : Option (List VV) → Option (List VV) → List (Nat × VObj) → Prop, J = (fun o o' hp => match o with
  | some l => ∃ (p : List (List Int)) (L2 : List Gi), l = p.map sI ∧ dirL p = some L2 ∧ o' = some (L2.map sD) ∧ hp = [(nx, .cells (some 162) [.yl β]), (nx + 4, .deferred (some [])), (nx + 5, LO)]
  | none => ∃ LD : Code → VObj, (∃ tml ps az bo d, LD = fun c => VObj.loop .done (some c) tml ps az bo d) ∧ o' = none ∧ hp = [(nx, .cells (some 162) [.yl β]), (nx + 4, .deferred (some [])), (nx + 5, LD .ret)]) := ⟨_, rfl⟩
 have hfr : ∀ (O : VObj) γ, (∃ q ∈ [(nx, .cells (some 162) [.yl β]), (nx + 4, .deferred (some [])), (nx + 5, O)], (q : Nat × VObj).1 = γ) ↔ γ = nx ∨ γ = nx + 4 ∨ γ = nx + 5 := by
  intro O γ
  simp [eq_comm]
 refine ⟨ownI2 I J, zlm hst, ?_, ?_, ?_⟩
 ·rintro v rest Fr H1 nx1 hFr ⟨hp, o', hown, hj, hi⟩
  rw [hJ] at hj
  obtain ⟨p, L2, hl, hf, rfl, rfl⟩ := hj
  cases p with
  | nil => cases hl
  | cons e p =>
  simp only [List.map_cons, List.cons.injEq] at hl
  obtain ⟨rfl, rfl⟩ := hl
  obtain ⟨a, b, c, L3, rfl, hf2, rfl⟩ := zahd hf
  obtain ⟨la, na, Ha⟩ := hown.head
  obtain ⟨lb, nb, Hb⟩ := hown.tail.head
  obtain ⟨lc, nc, Hc⟩ := hown.tail.tail.head
  simp only [hfr] at hi
  refine zgv mixed (psl := [6]) hLO Hc zht rfl (by kernel_rfl) (by kernel_rfl) ?_
  intro LB LD hLB hLD
  refine zjv (fun tm => tm 6 = sI [a, b, c] ∧ tm 1 = .ptr nx 0) (by refine ⟨?_, ?_⟩ <;> simp only [zlx, zjz, Tryz.ntmps123, e1, seval]) ?_
  clear e5 e1
  rintro tm ⟨e6, e1⟩
  have i0 : getI [a, b, c] 0 = some a := rfl
  have i1 : getI [a, b, c] 1 = some b := rfl
  have i2 : getI [a, b, c] 2 = some c := rfl
  have hne : (nx = nx + 5) = False := by simp
  simp only [vz, tyf, seval, ua, nm, rg, RStart, e6, e1, Ha, Hc, hne]
  refine zmu (fun tm => tm 3 = sI [a, b, c] ∧ tm 1 = .ptr nx 0) (by refine ⟨?_, ?_⟩ <;> simp only [ua, seval, e6, e1]) ?_
  clear e6 e1
  rintro tm ⟨e3, e1⟩
  refine zzi mixed 14 rfl rfl rfl (by kernel_rfl) ?_
  simp only [vz, tyf, seval, ua, nm, rg, e3, e1, Ha, hne, (ix29 i0), (ix29 i1), (ix29 i2)]
  obtain ⟨D, hD⟩ : ∃ D : Gi, D = ⟨IntKind.i64.wrap (a - 2), IntKind.i64.wrap (b - 2), IntKind.i64.wrap (c - 2)⟩ := ⟨_, rfl⟩
  rw [← hD] at hi
  have hDc : sD D = VV.agg [.lit (.int .i64 (IntKind.i64.wrap (a - 2))), .lit (.int .i64 (IntKind.i64.wrap (b - 2))), .lit (.int .i64 (IntKind.i64.wrap (c - 2)))] := by rw [hD]; rfl
  rw [← hDc]
  have hi2 : I (some (sD D :: L3.map sD)) (fun γ => Fr γ ∨ γ = nx ∨ γ = nx + 4 ∨ γ = nx + 5) (updH H1 (nx + 5) LB) (nx1 + 17) := by
   refine hst _ _ _ _ _ _ _ hi ?_ (by omega) (fun γ h => .inl h)
   intro γ _ hn
   have g3 : γ ≠ nx + 5 := fun e => hn (.inr (.inr (.inr e)))
   simp only [updH]
   rw [if_neg g3]
  refine (hr (sD D) (L3.map sD) _ _ _ ?_ hi2) (some (some (nx + 5))) _ _ _ rfl rfl ?_
  ·rintro γ (hγ | rfl | rfl | rfl)
   ·have := hFr γ hγ; omega
   ·omega
   ·omega
   ·omega
  rintro t H2 nx2 ⟨q1, q2, q3⟩
  have Ka : H2 nx = some (.cells (some 162) [.yl β]) := by
   rw [q2 nx (.inr (.inl rfl))]
   simp only [updH]
   rw [if_neg (by omega)]
   exact Ha
  have Kb : H2 (nx + 4) = some (.deferred (some [])) := by
   rw [q2 _ (.inr (.inr (.inl rfl)))]
   simp only [updH]
   rw [if_neg (by omega)]
   exact Hb
  have Kc : H2 (nx + 5) = some LB := by
   rw [q2 _ (.inr (.inr (.inr rfl)))]
   simp only [zaa, seval]
  have KF : ∀ γ, Fr γ → H2 γ = H1 γ := by
   intro γ hγ
   have g3 : γ ≠ nx + 5 := fun e => nc (e ▸ hγ)
   rw [q2 γ (.inl hγ)]
   simp only [updH]
   rw [if_neg g3]
  have KO : ∀ (O : VObj), Own [(nx, .cells (some 162) [.yl β]), (nx + 4, .deferred (some [])), (nx + 5, O)] Fr (updH H2 (nx + 5) O) nx2 := by
   intro O
   refine Own.cons (show nx < nx2 by omega) na ?_ (Own.cons (show nx + 4 < nx2 by omega) nb ?_ (Own.cons (show nx + 5 < nx2 by omega) nc ?_ Own.nil))
   ·simp only [updH]
    rw [if_neg (by omega)]
    exact Ka
   ·simp only [updH]
    rw [if_neg (by omega)]
    exact Kb
   ·simp only [zaa, seval]
  cases t with
  | true =>
   simp only [vz, tyf, seval, ua, nm, rg, Bool.not_true]
   refine ⟨Kc, (show nx1 ≤ nx2 by omega), fun γ hγ => ?_, ?_⟩
   ·have g3 : γ ≠ nx + 5 := fun e => nc (e ▸ hγ)
    simp only [updH]
    rw [if_neg g3]
    exact KF γ hγ
   ·simp only [if_true] at q3 ⊢
    refine ⟨_, _, KO LO, by rw [hJ]; exact ⟨p, L3, rfl, hf2, rfl, rfl⟩, ?_⟩
    simp only [hfr]
    refine hst _ _ _ _ _ _ _ q3 ?_ (by omega) (fun γ h => .inl h)
    intro γ _ hn
    have g3 : γ ≠ nx + 5 := fun e => hn (.inr (.inr (.inr e)))
    simp only [updH]
    rw [if_neg g3]
  | false =>
   simp only [vz, tyf, seval, ua, nm, rg, Bool.not_false]
   refine ⟨Kc, (show nx1 ≤ nx2 by omega), fun γ hγ => ?_, ?_⟩
   ·have g3 : γ ≠ nx + 5 := fun e => nc (e ▸ hγ)
    simp only [updH]
    rw [if_neg g3]
    exact KF γ hγ
   ·simp only [Bool.false_eq_true, if_false] at q3 ⊢
    refine ⟨_, _, KO (LD .ret), by rw [hJ]; exact ⟨LD, ⟨_, _, _, _, _, hLD⟩, rfl, rfl⟩, ?_⟩
    simp only [hfr]
    refine hst _ _ _ _ _ _ _ q3 ?_ (by omega) (fun γ h => .inl h)
    intro γ _ hn
    have g3 : γ ≠ nx + 5 := fun e => hn (.inr (.inr (.inr e)))
    simp only [updH]
    rw [if_neg g3]
 ·refine ⟨_, _, ?_, by rw [hJ]; exact ⟨L, R, rfl, h, rfl, rfl⟩, ?_⟩
  ·refine Own.cons (show nx < nx + 4 + 2 by omega) (fun h => h) ?_ (Own.cons (show nx + 4 < nx + 4 + 2 by omega) (fun h => h) ?_ (Own.cons (show nx + 5 < nx + 4 + 2 by omega) (fun h => h) ?_ Own.nil))
   ·simp only [updH]
    rw [if_neg (by omega), if_neg (by omega)]
    simp
   ·simp only [updH]
    simp
   ·simp only [updH]
    simp
  ·simp only [hfr]
   refine hst _ _ _ _ _ _ _ hI ?_ (by omega) ?_
   ·intro γ hγ _
    simp only [updH]
    repeat rw [if_neg (by omega)]
   ·rintro γ (h | rfl | rfl | rfl)
    ·exact h.elim
    ·right; omega
    ·right; omega
    ·right; omega
 ·rintro H' nx' (⟨hp, o', hown, hj, hi⟩ | ⟨hp, o', hown, hj, hi⟩)
  ·rw [hJ] at hj
   obtain ⟨p, L2, hl, hf, rfl, rfl⟩ := hj
   cases p with
   | cons e p => cases hl
   | nil =>
   simp only [dirL, Option.some.injEq] at hf
   subst hf
   obtain ⟨la, na, Ha⟩ := hown.head
   obtain ⟨lb, nb, Hb⟩ := hown.tail.head
   obtain ⟨lc, nc, Hc⟩ := hown.tail.tail.head
   simp only [hfr] at hi
   refine zgm hLO Hc ?_
   intro LX
   simp only [vz, tyf, seval, ua, nm, rg]
   refine zsv (by simp only [zaa, nm, seval, Hb]) ?_
   refine zkl (x := .tup []) (by simp [Tryz.results123, resV, resL]) (.inl ?_)
   refine hst _ _ _ _ _ _ _ hi ?_ (Nat.le_refl _) (fun γ h => h.elim)
   intro γ _ hn
   have g2 : γ ≠ nx + 4 := fun e => hn (.inr (.inr (.inl e)))
   have g3 : γ ≠ nx + 5 := fun e => hn (.inr (.inr (.inr e)))
   simp only [updH]
   repeat rw [if_neg (by first | assumption | omega)]
  ·rw [hJ] at hj
   obtain ⟨LD, ⟨tml, ps, az, bo, d, hLD⟩, rfl, rfl⟩ := hj
   obtain ⟨la, na, Ha⟩ := hown.head
   obtain ⟨lb, nb, Hb⟩ := hown.tail.head
   obtain ⟨lc, nc, Hc⟩ := hown.tail.tail.head
   simp only [hfr] at hi
   refine zhv hLD Hc ?_
   intro LX
   simp only [vz, tyf, seval, ua, nm, rg]
   refine ziq (by simp only [zaa, nm, seval, Hb]) ?_
   refine zay (x := .tup []) (by simp [Tryz.results123, resV, resL]) (.inr ?_)
   refine hst _ _ _ _ _ _ _ hi ?_ (Nat.le_refl _) (fun γ h => h.elim)
   intro γ _ hn
   have g2 : γ ≠ nx + 4 := fun e => hn (.inr (.inr (.inl e)))
   have g3 : γ ≠ nx + 5 := fun e => hn (.inr (.inr (.inr e)))
   simp only [updH]
   repeat rw [if_neg (by first | assumption | omega)]
end Go.V
end
section
namespace Go.V
open Go Go.Proofs
def zcm (x0_d : Gi) (x1_amounts : Ga) : Option (GSpan) := some (GSpan.mk (IntKind.i64.wrap ((IntKind.i64.wrap ((IntKind.i64.wrap (0 + (if (IntKind.i64.wrap (x0_d.a0 * x1_amounts.a0.High)) < (IntKind.i64.wrap (x0_d.a0 * x1_amounts.a0.Low)) then (IntKind.i64.wrap (x0_d.a0 * x1_amounts.a0.High)) else (IntKind.i64.wrap (x0_d.a0 * x1_amounts.a0.Low))))) + (if (IntKind.i64.wrap (x0_d.a1 * x1_amounts.a1.High)) < (IntKind.i64.wrap (x0_d.a1 * x1_amounts.a1.Low)) then (IntKind.i64.wrap (x0_d.a1 * x1_amounts.a1.High)) else (IntKind.i64.wrap (x0_d.a1 * x1_amounts.a1.Low))))) + (if (IntKind.i64.wrap (x0_d.a2 * x1_amounts.a2.High)) < (IntKind.i64.wrap (x0_d.a2 * x1_amounts.a2.Low)) then (IntKind.i64.wrap (x0_d.a2 * x1_amounts.a2.High)) else (IntKind.i64.wrap (x0_d.a2 * x1_amounts.a2.Low))))) (IntKind.i64.wrap ((IntKind.i64.wrap ((IntKind.i64.wrap (0 + (if (IntKind.i64.wrap (x0_d.a0 * x1_amounts.a0.Low)) < (IntKind.i64.wrap (x0_d.a0 * x1_amounts.a0.High)) then (IntKind.i64.wrap (x0_d.a0 * x1_amounts.a0.High)) else (IntKind.i64.wrap (x0_d.a0 * x1_amounts.a0.Low))))) + (if (IntKind.i64.wrap (x0_d.a1 * x1_amounts.a1.Low)) < (IntKind.i64.wrap (x0_d.a1 * x1_amounts.a1.High)) then (IntKind.i64.wrap (x0_d.a1 * x1_amounts.a1.High)) else (IntKind.i64.wrap (x0_d.a1 * x1_amounts.a1.Low))))) + (if (IntKind.i64.wrap (x0_d.a2 * x1_amounts.a2.Low)) < (IntKind.i64.wrap (x0_d.a2 * x1_amounts.a2.High)) then (IntKind.i64.wrap (x0_d.a2 * x1_amounts.a2.High)) else (IntKind.i64.wrap (x0_d.a2 * x1_amounts.a2.Low))))))
theorem zfz (x0_d : Gi) (x1_amounts : Ga) (R : GSpan) (h : zcm x0_d x1_amounts = some R) : VPure Tryz.prog G0 105 [.agg (cGi x0_d), .agg (cGa x1_amounts)] (.tree (.agg (cGSpan R))) := by
 refine VPure.runR mixed Tryz.call105 Tryz.func105 rfl (by simp [Tryz.ntmps105]; kernel_rfl) ?_
 obtain ⟨KF, h, kF, kN⟩ := zaq h
 simp only [zcm] at h
 simp only [vz, tyf, nm, seval]
 refine zfj mixed (by kernel_rfl) 4 ?_
 simp only [vz, tyf, nm, seval]
 refine zeb (fun tm => tm 3 = .ptr 1 0 ∧ tm 4 = .ptr 2 0 ∧ tm 5 = .ptr 3 0 ∧ tm 6 = .lit (.int .i64 0) ∧ tm 7 = .lit (.int .i64 x0_d.a0) ∧ tm 10 = .agg (cGi x0_d) ∧ tm 11 = .lit (.int .i64 0) ∧ True) (by refine ⟨?_, ?_, ?_, ?_, ?_, ?_, ?_, trivial⟩ <;> first | (simp only [ua, nm, seval] <;> rfl) | rfl) ?_
 rintro tm ⟨e1, e2, e3, e4, e5, e6, e7, _⟩
 simp only [vz, tyf, e1, e2, e3, e4, e5, e6, e7, nm, seval]
 refine zeb (fun tm => tm 3 = .ptr 1 0 ∧ tm 4 = .ptr 2 0 ∧ tm 5 = .ptr 3 0 ∧ tm 6 = .lit (.int .i64 1) ∧ tm 7 = .lit (.int .i64 x0_d.a1) ∧ tm 10 = .agg (cGi x0_d) ∧ tm 11 = .lit (.int .i64 1) ∧ True) (by refine ⟨e1, e2, e3, ?_, ?_, e6, ?_, trivial⟩ <;> first | (simp only [ua, e1, e2, e3, e4, e5, e6, e7, nm, seval] <;> rfl) | rfl) ?_
 rintro tm ⟨e8, e9, e10, e11, e12, e13, e14, _⟩
 simp only [vz, tyf, e8, e9, e10, e11, e12, e13, e14, nm, seval]
 refine zeb (fun tm => tm 3 = .ptr 1 0 ∧ tm 4 = .ptr 2 0 ∧ tm 5 = .ptr 3 0 ∧ tm 6 = .lit (.int .i64 2) ∧ tm 7 = .lit (.int .i64 x0_d.a2) ∧ tm 10 = .agg (cGi x0_d) ∧ tm 11 = .lit (.int .i64 2) ∧ True) (by refine ⟨e8, e9, e10, ?_, ?_, e13, ?_, trivial⟩ <;> first | (simp only [ua, e8, e9, e10, e11, e12, e13, e14, nm, seval] <;> rfl) | rfl) ?_
 rintro tm ⟨e15, e16, e17, e18, e19, e20, e21, _⟩
 try simp only [vz, tyf, e15, e16, e17, e18, e19, e20, e21, nm, seval]
 refine zay (x := (.agg ([.lit (.int .i64 (IntKind.i64.wrap ((IntKind.i64.wrap ((IntKind.i64.wrap (0 + (if (IntKind.i64.wrap (x0_d.a0 * x1_amounts.a0.High)) < (IntKind.i64.wrap (x0_d.a0 * x1_amounts.a0.Low)) then (IntKind.i64.wrap (x0_d.a0 * x1_amounts.a0.High)) else (IntKind.i64.wrap (x0_d.a0 * x1_amounts.a0.Low))))) + (if (IntKind.i64.wrap (x0_d.a1 * x1_amounts.a1.High)) < (IntKind.i64.wrap (x0_d.a1 * x1_amounts.a1.Low)) then (IntKind.i64.wrap (x0_d.a1 * x1_amounts.a1.High)) else (IntKind.i64.wrap (x0_d.a1 * x1_amounts.a1.Low))))) + (if (IntKind.i64.wrap (x0_d.a2 * x1_amounts.a2.High)) < (IntKind.i64.wrap (x0_d.a2 * x1_amounts.a2.Low)) then (IntKind.i64.wrap (x0_d.a2 * x1_amounts.a2.High)) else (IntKind.i64.wrap (x0_d.a2 * x1_amounts.a2.Low))))))] ++ [.lit (.int .i64 (IntKind.i64.wrap ((IntKind.i64.wrap ((IntKind.i64.wrap (0 + (if (IntKind.i64.wrap (x0_d.a0 * x1_amounts.a0.Low)) < (IntKind.i64.wrap (x0_d.a0 * x1_amounts.a0.High)) then (IntKind.i64.wrap (x0_d.a0 * x1_amounts.a0.High)) else (IntKind.i64.wrap (x0_d.a0 * x1_amounts.a0.Low))))) + (if (IntKind.i64.wrap (x0_d.a1 * x1_amounts.a1.Low)) < (IntKind.i64.wrap (x0_d.a1 * x1_amounts.a1.High)) then (IntKind.i64.wrap (x0_d.a1 * x1_amounts.a1.High)) else (IntKind.i64.wrap (x0_d.a1 * x1_amounts.a1.Low))))) + (if (IntKind.i64.wrap (x0_d.a2 * x1_amounts.a2.Low)) < (IntKind.i64.wrap (x0_d.a2 * x1_amounts.a2.High)) then (IntKind.i64.wrap (x0_d.a2 * x1_amounts.a2.High)) else (IntKind.i64.wrap (x0_d.a2 * x1_amounts.a2.Low))))))]))) (by first | (simp only [Tryz.results105, resV, resL, resV1, zba, zcc, uw, cr, tyf, e15, e16, e17, e18, e19, e20, e21, nm, seval] <;> rfl) | rfl) ?_
 obtain rfl := kF _ h
 refine zbb ?_ ?_
 ·simp only [tre, tytre, Bool.and_self]
 ·first | (simp only [outV, uw, zaf, cr, tyf, nrm, tynrm, e15, e16, e17, e18, e19, e20, e21, nm, seval] <;> rfl) | rfl
end Go.V
end
section
namespace Go.V
open Go Go.Proofs
def zek (x0_d : Gi) : Option (Int) := some (IntKind.i64.wrap ((IntKind.i64.wrap ((IntKind.i64.wrap (0 + (if x0_d.a0 < (IntKind.i64.wrap (-x0_d.a0)) then (IntKind.i64.wrap (-x0_d.a0)) else x0_d.a0))) + (if x0_d.a1 < (IntKind.i64.wrap (-x0_d.a1)) then (IntKind.i64.wrap (-x0_d.a1)) else x0_d.a1))) + (if x0_d.a2 < (IntKind.i64.wrap (-x0_d.a2)) then (IntKind.i64.wrap (-x0_d.a2)) else x0_d.a2)))
theorem zjm (x0_d : Gi) (R : Int) (h : zek x0_d = some R) : VPure Tryz.prog G0 106 [.agg (cGi x0_d)] (.tree (.lit (.int .i64 R))) := by
 refine VPure.runR mixed Tryz.call106 Tryz.func106 rfl (by simp [Tryz.ntmps106]; kernel_rfl) ?_
 obtain ⟨KF, h, kF, kN⟩ := zaq h
 simp only [zek] at h
 simp only [vz, qr, tyf, nm, seval]
 refine zfj mixed (by kernel_rfl) 4 ?_
 try simp only [vz, qr, tyf, nm, seval]
 refine zay (x := (.lit (.int .i64 (IntKind.i64.wrap ((IntKind.i64.wrap ((IntKind.i64.wrap (0 + (if x0_d.a0 < (IntKind.i64.wrap (-x0_d.a0)) then (IntKind.i64.wrap (-x0_d.a0)) else x0_d.a0))) + (if x0_d.a1 < (IntKind.i64.wrap (-x0_d.a1)) then (IntKind.i64.wrap (-x0_d.a1)) else x0_d.a1))) + (if x0_d.a2 < (IntKind.i64.wrap (-x0_d.a2)) then (IntKind.i64.wrap (-x0_d.a2)) else x0_d.a2)))))) (by first | (simp only [Tryz.results106, resV, resL, resV1, zba, zcc, uw, cr, tyf, nm, seval] <;> rfl) | rfl) ?_
 obtain rfl := kF _ h
 refine zbb ?_ ?_
 ·simp only [tre, tytre, Bool.and_self]
 ·first | (simp only [outV, uw, zaf, cr, tyf, nrm, tynrm, nm, seval] <;> rfl) | rfl
end Go.V
end
section
namespace Go.V
open Go Go.Proofs
theorem zafg {a b : VV} : vfield Tryz.prog 24 (.agg [a, b]) 0 = some a := by
 have h1 : aggT Tryz.prog 3 = some false := by kernel_rfl
 have h2 : szT Tryz.prog 3 = some 1 := by kernel_rfl
 simp [vfield, Tryz.underlying24, vpart, h1, h2]
theorem zaff {a b : VV} : vfield Tryz.prog 24 (.agg [a, b]) 1 = some b := by
 have h1 : aggT Tryz.prog 3 = some false := by kernel_rfl
 have h2 : szT Tryz.prog 3 = some 1 := by kernel_rfl
 simp [vfield, Tryz.underlying24, vpart, h1, h2]
def fdL (s : Gs) (am : Ga) (d : Gi) : List Gt → Option Bool
 | [] => some true
 | t :: p => Option.bind (zcm d t.pg) fun v => Option.bind (zek d) fun z => Option.bind (zcm d am) fun w => cond (decide (IntKind.i64.wrap (v.High + IntKind.i64.wrap (s.Off * z)) ≥ w.Low)) (some false) (fdL s am d p)
def fdirL (s : Gs) (am : Ga) : List Gi → Option (Gi × Bool)
 | [] => some (⟨0, 0, 0⟩, false)
 | d :: L => Option.bind (fdL s am d s.Tins) fun t => cond t (some (d, true)) (fdirL s am L)
def zfr (s : Gs) : Option (Gi × Bool) := Option.bind (zgr s) fun am => Option.bind zzz fun L => cond (lenOk s.Tins) (fdirL s am L) none
theorem zjj (s : Gs) (R : Gi × Bool) (h : zfr s = some R) : VPure Tryz.prog G0 73 [.agg (cGs s)] (.tree (.tup [.agg (cGi R.1), .lit (.bool R.2)])) := by
 refine VPure.runR mixed Tryz.call73 Tryz.func73 rfl (by simp [Tryz.ntmps73]; kernel_rfl) ?_
 unfold zfr at h
 rcases o1 : zgr s with _ | am
 ·rw [o1] at h; cases h
 rw [o1, Option.bind_some] at h
 rcases o2 : zzz with _ | L
 ·rw [o2] at h; cases h
 rw [o2, Option.bind_some] at h
 cases o3 : lenOk s.Tins with
 | false => rw [o3] at h; cases h
 | true =>
 rw [o3, cond_true] at h
 have hi := zahn L o2
 simp only [vz, tyf, seval, ua, rg]
 refine zzc mixed (by kernel_rfl) ?_
 simp only [vz, tyf, seval, ua, rg]
 refine ktA (zii _ _ o1) ?_
 simp only [vz, tyf, seval, ua, rg]
 refine ktree (args0 := []) (by simp only [nrm]) rfl zaoy ?_
 refine zae (fun tm => tm 1 = .ptr 0 0 ∧ tm 2 = .ptr 1 0 ∧ tm 3 = .ptr 2 0 ∧ tm 4 = .ptr 5 0 ∧ tm 10 = itD) (by refine ⟨?_, ?_, ?_, ?_, ?_⟩ <;> simp only [ua, seval]) ?_
 rintro tm ⟨e1, e2, e3, e4, e10⟩
 simp only [vz, tyf, seval, ua, rg]
 refine zhw hi (by first | (simp only [zpn, zkq, e10, zgf, seval] <;> rfl) | rfl) ?_
 intro LO hLO
 obtain ⟨J, hJ⟩ : ∃ J : Option (List VV) → List (Nat × VObj) → Prop, J = (fun o hp => match o with
  | some l => ∃ p : List Gi, l = p.map sD ∧ hp = [(8, .deferred (some [])), (9, LO), (0, .cells (some 28) (cGs s)), (1, .cells (some 99) (cGi ⟨0, 0, 0⟩)), (2, .cells (some 4) [.lit (.bool false)]), (5, .cells (some 25) (cGa am))] ∧ fdirL s am p = some R
  | none => ∃ LD : Code → VObj, (∃ tml ps az bo d, LD = fun c => VObj.loop .done (some c) tml ps az bo d) ∧ hp = [(8, .deferred (some [])), (9, LD .ret), (0, .cells (some 28) (cGs s)), (1, .cells (some 99) (cGi R.1)), (2, .cells (some 4) [.lit (.bool true)]), (5, .cells (some 25) (cGa am))] ∧ R.2 = true) := ⟨_, rfl⟩
 refine ⟨ownI J, zle, ?_, ?_, ?_⟩
 ·rintro v rest Fr H nx hFr ⟨hp, hown, hj⟩
  rw [hJ] at hj
  obtain ⟨p, hl, rfl, hR⟩ := hj
  cases p with
  | nil => cases hl
  | cons d p =>
  simp only [List.map_cons, List.cons.injEq] at hl
  obtain ⟨rfl, rfl⟩ := hl
  obtain ⟨l8, n8, H8⟩ := hown.head
  obtain ⟨l9, n9, H9⟩ := hown.tail.head
  obtain ⟨l0, n0, H0⟩ := hown.tail.tail.head
  obtain ⟨l1, n1, H1⟩ := hown.tail.tail.tail.head
  obtain ⟨l2, n2, H2⟩ := hown.tail.tail.tail.tail.head
  obtain ⟨l5, n5, H5⟩ := hown.tail.tail.tail.tail.tail.head
  refine zgv mixed (psl := [11]) hLO H9 zht rfl (by kernel_rfl) (by kernel_rfl) ?_
  intro LB LD hLB hLD
  refine zjv (fun tm => tm 1 = .ptr 0 0 ∧ tm 2 = .ptr 1 0 ∧ tm 3 = .ptr 2 0 ∧ tm 4 = .ptr 5 0 ∧ tm 11 = sD d) (by refine ⟨?_, ?_, ?_, ?_, ?_⟩ <;> simp only [zlx, zjz, Tryz.ntmps73, e1, e2, e3, e4, seval]) ?_
  clear e1 e2 e3 e4 e10
  rintro tm ⟨e1, e2, e3, e4, e11⟩
  have m1 : (9 = nx) = False := by simp; omega
  have m2 : (nx = 9) = False := by simp; omega
  have m3 : (0 = nx) = False := by simp; omega
  have m4 : (nx = 0) = False := by simp; omega
  simp only [vz, tyf, seval, ua, nm, rg, RStart, e1, e2, e3, e4, e11, H9, H0, Nat.add_zero, m1, m2, m3, m4]
  unfold fdirL at hR
  rcases hT : fdL s am d s.Tins with _ | t
  ·rw [hT] at hR; cases hR
  rw [hT, Option.bind_some] at hR
  obtain ⟨I0, hI0⟩ : ∃ I0 : Nat → St → Prop, I0 = (fun m st => ∃ (q : List Gt) (c : Int), m = q.length ∧ 0 ≤ c ∧ List.drop (Int.toNat c) s.Tins = q ∧ st.df = [] ∧ nx + 6 ≤ st.nx ∧ (∀ γ, γ < nx → st.H γ = updH H 9 LB γ) ∧ st.H nx = some (.cells (some 99) (cGi d)) ∧
   st.tm 1 = .ptr 0 0 ∧ st.tm 2 = .ptr 1 0 ∧ st.tm 3 = .ptr 2 0 ∧ st.tm 4 = .ptr 5 0 ∧ st.tm 5 = .ptr nx 0 ∧ st.tm 13 = .sl (cellsL cGt s.Tins) (List.length s.Tins) false ∧ st.tm 14 = .lit (.int .i64 (List.length s.Tins)) ∧ st.tm 15 = .lit (.int .i64 c) ∧ fdL s am d q = some t) := ⟨_, rfl⟩
  refine loopK mixed (by kernel_rfl) I0 (List.length s.Tins) (by
   rw [hI0]
   refine ⟨s.Tins, 0, rfl, Int.le_refl _, rfl, rfl, (by show nx + 6 ≤ nx + 6; omega), ?_, ?_, ?_, ?_, ?_, ?_, ?_, ?_, ?_, ?_, hT⟩
   ·intro γ hγ
    simp only [updH]
    by_cases g9 : γ = 9
    ·rw [if_pos g9, if_pos g9]
    ·rw [if_neg g9, if_neg (by omega), if_neg (by omega), if_neg g9]
   ·simp only [zaa, Nat.add_zero, m1, m2, seval] <;> rfl
   all_goals simp only [ua, seval, e1, e2, e3, e4]) ?_
  rintro m ⟨tm, K, kx, df⟩ hinv
  rw [hI0] at hinv
  obtain ⟨q, c, rfl, hc, hq, hdf, hkx, hK, Kx, f1, f2, f3, f4, f5, f13, f14, f15, hT2⟩ := hinv
  simp only at hdf hkx hK Kx f1 f2 f3 f4 f5 f13 f14 f15
  subst hdf
  have K0 : K 0 = some (.cells (some 28) (cGs s)) := by
   rw [hK 0 (by omega)]
   simp only [updH]
   rw [if_neg (by omega)]
   exact H0
  have K5 : K 5 = some (.cells (some 25) (cGa am)) := by
   rw [hK 5 (by omega)]
   simp only [updH]
   rw [if_neg (by omega)]
   exact H5
  have K8 : K 8 = some (.deferred (some [])) := by
   rw [hK 8 (by omega)]
   simp only [updH]
   rw [if_neg (by omega)]
   exact H8
  have K9 : K 9 = some LB := by
   rw [hK 9 (by omega)]
   simp only [zaa, seval]
  have K1 : K 1 = some (.cells (some 99) (cGi ⟨0, 0, 0⟩)) := by
   rw [hK 1 (by omega)]
   simp only [updH]
   rw [if_neg (by omega)]
   exact H1
  have K2 : K 2 = some (.cells (some 4) [.lit (.bool false)]) := by
   rw [hK 2 (by omega)]
   simp only [updH]
   rw [if_neg (by omega)]
   exact H2
  cases q with
  | nil =>
   have hd1 : decide (c < (List.length s.Tins : Int)) = false := zap hc hq
   simp only [fdL, Option.some.injEq] at hT2
   subst hT2
   simp only [cond_true, Option.some.injEq] at hR
   subst hR
   simp only [vz, tyf, seval, ua, nm, rg, f1, f2, f3, f4, f5, f13, f14, f15, hd1, K1, K2, Kx]
   refine ⟨?_, (show nx ≤ kx + 4 by omega), fun γ hγ => ?_, ?_⟩
   ·simp only [updH]
    repeat rw [if_neg (by omega)]
    exact K9
   ·have gx := hFr γ hγ
    have g9 : γ ≠ 9 := fun e => n9 (e ▸ hγ)
    have g1 : γ ≠ 1 := fun e => n1 (e ▸ hγ)
    have g2 : γ ≠ 2 := fun e => n2 (e ▸ hγ)
    simp only [updH]
    rw [if_neg g9, if_neg g2, if_neg g1, hK γ gx]
    simp only [updH]
    rw [if_neg g9]
   ·simp only [Bool.false_eq_true, if_false]
    refine ⟨[(8, .deferred (some [])), (9, LD .ret), (0, .cells (some 28) (cGs s)), (1, .cells (some 99) (cGi d)), (2, .cells (some 4) [.lit (.bool true)]), (5, .cells (some 25) (cGa am))], Own.cons (show 8 < kx + 4 by omega) n8 ?_ (Own.cons (show 9 < kx + 4 by omega) n9 ?_ (Own.cons (show 0 < kx + 4 by omega) n0 ?_ (Own.cons (show 1 < kx + 4 by omega) n1 ?_ (Own.cons (show 2 < kx + 4 by omega) n2 ?_ (Own.cons (show 5 < kx + 4 by omega) n5 ?_ Own.nil))))), ?_⟩
    rotate_left 6
    ·rw [hJ]
     exact ⟨LD, ⟨_, _, _, _, _, hLD⟩, rfl, rfl⟩
    all_goals (simp only [zaa, seval, K8, K0, K5] <;> rfl)
  | cons x q =>
   have hd1 : decide (c < (List.length s.Tins : Int)) = true := zbr hc hq
   have o := zal hc hq
   have hw := zcf hc hq o3
   have x1 : (0 = kx + 3) = False := by simp
   have x2 : (5 = kx + 3) = False := by simp; omega
   have x3 : (nx = kx + 3) = False := by simp; omega
   simp only [vz, tyf, seval, ua, nm, rg, f1, f2, f3, f4, f5, f13, f14, f15, hd1, K0, K5, Kx, (ix26 o)]
   refine zeb (fun tm => tm 1 = .ptr 0 0 ∧ tm 2 = .ptr 1 0 ∧ tm 3 = .ptr 2 0 ∧ tm 4 = .ptr 5 0 ∧ tm 5 = .ptr nx 0 ∧ tm 7 = .ptr (kx + 3) 0 ∧ tm 13 = .sl (cellsL cGt s.Tins) (List.length s.Tins) false ∧ tm 14 = .lit (.int .i64 (List.length s.Tins)) ∧ tm 15 = .lit (.int .i64 c)) (by refine ⟨?_, ?_, ?_, ?_, ?_, ?_, ?_, ?_, ?_⟩ <;> simp only [ua, seval, f1, f2, f3, f4, f5, f13, f14, f15]) ?_
   clear f1 f2 f3 f4 f5 f13 f14 f15 tm
   rintro tm ⟨f1, f2, f3, f4, f5, f7, f13, f14, f15⟩
   simp only [fdL] at hT2
   rcases ov : zcm d x.pg with _ | v
   ·rw [ov] at hT2; cases hT2
   rw [ov, Option.bind_some] at hT2
   rcases oz : zek d with _ | z
   ·rw [oz] at hT2; cases hT2
   rw [oz, Option.bind_some] at hT2
   rcases ow : zcm d am with _ | w
   ·rw [ow] at hT2; cases hT2
   rw [ow, Option.bind_some] at hT2
   simp only [vz, tyf, seval, ua, nm, rg, f1, f4, f5, f7, K0, K5, Kx, x1, x2, x3, zafg, zaff]
   refine dktA (zfz _ _ _ ov) ?_
   refine zae (fun tm => tm 1 = .ptr 0 0 ∧ tm 2 = .ptr 1 0 ∧ tm 3 = .ptr 2 0 ∧ tm 4 = .ptr 5 0 ∧ tm 5 = .ptr nx 0 ∧ tm 13 = .sl (cellsL cGt s.Tins) (List.length s.Tins) false ∧ tm 14 = .lit (.int .i64 (List.length s.Tins)) ∧ tm 15 = .lit (.int .i64 c) ∧ tm 22 = .agg (cGSpan v)) (by refine ⟨?_, ?_, ?_, ?_, ?_, ?_, ?_, ?_, ?_⟩ <;> (simp only [ua, seval, f1, f2, f3, f4, f5, f13, f14, f15, f7] <;> rfl)) ?_
   clear f1 f2 f3 f4 f5 f13 f14 f15  f7 tm
   rintro tm ⟨f1, f2, f3, f4, f5, f13, f14, f15, f22⟩
   simp only [vz, tyf, seval, ua, nm, rg, f1, f4, f5, f22, K0, K5, Kx, x1, x2, x3, zafg, zaff]
   refine dktA (zjm _ _ oz) ?_
   refine zae (fun tm => tm 1 = .ptr 0 0 ∧ tm 2 = .ptr 1 0 ∧ tm 3 = .ptr 2 0 ∧ tm 4 = .ptr 5 0 ∧ tm 5 = .ptr nx 0 ∧ tm 13 = .sl (cellsL cGt s.Tins) (List.length s.Tins) false ∧ tm 14 = .lit (.int .i64 (List.length s.Tins)) ∧ tm 15 = .lit (.int .i64 c) ∧ tm 23 = .lit (.int .i64 v.High) ∧ tm 25 = .lit (.int .i64 s.Off) ∧ tm 27 = .lit (.int .i64 z)) (by refine ⟨?_, ?_, ?_, ?_, ?_, ?_, ?_, ?_, ?_, ?_, ?_⟩ <;> (simp only [ua, seval, f1, f2, f3, f4, f5, f13, f14, f15, f22] <;> rfl)) ?_
   clear f1 f2 f3 f4 f5 f13 f14 f15  f22 tm
   rintro tm ⟨f1, f2, f3, f4, f5, f13, f14, f15, f23, f25, f27⟩
   simp only [vz, tyf, seval, ua, nm, rg, f1, f4, f5, f23, f25, f27, K0, K5, Kx, x1, x2, x3, zafg, zaff]
   refine dktA (zfz _ _ _ ow) ?_
   refine zae (fun tm => tm 1 = .ptr 0 0 ∧ tm 2 = .ptr 1 0 ∧ tm 3 = .ptr 2 0 ∧ tm 4 = .ptr 5 0 ∧ tm 5 = .ptr nx 0 ∧ tm 13 = .sl (cellsL cGt s.Tins) (List.length s.Tins) false ∧ tm 14 = .lit (.int .i64 (List.length s.Tins)) ∧ tm 15 = .lit (.int .i64 c) ∧ tm 29 = .lit (.int .i64 (IntKind.i64.wrap (v.High + IntKind.i64.wrap (s.Off * z)))) ∧ tm 32 = .agg (cGSpan w)) (by refine ⟨?_, ?_, ?_, ?_, ?_, ?_, ?_, ?_, ?_, ?_⟩ <;> (simp only [ua, seval, f1, f2, f3, f4, f5, f13, f14, f15, f23, f25, f27] <;> rfl)) ?_
   clear f1 f2 f3 f4 f5 f13 f14 f15  f23  f25  f27 tm
   rintro tm ⟨f1, f2, f3, f4, f5, f13, f14, f15, f29, f32⟩
   cases hcmp : decide (IntKind.i64.wrap (v.High + IntKind.i64.wrap (s.Off * z)) ≥ w.Low) with
   | true =>
    rw [hcmp, cond_true, Option.some.injEq] at hT2
    subst hT2
    rw [cond_false] at hR
    simp only [vz, tyf, seval, ua, nm, rg, f1, f4, f5, f29, f32, K0, K5, Kx, x1, x2, x3, zafg, zaff, hcmp]
    refine ⟨?_, (show nx ≤ kx + 21 by omega), fun γ hγ => ?_, ?_⟩
    ·simp only [updH]
     repeat rw [if_neg (by omega)]
     exact K9
    ·have gx := hFr γ hγ
     have g9 : γ ≠ 9 := fun e => n9 (e ▸ hγ)
     simp only [updH]
     rw [if_neg g9, if_neg (by omega), if_neg (by omega), hK γ gx]
     simp only [updH]
     rw [if_neg g9]
    ·simp only [if_true]
     refine ⟨[(8, .deferred (some [])), (9, LO), (0, .cells (some 28) (cGs s)), (1, .cells (some 99) (cGi ⟨0, 0, 0⟩)), (2, .cells (some 4) [.lit (.bool false)]), (5, .cells (some 25) (cGa am))], Own.cons (show 8 < kx + 21 by omega) n8 ?_ (Own.cons (show 9 < kx + 21 by omega) n9 ?_ (Own.cons (show 0 < kx + 21 by omega) n0 ?_ (Own.cons (show 1 < kx + 21 by omega) n1 ?_ (Own.cons (show 2 < kx + 21 by omega) n2 ?_ (Own.cons (show 5 < kx + 21 by omega) n5 ?_ Own.nil))))), ?_⟩
     rotate_left 6
     ·rw [hJ]
      exact ⟨p, rfl, rfl, hR⟩
     ·simp only [updH]
      repeat rw [if_neg (by omega)]
      exact K8
     ·simp only [zaa, seval]
     ·simp only [updH]
      repeat rw [if_neg (by omega)]
      exact K0
     ·simp only [updH]
      repeat rw [if_neg (by omega)]
      exact K1
     ·simp only [updH]
      repeat rw [if_neg (by omega)]
      exact K2
     ·simp only [updH]
      repeat rw [if_neg (by omega)]
      exact K5
   | false =>
    rw [hcmp, cond_false] at hT2
    simp only [vz, tyf, seval, ua, nm, rg, f1, f4, f5, f29, f32, f15, K0, K5, Kx, x1, x2, x3, zafg, zaff, hcmp, hw]
    refine ⟨q.length, Nat.lt_succ_self _, ?_⟩
    rw [hI0]
    refine ⟨q, c + 1, rfl, by omega, zbe hc hq, rfl, (by show nx + 6 ≤ kx + 23; omega), ?_, ?_, ?_, ?_, ?_, ?_, ?_, ?_, ?_, ?_, hT2⟩
    ·intro γ hγ
     simp only [updH]
     rw [if_neg (by omega), if_neg (by omega)]
     exact hK γ hγ
    ·simp only [updH]
     rw [if_neg (by omega), if_neg (by omega)]
     exact Kx
    all_goals simp only [ua, seval, f1, f2, f3, f4, f5, f13, f14]
 ·refine ⟨[(8, .deferred (some [])), (9, LO), (0, .cells (some 28) (cGs s)), (1, .cells (some 99) (cGi ⟨0, 0, 0⟩)), (2, .cells (some 4) [.lit (.bool false)]), (5, .cells (some 25) (cGa am))], Own.cons (show 8 < 10 by omega) (fun h => h) ?_ (Own.cons (show 9 < 10 by omega) (fun h => h) ?_ (Own.cons (show 0 < 10 by omega) (fun h => h) ?_ (Own.cons (show 1 < 10 by omega) (fun h => h) ?_ (Own.cons (show 2 < 10 by omega) (fun h => h) ?_ (Own.cons (show 5 < 10 by omega) (fun h => h) ?_ Own.nil))))), ?_⟩
  rotate_left 6
  ·rw [hJ]
   exact ⟨L, rfl, rfl, h⟩
  all_goals (simp only [zaa, seval] <;> rfl)
 ·rintro H' nx' (⟨hp, hown, hj⟩ | ⟨hp, hown, hj⟩)
  ·rw [hJ] at hj
   obtain ⟨p, hl, rfl, hR⟩ := hj
   cases p with
   | cons e p => cases hl
   | nil =>
   simp only [fdirL, Option.some.injEq] at hR
   subst hR
   obtain ⟨l8, n8, H8⟩ := hown.head
   obtain ⟨l9, n9, H9⟩ := hown.tail.head
   obtain ⟨l0, n0, H0⟩ := hown.tail.tail.head
   obtain ⟨l1, n1, H1⟩ := hown.tail.tail.tail.head
   obtain ⟨l2, n2, H2⟩ := hown.tail.tail.tail.tail.head
   refine zgm hLO H9 ?_
   intro LX
   simp only [vz, tyf, seval, ua, rg, e1, e2, e3, e4, H1, H2]
   refine ziq (by simp only [zaa, seval, H8]) ?_
   refine zay (x := .tup [.agg (cGi ⟨0, 0, 0⟩), .lit (.bool false)]) (by simp only [Tryz.results73, resV, resL, resV1, zba, zcc, uw, cr, tyf, e2, e3, H1, H2, nm, seval] <;> rfl) ?_
   refine zbb (by simp only [tre, tytre, Bool.and_self]) ?_
   simp only [outV, nrm, tynrm, seval, List.map_cons, List.map_nil]
   rfl
  ·rw [hJ] at hj
   obtain ⟨LD, ⟨tml, ps, az, bo, d, hLD⟩, rfl, hR2⟩ := hj
   obtain ⟨l8, n8, H8⟩ := hown.head
   obtain ⟨l9, n9, H9⟩ := hown.tail.head
   obtain ⟨l0, n0, H0⟩ := hown.tail.tail.head
   obtain ⟨l1, n1, H1⟩ := hown.tail.tail.tail.head
   obtain ⟨l2, n2, H2⟩ := hown.tail.tail.tail.tail.head
   obtain ⟨R1, R2⟩ := R
   simp only at hR2 H1
   subst hR2
   refine zhv hLD H9 ?_
   intro LX
   simp only [vz, tyf, seval, ua, rg, e1, e2, e3, e4, H1, H2]
   refine ziq (by simp only [zaa, seval, H8]) ?_
   refine zay (x := .tup [.agg (cGi R1), .lit (.bool true)]) (by simp only [Tryz.results73, resV, resL, resV1, zba, zcc, uw, cr, tyf, e2, e3, H1, H2, nm, seval] <;> rfl) ?_
   refine zbb (by simp only [tre, tytre, Bool.and_self]) ?_
   simp only [outV, nrm, tynrm, seval, List.map_cons, List.map_nil]
   rfl
end Go.V
end
section
namespace Go.V
open Go Go.Proofs
def zlo (x0_s : Gs) : Option (Gi × Int) := Option.bind (zbv x0_s) (fun r1 => cond (r1) (Option.bind (zfr x0_s) (fun r2 => cond (r2.2) (some (r2.1, 0)) (some ((Gi.mk 0 0 0), 5)))) (some ((Gi.mk 0 0 0), 2)))
theorem zqk (x0_s : Gs) (R : Gi × Int) (h : zlo x0_s = some R) : VPure Tryz.prog G0 37 [.agg (cGs x0_s)] (.tree (.tup [.agg (cGi R.1), .lit (.int .i64 R.2)])) := by
 refine VPure.runR mixed Tryz.call37 Tryz.func37 rfl (by simp [Tryz.ntmps37]; kernel_rfl) ?_
 obtain ⟨KF, h, kF, kN⟩ := zaq h
 simp only [zlo] at h
 obtain ⟨r3, o4, h⟩ := optI h kN
 try simp only [hs] at h
 simp only [vz, tyf, nm, seval]
 refine ktA (zdm _ _ o4) ?_
 refine zae (fun tm => tm 1 = .ptr 0 0 ∧ tm 2 = .ptr 1 0 ∧ tm 7 = .lit (.bool r3) ∧ True) (by refine ⟨?_, ?_, ?_, trivial⟩ <;> first | (simp only [ua, nm, seval] <;> rfl) | rfl) ?_
 rintro tm ⟨e5, e6, e7, _⟩
 cases d8 : (r3)
 ·simp only [d8, hs] at h
  try simp only [vz, tyf, e5, e6, e7, d8, nm, seval]
  refine zay (x := (.tup [.agg ([.lit (.int .i64 0)] ++ [.lit (.int .i64 0)] ++ [.lit (.int .i64 0)]), .lit (.int .i64 2)])) (by first | (simp only [Tryz.results37, resV, resL, resV1, zba, zcc, uw, cr, tyf, e5, e6, e7, d8, nm, seval] <;> rfl) | rfl) ?_
  obtain rfl := kF _ h
  refine zbb ?_ ?_
  ·simp only [tre, tytre, Bool.and_self]
  ·first | (simp only [outV, uw, zaf, cr, tyf, nrm, tynrm, e5, e6, e7, d8, nm, seval] <;> rfl) | rfl
 simp only [d8, hs] at h
 obtain ⟨r9, o10, h⟩ := optI h kN
 try simp only [hs] at h
 simp only [vz, tyf, e5, e6, e7, d8, nm, seval]
 refine ktA (zjj _ _ o10) ?_
 refine zae (fun tm => tm 2 = .ptr 1 0 ∧ tm 12 = .tup [.agg (cGi r9.1), .lit (.bool r9.2)] ∧ True) (by refine ⟨e6, ?_, trivial⟩ <;> first | (simp only [ua, e5, e6, e7, d8, nm, seval] <;> rfl) | rfl) ?_
 rintro tm ⟨e11, e12, _⟩
 cases d13 : (r9.2)
 ·simp only [d13, hs] at h
  try simp only [vz, tyf, d8, e11, e12, d13, nm, seval]
  refine zay (x := (.tup [.agg ([.lit (.int .i64 0)] ++ [.lit (.int .i64 0)] ++ [.lit (.int .i64 0)]), .lit (.int .i64 5)])) (by first | (simp only [Tryz.results37, resV, resL, resV1, zba, zcc, uw, cr, tyf, d8, e11, e12, d13, nm, seval] <;> rfl) | rfl) ?_
  obtain rfl := kF _ h
  refine zbb ?_ ?_
  ·simp only [tre, tytre, Bool.and_self]
  ·first | (simp only [outV, uw, zaf, cr, tyf, nrm, tynrm, d8, e11, e12, d13, nm, seval] <;> rfl) | rfl
 simp only [d13, hs] at h
 try simp only [vz, tyf, d8, e11, e12, d13, nm, seval]
 refine zay (x := (.tup [.agg (cGi r9.1), .lit (.int .i64 0)])) (by first | (simp only [Tryz.results37, resV, resL, resV1, zba, zcc, uw, cr, tyf, d8, e11, e12, d13, nm, seval] <;> rfl) | rfl) ?_
 obtain rfl := kF _ h
 refine zbb ?_ ?_
 ·simp only [tre, tytre, Bool.and_self]
 ·first | (simp only [outV, uw, zaf, cr, tyf, nrm, tynrm, d8, e11, e12, d13, nm, seval] <;> rfl) | rfl
end Go.V
end
section
namespace Go.V
open Go Go.Proofs
def headE (L : List Gm) : List Int × Int := match L with
 | [] => ([], 5)
 | x :: _ => (x.mix, 0)
def zlr (s : Gs) : Option (List Int × Int) := Option.bind (zbv s) fun b => cond b (Option.bind (znp s) fun L => some (headE L)) (some ([], 2))
theorem zqc (s : Gs) (R : List Int × Int) (h : zlr s = some R) : VPure Tryz.prog G0 42 [.agg (cGs s)] (.tree (.tup [.sl (cellsL eI R.1) (List.length R.1) false, .lit (.int .i64 R.2)])) := by
 refine VPure.runR mixed Tryz.call42 Tryz.func42 rfl (by simp [Tryz.ntmps42]; kernel_rfl) ?_
 unfold zlr at h
 rcases o0 : zbv s with _ | b
 ·rw [o0] at h; cases h
 rw [o0, Option.bind_some] at h
 simp only [vz, tyf, seval, ua, rg]
 refine ktA (zdm _ _ o0) ?_
 cases b with
 | false =>
  simp only [cond_false, Option.some.injEq] at h
  subst h
  simp only [vz, tyf, seval, ua, rg, Bool.not_false]
  refine zay (x := .tup [.lit (.slice none 0 0), .lit (.int .i64 2)]) (by simp only [Tryz.results42, resV, resL, resV1, zba, zcc, uw, cr, tyf, nm, seval] <;> rfl) ?_
  refine zbb (by simp only [tre, tytre]; rfl) ?_
  simp only [outV, nrm, seval, List.map_cons, List.map_nil, zbu, List.length_nil]
 | true =>
 rw [cond_true] at h
 simp only [vz, tyf, seval, ua, rg, Bool.not_true]
 rcases o2 : znp s with _ | L
 ·rw [o2] at h; cases h
 rw [o2, Option.bind_some] at h
 obtain ⟨hp, hi⟩ := zagq s L o2
 refine ktA hp ?_
 refine zae (fun tm => tm 2 = .ptr 1 0 ∧ tm 3 = .ptr 2 0 ∧ tm 9 = zko s) (by refine ⟨?_, ?_, ?_⟩ <;> simp only [ua, seval]) ?_
 rintro tm ⟨e2, e3, e9⟩
 simp only [vz, tyf, seval, ua, rg]
 refine zhw hi (by first | (simp only [zpn, zkq, e9, zgf, seval] <;> rfl) | rfl) ?_
 intro LO hLO
 simp only [Option.some.injEq] at h
 obtain ⟨J, hJ⟩ : ∃ J : Option (List VV) → List (Nat × VObj) → Prop, J = (fun o hp => match o with
  | some l => ∃ p : List Gm, l = p.map sM ∧ hp = [(8, .deferred (some [])), (9, LO), (1, .cells (some 29) [.lit (.slice none 0 0)]), (2, .cells (some 32) [.lit (.int .i64 0)])] ∧ headE p = R
  | none => ∃ LD : Code → VObj, (∃ tml ps az bo d, LD = fun c => VObj.loop .done (some c) tml ps az bo d) ∧ hp = [(8, .deferred (some [])), (9, LD .ret), (1, .cells (some 29) [.sl (cellsL eI R.1) R.1.length false]), (2, .cells (some 32) [.lit (.int .i64 R.2)])]) := ⟨_, rfl⟩
 refine ⟨ownI J, zle, ?_, ?_, ?_⟩
 ·rintro v rest Fr H nx hFr ⟨hp, hown, hj⟩
  rw [hJ] at hj
  obtain ⟨p, hl, rfl, hR⟩ := hj
  cases p with
  | nil => cases hl
  | cons e p =>
  simp only [List.map_cons, List.cons.injEq] at hl
  obtain ⟨rfl, rfl⟩ := hl
  obtain ⟨l8, n8, H8⟩ := hown.head
  obtain ⟨l9, n9, H9⟩ := hown.tail.head
  obtain ⟨l1, n1, H1⟩ := hown.tail.tail.head
  obtain ⟨l2, n2, H2⟩ := hown.tail.tail.tail.head
  refine zgv mixed (psl := [10]) hLO H9 zht rfl (by kernel_rfl) (by kernel_rfl) ?_
  intro LB LD hLB hLD
  refine zjv (fun tm => tm 2 = .ptr 1 0 ∧ tm 3 = .ptr 2 0 ∧ tm 10 = sM e) (by refine ⟨?_, ?_, ?_⟩ <;> simp only [zlx, zjz, Tryz.ntmps42, e2, e3, seval]) ?_
  clear e2 e3 e9
  rintro tm ⟨e2, e3, e10⟩
  have m1 : (9 = nx) = False := by simp; omega
  have m2 : (nx = 9) = False := by simp; omega
  have m3 : (1 = nx) = False := by simp; omega
  have m4 : (nx = 1) = False := by simp; omega
  have m5 : (2 = nx) = False := by simp; omega
  have m6 : (nx = 2) = False := by simp; omega
  have m7 : (8 = nx) = False := by simp; omega
  simp only [vz, tyf, seval, ua, rg, RStart, e2, e3, e10, H9, H1, H2, Nat.add_zero, m1, m2, m3, m4, m5, m6]
  have hRe : R = (e.mix, 0) := hR.symm
  refine ⟨by simp only [zaa, seval], (show nx ≤ nx + 6 by omega), fun γ hγ => ?_, ?_⟩
  ·have g9 : γ ≠ 9 := fun e => n9 (e ▸ hγ)
   have gx := hFr γ hγ
   have g1 : γ ≠ 1 := fun e => n1 (e ▸ hγ)
   have g2 : γ ≠ 2 := fun e => n2 (e ▸ hγ)
   simp only [updH]
   repeat rw [if_neg (by first | assumption | omega)]
  ·simp only [Bool.false_eq_true, if_false]
   refine ⟨[(8, .deferred (some [])), (9, LD .ret), (1, .cells (some 29) [.sl (cellsL eI e.mix) e.mix.length false]), (2, .cells (some 32) [.lit (.int .i64 0)])], Own.cons (show 8 < nx + 6 by omega) n8 ?_ (Own.cons (show 9 < nx + 6 by omega) n9 ?_ (Own.cons (show 1 < nx + 6 by omega) n1 ?_ (Own.cons (show 2 < nx + 6 by omega) n2 ?_ (Own.nil)))), ?_⟩
   rotate_left 4
   ·rw [hJ]
    exact ⟨LD, ⟨_, _, _, _, _, hLD⟩, by rw [hRe]⟩
   all_goals simp only [zaa, seval, H8, m1, m2, m3, m4, m5, m6, m7, Nat.add_zero]
 ·refine ⟨[(8, .deferred (some [])), (9, LO), (1, .cells (some 29) [.lit (.slice none 0 0)]), (2, .cells (some 32) [.lit (.int .i64 0)])], Own.cons (show 8 < 10 by omega) (fun h => h) ?_ (Own.cons (show 9 < 10 by omega) (fun h => h) ?_ (Own.cons (show 1 < 10 by omega) (fun h => h) ?_ (Own.cons (show 2 < 10 by omega) (fun h => h) ?_ (Own.nil)))), ?_⟩
  rotate_left 4
  ·rw [hJ]
   exact ⟨L, rfl, rfl, h⟩
  all_goals simp only [zaa, seval]
 ·rintro H' nx' (⟨hp, hown, hj⟩ | ⟨hp, hown, hj⟩)
  ·rw [hJ] at hj
   obtain ⟨p, hl, rfl, hR⟩ := hj
   cases p with
   | cons e p => cases hl
   | nil =>
   subst hR
   obtain ⟨l8, n8, H8⟩ := hown.head
   obtain ⟨l9, n9, H9⟩ := hown.tail.head
   obtain ⟨l1, n1, H1⟩ := hown.tail.tail.head
   obtain ⟨l2, n2, H2⟩ := hown.tail.tail.tail.head
   refine zgm hLO H9 ?_
   intro LX
   simp only [vz, tyf, seval, ua, rg, e2, e3, H1, H2, headE]
   refine ziq (by simp only [zaa, seval, H8]) ?_
   refine zay (x := .tup [.lit (.slice none 0 0), .lit (.int .i64 5)]) (by simp only [Tryz.results42, resV, resL, resV1, zba, zcc, uw, cr, tyf, e2, e3, H1, H2, nm, seval] <;> rfl) ?_
   refine zbb (by simp only [tre, tytre, Bool.and_self]) ?_
   simp only [outV, nrm, seval, List.map_cons, List.map_nil, zbu, List.length_nil]
  ·rw [hJ] at hj
   obtain ⟨LD, ⟨tml, ps, az, bo, d, hLD⟩, rfl⟩ := hj
   obtain ⟨l8, n8, H8⟩ := hown.head
   obtain ⟨l9, n9, H9⟩ := hown.tail.head
   obtain ⟨l1, n1, H1⟩ := hown.tail.tail.head
   obtain ⟨l2, n2, H2⟩ := hown.tail.tail.tail.head
   refine zhv hLD H9 ?_
   intro LX
   simp only [vz, tyf, seval, ua, rg, e2, e3, H1, H2]
   refine ziq (by simp only [zaa, seval, H8]) ?_
   refine zay (x := .tup [.sl (cellsL eI R.1) R.1.length false, .lit (.int .i64 R.2)]) (by simp only [Tryz.results42, resV, resL, resV1, zba, zcc, uw, cr, tyf, e2, e3, H1, H2, nm, seval] <;> rfl) ?_
   refine zbb (by simp only [tre, tytre, Bool.and_self]) ?_
   simp only [outV, nrm, seval, List.map_cons, List.map_nil, zbu, List.length_nil]
end Go.V
end
section
namespace Go.V
open Go
def sA : Gs := ⟨⟨60, 40, 20⟩, ⟨⟨1, 2⟩, ⟨1, 1⟩, ⟨0, 0⟩⟩, ⟨5, 5⟩, 5, [⟨⟨⟨80, 82⟩, ⟨20, 20⟩, ⟨0, 2⟩⟩⟩, ⟨⟨⟨20, 22⟩, ⟨60, 60⟩, ⟨40, 40⟩⟩⟩, ⟨⟨⟨50, 50⟩, ⟨10, 12⟩, ⟨30, 30⟩⟩⟩]⟩
def sB : Gs := ⟨⟨60, 40, 20⟩, ⟨⟨1, 2⟩, ⟨1, 1⟩, ⟨0, 0⟩⟩, ⟨5, 5⟩, 5, [⟨⟨⟨20, 22⟩, ⟨60, 60⟩, ⟨40, 40⟩⟩⟩, ⟨⟨⟨50, 50⟩, ⟨10, 12⟩, ⟨30, 30⟩⟩⟩]⟩
theorem zami : zlo sB = some (⟨0, 0, -2⟩, 0) := by kernel_rfl
theorem zamj : zlz sA = some (9, 0) := by kernel_rfl
theorem zatc : zms sA = some ([1, 1, 0], 5, 0) := by kernel_rfl
theorem zanf : zlu sA = some ([0, 1], 0) := by kernel_rfl
theorem zank : zlr sA = some ([1, 1, 0], 0) := by kernel_rfl
end Go.V
end
section
namespace Go.V
open Go Go.Proofs
theorem qshA : VV.agg (cGs sA) = kA := by kernel_rfl
theorem qshB : VV.agg (cGs sB) = kB := by kernel_rfl
theorem pCount : VPure Tryz.prog G0 44 [kA] (.tree kCount) := qshA ▸ zqd sA (9, 0) zamj
theorem pNear : VPure Tryz.prog G0 50 [kA] (.tree kNear) := qshA ▸ zsb sA ([1, 1, 0], 5, 0) zatc
theorem pNeeds : VPure Tryz.prog G0 55 [kA] (.tree kNeeds) := qshA ▸ zqq sA ([0, 1], 0) zanf
theorem pFirst : VPure Tryz.prog G0 42 [kA] (.tree kFirst) := qshA ▸ zqc sA ([1, 1, 0], 0) zank
theorem pProof : VPure Tryz.prog G0 37 [kB] (.tree kProof) := qshB ▸ zqk sB (⟨0, 0, -2⟩, 0) zami
end Go.V
end
section
namespace Go.V
open Go Go.Proofs
theorem pMay : VPure Tryz.prog G0 43 [kA] (.tree kMay) := VPure.closedB hmix 1000 (by kernel_rfl)
end Go.V
end
section
namespace Go.V
open Go Go.Proofs
def kTab : KTab := [
  (54, [], kA),
  (56, [], kB),
  (53, [], kD),
  (18, [kD], kAim),
  (19, [kA, .sl [.lit (.int .i64 (1)), .lit (.int .i64 (1)), .lit (.int .i64 (0))] 3 false], kSums),
  (27, [kA, .sl [.lit (.int .i64 (3)), .lit (.int .i64 (2)), .lit (.int .i64 (0))] 3 false], kWord),
  (24, [kA, .sl [.lit (.int .i64 (1)), .lit (.int .i64 (1)), .lit (.int .i64 (0))] 3 false, .agg [.sl [.lit (.int .i64 80),.lit (.int .i64 20),.lit (.int .i64 0),.lit (.int .i64 20),.lit (.int .i64 60),.lit (.int .i64 40),.lit (.int .i64 50),.lit (.int .i64 10),.lit (.int .i64 30)] 3 false,.lit (.int .i64 5),.lit (.int .i64 2),.lit (.int .i64 1),.lit (.int .i64 0)]], kTrue),
  (28, [kD, .sl [.lit (.int .i64 (1)), .lit (.int .i64 (1)), .lit (.int .i64 (0))] 3 false], kYears),
  (57, [.lit (.string ⟨⟨[98, 111, 97, 114, 100, 32, 49, 32, 50, 32, 51, 32, 48, 32, 48, 32, 49, 10, 102, 97, 100, 101, 32, 48, 32, 48, 32, 48, 32, 48, 32, 48, 32, 48, 10, 116, 105, 110, 32, 49, 32, 49, 32, 50, 32, 50, 32, 51, 32, 51, 10, 101, 110, 100, 32, 49, 54, 52, 10]⟩⟩)], kRead),
  (44, [kA], kCount),
  (50, [kA], kNear),
  (55, [kA], kNeeds),
  (37, [kB], kProof),
  (42, [kA], kFirst),
  (43, [kA], kMay)]
theorem kTabOk : KTabOk Tryz.prog G0 kTab := ⟨⟨by kernel_rfl, pA⟩, ⟨⟨by kernel_rfl, pB⟩, ⟨⟨by kernel_rfl, pD⟩, ⟨⟨by kernel_rfl, pAim⟩, ⟨⟨by kernel_rfl, pSums⟩, ⟨⟨by kernel_rfl, pWord⟩, ⟨⟨by kernel_rfl, pTrue⟩, ⟨⟨by kernel_rfl, pYears⟩, ⟨⟨by kernel_rfl, pRead⟩, ⟨⟨by kernel_rfl, pCount⟩, ⟨⟨by kernel_rfl, pNear⟩, ⟨⟨by kernel_rfl, pNeeds⟩, ⟨⟨by kernel_rfl, pProof⟩, ⟨⟨by kernel_rfl, pFirst⟩, ⟨⟨by kernel_rfl, pMay⟩, trivial⟩⟩⟩⟩⟩⟩⟩⟩⟩⟩⟩⟩⟩⟩⟩
theorem pKnown : VPure Tryz.prog G0 16 [] (.tree (.lit (.bool true))) := VPure.closedT hmix kTabOk 1000 (by kernel_rfl)
#print axioms pKnown
end Go.V
end
section
namespace Go.V
open Go Go.Proofs
theorem zak : VPure Tryz.prog G0 16 [] (.tree (.lit (.bool true))) := pKnown
end Go.V
end
section
namespace Go.V
open Go Go.Proofs
end Go.V
end
section
namespace Go.V
open Go
def z3 : Ga := ⟨⟨0, 0⟩, ⟨0, 0⟩, ⟨0, 0⟩⟩
end Go.V
end
section
namespace Go.V
open Go
theorem TrOk.b {s : Gs} (hs : ShOk s) {t : Gu} (ht : TrOk s t) (p : P3) : ∀ a ∈ t.Tins, 0 ≤ selI a p ∧ selI a p ≤ 99 := by
 intro a ha
 obtain ⟨i, hi⟩ := List.mem_iff_getElem?.1 ha
 have hlt := (List.getElem?_eq_some_iff.1 hi).1
 obtain ⟨c, hc⟩ : ∃ c, s.Tins[i]? = some c := ⟨_, List.getElem?_eq_getElem (by rw [← ht.n]; exact hlt)⟩
 have h1 := ht.tin i a c hi hc p
 have h2 := hs.low p c (List.mem_of_getElem? hc)
 have h3 := hs.high p c (List.mem_of_getElem? hc)
 omega
theorem ztm {s : Gs} (h : lenOk s.Tins = true) (mix : List Int) {t : Gu} (ht : lenOk t.Tins = true) : zfm s mix t = some (cond (sheetB s && (mixB s mix && truthB s t)) (trueB s mix t, 0) (false, 2)) := by
 unfold zfm
 rw [zuk h]
 cases hb : sheetB s with
 | false => rfl
 | true =>
  have hs := ShOk.of hb
  simp only [Option.bind_some, cond_true, zafk hs, Bool.true_and]
  cases hx : mixB s mix with
  | false => rfl
  | true =>
   have hm := MixOk.of hx
   simp only [cond_true, zafb s ht, Option.bind_some, Bool.true_and]
   cases hy : truthB s t with
   | false => rfl
   | true =>
    have hT := TrOk.of hy
    simp only [cond_true, zaoi hs hT, Option.bind_some, zyw (knOk hs hT) (knMix hT hm), zagx hs hm hT]
end Go.V
end
section
namespace Go.V
open Go Go.Proofs
end Go.V
end
section
namespace Go.V
open Go
theorem zwz {s : Gs} (h : lenOk s.Tins = true) {mix : List Int} (hm : lenOk mix = true) : ∃ b, zfi s mix = some b ∧ (b = true → ShOk s ∧ MixOk s mix) := by
 unfold zfi
 rw [show zil s = some (decide ((List.length s.Tins : Int) ≤ 6)) from rfl, zahi h]
 cases decide ((List.length s.Tins : Int) ≤ 6) with
 | false => exact ⟨false, rfl, fun h => by cases h⟩
 | true =>
 cases decide ((List.length mix : Int) ≤ 6) with
 | false => exact ⟨false, rfl, fun h => by cases h⟩
 | true =>
 simp only [Option.bind_some, cond_true]
 cases hb : sheetB s with
 | false => exact ⟨false, rfl, fun h => by cases h⟩
 | true =>
  have hs := ShOk.of hb
  simp only [cond_true, zaso hs hm, Option.bind_some]
  exact ⟨_, rfl, fun hx => ⟨hs, MixOk.of hx⟩⟩
end Go.V
end
