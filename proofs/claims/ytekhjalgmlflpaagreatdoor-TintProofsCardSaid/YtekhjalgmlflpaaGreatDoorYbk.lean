/- Part of a proof. -/
import Derived.Test.YtekhjalgmlflpaaGreatDoorYbj
set_option linter.all false
set_option maxRecDepth 4000
set_option maxHeartbeats 40000000
section
namespace Go.V
open Go Go.Proofs
def zbw (x0_x : Gm) (xpg : Int) : Option ((Unit) ⊕ (Unit)) := Option.bind (zbn x0_x xpg) (fun r1 => cond (decide (r1 > x0_x.sh.Off)) (some (.inr ())) (some (.inl ())))
theorem zaz (x0_x : Gm) (xpg : Int) (R : (Unit) ⊕ (Unit)) (h : zbw x0_x xpg = some R) : VPure Tryz.prog G0 102 [.agg (cGm x0_x), .lit (.int .i64 xpg)] (presB R (fun r => .tree (.tup [])) (fun e => .panic (.ifc 132 (.agg [])))) := by
 refine VPure.runR mixed Tryz.call102 Tryz.func102 rfl (by simp [Tryz.ntmps102]; kernel_rfl) ?_
 obtain ⟨KF, h, kF, kN⟩ := zan h
 simp only [zbw] at h
 simp only [vz, tyf, nm, seval]
 refine zds (fun tm => tm 1 = .lit (.int .i64 xpg) ∧ tm 2 = .ptr 0 0 ∧ True) (by refine ⟨?_, ?_, trivial⟩ <;> first | (simp only [ua, nm, seval] <;> rfl) | rfl) ?_
 rintro tm ⟨e2, e3, _⟩
 obtain ⟨r4, o5, h⟩ := optI h kN
 try simp only [hs] at h
 simp only [vz, tyf, e2, e3, nm, seval]
 refine dktA (zcd _ _ _ o5) ?_
 refine zaf (fun tm => tm 2 = .ptr 0 0 ∧ tm 6 = .lit (.int .i64 r4) ∧ True) (by refine ⟨e3, ?_, trivial⟩ <;> first | (simp only [ua, e2, e3, nm, seval] <;> rfl) | rfl) ?_
 rintro tm ⟨e6, e7, _⟩
 cases d8 : (decide (r4 > x0_x.sh.Off))
 ·simp only [d8, hs] at h
  try simp only [vz, tyf, e6, e7, d8, nm, seval]
  refine zhw (x := (.tup [])) (by first | (simp only [Tryz.results102, resV, resL, resV1, zat, zbq, uw, cr, tyf, d8, nm, seval] <;> rfl) | rfl) ?_
  obtain rfl := kF _ h
  refine zas ?_ ?_
  ·simp only [tre, tytre, Bool.and_self]
  ·first | (simp only [outV, uw, zah, cr, tyf, nrm, tynrm, e6, e7, d8, nm, seval] <;> rfl) | rfl
 simp only [d8, hs] at h
 simp only [vz, tyf, e6, e7, d8, nm, seval]
 refine zafc ?_
 obtain rfl := kF _ h
 refine zaof ?_ ?_
 ·simp only [tre, tytre, zagl, Bool.and_self]
 ·first | (simp only [outV, uw, zah, zaev, zacr, cr, tyf, nrm, tynrm, e6, e7, d8, nm, seval] <;> rfl) | rfl
def zcu (x0_x : Gm) : Option (Bool) := Option.bind (zbw x0_x 0) (fun r1 => sumB r1 (fun u2 => Option.bind (zbw x0_x 1) (fun r4 => sumB r4 (fun u5 => Option.bind (zbw x0_x 2) (fun r7 => sumB r7 (fun u8 => some true) (fun w9 => some false))) (fun w6 => some false))) (fun w3 => some false))
theorem zfl (x0_x : Gm) (R : Bool) (h : zcu x0_x = some R) : VPure Tryz.prog G0 68 [.agg (cGm x0_x)] (.tree (.lit (.bool R))) := by
 refine VPure.runR mixed Tryz.call68 Tryz.func68 rfl (by simp [Tryz.ntmps68]; kernel_rfl) ?_
 obtain ⟨KF, h, kF, kN⟩ := zan h
 simp only [zcu] at h
 simp only [vz, tyf, nm, seval]
 refine zgq mixed (by kernel_rfl) 4 ?_
 obtain ⟨r10, o11, h⟩ := optI h kN
 try simp only [hs] at h
 cases r10 with
 | inl u12 =>
  simp only [hs] at h
  simp only [vz, tyf, nm, seval]
  refine ktA (zaz _ _ _ o11) ?_
  refine zaf (fun tm => tm 1 = .ptr 0 0 ∧ tm 2 = .ptr 1 0 ∧ tm 5 = .lit (.int .i64 0) ∧ True) (by refine ⟨?_, ?_, ?_, trivial⟩ <;> first | (simp only [ua, nm, seval] <;> rfl) | rfl) ?_
  rintro tm ⟨e14, e15, e16, _⟩
  obtain ⟨r17, o18, h⟩ := optI h kN
  try simp only [hs] at h
  cases r17 with
  | inl u19 =>
   simp only [hs] at h
   simp only [vz, tyf, e14, e15, e16, nm, seval]
   refine ktA (zaz _ _ _ o18) ?_
   refine zaf (fun tm => tm 1 = .ptr 0 0 ∧ tm 2 = .ptr 1 0 ∧ tm 5 = .lit (.int .i64 1) ∧ True) (by refine ⟨e14, e15, ?_, trivial⟩ <;> first | (simp only [ua, e14, e15, e16, nm, seval] <;> rfl) | rfl) ?_
   rintro tm ⟨e21, e22, e23, _⟩
   obtain ⟨r24, o25, h⟩ := optI h kN
   try simp only [hs] at h
   cases r24 with
   | inl u26 =>
    simp only [hs] at h
    simp only [vz, tyf, e21, e22, e23, nm, seval]
    refine ktA (zaz _ _ _ o25) ?_
    refine zaf (fun tm => tm 1 = .ptr 0 0 ∧ tm 2 = .ptr 1 0 ∧ tm 5 = .lit (.int .i64 2) ∧ True) (by refine ⟨e21, e22, ?_, trivial⟩ <;> first | (simp only [ua, e21, e22, e23, nm, seval] <;> rfl) | rfl) ?_
    rintro tm ⟨e28, e29, e30, _⟩
    try simp only [vz, tyf, e28, e29, e30, nm, seval]
    refine zaiz ?_
    refine VDeferred.run mixed Tryz.call101 Tryz.func101 rfl (by kernel_rfl) ?_
    try simp only [vz, tyf, nm, seval]
    refine zhn Tryz.results101 ?_
    refine zabq (x := (.lit (.bool true))) (by first | (simp only [Tryz.results68, resV, resL, resV1, zat, zbq, uw, cr, tyf, e28, e29, e30, nm, seval] <;> rfl) | rfl) ?_
    obtain rfl := kF _ h
    refine zas ?_ ?_
    ·simp only [tre, tytre, Bool.and_self]
    ·first | (simp only [outV, uw, zah, cr, tyf, nrm, tynrm, e28, e29, e30, nm, seval] <;> rfl) | rfl
   | inr w27 =>
    simp only [hs] at h
    simp only [vz, tyf, e21, e22, e23, nm, seval]
    refine kpan (args0 := [.agg (cGm x0_x), .lit (.int .i64 2)]) (by first | (simp only [nrm, tynrm] <;> rfl) | rfl) (by simp only [tre, tytre, Bool.and_self]) (zaz _ _ _ o25) ?_
    try simp only [vz, tyf, e21, e22, e23, nm, seval]
    refine zly ?_
    refine VDeferred.run mixed Tryz.call101 Tryz.func101 rfl (by kernel_rfl) ?_
    try simp only [vz, tyf, nm, seval]
    refine zhn Tryz.results101 ?_
    refine zml (x := (.lit (.bool false))) (by first | (simp only [Tryz.results68, resV, resL, resV1, zat, zbq, uw, cr, tyf, e21, e22, e23, nm, seval] <;> rfl) | rfl) ?_
    obtain rfl := kF _ h
    refine zas ?_ ?_
    ·simp only [tre, tytre, Bool.and_self]
    ·first | (simp only [outV, uw, zah, cr, tyf, nrm, tynrm, e21, e22, e23, nm, seval] <;> rfl) | rfl
  | inr w20 =>
   simp only [hs] at h
   simp only [vz, tyf, e14, e15, e16, nm, seval]
   refine kpan (args0 := [.agg (cGm x0_x), .lit (.int .i64 1)]) (by first | (simp only [nrm, tynrm] <;> rfl) | rfl) (by simp only [tre, tytre, Bool.and_self]) (zaz _ _ _ o18) ?_
   try simp only [vz, tyf, e14, e15, e16, nm, seval]
   refine zly ?_
   refine VDeferred.run mixed Tryz.call101 Tryz.func101 rfl (by kernel_rfl) ?_
   try simp only [vz, tyf, nm, seval]
   refine zhn Tryz.results101 ?_
   refine zml (x := (.lit (.bool false))) (by first | (simp only [Tryz.results68, resV, resL, resV1, zat, zbq, uw, cr, tyf, e14, e15, e16, nm, seval] <;> rfl) | rfl) ?_
   obtain rfl := kF _ h
   refine zas ?_ ?_
   ·simp only [tre, tytre, Bool.and_self]
   ·first | (simp only [outV, uw, zah, cr, tyf, nrm, tynrm, e14, e15, e16, nm, seval] <;> rfl) | rfl
 | inr w13 =>
  simp only [hs] at h
  simp only [vz, tyf, nm, seval]
  refine kpan (args0 := [.agg (cGm x0_x), .lit (.int .i64 0)]) (by first | (simp only [nrm, tynrm] <;> rfl) | rfl) (by simp only [tre, tytre, Bool.and_self]) (zaz _ _ _ o11) ?_
  try simp only [vz, tyf, nm, seval]
  refine zly ?_
  refine VDeferred.run mixed Tryz.call101 Tryz.func101 rfl (by kernel_rfl) ?_
  try simp only [vz, tyf, nm, seval]
  refine zhn Tryz.results101 ?_
  refine zml (x := (.lit (.bool false))) (by first | (simp only [Tryz.results68, resV, resL, resV1, zat, zbq, uw, cr, tyf, nm, seval] <;> rfl) | rfl) ?_
  obtain rfl := kF _ h
  refine zas ?_ ?_
  ·simp only [tre, tytre, Bool.and_self]
  ·first | (simp only [outV, uw, zah, cr, tyf, nrm, tynrm, nm, seval] <;> rfl) | rfl
end Go.V
end
section
set_option linter.defProp false
namespace Go.V
open Go
section
variable {P : Program} {K V : Type} {q : K → K → Bool} {kv : K → Value} {ev : V → VV} {t kt et : TypeId} {H : Nat → Option VObj} {β : Nat}
end
section
variable {P : Program} {G : Glob} {γ : Nat} {tm : Nat → VV} {H : Nat → Option VObj} {nx : Nat} {df : List VDef} {K : St → Prop} {Kd : List Nat → List Nat → St → Prop} {Qp : VV → St → Prop}
 {d : Option Tmp} {ty : TypeId} {pos : String} {af : Array Edge} {g : Option (Nat × Bool)}
end
end Go.V
end
section
set_option linter.defProp false
namespace Go.V
open Go
section
variable {P : Program} {K V : Type} {q : K → K → Bool} {kv : K → Value} {ew : V → VV} {t kt et : TypeId} {H : Nat → Option VObj}
end
end Go.V
end
section
set_option linter.defProp false
namespace Go.V
open Go
end Go.V
end
section
namespace Go.V
open Go Go.Proofs





theorem normX (s : Gs) {f : Nat} : normL [itX s, VV.fn (.func f) [] []] = [itX s, VV.fn (.func f) [] []] := by
 simp only [itX, zgy, ziu, zaas]
def zkx (s : Gs) : Option (List Gm) := Option.bind (zhd s) (filterO zcu)
def zim (s : Gs) : VV := .fn (.func 126) [] [.tp [itX s], .tp [.fn (.func 68) [] []]]
theorem zaan (s : Gs) (R : List Gm) (h : zkx s = some R) : VPure Tryz.prog G0 75 [.agg (cGs s)] (.tree (zim s)) ∧ Iter Tryz.prog G0 (zim s) (R.map sM) := by
 unfold zkx at h
 rcases o1 : zhd s with _ | L
 ·rw [o1] at h; cases h
 rw [o1, Option.bind_some] at h
 have hi := zkw s L o1
 refine ⟨?_, zyx (mc := []) (bf := 68) hi rfl (fun a t ha => zfl a t ha) h⟩
 refine VPure.run mixed Tryz.call75 Tryz.func75 rfl (by simp [Tryz.ntmps75]; kernel_rfl) ?_
 simp only [vz, tyf, seval, ua, rg]
 refine ktA (zow s) ?_
 simp only [vz, tyf, seval, ua, rg]
 refine ktree (args0 := [itX s, .fn (.func 68) [] []]) (normX s) (by simp only [zgv, zka, zlv]; rfl) (zaij (mc := []) hi zlv rfl) ?_
 simp only [vz, tyf, seval, ua, rg]
 refine ⟨rfl, zim s, by simp [Tryz.results75, resV, resL, resV1, upd]; rfl, 2, ?_⟩
 have h9 := @zlv s
 simp [sealV, zim, VV.tree, treeL, h9]
theorem zqn {s : Gs} : (zim s).tree = true := by
 have h9 := @zlv s
 simp [zim, VV.tree, treeL, h9]
def zjj (s : Gs) : Option (Int × Int) := Option.bind (zbb s) fun b => cond b (Option.bind (zkx s) fun L => cond (lenOk L) (some ((List.length L : Int), 0)) none) (some (0, 2))
theorem znv (s : Gs) (R : Int × Int) (h : zjj s = some R) : VPure Tryz.prog G0 44 [.agg (cGs s)] (.tree (.tup [.lit (.int .i64 R.1), .lit (.int .i64 R.2)])) := by
 refine VPure.runR mixed Tryz.call44 Tryz.func44 rfl (by simp [Tryz.ntmps44]; kernel_rfl) ?_
 unfold zjj at h
 rcases o0 : zbb s with _ | b
 ·rw [o0] at h; cases h
 rw [o0, Option.bind_some] at h
 simp only [vz, tyf, seval, ua, rg]
 refine ktA (zdk _ _ o0) ?_
 cases b with
 | false =>
  simp only [cond_false, Option.some.injEq] at h
  subst h
  simp only [vz, tyf, seval, ua, rg, Bool.not_false]
  refine zap (x := .tup [.lit (.int .i64 0), .lit (.int .i64 2)]) (by simp only [Tryz.results44, resV, resL, resV1, zat, zbq, uw, cr, tyf, nm, seval] <;> rfl) ?_
  refine zas (by simp only [tre, tytre]; rfl) ?_
  simp only [outV, nrm, seval, List.map_cons, List.map_nil, zdz, List.length_nil]
 | true =>
 rw [cond_true] at h
 simp only [vz, tyf, seval, ua, rg, Bool.not_true]
 rcases o2 : zkx s with _ | L
 ·rw [o2] at h; cases h
 rw [o2, Option.bind_some] at h
 obtain ⟨hp, hi⟩ := zaan s L o2
 refine ktA hp ?_
 cases hln : lenOk L with
 | false => rw [hln] at h; cases h
 | true =>
 rw [hln, cond_true] at h
 have hlt : L.length < 9223372036854775808 := by simpa [lenOk] using hln
 refine zaf (fun tm => tm 4 = .ptr 6 0 ∧ tm 9 = zim s) (by refine ⟨?_, ?_⟩ <;> simp only [ua, seval]) ?_
 rintro tm ⟨e4, e9⟩
 simp only [vz, tyf, seval, ua, rg]
 refine zfy hi (by first | (simp only [zmm, zil, e9, zem, seval] <;> rfl) | rfl) ?_
 intro LO hLO
 simp only [Option.some.injEq] at h
 obtain ⟨J, hJ⟩ : ∃ J : Option (List VV) → List (Nat × VObj) → Prop, J = (fun o hp => match o with
  | some l => ∃ c : Nat, c + l.length = L.length ∧ hp = [(10, .deferred (some [])), (11, LO), (6, .cells (some 3) [.lit (.int .i64 c)])]
  | none => False) := ⟨_, rfl⟩
 refine ⟨ownI J, ziq, ?_, ?_, ?_⟩
 ·rintro v rest Fr H nx hFr ⟨hp, hown, hj⟩
  rw [hJ] at hj
  obtain ⟨c, hc, rfl⟩ := hj
  simp only [List.length_cons] at hc
  obtain ⟨l10, n10, H10⟩ := hown.head
  obtain ⟨l11, n11, H11⟩ := hown.tail.head
  obtain ⟨l6, n6, H6⟩ := hown.tail.tail.head
  refine zfb mixed (psl := [10]) hLO H11 zge rfl (by kernel_rfl) (by kernel_rfl) ?_
  intro LB LD hLB hLD
  refine zhh (fun tm => tm 4 = .ptr 6 0) (by simp only [zjh, zhf, Tryz.ntmps44, e4, seval]) ?_
  clear e4 e9
  rintro tm e4
  have hw : IntKind.i64.wrap ((c : Int) + 1) = ((c + 1 : Nat) : Int) := by rw [IntWalk.i64_in _ (by omega)]; simp
  simp only [vz, tyf, seval, ua, rg, RStart, e4, H11, H6, hw]
  refine ⟨by simp only [zaa, seval], (show nx ≤ nx + 3 by omega), fun γ hγ => ?_, ?_⟩
  ·have g11 : γ ≠ 11 := fun e => n11 (e ▸ hγ)
   have g6 : γ ≠ 6 := fun e => n6 (e ▸ hγ)
   simp only [updH]
   repeat rw [if_neg (by first | assumption | omega)]
  ·simp only [if_true]
   refine ⟨[(10, .deferred (some [])), (11, LO), (6, .cells (some 3) [.lit (.int .i64 ((c + 1 : Nat) : Int))])], Own.cons (show 10 < nx + 3 by omega) n10 ?_ (Own.cons (show 11 < nx + 3 by omega) n11 ?_ (Own.cons (show 6 < nx + 3 by omega) n6 ?_ Own.nil)), ?_⟩
   rotate_left 3
   ·rw [hJ]
    exact ⟨c + 1, by omega, rfl⟩
   all_goals simp only [zaa, seval, H10]
 ·refine ⟨[(10, .deferred (some [])), (11, LO), (6, .cells (some 3) [.lit (.int .i64 ((0 : Nat) : Int))])], Own.cons (show 10 < 12 by omega) (fun h => h) ?_ (Own.cons (show 11 < 12 by omega) (fun h => h) ?_ (Own.cons (show 6 < 12 by omega) (fun h => h) ?_ Own.nil)), ?_⟩
  rotate_left 3
  ·rw [hJ]
   exact ⟨0, by simp, rfl⟩
  ·simp only [zaa, seval]
  ·simp only [zaa, seval]
  ·simp only [zaa, seval] <;> rfl
 ·rintro H' nx' (⟨hp, hown, hj⟩ | ⟨hp, hown, hj⟩)
  ·rw [hJ] at hj
   obtain ⟨c, hc, rfl⟩ := hj
   simp only [List.length_nil, Nat.add_zero] at hc
   subst hc
   subst h
   obtain ⟨l10, n10, H10⟩ := hown.head
   obtain ⟨l11, n11, H11⟩ := hown.tail.head
   obtain ⟨l6, n6, H6⟩ := hown.tail.tail.head
   refine zes hLO H11 ?_
   intro LX
   simp only [vz, tyf, seval, ua, rg, e4, H6]
   refine zgn (by simp only [zaa, seval, H10]) ?_
   refine zap (x := .tup [.lit (.int .i64 (L.length : Int)), .lit (.int .i64 0)]) (by simp only [Tryz.results44, resV, resL, resV1, zat, zbq, uw, cr, tyf, nm, seval] <;> rfl) ?_
   refine zas (by simp only [tre, tytre, Bool.and_self]) ?_
   simp only [outV, nrm, seval, List.map_cons, List.map_nil]
  ·rw [hJ] at hj
   exact hj.elim
def zM : Gm := ⟨⟨⟨0, 0, 0⟩, ⟨⟨0, 0⟩, ⟨0, 0⟩, ⟨0, 0⟩⟩, ⟨0, 0⟩, 0, []⟩, []⟩
def zc : List VV := [.lit (.int .i64 0), .lit (.int .i64 0), .lit (.int .i64 0), .lit (.int .i64 0), .lit (.int .i64 0), .lit (.int .i64 0), .lit (.int .i64 0), .lit (.int .i64 0), .lit (.int .i64 0), .lit (.int .i64 0), .lit (.int .i64 0), .lit (.int .i64 0), .lit (.slice none 0 0), .lit (.slice none 0 0)]
theorem zc_eq : zc = [.lit (.int .i64 0), .lit (.int .i64 0), .lit (.int .i64 0), .lit (.int .i64 0), .lit (.int .i64 0), .lit (.int .i64 0), .lit (.int .i64 0), .lit (.int .i64 0), .lit (.int .i64 0), .lit (.int .i64 0), .lit (.int .i64 0), .lit (.int .i64 0), .lit (.slice none 0 0), .lit (.slice none 0 0)] := rfl
def bestO (better : Gm → Gm → Option Bool) : List Gm → Gm × Bool → Option (Gm × Bool)
 | [], acc => some acc
 | x :: L, acc => cond acc.2 (Option.bind (better x acc.1) fun t => bestO better L (cond t (x, true) acc)) (bestO better L (x, true))
theorem zvt {itv : VV} {bf : Nat} {mc : List VV} {L : List Gm} (hit : Iter Tryz.prog G0 itv (L.map sM)) (hmt : treeL mc = true) {better : Gm → Gm → Option Bool}
  (hb : ∀ a b t, better a b = some t → VPure Tryz.prog G0 bf (sM a :: sM b :: mc) (.tree (.lit (.bool t)))) (R : Gm × Bool) (h : bestO better L (zM, false) = some R) :
  VPure Tryz.prog G0 78 [itv, .fn (.func bf) [] mc] (.tree (.tup [sM R.1, .lit (.bool R.2)])) := by
 refine VPure.runR mixed Tryz.call78 Tryz.func78 rfl (by simp [Tryz.ntmps78]; kernel_rfl) ?_
 simp only [vz, tyf, seval, ua, rg]
 refine zkj (fun tm => tm 9 = itv ∧ tm 3 = .ptr 0 0 ∧ tm 4 = .ptr 1 0 ∧ tm 6 = .ptr 3 0 ∧ tm 7 = .ptr 4 0) (by refine ⟨?_, ?_, ?_, ?_, ?_⟩ <;> simp only [ua, seval]) ?_
 rintro tm ⟨e9, e3, e4, e6, e7⟩
 refine zfy hit (by first | (simp only [zmm, zil, e9, zem, seval] <;> rfl) | rfl) ?_
 intro LO hLO
 obtain ⟨J, hJ⟩ : ∃ J : Option (List VV) → List (Nat × VObj) → Prop, J = (fun o hp => match o with
  | some l => ∃ (p : List Gm) (r : Gm) (fd : Bool) (y : List VV), l = p.map sM ∧ hp = [(7, .deferred (some [])), (8, LO), (0, .cells (some 111) [.fn (.func bf) [] mc]), (3, .cells (some 89) y), (1, .cells (some 89) zc), (4, .cells (some 4) [.lit (.bool fd)])] ∧ ((fd = true ∧ y = cGm r) ∨ (fd = false ∧ y = zc ∧ r = zM)) ∧ bestO better p (r, fd) = some R
  | none => False) := ⟨_, rfl⟩
 refine ⟨ownI J, ziq, ?_, ?_, ?_⟩
 ·rintro v rest Fr H nx hFr ⟨hp, hown, hj⟩
  rw [hJ] at hj
  obtain ⟨p, r, fd, y, hl, rfl, hy, hR⟩ := hj
  cases p with
  | nil => cases hl
  | cons e p =>
  simp only [List.map_cons, List.cons.injEq] at hl
  obtain ⟨rfl, rfl⟩ := hl
  obtain ⟨l7, n7, H7⟩ := hown.head
  obtain ⟨l8, n8, H8⟩ := hown.tail.head
  obtain ⟨l0, n0, H0⟩ := hown.tail.tail.head
  obtain ⟨l3, n3, H3⟩ := hown.tail.tail.tail.head
  obtain ⟨l1, n1, H1⟩ := hown.tail.tail.tail.tail.head
  obtain ⟨l4, n4, H4⟩ := hown.tail.tail.tail.tail.tail.head
  refine zfb mixed (psl := [10]) hLO H8 zge rfl (by kernel_rfl) (by kernel_rfl) ?_
  intro LB LD hLB hLD
  refine zhh (fun tm => tm 10 = sM e ∧ tm 3 = .ptr 0 0 ∧ tm 4 = .ptr 1 0 ∧ tm 6 = .ptr 3 0 ∧ tm 7 = .ptr 4 0) (by refine ⟨?_, ?_, ?_, ?_, ?_⟩ <;> simp only [zjh, zhf, Tryz.ntmps78, e3, e4, e6, e7, seval]) ?_
  clear e9 e3 e4 e6 e7
  rintro tm ⟨e10, e3, e4, e6, e7⟩
  have m0 : (8 = nx) = False := by simp; omega
  have m1 : (nx = 8) = False := by simp; omega
  have m2 : (3 = nx) = False := by simp; omega
  have m3 : (nx = 3) = False := by simp; omega
  have m4 : (4 = nx) = False := by simp; omega
  have m5 : (nx = 4) = False := by simp; omega
  have m6 : (0 = nx) = False := by simp; omega
  have m7 : (nx = 0) = False := by simp; omega
  have m8 : (7 = nx) = False := by simp; omega
  have m9 : (1 = nx) = False := by simp; omega
  unfold bestO at hR
  rcases hy with ⟨rfl, rfl⟩ | ⟨rfl, rfl, rfl⟩
  ·simp only [cond_true] at hR
   rcases hbt : better e r with _ | t
   ·rw [hbt] at hR; cases hR
   rw [hbt, Option.bind_some] at hR
   simp only [vz, tyf, seval, ua, nm, rg, RStart, e10, e3, e6, e7, H8, H0, H3, H4, Nat.add_zero, m0, m1, m2, m3, m4, m5, m6, m7, m8, m9, Bool.not_true]
   refine ktreeR ?_ (hb e r t hbt) ?_
   ·have h1 : treeL (cGm e) = true := zau.tree e
    have h2 : treeL (cGm r) = true := zau.tree r
    show (treeL (cGm e) && (treeL (cGm r) && treeL mc)) = true
    rw [h1, h2, hmt]
    rfl
   cases t with
   | true =>
    simp only [vz, tyf, seval, ua, nm, rg, RStart, e10, e3, e6, e7, H8, H0, H3, H4, Nat.add_zero, m0, m1, m2, m3, m4, m5, m6, m7, m8, m9]
    refine ⟨by simp only [zaa, seval], (show nx ≤ nx + 13 by omega), fun γ hγ => ?_, ?_⟩
    ·have gx := hFr γ hγ
     have g8 : γ ≠ 8 := fun e => n8 (e ▸ hγ)
     have g3 : γ ≠ 3 := fun e => n3 (e ▸ hγ)
     have g4 : γ ≠ 4 := fun e => n4 (e ▸ hγ)
     simp only [updH]
     repeat rw [if_neg (by first | assumption | omega)]
    ·simp only [if_true]
     refine ⟨[(7, .deferred (some [])), (8, LO), (0, .cells (some 111) [.fn (.func bf) [] mc]), (3, .cells (some 89) (cGm e)), (1, .cells (some 89) zc), (4, .cells (some 4) [.lit (.bool true)])], Own.cons (show 7 < nx + 13 by omega) n7 ?_ (Own.cons (show 8 < nx + 13 by omega) n8 ?_ (Own.cons (show 0 < nx + 13 by omega) n0 ?_ (Own.cons (show 3 < nx + 13 by omega) n3 ?_ (Own.cons (show 1 < nx + 13 by omega) n1 ?_ (Own.cons (show 4 < nx + 13 by omega) n4 ?_ (Own.nil)))))), ?_⟩
     rotate_left 6
     ·rw [hJ]
      exact ⟨p, e, true, cGm e, rfl, rfl, .inl ⟨rfl, rfl⟩, hR⟩
     all_goals (simp only [zaa, seval, H7, H0, H3, H4, H1, Nat.add_zero, m0, m1, m2, m3, m4, m5, m6, m7, m8, m9] <;> rfl)
   | false =>
    simp only [vz, tyf, seval, ua, nm, rg, RStart, e10, e3, e6, e7, H8, H0, H3, H4, Nat.add_zero, m0, m1, m2, m3, m4, m5, m6, m7, m8, m9]
    refine ⟨by simp only [zaa, seval], (show nx ≤ nx + 10 by omega), fun γ hγ => ?_, ?_⟩
    ·have gx := hFr γ hγ
     have g8 : γ ≠ 8 := fun e => n8 (e ▸ hγ)
     have g3 : γ ≠ 3 := fun e => n3 (e ▸ hγ)
     have g4 : γ ≠ 4 := fun e => n4 (e ▸ hγ)
     simp only [updH]
     repeat rw [if_neg (by first | assumption | omega)]
    ·simp only [if_true]
     refine ⟨[(7, .deferred (some [])), (8, LO), (0, .cells (some 111) [.fn (.func bf) [] mc]), (3, .cells (some 89) (cGm r)), (1, .cells (some 89) zc), (4, .cells (some 4) [.lit (.bool true)])], Own.cons (show 7 < nx + 10 by omega) n7 ?_ (Own.cons (show 8 < nx + 10 by omega) n8 ?_ (Own.cons (show 0 < nx + 10 by omega) n0 ?_ (Own.cons (show 3 < nx + 10 by omega) n3 ?_ (Own.cons (show 1 < nx + 10 by omega) n1 ?_ (Own.cons (show 4 < nx + 10 by omega) n4 ?_ (Own.nil)))))), ?_⟩
     rotate_left 6
     ·rw [hJ]
      exact ⟨p, r, true, cGm r, rfl, rfl, .inl ⟨rfl, rfl⟩, hR⟩
     all_goals (simp only [zaa, seval, H7, H0, H3, H4, H1, Nat.add_zero, m0, m1, m2, m3, m4, m5, m6, m7, m8, m9] <;> rfl)
  ·simp only [cond_false] at hR
   simp only [vz, tyf, seval, ua, nm, rg, RStart, e10, e3, e6, e7, H8, H0, H3, H4, Nat.add_zero, m0, m1, m2, m3, m4, m5, m6, m7, m8, m9, zc_eq, Bool.not_false]
   refine ⟨by simp only [zaa, seval], (show nx ≤ nx + 13 by omega), fun γ hγ => ?_, ?_⟩
   ·have gx := hFr γ hγ
    have g8 : γ ≠ 8 := fun e => n8 (e ▸ hγ)
    have g3 : γ ≠ 3 := fun e => n3 (e ▸ hγ)
    have g4 : γ ≠ 4 := fun e => n4 (e ▸ hγ)
    simp only [updH]
    repeat rw [if_neg (by first | assumption | omega)]
   ·simp only [if_true]
    refine ⟨[(7, .deferred (some [])), (8, LO), (0, .cells (some 111) [.fn (.func bf) [] mc]), (3, .cells (some 89) (cGm e)), (1, .cells (some 89) zc), (4, .cells (some 4) [.lit (.bool true)])], Own.cons (show 7 < nx + 13 by omega) n7 ?_ (Own.cons (show 8 < nx + 13 by omega) n8 ?_ (Own.cons (show 0 < nx + 13 by omega) n0 ?_ (Own.cons (show 3 < nx + 13 by omega) n3 ?_ (Own.cons (show 1 < nx + 13 by omega) n1 ?_ (Own.cons (show 4 < nx + 13 by omega) n4 ?_ (Own.nil)))))), ?_⟩
    rotate_left 6
    ·rw [hJ]
     exact ⟨p, e, true, cGm e, rfl, rfl, .inl ⟨rfl, rfl⟩, hR⟩
    all_goals (simp only [zaa, seval, H7, H0, H3, H4, H1, Nat.add_zero, m0, m1, m2, m3, m4, m5, m6, m7, m8, m9] <;> rfl)
 ·refine ⟨[(7, .deferred (some [])), (8, LO), (0, .cells (some 111) [.fn (.func bf) [] mc]), (3, .cells (some 89) zc), (1, .cells (some 89) zc), (4, .cells (some 4) [.lit (.bool false)])], Own.cons (show 7 < 9 by omega) (fun h => h) ?_ (Own.cons (show 8 < 9 by omega) (fun h => h) ?_ (Own.cons (show 0 < 9 by omega) (fun h => h) ?_ (Own.cons (show 3 < 9 by omega) (fun h => h) ?_ (Own.cons (show 1 < 9 by omega) (fun h => h) ?_ (Own.cons (show 4 < 9 by omega) (fun h => h) ?_ (Own.nil)))))), ?_⟩
  rotate_left 6
  ·rw [hJ]
   exact ⟨L, zM, false, zc, rfl, rfl, .inr ⟨rfl, rfl, rfl⟩, h⟩
  all_goals (simp only [zaa, seval] <;> rfl)
 ·rintro H' nx' (⟨hp, hown, hj⟩ | ⟨hp, hown, hj⟩)
  ·rw [hJ] at hj
   obtain ⟨p, r, fd, y, hl, rfl, hy, hR⟩ := hj
   cases p with
   | cons e p => cases hl
   | nil =>
   simp only [bestO, Option.some.injEq] at hR
   subst hR
   obtain ⟨l7, n7, H7⟩ := hown.head
   obtain ⟨l8, n8, H8⟩ := hown.tail.head
   obtain ⟨l0, n0, H0⟩ := hown.tail.tail.head
   obtain ⟨l3, n3, H3⟩ := hown.tail.tail.tail.head
   obtain ⟨l1, n1, H1⟩ := hown.tail.tail.tail.tail.head
   obtain ⟨l4, n4, H4⟩ := hown.tail.tail.tail.tail.tail.head
   rcases hy with ⟨rfl, rfl⟩ | ⟨rfl, rfl, rfl⟩
   ·refine zes hLO H8 ?_
    intro LX
    simp only [vz, tyf, seval, ua, nm, rg, e4, e6, e7, H3, H4, H1]
    refine zea (fun tm => tm 4 = .ptr 1 0 ∧ tm 6 = .ptr 3 0 ∧ tm 7 = .ptr 4 0) ⟨e4, e6, e7⟩ ?_
    clear e9 e3 e4 e6 e7
    rintro tm ⟨e4, e6, e7⟩
    simp only [vz, tyf, seval, ua, nm, rg, e4, e6, e7, H3, H4, H1, zc_eq]
    refine zcr ⟨?_, ?_⟩
    ·simp only [zbl, zbv, zam, zdy, and_true, true_and]
     repeat' (first | exact trivial | refine And.intro ?_ ?_ | rw [zam] | rw [zcs] | exact Or.inl (by decide +kernel) | exact Or.inl (by dsimp only; decide +kernel) | (refine Or.inr ⟨?_, ?_⟩ <;> simp; done) | (refine Or.inr ⟨?_, ?_⟩ <;> simp <;> omega) | (refine Or.inr ⟨?_, ?_⟩ <;> simp [VEff.wr] <;> omega))
    simp only [vz, tyf, seval, ua, nm, rg, e4, e6, e7, H3, H4, H1, zc_eq]
    refine zgn (by simp only [zaa, seval, H7]) ?_
    refine zap (x := .tup [sM r, .lit (.bool true)]) (by simp only [Tryz.results78, resV, resL, resV1, zat, zbq, uw, cr, tyf, nm, seval, e4] <;> rfl) ?_
    have hs := zau.tree r
    refine zas (by simp only [tre, tytre, hs, Bool.and_self]) ?_
    simp only [outV, nrm, tynrm, seval, List.map_cons, List.map_nil]
   ·refine zes hLO H8 ?_
    intro LX
    simp only [vz, tyf, seval, ua, nm, rg, e4, e6, e7, H3, H4, H1]
    refine zea (fun tm => tm 4 = .ptr 1 0 ∧ tm 6 = .ptr 3 0 ∧ tm 7 = .ptr 4 0) ⟨e4, e6, e7⟩ ?_
    clear e9 e3 e4 e6 e7
    rintro tm ⟨e4, e6, e7⟩
    simp only [vz, tyf, seval, ua, nm, rg, e4, e6, e7, H3, H4, H1, zc_eq]
    refine zcr ⟨?_, ?_⟩
    ·simp only [zbl, zbv, zam, zdy, and_true, true_and]
     repeat' (first | exact trivial | refine And.intro ?_ ?_ | rw [zam] | rw [zcs] | exact Or.inl (by decide +kernel) | exact Or.inl (by dsimp only; decide +kernel) | (refine Or.inr ⟨?_, ?_⟩ <;> simp; done) | (refine Or.inr ⟨?_, ?_⟩ <;> simp <;> omega) | (refine Or.inr ⟨?_, ?_⟩ <;> simp [VEff.wr] <;> omega))
    simp only [vz, tyf, seval, ua, nm, rg, e4, e6, e7, H3, H4, H1, zc_eq]
    refine zgn (by simp only [zaa, seval, H7]) ?_
    refine zap (x := .tup [.agg zc, .lit (.bool false)]) (by simp only [Tryz.results78, resV, resL, resV1, zat, zbq, uw, cr, tyf, nm, seval, e4] <;> rfl) ?_
    refine zas (by simp only [zc_eq, tre, tytre, Bool.and_self]) ?_
    simp only [outV, nrm, seval, zc_eq, List.map_cons, List.map_nil, zdz, List.length_nil]
    rfl
  ·rw [hJ] at hj
   exact hj.elim
def zbx (x0_x : Gm) : Option (Int) := Option.bind (zbn x0_x 0) (fun r1 => Option.bind (zbn x0_x 1) (fun r2 => Option.bind (zbn x0_x 2) (fun r3 => some (if (if (if 0 < r1 then r1 else 0) < r2 then r2 else (if 0 < r1 then r1 else 0)) < r3 then r3 else (if (if 0 < r1 then r1 else 0) < r2 then r2 else (if 0 < r1 then r1 else 0))))))
theorem zeb (x0_x : Gm) (R : Int) (h : zbx x0_x = some R) : VPure Tryz.prog G0 81 [.agg (cGm x0_x)] (.tree (.lit (.int .i64 R))) := by
 refine VPure.runR mixed Tryz.call81 Tryz.func81 rfl (by simp [Tryz.ntmps81]; kernel_rfl) ?_
 obtain ⟨KF, h, kF, kN⟩ := zan h
 simp only [zbx] at h
 simp only [vz, tyf, nm, seval]
 refine zgq mixed (by kernel_rfl) 4 ?_
 obtain ⟨r4, o5, h⟩ := optI h kN
 try simp only [hs] at h
 simp only [vz, tyf, nm, seval]
 refine ktA (zcd _ _ _ o5) ?_
 refine zaf (fun tm => tm 1 = .ptr 0 0 ∧ tm 5 = .lit (.int .i64 0) ∧ tm 8 = .lit (.int .i64 0) ∧ tm 11 = .lit (.int .i64 r4) ∧ True) (by refine ⟨?_, ?_, ?_, ?_, trivial⟩ <;> first | (simp only [ua, nm, seval] <;> rfl) | rfl) ?_
 rintro tm ⟨e6, e7, e8, e9, _⟩
 obtain ⟨r10, o11, h⟩ := optI h kN
 try simp only [hs] at h
 simp only [vz, tyf, e6, e7, e8, e9, nm, seval]
 refine ktA (zcd _ _ _ o11) ?_
 refine zaf (fun tm => tm 1 = .ptr 0 0 ∧ tm 5 = .lit (.int .i64 1) ∧ tm 8 = .lit (.int .i64 (if 0 < r4 then r4 else 0)) ∧ tm 11 = .lit (.int .i64 r10) ∧ True) (by refine ⟨e6, ?_, ?_, ?_, trivial⟩ <;> first | (simp only [ua, e6, e7, e8, e9, nm, seval] <;> rfl) | rfl) ?_
 rintro tm ⟨e12, e13, e14, e15, _⟩
 obtain ⟨r16, o17, h⟩ := optI h kN
 try simp only [hs] at h
 simp only [vz, tyf, e12, e13, e14, e15, nm, seval]
 refine ktA (zcd _ _ _ o17) ?_
 refine zaf (fun tm => tm 1 = .ptr 0 0 ∧ tm 5 = .lit (.int .i64 2) ∧ tm 8 = .lit (.int .i64 (if (if 0 < r4 then r4 else 0) < r10 then r10 else (if 0 < r4 then r4 else 0))) ∧ tm 11 = .lit (.int .i64 r16) ∧ True) (by refine ⟨e12, ?_, ?_, ?_, trivial⟩ <;> first | (simp only [ua, e12, e13, e14, e15, nm, seval] <;> rfl) | rfl) ?_
 rintro tm ⟨e18, e19, e20, e21, _⟩
 try simp only [vz, tyf, e18, e19, e20, e21, nm, seval]
 refine zap (x := (.lit (.int .i64 (if (if (if 0 < r4 then r4 else 0) < r10 then r10 else (if 0 < r4 then r4 else 0)) < r16 then r16 else (if (if 0 < r4 then r4 else 0) < r10 then r10 else (if 0 < r4 then r4 else 0)))))) (by first | (simp only [Tryz.results81, resV, resL, resV1, zat, zbq, uw, cr, tyf, nm, seval] <;> rfl) | rfl) ?_
 obtain rfl := kF _ h
 refine zas ?_ ?_
 ·simp only [tre, tytre, Bool.and_self]
 ·first | (simp only [outV, uw, zah, cr, tyf, nrm, tynrm, e18, e19, e20, e21, nm, seval] <;> rfl) | rfl
def zfh (x0_a : Gm) (x1_b : Gm) : Option (Bool) := Option.bind (zbx x0_a) (fun r1 => Option.bind (zbx x1_b) (fun r2 => some (decide (r1 < r2))))
theorem zmi (x0_a : Gm) (x1_b : Gm) (R : Bool) (h : zfh x0_a x1_b = some R) : VPure Tryz.prog G0 80 [.agg (cGm x0_a), .agg (cGm x1_b)] (.tree (.lit (.bool R))) := by
 refine VPure.runR mixed Tryz.call80 Tryz.func80 rfl (by simp [Tryz.ntmps80]; kernel_rfl) ?_
 obtain ⟨KF, h, kF, kN⟩ := zan h
 simp only [zfh] at h
 simp only [vz, tyf, nm, seval]
 refine zds (fun tm => tm 2 = .ptr 0 0 ∧ tm 3 = .ptr 1 0 ∧ True) (by refine ⟨?_, ?_, trivial⟩ <;> first | (simp only [ua, nm, seval] <;> rfl) | rfl) ?_
 rintro tm ⟨e3, e4, _⟩
 obtain ⟨r5, o6, h⟩ := optI h kN
 try simp only [hs] at h
 simp only [vz, tyf, e3, e4, nm, seval]
 refine dktA (zeb _ _ o6) ?_
 refine zaf (fun tm => tm 3 = .ptr 1 0 ∧ tm 6 = .lit (.int .i64 r5) ∧ True) (by refine ⟨e4, ?_, trivial⟩ <;> first | (simp only [ua, e3, e4, nm, seval] <;> rfl) | rfl) ?_
 rintro tm ⟨e7, e8, _⟩
 obtain ⟨r9, o10, h⟩ := optI h kN
 try simp only [hs] at h
 simp only [vz, tyf, e7, e8, nm, seval]
 refine dktA (zeb _ _ o10) ?_
 refine zaf (fun tm => tm 6 = .lit (.int .i64 r5) ∧ tm 8 = .lit (.int .i64 r9) ∧ True) (by refine ⟨e8, ?_, trivial⟩ <;> first | (simp only [ua, e7, e8, nm, seval] <;> rfl) | rfl) ?_
 rintro tm ⟨e11, e12, _⟩
 try simp only [vz, tyf, e11, e12, nm, seval]
 obtain rfl := kF _ h
 exact zaj Tryz.results80 rfl
def zbj  : List Int → Int → (List Int) → Option (LOut (List Int) ((List Int)))
 | [], c0_9, c0_3 => some (.go c0_3)
 | e0 :: p0, c0_9, c0_3 => cond (decide (e0 > 0)) (cond (roomOk 8 (List.length (c0_3 ++ [c0_9]))) (zbj p0 (c0_9 + 1) (c0_3 ++ [c0_9])) none) (zbj p0 (c0_9 + 1) c0_3)
def zcp (x0_x : Gm) : Option (List Int) := cond (lenOk x0_x.mix) (lbind (zbj x0_x.mix 0 ([] : List Int)) (fun r2 => some r2) (fun c1 => some c1) (fun _ _ => none)) none
theorem zcl (x0_x : Gm) (R : List Int) (h : zcp x0_x = some R) : VPure Tryz.prog G0 84 [.agg (cGm x0_x)] (.tree (.sl (cellsL eI R) (List.length R) false)) := by
 refine VPure.runR mixed Tryz.call84 Tryz.func84 rfl (by simp [Tryz.ntmps84]; kernel_rfl) ?_
 obtain ⟨KF, h, kF, kN⟩ := zan h
 simp only [zcp] at h
 cases g4 : (lenOk x0_x.mix)
 ·simp only [g4, hs] at h
  exact absurd h kN
 simp only [g4, hs] at h
 simp only [vz, tyf, g4, nm, seval]
 obtain ⟨K3, h, kR3, kG3, kB3, kN3⟩ := zax h kN
 obtain ⟨f3, hf3, h⟩ := call3 h
 obtain ⟨I3, hI3⟩ : ∃ I : Nat → St → Prop, I = (fun m st => ∃ (p3 : List Int) (c3_9 : Int) (c3_3 : List Int) (y3_0 : VV), m = List.length p3 ∧ 0 ≤ c3_9 ∧ List.drop (Int.toNat c3_9) x0_x.mix = p3 ∧ st.df = [] ∧ 7 ≤ st.nx ∧ st.tm 7 = .sl (cellsL eI x0_x.mix) (List.length x0_x.mix) false ∧ st.tm 8 = .lit (.int .i64 (List.length x0_x.mix : Int)) ∧ st.tm 3 = y3_0 ∧ st.tm 9 = .lit (.int .i64 c3_9) ∧ ((∃ (β : Nat) (el : Option TypeId), y3_0 = .ref β 0 (List.length c3_3) 1 (List.length c3_3) ∧ β < st.nx ∧ st.H β = some (.cells el (cellsL eI c3_3))) ∨ (y3_0 = .lit (.slice none 0 0) ∧ c3_3 = [])) ∧ K3 (f3 p3 c3_9 c3_3)) := ⟨_, rfl⟩
 refine loopK mixed (by kernel_rfl) I3 (List.length x0_x.mix) (by rw [hI3]; refine ⟨x0_x.mix, 0, ([] : List Int), .lit (.slice none 0 0), rfl, Int.le_refl _, rfl, rfl, (show 7 ≤ 7 by omega), ?_, ?_, ?_, ?_, Or.inr ⟨rfl, rfl⟩, h⟩ <;> first | (simp only [ua, nm, seval] <;> rfl) | rfl) ?_
 rintro m ⟨tm, H, nx3, df⟩ hinv
 rw [hI3] at hinv
 obtain ⟨p3, c3_9, c3_3, y3_0, rfl, hi3, hp3, hdf, hn3, e5, e6, e7, e8, ow3_0, h⟩ := hinv
 simp only at hdf hn3 e5 e6 e7 e8 ow3_0
 have n9 := zct (m := 7) (b := nx3) (by omega)
 subst hdf hf3
 rcases ow3_0 with ⟨b3_0, el3_0, rfl, lq11, H10⟩ | ⟨rfl, rfl⟩
 ·have q11 := zaqe lq11
  cases p3 with
  | nil =>
   have d12 : (decide (c3_9 < (List.length x0_x.mix : Int))) = false := zaw hi3 hp3
   simp only [zbj, hs, reduceCtorEq] at h
   replace h := kG3 _ h
   try dsimp only at h
   try simp only [hs] at h
   try simp only [vz, tyf, g4, n9, e5, e6, e7, e8, q11, H10, d12, nm, seval]
   refine zap (x := (.ref b3_0 0 (List.length c3_3) 1 (List.length c3_3))) (by first | (simp only [Tryz.results84, resV, resL, resV1, zat, zbq, uw, cr, tyf, g4, n9, q11, H10, d12, nm, seval] <;> rfl) | rfl) ?_
   obtain rfl := kF _ h
   refine zas ?_ ?_
   ·simp only [tre, tytre, Bool.and_self]
   ·first | (simp only [outV, uw, zah, cr, tyf, nrm, tynrm, g4, n9, e5, e6, e7, e8, q11, H10, d12, nm, seval] <;> rfl) | rfl
  | cons e3 p3 =>
   have d13 : (decide (c3_9 < (List.length x0_x.mix : Int))) = true := zcj hi3 hp3
   have o15 := zba hi3 hp3
   have w14 := zdf hi3 hp3 g4
   simp only [zbj, hs, reduceCtorEq] at h
   cases d16 : (decide (e3 > 0))
   ·simp only [d16, hs] at h
    have b17 := And.intro g4 (And.intro n9 (And.intro q11 (And.intro H10 (And.intro d13 (And.intro w14 d16)))))
    simp only [vz, tyf, b17, e5, e6, e7, e8, (ix29 o15), nm, seval]
    exact ⟨List.length p3, Nat.lt_succ_self _, by rw [hI3]; refine ⟨p3, c3_9 + 1, c3_3, .ref b3_0 0 (List.length c3_3) 1 (List.length c3_3), rfl, Int.le_trans hi3 (Int.le_add_one (Int.le_refl _)), zbt hi3 hp3, rfl, (show 7 ≤ nx3 + 10 by omega), e5, e6, ?_, ?_, Or.inl ⟨b3_0, el3_0, rfl, (by first | omega | (simp only [nm, seval]; omega)), ?_⟩, h⟩ <;> first | (simp only [ua, b17, e5, e6, e7, e8, nm, seval] <;> rfl) | rfl⟩
   simp only [d16, hs] at h
   have b18 := And.intro g4 (And.intro n9 (And.intro q11 (And.intro H10 (And.intro d13 (And.intro w14 d16)))))
   cases g19 : (roomOk 8 (List.length (c3_3 ++ [c3_9])))
   ·simp only [g19, hs] at h
    exact absurd h kN3
   simp only [g19, hs] at h
   simp only [vz, tyf, b18, e5, e6, e7, e8, (ix29 o15), g19, nm, seval]
   refine k_app (w := 1) (enc := eI) (xs := c3_3) (ys := ([c3_9])) (el := el3_0) (el2 := (some 3)) (fun _ => rfl) lf29 ao29 Tryz.underlying29 (by first | rfl | assumption | (simp only [zaa, zaq, et29, b18, nm, seval] <;> rfl) | (simp only [zaa, zaq, zir, zdz, zzv, zsf, tyf, b18, e5, e6, e7, e8, (ix29 o15), g19, nm, seval]; done)) (by first | rfl | assumption | (simp only [zaa, zaq, et29, b18, nm, seval] <;> rfl) | (simp only [zaa, zaq, zir, zdz, zzv, zsf, tyf, b18, e5, e6, e7, e8, (ix29 o15), g19, nm, seval]; done)) (Nat.zero_lt_succ _) g19 ?_
   simp only [vz, tyf, b18, e5, e6, e7, e8, (ix29 o15), g19, nm, seval]
   exact ⟨List.length p3, Nat.lt_succ_self _, by rw [hI3]; refine ⟨p3, c3_9 + 1, (c3_3 ++ [c3_9]), .ref (nx3 + 11) 0 (List.length (c3_3 ++ [c3_9])) 1 (List.length (c3_3 ++ [c3_9])), rfl, Int.le_trans hi3 (Int.le_add_one (Int.le_refl _)), zbt hi3 hp3, rfl, (show 7 ≤ nx3 + 15 by omega), e5, e6, ?_, ?_, Or.inl ⟨nx3 + 11, (sameEl el3_0 3), rfl, (by first | omega | (simp only [nm, seval]; omega)), ?_⟩, h⟩ <;> first | (simp only [ua, b18, e5, e6, e7, e8, nm, seval] <;> rfl) | rfl⟩
 ·cases p3 with
  | nil =>
   have d20 : (decide (c3_9 < (List.length x0_x.mix : Int))) = false := zaw hi3 hp3
   simp only [zbj, hs, reduceCtorEq] at h
   replace h := kG3 _ h
   try dsimp only at h
   try simp only [hs] at h
   try simp only [vz, tyf, g4, n9, e5, e6, e7, e8, d20, nm, seval]
   refine zap (x := (.lit (.slice none 0 0))) (by first | (simp only [Tryz.results84, resV, resL, resV1, zat, zbq, uw, cr, tyf, g4, n9, d20, nm, seval] <;> rfl) | rfl) ?_
   obtain rfl := kF _ h
   refine zas ?_ ?_
   ·simp only [tre, tytre, Bool.and_self]
   ·first | (simp only [outV, uw, zah, cr, tyf, nrm, tynrm, g4, n9, e5, e6, e7, e8, d20, nm, seval] <;> rfl) | rfl
  | cons e3 p3 =>
   have d21 : (decide (c3_9 < (List.length x0_x.mix : Int))) = true := zcj hi3 hp3
   have o23 := zba hi3 hp3
   have w22 := zdf hi3 hp3 g4
   simp only [zbj, hs, reduceCtorEq] at h
   cases d24 : (decide (e3 > 0))
   ·simp only [d24, hs] at h
    simp only [vz, tyf, g4, n9, e5, e6, e7, e8, d21, (ix29 o23), w22, d24, nm, seval]
    exact ⟨List.length p3, Nat.lt_succ_self _, by rw [hI3]; refine ⟨p3, c3_9 + 1, ([] : List Int), .lit (.slice none 0 0), rfl, Int.le_trans hi3 (Int.le_add_one (Int.le_refl _)), zbt hi3 hp3, rfl, (show 7 ≤ nx3 + 10 by omega), e5, e6, ?_, ?_, Or.inr ⟨rfl, rfl⟩, h⟩ <;> first | (simp only [ua, n9, e5, e6, e7, e8, d21, w22, d24, nm, seval] <;> rfl) | rfl⟩
   simp only [d24, hs] at h
   cases g25 : (roomOk 8 (List.length (([] : List Int) ++ [c3_9])))
   ·simp only [g25, hs] at h
    exact absurd h kN3
   simp only [g25, hs] at h
   simp only [vz, tyf, g4, n9, e5, e6, e7, e8, d21, (ix29 o23), w22, d24, g25, nm, seval]
   refine zamy (w := 1) (enc := eI) (ys := ([c3_9])) (el2 := (some 3)) (fun _ => rfl) lf29 ao29 Tryz.underlying29 (by first | rfl | assumption | (simp only [zaa, zaq, et29, n9, nm, seval] <;> rfl) | (simp only [zaa, zaq, zir, zdz, zzv, zsf, tyf, g4, n9, e5, e6, e7, e8, d21, (ix29 o23), w22, d24, g25, nm, seval]; done)) (Nat.zero_lt_succ _) g25 ?_
   simp only [vz, tyf, g4, n9, e5, e6, e7, e8, d21, (ix29 o23), w22, d24, g25, nm, seval]
   exact ⟨List.length p3, Nat.lt_succ_self _, by rw [hI3]; refine ⟨p3, c3_9 + 1, (([] : List Int) ++ [c3_9]), .ref (nx3 + 11) 0 (List.length (([] : List Int) ++ [c3_9])) 1 (List.length (([] : List Int) ++ [c3_9])), rfl, Int.le_trans hi3 (Int.le_add_one (Int.le_refl _)), zbt hi3 hp3, rfl, (show 7 ≤ nx3 + 15 by omega), e5, e6, ?_, ?_, Or.inl ⟨nx3 + 11, (some 3), rfl, (by first | omega | (simp only [nm, seval]; omega)), ?_⟩, h⟩ <;> first | (simp only [ua, n9, e5, e6, e7, e8, d21, w22, d24, nm, seval] <;> rfl) | rfl⟩
def zfe (x0_x : Int) : Option (Bool) := some (x0_x != x0_x)
theorem zgw (x0_x : Int) (R : Bool) (h : zfe x0_x = some R) : VPure Tryz.prog G0 129 [.lit (.int .i64 x0_x)] (.tree (.lit (.bool R))) := by
 refine VPure.runR mixed Tryz.call129 Tryz.func129 rfl (by simp [Tryz.ntmps129]; kernel_rfl) ?_
 obtain ⟨KF, h, kF, kN⟩ := zan h
 simp only [zfe] at h
 try simp only [vz, tyf, nm, seval]
 obtain rfl := kF _ h
 exact zaj Tryz.results129 rfl
def zel (x0_x : Int) (x1_y : Int) : Option (Int) := Option.bind (zfe x0_x) (fun r1 => Option.bind (zfe x1_y) (fun r2 => cond (r1) (cond (r2) (some 0) (some (-1))) (cond (r2) (some 1) (cond (decide (x0_x < x1_y)) (some (-1)) (cond (decide (x0_x > x1_y)) (some 1) (some 0))))))
theorem zgc (x0_x : Int) (x1_y : Int) (R : Int) (h : zel x0_x x1_y = some R) : VPure Tryz.prog G0 113 [.lit (.int .i64 x0_x), .lit (.int .i64 x1_y)] (.tree (.lit (.int .i64 R))) := by
 refine VPure.runR mixed Tryz.call113 Tryz.func113 rfl (by simp [Tryz.ntmps113]; kernel_rfl) ?_
 obtain ⟨KF, h, kF, kN⟩ := zan h
 simp only [zel] at h
 obtain ⟨r3, o4, h⟩ := optI h kN
 try simp only [hs] at h
 simp only [vz, tyf, nm, seval]
 refine ktA (zgw _ _ o4) ?_
 refine zaf (fun tm => tm 0 = .lit (.int .i64 x0_x) ∧ tm 1 = .lit (.int .i64 x1_y) ∧ tm 8 = .lit (.bool r3) ∧ True) (by refine ⟨?_, ?_, ?_, trivial⟩ <;> first | (simp only [ua, nm, seval] <;> rfl) | rfl) ?_
 rintro tm ⟨e5, e6, e7, _⟩
 obtain ⟨r8, o9, h⟩ := optI h kN
 try simp only [hs] at h
 simp only [vz, tyf, e5, e6, e7, nm, seval]
 refine ktA (zgw _ _ o9) ?_
 refine zaf (fun tm => tm 0 = .lit (.int .i64 x0_x) ∧ tm 1 = .lit (.int .i64 x1_y) ∧ tm 5 = .lit (.bool r3) ∧ tm 10 = .lit (.bool r8) ∧ True) (by refine ⟨e5, e6, ?_, ?_, trivial⟩ <;> first | (simp only [ua, e5, e6, e7, nm, seval] <;> rfl) | rfl) ?_
 rintro tm ⟨e10, e11, e12, e13, _⟩
 cases d14 : (r3)
 ·simp only [d14, hs] at h
  cases d15 : (r8)
  ·simp only [d15, hs] at h
   cases d16 : (decide (x0_x < x1_y))
   ·simp only [d16, hs] at h
    cases d17 : (decide (x0_x > x1_y))
    ·simp only [d17, hs] at h
     try simp only [vz, tyf, e10, e11, e12, e13, d14, d15, d16, d17, nm, seval]
     refine zap (x := (.lit (.int .i64 0))) (by first | (simp only [Tryz.results113, resV, resL, resV1, zat, zbq, uw, cr, tyf, d14, d15, d16, d17, nm, seval] <;> rfl) | rfl) ?_
     obtain rfl := kF _ h
     refine zas ?_ ?_
     ·simp only [tre, tytre, Bool.and_self]
     ·first | (simp only [outV, uw, zah, cr, tyf, nrm, tynrm, e10, e11, e12, e13, d14, d15, d16, d17, nm, seval] <;> rfl) | rfl
    simp only [d17, hs] at h
    try simp only [vz, tyf, e10, e11, e12, e13, d14, d15, d16, d17, nm, seval]
    refine zap (x := (.lit (.int .i64 1))) (by first | (simp only [Tryz.results113, resV, resL, resV1, zat, zbq, uw, cr, tyf, d14, d15, d16, d17, nm, seval] <;> rfl) | rfl) ?_
    obtain rfl := kF _ h
    refine zas ?_ ?_
    ·simp only [tre, tytre, Bool.and_self]
    ·first | (simp only [outV, uw, zah, cr, tyf, nrm, tynrm, e10, e11, e12, e13, d14, d15, d16, d17, nm, seval] <;> rfl) | rfl
   simp only [d16, hs] at h
   try simp only [vz, tyf, e10, e11, e12, e13, d14, d15, d16, nm, seval]
   refine zap (x := (.lit (.int .i64 (-1)))) (by first | (simp only [Tryz.results113, resV, resL, resV1, zat, zbq, uw, cr, tyf, d14, d15, d16, nm, seval] <;> rfl) | rfl) ?_
   obtain rfl := kF _ h
   refine zas ?_ ?_
   ·simp only [tre, tytre, Bool.and_self]
   ·first | (simp only [outV, uw, zah, cr, tyf, nrm, tynrm, e10, e11, e12, e13, d14, d15, d16, nm, seval] <;> rfl) | rfl
  simp only [d15, hs] at h
  try simp only [vz, tyf, e10, e11, e12, e13, d14, d15, nm, seval]
  refine zap (x := (.lit (.int .i64 1))) (by first | (simp only [Tryz.results113, resV, resL, resV1, zat, zbq, uw, cr, tyf, d14, d15, nm, seval] <;> rfl) | rfl) ?_
  obtain rfl := kF _ h
  refine zas ?_ ?_
  ·simp only [tre, tytre, Bool.and_self]
  ·first | (simp only [outV, uw, zah, cr, tyf, nrm, tynrm, e10, e11, e12, e13, d14, d15, nm, seval] <;> rfl) | rfl
 simp only [d14, hs] at h
 cases d18 : (r8)
 ·simp only [d18, hs] at h
  try simp only [vz, tyf, e10, e11, e12, e13, d14, d18, nm, seval]
  refine zap (x := (.lit (.int .i64 (-1)))) (by first | (simp only [Tryz.results113, resV, resL, resV1, zat, zbq, uw, cr, tyf, d14, d18, nm, seval] <;> rfl) | rfl) ?_
  obtain rfl := kF _ h
  refine zas ?_ ?_
  ·simp only [tre, tytre, Bool.and_self]
  ·first | (simp only [outV, uw, zah, cr, tyf, nrm, tynrm, e10, e11, e12, e13, d14, d18, nm, seval] <;> rfl) | rfl
 simp only [d18, hs] at h
 try simp only [vz, tyf, e10, e11, e12, e13, d14, d18, nm, seval]
 refine zap (x := (.lit (.int .i64 0))) (by first | (simp only [Tryz.results113, resV, resL, resV1, zat, zbq, uw, cr, tyf, d14, d18, nm, seval] <;> rfl) | rfl) ?_
 obtain rfl := kF _ h
 refine zas ?_ ?_
 ·simp only [tre, tytre, Bool.and_self]
 ·first | (simp only [outV, uw, zah, cr, tyf, nrm, tynrm, e10, e11, e12, e13, d14, d18, nm, seval] <;> rfl) | rfl
def zfd  : List Int → Int → Option (LOut (Int) (Unit))
 | [], c0_8 => some (.go ())
 | e0 :: p0, c0_8 => cond (e0 != 0) (some (.ret e0)) (zfd p0 (c0_8 + 1))
def zjl (x0_vals : List Int) : Option (Int) := cond (lenOk x0_vals) (lbind (zfd x0_vals 0) (fun r2 => some r2) (fun c1 => some 0) (fun _ _ => none)) none
theorem zns (x0_vals : List Int) (R : Int) (h : zjl x0_vals = some R) : VPure Tryz.prog G0 112 [.sl (cellsL eI x0_vals) (List.length x0_vals) false] (.tree (.lit (.int .i64 R))) := by
 refine VPure.runR mixed Tryz.call112 Tryz.func112 rfl (by simp [Tryz.ntmps112]; kernel_rfl) ?_
 obtain ⟨KF, h, kF, kN⟩ := zan h
 simp only [zjl] at h
 cases g4 : (lenOk x0_vals)
 ·simp only [g4, hs] at h
  exact absurd h kN
 simp only [g4, hs] at h
 simp only [vz, tyf, g4, nm, seval]
 obtain ⟨K3, h, kR3, kG3, kB3, kN3⟩ := zax h kN
 obtain ⟨f3, hf3, h⟩ := call2 h
 obtain ⟨I3, hI3⟩ : ∃ I : Nat → St → Prop, I = (fun m st => ∃ (p3 : List Int) (c3_8 : Int), m = List.length p3 ∧ 0 ≤ c3_8 ∧ List.drop (Int.toNat c3_8) x0_vals = p3 ∧ st.df = [] ∧ 5 ≤ st.nx ∧ st.tm 3 = .lit (.int .i64 0) ∧ st.tm 6 = .sl (cellsL eI x0_vals) (List.length x0_vals) false ∧ st.tm 7 = .lit (.int .i64 (List.length x0_vals : Int)) ∧ st.tm 8 = .lit (.int .i64 c3_8) ∧ K3 (f3 p3 c3_8)) := ⟨_, rfl⟩
 refine loopK mixed (by kernel_rfl) I3 (List.length x0_vals) (by rw [hI3]; refine ⟨x0_vals, 0, rfl, Int.le_refl _, rfl, rfl, (show 5 ≤ 5 by omega), ?_, ?_, ?_, ?_, h⟩ <;> first | (simp only [ua, nm, seval] <;> rfl) | rfl) ?_
 rintro m ⟨tm, H, nx3, df⟩ hinv
 rw [hI3] at hinv
 obtain ⟨p3, c3_8, rfl, hi3, hp3, hdf, hn3, e5, e6, e7, e8, h⟩ := hinv
 simp only at hdf hn3 e5 e6 e7 e8
 have n9 := zct (m := 5) (b := nx3) (by omega)
 subst hdf hf3
 cases p3 with
 | nil =>
  have d10 : (decide (c3_8 < (List.length x0_vals : Int))) = false := zaw hi3 hp3
  simp only [zfd, hs, reduceCtorEq] at h
  replace h := kG3 _ h
  try dsimp only at h
  try simp only [hs] at h
  try simp only [vz, tyf, g4, n9, e5, e6, e7, e8, d10, nm, seval]
  refine zap (x := (.lit (.int .i64 0))) (by first | (simp only [Tryz.results112, resV, resL, resV1, zat, zbq, uw, cr, tyf, g4, n9, d10, nm, seval] <;> rfl) | rfl) ?_
  obtain rfl := kF _ h
  refine zas ?_ ?_
  ·simp only [tre, tytre, Bool.and_self]
  ·first | (simp only [outV, uw, zah, cr, tyf, nrm, tynrm, g4, n9, e5, e6, e7, e8, d10, nm, seval] <;> rfl) | rfl
 | cons e3 p3 =>
  have d11 : (decide (c3_8 < (List.length x0_vals : Int))) = true := zcj hi3 hp3
  have o13 := zba hi3 hp3
  have w12 := zdf hi3 hp3 g4
  simp only [zfd, hs, reduceCtorEq] at h
  cases d14 : (e3 != 0)
  ·simp only [d14, hs] at h
   simp only [vz, tyf, g4, n9, e5, e6, e7, e8, d11, (ix29 o13), w12, d14, nm, seval]
   exact ⟨List.length p3, Nat.lt_succ_self _, by rw [hI3]; refine ⟨p3, c3_8 + 1, rfl, Int.le_trans hi3 (Int.le_add_one (Int.le_refl _)), zbt hi3 hp3, rfl, (show 5 ≤ nx3 + 9 by omega), e5, e6, e7, ?_, h⟩ <;> first | (simp only [ua, n9, e5, e6, e7, e8, d11, w12, d14, nm, seval] <;> rfl) | rfl⟩
  simp only [d14, hs] at h
  try simp only [vz, tyf, g4, n9, e5, e6, e7, e8, d11, (ix29 o13), w12, d14, nm, seval]
  refine zap (x := (.lit (.int .i64 e3))) (by first | (simp only [Tryz.results112, resV, resL, resV1, zat, zbq, uw, cr, tyf, g4, n9, d11, (ix29 o13), w12, d14, nm, seval] <;> rfl) | rfl) ?_
  replace h := kR3 _ h
  try dsimp only at h
  obtain rfl := kF _ h
  refine zas ?_ ?_
  ·simp only [tre, tytre, Bool.and_self]
  ·first | (simp only [outV, uw, zah, cr, tyf, nrm, tynrm, g4, n9, e5, e6, e7, e8, d11, (ix29 o13), w12, d14, nm, seval] <;> rfl) | rfl
def zbr (x1_s2 : List Int) : List Int → Int → Option (LOut (Int) (Unit))
 | [], c0_11 => some (.go ())
 | e0 :: p0, c0_11 => cond (decide (c0_11 ≥ (List.length x1_s2 : Int))) (some (.ret 1)) (Option.bind (getI x1_s2 c0_11) (fun x1 => Option.bind (zel e0 x1) (fun r2 => cond (r2 != 0) (some (.ret r2)) (zbr x1_s2 p0 (c0_11 + 1)))))
def zdg (x0_s1 : List Int) (x1_s2 : List Int) : Option (Int) := cond (lenOk x0_s1) (lbind (zbr x1_s2 x0_s1 0) (fun r4 => some r4) (fun c3 => cond (decide ((List.length x0_s1 : Int) < (List.length x1_s2 : Int))) (some (-1)) (some 0)) (fun _ _ => none)) none
theorem zgf (x0_s1 : List Int) (x1_s2 : List Int) (R : Int) (h : zdg x0_s1 x1_s2 = some R) : VPure Tryz.prog G0 114 [.sl (cellsL eI x0_s1) (List.length x0_s1) false, .sl (cellsL eI x1_s2) (List.length x1_s2) false] (.tree (.lit (.int .i64 R))) := by
 refine VPure.runR mixed Tryz.call114 Tryz.func114 rfl (by simp [Tryz.ntmps114]; kernel_rfl) ?_
 obtain ⟨KF, h, kF, kN⟩ := zan h
 simp only [zdg] at h
 cases g6 : (lenOk x0_s1)
 ·simp only [g6, hs] at h
  exact absurd h kN
 simp only [g6, hs] at h
 simp only [vz, tyf, g6, nm, seval]
 obtain ⟨K5, h, kR5, kG5, kB5, kN5⟩ := zax h kN
 obtain ⟨f5, hf5, h⟩ := call2 h
 obtain ⟨I5, hI5⟩ : ∃ I : Nat → St → Prop, I = (fun m st => ∃ (p5 : List Int) (c5_11 : Int), m = List.length p5 ∧ 0 ≤ c5_11 ∧ List.drop (Int.toNat c5_11) x0_s1 = p5 ∧ st.df = [] ∧ 4 ≤ st.nx ∧ st.tm 0 = .sl (cellsL eI x0_s1) (List.length x0_s1) false ∧ st.tm 1 = .sl (cellsL eI x1_s2) (List.length x1_s2) false ∧ st.tm 9 = .sl (cellsL eI x0_s1) (List.length x0_s1) false ∧ st.tm 10 = .lit (.int .i64 (List.length x0_s1 : Int)) ∧ st.tm 11 = .lit (.int .i64 c5_11) ∧ K5 (f5 p5 c5_11)) := ⟨_, rfl⟩
 refine loopK mixed (by kernel_rfl) I5 (List.length x0_s1) (by rw [hI5]; refine ⟨x0_s1, 0, rfl, Int.le_refl _, rfl, rfl, (show 4 ≤ 4 by omega), ?_, ?_, ?_, ?_, ?_, h⟩ <;> first | (simp only [ua, nm, seval] <;> rfl) | rfl) ?_
 rintro m ⟨tm, H, nx5, df⟩ hinv
 rw [hI5] at hinv
 obtain ⟨p5, c5_11, rfl, hi5, hp5, hdf, hn5, e7, e8, e9, e10, e11, h⟩ := hinv
 simp only at hdf hn5 e7 e8 e9 e10 e11
 have n12 := zct (m := 4) (b := nx5) (by omega)
 subst hdf hf5
 cases p5 with
 | nil =>
  have d13 : (decide (c5_11 < (List.length x0_s1 : Int))) = false := zaw hi5 hp5
  simp only [zbr, hs, reduceCtorEq] at h
  replace h := kG5 _ h
  try dsimp only at h
  try simp only [hs] at h
  cases d14 : (decide ((List.length x0_s1 : Int) < (List.length x1_s2 : Int)))
  ·simp only [d14, hs] at h
   try simp only [vz, tyf, g6, n12, e7, e8, e9, e10, e11, d13, d14, nm, seval]
   refine zap (x := (.lit (.int .i64 0))) (by first | (simp only [Tryz.results114, resV, resL, resV1, zat, zbq, uw, cr, tyf, g6, n12, d13, d14, nm, seval] <;> rfl) | rfl) ?_
   obtain rfl := kF _ h
   refine zas ?_ ?_
   ·simp only [tre, tytre, Bool.and_self]
   ·first | (simp only [outV, uw, zah, cr, tyf, nrm, tynrm, g6, n12, e7, e8, e9, e10, e11, d13, d14, nm, seval] <;> rfl) | rfl
  simp only [d14, hs] at h
  try simp only [vz, tyf, g6, n12, e7, e8, e9, e10, e11, d13, d14, nm, seval]
  refine zap (x := (.lit (.int .i64 (-1)))) (by first | (simp only [Tryz.results114, resV, resL, resV1, zat, zbq, uw, cr, tyf, g6, n12, d13, d14, nm, seval] <;> rfl) | rfl) ?_
  obtain rfl := kF _ h
  refine zas ?_ ?_
  ·simp only [tre, tytre, Bool.and_self]
  ·first | (simp only [outV, uw, zah, cr, tyf, nrm, tynrm, g6, n12, e7, e8, e9, e10, e11, d13, d14, nm, seval] <;> rfl) | rfl
 | cons e5 p5 =>
  have d15 : (decide (c5_11 < (List.length x0_s1 : Int))) = true := zcj hi5 hp5
  have o17 := zba hi5 hp5
  have w16 := zdf hi5 hp5 g6
  simp only [zbr, hs, reduceCtorEq] at h
  cases d18 : (decide (c5_11 ≥ (List.length x1_s2 : Int)))
  ·simp only [d18, hs] at h
   obtain ⟨x19, o20, h⟩ := optI h kN5
   try simp only [hs] at h
   obtain ⟨r21, o22, h⟩ := optI h kN5
   try simp only [hs] at h
   simp only [vz, tyf, g6, n12, e7, e8, e9, e10, e11, d15, (ix29 o17), w16, d18, (ix29 o20), nm, seval]
   refine ktA (zgc _ _ _ o22) ?_
   refine zaf (fun tm => tm 0 = .sl (cellsL eI x0_s1) (List.length x0_s1) false ∧ tm 1 = .sl (cellsL eI x1_s2) (List.length x1_s2) false ∧ tm 9 = .sl (cellsL eI x0_s1) (List.length x0_s1) false ∧ tm 10 = .lit (.int .i64 (List.length x0_s1 : Int)) ∧ tm 11 = .lit (.int .i64 c5_11) ∧ tm 26 = .lit (.int .i64 r21) ∧ True) (by refine ⟨e7, e8, e9, e10, e11, ?_, trivial⟩ <;> first | (simp only [ua, n12, e7, e8, e9, e10, e11, d15, w16, d18, nm, seval] <;> rfl) | rfl) ?_
   rintro tm ⟨e23, e24, e25, e26, e27, e28, _⟩
   cases d29 : (r21 != 0)
   ·simp only [d29, hs] at h
    simp only [vz, tyf, g6, n12, d15, (ix29 o17), w16, d18, (ix29 o20), e23, e24, e25, e26, e27, e28, d29, nm, seval]
    exact ⟨List.length p5, Nat.lt_succ_self _, by rw [hI5]; refine ⟨p5, c5_11 + 1, rfl, Int.le_trans hi5 (Int.le_add_one (Int.le_refl _)), zbt hi5 hp5, rfl, (show 4 ≤ nx5 + 23 by omega), e23, e24, e25, e26, ?_, h⟩ <;> first | (simp only [ua, n12, d15, w16, d18, e23, e24, e25, e26, e27, e28, d29, nm, seval] <;> rfl) | rfl⟩
   simp only [d29, hs] at h
   try simp only [vz, tyf, g6, n12, d15, (ix29 o17), w16, d18, (ix29 o20), e23, e24, e25, e26, e27, e28, d29, nm, seval]
   refine zap (x := (.lit (.int .i64 r21))) (by first | (simp only [Tryz.results114, resV, resL, resV1, zat, zbq, uw, cr, tyf, g6, n12, d15, (ix29 o17), w16, d18, (ix29 o20), d29, nm, seval] <;> rfl) | rfl) ?_
   replace h := kR5 _ h
   try dsimp only at h
   obtain rfl := kF _ h
   refine zas ?_ ?_
   ·simp only [tre, tytre, Bool.and_self]
   ·first | (simp only [outV, uw, zah, cr, tyf, nrm, tynrm, g6, n12, d15, (ix29 o17), w16, d18, (ix29 o20), e23, e24, e25, e26, e27, e28, d29, nm, seval] <;> rfl) | rfl
  simp only [d18, hs] at h
  try simp only [vz, tyf, g6, n12, e7, e8, e9, e10, e11, d15, (ix29 o17), w16, d18, nm, seval]
  refine zap (x := (.lit (.int .i64 1))) (by first | (simp only [Tryz.results114, resV, resL, resV1, zat, zbq, uw, cr, tyf, g6, n12, d15, (ix29 o17), w16, d18, nm, seval] <;> rfl) | rfl) ?_
  replace h := kR5 _ h
  try dsimp only at h
  obtain rfl := kF _ h
  refine zas ?_ ?_
  ·simp only [tre, tytre, Bool.and_self]
  ·first | (simp only [outV, uw, zah, cr, tyf, nrm, tynrm, g6, n12, e7, e8, e9, e10, e11, d15, (ix29 o17), w16, d18, nm, seval] <;> rfl) | rfl
def zcq (x0_a : Gm) (x1_b : Gm) : Option (Bool) := Option.bind (zcp x0_a) (fun r1 => Option.bind (zcp x1_b) (fun r2 => Option.bind (zel (List.length r1 : Int) (List.length r2 : Int)) (fun r3 => Option.bind (zdg r1 r2) (fun r4 => Option.bind (zjl ([r3, r4])) (fun r5 => some (decide (r5 < 0)))))))
theorem zib (x0_a : Gm) (x1_b : Gm) (R : Bool) (h : zcq x0_a x1_b = some R) : VPure Tryz.prog G0 83 [.agg (cGm x0_a), .agg (cGm x1_b)] (.tree (.lit (.bool R))) := by
 refine VPure.runR mixed Tryz.call83 Tryz.func83 rfl (by simp [Tryz.ntmps83]; kernel_rfl) ?_
 obtain ⟨KF, h, kF, kN⟩ := zan h
 simp only [zcq] at h
 simp only [vz, tyf, nm, seval]
 refine zea (fun tm => tm 2 = .ptr 0 0 ∧ tm 3 = .ptr 1 0 ∧ True) (by refine ⟨?_, ?_, trivial⟩ <;> first | (simp only [ua, nm, seval] <;> rfl) | rfl) ?_
 rintro tm ⟨e6, e7, _⟩
 obtain ⟨r8, o9, h⟩ := optI h kN
 try simp only [hs] at h
 simp only [vz, tyf, e6, e7, nm, seval]
 refine dktA (zcl _ _ o9) ?_
 refine zaf (fun tm => tm 2 = .ptr 0 0 ∧ tm 3 = .ptr 1 0 ∧ tm 6 = .sl (cellsL eI r8) (List.length r8) false ∧ True) (by refine ⟨e6, e7, ?_, trivial⟩ <;> first | (simp only [ua, e6, e7, nm, seval] <;> rfl) | rfl) ?_
 rintro tm ⟨e10, e11, e12, _⟩
 obtain ⟨r13, o14, h⟩ := optI h kN
 try simp only [hs] at h
 simp only [vz, tyf, e10, e11, e12, nm, seval]
 refine dktA (zcl _ _ o14) ?_
 refine zaf (fun tm => tm 2 = .ptr 0 0 ∧ tm 3 = .ptr 1 0 ∧ tm 7 = .lit (.int .i64 (List.length r8 : Int)) ∧ tm 9 = .sl (cellsL eI r13) (List.length r13) false ∧ True) (by refine ⟨e10, e11, ?_, ?_, trivial⟩ <;> first | (simp only [ua, e10, e11, e12, nm, seval] <;> rfl) | rfl) ?_
 rintro tm ⟨e15, e16, e17, e18, _⟩
 obtain ⟨r19, o20, h⟩ := optI h kN
 try simp only [hs] at h
 simp only [vz, tyf, e15, e16, e17, e18, nm, seval]
 refine dktA (zgc _ _ _ o20) ?_
 refine zaf (fun tm => tm 2 = .ptr 0 0 ∧ tm 3 = .ptr 1 0 ∧ tm 11 = .lit (.int .i64 r19) ∧ True) (by refine ⟨e15, e16, ?_, trivial⟩ <;> first | (simp only [ua, e15, e16, e17, e18, nm, seval] <;> rfl) | rfl) ?_
 rintro tm ⟨e21, e22, e23, _⟩
 simp only [vz, tyf, e21, e22, e23, nm, seval]
 refine dktA (zcl _ _ o9) ?_
 refine zaf (fun tm => tm 3 = .ptr 1 0 ∧ tm 11 = .lit (.int .i64 r19) ∧ tm 13 = .sl (cellsL eI r8) (List.length r8) false ∧ True) (by refine ⟨e22, e23, ?_, trivial⟩ <;> first | (simp only [ua, e21, e22, e23, nm, seval] <;> rfl) | rfl) ?_
 rintro tm ⟨e24, e25, e26, _⟩
 simp only [vz, tyf, e24, e25, e26, nm, seval]
 refine dktA (zcl _ _ o14) ?_
 refine zaf (fun tm => tm 11 = .lit (.int .i64 r19) ∧ tm 13 = .sl (cellsL eI r8) (List.length r8) false ∧ tm 15 = .sl (cellsL eI r13) (List.length r13) false ∧ True) (by refine ⟨e25, e26, ?_, trivial⟩ <;> first | (simp only [ua, e24, e25, e26, nm, seval] <;> rfl) | rfl) ?_
 rintro tm ⟨e27, e28, e29, _⟩
 obtain ⟨r30, o31, h⟩ := optI h kN
 try simp only [hs] at h
 simp only [vz, tyf, e27, e28, e29, nm, seval]
 refine dktA (zgf _ _ _ o31) ?_
 refine zaf (fun tm => tm 11 = .lit (.int .i64 r19) ∧ tm 16 = .lit (.int .i64 r30) ∧ True) (by refine ⟨e27, ?_, trivial⟩ <;> first | (simp only [ua, e27, e28, e29, nm, seval] <;> rfl) | rfl) ?_
 rintro tm ⟨e32, e33, _⟩
 obtain ⟨r34, o35, h⟩ := optI h kN
 try simp only [hs] at h
 simp only [vz, tyf, e32, e33, nm, seval]
 refine dkseen1 (w := 1) (enc := eI) (xs := ([r19, r30])) (el := (some 3)) ⟨eI_ok.tree, eI_ok.norm⟩ (fun _ => rfl) (by simp only [List.length_cons, List.length_nil]; decide) (by simp only [zaa, zaq, et29, nm, seval] <;> rfl) (zns _ _ o35) (by first | rfl | simp only [VV.flat, flatL, Bool.and_self]) ?_
 refine zaf (fun tm => tm 18 = .lit (.int .i64 r34) ∧ True) (by refine ⟨?_, trivial⟩ <;> first | (simp only [ua, e32, e33, nm, seval] <;> rfl) | rfl) ?_
 rintro tm ⟨e36, _⟩
 simp only [vz, tyf, e36, nm, seval]
 refine zcr ⟨?_, ?_⟩
 ·simp only [zbl, zbv, zam, zdy, and_true, true_and]
  repeat' (first | exact trivial | refine And.intro ?_ ?_ | rw [zam] | rw [zcs] | exact Or.inl (by decide +kernel) | exact Or.inl (by dsimp only; decide +kernel) | (refine Or.inr ⟨?_, ?_⟩ <;> simp; done) | (refine Or.inr ⟨?_, ?_⟩ <;> simp <;> omega) | (refine Or.inr ⟨?_, ?_⟩ <;> simp [VEff.wr] <;> omega))
 try simp only [vz, tyf, e36, nm, seval]
 obtain rfl := kF _ h
 exact zaj Tryz.results83 rfl
theorem ktreeP {P : Program} {G : Glob} {f : FuncId} {args : List VV} {x : VV} {d : Option Tmp} {γ : Nat} {tm : Nat → VV} {H : Nat → Option VObj} {nx : Nat} {df : List VDef} {K : St → Prop} {Qp : VV → St → Prop} (ht : treeL args = true) (hp : VPure P G f args (.tree x)) (h : fin d γ tm H nx df K x .none) : callK P G f args ⟨tm, H, nx, df⟩ d γ K Qp := by
 refine .inl ⟨ht, .tree x, hp, ?_⟩
 rw [← zgo (K := K), zay] at h
 exact h
def zkk (s : Gs) : Option (List Int × Int × Int) := Option.bind (zbb s) fun b1 => cond b1
 (Option.bind (zhd s) fun L => Option.bind (bestO zfh L (zM, false)) fun r => Option.bind (zbx r.1) fun n => some (r.1.mix, n, 0))
 (some ([], 0, 2))
theorem zqd (s : Gs) (R : List Int × Int × Int) (h : zkk s = some R) : VPure Tryz.prog G0 50 [.agg (cGs s)] (.tree (.tup [.sl (cellsL eI R.1) (List.length R.1) false, .lit (.int .i64 R.2.1), .lit (.int .i64 R.2.2)])) := by
 refine VPure.runR mixed Tryz.call50 Tryz.func50 rfl (by simp [Tryz.ntmps50]; kernel_rfl) ?_
 unfold zkk at h
 rcases o0 : zbb s with _ | b
 ·rw [o0] at h; cases h
 rw [o0, Option.bind_some] at h
 simp only [vz, tyf, seval, ua, rg]
 refine ktA (zdk _ _ o0) ?_
 cases b with
 | false =>
  simp only [cond_false, Option.some.injEq] at h
  subst h
  simp only [vz, tyf, seval, ua, rg, Bool.not_false]
  refine zap (x := .tup [.lit (.slice none 0 0), .lit (.int .i64 0), .lit (.int .i64 2)]) (by simp only [Tryz.results50, resV, resL, resV1, zat, zbq, uw, cr, tyf, nm, seval] <;> rfl) ?_
  refine zas (by simp only [tre, tytre]; rfl) ?_
  simp only [outV, nrm, seval, List.map_cons, List.map_nil, zdz, List.length_nil]
 | true =>
 rw [cond_true] at h
 rcases o2 : zhd s with _ | L
 ·rw [o2] at h; cases h
 rw [o2, Option.bind_some] at h
 rcases o6 : bestO zfh L (zM, false) with _ | r
 ·rw [o6] at h; cases h
 rw [o6, Option.bind_some] at h
 rcases o7 : zbx r.1 with _ | n
 ·rw [o7] at h; cases h
 rw [o7, Option.bind_some, Option.some.injEq] at h
 have hbo := zvt (bf := 80) (mc := []) (zkw s L o2) rfl (better := zfh) (fun a b t ht => zmi a b t ht) r o6
 simp only [vz, tyf, seval, ua, rg, Bool.not_true]
 refine ktA (zow s) ?_
 simp only [vz, tyf, seval, ua, rg]
 refine ktreeP (by simp only [zgv, zka, zlv]; rfl) hbo ?_
 simp only [vz, tyf, seval, ua, rg]
 refine zds (fun tm => tm 5 = .ptr 13 0) (by simp only [ua, seval]) ?_
 intro tm e5
 simp only [vz, tyf, seval, ua, rg, e5]
 refine dktA (zeb _ _ o7) ?_
 simp only [vz, tyf, seval, ua, rg, e5]
 subst h
 refine zap (x := .tup [.sl (cellsL eI r.1.mix) r.1.mix.length false, .lit (.int .i64 n), .lit (.int .i64 0)]) (by simp only [Tryz.results50, resV, resL, resV1, zat, zbq, uw, cr, tyf, nm, seval] <;> rfl) ?_
 refine zas (by simp only [tre, tytre, Bool.and_self]) ?_
 simp only [outV, nrm, seval, List.map_cons, List.map_nil]
def zje (s : Gs) : Option (List Int × Int) := Option.bind (zbb s) fun b1 => cond b1
 (Option.bind (zkx s) fun L => Option.bind (bestO zcq L (zM, false)) fun r => cond r.2 (Option.bind (zcp r.1) fun n => some (n, 0)) (some ([], 5)))
 (some ([], 2))
theorem znx (s : Gs) (R : List Int × Int) (h : zje s = some R) : VPure Tryz.prog G0 55 [.agg (cGs s)] (.tree (.tup [.sl (cellsL eI R.1) (List.length R.1) false, .lit (.int .i64 R.2)])) := by
 refine VPure.runR mixed Tryz.call55 Tryz.func55 rfl (by simp [Tryz.ntmps55]; kernel_rfl) ?_
 unfold zje at h
 rcases o0 : zbb s with _ | b
 ·rw [o0] at h; cases h
 rw [o0, Option.bind_some] at h
 simp only [vz, tyf, seval, ua, rg]
 refine ktA (zdk _ _ o0) ?_
 cases b with
 | false =>
  simp only [cond_false, Option.some.injEq] at h
  subst h
  simp only [vz, tyf, seval, ua, rg, Bool.not_false]
  refine zap (x := .tup [.lit (.slice none 0 0), .lit (.int .i64 2)]) (by simp only [Tryz.results55, resV, resL, resV1, zat, zbq, uw, cr, tyf, nm, seval] <;> rfl) ?_
  refine zas (by simp only [tre, tytre]; rfl) ?_
  simp only [outV, nrm, seval, List.map_cons, List.map_nil, zdz, List.length_nil]
 | true =>
 rw [cond_true] at h
 rcases o2 : zkx s with _ | L
 ·rw [o2] at h; cases h
 rw [o2, Option.bind_some] at h
 rcases o6 : bestO zcq L (zM, false) with _ | r
 ·rw [o6] at h; cases h
 rw [o6, Option.bind_some] at h
 obtain ⟨hp, hi⟩ := zaan s L o2
 have hbo := zvt (bf := 83) (mc := []) hi rfl (better := zcq) (fun a b t ht => zib a b t ht) r o6
 simp only [vz, tyf, seval, ua, rg, Bool.not_true]
 refine ktA hp ?_
 simp only [vz, tyf, seval, ua, rg]
 refine ktreeP (by simp only [zgv, zka, zqn]; rfl) hbo ?_
 simp only [vz, tyf, seval, ua, rg]
 obtain ⟨r1, r2⟩ := r
 cases r2 with
 | false =>
  simp only [cond_false, Option.some.injEq] at h
  subst h
  simp only [vz, tyf, seval, nm, ua, rg, Bool.not_false]
  refine zap (x := .tup [.lit (.slice none 0 0), .lit (.int .i64 5)]) (by simp only [Tryz.results55, resV, resL, resV1, zat, zbq, uw, cr, tyf, nm, seval] <;> rfl) ?_
  refine zas (by simp only [tre, tytre]; rfl) ?_
  simp only [outV, nrm, seval, List.map_cons, List.map_nil, zdz, List.length_nil]
 | true =>
  simp only [cond_true] at h
  rcases o7 : zcp r1 with _ | n
  ·rw [o7] at h; cases h
  rw [o7, Option.bind_some, Option.some.injEq] at h
  subst h
  simp only [vz, tyf, seval, nm, ua, rg, Bool.not_true]
  refine ktA (zcl _ _ o7) ?_
  simp only [vz, tyf, seval, nm, ua, rg]
  refine zap (x := .tup [.sl (cellsL eI n) n.length false, .lit (.int .i64 0)]) (by simp only [Tryz.results55, resV, resL, resV1, zat, zbq, uw, cr, tyf, nm, seval] <;> rfl) ?_
  refine zas (by simp only [tre, tytre, Bool.and_self]) ?_
  simp only [outV, nrm, seval, List.map_cons, List.map_nil]
def headE (L : List Gm) : List Int × Int := match L with
 | [] => ([], 5)
 | x :: _ => (x.mix, 0)
def zjg (s : Gs) : Option (List Int × Int) := Option.bind (zbb s) fun b => cond b (Option.bind (zkx s) fun L => some (headE L)) (some ([], 2))
theorem zny (s : Gs) (R : List Int × Int) (h : zjg s = some R) : VPure Tryz.prog G0 42 [.agg (cGs s)] (.tree (.tup [.sl (cellsL eI R.1) (List.length R.1) false, .lit (.int .i64 R.2)])) := by
 refine VPure.runR mixed Tryz.call42 Tryz.func42 rfl (by simp [Tryz.ntmps42]; kernel_rfl) ?_
 unfold zjg at h
 rcases o0 : zbb s with _ | b
 ·rw [o0] at h; cases h
 rw [o0, Option.bind_some] at h
 simp only [vz, tyf, seval, ua, rg]
 refine ktA (zdk _ _ o0) ?_
 cases b with
 | false =>
  simp only [cond_false, Option.some.injEq] at h
  subst h
  simp only [vz, tyf, seval, ua, rg, Bool.not_false]
  refine zap (x := .tup [.lit (.slice none 0 0), .lit (.int .i64 2)]) (by simp only [Tryz.results42, resV, resL, resV1, zat, zbq, uw, cr, tyf, nm, seval] <;> rfl) ?_
  refine zas (by simp only [tre, tytre]; rfl) ?_
  simp only [outV, nrm, seval, List.map_cons, List.map_nil, zdz, List.length_nil]
 | true =>
 rw [cond_true] at h
 simp only [vz, tyf, seval, ua, rg, Bool.not_true]
 rcases o2 : zkx s with _ | L
 ·rw [o2] at h; cases h
 rw [o2, Option.bind_some] at h
 obtain ⟨hp, hi⟩ := zaan s L o2
 refine ktA hp ?_
 refine zaf (fun tm => tm 2 = .ptr 1 0 ∧ tm 3 = .ptr 2 0 ∧ tm 9 = zim s) (by refine ⟨?_, ?_, ?_⟩ <;> simp only [ua, seval]) ?_
 rintro tm ⟨e2, e3, e9⟩
 simp only [vz, tyf, seval, ua, rg]
 refine zfy hi (by first | (simp only [zmm, zil, e9, zem, seval] <;> rfl) | rfl) ?_
 intro LO hLO
 simp only [Option.some.injEq] at h
 obtain ⟨J, hJ⟩ : ∃ J : Option (List VV) → List (Nat × VObj) → Prop, J = (fun o hp => match o with
  | some l => ∃ p : List Gm, l = p.map sM ∧ hp = [(8, .deferred (some [])), (9, LO), (1, .cells (some 29) [.lit (.slice none 0 0)]), (2, .cells (some 32) [.lit (.int .i64 0)])] ∧ headE p = R
  | none => ∃ LD : Code → VObj, (∃ tml ps az bo d, LD = fun c => VObj.loop .done (some c) tml ps az bo d) ∧ hp = [(8, .deferred (some [])), (9, LD .ret), (1, .cells (some 29) [.sl (cellsL eI R.1) R.1.length false]), (2, .cells (some 32) [.lit (.int .i64 R.2)])]) := ⟨_, rfl⟩
 refine ⟨ownI J, ziq, ?_, ?_, ?_⟩
 ·rintro v rest Fr H nx hFr ⟨hp, hown, hj⟩
  rw [hJ] at hj
  obtain ⟨p, hl, rfl, hR⟩ := hj
  cases p with
  | nil => cases hl
  | cons e p =>
  simp only [List.map_cons, List.cons.injEq] at hl
  obtain ⟨rfl, rfl⟩ := hl
  obtain ⟨l8, n8, H8⟩ := hown.head
  obtain ⟨l9, n9, H9⟩ := hown.tail.head
  obtain ⟨l1, n1, H1⟩ := hown.tail.tail.head
  obtain ⟨l2, n2, H2⟩ := hown.tail.tail.tail.head
  refine zfb mixed (psl := [10]) hLO H9 zge rfl (by kernel_rfl) (by kernel_rfl) ?_
  intro LB LD hLB hLD
  refine zhh (fun tm => tm 2 = .ptr 1 0 ∧ tm 3 = .ptr 2 0 ∧ tm 10 = sM e) (by refine ⟨?_, ?_, ?_⟩ <;> simp only [zjh, zhf, Tryz.ntmps42, e2, e3, seval]) ?_
  clear e2 e3 e9
  rintro tm ⟨e2, e3, e10⟩
  have m1 : (9 = nx) = False := by simp; omega
  have m2 : (nx = 9) = False := by simp; omega
  have m3 : (1 = nx) = False := by simp; omega
  have m4 : (nx = 1) = False := by simp; omega
  have m5 : (2 = nx) = False := by simp; omega
  have m6 : (nx = 2) = False := by simp; omega
  have m7 : (8 = nx) = False := by simp; omega
  simp only [vz, tyf, seval, ua, rg, RStart, e2, e3, e10, H9, H1, H2, Nat.add_zero, m1, m2, m3, m4, m5, m6]
  have hRe : R = (e.mix, 0) := hR.symm
  refine ⟨by simp only [zaa, seval], (show nx ≤ nx + 6 by omega), fun γ hγ => ?_, ?_⟩
  ·have g9 : γ ≠ 9 := fun e => n9 (e ▸ hγ)
   have gx := hFr γ hγ
   have g1 : γ ≠ 1 := fun e => n1 (e ▸ hγ)
   have g2 : γ ≠ 2 := fun e => n2 (e ▸ hγ)
   simp only [updH]
   repeat rw [if_neg (by first | assumption | omega)]
  ·simp only [Bool.false_eq_true, if_false]
   refine ⟨[(8, .deferred (some [])), (9, LD .ret), (1, .cells (some 29) [.sl (cellsL eI e.mix) e.mix.length false]), (2, .cells (some 32) [.lit (.int .i64 0)])], Own.cons (show 8 < nx + 6 by omega) n8 ?_ (Own.cons (show 9 < nx + 6 by omega) n9 ?_ (Own.cons (show 1 < nx + 6 by omega) n1 ?_ (Own.cons (show 2 < nx + 6 by omega) n2 ?_ (Own.nil)))), ?_⟩
   rotate_left 4
   ·rw [hJ]
    exact ⟨LD, ⟨_, _, _, _, _, hLD⟩, by rw [hRe]⟩
   all_goals simp only [zaa, seval, H8, m1, m2, m3, m4, m5, m6, m7, Nat.add_zero]
 ·refine ⟨[(8, .deferred (some [])), (9, LO), (1, .cells (some 29) [.lit (.slice none 0 0)]), (2, .cells (some 32) [.lit (.int .i64 0)])], Own.cons (show 8 < 10 by omega) (fun h => h) ?_ (Own.cons (show 9 < 10 by omega) (fun h => h) ?_ (Own.cons (show 1 < 10 by omega) (fun h => h) ?_ (Own.cons (show 2 < 10 by omega) (fun h => h) ?_ (Own.nil)))), ?_⟩
  rotate_left 4
  ·rw [hJ]
   exact ⟨L, rfl, rfl, h⟩
  all_goals simp only [zaa, seval]
 ·rintro H' nx' (⟨hp, hown, hj⟩ | ⟨hp, hown, hj⟩)
  ·rw [hJ] at hj
   obtain ⟨p, hl, rfl, hR⟩ := hj
   cases p with
   | cons e p => cases hl
   | nil =>
   subst hR
   obtain ⟨l8, n8, H8⟩ := hown.head
   obtain ⟨l9, n9, H9⟩ := hown.tail.head
   obtain ⟨l1, n1, H1⟩ := hown.tail.tail.head
   obtain ⟨l2, n2, H2⟩ := hown.tail.tail.tail.head
   refine zes hLO H9 ?_
   intro LX
   simp only [vz, tyf, seval, ua, rg, e2, e3, H1, H2, headE]
   refine zgn (by simp only [zaa, seval, H8]) ?_
   refine zap (x := .tup [.lit (.slice none 0 0), .lit (.int .i64 5)]) (by simp only [Tryz.results42, resV, resL, resV1, zat, zbq, uw, cr, tyf, e2, e3, H1, H2, nm, seval] <;> rfl) ?_
   refine zas (by simp only [tre, tytre, Bool.and_self]) ?_
   simp only [outV, nrm, seval, List.map_cons, List.map_nil, zdz, List.length_nil]
  ·rw [hJ] at hj
   obtain ⟨LD, ⟨tml, ps, az, bo, d, hLD⟩, rfl⟩ := hj
   obtain ⟨l8, n8, H8⟩ := hown.head
   obtain ⟨l9, n9, H9⟩ := hown.tail.head
   obtain ⟨l1, n1, H1⟩ := hown.tail.tail.head
   obtain ⟨l2, n2, H2⟩ := hown.tail.tail.tail.head
   refine zfv hLD H9 ?_
   intro LX
   simp only [vz, tyf, seval, ua, rg, e2, e3, H1, H2]
   refine zgn (by simp only [zaa, seval, H8]) ?_
   refine zap (x := .tup [.sl (cellsL eI R.1) R.1.length false, .lit (.int .i64 R.2)]) (by simp only [Tryz.results42, resV, resL, resV1, zat, zbq, uw, cr, tyf, e2, e3, H1, H2, nm, seval] <;> rfl) ?_
   refine zas (by simp only [tre, tytre, Bool.and_self]) ?_
   simp only [outV, nrm, seval, List.map_cons, List.map_nil, zdz, List.length_nil]
end Go.V
end
section
namespace Go.V
open Go
def sA : Gs := ⟨⟨60, 40, 20⟩, ⟨⟨1, 2⟩, ⟨1, 1⟩, ⟨0, 0⟩⟩, ⟨5, 5⟩, 5, [⟨⟨⟨80, 82⟩, ⟨20, 20⟩, ⟨0, 2⟩⟩⟩, ⟨⟨⟨20, 22⟩, ⟨60, 60⟩, ⟨40, 40⟩⟩⟩, ⟨⟨⟨50, 50⟩, ⟨10, 12⟩, ⟨30, 30⟩⟩⟩]⟩
def sB : Gs := ⟨⟨60, 40, 20⟩, ⟨⟨1, 2⟩, ⟨1, 1⟩, ⟨0, 0⟩⟩, ⟨5, 5⟩, 5, [⟨⟨⟨20, 22⟩, ⟨60, 60⟩, ⟨40, 40⟩⟩⟩, ⟨⟨⟨50, 50⟩, ⟨10, 12⟩, ⟨30, 30⟩⟩⟩]⟩
theorem zahz : zez sB = some (⟨0, 0, -2⟩, 0) := by kernel_rfl
theorem zais : zjj sA = some (9, 0) := by kernel_rfl
theorem zalc : zkk sA = some ([1, 1, 0], 5, 0) := by kernel_rfl
theorem zaid : zje sA = some ([0, 1], 0) := by kernel_rfl
theorem zafx : zjg sA = some ([1, 1, 0], 0) := by kernel_rfl
end Go.V
end
section
namespace Go.V
open Go Go.Proofs
theorem qshA : VV.agg (cGs sA) = kA := by kernel_rfl
theorem qshB : VV.agg (cGs sB) = kB := by kernel_rfl
theorem pCount : VPure Tryz.prog G0 44 [kA] (.tree kCount) := qshA ▸ znv sA (9, 0) zais
theorem pNear : VPure Tryz.prog G0 50 [kA] (.tree kNear) := qshA ▸ zqd sA ([1, 1, 0], 5, 0) zalc
theorem pNeeds : VPure Tryz.prog G0 55 [kA] (.tree kNeeds) := qshA ▸ znx sA ([0, 1], 0) zaid
theorem pFirst : VPure Tryz.prog G0 42 [kA] (.tree kFirst) := qshA ▸ zny sA ([1, 1, 0], 0) zafx
theorem pProof : VPure Tryz.prog G0 37 [kB] (.tree kProof) := qshB ▸ zjb sB (⟨0, 0, -2⟩, 0) zahz
theorem pMay : VPure Tryz.prog G0 43 [kA] (.tree kMay) := VPure.closedB hmix 1000 (by kernel_rfl)
def kTab : KTab := [
  (54, [], kA),
  (56, [], kB),
  (53, [], kD),
  (18, [kD], kAim),
  (19, [kA, .sl [.lit (.int .i64 (1)), .lit (.int .i64 (1)), .lit (.int .i64 (0))] 3 false], kSums),
  (27, [kA, .sl [.lit (.int .i64 (3)), .lit (.int .i64 (2)), .lit (.int .i64 (0))] 3 false], kWord),
  (24, [kA, .sl [.lit (.int .i64 (1)), .lit (.int .i64 (1)), .lit (.int .i64 (0))] 3 false, .agg [.sl [.lit (.int .i64 80),.lit (.int .i64 20),.lit (.int .i64 0),.lit (.int .i64 20),.lit (.int .i64 60),.lit (.int .i64 40),.lit (.int .i64 50),.lit (.int .i64 10),.lit (.int .i64 30)] 3 false,.lit (.int .i64 5),.lit (.int .i64 2),.lit (.int .i64 1),.lit (.int .i64 0)]], kTrue),
  (28, [kD, .sl [.lit (.int .i64 (1)), .lit (.int .i64 (1)), .lit (.int .i64 (0))] 3 false], kYears),
  (57, [.lit (.string ⟨⟨[98, 111, 97, 114, 100, 32, 49, 32, 50, 32, 51, 32, 48, 32, 48, 32, 49, 10, 102, 97, 100, 101, 32, 48, 32, 48, 32, 48, 32, 48, 32, 48, 32, 48, 10, 116, 105, 110, 32, 49, 32, 49, 32, 50, 32, 50, 32, 51, 32, 51, 10, 101, 110, 100, 32, 49, 54, 52, 10]⟩⟩)], kRead),
  (44, [kA], kCount),
  (50, [kA], kNear),
  (55, [kA], kNeeds),
  (37, [kB], kProof),
  (42, [kA], kFirst),
  (43, [kA], kMay)]
theorem kTabOk : KTabOk Tryz.prog G0 kTab := ⟨⟨by kernel_rfl, pA⟩, ⟨⟨by kernel_rfl, pB⟩, ⟨⟨by kernel_rfl, pD⟩, ⟨⟨by kernel_rfl, pAim⟩, ⟨⟨by kernel_rfl, pSums⟩, ⟨⟨by kernel_rfl, pWord⟩, ⟨⟨by kernel_rfl, pTrue⟩, ⟨⟨by kernel_rfl, pYears⟩, ⟨⟨by kernel_rfl, pRead⟩, ⟨⟨by kernel_rfl, pCount⟩, ⟨⟨by kernel_rfl, pNear⟩, ⟨⟨by kernel_rfl, pNeeds⟩, ⟨⟨by kernel_rfl, pProof⟩, ⟨⟨by kernel_rfl, pFirst⟩, ⟨⟨by kernel_rfl, pMay⟩, trivial⟩⟩⟩⟩⟩⟩⟩⟩⟩⟩⟩⟩⟩⟩⟩
theorem pKnown : VPure Tryz.prog G0 16 [] (.tree (.lit (.bool true))) := VPure.closedT hmix kTabOk 1000 (by kernel_rfl)
#print axioms pKnown
theorem zew : VPure Tryz.prog G0 16 [] (.tree (.lit (.bool true))) := pKnown
end Go.V
end
