/- Part of a proof. -/
import Derived.Test.YtlkognggeadanaaGreatDoorEbn
set_option linter.all false
set_option maxRecDepth 4000
set_option maxHeartbeats 40000000
section
namespace Go.V
open Go Go.Proofs
def goG (f : List GLe → List (List GLe)) : List GLe → List (List GLe)
 | [] => []
 | e :: q => (f q).map (e :: ·) ++ goG f q
def gs (z : GLe) : Nat → List GLe → List (List GLe)
 | 0, _ => [[z]]
 | d + 1, q => goG (gs z d) q ++ [[z]]
theorem Cm {init : List GLe} {z : GLe} {rows : Int} : ∀ (n d : Nat) (p : List GLe) (fr : Nat), d < n → (rows = p.length + 1 + d ∨ d = 0 ∧ rows ≤ p.length + 1) → fr ≤ init.length → stgO (init ++ [z]) init.length rows n p fr = some ((gs z d (init.drop fr)).map (p ++ ·))
 | 0, d, p, fr, h, _, _ => by omega
 | n + 1, 0, p, fr, h, hr, hf => by
  have hz : (init ++ [z])[init.length]? = some z := by simp
  rw [stgO, if_neg (by omega), hz]
  rfl
 | n + 1, d + 1, p, fr, h, hr, hf => by
  have hz : (init ++ [z])[init.length]? = some z := by simp
  have hr' : rows = p.length + 1 + (d + 1 : Nat) := by omega
  have hg : ∀ m i, i + m = init.length → goStg (stgO (init ++ [z]) init.length rows n) (init ++ [z]) p m i = some ((goG (gs z d) (init.drop i)).map (p ++ ·)) := by
   intro m
   induction m with
   | zero =>
    intro i hi
    rw [List.drop_eq_nil_of_le (by omega)]
    rfl
   | succ m ih =>
    intro i hi
    have hl : i < init.length := by omega
    have hgi : (init ++ [z])[i]? = some init[i] := by
     rw [List.getElem?_append_left hl]
     exact List.getElem?_eq_getElem hl
    rw [goStg, hgi, Option.bind_some, Cm n d (p ++ [init[i]]) (i + 1) (by omega) (by simp; omega) (by omega), Option.bind_some, ih (i + 1) (by omega), Option.bind_some, List.drop_eq_getElem_cons hl, goG, List.map_append, List.map_map]
    simp [Function.comp_def]
  rw [stgO, if_pos (by omega), hg _ _ (by omega), Option.bind_some, hz, Option.bind_some, gs, List.map_append]
  rfl
theorem DH {f : List GLe → List (List GLe)} {y : List GLe} : ∀ (q : List GLe), y ∈ goG f q ↔ ∃ a e b, q = a ++ e :: b ∧ ∃ y' ∈ f b, y = e :: y'
 | [] => by simp [goG]
 | x :: q => by
  simp only [goG, List.mem_append, List.mem_map, DH q]
  constructor
  ·rintro (⟨y', h1, rfl⟩ | ⟨a, e, b, rfl, h⟩)
   ·exact ⟨[], x, q, rfl, y', h1, rfl⟩
   ·exact ⟨x :: a, e, b, rfl, h⟩
  ·rintro ⟨a, e, b, h1, y', h2, rfl⟩
   cases a with
   | nil =>
    simp only [List.nil_append, List.cons.injEq] at h1
    obtain ⟨rfl, rfl⟩ := h1
    exact .inl ⟨y', h2, rfl⟩
   | cons c a =>
    simp only [List.cons_append, List.cons.injEq] at h1
    obtain ⟨rfl, rfl⟩ := h1
    exact .inr ⟨a, e, b, rfl, y', h2, rfl⟩
theorem sH {z : GLe} : ∀ (d : Nat) (q : List GLe) (y : List GLe), y ∈ gs z d q ↔ ∃ u, y = u ++ [z] ∧ u.Sublist q ∧ u.length ≤ d
 | 0, q, y => by
  simp only [gs, List.mem_singleton]
  constructor
  ·rintro rfl; exact ⟨[], rfl, List.nil_sublist _, qZe _⟩
  ·rintro ⟨u, rfl, _, h⟩
   have := List.length_eq_zero_iff.1 (Nat.le_zero.1 h)
   rw [this]; rfl
 | d + 1, q, y => by
  simp only [gs, List.mem_append, List.mem_singleton, DH]
  constructor
  ·rintro (⟨a, e, b, rfl, y', h, rfl⟩ | rfl)
   ·obtain ⟨u, rfl, h1, h2⟩ := (sH d b y').1 h
    exact ⟨e :: u, rfl, (List.Sublist.cons_cons e h1).trans (List.sublist_append_right _ _), by simp; omega⟩
   ·exact ⟨[], rfl, List.nil_sublist _, Nat.zero_le _⟩
  ·rintro ⟨u, rfl, h1, h2⟩
   cases u with
   | nil => exact .inr rfl
   | cons e u =>
    left
    have : ∀ {q : List GLe}, (e :: u).Sublist q → ∃ a b, q = a ++ e :: b ∧ u.Sublist b := by
     intro q hq
     induction q with
     | nil => cases hq
     | cons x q ih =>
      cases hq with
      | cons _ h =>
       obtain ⟨a, b, rfl, h3⟩ := ih h
       exact ⟨x :: a, b, rfl, h3⟩
      | cons_cons _ h => exact ⟨[], q, rfl, h⟩
    obtain ⟨a, b, rfl, h3⟩ := this h1
    simp only [List.length_cons] at h2
    exact ⟨a, e, b, rfl, u ++ [z], (sH d b _).2 ⟨u, rfl, h3, by omega⟩, rfl⟩
def lexb : List GLe → List GLe → Prop
 | a :: x, b :: y => befE a b ∨ a = b ∧ lexb x y
 | _, _ => False
theorem yv : ∀ {x y : List GLe}, lexb x y → ¬ lexb y x
 | [], _, h => by unfold lexb at h; exact h.elim
 | _ :: _, [], h => by unfold lexb at h; exact h.elim
 | a :: x, b :: y, h => by
  unfold lexb at h ⊢
  rcases h with h | ⟨rfl, h⟩
  ·rintro (k | ⟨rfl, k⟩)
   ·exact lY (Be h k)
   ·exact lY h
  ·rintro (k | ⟨_, k⟩)
   ·exact lY k
   ·exact yv h k
theorem yu : ∀ {x : List GLe}, ¬ lexb x x
 | [], h => by unfold lexb at h; exact h
 | a :: x, h => by
  unfold lexb at h
  rcases h with h | ⟨_, h⟩
  ·exact lY h
  ·exact yu h
def ordE (x y : List GLe) : Prop := x ≠ y ∧ (x.length = y.length → lexb x y)
theorem Cn {z : GLe} : ∀ (d : Nat) (q : List GLe), q.Pairwise befE → (gs z d q).Pairwise ordE
 | 0, q, _ => List.pairwise_singleton _ _
 | d + 1, q, h => by
  have hg : ∀ q : List GLe, q.Pairwise befE → (goG (gs z d) q).Pairwise ordE := by
   intro q
   induction q with
   | nil => intro _; exact List.Pairwise.nil
   | cons e q ih =>
    intro hq
    obtain ⟨h1, h2⟩ := List.pairwise_cons.1 hq
    rw [goG, List.pairwise_append]
    refine ⟨?_, ih h2, ?_⟩
    ·rw [List.pairwise_map]
     refine (Cn d q h2).imp fun {a b} hab => ⟨fun hh => hab.1 (List.cons.inj hh).2, fun hl => ?_⟩
     unfold lexb
     exact .inr ⟨rfl, hab.2 (by simpa using hl)⟩
    ·intro x hx y hy
     obtain ⟨x', _, rfl⟩ := List.mem_map.1 hx
     obtain ⟨a, e', b, rfl, y', _, rfl⟩ := (DH q).1 hy
     have hb : befE e e' := h1 e' (by simp)
     refine ⟨fun hh => ?_, fun _ => ?_⟩
     ·rw [(List.cons.inj hh).1] at hb; exact lY hb
     ·unfold lexb; exact .inl hb
  rw [gs, List.pairwise_append]
  refine ⟨hg q h, List.pairwise_singleton _ _, fun x hx y hy => ?_⟩
  obtain ⟨a, e, b, _, y', hy', rfl⟩ := (DH q).1 hx
  obtain ⟨u, rfl, _, _⟩ := (sH d b y').1 hy'
  rw [List.mem_singleton.1 hy]
  have hl : (e :: (u ++ [z])).length ≠ [z].length := by simp
  exact ⟨fun hh => hl (by rw [hh]), fun hh => (hl hh).elim⟩
theorem P5 : ∀ (q u : List GLe), q.Pairwise befE → u.Pairwise befE → (∀ e ∈ u, e ∈ q) → u.Sublist q
 | [], [], _, _, _ => List.nil_sublist _
 | [], e :: u, _, _, h => by cases h e (qZb ..)
 | x :: q, [], _, _, _ => List.nil_sublist _
 | x :: q, e :: u, hq, hu, h => by
  obtain ⟨q1, q2⟩ := List.pairwise_cons.1 hq
  obtain ⟨u1, u2⟩ := List.pairwise_cons.1 hu
  rcases List.mem_cons.1 (h e (qZb ..)) with rfl | he
  ·refine List.Sublist.cons_cons _ (P5 q u q2 u2 fun g hg => ?_)
   rcases List.mem_cons.1 (h g (qZa _ hg)) with rfl | h'
   ·exact (lY (u1 _ hg)).elim
   ·exact h'
  ·refine List.Sublist.cons _ (P5 q (e :: u) q2 hu fun g hg => ?_)
   rcases List.mem_cons.1 (h g hg) with rfl | h'
   ·rcases List.mem_cons.1 hg with rfl | hg
    ·exact he
    ·exact (lY (Be (u1 _ hg) (q1 _ he))).elim
   ·exact h'
theorem XY {s : GLs} (h : Sh s) {out : List Int} (ho : outB s out = true) (hl : lenOk out = true) (hn : out.length < 1000000) : ∃ L, u4 s out = some L ∧ (∀ y, y ∈ L ↔ IsS (possL out s.Words 0) y ∧ (y.length : Int) ≤ s.Rows) ∧ L.Pairwise ordE ∧ L.length ≤ 277 := by
 have hne := Bl (s := s) ho
 have hp := yr h out
 have hlen := Cl h out
 have hr := h.rows
 obtain ⟨init, z, hz⟩ : ∃ init z, possL out s.Words 0 = init ++ [z] := ⟨_, _, (List.dropLast_concat_getLast hne).symm⟩
 rw [show poss s out = possL out s.Words 0 from rfl] at hp
 rw [hz] at hp hlen
 obtain ⟨p1, p2, p3⟩ := List.pairwise_append.1 hp
 simp only [List.length_append, List.length_singleton] at hlen
 have hd : ∃ d : Nat, s.Rows = ((d : Nat) : Int) + 1 ∧ d ≤ 2 := ⟨(s.Rows - 1).toNat, by omega, by omega⟩
 obtain ⟨d, hd, mS⟩ := hd
 refine ⟨gs z d init, ?_, ?_, Cn d init p1, ?_⟩
 ·simp only [u4, Cj h out hl, Option.bind_some]
  rw [hz, if_pos ⟨by simp; omega, hn⟩, show (init ++ [z]).length - 1 = init.length by simp, Cm 5 d [] 0 (by omega) (by simp; omega) (Nat.zero_le _)]
  simp
 ·intro y
  rw [sH, hz]
  constructor
  ·rintro ⟨u, rfl, h1, h2⟩
   refine ⟨⟨?_, ?_, by simp⟩, by simp; omega⟩
   ·rw [List.pairwise_append]
    exact ⟨p1.sublist h1, List.pairwise_singleton _ _, fun a ha b hb => p3 a (h1.subset ha) b hb⟩
   ·intro e he
    rcases List.mem_append.1 he with he | he
    ·exact List.mem_append_left _ (h1.subset he)
    ·exact List.mem_append_right _ he
  ·rintro ⟨⟨h1, h2, h3⟩, h4⟩
   rw [show (init ++ [z]).getLast? = some z by simp] at h3
   obtain ⟨u, rfl⟩ : ∃ u, y = u ++ [z] := by
    have hyne : y ≠ [] := by rintro rfl; cases h3
    refine ⟨y.dropLast, ?_⟩
    rw [List.getLast?_eq_some_getLast hyne] at h3
    rw [← Option.some.inj h3]
    exact (List.dropLast_concat_getLast hyne).symm
   obtain ⟨u1, u2, u3⟩ := List.pairwise_append.1 h1
   refine ⟨u, rfl, P5 _ _ p1 u1 fun e he => ?_, by simp at h4; omega⟩
   rcases List.mem_append.1 (h2 e (List.mem_append_left _ he)) with h | h
   ·exact h
   ·have := u3 e he z (by simp)
    rw [List.mem_singleton.1 h] at this
    exact (lY this).elim
 ·have gc : ∀ (f : List GLe → List (List GLe)) (e : GLe) (q : List GLe), (goG f (e :: q)).length = (f q).length + (goG f q).length := fun f e q => by simp [goG]
  have gz : ∀ q : List GLe, (gs z 0 q).length = 1 := fun q => rfl
  have gn : ∀ (d : Nat) (q : List GLe), (gs z (d + 1) q).length = (goG (gs z d) q).length + 1 := fun d q => by
   show (goG (gs z d) q ++ [[z]]).length = _
   simp only [List.length_append, List.length_singleton]
  have g0 : ∀ q : List GLe, (goG (gs z 0) q).length = q.length := by
   intro q
   induction q with
   | nil => rfl
   | cons e q ih => rw [gc, gz, ih, List.length_cons]; omega
  have g1 : ∀ q : List GLe, 2 * (goG (gs z 1) q).length = q.length * (q.length + 1) := by
   intro q
   induction q with
   | nil => rfl
   | cons e q ih =>
    rw [gc, gn, g0, Nat.mul_add, ih, List.length_cons]
    generalize q.length = n
    rw [show (n + 1) * (n + 1 + 1) = n * (n + 1) + 2 * (n + 1) by rw [Nat.add_mul, Nat.mul_add, Nat.mul_add]; omega]
    omega
  match d, mS with
  | 0, _ => rw [gz]; omega
  | 1, _ => rw [gn, g0]; omega
  | 2, _ =>
   have := g1 init
   have hm : init.length * (init.length + 1) ≤ 23 * 24 := Nat.mul_le_mul (by omega) (by omega)
   rw [gn]
   omega
abbrev sL (x : Gld) : VV := .agg (cGld x)
def consO {α : Type} : Option α → List α → List α
 | none, r => r
 | some y, r => y :: r
def fitO (s : GLs) (out : List Int) : List (List GLe) → Option (List Gld)
 | [] => some []
 | x :: L => Option.bind (rS s (GLx.mk out x) 0) fun l => Option.bind (wI l) fun w => Option.bind (fitO s out L) fun r => some (consO w r)
def vS (s : GLs) (out : List Int) : Option (List Gld) := Option.bind (u4 s out) fun L => fitO s out L
def itF (s : GLs) (out : List Int) : VV := .fn (.func 123) [] [.tp (cGLs s), .tp [vx eI out]]
theorem P6 {s : GLs} {out : List Int} : (itF s out).tree = true := by
 have h : treeL (cGLs s) = true := eK.tree s
 have h2 : (vx eI out).tree = true := rR
 simp [itF, VV.tree, treeL, h, h2]
theorem P7 (s : GLs) (out : List Int) : ad Tryz.prog G0 87 [.agg (cGLs s), vx eI out] (.tree (itF s out)) := by
 refine ad.run mixed Tryz.call87 Tryz.func87 rfl (by simp [Tryz.ntmps87]; kernel_rfl) ?_
 simp only [vz, tyf, seval, ua, rg, vcells1 jy]
 refine ⟨rfl, .fn (.func 123) [] [.ptr 0 0, .ptr 1 0], by simp [Tryz.results87, resV, resL, aJ, upd], 50, ?_⟩
 exact zQ (c1 := cGLs s) (c2 := [vx eI out]) (J8 := some 28) (fZ := some 22) (by simp only [br, seval] <;> rfl) (by simp only [br, seval] <;> rfl) (eK.tree s) (by simp [treeL, rR]) (by simp [cGLs]) (by simp)
theorem XZ (s : GLs) (out : List Int) (R : List Gld) (h : vS s out = some R) : Iter Tryz.prog G0 (itF s out) (R.map sL) := by
 unfold vS at h
 rcases hs : u4 s out with _ | L
 ·rw [hs] at h; cases h
 rw [hs, Option.bind_some] at h
 have hit := Vf s out L hs
 refine ⟨123, [], _, rfl, fun β I hst hr H nx hβ hI => ?_⟩
 refine av.run mixed Tryz.call123 Tryz.func123 rfl (by simp [Tryz.ntmps123]; kernel_rfl) ?_
 simp only [List.nil_append, List.cons_append, argsTm3, vz, tyf, seval, ua, rg]
 refine ktreeR ?_ (J9 s out) ?_
 ·simp only [tre, aw, rR, Bool.and_self]
 simp only [vz, tyf, seval, ua, rg]
 refine CE (fun tm => tm 9 = itS s out ∧ tm 1 = .tp (cGLs s) ∧ tm 2 = .tp [vx eI out] ∧ tm 3 = .ptr nx 0) (by refine ⟨?_, ?_, ?_, ?_⟩ <;> simp only [ua, seval, Nat.add_zero, tyf]) ?_
 rintro tm ⟨e9, e1, e2, e3⟩
 refine Sa hit (by first | (simp only [qh, AA, e9, xk, seval] <;> rfl) | rfl) ?_
 intro LO hLO
 obtain ⟨J, hJ⟩ : ∃ J : Option (List VV) → Option (List VV) → List (Nat × VObj) → Prop, J = (fun o o' hp => match o with
  | some l => ∃ (p : List (List GLe)) (L2 : List Gld), l = p.map (sSet out) ∧ fitO s out p = some L2 ∧ o' = some (L2.map sL) ∧ hp = [(nx, .cells (some 152) [.yl β]), (nx + 4, .deferred (some [])), (nx + 5, LO)]
  | none => ∃ LD : Code → VObj, (∃ tml ps az bo d, LD = fun c => VObj.loop .done (some c) tml ps az bo d) ∧ o' = none ∧ hp = [(nx, .cells (some 152) [.yl β]), (nx + 4, .deferred (some [])), (nx + 5, LD .ret)]) := ⟨_, rfl⟩
 refine ⟨ownI2 I J, WI hst, ?_, ?_, ?_⟩
 ·rintro v rest Fr H1 aZ hFr ⟨hp, o', hown, hj, hi⟩
  rw [hJ] at hj
  obtain ⟨p, L2, hl, hf, rfl, rfl⟩ := hj
  cases p with
  | nil => cases hl
  | cons e p =>
  simp only [List.map_cons, List.cons.injEq] at hl
  obtain ⟨rfl, rfl⟩ := hl
  obtain ⟨la, na, Ha⟩ := hown.head
  obtain ⟨lb, nb, Hb⟩ := hown.tail.head
  obtain ⟨lc, nc, Hc⟩ := hown.tail.tail.head
  have hfr : ∀ γ, (∃ q ∈ [(nx, .cells (some 152) [.yl β]), (nx + 4, .deferred (some [])), (nx + 5, LO)], (q : Nat × VObj).1 = γ) ↔ γ = nx ∨ γ = nx + 4 ∨ γ = nx + 5 := by
   intro γ
   simp [eq_comm]
  simp only [hfr] at hi
  unfold fitO at hf
  rcases ez : rS s (GLx.mk out e) 0 with _ | l
  ·rw [ez] at hf; cases hf
  rw [ez, Option.bind_some] at hf
  rcases D0 : wI l with _ | w
  ·rw [D0] at hf; cases hf
  rw [D0, Option.bind_some] at hf
  rcases DI : fitO s out p with _ | L3
  ·rw [DI] at hf; cases hf
  rw [DI, Option.bind_some, Option.some.injEq] at hf
  subst hf
  refine RZ mixed (psl := [10]) hLO Hc RW rfl (by kernel_rfl) (by kernel_rfl) ?_
  intro LB LD hLB hLD
  refine RX (fun tm => tm 10 = sSet out e ∧ tm 1 = .tp (cGLs s) ∧ tm 2 = .tp [vx eI out] ∧ tm 3 = .ptr nx 0) (by refine ⟨?_, ?_, ?_, ?_⟩ <;> simp only [AQ, RV, Tryz.ntmps123, e1, e2, e3, seval]) ?_
  clear e9 e1 e2 e3
  rintro tm ⟨bh, e1, e2, e3⟩
  have hne : (nx = nx + 5) = False := by simp
  have sP : (nx = aZ) = False := by simp; omega
  have oH : (nx + 5 = aZ) = False := by simp; omega
  have oS : (aZ = nx + 5) = False := by simp; omega
  simp only [vz, tyf, seval, ua, nm, rg, RStart, vcells1 jy, jy, bh, e1, e2, e3, Ha, Hc, hne, sP, oH, oS, Nat.add_zero]
  refine ktree (args0 := [.agg (cGLs s), .agg (cGLx (GLx.mk out e)), .lit (.int .i64 0)]) (by first | (simp only [nrm, ar, CX, tyf] <;> rfl) | rfl) (by simp only [tre, aw, rR, Bool.and_self]) (Rr _ _ _ _ ez) ?_
  simp only [vz, @iq, tyf, seval, ua, nm, rg, RStart, vcells1 jy, jy, bh, e1, e2, e3, Ha, Hc, hne, sP, oH, oS, Nat.add_zero]
  refine ktree (args0 := [.agg (cGld l)]) (by first | (simp only [nrm, ar, mqr] <;> rfl) | rfl) (by simp only [tre, aw, mqr, Bool.and_self]) (Rs _ _ D0) ?_
  have hmax : aZ ≤ aZ + 4 := by omega
  have DJ : (nx + 5 = aZ + 9) = False := by simp; omega
  have Tv : (aZ + 9 = nx + 5) = False := by simp; omega
  have DK : (nx = aZ + 9) = False := by simp; omega
  have hxb : (nx + 4 = aZ) = False := by simp; omega
  have hxc : (nx + 4 = aZ + 9) = False := by simp; omega
  have hxd : (nx + 4 = nx + 5) = False := by simp
  have hbig : ∀ γ, γ < aZ → ¬ (γ = nx ∨ γ = nx + 4 ∨ γ = nx + 5) → γ ≠ nx + 5 ∧ γ ≠ aZ ∧ γ ≠ aZ + 9 := fun γ h1 h2 => ⟨fun e => h2 (.inr (.inr e)), by omega, by omega⟩
  cases w with
  | none =>
   simp only [vz, @iq, mq, mqm, mqt, tyf, seval, ua, nm, rg, RStart, wV, zlN, consO, bh, e1, e2, e3, Ha, Hc, hne, sP, oH, oS, DJ, Tv, DK, Nat.add_zero]
   refine ⟨by simp only [br, seval, nm, oH, DJ, if_false], qZd _ _, fun γ hγ => ?_, ?_⟩
   ·have g5 : γ ≠ nx + 5 := fun e => nc (e ▸ hγ)
    have g1 : γ ≠ aZ := fun e => by have := hFr γ hγ; omega
    have g9 : γ ≠ aZ + 9 := fun e => by have := hFr γ hγ; omega
    simp only [updH, Nat.add_zero, g5, g1, g9, if_false]
   ·simp only [if_true]
    refine ⟨[(nx, .cells (some 152) [.yl β]), (nx + 4, .deferred (some [])), (nx + 5, LO)], some (L3.map sL), Own.cons (qZc la (qZd _ _)) na ?_ (Own.cons (qZc lb (qZd _ _)) nb ?_ (Own.cons (qZc lc (qZd _ _)) nc ?_ Own.nil)), ?_, ?_⟩
    ·simp only [br, seval, nm, hne, sP, DK, Nat.add_zero, Ha, if_false]
    ·simp only [br, seval, nm, hxb, hxc, hxd, Nat.add_zero, Hb, if_false]
    ·simp only [br, seval, nm]
    ·rw [hJ]
     exact ⟨p, L3, rfl, DI, rfl, rfl⟩
    ·simp only [hfr]
     refine hst _ _ _ _ _ _ _ hi ?_ (qZd _ _) (fun γ h => .inl h)
     intro γ h1 hn
     obtain ⟨g5, g1, g9⟩ := hbig γ h1 (fun h => hn (.inr h))
     simp only [updH, Nat.add_zero, g5, g1, g9, if_false]
  | some y =>
   simp only [vz, @iq, mq, mqm, mqt, tyf, seval, ua, nm, rg, RStart, wV, zlN, consO, bh, e1, e2, e3, Ha, Hc, hne, sP, oH, oS, DJ, Tv, DK, Nat.add_zero]
   have Ya : I (some (sL y :: L3.map sL)) (fun γ => Fr γ ∨ γ = nx ∨ γ = nx + 4 ∨ γ = nx + 5) (updH (updH (updH (updH (updH H1 aZ (.cells (some 31) [.lit (.slice none 0 0), .lit (.slice none 0 0)])) aZ (.cells (some 31) [vx eI out, sE e])) (nx + 5) LB) (aZ + 9) (.cells (some 93) zlC)) (aZ + 9) (.cells (some 93) (cGld y))) (aZ + 19) := by
    refine hst _ _ _ _ _ _ _ hi ?_ (by omega) (fun γ h => .inl h)
    intro γ h1 hn
    obtain ⟨g5, g1, g9⟩ := hbig γ h1 (fun h => hn (.inr h))
    simp only [updH, g5, g1, g9, if_false]
   refine (hr (sL y) (L3.map sL) _ _ _ ?_ Ya) (some (some (nx + 5))) _ _ _ ?_ ?_ ?_
   ·rintro γ (hγ | rfl | rfl | rfl)
    ·have := hFr γ hγ; omega
    ·omega
    ·omega
    ·omega
   ·rfl
   ·rfl
   rintro b H2 nM ⟨q1, q2, q3⟩
   have Ka : H2 nx = some (.cells (some 152) [.yl β]) := by rw [q2 nx (.inr (.inl rfl))]; simp only [br, nm, seval, hne, sP, DK, Ha, if_false]
   have Kb : H2 (nx + 4) = some (.deferred (some [])) := by rw [q2 _ (.inr (.inr (.inl rfl)))]; simp only [br, nm, seval, hxb, hxc, hxd, Hb, if_false]
   have Kc : H2 (nx + 5) = some LB := by rw [q2 _ (.inr (.inr (.inr rfl)))]; simp only [br, nm, seval, oH, DJ, if_false]
   have KF : ∀ γ, Fr γ → H2 γ = H1 γ := by
    intro γ hγ
    have g5 : γ ≠ nx + 5 := fun e => nc (e ▸ hγ)
    have g1 : γ ≠ aZ := fun e => by have := hFr γ hγ; omega
    have g9 : γ ≠ aZ + 9 := fun e => by have := hFr γ hγ; omega
    rw [q2 γ (.inl hγ)]
    simp only [updH, g5, g1, g9, if_false]
   cases b with
   | true =>
    simp only [vz, tyf, seval, ua, nm, rg, Bool.not_true]
    refine ⟨Kc, qZf (by omega : aZ ≤ nM) (by first | exact qZe _ | exact qZd _ _), fun γ hγ => ?_, ?_⟩
    ·have g5 : γ ≠ nx + 5 := fun e => nc (e ▸ hγ)
     simp only [updH]
     rw [if_neg g5]
     exact KF γ hγ
    ·simp only [if_true] at q3 ⊢
     have hq : aZ ≤ nM := by omega
     refine ⟨[(nx, .cells (some 152) [.yl β]), (nx + 4, .deferred (some [])), (nx + 5, LO)], some (L3.map sL), Own.cons (qZc la (qZf hq (by first | exact qZe _ | exact qZd _ _))) na ?_ (Own.cons (qZc lb (qZf hq (by first | exact qZe _ | exact qZd _ _))) nb ?_ (Own.cons (qZc lc (qZf hq (by first | exact qZe _ | exact qZd _ _))) nc ?_ Own.nil)), ?_, ?_⟩
     ·simp only [br, seval, hne, Ka]
     ·simp only [br, nm, seval, Kb]
     ·simp only [br, seval]
     ·rw [hJ]
      exact ⟨p, L3, rfl, DI, rfl, rfl⟩
     ·simp only [hfr]
      refine hst _ _ _ _ _ _ _ q3 ?_ (by first | exact qZe _ | exact qZd _ _) (fun γ h => .inl h)
      intro γ _ hn
      have g5 : γ ≠ nx + 5 := fun e => hn (.inr (.inr (.inr e)))
      simp only [updH]
      rw [if_neg g5]
   | false =>
    simp only [vz, tyf, seval, ua, nm, rg, Bool.not_false]
    refine ⟨Kc, qZf (by omega : aZ ≤ nM) (by first | exact qZe _ | exact qZd _ _), fun γ hγ => ?_, ?_⟩
    ·have g5 : γ ≠ nx + 5 := fun e => nc (e ▸ hγ)
     simp only [updH]
     rw [if_neg g5]
     exact KF γ hγ
    ·simp only [Bool.false_eq_true, if_false] at q3 ⊢
     have hq : aZ ≤ nM := by omega
     have P8 : ∀ γ, (∃ q ∈ [(nx, .cells (some 152) [.yl β]), (nx + 4, .deferred (some [])), (nx + 5, LD .ret)], (q : Nat × VObj).1 = γ) ↔ γ = nx ∨ γ = nx + 4 ∨ γ = nx + 5 := by
      intro γ
      simp [eq_comm]
     refine ⟨[(nx, .cells (some 152) [.yl β]), (nx + 4, .deferred (some [])), (nx + 5, LD .ret)], none, Own.cons (qZc la (qZf hq (by first | exact qZe _ | exact qZd _ _))) na ?_ (Own.cons (qZc lb (qZf hq (by first | exact qZe _ | exact qZd _ _))) nb ?_ (Own.cons (qZc lc (qZf hq (by first | exact qZe _ | exact qZd _ _))) nc ?_ Own.nil)), ?_, ?_⟩
     ·simp only [br, seval, hne, Ka]
     ·simp only [br, nm, seval, Kb]
     ·simp only [br, seval]
     ·rw [hJ]
      exact ⟨LD, ⟨_, _, _, _, _, hLD⟩, rfl, rfl⟩
     ·simp only [P8]
      refine hst _ _ _ _ _ _ _ q3 ?_ (by first | exact qZe _ | exact qZd _ _) (fun γ h => .inl h)
      intro γ _ hn
      have g5 : γ ≠ nx + 5 := fun e => hn (.inr (.inr (.inr e)))
      simp only [updH]
      rw [if_neg g5]
 ·have hfr : ∀ γ, (∃ q ∈ [(nx, .cells (some 152) [.yl β]), (nx + 4, .deferred (some [])), (nx + 5, LO)], (q : Nat × VObj).1 = γ) ↔ γ = nx ∨ γ = nx + 4 ∨ γ = nx + 5 := by
   intro γ
   simp [eq_comm]
  refine ⟨[(nx, .cells (some 152) [.yl β]), (nx + 4, .deferred (some [])), (nx + 5, LO)], some (R.map sL), Own.cons (show nx < nx + 6 by omega) (fun h => h) ?_ (Own.cons (show nx + 4 < nx + 6 by omega) (fun h => h) ?_ (Own.cons (show nx + 5 < nx + 6 by omega) (fun h => h) ?_ Own.nil)), ?_, ?_⟩
  ·simp only [updH]
   rw [if_neg (by omega), if_neg (by omega), if_pos (by omega)]
  ·simp only [updH]
   simp
  ·simp only [updH]
   simp
  ·rw [hJ]
   exact ⟨L, R, rfl, h, rfl, rfl⟩
  ·simp only [hfr]
   refine hst _ _ _ _ _ _ _ hI ?_ (by omega) ?_
   ·intro γ hγ _
    simp only [updH]
    repeat rw [if_neg (by omega)]
   ·rintro γ (h | rfl | rfl | rfl)
    ·exact h.elim
    ·right; omega
    ·right; omega
    ·right; omega
 ·rintro H' nx' (⟨hp, o', hown, hj, hi⟩ | ⟨hp, o', hown, hj, hi⟩)
  ·rw [hJ] at hj
   obtain ⟨p, L2, hl, hf, rfl, rfl⟩ := hj
   cases p with
   | cons e p => cases hl
   | nil =>
   simp only [fitO, Option.some.injEq] at hf
   subst hf
   obtain ⟨la, na, Ha⟩ := hown.head
   obtain ⟨lb, nb, Hb⟩ := hown.tail.head
   obtain ⟨lc, nc, Hc⟩ := hown.tail.tail.head
   have hfr : ∀ γ, (∃ q ∈ [(nx, .cells (some 152) [.yl β]), (nx + 4, .deferred (some [])), (nx + 5, LO)], (q : Nat × VObj).1 = γ) ↔ γ = nx ∨ γ = nx + 4 ∨ γ = nx + 5 := by
    intro γ
    simp [eq_comm]
   simp only [hfr] at hi
   refine RU hLO Hc ?_
   intro LX
   simp only [vz, tyf, seval, ua, nm, rg]
   refine MJ (by simp only [br, nm, seval, Hb]) ?_
   refine Gk (x := .tup []) (by simp [Tryz.results123, resV, resL]) (.inl ?_)
   refine hst _ _ _ _ _ _ _ hi ?_ (qZe _) (fun γ h => h.elim)
   intro γ _ hn
   have g2 : γ ≠ nx + 4 := fun e => hn (.inr (.inr (.inl e)))
   have g3 : γ ≠ nx + 5 := fun e => hn (.inr (.inr (.inr e)))
   simp only [updH]
   repeat rw [if_neg (by first | assumption | omega)]
  ·rw [hJ] at hj
   obtain ⟨LD, ⟨tml, ps, az, bo, d, hLD⟩, rfl, rfl⟩ := hj
   obtain ⟨la, na, Ha⟩ := hown.head
   obtain ⟨lb, nb, Hb⟩ := hown.tail.head
   obtain ⟨lc, nc, Hc⟩ := hown.tail.tail.head
   have hfr : ∀ γ, (∃ q ∈ [(nx, .cells (some 152) [.yl β]), (nx + 4, .deferred (some [])), (nx + 5, LD .ret)], (q : Nat × VObj).1 = γ) ↔ γ = nx ∨ γ = nx + 4 ∨ γ = nx + 5 := by
    intro γ
    simp [eq_comm]
   simp only [hfr] at hi
   refine WD hLD Hc ?_
   intro LX
   simp only [vz, tyf, seval, ua, nm, rg]
   refine MI (by simp only [br, nm, seval, Hb]) ?_
   refine d4 (x := .tup []) (by simp [Tryz.results123, resV, resL]) (.inr ?_)
   refine hst _ _ _ _ _ _ _ hi ?_ (qZe _) (fun γ h => h.elim)
   intro γ _ hn
   have g2 : γ ≠ nx + 4 := fun e => hn (.inr (.inr (.inl e)))
   have g3 : γ ≠ nx + 5 := fun e => hn (.inr (.inr (.inr e)))
   simp only [updH]
   repeat rw [if_neg (by first | assumption | omega)]
theorem Tw {H : Nat → Option VObj} {d : Nat} {l : List Int} : showV H d (vx eI l) = vx eI l := by
 cases l <;> cases d <;> rfl
def accL : Option Gld → List VV
 | none => zlC
 | some r => (cGld r)
def bestL (better : Gld → Gld → Option Bool) : List Gld → Option Gld → Option (Option Gld)
 | [], acc => some acc
 | x :: L, none => bestL better L (some x)
 | x :: L, some r => Option.bind (better x r) fun t => bestL better L (some (cond t x r))
def rezL : Option Gld → VV
 | none => .tup [.agg zlN, .lit (.bool false)]
 | some r => .tup [.agg (cGld r), .lit (.bool true)]
theorem P9 {itv : VV} {bf : Nat} {mc : List VV} {L : List Gld} (hit : Iter Tryz.prog G0 itv (L.map fun e => sL e)) (hmt : treeL mc = true) {better : Gld → Gld → Option Bool}
  (hb : ∀ a b t, better a b = some t → ad Tryz.prog G0 bf (sL a :: sL b :: mc) (.tree (.lit (.bool t)))) (R : Option Gld) (h : bestL better L none = some R) :
  ad Tryz.prog G0 86 [itv, .fn (.func bf) [] mc] (.tree (rezL R)) := by
 refine ad.runR mixed Tryz.call86 Tryz.func86 rfl (by simp [Tryz.ntmps86]; kernel_rfl) ?_
 simp only [vz, @iq, tyf, seval, ua, rg]
 refine CE (fun tm => tm 9 = itv ∧ tm 3 = .ptr 0 0 ∧ tm 4 = .ptr 1 0 ∧ tm 6 = .ptr 3 0 ∧ tm 7 = .ptr 4 0) (by refine ⟨?_, ?_, ?_, ?_, ?_⟩ <;> simp only [ua, seval]) ?_
 rintro tm ⟨e9, e3, e4, e6, e7⟩
 refine Sa hit (by first | (simp only [qh, AA, e9, xk, seval] <;> rfl) | rfl) ?_
 intro LO hLO
 obtain ⟨J, hJ⟩ : ∃ J : Option (List VV) → List (Nat × VObj) → Prop, J = (fun o hp => match o with
  | some l => ∃ (p : List Gld) (acc : Option Gld), l = (p.map fun e => sL e) ∧ hp = [(7, .deferred (some [])), (8, LO), (0, .cells (some 116) [.fn (.func bf) [] mc]), (1, .cells (some 93) zlC), (3, .cells (some 93) (accL acc)), (4, .cells (some 4) [.lit (.bool acc.isSome)])] ∧ bestL better p acc = some R
  | none => False) := ⟨_, rfl⟩
 refine ⟨ownI J, MQ, ?_, ?_, ?_⟩
 ·rintro v rest Fr H nx hFr ⟨hp, hown, hj⟩
  rw [hJ] at hj
  obtain ⟨p, acc, hl, rfl, hR⟩ := hj
  cases p with
  | nil => cases hl
  | cons e p =>
  simp only [List.map_cons, List.cons.injEq] at hl
  obtain ⟨rfl, rfl⟩ := hl
  obtain ⟨l7, n7, H7⟩ := hown.head
  obtain ⟨l8, n8, H8⟩ := hown.tail.head
  obtain ⟨l0, n0, H0⟩ := hown.tail.tail.head
  obtain ⟨l1, n1, H1⟩ := hown.tail.tail.tail.head
  obtain ⟨l3, n3, H3⟩ := hown.tail.tail.tail.tail.head
  obtain ⟨l4, n4, H4⟩ := hown.tail.tail.tail.tail.tail.head
  have qw : (nx = 0) = False := by simp only [eq_iff_iff, iff_false]; omega
  have sy : (nx = 1) = False := by simp only [eq_iff_iff, iff_false]; omega
  have vT : (nx = 3) = False := by simp only [eq_iff_iff, iff_false]; omega
  have vU : (nx = 4) = False := by simp only [eq_iff_iff, iff_false]; omega
  have PA : (nx = 7) = False := by simp only [eq_iff_iff, iff_false]; omega
  have qY : (nx = 8) = False := by simp only [eq_iff_iff, iff_false]; omega
  have vV : (0 = nx) = False := by simp only [eq_iff_iff, iff_false]; omega
  have t8 : (1 = nx) = False := by simp only [eq_iff_iff, iff_false]; omega
  have vW : (3 = nx) = False := by simp only [eq_iff_iff, iff_false]; omega
  have vX : (4 = nx) = False := by simp only [eq_iff_iff, iff_false]; omega
  have PB : (7 = nx) = False := by simp only [eq_iff_iff, iff_false]; omega
  have qZ : (8 = nx) = False := by simp only [eq_iff_iff, iff_false]; omega
  refine RZ mixed (psl := [10]) hLO H8 RW rfl (by kernel_rfl) (by kernel_rfl) ?_
  intro LB LD hLB hLD
  refine RX (fun tm => tm 10 = sL e ∧ tm 3 = .ptr 0 0 ∧ tm 6 = .ptr 3 0 ∧ tm 7 = .ptr 4 0) (by refine ⟨?_, ?_, ?_, ?_⟩ <;> simp only [AQ, RV, Tryz.ntmps86, e3, e6, e7, seval]) ?_
  clear e9 e3 e4 e6 e7
  rintro tm ⟨bh, e3, e6, e7⟩
  cases acc with
  | none =>
   simp only [accL, Option.isSome_none, zlC] at H3 H4
   unfold bestL at hR
   simp only [vz, @iq, mq, mqm, mqt, tyf, seval, ua, nm, rg, RStart, vcells1 jy, jy, bh, e3, e6, e7, H8, H0, H3, H4, qw, sy, vT, vU, qY, vV, t8, vW, vX, qZ, Nat.add_zero, Bool.not_false]
   refine ⟨by simp only [br, seval, nm, qY, qZ, Nat.add_zero, if_false], qZd _ _, fun γ hγ => ?_, ?_⟩
   ·have g8 : γ ≠ 8 := fun e => n8 (e ▸ hγ)
    have g3 : γ ≠ 3 := fun e => n3 (e ▸ hγ)
    have g4 : γ ≠ 4 := fun e => n4 (e ▸ hγ)
    have gx : γ ≠ nx := fun e => by have := hFr γ hγ; omega
    simp only [updH, Nat.add_zero, g8, g3, g4, gx, if_false]
   ·simp only [if_true]
    refine ⟨[(7, .deferred (some [])), (8, LO), (0, .cells (some 116) [.fn (.func bf) [] mc]), (1, .cells (some 93) zlC), (3, .cells (some 93) (cGld e)), (4, .cells (some 4) [.lit (.bool true)])], Own.cons (qZc l7 (qZd _ _)) n7 ?_ (Own.cons (qZc l8 (qZd _ _)) n8 ?_ (Own.cons (qZc l0 (qZd _ _)) n0 ?_ (Own.cons (qZc l1 (qZd _ _)) n1 ?_ (Own.cons (qZc l3 (qZd _ _)) n3 ?_ (Own.cons (qZc l4 (qZd _ _)) n4 ?_ (Own.nil)))))), ?_⟩
    rotate_left 6
    ·rw [hJ]
     exact ⟨p, some e, rfl, rfl, hR⟩
    all_goals simp only [br, seval, nm, qw, sy, vT, vU, PA, qY, vV, t8, vW, vX, PB, qZ, Nat.add_zero, H7, H8, H0, H1, H3, H4, if_false]
    all_goals first | rfl | (simp only [tyf]; done) | skip
  | some r =>
   simp only [accL, Option.isSome_some] at H3 H4
   unfold bestL at hR
   rcases hbt : better e r with _ | t
   ·rw [hbt] at hR; cases hR
   rw [hbt, Option.bind_some] at hR
   simp only [vz, @iq, mq, mqm, mqt, tyf, seval, ua, nm, rg, RStart, vcells1 jy, jy, bh, e3, e6, e7, H8, H0, H3, H4, qw, sy, vT, vU, qY, vV, t8, vW, vX, qZ, Nat.add_zero, Bool.not_true]
   refine ktreeR ?_ (hb e r t hbt) ?_
   ·simp only [tre, aw, mqr, rR, hmt, Bool.and_self]
   cases t with
   | true =>
    simp only [vz, @iq, mq, mqm, mqt, tyf, seval, ua, nm, rg, RStart, vcells1 jy, jy, bh, e3, e6, e7, H8, H0, H3, H4, qw, sy, vT, vU, qY, vV, t8, vW, vX, qZ, Nat.add_zero]
    refine ⟨by simp only [br, seval, nm, qY, qZ, Nat.add_zero, if_false], qZd _ _, fun γ hγ => ?_, ?_⟩
    ·have g8 : γ ≠ 8 := fun e => n8 (e ▸ hγ)
     have g3 : γ ≠ 3 := fun e => n3 (e ▸ hγ)
     have g4 : γ ≠ 4 := fun e => n4 (e ▸ hγ)
     have gx : γ ≠ nx := fun e => by have := hFr γ hγ; omega
     simp only [updH, Nat.add_zero, g8, g3, g4, gx, if_false]
    ·simp only [if_true]
     refine ⟨[(7, .deferred (some [])), (8, LO), (0, .cells (some 116) [.fn (.func bf) [] mc]), (1, .cells (some 93) zlC), (3, .cells (some 93) (cGld e)), (4, .cells (some 4) [.lit (.bool true)])], Own.cons (qZc l7 (qZd _ _)) n7 ?_ (Own.cons (qZc l8 (qZd _ _)) n8 ?_ (Own.cons (qZc l0 (qZd _ _)) n0 ?_ (Own.cons (qZc l1 (qZd _ _)) n1 ?_ (Own.cons (qZc l3 (qZd _ _)) n3 ?_ (Own.cons (qZc l4 (qZd _ _)) n4 ?_ (Own.nil)))))), ?_⟩
     rotate_left 6
     ·rw [hJ]
      exact ⟨p, some e, rfl, rfl, hR⟩
     all_goals simp only [br, seval, nm, qw, sy, vT, vU, PA, qY, vV, t8, vW, vX, PB, qZ, Nat.add_zero, H7, H8, H0, H1, H3, H4, if_false]
     all_goals first | rfl | (simp only [tyf]; done) | skip
   | false =>
    simp only [vz, @iq, mq, mqm, mqt, tyf, seval, ua, nm, rg, RStart, vcells1 jy, jy, bh, e3, e6, e7, H8, H0, H3, H4, qw, sy, vT, vU, qY, vV, t8, vW, vX, qZ, Nat.add_zero]
    refine ⟨by simp only [br, seval, nm, qY, qZ, Nat.add_zero, if_false], qZd _ _, fun γ hγ => ?_, ?_⟩
    ·have g8 : γ ≠ 8 := fun e => n8 (e ▸ hγ)
     have g3 : γ ≠ 3 := fun e => n3 (e ▸ hγ)
     have g4 : γ ≠ 4 := fun e => n4 (e ▸ hγ)
     have gx : γ ≠ nx := fun e => by have := hFr γ hγ; omega
     simp only [updH, Nat.add_zero, g8, g3, g4, gx, if_false]
    ·simp only [if_true]
     refine ⟨[(7, .deferred (some [])), (8, LO), (0, .cells (some 116) [.fn (.func bf) [] mc]), (1, .cells (some 93) zlC), (3, .cells (some 93) (cGld r)), (4, .cells (some 4) [.lit (.bool true)])], Own.cons (qZc l7 (qZd _ _)) n7 ?_ (Own.cons (qZc l8 (qZd _ _)) n8 ?_ (Own.cons (qZc l0 (qZd _ _)) n0 ?_ (Own.cons (qZc l1 (qZd _ _)) n1 ?_ (Own.cons (qZc l3 (qZd _ _)) n3 ?_ (Own.cons (qZc l4 (qZd _ _)) n4 ?_ (Own.nil)))))), ?_⟩
     rotate_left 6
     ·rw [hJ]
      exact ⟨p, some r, rfl, rfl, hR⟩
     all_goals simp only [br, seval, nm, qw, sy, vT, vU, PA, qY, vV, t8, vW, vX, PB, qZ, Nat.add_zero, H7, H8, H0, H1, H3, H4, if_false]
     all_goals first | rfl | (simp only [tyf]; done) | skip
 ·refine ⟨[(7, .deferred (some [])), (8, LO), (0, .cells (some 116) [.fn (.func bf) [] mc]), (1, .cells (some 93) zlC), (3, .cells (some 93) zlC), (4, .cells (some 4) [.lit (.bool false)])], Own.cons (show 7 < 9 by omega) (fun h => h) ?_ (Own.cons (show 8 < 9 by omega) (fun h => h) ?_ (Own.cons (show 0 < 9 by omega) (fun h => h) ?_ (Own.cons (show 1 < 9 by omega) (fun h => h) ?_ (Own.cons (show 3 < 9 by omega) (fun h => h) ?_ (Own.cons (show 4 < 9 by omega) (fun h => h) ?_ (Own.nil)))))), ?_⟩
  rotate_left 6
  ·rw [hJ]
   exact ⟨L, none, rfl, rfl, h⟩
  all_goals first | (simp only [br, seval] <;> rfl) | rfl
 ·rintro H' nx' (⟨hp, hown, hj⟩ | ⟨hp, hown, hj⟩)
  ·rw [hJ] at hj
   obtain ⟨p, acc, hl, rfl, hR⟩ := hj
   cases p with
   | cons e p => cases hl
   | nil =>
   simp only [bestL, Option.some.injEq] at hR
   subst hR
   obtain ⟨l7, n7, H7⟩ := hown.head
   obtain ⟨l8, n8, H8⟩ := hown.tail.head
   obtain ⟨l0, n0, H0⟩ := hown.tail.tail.head
   obtain ⟨l1, n1, H1⟩ := hown.tail.tail.tail.head
   obtain ⟨l3, n3, H3⟩ := hown.tail.tail.tail.tail.head
   obtain ⟨l4, n4, H4⟩ := hown.tail.tail.tail.tail.tail.head
   refine RU hLO H8 ?_
   intro LX
   cases acc with
   | none =>
    simp only [accL, Option.isSome_none, zlC] at H1 H3 H4
    refine uE (fun tm => tm 4 = .ptr 1 0 ∧ tm 6 = .ptr 3 0 ∧ tm 7 = .ptr 4 0) ⟨e4, e6, e7⟩ ?_
    clear e9 e3 e4 e6 e7
    rintro tm ⟨e4, e6, e7⟩
    simp only [vz, @iq, mq, mqm, mqt, tyf, seval, ua, nm, rg, vcells1 jy, jy, e4, e6, e7, H1, H3, H4]
    refine nv ⟨?_, ?_⟩
    ·simp only [n6, n5, ic, ny, and_true, true_and]
     repeat' (first | exact trivial | refine And.intro ?_ ?_ | rw [ic] | rw [nz] | exact Or.inl (by decide +kernel) | exact Or.inl (by dsimp only; decide +kernel) | (refine Or.inr ⟨?_, ?_⟩ <;> simp; done) | (refine Or.inr ⟨?_, ?_⟩ <;> simp <;> omega) | (refine Or.inr ⟨?_, ?_⟩ <;> simp [VEff.wr] <;> omega))
    simp only [vz, @iq, mq, mqm, mqt, tyf, seval, ua, nm, rg, vcells1 jy, jy, e4, e6, e7, H1, H3, H4]
    refine MI (by simp only [br, seval, nm, H7]) ?_
    refine d4 (x := .tup [.agg (zlC), .lit (.bool false)]) (by simp only [Tryz.results86, resV, resL, aJ, dU, dT, uw, cr, tyf, mqt, e4, nm, seval] <;> rfl) ?_
    refine dW (by simp only [rezL, zlC, zlN, tre, aw, mqr, rR, Bool.and_self]) ?_
    simp only [outV, rezL, zlC, zlN, nrm, ar, mqr, D6, Tw, CX, tyf, seval, List.map_cons, List.map_nil]
   | some r =>
    simp only [accL, Option.isSome_some, zlC] at H1 H3 H4
    refine uE (fun tm => tm 4 = .ptr 1 0 ∧ tm 6 = .ptr 3 0 ∧ tm 7 = .ptr 4 0) ⟨e4, e6, e7⟩ ?_
    clear e9 e3 e4 e6 e7
    rintro tm ⟨e4, e6, e7⟩
    simp only [vz, @iq, mq, mqm, mqt, tyf, seval, ua, nm, rg, vcells1 jy, jy, e4, e6, e7, H1, H3, H4]
    refine nv ⟨?_, ?_⟩
    ·simp only [n6, n5, ic, ny, and_true, true_and]
     repeat' (first | exact trivial | refine And.intro ?_ ?_ | rw [ic] | rw [nz] | exact Or.inl (by decide +kernel) | exact Or.inl (by dsimp only; decide +kernel) | (refine Or.inr ⟨?_, ?_⟩ <;> simp; done) | (refine Or.inr ⟨?_, ?_⟩ <;> simp <;> omega) | (refine Or.inr ⟨?_, ?_⟩ <;> simp [VEff.wr] <;> omega))
    simp only [vz, @iq, mq, mqm, mqt, tyf, seval, ua, nm, rg, vcells1 jy, jy, e4, e6, e7, H1, H3, H4]
    refine MI (by simp only [br, seval, nm, H7]) ?_
    refine d4 (x := .tup [.agg ((cGld r)), .lit (.bool true)]) (by simp only [Tryz.results86, resV, resL, aJ, dU, dT, uw, cr, tyf, mqt, e4, nm, seval] <;> rfl) ?_
    refine dW (by simp only [rezL, tre, aw, mqr, rR, Bool.and_self]) ?_
    simp only [outV, rezL, nrm, ar, mqr, D6, Tw, CX, tyf, seval, List.map_cons, List.map_nil]
  ·rw [hJ] at hj
   exact hj.elim
def tH (bA : Gld) (bD : Gld) : Option (Bool) := Option.bind (tn (List.length bA.lx.Ends : Int) (List.length bD.lx.Ends : Int)) (fun r1 => Option.bind (tn bD.stretch bA.stretch) (fun r2 => Option.bind (wK ([r1, r2])) (fun r3 => some (decide (r3 < 0)))))
theorem Yb (bA : Gld) (bD : Gld) (R : Bool) (h : tH bA bD = some R) : ad Tryz.prog G0 88 [.agg (cGld bA), .agg (cGld bD)] (.tree (.lit (.bool R))) := by
 refine ad.runR mixed Tryz.call88 Tryz.func88 rfl (by simp [Tryz.ntmps88]; kernel_rfl) ?_
 obtain ⟨KF, h, kF, kN⟩ := dZ h
 simp only [tH] at h
 simp only [vz, mq, mqm, tyf, mqt, nm, seval]
 refine uE (fun tm => tm 2 = .ptr 0 0 ∧ tm 3 = .ptr 1 0 ∧ True) (by refine ⟨?_, ?_, trivial⟩ <;> first | (simp only [ua, cL, nm, seval] <;> rfl) | rfl) ?_
 rintro tm ⟨e4, e5, _⟩
 obtain ⟨r6, o7, h⟩ := optI h kN
 try simp only [hs] at h
 simp only [vz, mq, mqm, tyf, mqt, e4, e5, nm, seval]
 refine dktree (args0 := [.lit (.int .i64 (List.length bA.lx.Ends : Int)), .lit (.int .i64 (List.length bD.lx.Ends : Int))]) (by first | (simp only [nrm, ar, mqr] <;> rfl) | rfl) (by simp only [tre, aw, mqr, Bool.and_self]) (CZ _ _ _ o7) ?_
 refine bt (fun tm => tm 2 = .ptr 0 0 ∧ tm 3 = .ptr 1 0 ∧ tm 13 = .lit (.int .i64 r6) ∧ True) (by refine ⟨e4, e5, ?_, trivial⟩ <;> first | (simp only [ua, cL, e4, e5, nm, seval] <;> rfl) | rfl) ?_
 rintro tm ⟨e8, e9, bh, _⟩
 obtain ⟨mj, iI, h⟩ := optI h kN
 try simp only [hs] at h
 simp only [vz, mq, mqm, tyf, mqt, e8, e9, bh, nm, seval]
 refine dktree (args0 := [.lit (.int .i64 bD.stretch), .lit (.int .i64 bA.stretch)]) (by first | (simp only [nrm, ar, mqr] <;> rfl) | rfl) (by simp only [tre, aw, mqr, Bool.and_self]) (CZ _ _ _ iI) ?_
 refine bt (fun tm => tm 13 = .lit (.int .i64 r6) ∧ tm 18 = .lit (.int .i64 mj) ∧ True) (by refine ⟨bh, ?_, trivial⟩ <;> first | (simp only [ua, cL, e8, e9, bh, nm, seval] <;> rfl) | rfl) ?_
 rintro tm ⟨bz, ca, _⟩
 obtain ⟨uF, ir, h⟩ := optI h kN
 try simp only [hs] at h
 simp only [vz, mq, mqm, tyf, mqt, bz, ca, nm, seval]
 refine dkseen1 (w := 1) (enc := eI) (xs := ([r6, mj])) (el := (some 3)) ⟨eI_ok.tree, eI_ok.norm⟩ (fun _ => rfl) (by simp only [List.length_cons, List.length_nil]; decide) (by simp only [br, bW, jE, nm, seval] <;> rfl) (Rw _ _ ir) (by first | rfl | simp only [VV.flat, flatL, Bool.and_self]) ?_
 refine bt (fun tm => tm 20 = .lit (.int .i64 uF) ∧ True) (by refine ⟨?_, trivial⟩ <;> first | (simp only [ua, cL, bz, ca, nm, seval] <;> rfl) | rfl) ?_
 rintro tm ⟨dV, _⟩
 simp only [vz, mq, mqm, tyf, mqt, dV, nm, seval]
 refine nv ⟨?_, ?_⟩
 ·simp only [n6, n5, ic, ny, and_true, true_and]
  repeat' (first | exact trivial | refine And.intro ?_ ?_ | rw [ic] | rw [nz] | exact Or.inl (by decide +kernel) | exact Or.inl (by dsimp only; decide +kernel) | (refine Or.inr ⟨?_, ?_⟩ <;> simp; done) | (refine Or.inr ⟨?_, ?_⟩ <;> simp <;> omega) | (refine Or.inr ⟨?_, ?_⟩ <;> simp [VEff.wr] <;> omega))
 try simp only [vz, mq, mqm, tyf, mqt, dV, nm, seval]
 obtain rfl := kF _ h
 exact bc Tryz.results88 rfl
def stgR : Option Gld → GLx × Int × Int
 | none => (GLx.mk [] [], 0, 5)
 | some l => (l.lx, l.stretch, 0)
def sR (s : GLs) : Option (GLx × Int × Int) := Option.bind (tl s) fun b => cond b (Option.bind (vS s []) fun L => Option.bind (bestL tH L none) fun r => some (stgR r)) (some (GLx.mk [] [], 0, 2))
theorem Qg (s : GLs) (R : GLx × Int × Int) (h : sR s = some R) : ad Tryz.prog G0 38 [.agg (cGLs s)] (.tree (.tup [.agg (cGLx R.1), .lit (.int .i64 R.2.1), .lit (.int .i64 R.2.2)])) := by
 refine ad.runR mixed Tryz.call38 Tryz.func38 rfl (by simp [Tryz.ntmps38]; kernel_rfl) ?_
 unfold sR at h
 rcases o0 : tl s with _ | b
 ·rw [o0] at h; cases h
 rw [o0, Option.bind_some] at h
 simp only [vz, tyf, seval, ua, rg]
 refine ktA (Rq _ _ o0) ?_
 cases b with
 | false =>
  simp only [cond_false, Option.some.injEq] at h
  subst h
  simp only [vz, tyf, seval, ua, rg, Bool.not_false]
  refine d4 (x := .tup [.agg [.lit (.slice none 0 0), .lit (.slice none 0 0)], .lit (.int .i64 0), .lit (.int .i64 2)]) (by simp only [Tryz.results38, resV, resL, aJ, dU, dT, uw, cr, tyf, nm, seval] <;> rfl) ?_
  refine dW (by simp only [tre, aw, Bool.and_self]) ?_
  simp only [outV, nrm, ar, tyf, seval, List.map_cons, List.map_nil, fJ, List.length_nil]
 | true =>
 rw [cond_true] at h
 rcases o1 : vS s [] with _ | L
 ·rw [o1] at h; cases h
 rw [o1, Option.bind_some] at h
 rcases o2 : bestL tH L none with _ | r
 ·rw [o2] at h; cases h
 rw [o2, Option.bind_some, Option.some.injEq] at h
 have hit := XZ s [] L o1
 have hbest := P9 (bf := 88) (mc := []) hit rfl (fun a b t hab => Yb a b t hab) r o2
 simp only [vz, tyf, seval, ua, rg, Bool.not_true]
 refine ktreeR ?_ (P7 s []) ?_
 ·simp only [tre, aw, Bool.and_self]
 simp only [vz, tyf, seval, ua, rg]
 refine ktreeR ?_ hbest ?_
 ·have := P6 (s := s) (out := [])
  simp [treeL, VV.tree, this]
 cases r with
 | none =>
  simp only [stgR] at h
  subst h
  simp only [vz, @iq, mq, mqm, mqt, tyf, seval, ua, nm, rg, rezL, zlN]
  refine d4 (x := .tup [.agg [.lit (.slice none 0 0), .lit (.slice none 0 0)], .lit (.int .i64 0), .lit (.int .i64 5)]) (by simp only [Tryz.results38, resV, resL, aJ, dU, dT, uw, cr, tyf, nm, seval] <;> rfl) ?_
  refine dW (by simp only [tre, aw, Bool.and_self]) ?_
  simp only [outV, nrm, ar, tyf, seval, List.map_cons, List.map_nil, fJ, List.length_nil]
 | some l =>
  simp only [stgR] at h
  subst h
  simp only [vz, @iq, mq, mqm, mqt, tyf, seval, ua, nm, rg, rezL, zlN]
  refine uE (fun tm => tm 2 = .ptr 1 0 ∧ tm 5 = .ptr 13 0) (by refine ⟨?_, ?_⟩ <;> simp only [ua, seval]) ?_
  rintro tm ⟨e2, e5⟩
  simp only [vz, @iq, mq, mqm, mqt, tyf, seval, ua, nm, rg, e2, e5]
  refine nv ⟨?_, ?_⟩
  ·simp only [n6, n5, ic, ny, and_true, true_and]
   repeat' (first | exact trivial | refine And.intro ?_ ?_ | rw [ic] | rw [nz] | exact Or.inl (by decide +kernel) | exact Or.inl (by dsimp only; decide +kernel) | (refine Or.inr ⟨?_, ?_⟩ <;> simp; done) | (refine Or.inr ⟨?_, ?_⟩ <;> simp <;> omega) | (refine Or.inr ⟨?_, ?_⟩ <;> simp [VEff.wr] <;> omega))
  simp only [vz, @iq, mq, mqm, mqt, tyf, seval, ua, nm, rg, e2, e5]
  refine d4 (x := .tup [.agg (cGLx l.lx), .lit (.int .i64 l.stretch), .lit (.int .i64 0)]) (by simp only [Tryz.results38, resV, resL, aJ, dU, dT, uw, cr, tyf, e2, nm, seval] <;> rfl) ?_
  refine dW (by simp only [tre, aw, Bool.and_self]) ?_
  simp only [outV, nrm, ar, tyf, seval, List.map_cons, List.map_nil]
structure LaidOk (s : GLs) (out : List Int) (l : Gld) : Prop where
 sh : l.ls = s
 ou : l.lx.Out = out
 st : ∃ K : Nat, l.stretch = (K : Int) ∧ MostS s l.lx (some K)
theorem Co {s : GLs} (h : Sh s) {out : List Int} (hl : lenOk out = true) : ∀ (L : List (List GLe)), (∀ y ∈ L, IsS (possL out s.Words 0) y) → ∃ FL, fitO s out L = some FL ∧ (FL.map fun l => l.lx.Ends).Sublist L ∧ (∀ l ∈ FL, LaidOk s out l) ∧ ∀ y ∈ L, fitS s (GLx.mk out y) 0 = true → ∃ l ∈ FL, l.lx.Ends = y
 | [], _ => ⟨[], rfl, List.Sublist.slnil, (fun l hl => by cases hl), fun y hy => by cases hy⟩
 | y :: L, hy => by
  obtain ⟨FL, f1, f2, f3, f4⟩ := Co h hl L fun y hy' => hy y (qZa _ hy')
  obtain ⟨l, w, o, e1, e2, e3, e4, e5, e6, e7⟩ := Ru h (x := GLx.mk out y) hl (hy y (qZb ..))
  subst e4
  cases o with
  | none =>
   refine ⟨FL, by simp only [fitO, e1, e2, f1, Option.bind_some]; rfl, List.Sublist.cons _ f2, f3, fun y' hy' hf => ?_⟩
   rcases List.mem_cons.1 hy' with rfl | hy'
   ·have e3' : fitS s (GLx.mk out y') 0 = false := e3
    rw [hf] at e3'; cases e3'
   ·exact f4 y' hy' hf
  | some K =>
   refine ⟨setS l (K : Int) :: FL, by simp only [fitO, e1, e2, f1, Option.bind_some]; rfl, ?_, fun m hm => ?_, fun y' hy' hf => ?_⟩
   ·have : (setS l (K : Int)).lx.Ends = y := by show l.lx.Ends = y; rw [e6]
    rw [List.map_cons, this]
    exact List.Sublist.cons_cons _ f2
   ·rcases List.mem_cons.1 hm with rfl | hm
    ·exact ⟨e5, by show l.lx.Out = out; rw [e6], K, rfl, by show MostS s l.lx (some K); rw [e6]; exact e3⟩
    ·exact f3 m hm
   ·rcases List.mem_cons.1 hy' with rfl | hy'
    ·exact ⟨_, qZb .., by show l.lx.Ends = y'; rw [e6]⟩
    ·obtain ⟨m, h1, h2⟩ := f4 y' hy' hf
     exact ⟨m, qZa _ h1, h2⟩
theorem Qn {s : GLs} {x : GLx} {o : Option Nat} {K : Nat} (h : MostS s x o) (k : MostS s x (some K)) : o = some K := by
 obtain ⟨k1, k2⟩ := k
 cases o with
 | none =>
  have h' : fitS s x 0 = false := h
  have := k2 0 (Nat.zero_le _)
  rw [show ((0 : Nat) : Int) = 0 from rfl, h'] at this
  simp at this
 | some J =>
  obtain ⟨j1, j2⟩ := h
  have a := j2 K k1
  have b := k2 J j1
  rw [k2 K k1] at a
  rw [j2 J j1] at b
  simp at a b
  congr 1
  omega
theorem EW {s : GLs} {x : GLx} {K : Nat} (k : MostS s x (some K)) : fitS s x 0 = true := by
 have := k.2 0 (Nat.zero_le _)
 simpa using this
theorem EX {s : GLs} {x : GLx} {k : Int} (h : fitS s x k = true) : (x.Ends.length : Int) ≤ s.Rows := by
 unfold fitS at h
 simp only [Bool.and_eq_true, decide_eq_true_eq] at h
 exact h.2
def fw (a b : Gld) : Prop := a.lx.Ends.length < b.lx.Ends.length ∨ a.lx.Ends.length = b.lx.Ends.length ∧ b.stretch < a.stretch
instance (a b : Gld) : Decidable (fw a b) := inferInstanceAs (Decidable (_ ∨ _))
theorem fw_eq (a b : Gld) : tH a b = some (decide (fw a b)) := by
 simp only [tH, Tg, or_eq, Option.bind_some]
 congr 1
 rw [Bool.eq_iff_iff, decide_eq_true_eq, decide_eq_true_eq]
 unfold sgn fw
 generalize hm : a.lx.Ends.length = m
 generalize hn : b.lx.Ends.length = n
 by_cases h1 : (m : Int) < (n : Int)
 ·rw [if_pos h1]; simp; omega
 ·rw [if_neg h1]
  by_cases h2 : (m : Int) > (n : Int)
  ·rw [if_pos h2]; simp; omega
  ·rw [if_neg h2]
   by_cases h3 : b.stretch < a.stretch
   ·rw [if_pos h3]; simp; omega
   ·rw [if_neg h3]
    by_cases h4 : b.stretch > a.stretch
    ·rw [if_pos h4]; simp; omega
    ·rw [if_neg h4]; simp; omega
theorem PC : ∀ (L : List Gld) (r : Gld), ∃ m A B, bestL tH L (some r) = some (some m) ∧ r :: L = A ++ m :: B ∧ (∀ y ∈ A, fw m y) ∧ ∀ y ∈ B, ¬ fw y m
 | [], r => ⟨r, [], [], rfl, rfl, (fun y h => by cases h), fun y h => by cases h⟩
 | x :: L, r => by
  by_cases hx : fw x r
  ·obtain ⟨m, A, B, h1, h2, h3, h4⟩ := PC L x
   refine ⟨m, r :: A, B, by rw [bestL, fw_eq, Option.bind_some, decide_eq_true hx, cond_true, h1], by rw [h2]; rfl, fun y hy => ?_, h4⟩
   rcases List.mem_cons.1 hy with rfl | hy
   ·cases A with
    | nil =>
     simp only [List.nil_append, List.cons.injEq] at h2
     rw [← h2.1]; exact hx
    | cons a A =>
     simp only [List.cons_append, List.cons.injEq] at h2
     have := h3 a (qZb ..)
     rw [← h2.1] at this
     unfold fw at *
     omega
   ·exact h3 y hy
  ·obtain ⟨m, A, B, h1, h2, h3, h4⟩ := PC L r
   have e : bestL tH (x :: L) (some r) = some (some m) := by rw [bestL, fw_eq, Option.bind_some, decide_eq_false hx, cond_false, h1]
   cases A with
   | nil =>
    simp only [List.nil_append, List.cons.injEq] at h2
    obtain ⟨rfl, rfl⟩ := h2
    refine ⟨r, [], x :: L, e, rfl, (fun y h => by cases h), fun y hy => ?_⟩
    rcases List.mem_cons.1 hy with rfl | hy
    ·exact hx
    ·exact h4 y hy
   | cons a A =>
    simp only [List.cons_append, List.cons.injEq] at h2
    obtain ⟨rfl, rfl⟩ := h2
    refine ⟨m, r :: x :: A, B, e, rfl, fun y hy => ?_, h4⟩
    have hr := h3 r (qZb ..)
    rcases List.mem_cons.1 hy with rfl | hy
    ·exact hr
    ·rcases List.mem_cons.1 hy with rfl | hy
     ·unfold fw at *; omega
     ·exact h3 y (qZa _ hy)
theorem EV {s : GLs} (hf : FineS s) (hs : sheetB s = true) (ho : outB s [] = true) : ∃ L FL, u4 s [] = some L ∧ vS s [] = some FL ∧ (∀ y, y ∈ L ↔ IsS (possL [] s.Words 0) y ∧ (y.length : Int) ≤ s.Rows) ∧ L.Pairwise ordE ∧ FL.length ≤ 277 ∧ (FL.map fun l => l.lx.Ends).Sublist L ∧ (∀ l ∈ FL, LaidOk s [] l) ∧ (∀ y ∈ L, fitS s (GLx.mk [] y) 0 = true → ∃ l ∈ FL, l.lx.Ends = y) ∧
  ((FL = [] ∧ sR s = some (GLx.mk [] [], 0, 5)) ∨ ∃ m A B, FL = A ++ m :: B ∧ sR s = some (m.lx, m.stretch, 0) ∧ (∀ y ∈ A, fw m y) ∧ ∀ y ∈ B, ¬ fw y m) := by
 have h := sh_of hs
 obtain ⟨L, l1, l2, l3, l4⟩ := XY h ho rfl (by simp)
 obtain ⟨FL, f1, f2, f3, f4⟩ := Co h (out := []) rfl L fun y hy => ((l2 y).1 hy).1
 have hfit : vS s [] = some FL := by rw [vS, l1, Option.bind_some, f1]
 have hlen : FL.length ≤ 277 := by
  have := f2.length_le
  rw [List.length_map] at this
  omega
 refine ⟨L, FL, l1, hfit, l2, l3, hlen, f2, f3, f4, ?_⟩
 cases FL with
 | nil =>
  left
  refine ⟨rfl, ?_⟩
  simp only [sR, JG s hf, hs, Option.bind_some, cond_true, hfit]
  rfl
 | cons r FL =>
  right
  obtain ⟨m, A, B, h1, h2, h3, h4⟩ := PC FL r
  refine ⟨m, A, B, h2, ?_, h3, h4⟩
  simp only [sR, JG s hf, hs, Option.bind_some, cond_true, hfit]
  rw [bestL, h1]
  rfl
def rangeFR (f : FuncId) (cf : aq) (jump : Code → RS → ER) (n : Nat) (s : RS) (f0 : FuncId) (first captured : List VV) (ps : Array Tmp) (asg bo : Code) : ER :=
 match cf f0 (first ++ [.yl (s.nx + 1)] ++ captured) ((s.H.put s.nx (some (.deferred (some [])))).put (s.nx + 1) (some (.loopF .ready none (tmL n s.st.tm) ps asg bo f))) (s.nx + 2) with
 | .ret _ H' nx' => match H'.get (s.nx + 1) with
  | some (.loopF .busy _ _ _ _ _ _) => .no (.text 1)
  | some (.loopF _ pe tm ps asg bo fn) => match pe with
   | none => .mk .normal { s with H := H'.put (s.nx + 1) (some (.loopF .exhausted pe tm ps asg bo fn)), nx := nx', df := .coll s.nx :: s.df }
   | some c => jump c { s with H := H'.put (s.nx + 1) (some (.loopF .exhausted pe tm ps asg bo fn)), nx := nx', df := .coll s.nx :: s.df }
  | _ => .no (.text 2)
 | .pan x H' nx' => .mk (.panic x) { s with H := H', nx := nx', df := .coll s.nx :: s.df }
 | .no w => .no w
def GoOk (P : Program) (G : Glob) (f n : Nat) (go : Code → RS → ER) : Prop := ∀ code s e s', go code s = .mk e s' → ∀ Q : VExit → St → Prop, Q e s'.st → VGo P G f n code Q s.st
theorem Yc {P : Program} {G : Glob} {cf : aq} (hcf : CallOk P G cf) {f : FuncId} {jump : Code → RS → ER} {n : Nat} (hj : GoOk P G f n jump) {s s' : RS} {e : VExit} {g : Operand} {f0 : FuncId} {first captured : List VV} {ps : Array Tmp} {asg bo : Code}
  (hg : s.st.ρ G g = .fn (.func f0) first captured) (h : rangeFR f cf jump n s f0 first captured ps asg bo = .mk e s') {Q : VExit → St → Prop} (hq : Q e s'.st) : VGo P G f n (.rangeFunc g ps asg bo) Q s.st := by
 refine VGo.range hg ?_
 unfold rangeFR at h
 have eH : ((s.H.put s.nx (some (.deferred (some [])))).put (s.nx + 1) (some (.loopF .ready none (tmL n s.st.tm) ps asg bo f))).get = updH (updH s.st.H s.st.nx (.deferred (some []))) (s.st.nx + 1) (.loopF .ready none (tmL n s.st.tm) ps asg bo f) := by
  rw [oY, oY]; rfl
 split at h
 ·rename_i x H' nx' hc
  have hv := hcf.1 _ _ _ _ _ _ _ hc
  rw [eH] at hv
  refine av.mono hv ?_ ?_
  ·rintro y H1 n1 ⟨_, rfl, rfl⟩
   split at h
   ·cases h
   ·rename_i st pe mf mg mh mi nC hnb hl
    have e2 : ({ s with H := H'.put (s.nx + 1) (some (.loopF .exhausted pe mf mg mh mi nC)), nx := n1, df := .coll s.nx :: s.df } : RS).st = { s.st with H := updH H'.get (s.st.nx + 1) (.loopF .exhausted pe mf mg mh mi nC), nx := n1, df := .coll s.st.nx :: s.st.df } := by
     simp only [RS.st, oY]
    refine ⟨st, pe, mf, mg, mh, mi, nC, hl, hnb, ?_⟩
    split at h
    ·cases h
     show Q .normal _
     rw [← e2]; exact hq
    ·rename_i c
     show VGo P _ f n c Q _
     rw [← e2]
     exact hj c _ e s' h Q hq
   ·cases h
  ·intro y H1 n1 h; exact h.elim
 ·rename_i x H' nx' hc
  have hv := hcf.2 _ _ _ _ _ _ _ hc
  rw [eH] at hv
  cases h
  refine av.mono hv ?_ ?_
  ·intro y H1 n1 h; exact h.elim
  ·rintro y H1 n1 ⟨rfl, rfl, rfl⟩
   exact hq
 ·cases h
noncomputable def rangeFF (f : FuncId) (cf : aq) (jump : Code → RS → ER) (n : Nat) (s : RS) (ps : Array Tmp) (asg bo : Code) (code : Code) (x : VV) : ER := match x with
 | .fn (.func f0) first captured => rangeFR f cf jump n s f0 first captured ps asg bo
 | _ => .no (.code code)
noncomputable def goF (G : Glob) (f : FuncId) (run : RunR) (cf : aq) (n : Nat) (k : Nat) : Code → RS → ER :=
 Nat.rec (motive := fun _ => Code → RS → ER) (fun code s => run none n code s) (fun _ ih code s => match code with
  | .seq a b => thenQ (ih a s) (fun s' => ih b s')
  | .block id a => blockQ (ih a s) id
  | .rangeFunc g ps asg bo => rangeFF f cf (fun c s => run none n c s) n s ps asg bo code (ρQ G s.tm g)
  | code => run none n code s) k
theorem Cp {P : Program} {G : Glob} {f n : Nat} {run : RunR} {cf : aq} (hrun : RunOk P G run) (hcf : CallOk P G cf) : ∀ (k : Nat), GoOk P G f n (goF G f run cf n k)
 | 0, code, s, e, s', h, Q, hq => VGo.of (hrun none n code s e s' h Q hq)
 | k + 1, code, s, e, s', h, Q, hq => by
  have ih := Cp (f := f) (n := n) hrun hcf k
  have dflt : run none n code s = .mk e s' → VGo P G f n code Q s.st := fun h => VGo.of (hrun none n code s e s' h Q hq)
  cases code with
  | seq a b =>
   have h' : thenQ (goF G f run cf n k a s) (fun s' => goF G f run cf n k b s') = .mk e s' := h
   cases hs : goF G f run cf n k a s with
   | no w => rw [hs] at h'; cases h'
   | mk e1 s1 =>
    rw [hs] at h'
    cases e1 with
    | normal => exact VGo.seq (ih a s .normal s1 hs _ (ih b s1 e s' h' Q hq))
    | exit id => cases h'; exact VGo.seq (ih a s _ _ hs _ hq)
    | goto l => cases h'; exact VGo.seq (ih a s _ _ hs _ hq)
    | ret => cases h'; exact VGo.seq (ih a s _ _ hs _ hq)
    | panic x => cases h'; exact VGo.seq (ih a s _ _ hs _ hq)
  | block id a =>
   have h' : blockQ (goF G f run cf n k a s) id = .mk e s' := h
   cases hs : goF G f run cf n k a s with
   | no w => rw [hs] at h'; cases h'
   | mk e1 s1 =>
    rw [hs] at h'
    refine VGo.block (ih a s e1 s1 hs _ ?_)
    cases e1 with
    | normal => cases h'; exact hq
    | goto l => cases h'; exact hq
    | ret => cases h'; exact hq
    | panic x => cases h'; exact hq
    | exit id' =>
     have h'' : Bool.rec (motive := fun _ => ER) (.mk (.exit id') s1) (.mk .normal s1) (Nat.beq id' id) = .mk e s' := h'
     show (if id' = id then _ else _)
     by_cases hid : id' = id
     ·have hb : Nat.beq id' id = true := by simpa using hid
      rw [hb] at h''
      cases h''
      rw [if_pos hid]; exact hq
     ·have hb : Nat.beq id' id = false := by cases hq : Nat.beq id' id with | false => rfl | true => exact absurd (by simpa using hq) hid
      rw [hb] at h''
      cases h''
      rw [if_neg hid]; exact hq
  | rangeFunc g ps asg bo =>
   have h' : rangeFF f cf (fun c s => run none n c s) n s ps asg bo (.rangeFunc g ps asg bo) (ρQ G s.tm g) = .mk e s' := h
   rw [ρQ_eq] at h'
   unfold rangeFF at h'
   split at h'
   ·rename_i f0 first captured hg
    exact Yc hcf (fun c s e s' hs Q hq => VGo.of (hrun none n c s e s' hs Q hq)) hg h' hq
   ·cases h'
  | _ => exact dflt h
noncomputable def enterF (P : Program) (G : Glob) (run : RunR) (cf : aq) (k : Nat) (f : FuncId) (fn : Func) (code : Code) (args : List VV) (H : Trie VObj) (nx : Nat) : CR :=
 match goF G f run cf fn.ntmps k code (RS.mk (listV args 0 .nil) H nx []) with
 | .mk .ret s => leaveR P G run fn f s s.df .ret s.H s.nx
 | .mk .normal s => leaveR P G run fn f s s.df .ret s.H s.nx
 | .mk (.panic x) s => leaveR P G run fn f s s.df (.pan x false) s.H s.nx
 | .mk _ _ => .no (.fn f)
 | .no w => .no w
noncomputable def qF (P : Program) (G : Glob) (run : RunR) (cf : aq) (k : Nat) : aq := fun f args H nx => match textQ P f with
 | some (fn, code) => Bool.rec (motive := fun _ => CR) (.no (.fn f)) (enterF P G run cf k f fn code args H nx) (Nat.ble args.length fn.ntmps)
 | none => .no (.fn f)
theorem PD {P : Program} {f : FuncId} {fn : Func} {code : Code} (h : textQ P f = some (fn, code)) : P.funcs[f]? = some fn ∧ fn.body = some code ∧ nameQ fn = true := by
 unfold textQ at h
 split at h
 ·cases h
 ·rename_i sO hf
  split at h
  ·cases h
  ·rename_i c1 hb
   split at h
   ·rename_i hn
    cases h
    exact ⟨hf, hb, hn⟩
   ·cases h
theorem Tx {P : Program} {G : Glob} {run : RunR} {cf : aq} {k : Nat} (hrun : RunOk P G run) (hcf : CallOk P G cf) {f : FuncId} {args : List VV} {H : Trie VObj} {nx : Nat} {R Rp : VV → (Nat → Option VObj) → Nat → Prop}
  (h1 : ∀ x H' nx', qF P (G.at (some none)) run cf k f args H nx = .ret x H' nx' → R x H'.get nx') (h2 : ∀ x H' nx', qF P (G.at (some none)) run cf k f args H nx = .pan x H' nx' → Rp x H'.get nx') (h3 : ∀ w, qF P (G.at (some none)) run cf k f args H nx ≠ .no w) : av P G f args H.get nx R Rp := by
 unfold qF at h1 h2 h3
 cases ht : textQ P f with
 | none => exact absurd (by simp only [ht]) (h3 (.fn f))
 | some p =>
  obtain ⟨fn, code⟩ := p
  obtain ⟨hf, hb, hn⟩ := PD ht
  cases hc : Nat.ble args.length fn.ntmps with
  | false => exact absurd (by simp only [ht, hc]) (h3 (.fn f))
  | true =>
   simp only [ht, hc] at h1 h2 h3
   simp only [Nat.ble_eq] at hc
   unfold enterF at h1 h2 h3
   rw [E2] at h1 h2 h3
   cases hr : goF (G.at (some none)) f run cf fn.ntmps k code (RS.mk (Trie.ofList 0 args .nil) H nx []) with
   | no w => exact absurd (by rw [hr]) (h3 w)
   | mk e s =>
    rw [hr] at h1 h2 h3
    have body : OpenPostD P G fn R Rp e s.st → av P G f args H.get nx R Rp := by
     intro hq
     have := Cp (G := G.at (some none)) (f := f) (n := fn.ntmps) hrun hcf k code _ e s hr _ hq
     rw [argsR] at this
     exact av.of_bodyGo (EB hf hb hn) hf hb hc this
    cases e with
    | ret => exact body (sN hrun s.df .ret s.H s.nx h1 h2 h3)
    | normal => exact body (sN hrun s.df .ret s.H s.nx h1 h2 h3)
    | panic x => exact body (sN hrun s.df (.pan x false) s.H s.nx h1 h2 h3)
    | exit id => exact absurd rfl (h3 (.fn f))
    | goto l => exact absurd rfl (h3 (.fn f))
noncomputable def cfF (P : Program) (G : Glob) (run : RunR) (fs : List Nat) (k : Nat) : aq := fun f args H nx => match fs.elem f with
 | true => qF P G run (cfQ P G run) k f args H nx
 | false => cfQ P G run f args H nx
theorem Cq {P : Program} {G : Glob} {run : RunR} {fs : List Nat} {k : Nat} (hrun : RunOk P G run) : CallOk P G (cfF P (G.at (some none)) run fs k) := by
 have hcf : CallOk P G (cfQ P (G.at (some none)) run) := by rw [E1]; exact EC hrun
 constructor
 ·intro f args H nx x H' nx' h
  unfold cfF at h
  split at h
  ·exact Tx hrun hcf (fun y H1 n1 e => by rw [h] at e; cases e; exact ⟨rfl, rfl, rfl⟩) (fun y H1 n1 e => by rw [h] at e; cases e) (fun w e => by rw [h] at e; cases e)
  ·exact hcf.1 _ _ _ _ _ _ _ h
 ·intro f args H nx x H' nx' h
  unfold cfF at h
  split at h
  ·exact Tx hrun hcf (fun y H1 n1 e => by rw [h] at e; cases e) (fun y H1 n1 e => by rw [h] at e; cases e; exact ⟨rfl, rfl, rfl⟩) (fun w e => by rw [h] at e; cases e)
  ·exact hcf.2 _ _ _ _ _ _ _ h
noncomputable def runF (P : Program) (G : Glob) (fs : List Nat) (tab : KTab) (k : Nat) : RunR :=
 Nat.rec (motive := fun _ => RunR) (fun _ _ _ _ => .no .fuel) (fun k ih ro n code s => bodyA k ih (cfT tab (cfF P (G.at (some none)) ih fs k)) ro n s (ccB P G code)) k
theorem Ty {P : Program} {G : Glob} {fs : List Nat} {tab : KTab} (hm : P.follows .mixedOrders = true) (ht : KTabOk P G tab) : ∀ (k : Nat), RunOk P G (runF P G fs tab k)
 | 0, _, _, _, _, _, _, h => by cases h
 | k + 1, ro, n, code, s, e, s', h => by
  intro Q hq
  have ih := Ty (G := G) (fs := fs) hm ht k
  exact MA hm ih (M0 ht (Cq ih)) h hq
noncomputable def closedF (P : Program) (G : Glob) (fs : List Nat) (tab : KTab) (k : Nat) (f : FuncId) (args : List VV) : PRes ⊕ Why := pureQ (cfF P (G.at (some none)) (runF P G fs tab k) fs k) f args
theorem ad.closedF {P : Program} {G : Glob} {fs : List Nat} {tab : KTab} (hm : P.follows .mixedOrders = true) (ht : KTabOk P G tab) (k : Nat) {f : FuncId} {args : List VV} {r : PRes} (h : closedF P G fs tab k f args = .inl r) : ad P G f args r := by
 unfold Go.V.closedF at h
 rw [Ey] at h
 exact ya (Cq (Ty hm ht k)) h
theorem hmix : Tryz.prog.follows .mixedOrders = true := by kernel_rfl
def kA : VV := (VV.agg [(VV.sl [(.lit (.int .i64 (.ofNat 6))), (.lit (.int .i64 (.ofNat 4))), (.lit (.int .i64 (.ofNat 8)))] 3 Bool.false), (VV.sl [(.lit (.int .i64 (.ofNat 0))), (.lit (.int .i64 (.ofNat 1))), (.lit (.int .i64 (.ofNat 1))), (.lit (.int .i64 (.ofNat 3))), (.lit (.int .i64 (.ofNat 2))), (.lit (.int .i64 (.ofNat 0))), (.lit (.int .i64 (.ofNat 0))), (.lit (.int .i64 (.ofNat 2)))] 2 Bool.false), (.lit (.int .i64 (.ofNat 2))), (.lit (.int .i64 (.ofNat 4))), (.lit (.int .i64 (.ofNat 5))), (.lit (.int .i64 (.ofNat 8))), (.lit (.int .i64 (.ofNat 3))), (VV.sl [(VV.sl [(.lit (.int .i64 (.ofNat 2))), (.lit (.int .i64 (.ofNat 0))), (.lit (.int .i64 (.ofNat 1)))] 3 Bool.false), (VV.lit (Value.slice Option.none 0 0)), (VV.lit (Value.bool Bool.false)), (VV.sl [(.lit (.int .i64 (.ofNat 0))), (.lit (.int .i64 (.ofNat 2)))] 2 Bool.false), (VV.sl [(.lit (.int .i64 (.ofNat 1)))] 1 Bool.false), (VV.lit (Value.bool Bool.true))] 2 Bool.false), (.lit (.int .i64 (.ofNat 21))), (.lit (.int .i64 (.ofNat 2)))])
def kX : VV := (VV.agg [(VV.lit (Value.slice Option.none 0 0)), (VV.sl [(.lit (.int .i64 (.ofNat 0))), (.lit (.int .i64 (.ofNat 3))), (.lit (.int .i64 (.ofNat 1))), (.lit (.int .i64 (.ofNat 2)))] 2 Bool.false)])
def kY : VV := (VV.agg [(VV.lit (Value.slice Option.none 0 0)), (VV.sl [(.lit (.int .i64 (.ofNat 1))), (.lit (.int .i64 (.ofNat 1))), (.lit (.int .i64 (.ofNat 1))), (.lit (.int .i64 (.ofNat 2)))] 2 Bool.false)])
def kB : VV := (VV.agg [(VV.sl [(.lit (.int .i64 (.ofNat 6))), (.lit (.int .i64 (.ofNat 4))), (.lit (.int .i64 (.ofNat 8)))] 3 Bool.false), (VV.sl [(.lit (.int .i64 (.ofNat 0))), (.lit (.int .i64 (.ofNat 1))), (.lit (.int .i64 (.ofNat 1))), (.lit (.int .i64 (.ofNat 3))), (.lit (.int .i64 (.ofNat 2))), (.lit (.int .i64 (.ofNat 0))), (.lit (.int .i64 (.ofNat 0))), (.lit (.int .i64 (.ofNat 2)))] 2 Bool.false), (.lit (.int .i64 (.ofNat 2))), (.lit (.int .i64 (.ofNat 4))), (.lit (.int .i64 (.ofNat 5))), (.lit (.int .i64 (.ofNat 8))), (.lit (.int .i64 (.ofNat 3))), (VV.sl [(VV.sl [(.lit (.int .i64 (.ofNat 2))), (.lit (.int .i64 (.ofNat 0))), (.lit (.int .i64 (.ofNat 1)))] 3 Bool.false), (VV.lit (Value.slice Option.none 0 0)), (VV.lit (Value.bool Bool.false)), (VV.sl [(.lit (.int .i64 (.ofNat 0))), (.lit (.int .i64 (.ofNat 2)))] 2 Bool.false), (VV.sl [(.lit (.int .i64 (.ofNat 1)))] 1 Bool.false), (VV.lit (Value.bool Bool.true))] 2 Bool.false), (.lit (.int .i64 (.ofNat 18))), (.lit (.int .i64 (.ofNat 2)))])
def kC : VV := (VV.agg [(VV.sl [(.lit (.int .i64 (.ofNat 6))), (.lit (.int .i64 (.ofNat 4))), (.lit (.int .i64 (.ofNat 8)))] 3 Bool.false), (VV.sl [(.lit (.int .i64 (.ofNat 0))), (.lit (.int .i64 (.ofNat 1))), (.lit (.int .i64 (.ofNat 1))), (.lit (.int .i64 (.ofNat 3))), (.lit (.int .i64 (.ofNat 2))), (.lit (.int .i64 (.ofNat 0))), (.lit (.int .i64 (.ofNat 0))), (.lit (.int .i64 (.ofNat 2)))] 2 Bool.false), (.lit (.int .i64 (.ofNat 2))), (.lit (.int .i64 (.ofNat 4))), (.lit (.int .i64 (.ofNat 5))), (.lit (.int .i64 (.ofNat 8))), (.lit (.int .i64 (.ofNat 3))), (VV.sl [(VV.sl [(.lit (.int .i64 (.ofNat 2))), (.lit (.int .i64 (.ofNat 0))), (.lit (.int .i64 (.ofNat 1)))] 3 Bool.false), (VV.lit (Value.slice Option.none 0 0)), (VV.lit (Value.bool Bool.false)), (VV.sl [(.lit (.int .i64 (.ofNat 0))), (.lit (.int .i64 (.ofNat 2)))] 2 Bool.false), (VV.sl [(.lit (.int .i64 (.ofNat 1)))] 1 Bool.false), (VV.lit (Value.bool Bool.true))] 2 Bool.false), (.lit (.int .i64 (.ofNat 21))), (.lit (.int .i64 (.ofNat 1)))])
def kD : VV := (VV.agg [(VV.sl [(.lit (.int .i64 (.ofNat 6))), (.lit (.int .i64 (.ofNat 4))), (.lit (.int .i64 (.ofNat 8)))] 3 Bool.false), (VV.sl [(.lit (.int .i64 (.ofNat 0))), (.lit (.int .i64 (.ofNat 1))), (.lit (.int .i64 (.ofNat 1))), (.lit (.int .i64 (.ofNat 3))), (.lit (.int .i64 (.ofNat 2))), (.lit (.int .i64 (.ofNat 0))), (.lit (.int .i64 (.ofNat 0))), (.lit (.int .i64 (.ofNat 2)))] 2 Bool.false), (.lit (.int .i64 (.ofNat 2))), (.lit (.int .i64 (.ofNat 4))), (.lit (.int .i64 (.ofNat 5))), (.lit (.int .i64 (.ofNat 8))), (.lit (.int .i64 (.ofNat 3))), (VV.sl [(VV.sl [(.lit (.int .i64 (.ofNat 2))), (.lit (.int .i64 (.ofNat 0))), (.lit (.int .i64 (.ofNat 1)))] 3 Bool.false), (VV.lit (Value.slice Option.none 0 0)), (VV.lit (Value.bool Bool.false)), (VV.sl [(.lit (.int .i64 (.ofNat 0))), (.lit (.int .i64 (.ofNat 1)))] 2 Bool.false), (VV.sl [(.lit (.int .i64 (.ofNat 1)))] 1 Bool.false), (VV.lit (Value.bool Bool.true))] 2 Bool.false), (.lit (.int .i64 (.ofNat 21))), (.lit (.int .i64 (.ofNat 2)))])
def kWidths : VV := (VV.tup [(VV.sl [(.lit (.int .i64 (.ofNat 35))), (.lit (.int .i64 (.ofNat 8)))] 2 Bool.false), (.lit (.int .i64 (.ofNat 0)))])
def kFits : VV := (VV.tup [(VV.lit (Value.bool Bool.true)), (.lit (.int .i64 (.ofNat 0)))])
def kStretch : VV := (VV.tup [(.lit (.int .i64 (.ofNat 9))), (.lit (.int .i64 (.ofNat 0)))])
def kPlaces : VV := (VV.tup [(VV.sl [(VV.sl [(.lit (.int .i64 (.ofNat 0))), (.lit (.int .i64 (.ofNat 9))), (.lit (.int .i64 (.ofNat 17)))] 3 Bool.false), (VV.sl [(.lit (.int .i64 (.ofNat 0))), (.lit (.int .i64 (.ofNat 9)))] 2 Bool.false)] 2 Bool.false), (.lit (.int .i64 (.ofNat 0)))])
def kRows : VV := (VV.tup [(.lit (.int .i64 (.ofNat 2))), (.lit (.int .i64 (.ofNat 0)))])
def kSet : VV := (VV.tup [(VV.agg [(VV.lit (Value.slice Option.none 0 0)), (VV.sl [(.lit (.int .i64 (.ofNat 0))), (.lit (.int .i64 (.ofNat 3))), (.lit (.int .i64 (.ofNat 1))), (.lit (.int .i64 (.ofNat 2)))] 2 Bool.false)]), (.lit (.int .i64 (.ofNat 9))), (.lit (.int .i64 (.ofNat 0)))])
def kCount : VV := (VV.tup [(.lit (.int .i64 (.ofNat 1))), (.lit (.int .i64 (.ofNat 0)))])
def kNarrow : VV := (VV.tup [(.lit (.int .i64 (.ofNat 40))), (.lit (.int .i64 (.ofNat 0)))])
def kDrop : VV := (VV.tup [(VV.sl [(.lit (.int .i64 (.ofNat 1)))] 1 Bool.false), (.lit (.int .i64 (.ofNat 0)))])
def kOver : VV := (VV.tup [(.lit (.int .i64 (.ofNat 3))), (.lit (.int .i64 (.ofNat 0)))])
def kAlike : VV := (VV.tup [(.lit (.int .i64 (.ofNat 0))), (.lit (.int .i64 (.ofNat 1))), (.lit (.int .i64 (.ofNat 0)))])
def kRead : VV := (VV.tup [(VV.agg [(VV.sl [(.lit (.int .i64 (.ofNat 1)))] 1 Bool.false), (VV.lit (Value.slice Option.none 0 0)), (.lit (.int .i64 (.ofNat 0))), (.lit (.int .i64 (.ofNat 0))), (.lit (.int .i64 (.ofNat 0))), (.lit (.int .i64 (.ofNat 0))), (.lit (.int .i64 (.ofNat 1))), (VV.sl [(VV.sl [(.lit (.int .i64 (.ofNat 0)))] 1 Bool.false), (VV.lit (Value.slice Option.none 0 0)), (VV.lit (Value.bool Bool.false))] 1 Bool.false), (.lit (.int .i64 (.ofNat 1))), (.lit (.int .i64 (.ofNat 1)))]), (.lit (.int .i64 (.ofNat 0)))])
theorem pA : ad Tryz.prog G0 59 [] (.tree kA) := ad.closedF (fs := []) (tab := []) hmix trivial 1000 (by kernel_rfl)
theorem pX : ad Tryz.prog G0 61 [] (.tree kX) := ad.closedF (fs := []) (tab := []) hmix trivial 1000 (by kernel_rfl)
theorem pY : ad Tryz.prog G0 60 [] (.tree kY) := ad.closedF (fs := []) (tab := []) hmix trivial 1000 (by kernel_rfl)
theorem pB : ad Tryz.prog G0 63 [] (.tree kB) := ad.closedF (fs := []) (tab := []) hmix trivial 1000 (by kernel_rfl)
theorem pC : ad Tryz.prog G0 62 [] (.tree kC) := ad.closedF (fs := []) (tab := []) hmix trivial 1000 (by kernel_rfl)
theorem pD : ad Tryz.prog G0 65 [] (.tree kD) := ad.closedF (fs := []) (tab := []) hmix trivial 1000 (by kernel_rfl)
theorem pWidths : ad Tryz.prog G0 21 [kA, kY, .lit (.int .i64 (0))] (.tree kWidths) := ad.closedF (fs := []) (tab := []) hmix trivial 1000 (by kernel_rfl)
theorem pFits : ad Tryz.prog G0 31 [kA, kX, .lit (.int .i64 (9))] (.tree kFits) := ad.closedF (fs := []) (tab := []) hmix trivial 1000 (by kernel_rfl)
theorem pStretch : ad Tryz.prog G0 32 [kA, kX] (.tree kStretch) := ad.closedF (fs := []) (tab := []) hmix trivial 1000 (by kernel_rfl)
theorem pPlaces : ad Tryz.prog G0 28 [kA, kX, .lit (.int .i64 (9))] (.tree kPlaces) := ad.closedF (fs := []) (tab := []) hmix trivial 1000 (by kernel_rfl)
theorem pRows : ad Tryz.prog G0 37 [kA] (.tree kRows) := ad.closedF (fs := []) (tab := []) hmix trivial 1000 (by kernel_rfl)
theorem pSet : ad Tryz.prog G0 38 [kA] (.tree kSet) := ad.closedF (fs := []) (tab := []) hmix trivial 1000 (by kernel_rfl)
theorem pCount : ad Tryz.prog G0 43 [kA] (.tree kCount) := ad.closedF (fs := []) (tab := []) hmix trivial 1000 (by kernel_rfl)
theorem pNarrow : ad Tryz.prog G0 44 [kC] (.tree kNarrow) := ad.closedF (fs := []) (tab := []) hmix trivial 1000 (by kernel_rfl)
theorem pDrop : ad Tryz.prog G0 48 [kC] (.tree kDrop) := ad.closedF (fs := []) (tab := []) hmix trivial 1000 (by kernel_rfl)
theorem pOver : ad Tryz.prog G0 53 [kB] (.tree kOver) := ad.closedF (fs := []) (tab := []) hmix trivial 1000 (by kernel_rfl)
theorem pAlike : ad Tryz.prog G0 64 [kD] (.tree kAlike) := ad.closedF (fs := []) (tab := []) hmix trivial 1000 (by kernel_rfl)
theorem pRead : ad Tryz.prog G0 66 [.lit (.string ⟨⟨[102, 114, 111, 110, 116, 32, 49, 32, 49, 10, 115, 112, 97, 99, 101, 115, 32, 48, 32, 48, 32, 48, 32, 48, 32, 49, 10, 115, 105, 103, 110, 32, 49, 10, 119, 111, 114, 100, 32, 110, 111, 32, 48, 32, 45, 10, 101, 110, 100, 32, 48, 57, 56, 10]⟩⟩)] (.tree kRead) := ad.closedF (fs := []) (tab := []) hmix trivial 1000 (by kernel_rfl)
def kTab : KTab := [
  (59, [], kA),
  (61, [], kX),
  (60, [], kY),
  (63, [], kB),
  (62, [], kC),
  (65, [], kD),
  (21, [kA, kY, .lit (.int .i64 (0))], kWidths),
  (31, [kA, kX, .lit (.int .i64 (9))], kFits),
  (32, [kA, kX], kStretch),
  (28, [kA, kX, .lit (.int .i64 (9))], kPlaces),
  (37, [kA], kRows),
  (38, [kA], kSet),
  (43, [kA], kCount),
  (44, [kC], kNarrow),
  (48, [kC], kDrop),
  (53, [kB], kOver),
  (64, [kD], kAlike),
  (66, [.lit (.string ⟨⟨[102, 114, 111, 110, 116, 32, 49, 32, 49, 10, 115, 112, 97, 99, 101, 115, 32, 48, 32, 48, 32, 48, 32, 48, 32, 49, 10, 115, 105, 103, 110, 32, 49, 10, 119, 111, 114, 100, 32, 110, 111, 32, 48, 32, 45, 10, 101, 110, 100, 32, 48, 57, 56, 10]⟩⟩)], kRead)]
theorem kTabOk : KTabOk Tryz.prog G0 kTab := ⟨⟨by kernel_rfl, pA⟩, ⟨⟨by kernel_rfl, pX⟩, ⟨⟨by kernel_rfl, pY⟩, ⟨⟨by kernel_rfl, pB⟩, ⟨⟨by kernel_rfl, pC⟩, ⟨⟨by kernel_rfl, pD⟩, ⟨⟨by kernel_rfl, pWidths⟩, ⟨⟨by kernel_rfl, pFits⟩, ⟨⟨by kernel_rfl, pStretch⟩, ⟨⟨by kernel_rfl, pPlaces⟩, ⟨⟨by kernel_rfl, pRows⟩, ⟨⟨by kernel_rfl, pSet⟩, ⟨⟨by kernel_rfl, pCount⟩, ⟨⟨by kernel_rfl, pNarrow⟩, ⟨⟨by kernel_rfl, pDrop⟩, ⟨⟨by kernel_rfl, pOver⟩, ⟨⟨by kernel_rfl, pAlike⟩, ⟨⟨by kernel_rfl, pRead⟩, trivial⟩⟩⟩⟩⟩⟩⟩⟩⟩⟩⟩⟩⟩⟩⟩⟩⟩⟩
theorem pKnown : ad Tryz.prog G0 19 [] (.tree (.lit (.bool true))) := ad.closedF (fs := []) hmix kTabOk 1000 (by kernel_rfl)
#print axioms pKnown
theorem sT : ad Tryz.prog G0 19 [] (.tree (.lit (.bool true))) := pKnown
end Go.V
end
