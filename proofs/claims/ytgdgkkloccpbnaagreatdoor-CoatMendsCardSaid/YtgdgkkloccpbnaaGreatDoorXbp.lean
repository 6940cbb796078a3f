/- Part of a proof: a logic of values by content, lifted functions, what follows. -/
import Derived.Test.YtgdgkkloccpbnaaGreatDoorXbf
import Derived.Test.YtgdgkkloccpbnaaGreatDoorXbh
import Derived.Test.YtgdgkkloccpbnaaGreatDoorXbo
import Derived.Test.YtgdgkkloccpbnaaGreatDoorXbm
import Derived.Test.YtgdgkkloccpbnaaGreatDoorXbl
set_option linter.all false
set_option maxRecDepth 4000
set_option maxHeartbeats 40000000
section
namespace Go.V
open Go Go.Proofs
def zcf (x1_plan : List Int) : List Int → Int → Int → Option (LOut (Int) (Int))
 | [], c0_6, c0_5 => some (.go c0_5)
 | e0 :: p0, c0_6, c0_5 => Option.bind (getI x1_plan c0_6) (fun x1 => cond (e0 != x1) (zcf x1_plan p0 (c0_6 + 1) (IntKind.i64.wrap (c0_5 + 1))) (zcf x1_plan p0 (c0_6 + 1) c0_5))
def zbb (x0_l : List Int) (x1_plan : List Int) : Option (Int) := cond (lenOk x0_l) (lbind (zcf x1_plan x0_l 0 0) (fun r3 => some r3) (fun c2 => some c2) (fun _ _ => none)) none
theorem zfw (x0_l : List Int) (x1_plan : List Int) (R : Int) (h : zbb x0_l x1_plan = some R) : VPure Tryz.prog G0 45 [.sl (cellsL eI x0_l) (List.length x0_l) false, .sl (cellsL eI x1_plan) (List.length x1_plan) false] (.tree (.lit (.int .i64 R))) := by
 refine VPure.runR mixed Tryz.call45 Tryz.func45 rfl (by simp [Tryz.ntmps45]; kernel_rfl) ?_
 obtain ⟨KF, h, kF, kN⟩ := zan h
 simp only [zbb] at h
 cases g5 : (lenOk x0_l)
 ·simp only [g5, hs] at h
  exact absurd h kN
 simp only [g5, hs] at h
 simp only [vz, tyf, g5, nm, seval]
 obtain ⟨K4, h, kR4, kG4, kB4, kN4⟩ := zap h kN
 obtain ⟨f4, hf4, h⟩ := call3 h
 obtain ⟨I4, hI4⟩ : ∃ I : Nat → St → Prop, I = (fun m st => ∃ (p4 : List Int) (c4_6 : Int) (c4_5 : Int), m = List.length p4 ∧ 0 ≤ c4_6 ∧ List.drop (Int.toNat c4_6) x0_l = p4 ∧ st.df = [] ∧ 3 ≤ st.nx ∧ st.tm 0 = .sl (cellsL eI x0_l) (List.length x0_l) false ∧ st.tm 1 = .sl (cellsL eI x1_plan) (List.length x1_plan) false ∧ st.tm 5 = .lit (.int .i64 c4_5) ∧ st.tm 6 = .lit (.int .i64 c4_6) ∧ K4 (f4 p4 c4_6 c4_5)) := ⟨_, rfl⟩
 refine loopK mixed (by kernel_rfl) I4 (List.length x0_l) (by rw [hI4]; refine ⟨x0_l, 0, 0, rfl, Int.le_refl _, rfl, rfl, (show 3 ≤ 3 by omega), ?_, ?_, ?_, ?_, h⟩ <;> first | (simp only [ua, nm, seval] <;> rfl) | rfl) ?_
 rintro m ⟨tm, H, nx4, df⟩ hinv
 rw [hI4] at hinv
 obtain ⟨p4, c4_6, c4_5, rfl, hi4, hp4, hdf, hn4, e6, e7, e8, e9, h⟩ := hinv
 simp only at hdf hn4 e6 e7 e8 e9
 have n10 := zbr (m := 3) (b := nx4) (by omega)
 subst hdf hf4
 cases p4 with
 | nil =>
  have d11 : (decide (c4_6 < (List.length x0_l : Int))) = false := zaf hi4 hp4
  simp only [zcf, hs, reduceCtorEq] at h
  replace h := kG4 _ h
  try dsimp only at h
  try simp only [hs] at h
  try simp only [vz, tyf, g5, n10, e6, e7, e8, e9, d11, nm, seval]
  refine zbt (x := (.lit (.int .i64 c4_5))) (by first | (simp only [Tryz.results45, resV, resL, resV1, zcq, zev, uw, cr, tyf, g5, n10, d11, nm, seval] <;> rfl) | rfl) ?_
  obtain rfl := kF _ h
  refine zcv ?_ ?_
  ·simp only [tre, tytre, Bool.and_self]
  ·first | (simp only [outV, uw, zba, cr, tyf, nrm, tynrm, g5, n10, e6, e7, e8, e9, d11, nm, seval] <;> rfl) | rfl
 | cons e4 p4 =>
  have d12 : (decide (c4_6 < (List.length x0_l : Int))) = true := zao hi4 hp4
  have o14 := zad hi4 hp4
  have w13 := zat hi4 hp4 g5
  simp only [zcf, hs, reduceCtorEq] at h
  simp only [vz, tyf, g5, n10, e6, e7, e8, e9, d12, (ix23 o14), w13, nm, seval]
  refine zbl (fun tm => tm 0 = .sl (cellsL eI x0_l) (List.length x0_l) false ∧ tm 1 = .sl (cellsL eI x1_plan) (List.length x1_plan) false ∧ tm 5 = .lit (.int .i64 c4_5) ∧ tm 6 = .lit (.int .i64 c4_6) ∧ True) (by refine ⟨e6, e7, e8, e9, trivial⟩ <;> first | (simp only [ua, n10, e6, e7, e8, e9, d12, w13, nm, seval] <;> rfl) | rfl) ?_
  rintro tm ⟨e15, e16, e17, e18, _⟩
  rcases o20 : (getI x1_plan c4_6) with _ | x19
  ·simp only [o20, hs] at h
   exact absurd h kN4
  simp only [o20, hs] at h
  cases d21 : (e4 != x19)
  ·simp only [d21, hs] at h
   simp only [vz, tyf, g5, n10, d12, (ix23 o14), w13, e15, e16, e17, e18, (ix23 o20), d21, nm, seval]
   exact ⟨List.length p4, Nat.lt_succ_self _, by rw [hI4]; refine ⟨p4, c4_6 + 1, c4_5, rfl, Int.le_trans hi4 (Int.le_add_one (Int.le_refl _)), zac hi4 hp4, rfl, (show 3 ≤ nx4 + 16 by omega), e15, e16, e17, ?_, h⟩ <;> first | (simp only [ua, n10, d12, w13, e15, e16, e17, e18, d21, nm, seval] <;> rfl) | rfl⟩
  simp only [d21, hs] at h
  simp only [vz, tyf, g5, n10, d12, (ix23 o14), w13, e15, e16, e17, e18, (ix23 o20), d21, nm, seval]
  exact ⟨List.length p4, Nat.lt_succ_self _, by rw [hI4]; refine ⟨p4, c4_6 + 1, IntKind.i64.wrap (c4_5 + 1), rfl, Int.le_trans hi4 (Int.le_add_one (Int.le_refl _)), zac hi4 hp4, rfl, (show 3 ≤ nx4 + 19 by omega), e15, e16, ?_, ?_, h⟩ <;> first | (simp only [ua, n10, d12, w13, e15, e16, e17, e18, d21, nm, seval] <;> rfl) | rfl⟩
end Go.V
end
section
namespace Go.V
open Go
set_option linter.unusedVariables false
set_option linter.unusedSimpArgs false
def keepB (d : Int) : List Int → List Int → Bool
 | g :: gs, x :: ps => cond (decide ((if x < g then x else g) < d)) (cond (g != x) false (keepB d gs ps)) (keepB d gs ps)
 | _, _ => true
theorem zaaf {plan : List Int} {d : Int} : ∀ (gs ps : List Int) (c : Int), 0 ≤ c → plan.drop c.toNat = ps → gs.length = ps.length → zdh plan d gs c = goB (keepB d gs ps)
 | [], [], _, _, _, _ => rfl
 | [], _ :: _, _, _, _, h => by simp at h
 | _ :: _, [], _, _, _, h => by simp at h
 | g :: gs, x :: ps, c, h0, h, hl => by
  have ih := zaaf (d := d) gs ps (c + 1) (by omega) (zac h0 h) (by simpa using hl)
  rw [zdh, zad h0 h, Option.bind_some, ih]
  rw [show keepB d (g :: gs) (x :: ps) = cond (decide ((if x < g then x else g) < d)) (cond (g != x) false (keepB d gs ps)) (keepB d gs ps) from rfl]
  cases decide ((if x < g then x else g) < d) <;> cases g != x <;> rfl
theorem zakl {g p : List Int} {d : Int} (hg : lenOk g = true) (hl : g.length = p.length) : zfv g p d = some (keepB d g p) := by
 unfold zfv
 rw [hg, zaaf g p 0 (Int.le_refl _) rfl hl, zfo]
 cases keepB d g p <;> rfl
theorem zwg {plan : List Int} {d : Int} : ∀ (ls ps : List Int) (c : Int), 0 ≤ c → plan.drop c.toNat = ps → ls.length = ps.length → zca plan d ls c = goB (keepB d ps ls)
 | [], [], _, _, _, _ => rfl
 | [], _ :: _, _, _, _, h => by simp at h
 | _ :: _, [], _, _, _, h => by simp at h
 | e :: ls, x :: ps, c, h0, h, hl => by
  have ih := zwg (d := d) ls ps (c + 1) (by omega) (zac h0 h) (by simpa using hl)
  rw [zca, zad h0 h, Option.bind_some, ih]
  rw [show keepB d (x :: ps) (e :: ls) = cond (decide ((if e < x then e else x) < d)) (cond (x != e) false (keepB d ps ls)) (keepB d ps ls) from rfl]
  by_cases h1 : x < d
  ·have e1 : decide (x < d) = true := decide_eq_true h1
   have e2 : decide (x ≥ d) = false := decide_eq_false (by omega)
   have e3 : decide ((if e < x then e else x) < d) = true := decide_eq_true (by split <;> omega)
   have e4 : (e != x) = (x != e) := by rw [Bool.eq_iff_iff]; simp only [bne_iff_ne, ne_eq]; omega
   rw [e1, e2, e3, e4]
   cases x != e <;> rfl
  ·have e1 : decide (x < d) = false := decide_eq_false h1
   have e2 : decide (x ≥ d) = true := decide_eq_true (by omega)
   rw [e1, e2]
   by_cases h2 : e < d
   ·have e3 : decide ((if e < x then e else x) < d) = true := decide_eq_true (by split <;> omega)
    have e4 : (x != e) = true := by simp only [bne_iff_ne, ne_eq]; omega
    rw [e3, e4, decide_eq_true h2]
    rfl
   ·have e3 : decide ((if e < x then e else x) < d) = false := decide_eq_false (by split <;> omega)
    rw [e3, decide_eq_false h2]
    rfl
theorem zahd {l p : List Int} {d : Int} (hg : lenOk l = true) (hl : l.length = p.length) : zen l p d = some (keepB d p l) := by
 unfold zen
 rw [hg, zwg l p 0 (Int.le_refl _) rfl hl, zfo]
 cases keepB d p l <;> rfl
def chN : List Int → List Int → Nat
 | g :: gs, x :: ps => cond (g != x) (chN gs ps + 1) (chN gs ps)
 | _, _ => 0
theorem zrg : ∀ g p : List Int, chN g p = chN p g
 | [], [] => rfl
 | [], _ :: _ => rfl
 | _ :: _, [] => rfl
 | a :: g, b :: p => by
  have e4 : (a != b) = (b != a) := by rw [Bool.eq_iff_iff]; simp only [bne_iff_ne, ne_eq]; omega
  rw [chN, chN, zrg g p, e4]
theorem znq {plan : List Int} : ∀ (gs ps : List Int) (c : Int) (n : Nat), 0 ≤ c → plan.drop c.toNat = ps → gs.length = ps.length → n + gs.length < 1000 → zcp plan gs c (n : Int) = some (.go ((n + chN gs ps : Nat) : Int))
 | [], [], _, _, _, _, _, _ => rfl
 | [], _ :: _, _, _, _, _, h, _ => by simp at h
 | _ :: _, [], _, _, _, _, h, _ => by simp at h
 | g :: gs, x :: ps, c, n, h0, h, hl, hb => by
  simp only [List.length_cons] at hb
  have i1 := znq gs ps (c + 1) n (by omega) (zac h0 h) (by simpa using hl) (by omega)
  have i2 := znq gs ps (c + 1) (n + 1) (by omega) (zac h0 h) (by simpa using hl) (by omega)
  rw [zcp, zad h0 h, Option.bind_some, wrap_eq (by omega) (by omega), show (n : Int) + 1 = ((n + 1 : Nat) : Int) by omega, i1, i2, chN]
  cases g != x
  ·rfl
  ·simp only [cond_true]
   congr 2
   omega
theorem zno {g p : List Int} (hg : g.length < 100) (hl : g.length = p.length) : zby g p = some (chN g p : Int) := by
 unfold zby
 have := znq (plan := p) g p 0 0 (Int.le_refl _) rfl hl (by omega)
 rw [show ((0 : Nat) : Int) = 0 from rfl] at this
 rw [zet (by omega), this, Nat.zero_add]
 rfl
theorem zlh {plan : List Int} : ∀ (gs ps : List Int) (c : Int) (n : Nat), 0 ≤ c → plan.drop c.toNat = ps → gs.length = ps.length → n + gs.length < 1000 → zcf plan gs c (n : Int) = some (.go ((n + chN gs ps : Nat) : Int))
 | [], [], _, _, _, _, _, _ => rfl
 | [], _ :: _, _, _, _, _, h, _ => by simp at h
 | _ :: _, [], _, _, _, _, h, _ => by simp at h
 | g :: gs, x :: ps, c, n, h0, h, hl, hb => by
  simp only [List.length_cons] at hb
  have i1 := zlh gs ps (c + 1) n (by omega) (zac h0 h) (by simpa using hl) (by omega)
  have i2 := zlh gs ps (c + 1) (n + 1) (by omega) (zac h0 h) (by simpa using hl) (by omega)
  rw [zcf, zad h0 h, Option.bind_some, wrap_eq (by omega) (by omega), show (n : Int) + 1 = ((n + 1 : Nat) : Int) by omega, i1, i2, chN]
  cases g != x
  ·rfl
  ·simp only [cond_true]
   congr 2
   omega
theorem zkp {g p : List Int} (hg : g.length < 100) (hl : g.length = p.length) : zbb g p = some (chN g p : Int) := by
 unfold zbb
 have := zlh (plan := p) g p 0 0 (Int.le_refl _) rfl hl (by omega)
 rw [show ((0 : Nat) : Int) = 0 from rfl] at this
 rw [zet (by omega), this, Nat.zero_add]
 rfl
theorem zsg {f : List Int → Option Bool} {b : List Int → Bool} : ∀ (L : List (List Int)), (∀ q ∈ L, f q = some (b q)) → filterO f L = some (L.filter b)
 | [], _ => rfl
 | q :: L, h => by
  have ih := zsg L (fun x hx => h x (List.mem_cons_of_mem _ hx))
  rw [filterO, h q (by simp), Option.bind_some, ih, Option.bind_some, List.filter_cons]
  cases b q <;> rfl
theorem zoj {better : List Int → List Int → Option Bool} {f : List Int → Int} : ∀ (M : List (List Int)) (r : List Int), (∀ a ∈ M, ∀ c, c ∈ r :: M → better a c = some (decide (f a < f c))) → (∀ x ∈ M, lexL r x) → M.Pairwise lexL →
  ∃ q, bestO better M (r, true) = some (q, true) ∧ q ∈ r :: M ∧ ∀ x ∈ r :: M, f q ≤ f x ∧ (f x = f q → x = q ∨ lexL q x)
 | [], r, _, _, _ => ⟨r, rfl, by simp, fun x hx => by rw [List.mem_singleton.1 hx]; exact ⟨Int.le_refl _, fun _ => .inl rfl⟩⟩
 | y :: M, r, hb, hr, hp => by
  have hp' := List.pairwise_cons.1 hp
  have e : bestO better (y :: M) (r, true) = bestO better M (cond (decide (f y < f r)) (y, true) (r, true)) := by
   show Option.bind (better y r) _ = _
   rw [hb y (by simp) r (by simp)]
   rfl
  rw [e]
  by_cases hlt : f y < f r
  ·rw [decide_eq_true hlt, cond_true]
   obtain ⟨q, h1, h2, h3⟩ := zoj M y (fun a ha c hc => hb a (List.mem_cons_of_mem _ ha) c (List.mem_cons_of_mem _ hc)) hp'.1 hp'.2
   refine ⟨q, h1, List.mem_cons_of_mem _ h2, fun x hx => ?_⟩
   rcases List.mem_cons.1 hx with rfl | hx
   ·have := (h3 y (by simp)).1
    exact ⟨by omega, fun hh => by omega⟩
   ·exact h3 x hx
  ·rw [decide_eq_false hlt, cond_false]
   obtain ⟨q, h1, h2, h3⟩ := zoj M r (fun a ha c hc => hb a (List.mem_cons_of_mem _ ha) c (by
    rcases List.mem_cons.1 hc with rfl | hc
    ·simp
    ·exact List.mem_cons_of_mem _ (List.mem_cons_of_mem _ hc))) (fun x hx => hr x (List.mem_cons_of_mem _ hx)) hp'.2
   refine ⟨q, h1, ?_, fun x hx => ?_⟩
   ·rcases List.mem_cons.1 h2 with rfl | h2
    ·simp
    ·exact List.mem_cons_of_mem _ (List.mem_cons_of_mem _ h2)
   ·have hr0 := h3 r (by simp)
    rcases List.mem_cons.1 hx with rfl | hx
    ·exact hr0
    ·rcases List.mem_cons.1 hx with rfl | hx
     ·refine ⟨by omega, fun hh => .inr ?_⟩
      have hrx := hr x (by simp)
      rcases hr0.2 (by omega) with rfl | hq
      ·exact hrx
      ·exact zog hq hrx
     ·exact h3 x (List.mem_cons_of_mem _ hx)
theorem zsc {better : List Int → List Int → Option Bool} {f : List Int → Int} {y : List Int} {M : List (List Int)} (hb : ∀ a, a ∈ y :: M → ∀ c, c ∈ y :: M → better a c = some (decide (f a < f c))) (hp : (y :: M).Pairwise lexL) :
  ∃ q, bestO better (y :: M) ([], false) = some (q, true) ∧ q ∈ y :: M ∧ ∀ x ∈ y :: M, f q ≤ f x ∧ (f x = f q → x = q ∨ lexL q x) := by
 have hp' := List.pairwise_cons.1 hp
 exact zoj M y (fun a ha c hc => hb a (List.mem_cons_of_mem _ ha) c hc) hp'.1 hp'.2
end Go.V
end
section
set_option linter.unusedVariables false
set_option linter.unusedSimpArgs false
namespace Go.V
open Go
theorem zqz {α : Type} {xs : List α} (h : neB xs = false) : xs = [] := by
 cases xs with
 | nil => rfl
 | cons a l => cases h
section
variable {P : Program} {G : Glob} {H : Nat → Option VObj} {γ : Nat} {α : Type} {enc : α → List VV} {t t2 e e2 w b : Nat} {xs ys : List α} {el : Option TypeId} {β : Nat} {f : Bool} {k : VV → VEff → Prop}
theorem zlj (he : ∀ x, (enc x).length = w) (hl : ∀ x, leafL (enc x) = true) (ha : appOk P t = some (e, w, b)) (hu2 : P.underlying t2 = some (.slice e2)) (hb : H β = some (.cells el (cellsL enc xs)))
  (hm : neB ys = false) (h : k (.ref β 0 xs.length w xs.length) (.upd β (.cells el (cellsL enc xs)))) :
  oeK (vappend P H γ t t2 (.ref β 0 xs.length w xs.length) (.sl (cellsL enc ys) ys.length f)) k := by
 have hm := zqz hm
 subst hm
 obtain ⟨hu, inf, z, hi, hz, rfl, rfl, hs0, hb0, hzs⟩ := zhk ha
 have h1 := zax he xs
 have key : vappend P H γ t t2 (.ref β 0 xs.length inf.size xs.length) (.sl (cellsL enc ([] : List α)) ([] : List α).length f) = some (.ref β 0 xs.length inf.size xs.length, .upd β (.cells el (cellsL enc xs))) := by
  simp only [vappend, nilS, vappend1, hu, hu2, hi, hz, srcV, sls, hs0, hb0, hzs, hb, zaj, List.length_nil]
  simp [h1, overwrite]
 rw [key]
 exact h
theorem zhw (ha : appOk P t = some (e, w, b)) (hu2 : P.underlying t2 = some (.slice e2)) (hm : neB ys = false) (h : k (.sl [] 0 true) .none) :
  oeK (vappend P H γ t t2 (.lit (.slice none 0 0)) (.sl (cellsL enc ys) ys.length f)) k := by
 have hm := zqz hm
 subst hm
 obtain ⟨hu, inf, z, hi, hz, rfl, rfl, hs0, hb0, hzs⟩ := zhk ha
 have key : vappend P H γ t t2 (.lit (.slice none 0 0)) (.sl (cellsL enc ([] : List α)) ([] : List α).length f) = some (.sl [] 0 true, .none) := by
  simp only [vappend, nilS, vappend1, hu, hu2, hi, hz, srcV, sls, hs0, hb0, hzs, zaj, List.length_nil]
  simp
 rw [key]
 exact h
theorem zalf {d : Tmp} {γ : Nat} {tm : Nat → VV} {nx : Nat} {df : List VDef} {K : St → Prop} {x : VV} {β : Nat} {o : VObj} : fin (some d) γ tm H nx df K x (.upd β o) = K ⟨upd tm d x, updH H β o, nx, df⟩ := rfl
theorem zqa {s : VV} : vappend P H γ t t2 (.sl [] 0 true) s = vappend P H γ t t2 (.lit (.slice none 0 0)) s := rfl
theorem kfreeze {f : FuncId} {args args' args0 : List VV} {x : VV} {d : Option Tmp} {γ g : Nat} {tm : Nat → VV} {nx : Nat} {df : List VDef} {K : St → Prop} {Qp : VV → St → Prop} {cs : List VV} (hγ : H g = some (.cells el cs)) (ha : FrozenL H (without H g) args args')
  (hn : normL args' = args0) (ht : treeL args' = true) (hp : VPure P G f args0 (.tree x)) (h : fin d γ tm (without H g) nx df K x .none) : callK P G f args ⟨tm, H, nx, df⟩ d γ K Qp := by
 subst hn
 refine .inr (.inr ?_)
 unfold openK
 refine VOpen.mono (VOpen.freeze1 hγ ha (VOpen.of_pure hp.norm ht)) ?_ (fun _ _ _ h => h.elim)
 rintro v H2 nx2 ⟨rfl, rfl, rfl⟩
 rw [← zhd (K := K), zbc] at h
 cases d <;> exact h
end
end Go.V
namespace Go.V
open Go
theorem zacz {α : Type} {enc : α → List VV} {w : Nat} {xs : List α} (he : ∀ x, (enc x).length = w) (hw : 0 < w) (h : neB xs = true) : cellsL enc xs ≠ [] := by
 have h1 := zax he xs
 have h2 := zaae h
 intro h3
 rw [h3] at h1
 have := Nat.mul_pos h2 hw
 simp at h1
 omega
end Go.V
namespace Go.V
open Go
theorem zahv {y : VV} (h : nilS y = .sl [] 0 true) : y = .lit (.slice none 0 0) ∨ y = .sl [] 0 true := by
 unfold nilS at h
 split at h
 ·exact .inl rfl
 ·exact .inr h
theorem vap_y {y : VV} (hy : nilS y = .sl [] 0 true) (P : Program) (H : Nat → Option VObj) (γ : Nat) (t t2 : TypeId) (x : VV) : vappend P H γ t t2 y x = vappend P H γ t t2 (.lit (.slice none 0 0)) x := by
 show vappend1 P H γ t t2 (nilS y) x = vappend1 P H γ t t2 (.sl [] 0 true) x
 rw [hy]
theorem zafl {y : VV} (hy : nilS y = .sl [] 0 true) (H : Nat → Option VObj) : outV H y = .sl [] 0 false := by
 rcases zahv hy with rfl | rfl <;> simp [outV, showV, normV, normL]
theorem zzw {P : Program} {t : TypeId} {d : TypeDesc} (hu : P.underlying t = some d) : evalP P (underlying t) = some d := by
 show evalP P (match P.underlying t with | some d => pure d | none => stuck "no such type") = some d
 rw [hu]
 rfl
theorem zvf {P : Program} {t e : TypeId} (n : Nat) (hu : P.underlying t = some (.slice e)) : evalP P (Op.equalIn (n + 1) t (.slice none 0 0) (.slice none 0 0)) = some true := by
 unfold Op.equalIn
 rw [zbg, zzw hu]
 rfl
theorem zps {P : Program} {H : Nat → Option VObj} {t e : TypeId} {x y : Operand} (hu : P.underlying t = some (.slice e)) : binV P H .eql t x y (.lit (.slice none 0 0)) (.lit (.slice none 0 0)) = some (.lit (.bool true)) := by
 have h2 : evalP P (Op.equal t (.slice none 0 0) (.slice none 0 0)) = some true := zvf 9999 hu
 have h1 : vbin P .eql t x y (.slice none 0 0) (.slice none 0 0) = some (.bool true) := by
  show evalP P (do let r ← Op.equal t (.slice none 0 0) (.slice none 0 0); pure (Value.bool r)) = _
  rw [zbg, h2]
  rfl
 simp only [binV, VV.val?, h1]
 rfl
end Go.V
namespace Go.V
open Go
set_option linter.defProp false
theorem trT {A B : Prop} (hB : B) (hA : A := by (try simp only [zcd, zcw, zar, zez, and_true, true_and]); (repeat' (first | exact trivial | refine And.intro ?_ ?_ | rw [zar] | rw [zds] | exact Or.inl (by decide +kernel) | exact Or.inl (by dsimp only; decide +kernel) | (refine Or.inr ⟨?_, ?_⟩ <;> simp; done) | (refine Or.inr ⟨?_, ?_⟩ <;> simp <;> omega) | (refine Or.inr ⟨?_, ?_⟩ <;> simp [VEff.wr] <;> omega)))) : A ∧ B := ⟨hA, hB⟩
theorem kfreezeI {P : Program} {G : Glob} {H : Nat → Option VObj} {el : Option TypeId} {xs : List Int} {a : VV} {f : FuncId} {args0 : List VV} {x : VV} {d : Option Tmp} {γ g : Nat} {tm : Nat → VV} {nx : Nat} {df : List VDef} {K : St → Prop} {Qp : VV → St → Prop} (hγ : H g = some (.cells el (cellsL eI xs)))
  (hn : normL [a, .sl (cellsL eI xs) xs.length false] = args0) (ht : treeL [a, .sl (cellsL eI xs) xs.length false] = true) (hp : VPure P G f args0 (.tree x)) (h : fin d γ tm (without H g) nx df K x .none) : callK P G f [a, .ref g 0 xs.length 1 xs.length] ⟨tm, H, nx, df⟩ d γ K Qp :=
 kfreeze (args' := [a, .sl (cellsL eI xs) xs.length false]) hγ ⟨.same, Frozen.own hγ (eI_ok.treeL _) (zax (w := 1) (enc := eI) (fun _ => rfl) _), trivial⟩ hn ht hp h
def vzf := And.intro vz (And.intro flr @zalf)
end Go.V
end
