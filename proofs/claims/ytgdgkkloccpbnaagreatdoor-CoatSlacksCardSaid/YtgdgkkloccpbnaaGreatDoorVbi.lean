/- Part of a proof: a logic of values by content, lifted functions, what follows. -/
import Derived.Test.YtgdgkkloccpbnaaGreatDoorVbf
import Derived.Test.YtgdgkkloccpbnaaGreatDoorVbh
set_option linter.all false
set_option maxRecDepth 4000
set_option maxHeartbeats 40000000
section
namespace Go.V
open Go
theorem isFrom_eq (a n b : Int) : g_limits_IsFrom a n b = some (inB a b n) := csome _ _
theorem rin_eq (n a b : Int) : g_ref03_in n a b = some (inB a b n) := csome _ _
def upB : List Int → Bool
 | a :: b :: l => decide (a < b) && upB (b :: l)
 | _ => true
def spanB (x : GSpan) : Bool := inB 0 x.High x.Low && decide (x.High ≤ 24)
def coatB (c : GCoatCoat) : Bool := inB 1 288 c.Need && inB c.Need 400 c.Peel
theorem isSpan_eq (x : GSpan) : g_limits_IsSpan 0 x 24 = some (spanB x) := by
 unfold g_limits_IsSpan spanB inB
 cases decide (0 ≤ x.Low) <;> cases decide (x.Low ≤ x.High) <;> rfl
theorem areFrom_l0 (a b : Int) : ∀ (p : List Int) (c : Int), g_limits_AreFrom_l0 a b p c = goB (p.all (inB a b))
 | [], _ => rfl
 | e :: p, c => by
  simp only [g_limits_AreFrom_l0, isFrom_eq, Option.bind_some, areFrom_l0 a b p, List.all_cons, goB_and]
theorem areFrom_eq (a b : Int) {x : List Int} (h : lenOk x = true) : g_limits_AreFrom a x b = some (x.all (inB a b)) := by
 unfold g_limits_AreFrom
 rw [h, areFrom_l0, goB_lbind]
 cases x.all (inB a b) <;> rfl
theorem upB_cons (a e : Int) (p : List Int) : upB (a :: e :: p) = (decide (a < e) && upB (e :: p)) := rfl
theorem le_not (a e : Int) : decide (e ≤ a) = !decide (a < e) := by
 by_cases h : a < e
 ·simp [h]
 ·simp [h]; omega
theorem areInc_l0 {x : List Int} (hx : lenOk x = true) : ∀ (p : List Int) (c a : Int), 0 ≤ c → x.drop c.toNat = a :: p → g_limits_AreIncreasing_l0 x p (c + 1) = goB (upB (a :: p))
 | [], _, _, _, _ => rfl
 | e :: p, c, a, h0, h => by
  have hg := getI_of_drop h0 h
  have hl := (getI_lt hg).2
  have hx' := lenOk_lt hx
  simp only [g_limits_AreIncreasing_l0]
  rw [wrap_eq (by omega) (by omega), show c + 1 - 1 = c by omega, hg]
  simp only [Option.bind_some, le_not, cnot, upB_cons, goB_and]
  rw [areInc_l0 hx p (c + 1) e (by omega) (drop_next h0 h)]
theorem areInc_eq (a b : Int) {x : List Int} (hx : lenOk x = true) : g_limits_AreIncreasing a x b = some (upB x && x.all (inB a b)) := by
 unfold g_limits_AreIncreasing
 rw [hx, areFrom_eq a b hx, show leB 0 1 = true from rfl]
 simp only [cond_true, Option.bind_some]
 cases x with
 | nil => rfl
 | cons e p =>
  have := areInc_l0 hx p 0 e (Int.le_refl _) rfl
  rw [show (0 : Int) + 1 = 1 from rfl] at this
  rw [show List.drop (Int.toNat 1) (e :: p) = p from rfl, this, goB_lbind]
  cases upB (e :: p) <;> rfl
def dayB (n : Nat) : Int → Bool := inB 0 ((n : Int) - 1)
def incB (n : Nat) (x : List Int) : Bool := upB x && x.all (dayB n)
theorem day_eq (s : GCoatSheet) (h : lenOk s.Dry = true) (n : Int) : g_ref03_Day s n = some (dayB s.Dry.length n) := by
 have := lenOk_lt h
 unfold g_ref03_Day dayB
 rw [rin_eq, wrap_eq (by omega) (by omega)]
 rfl
theorem rising_l0 {s : GCoatSheet} (hs : lenOk s.Dry = true) {x : List Int} (hx : lenOk x = true) : ∀ (p : List Int) (c a : Int), 0 ≤ c → x.drop c.toNat = a :: p → g_ref03_rising_l0 s x p (c + 1) = goB (upB (a :: p) && p.all (dayB s.Dry.length))
 | [], _, _, _, _ => rfl
 | e :: p, c, a, h0, h => by
  have hg := getI_of_drop h0 h
  have hl := (getI_lt hg).2
  have hx' := lenOk_lt hx
  simp only [g_ref03_rising_l0]
  rw [wrap_eq (by omega) (by omega), show c + 1 - 1 = c by omega, hg, day_eq s hs, show decide (c + 1 > 0) = true from decide_eq_true (by omega)]
  simp only [Option.bind_some, le_not, cnot, upB_cons, cond_true, List.all_cons]
  rw [rising_l0 hs hx p (c + 1) e (by omega) (drop_next h0 h)]
  cases dayB s.Dry.length e <;> cases decide (a < e) <;> cases upB (e :: p) <;> rfl
theorem rising_eq {s : GCoatSheet} (hs : lenOk s.Dry = true) {x : List Int} (hx : lenOk x = true) : g_ref03_rising s x = some (incB s.Dry.length x) := by
 unfold g_ref03_rising
 rw [hx]
 simp only [cond_true]
 cases x with
 | nil => rfl
 | cons e p =>
  have := rising_l0 hs hx p 0 e (Int.le_refl _) rfl
  simp only [g_ref03_rising_l0, day_eq s hs, Option.bind_some, show decide ((0 : Int) > 0) = false from rfl, cond_false, this]
  unfold incB
  rw [List.all_cons]
  cases dayB s.Dry.length e <;> cases upB (e :: p) <;> cases p.all (dayB s.Dry.length) <;> rfl
theorem areDays_l0 : ∀ (p : List GSpan) (c : Int), g_coat_areDays_l0 p c = goB (p.all spanB)
 | [], _ => rfl
 | e :: p, c => by simp only [g_coat_areDays_l0, isSpan_eq, Option.bind_some, areDays_l0 p, List.all_cons, goB_and]
theorem areCoats_l0 : ∀ (p : List GCoatCoat) (c : Int), g_coat_areCoats_l0 p c = goB (p.all coatB)
 | [], _ => rfl
 | e :: p, c => by
  simp only [g_coat_areCoats_l0, isFrom_eq, Option.bind_some, areCoats_l0 p, List.all_cons, goB_and, coatB, cand]
def sheetB (s : GCoatSheet) : Bool := (inB 1 12 s.Dry.length && s.Dry.all spanB) && (incB s.Dry.length s.Work && (inB 1 5 s.Coats.length && s.Coats.all coatB))
theorem areDays_eq {x : List GSpan} (h : lenOk x = true) : g_coat_areDays x = some (inB 1 12 x.length && x.all spanB) := by
 unfold g_coat_areDays
 rw [isFrom_eq, h, areDays_l0, goB_lbind]
 cases inB 1 12 (x.length : Int) <;> cases x.all spanB <;> rfl
theorem areCoats_eq {x : List GCoatCoat} (h : lenOk x = true) : g_coat_areCoats x = some (inB 1 5 x.length && x.all coatB) := by
 unfold g_coat_areCoats
 rw [isFrom_eq, h, areCoats_l0, goB_lbind]
 cases inB 1 5 (x.length : Int) <;> cases x.all coatB <;> rfl
structure OkS (s : GCoatSheet) : Prop where
 d : lenOk s.Dry = true
 w : lenOk s.Work = true
 c : lenOk s.Coats = true
theorem isSheet_eq {s : GCoatSheet} (h : OkS s) : g_coat_isSheet s = some (sheetB s) := by
 have := lenOk_lt h.d
 unfold g_coat_isSheet sheetB incB dayB
 rw [areDays_eq h.d, areCoats_eq h.c, areInc_eq _ _ h.w, wrap_eq (by omega) (by omega)]
 simp only [Option.bind_some]
 cases (inB 1 12 (s.Dry.length : Int) && s.Dry.all spanB) <;> cases (upB s.Work && s.Work.all (inB 0 ((s.Dry.length : Int) - 1))) <;> rfl
theorem sheet_l0 : ∀ (p : List GSpan) (c : Int), g_ref03_Sheet_l0 p c = goB (p.all spanB)
 | [], _ => rfl
 | e :: p, c => by
  simp only [g_ref03_Sheet_l0, rin_eq, Option.bind_some, sheet_l0 p, List.all_cons]
  unfold spanB inB
  by_cases h1 : 0 ≤ e.Low
  ·by_cases h2 : e.Low ≤ e.High
   ·by_cases h3 : e.High ≤ 24
    ·simp [h1, h2, h3, show e.Low ≤ 24 by omega]
    ·by_cases h4 : e.Low ≤ 24 <;> simp [h1, h2, h3, h4, goB]
   ·by_cases h4 : e.Low ≤ 24 <;> simp [h1, h2, h4, goB]
  ·simp [h1, goB]
theorem sheet_l1 : ∀ (p : List GCoatCoat) (c : Int), g_ref03_Sheet_l1 p c = goB (p.all coatB)
 | [], _ => rfl
 | e :: p, c => by
  simp only [g_ref03_Sheet_l1, rin_eq, Option.bind_some, sheet_l1 p, List.all_cons, goB_and, coatB, cand]
theorem rSheet_eq {s : GCoatSheet} (h : OkS s) : g_ref03_Sheet s = some (sheetB s) := by
 unfold g_ref03_Sheet sheetB
 rw [rin_eq, rin_eq, rising_eq h.d h.w, h.d, h.c, sheet_l0, sheet_l1, goB_lbind, goB_lbind]
 simp only [Option.bind_some]
 cases inB 1 12 (s.Dry.length : Int) <;> cases s.Dry.all spanB <;> cases inB 1 5 (s.Coats.length : Int) <;> cases s.Coats.all coatB <;> cases incB s.Dry.length s.Work <;> rfl
def planB (s : GCoatSheet) (l : List Int) : Bool := (decide (l.length = s.Coats.length) && incB s.Dry.length l) && l.all fun d => s.Work.contains d
def inW : List GSpan → List Int → Bool
 | [], [] => true
 | x :: xs, w :: ws => inB x.Low x.High w && inW xs ws
 | _, _ => false
end Go.V
end
section
set_option linter.unusedVariables false
set_option linter.defProp false
namespace Go.V
open Go
section
variable {P : Program} {G : Glob} {n : Nat} {x : Code} {Q : VExit → St → Prop} {st : St}
end
theorem setC {α : Type} {enc : α → List VV} {w : Nat} (xs : List α) (n : Nat) (v : α) (he : ∀ x, (enc x).length = w) : List.take (xs.length * w) (cellsL enc (xs.set n v)) = cellsL enc (xs.set n v) :=
 List.take_of_length_le (by rw [cellsL_length he, List.length_set]; exact Nat.le_refl _)
end Go.V
end
section
set_option linter.unusedVariables false
set_option linter.unusedSimpArgs false
set_option linter.defProp false
namespace Go.V
open Go
section
variable {P : Program} {G : Glob} {n : Nat} {Q : VExit → St → Prop} {tm : Nat → VV} {H : Nat → Option VObj} {nx : Nat} {df : List VDef} {g : Operand} {ps : Array Tmp} {az bo : Code} {f : FuncId} {first captured : List VV}
theorem range_open (hg : ev (G.at (some none)) tm g = .fn (.func f) first captured)
  (h : ∀ LO, LO = VObj.loop .ready none (tmL n tm) ps az bo nx → VOpen P (G.at (some none)) f (first ++ [.yl (nx + 1)] ++ captured) (updH (updH H nx (.deferred (some []))) (nx + 1) LO) (nx + 2)
   (fun _ H' nx' => RangeEnd P (G.at (some none)) n Q ⟨tm, H, nx, df⟩ H' nx') (fun x H' nx' => Q (.panic x) ⟨tm, H', nx', .coll nx :: df⟩)) : CWp P (G.at (some none)) n (.rangeFunc g ps az bo) Q ⟨tm, H, nx, df⟩ := by
 unfold CWp
 refine ⟨rfl, ?_⟩
 rw [show St.ρ (G.at (some none)) ⟨tm, H, nx, df⟩ g = ev (G.at (some none)) tm g from ev_eq .. ▸ rfl, hg]
 exact h _ rfl
theorem rangeEnd_go {H' : Nat → Option VObj} {nx' : Nat} {LO : VObj} {tml : List VV} {d : Nat} (hL : LO = VObj.loop .ready none tml ps az bo d) (h : H' (nx + 1) = some LO) (hq : ∀ LX, Q .normal ⟨tm, updH H' (nx + 1) LX, nx', .coll nx :: df⟩) : RangeEnd P G n Q ⟨tm, H, nx, df⟩ H' nx' :=
 ⟨.ready, none, tml, ps, az, bo, d, by rw [h, hL], by simp, hq _⟩
def RndEnd (β : Nat) (LB LO : VObj) (LD : Code → VObj) (o : Oper) (st : St) (K : St → Prop) : VExit → St → Prop
 | .normal, s2 => s2.H β = some LB ∧ K { st.put o.dst (.lit (.bool true)) with H := updH s2.H β LO, nx := s2.nx }
 | .ret, s2 => s2.H β = some LB ∧ K { st.put o.dst (.lit (.bool false)) with H := updH s2.H β (LD .ret), nx := s2.nx }
 | .exit id, s2 => s2.H β = some LB ∧ K { st.put o.dst (.lit (.bool false)) with H := updH s2.H β (LD (.exit id)), nx := s2.nx }
 | _, _ => False
def RndAs (P : Program) (G : Glob) (n β : Nat) (LB LO : VObj) (LD : Code → VObj) (bo : Code) (o : Oper) (st : St) (K : St → Prop) : VExit → St → Prop
 | .normal, s1 => s1.H β = some LO ∧ CWp P (G.at (some (some β))) n bo (RndEnd β LB LO LD o st K) { s1 with H := updH s1.H β LB }
 | _, _ => False
theorem yield_open (hm : P.follows .mixedOrders = true) {o : Oper} {β : Nat} {args : List VV} {st : St} {K : St → Prop} {LO : VObj} {tml : List VV} {d : Nat} {psl : List Tmp} (hL : LO = VObj.loop .ready none tml ⟨psl⟩ az bo d) (hβ : st.H β = some LO) (hn : tml.length = n) (ha : args.length = psl.length)
  (h1 : codeOk n az = true) (h2 : codeOk n bo = true)
  (h : ∀ LB LD, LB = VObj.loop .busy none tml ⟨psl⟩ az bo d → LD = (fun c => VObj.loop .done (some c) tml ⟨psl⟩ az bo d) →
   CWp P (G.at (some (some β))) n az (RndAs P G n β LB LO LD bo o st K) ⟨argsTm (roundTm tml psl args), st.H, st.nx, []⟩) : yieldK P G o β args st K := by
 unfold yieldK
 rw [hβ, hL]
 subst hn
 refine ⟨ha, (CWp_sound hm az _ _ h1 (h _ _ rfl rfl)).mono ?_⟩
 intro e s1 hs
 cases e with
 | normal =>
  obtain ⟨q1, q2⟩ := hs
  refine ⟨none, tml, ⟨psl⟩, az, bo, d, by rw [q1, hL], (CWp_sound hm bo _ _ h2 q2).mono ?_⟩
  intro e s2 hs2
  cases e with
  | normal =>
   obtain ⟨r1, r2⟩ := hs2
   refine ⟨_, _, _, _, _, _, _, r1, ?_⟩
   rw [hL] at r2
   exact r2
  | ret =>
   obtain ⟨r1, r2⟩ := hs2
   exact ⟨_, _, _, _, _, _, _, r1, r2⟩
  | exit id =>
   obtain ⟨r1, r2⟩ := hs2
   exact ⟨_, _, _, _, _, _, _, r1, r2⟩
  | goto l => exact hs2.elim
  | panic x => exact hs2.elim
 | _ => exact hs.elim
theorem round_tm {m t p : Nat} {x : VV} (h : t < m) : argsTm (roundTm (tmL m tm) [p] [x]) t = if t = p then x else tm t := by
 unfold argsTm roundTm tmL
 simp only [List.zip_cons_cons, List.zip_nil_right, List.foldl_cons, List.foldl_nil]
 by_cases hp : t = p
 ·subst hp
  rw [if_pos rfl]
  simp [h]
 ·rw [if_neg hp]
  simp [List.getElem?_set, h, Ne.symm hp]
theorem round_tm0 {m t : Nat} (h : t < m) : argsTm (roundTm (tmL m tm) [] []) t = tm t := by
 unfold argsTm roundTm tmL
 simp [h]
theorem tmL_length {m : Nat} : (tmL m tm).length = m := by simp [tmL]
theorem cwp_tmcut {code : Code} (F : (Nat → VV) → Prop) (hF : F tm) (h : ∀ tm, F tm → CWp P G n code Q ⟨tm, H, nx, df⟩) : CWp P G n code Q ⟨tm, H, nx, df⟩ := h tm hF
theorem vcells_yl {β : Nat} : vcells (.yl β) = some [.yl β] := rfl
theorem leaf_yl {β : Nat} : (VV.yl β).leaf = true := rfl
theorem VPure.at {x : Option (Option Nat)} {args : List VV} {r : PRes} (h : VPure P G f args r) : VPure P (G.at x) f args r := h
def rg := And.intro @vcells_yl (And.intro @leaf_yl @cvalK_yl)
theorem opd_coll {fn : Func} {R Rp : VV → (Nat → Option VObj) → Nat → Prop} {β : Nat} (h : H β = some (.deferred (some []))) (h2 : OpenPostD P G fn R Rp .ret ⟨tm, updH H β (.deferred none), nx, df⟩) : OpenPostD P G fn R Rp .ret ⟨tm, H, nx, .coll β :: df⟩ := ⟨h, h2⟩
end
end Go.V
end
section
set_option linter.unusedVariables false
set_option linter.unusedSimpArgs false
namespace Go.V
open Go
def pfxOk (n : Nat) (i : Int) : Bool := decide (0 < n) && (decide (0 ≤ i) && decide (i ≤ n))
theorem pfxOk_iff {n : Nat} {i : Int} : pfxOk n i = true ↔ 0 < n ∧ 0 ≤ i ∧ i ≤ n := by
 unfold pfxOk
 rw [Bool.and_eq_true, Bool.and_eq_true, decide_eq_true_eq, decide_eq_true_eq, decide_eq_true_eq]
theorem neB_nil {α : Type} : neB ([] : List α) = false := rfl
def le1000 (n : Nat) : Bool := decide (n ≤ 1000)
theorem le1000_of {n : Nat} (h : le1000 n = true) : n ≤ 1000 := of_decide_eq_true h
section
variable {P : Program} {G : Glob} {f : FuncId} {β γ w c nx : Nat} {tm : Nat → VV} {H : Nat → Option VObj} {df : List VDef} {d : Option Tmp} {K : List Nat → List Nat → St → Prop} {el : Option TypeId} {α : Type} {enc : α → List VV} {xs ys : List α} {x : VV}
theorem pfx_take (hw : ∀ x, (enc x).length = w) {i : Int} (h : pfxOk xs.length i = true) : (cellsL enc xs).take (i.toNat * w) = cellsL enc (xs.take i.toNat) ∧ (xs.take i.toNat).length = i.toNat := by
 obtain ⟨h1, h2, h3⟩ := pfxOk_iff.1 h
 have hl : (xs.take i.toNat).length = i.toNat := by rw [List.length_take]; omega
 refine ⟨?_, hl⟩
 have h3 : xs = xs.take i.toNat ++ xs.drop i.toNat := (List.take_append_drop ..).symm
 have h4 := cellsL_length hw (xs.take i.toNat)
 rw [hl] at h4
 conv => lhs; rw [h3]
 rw [cellsL_append, List.take_append_of_le_length (by omega), List.take_of_length_le (by omega)]
theorem dkseenP (he : EncT enc) (hw : ∀ x, (enc x).length = w) {i : Int} (hi : pfxOk xs.length i = true) (hl : xs.length * w ≤ 1000) (hH : H β = some (.cells el (cellsL enc xs))) (hp : VPure P G f [.sl (cellsL enc (xs.take i.toNat)) (xs.take i.toNat).length false] (.tree x)) (hf : x.flat = true) (h : fin d γ tm H nx df (K [β] []) x .none) :
  dcallK P G f [.ref β 0 i.toNat w c] tm H nx df d γ K := by
 obtain ⟨e1, e2⟩ := pfx_take hw hi
 have ht : treeL (cellsL enc (xs.take i.toNat)) = true := treeL_cellsL he.tree _
 have hlen := cellsL_length hw (xs.take i.toNat)
 have h5 := (pfxOk_iff.1 hi).2.2
 rw [e2] at hlen
 have h6 : i.toNat * w ≤ 1000 := Nat.le_trans (Nat.mul_le_mul_right w (by omega)) hl
 have e0 : (VV.ref β 0 i.toNat w c).tree = false := rfl
 refine dkseen (args1 := [.sl (cellsL enc (xs.take i.toNat)) (xs.take i.toNat).length false]) (x := x) ?_ (normL_sl1 he) hp hf ?_
 ·show sealL H (99999 + 1) _ = _
  have h2 : sealV H (99998 + 1) (.ref β 0 i.toNat w c) = some (.sl (cellsL enc (xs.take i.toNat)) (xs.take i.toNat).length false) := by
   simp only [sealV, e0, hH, Nat.zero_le, if_true, List.drop_zero, e1]
   rw [seal_tree _ 99998 ht (by omega), e2]
   rfl
  simp only [sealL]
  rw [show (99999 : Nat) = 99998 + 1 from rfl, h2]
 ·have h3 : nmL H fuelS [.ref β 0 i.toNat w c] = [β] := by
   show nmL H (99999 + 1) _ = _
   have h4 : nmV H (99998 + 1) (.ref β 0 i.toNat w c) = [β] := by
    simp only [nmV, e0, hH, List.drop_zero, e1]
    rw [nm_tree _ _ ht]
    rfl
   simp only [nmL]
   rw [show (99999 : Nat) = 99998 + 1 from rfl, h4]
   simp [nmL]
  rw [h3]
  exact h
end
section
variable {P : Program} {G : Glob} {β γ w e : Nat} {t ty : TypeId} {tm : Nat → VV} {H : Nat → Option VObj} {d : Option Tmp} {k : VV → VEff → Prop} {el : Option TypeId} {α : Type} {enc : α → List VV} {xs ys : List α} {pos : String} {af : Array Edge} {g : Option (Nat × Bool)} {x : Operand} {lo hi : Option Operand}
theorem k_slP {o : Operand} {kd : IntKind} {i : Int} (hu : P.underlying t = some (.slice e)) (hs : szT P e = some w) (hx : ev G tm x = .ref β 0 xs.length w xs.length) (hH : H β = some (.cells el (cellsL enc xs))) (ho : ev G tm o = .lit (.int kd i)) (hi : pfxOk xs.length i = true)
  (h : k (.ref β 0 i.toNat w xs.length) .none) : oeK (vop P ⟨d, .slice t x none (some o) none, ty, pos, af, g⟩ (ev G tm) H γ) k := by
 obtain ⟨h1, h2, h3⟩ := pfxOk_iff.1 hi
 have e1 : vslice P H t (.ref β 0 xs.length w xs.length) none (some (.lit (.int kd i))) none = some (.ref β 0 i.toNat w xs.length) := by
  have h4 : i.toNat ≤ xs.length := by omega
  simp [vslice, hu, hs, sls, hH, vbound, h2, h4, h1]
 have e2 : vop P ⟨d, .slice t x none (some o) none, ty, pos, af, g⟩ (ev G tm) H γ = some (.ref β 0 i.toNat w xs.length, .none) := by
  simp [vop, hu, hx, ho, e1]
 rw [e2]
 exact h
end
section
variable {P : Program} {G : Glob} {f : FuncId} {γ nx : Nat} {tm : Nat → VV} {H : Nat → Option VObj} {df : List VDef} {d : Option Tmp} {x : VV}
theorem ktree0 {K : St → Prop} {Qp : VV → St → Prop} (hp : VPure P G f [] (.tree x)) (h : fin d γ tm H nx df K x .none) : callK P G f [] ⟨tm, H, nx, df⟩ d γ K Qp := ktree (args0 := []) rfl rfl hp h
end
end Go.V
end
section
namespace Go.V
open Go Go.Proofs
def g_sum_Of_l0  : List Int → Int → Int → Option (LOut (Int) (Int))
 | [], c0_8, c0_3 => some (.go c0_3)
 | e0 :: p0, c0_8, c0_3 => g_sum_Of_l0 p0 (c0_8 + 1) (IntKind.i64.wrap (c0_3 + e0))
def g_sum_Of (x0_numbers : List Int) : Option (Int) := cond (lenOk x0_numbers) (lbind (g_sum_Of_l0 x0_numbers 0 0) (fun r2 => some r2) (fun c1 => some c1) (fun _ _ => none)) none
theorem g_sum_Of_ok (x0_numbers : List Int) (R : Int) (h : g_sum_Of x0_numbers = some R) : VPure Tryz.prog G0 103 [.sl (cellsL eI x0_numbers) (List.length x0_numbers) false] (.tree (.lit (.int .i64 R))) := by
 refine VPure.runR mixed Tryz.call103 Tryz.func103 rfl (by simp [Tryz.ntmps103]; kernel_rfl) ?_
 obtain ⟨KF, h, kF, kN⟩ := fun_intro h
 simp only [g_sum_Of] at h
 cases g4 : (lenOk x0_numbers)
 ·simp only [g4, hs] at h
  exact absurd h kN
 simp only [g4, hs] at h
 simp only [vz, tyf, g4, nm, seval]
 obtain ⟨K3, h, kR3, kG3, kB3, kN3⟩ := lbind_intro h kN
 obtain ⟨f3, hf3, h⟩ := call3 h
 obtain ⟨I3, hI3⟩ : ∃ I : Nat → St → Prop, I = (fun m st => ∃ (p3 : List Int) (c3_8 : Int) (c3_3 : Int), m = List.length p3 ∧ 0 ≤ c3_8 ∧ List.drop (Int.toNat c3_8) x0_numbers = p3 ∧ st.df = [] ∧ 5 ≤ st.nx ∧ st.tm 6 = .sl (cellsL eI x0_numbers) (List.length x0_numbers) false ∧ st.tm 7 = .lit (.int .i64 (List.length x0_numbers : Int)) ∧ st.tm 3 = .lit (.int .i64 c3_3) ∧ st.tm 8 = .lit (.int .i64 c3_8) ∧ K3 (f3 p3 c3_8 c3_3)) := ⟨_, rfl⟩
 refine loopK mixed (by kernel_rfl) I3 (List.length x0_numbers) (by rw [hI3]; refine ⟨x0_numbers, 0, 0, rfl, Int.le_refl _, rfl, rfl, (show 5 ≤ 5 by omega), ?_, ?_, ?_, ?_, h⟩ <;> first | (simp only [ua, nm, seval] <;> rfl) | rfl) ?_
 rintro m ⟨tm, H, nx3, df⟩ hinv
 rw [hI3] at hinv
 obtain ⟨p3, c3_8, c3_3, rfl, hi3, hp3, hdf, hn3, e5, e6, e7, e8, h⟩ := hinv
 simp only at hdf hn3 e5 e6 e7 e8
 have n9 := base_ne0 (m := 5) (b := nx3) (by omega)
 subst hdf hf3
 cases p3 with
 | nil =>
  have d10 : (decide (c3_8 < (List.length x0_numbers : Int))) = false := not_lt_of_drop hi3 hp3
  simp only [g_sum_Of_l0, hs, reduceCtorEq] at h
  replace h := kG3 _ h
  try dsimp only at h
  try simp only [hs] at h
  try simp only [vz, tyf, g4, n9, e5, e6, e7, e8, d10, nm, seval]
  refine opd_ret (x := (.lit (.int .i64 c3_3))) (by first | (simp only [Tryz.results103, resV, resL, resV1, tgt_ptr, tgt_tp, uw, cr, tyf, g4, n9, d10, nm, seval] <;> rfl) | rfl) ?_
  obtain rfl := kF _ h
  refine rr_tree ?_ ?_
  ·simp only [tre, tytre, Bool.and_self]
  ·first | (simp only [outV, uw, showV_ref, cr, tyf, nrm, tynrm, g4, n9, e5, e6, e7, e8, d10, nm, seval] <;> rfl) | rfl
 | cons e3 p3 =>
  have d11 : (decide (c3_8 < (List.length x0_numbers : Int))) = true := lt_of_drop hi3 hp3
  have o13 := getI_of_drop hi3 hp3
  have w12 := wrap_next hi3 hp3 g4
  simp only [g_sum_Of_l0, hs, reduceCtorEq] at h
  simp only [vz, tyf, g4, n9, e5, e6, e7, e8, d11, (ix23 o13), w12, nm, seval]
  exact ⟨List.length p3, Nat.lt_succ_self _, by rw [hI3]; refine ⟨p3, c3_8 + 1, IntKind.i64.wrap (c3_3 + e3), rfl, Int.le_trans hi3 (Int.le_add_one (Int.le_refl _)), drop_next hi3 hp3, rfl, (show 5 ≤ nx3 + 10 by omega), e5, e6, ?_, ?_, h⟩ <;> first | (simp only [ua, n9, e5, e6, e7, e8, d11, w12, nm, seval] <;> rfl) | rfl⟩
end Go.V
end
