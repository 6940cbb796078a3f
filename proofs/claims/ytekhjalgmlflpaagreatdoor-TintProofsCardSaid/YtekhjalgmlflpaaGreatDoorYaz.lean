/- Part of a proof. -/
import Derived.Test.YtekhjalgmlflpaaGreatDoorYah
set_option linter.all false
section
namespace Go.V
open Go
def cellsL {α : Type} (enc : α → List VV) : List α → List VV
 | [] => []
 | x :: xs => enc x ++ cellsL enc xs
theorem zdz {α : Type} {enc : α → List VV} : cellsL enc [] = [] := rfl
theorem zir {α : Type} {enc : α → List VV} {x : α} {xs : List α} : cellsL enc (x :: xs) = enc x ++ cellsL enc xs := rfl
theorem zgi {α : Type} {enc : α → List VV} : ∀ {xs ys : List α}, cellsL enc (xs ++ ys) = cellsL enc xs ++ cellsL enc ys
 | [], _ => rfl
 | x :: xs, ys => by simp [cellsL, zgi (xs := xs)]
theorem zbp {α : Type} {enc : α → List VV} {w : Nat} (h : ∀ x, (enc x).length = w) : ∀ xs : List α, (cellsL enc xs).length = xs.length * w
 | [] => by simp [cellsL]
 | x :: xs => by simp [cellsL, h, zbp h xs, Nat.add_mul, Nat.add_comm]
theorem zwg {α : Type} {enc : α → List VV} {w : Nat} (h : ∀ x, (enc x).length = w) {xs pre post : List α} (e : xs = pre ++ post) : (cellsL enc xs).drop (pre.length * w) = cellsL enc post := by
 subst e
 rw [zgi, ← zbp h pre, List.drop_left]
theorem zlu : ∀ {xs ys : List VV}, treeL (xs ++ ys) = (treeL xs && treeL ys)
 | [], _ => rfl
 | x :: xs, ys => by simp [treeL, zlu (xs := xs), Bool.and_assoc]
theorem zjo {α : Type} {enc : α → List VV} (h : ∀ x, treeL (enc x) = true) : ∀ xs : List α, treeL (cellsL enc xs) = true
 | [] => rfl
 | x :: xs => by simp [cellsL, zlu, h, zjo h xs]
theorem zdv : ∀ {xs ys : List VV}, normL (xs ++ ys) = normL xs ++ normL ys
 | [], _ => rfl
 | x :: xs, ys => by simp [normL, zdv (xs := xs)]
theorem zjd {α : Type} {enc : α → List VV} (h : ∀ x, normL (enc x) = enc x) : ∀ xs : List α, normL (cellsL enc xs) = cellsL enc xs
 | [] => rfl
 | x :: xs => by simp [cellsL, zdv, h, zjd h xs]
theorem zrl {α : Type} {enc : α → List VV} {g : VV → VV} (h : ∀ x, (enc x).map g = enc x) : ∀ xs : List α, (cellsL enc xs).map g = cellsL enc xs
 | [] => rfl
 | x :: xs => by simp [cellsL, h, zrl h xs]
theorem zbq {H : Nat → Option VObj} {cs : List VV} : tgt H (.tp cs) = some cs := rfl
theorem zat {H : Nat → Option VObj} {β off : Nat} : tgt H (.ptr β off) = (match H β with | some (.cells _ cs) => if off ≤ cs.length then some (cs.drop off) else none | _ => none) := rfl
end Go.V
end
section
namespace Go.V
open Go
mutual
theorem zlk : ∀ (x : VV), (normV x).tree = true → x.tree = true
 | .sl cs n _, h => by simpa [normV, VV.tree] using zju cs (by simpa [normV, VV.tree] using h)
 | .agg cs, h => by simpa [normV, VV.tree] using zju cs (by simpa [normV, VV.tree] using h)
 | .tup cs, h => by simpa [normV, VV.tree] using zju cs (by simpa [normV, VV.tree] using h)
 | .lit _, _ => rfl
 | .any, h => h
 | .tp _, h => h
 | .ref .., h => h
 | .ptr .., h => h
 | .mp _, h => h
 | .mt .., h => h
 | .it _, h => h
 | .yl _, h => h
 | .fn .., h => h
 | .ifc .., h => h
theorem zju : ∀ (xs : List VV), treeL (normL xs) = true → treeL xs = true
 | [], _ => rfl
 | x :: xs, h => by
  simp only [normL, treeL, Bool.and_eq_true] at h ⊢
  exact ⟨zlk x h.1, zju xs h.2⟩
end
def outV (H : Nat → Option VObj) (x : VV) : VV := normV (showV H 5 x)
def RetT (P : Program) (fn : Func) (y : VV) : VExit → St → Prop
 | .normal, st | .ret, st => st.df = [] ∧ ∃ x, resV P st fn.results.toList = some x ∧ (outV st.H x).tree = true ∧ outV st.H x = y
 | _, _ => False
theorem VPure.of_bodyT {P : Program} {G : Glob} {f : FuncId} {fn : Func} {code : Code} {args : List VV} {y : VV} (hc : Callable P f) (hf : P.funcs[f]? = some fn) (hb : fn.body = some code) (hn : args.length ≤ fn.ntmps)
  (h : VWp P (G.at (some none)) fn.ntmps code (RetT P fn y) { tm := argsTm args, H := fun _ => none, nx := 0, df := [] }) : VPure P G f args (.tree y) := by
 refine ⟨hc, fun A W vs hA hG hargs => ?_⟩
 have hlen := hargs.length
 have s := zmj hA
 have hr : StRep (G.at (some none)) (PCtx A) W { tm := argsTm args, H := fun _ => none, nx := 0, df := [] } { tmps := (⟨vs⟩ : Array Value) ++ Array.replicate (fn.ntmps - vs.length) undef, defers := [] } := by
  refine ⟨rfl, fun t => ?_, fun β h => h.elim, rfl, hG⟩
  simp only [argsTm]
  by_cases ht : t < vs.length
  ·obtain ⟨x, hx⟩ : ∃ x, args[t]? = some x := ⟨_, List.getElem?_eq_getElem (by omega)⟩
   obtain ⟨u, hu, hru⟩ := RepL.get t hargs hx
   rw [hx]
   have e : ((⟨vs⟩ : Array Value) ++ Array.replicate (fn.ntmps - vs.length) undef).getD t undef = u := by
    have h1 : ((⟨vs⟩ : Array Value) ++ Array.replicate (fn.ntmps - vs.length) undef)[t]? = some u := by
     rw [Array.getElem?_append_left (by simpa using ht)]
     simpa using hu
    rw [Array.getD_eq_getD_getElem?, h1]; rfl
   rw [e]
   exact hru
  ·have hx : args[t]? = none := List.getElem?_eq_none (by omega)
   rw [hx]
   have e : ((⟨vs⟩ : Array Value) ++ Array.replicate (fn.ntmps - vs.length) undef).getD t undef = undef := by
    rw [Array.getD_eq_getD_getElem?, Array.getElem?_append_right (by simpa using ht), Array.getElem?_replicate]
    split <;> rfl
   rw [e]
   rfl
 refine callsIn_of_wp hf hb trivial (wpIn_mono (h none (PCtx A) W _ rfl s hr (by simp; omega)) ?_) rfl
 rintro e a' W' ⟨ve, c', st', he, hext, hs', hr', hsz, hu, _, hq⟩
 have hbelow := zfx hext
 have hge : ∀ β, c'.live β → W.heap.size ≤ c'.φ β := by
  intro β hl
  rcases Nat.lt_or_ge (c'.φ β) W.heap.size with h | h
  ·obtain ⟨γ, hγ, _⟩ := hext.old β hl h
   simp [PCtx, Ctx.live] at hγ
  ·exact h
 have hA1 : ∀ b, A b → heldIn c' st'.H b := fun b hb => .inl (hext.A b hb)
 have hold : ∀ b, c'.A b → A b ∨ W.heap.size ≤ b := by
  intro b hb
  rcases hext.newA b hb with h | h | ⟨β, h, _⟩
  ·exact .inl h
  ·exact .inr h
  ·simp [PCtx, Ctx.live] at h
 have held : ∀ {H0 : Nat → Option VObj}, SubHeap H0 c'.H → ∀ b, heldIn c' H0 b → A b ∨ W.heap.size ≤ b := by
  intro H0 hsub b hb
  rcases hb with h | ⟨β, h, e⟩
  ·exact hold b h
  ·exact .inr (e ▸ hge β (hsub.live h))
 have heldlt : ∀ {H0 : Nat → Option VObj}, SubHeap H0 c'.H → ∀ b, heldIn c' H0 b → b < W'.heap.size := by
  intro H0 hsub b hb
  rcases hb with h | ⟨β, h, e⟩
  ·exact hs'.ltA b h
  ·exact e ▸ hs'.lt β (hsub.live h)
 have hsub : SubHeap st'.H c'.H := by rw [hr'.H]; exact SubHeap.refl _
 have finish : ∀ {x : VV}, resV P st' fn.results.toList = some x → (outV st'.H x).tree = true → outV st'.H x = y → ∃ v, (results fn a'.tmps).run P W' = .ok v W' ∧
   (∃ A' : Nat → Prop, (∀ b, A b → A' b) ∧ (∀ b, A' b → A b ∨ W.heap.size ≤ b) ∧ (∀ b, A' b → b < W'.heap.size) ∧ RowKit.Below W.heap.size W W' ∧ PRep W A' W' (.tree y) (.returned v)) := by
  intro x hx ht hy
  obtain ⟨v, hv, hrv⟩ := zgz hs' hr' hx
  refine ⟨v, hv, heldIn c' c'.H, fun b hb => .inl (hext.A b hb), held (SubHeap.refl _), heldlt (SubHeap.refl _), hbelow, v, rfl, ?_⟩
  subst hy
  have ht' : (showV st'.H 5 x).tree = true := zlk _ ht
  rw [← hr'.H] at ht' ⊢
  exact zmy _ (zij hs' 5 x v ht' hrv)
 cases ve with
 | normal =>
  have e1 : e = .normal := he
  subst e1
  obtain ⟨hdf, x, hx, ht, hy⟩ := hq
  obtain ⟨v, hv, hpost⟩ := finish hx ht hy
  have hd := hr'.df
  rw [hdf] at hd
  exact ⟨hd, v, hv, hpost⟩
 | ret =>
  have e1 : e = .ret := he
  subst e1
  obtain ⟨hdf, x, hx, ht, hy⟩ := hq
  obtain ⟨v, hv, hpost⟩ := finish hx ht hy
  have hd := hr'.df
  rw [hdf] at hd
  exact ⟨hd, v, hv, hpost⟩
 | exit id => exact hq.elim
 | goto l => exact hq.elim
 | panic x => exact hq.elim
theorem VPure.runT {P : Program} {G : Glob} (hm : P.follows .mixedOrders = true) {f : FuncId} {fn : Func} {code : Code} {args : List VV} {y : VV} (hc : Callable P f) (hf : P.funcs[f]? = some fn) (hb : fn.body = some code)
  (hst : (decide (args.length ≤ fn.ntmps) && codeOk fn.ntmps code) = true) (h : CWp P (G.at (some none)) fn.ntmps code (RetT P fn y) { tm := argsTm args, H := fun _ => none, nx := 0, df := [] }) : VPure P G f args (.tree y) := by
 simp only [Bool.and_eq_true, decide_eq_true_eq] at hst
 exact VPure.of_bodyT hc hf hb hst.1 (zef (G := G.at (some none)) hm code _ _ hst.2 h)
section
variable {P : Program} {tm : Nat → VV} {H : Nat → Option VObj} {nx : Nat}
end
end Go.V
end
