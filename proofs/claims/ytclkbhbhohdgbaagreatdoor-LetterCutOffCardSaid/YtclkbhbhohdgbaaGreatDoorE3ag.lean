/- Part of a proof. -/
import Derived.Test.YtclkbhbhohdgbaaGreatDoorE3af
set_option linter.all false
section
namespace Go.V
open Go
inductive Trie (α : Type) where
 | nil
 | node (v : Option α) (l r : Trie α)
namespace Trie
variable {α : Type}
def get : Trie α → Nat → Option α
 | .nil, _ => none
 | .node v l r, n => match n with
  | 0 => v
  | m + 1 => if m % 2 = 0 then l.get (m / 2) else r.get (m / 2)
def set : Nat → Trie α → Nat → Option α → Trie α
 | 0, t, _, _ => t
 | k + 1, .nil, n, x => match n with
  | 0 => .node x .nil .nil
  | m + 1 => if m % 2 = 0 then .node none (set k .nil (m / 2) x) .nil else .node none .nil (set k .nil (m / 2) x)
 | k + 1, .node v l r, n, x => match n with
  | 0 => .node x l r
  | m + 1 => if m % 2 = 0 then .node v (set k l (m / 2) x) r else .node v l (set k r (m / 2) x)
theorem rz : ∀ (k : Nat) (t : Trie α) (n : Nat) (x : Option α) (i : Nat), n < k → (set k t n x).get i = if i = n then x else t.get i
 | 0, _, _, _, _, h => by omega
 | k + 1, .nil, 0, x, i, _ => by
  cases i with
  | zero => simp [set, get]
  | succ i => simp [set, get]
 | k + 1, .nil, m + 1, x, i, h => by
  have ih := fun i => rz k (.nil : Trie α) (m / 2) x i (by omega)
  by_cases hm : m % 2 = 0
  ·simp only [set, hm, if_true]
   cases i with
   | zero => simp [get]
   | succ i =>
    simp only [get]
    by_cases hi : i % 2 = 0
    ·simp only [hi, if_true, ih, get]
     have : (i / 2 = m / 2) = (i + 1 = m + 1) := by apply propext; omega
     simp only [this]
    ·simp only [hi, if_false]
     have : ¬ (i + 1 = m + 1) := by omega
     rw [if_neg this]
     try simp only [get, hi, if_true, if_false]
  ·simp only [set, hm, if_false]
   cases i with
   | zero => simp [get]
   | succ i =>
    simp only [get]
    by_cases hi : i % 2 = 0
    ·simp only [hi, if_true]
     have : ¬ (i + 1 = m + 1) := by omega
     rw [if_neg this]
     try simp only [get, hi, if_true, if_false]
    ·simp only [hi, if_false, ih, get]
     have : (i / 2 = m / 2) = (i + 1 = m + 1) := by apply propext; omega
     simp only [this]
 | k + 1, .node v l r, 0, x, i, _ => by
  cases i with
  | zero => simp [set, get]
  | succ i => simp [set, get]
 | k + 1, .node v l r, m + 1, x, i, h => by
  have ihl := fun i => rz k l (m / 2) x i (by omega)
  have ihr := fun i => rz k r (m / 2) x i (by omega)
  by_cases hm : m % 2 = 0
  ·simp only [set, hm, if_true]
   cases i with
   | zero => simp [get]
   | succ i =>
    simp only [get]
    by_cases hi : i % 2 = 0
    ·simp only [hi, if_true, ihl]
     have : (i / 2 = m / 2) = (i + 1 = m + 1) := by apply propext; omega
     simp only [this]
    ·simp only [hi, if_false]
     have : ¬ (i + 1 = m + 1) := by omega
     rw [if_neg this]
     try simp only [get, hi, if_true, if_false]
  ·simp only [set, hm, if_false]
   cases i with
   | zero => simp [get]
   | succ i =>
    simp only [get]
    by_cases hi : i % 2 = 0
    ·simp only [hi, if_true]
     have : ¬ (i + 1 = m + 1) := by omega
     rw [if_neg this]
     try simp only [get, hi, if_true, if_false]
    ·simp only [hi, if_false, ihr]
     have : (i / 2 = m / 2) = (i + 1 = m + 1) := by apply propext; omega
     simp only [this]
def put (t : Trie α) (n : Nat) (x : Option α) : Trie α := set (n + 1) t n x
theorem get_put (t : Trie α) (n : Nat) (x : Option α) (i : Nat) : (t.put n x).get i = if i = n then x else t.get i := rz (n + 1) t n x i (by omega)
def ofList : Nat → List α → Trie α → Trie α
 | _, [], t => t
 | i, x :: xs, t => ofList (i + 1) xs (t.put i (some x))
theorem get_ofList : ∀ (xs : List α) (i : Nat) (t : Trie α) (j : Nat), (ofList i xs t).get j = if j < i then t.get j else (xs[j - i]?).or (t.get j)
 | [], i, t, j => by simp [ofList]
 | x :: xs, i, t, j => by
  rw [ofList, get_ofList xs (i + 1), get_put]
  rcases Nat.lt_trichotomy j i with h | h | h
  ·rw [if_pos (by omega), if_neg (by omega), if_pos h]
  ·subst h; simp
  ·rw [if_neg (by omega), if_neg (by omega), if_neg (by omega)]
   obtain ⟨m, rfl⟩ : ∃ m, j = i + 1 + m := ⟨j - (i + 1), by omega⟩
   rw [show i + 1 + m - i = m + 1 by omega, show i + 1 + m - (i + 1) = m by omega]
   simp
end Trie
structure RS where
 tm : Trie VV
 H : Trie Vo
 nx : Nat
 df : List VDef
def RS.st (s : RS) : St := ⟨fun t => (s.tm.get t).getD (.lit undef), s.H.get, s.nx, s.df⟩
def RS.put (s : RS) (dst : Option Tmp) (x : VV) : RS := match dst with
 | none => s
 | some d => { s with tm := s.tm.put d (some x) }
theorem RS.put_st (s : RS) (dst : Option Tmp) (x : VV) : (s.put dst x).st = s.st.put dst x := by
 cases dst with
 | none => rfl
 | some d =>
  simp only [RS.put, RS.st, St.put]
  congr 1
  funext t
  rw [Trie.get_put]
  split <;> rfl
def effR (γ : Nat) (H : Trie Vo) : Ve → Trie Vo
 | .none => H
 | .new o => H.put γ (some o)
 | .upd β o => H.put β (some o)
 | .mv β el cs => (H.put β none).put γ (some (.cells el cs))
 | .kill β => H.put β none
theorem tM (γ : Nat) (H : Trie Vo) (eff : Ve) : (effR γ H eff).get = eff.app γ H.get := by
 funext i
 cases eff with
 | none => rfl
 | new o => simp only [effR, Trie.get_put, Ve.app]
 | upd β o => simp only [effR, Trie.get_put, Ve.app]
 | mv β el cs => simp only [effR, Trie.get_put, Ve.app, without]
 | kill β => simp only [effR, Trie.get_put, Ve.app, without]
theorem argsR (args : List VV) (H : Trie Vo) (nx : Nat) : (RS.mk (Trie.ofList 0 args .nil) H nx []).st = { tm := bc args, H := H.get, nx, df := [] } := by
 simp only [RS.st]
 congr 1
 funext t
 rw [Trie.get_ofList]
 simp [bc, Trie.get]
def VRounds (P : Program) (G : Gb) (n : Nat) (x : Code) (Q : Vx → St → Prop) : Nat → St → Prop
 | 0, _ => False
 | m + 1, st => VWp P G n x (Vx.then (VRounds P G n x Q m) Q) st
theorem VWp.loopRounds {P : Program} {G : Gb} {n : Nat} {x : Code} {Q : Vx → St → Prop} {st : St} (m : Nat) (h : VRounds P G n x Q m st) : VWp P G n (.loop x) Q st := by
 refine VWp.loop (fun m st => VRounds P G n x Q m st) (m := m) h fun m st hm => ?_
 cases m with
 | zero => exact hm.elim
 | succ m =>
  refine VWp.mono hm fun e s hs => ?_
  cases e with
  | normal => exact ⟨m, by omega, hs⟩
  | exit id => exact hs
  | goto l => exact hs
  | ret => exact hs
  | panic x => exact hs
end Go.V
end
