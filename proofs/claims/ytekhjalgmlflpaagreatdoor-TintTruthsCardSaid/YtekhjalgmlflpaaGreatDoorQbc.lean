/- Part of a proof: a logic of values by content, lifted functions, what follows. -/
import Derived.Test.YtekhjalgmlflpaaGreatDoorQbb
set_option linter.all false
section
set_option linter.unusedVariables false
set_option linter.unusedSimpArgs false
namespace Go.V
open Go
theorem ztj {P : Program} {t : TypeId} {n : Nat} (h : szT P t = some n) : evalP P (sizeOf t) = some n := by
 unfold szT at h
 cases hi : P.info? t with
 | none => simp [hi] at h
 | some i =>
  simp [hi] at h
  subst h
  unfold sizeOf typeInfo
  rw [zah, zah, zfp]
  simp [hi, zbx]
def partO (P : Program) (t : TypeId) (cs : Array Value) (off : Nat) : Option Value :=
 match aggT P t, szT P t with
 | some true, some n => some (.agg (cs.extract off (off + n)))
 | some false, _ => cs[off]?
 | _, _ => none
theorem zkl {P : Program} {t : TypeId} {cs : Array Value} {off : Nat} {v : Value} (h : partO P t cs off = some v) : evalP P (part t cs off) = some v := by
 unfold partO at h
 split at h
 ·rename_i n h1 h2
  cases h
  unfold part
  rw [zah, zqn h1]
  simp only [Option.bind_some, if_true]
  rw [zah, ztj h2]
  rfl
 ·rename_i h1
  exact zno h1 h
 ·cases h
def eqFs (E : TypeId → Value → Value → Option Bool) (P : Program) : List Field → Array Value → Array Value → Option Bool
 | [], _, _ => some true
 | f :: fs, xs, ys => match partO P f.type xs f.offset, partO P f.type ys f.offset with
  | some a, some b => if f.name ≠ "_" then (match E f.type a b, eqFs E P fs xs ys with | some r, some r' => some (r && r') | _, _ => none) else none
  | _, _ => none
theorem zmw {P : Program} {E : TypeId → Value → Value → Option Bool} {d : Nat} (hE : ∀ t a b r, E t a b = some r → evalP P (Op.equalIn d t a b) = some r) {xs ys : Array Value} : ∀ (fs : List Field) (r : Bool), eqFs E P fs xs ys = some r →
  evalP P (forIn fs ((none, ()) : Option Bool × Unit) fun f __s => if f.name ≠ "_" then do
         let __do_lift ← part f.type xs f.offset
         let __do_lift_1 ← part f.type ys f.offset
         let __do_lift ← Op.equalIn d f.type __do_lift __do_lift_1
         if (!__do_lift) = true then pure (ForInStep.done (some false, ()))
          else pure (ForInStep.yield (none, ()))
        else pure (ForInStep.yield (none, ()))) = some (if r = true then none else some false, ())
 | [], r, h => by
  cases h
  rfl
 | f :: fs, r, h => by
  unfold eqFs at h
  split at h
  ·rename_i a b ha hb
   split at h
   ·rename_i hc
    split at h
    ·rename_i r1 r2 hr1 hr2
     cases h
     have ih := zmw hE fs r2 hr2
     rw [List.forIn_cons, zah, if_pos hc, zah, zkl ha, Option.bind_some, zah, zkl hb, Option.bind_some, zah, hE _ _ _ _ hr1, Option.bind_some]
     cases r1 with
     | true =>
      simp only [Bool.not_true, Bool.false_eq_true, if_false, zbx, Option.bind_some, Bool.true_and]
      exact ih
     | false =>
      simp only [Bool.not_false, if_true, zbx, Option.bind_some, Bool.false_and, Bool.false_eq_true, if_false]
    ·cases h
   ·cases h
  ·cases h
def eqAs (E : Value → Value → Option Bool) (P : Program) (e : TypeId) (n : Nat) (xs ys : Array Value) : List Nat → Option Bool
 | [] => some true
 | i :: l => match partO P e xs (i * n), partO P e ys (i * n) with
  | some a, some b => (match E a b, eqAs E P e n xs ys l with | some r, some r' => some (r && r') | _, _ => none)
  | _, _ => none
theorem zod {P : Program} {E : Value → Value → Option Bool} {d n : Nat} {e : TypeId} (hE : ∀ a b r, E a b = some r → evalP P (Op.equalIn d e a b) = some r) {xs ys : Array Value} : ∀ (l : List Nat) (r : Bool), eqAs E P e n xs ys l = some r →
  evalP P (forIn l ((none, ()) : Option Bool × Unit) fun i __s => do
         let __do_lift ← part e xs (i * n)
         let __do_lift_1 ← part e ys (i * n)
         let __do_lift ← Op.equalIn d e __do_lift __do_lift_1
         if (!__do_lift) = true then pure (ForInStep.done (some false, ()))
          else pure (ForInStep.yield (none, ()))) = some (if r = true then none else some false, ())
 | [], r, h => by
  cases h
  rfl
 | i :: l, r, h => by
  unfold eqAs at h
  split at h
  ·rename_i a b ha hb
   split at h
   ·rename_i r1 r2 hr1 hr2
    cases h
    have ih := zod hE l r2 hr2
    rw [List.forIn_cons, zah, zah, zkl ha, Option.bind_some, zah, zkl hb, Option.bind_some, zah, hE _ _ _ hr1, Option.bind_some]
    cases r1 with
    | true =>
     simp only [Bool.not_true, Bool.false_eq_true, if_false, zbx, Option.bind_some, Bool.true_and]
     exact ih
    | false =>
     simp only [Bool.not_false, if_true, zbx, Option.bind_some, Bool.false_and, Bool.false_eq_true, if_false]
   ·cases h
  ·cases h
def eqD (P : Program) : Nat → TypeId → Value → Value → Option Bool
 | 0, _, _, _ => none
 | d + 1, t, x, y => if ok1 P t x y = true then some (eq1 x y) else
  match P.underlying t, x, y with
  | some (.struct fs), .agg xs, .agg ys => if P.stoodInHeld t = true then none else eqFs (eqD P d) P fs.toList xs ys
  | some (.array len e), .agg xs, .agg ys => (match szT P e with | some n => eqAs (eqD P d e) P e n xs ys (List.range' 0 len) | none => none)
  | _, _, _ => none
theorem znf {P : Program} : ∀ (d : Nat) (t : TypeId) (x y : Value) (r : Bool), eqD P d t x y = some r → ∀ m, evalP P (Op.equalIn (m + d) t x y) = some r
 | 0, _, _, _, _, h, _ => by cases h
 | d + 1, t, x, y, r, h, m => by
  unfold eqD at h
  split at h
  ·rename_i h1
   cases h
   exact zng h1
  ·split at h
   ·rename_i fs xs ys hu _
    split at h
    ·cases h
    ·rename_i hs
     rw [Nat.add_succ]
     unfold Op.equalIn
     rw [zah, zlj hu]
     simp only [Option.bind_some]
     rw [zah, zfp]
     simp only [Option.bind_some, hs, Bool.false_eq_true, if_false]
     rw [zah, ← Array.forIn_toList]
     have := zmw (P := P) (d := m + d) (fun t a b r h => znf d t a b r h m) fs.toList r h
     rw [this]
     cases r <;> rfl
   ·rename_i len e xs ys hu _
    split at h
    ·rename_i n hn
     rw [Nat.add_succ]
     unfold Op.equalIn
     rw [zah, zlj hu]
     simp only [Option.bind_some]
     rw [zah, ztj hn]
     simp only [Option.bind_some]
     rw [zah, Std.Legacy.Range.forIn_eq_forIn_range']
     have := zod (P := P) (d := m + d) (n := n) (fun a b r h => znf d e a b r h m) (List.range' 0 len) r h
     simp only [Std.Legacy.Range.size, Nat.sub_zero, Nat.add_sub_cancel, Nat.div_one]
     rw [this]
     cases r <;> rfl
    ·cases h
   ·cases h
theorem binA {P : Program} {H : Nat → Option VObj} {t : TypeId} {x y : Operand} {len : Nat} {e : TypeId} {ax ay : VV} {xs ys : List Value} {r : Bool} (hx : ax.val? = some (.agg ⟨xs⟩)) (hy : ay.val? = some (.agg ⟨ys⟩)) (hu : P.underlying t = some (.array len e)) (hg : P.eqGuardType P.depth t = false) (h : eqD P 5 t (.agg ⟨xs⟩) (.agg ⟨ys⟩) = some r) :
  binV P H .eql t x y ax ay = some (.lit (.bool r)) ∧ binV P H .neq t x y ax ay = some (.lit (.bool (!r))) := by
 have e1 : Op.maxDepth = 9995 + 5 := rfl
 have key : ∀ op, op = .eql ∨ op = .neq → evalP P (eqGuard op t x y (.agg ⟨xs⟩) (.agg ⟨ys⟩)) = some () := by
  intro op hop
  unfold eqGuard
  rcases hop with rfl | rfl <;> simp [zah, zfp, zbx, hg]
 have h1 : vbin P .eql t x y (.agg ⟨xs⟩) (.agg ⟨ys⟩) = some (.bool r) := by
  simp only [vbin]
  rw [zah, key _ (.inl rfl), Option.bind_some]
  show evalP P (do pure (Value.bool (← Op.equal t (.agg ⟨xs⟩) (.agg ⟨ys⟩)))) = _
  rw [zah]
  unfold Op.equal
  rw [e1, znf 5 t _ _ r h 9995]
  rfl
 have h2 : vbin P .neq t x y (.agg ⟨xs⟩) (.agg ⟨ys⟩) = some (.bool (!r)) := by
  simp only [vbin]
  rw [zah, key _ (.inr rfl), Option.bind_some]
  show evalP P (do pure (Value.bool (!(← Op.equal t (.agg ⟨xs⟩) (.agg ⟨ys⟩))))) = _
  rw [zah]
  unfold Op.equal
  rw [e1, znf 5 t _ _ r h 9995]
  rfl
 constructor
 ·simp only [binV, hx, hy, h1]; rfl
 ·simp only [binV, hx, hy, h2]; rfl
end Go.V
end
