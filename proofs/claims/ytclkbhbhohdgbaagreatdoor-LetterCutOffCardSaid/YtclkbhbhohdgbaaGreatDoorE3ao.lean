/- Part of a proof. -/
import Derived.Test.YtclkbhbhohdgbaaGreatDoorE3an
set_option linter.all false
noncomputable section
namespace Go.V
open Go
def dropQ (n : Nat) (l : List VV) : List VV :=
 Nat.rec (motive := fun _ => List VV → List VV) (fun l => l) (fun _ ih l => List.rec (motive := fun _ => List VV) [] (fun _ t _ => ih t) l) n l
theorem wN : ∀ (n : Nat) (l : List VV), dropQ n l = l.drop n
 | 0, l => rfl
 | n + 1, [] => by simp [dropQ]
 | n + 1, x :: l => by
  show dropQ n l = _
  rw [wN n l]; rfl
def takeQ (n : Nat) (l : List VV) : List VV :=
 Nat.rec (motive := fun _ => List VV → List VV) (fun _ => []) (fun _ ih l => List.rec (motive := fun _ => List VV) [] (fun x t _ => x :: ih t) l) n l
theorem yC : ∀ (n : Nat) (l : List VV), takeQ n l = l.take n
 | 0, l => rfl
 | n + 1, [] => by simp [takeQ]
 | n + 1, x :: l => by
  show x :: takeQ n l = _
  rw [yC n l]; rfl
def geQ (n : Nat) (l : List VV) : Bool :=
 Nat.rec (motive := fun _ => List VV → Bool) (fun _ => true) (fun _ ih l => List.rec (motive := fun _ => Bool) false (fun _ t _ => ih t) l) n l
theorem tR : ∀ (n : Nat) (l : List VV), geQ n l = decide (n ≤ l.length)
 | 0, l => rfl
 | n + 1, [] => by simp [geQ]
 | n + 1, x :: l => by
  show geQ n l = _
  rw [tR n l]; simp
def headQ (l : List VV) : Option VV := List.rec (motive := fun _ => Option VV) none (fun x _ _ => some x) l
theorem yD (l : List VV) (n : Nat) : headQ (dropQ n l) = l[n]? := by
 rw [wN]
 have : ∀ l : List VV, headQ l = l[0]? := fun l => by cases l <;> rfl
 rw [this]; simp
def partQ (P : Program) (t : TypeId) (cs : List VV) (off : Nat) : Option VV :=
 match aggT P t with
 | some true => match szT P t with
  | some n => Bool.rec (motive := fun _ => Option VV) none (some (.agg (takeQ n (dropQ off cs)))) (geQ (Nat.add off n) cs)
  | none => none
 | some false => headQ (dropQ off cs)
 | none => none
theorem FK (P : Program) (t : TypeId) (cs : List VV) (off : Nat) : partQ P t cs off = vpart P t cs off := by
 unfold partQ vpart
 cases h1 : aggT P t with
 | none => rfl
 | some b =>
  cases b with
  | false => simp only [yD]
  | true =>
   cases h2 : szT P t with
   | none => rfl
   | some n =>
    simp only [yC, wN, tR]
    show Bool.rec (motive := fun _ => Option VV) _ _ (decide (off + n ≤ cs.length)) = _
    by_cases h : off + n ≤ cs.length <;> simp [h]
def loadQ (P : Program) (H : Trie Vo) (t : TypeId) (x : VV) : Option VV :=
 match x with
 | .tp cs => partQ P t cs 0
 | .ptr β off => match getO H β with
  | some (.cells _ cs) => Bool.rec (motive := fun _ => Option VV) none (partQ P t (dropQ off cs) 0) (geQ off cs)
  | _ => none
 | _ => none
theorem FM (P : Program) (H : Trie Vo) (t : TypeId) (x : VV) : loadQ P H t x = (match tgt H.get x with | some cs => aN P t cs | none => none) := by
 cases x <;> try rfl
 ·simp only [loadQ, tgt, FK]; rfl
 ·rename_i β off
  simp only [loadQ, tgt, tS, FK, tR, wN]
  cases H.get β with
  | none => rfl
  | some o =>
   cases o <;> try rfl
   rename_i el cs
   by_cases h : off ≤ cs.length <;> simp [h, aN]
def someQ (o : Option Vo) : Bool := Option.rec (motive := fun _ => Bool) false (fun _ => true) o
theorem yE (o : Option Vo) : someQ o = o.isSome := by cases o <;> rfl
def fldA (P : Program) (s : TypeId) (f : Nat) : Option Nat :=
 match P.underlying s with
 | some (.struct fields) => match fields[f]? with
  | some fd => match szT P fd.type with
   | some n => if n = 0 then none else some fd.offset
   | none => none
  | none => none
 | _ => none
def fieldAddrQ (P : Program) (H : Trie Vo) (s : TypeId) (x : VV) (f : Nat) : Option VV :=
 match fldA P s f with
 | some k => match x with
  | .tp cs => some (.tp (dropQ k cs))
  | .ptr β off => Bool.rec (motive := fun _ => Option VV) none (some (.ptr β (Nat.add off k))) (someQ (getO H β))
  | _ => none
 | none => none
theorem Wu (P : Program) (H : Trie Vo) (s : TypeId) (x : VV) (f : Nat) : fieldAddrQ P H s x f = ag P H.get s x f := by
 unfold fieldAddrQ ag fldA
 cases P.underlying s with
 | none => rfl
 | some d =>
  cases d <;> try rfl
  rename_i fields
  simp only
  cases fields[f]? with
  | none => rfl
  | some fd =>
   simp only
   cases szT P fd.type with
   | none => rfl
   | some n =>
    simp only
    by_cases h : n = 0
    ·simp only [h, if_true]
    ·simp only [h, if_false]
     cases x <;> try rfl
     ·simp only [wN]
     ·rename_i β off
      simp only [yE, tS]
      cases (H.get β).isSome <;> rfl
def fldB (P : Program) (t : TypeId) (f : Nat) : Option (TypeId × Nat) :=
 match P.underlying t with
 | some (.struct fields) => match fields[f]? with | some fd => some (fd.type, fd.offset) | none => none
 | _ => none
def fieldQ (P : Program) (t : TypeId) (x : VV) (f : Nat) : Option VV :=
 match x with
 | .agg cs => match fldB P t f with
  | some (u, k) => partQ P u cs k
  | none => none
 | _ => none
theorem FN (P : Program) (t : TypeId) (x : VV) (f : Nat) : fieldQ P t x f = vfield P t x f := by
 unfold fieldQ vfield fldB
 cases x with
 | agg cs =>
  simp only
  cases P.underlying t with
  | none => rfl
  | some d =>
   cases d <;> try rfl
   rename_i fields
   simp only
   cases fields[f]? with
   | none => rfl
   | some fd => simp only [FK]
 | _ =>
  simp only
  cases P.underlying t with
  | none => rfl
  | some d => cases d <;> rfl
def elemS (P : Program) (t : TypeId) : Option Nat := match P.underlying t with | some (.slice e) => szT P e | _ => none
def indexAddrQ (P : Program) (H : Trie Vo) (t : TypeId) (x i : VV) : Option VV :=
 match i with
 | .lit (.int _ (.ofNat a)) =>
  match elemS P t with
  | some n => match x with
   | .sl cs len _ => Bool.rec (motive := fun _ => Option VV) none (List.rec (motive := fun _ => Option VV) none (fun _ _ _ => some (.tp (dropQ (Nat.mul a n) cs))) cs) (Nat.blt a len)
   | .ref β off len _ _ => Bool.rec (motive := fun _ => Option VV) none (Bool.rec (motive := fun _ => Option VV) none (some (.ptr β (Nat.add off (Nat.mul a n)))) (someQ (getO H β))) (Nat.blt a len)
   | x => aH P H.get t x (.lit (.int .i64 (.ofNat a)))
  | none => aH P H.get t x i
 | i => aH P H.get t x i
theorem Wv (P : Program) (H : Trie Vo) (t : TypeId) (x i : VV) : indexAddrQ P H t x i = aH P H.get t x i := by
 unfold indexAddrQ
 split
 ·rename_i k a
  unfold elemS
  cases hu : P.underlying t with
  | none => simp only
  | some d =>
   cases d <;> try rfl
   rename_i e
   simp only
   cases hs : szT P e with
   | none => rfl
   | some n =>
    simp only
    cases x with
    | sl cs len full =>
     simp only [aH, hu, hs, wN]
     have e1 : (Int.ofNat a).toNat = a := rfl
     have e2 : (0 : Int) ≤ Int.ofNat a := Int.natCast_nonneg a
     have e3 : (Int.ofNat a < (len : Int)) ↔ a < len := Int.ofNat_lt
     cases cs with
     | nil =>
      have : ∀ b : Bool, Bool.rec (motive := fun _ => Option VV) none none b = none := fun b => by cases b <;> rfl
      simp [this]
     | cons y ys =>
      by_cases h : a < len
      ·have hb : Nat.blt a len = true := by simpa [Nat.blt_eq] using h
       rw [hb, if_pos ⟨e2, e3.2 h, by simp⟩, e1]
       rfl
      ·have hb : Nat.blt a len = false := by cases hq : Nat.blt a len with | false => rfl | true => exact absurd (by simpa [Nat.blt_eq] using hq) h
       rw [hb, if_neg (fun hh => h (e3.1 hh.2.1))]
    | ref β off len es cp =>
     simp only [aH, hu, hs, yE, tS]
     have e1 : (Int.ofNat a).toNat = a := rfl
     have e2 : (0 : Int) ≤ Int.ofNat a := Int.natCast_nonneg a
     have e3 : (Int.ofNat a < (len : Int)) ↔ a < len := Int.ofNat_lt
     by_cases h : a < len
     ·have hb : Nat.blt a len = true := by simpa [Nat.blt_eq] using h
      rw [hb]
      cases hi : (H.get β).isSome with
      | false => rw [if_neg (by simp)]
      | true => rw [if_pos ⟨e2, e3.2 h, rfl⟩, e1]; rfl
     ·have hb : Nat.blt a len = false := by cases hq : Nat.blt a len with | false => rfl | true => exact absurd (by simpa [Nat.blt_eq] using hq) h
      rw [hb, if_neg (fun hh => h (e3.1 hh.2.1))]
    | _ => rfl
 ·rfl
def lenQ (P : Program) (H : Trie Vo) (t : TypeId) (x : VV) : Option VV :=
 match P.underlying t with
 | some (.slice _) => match x with
  | .sl _ len _ => some (.lit (.int .i64 (.ofNat len)))
  | x => match sls H.get x with | some (_, len) => some (.lit (.int .i64 len)) | none => none
 | _ => vlen P H.get t x
theorem FO (P : Program) (H : Trie Vo) (t : TypeId) (x : VV) : lenQ P H t x = vlen P H.get t x := by
 unfold lenQ
 split
 ·rename_i hu
  unfold vlen
  rw [hu]
  cases x <;> rfl
 ·rfl
def boolV (v : Value) : Option Bool := Value.casesOn (motive_1 := fun _ => Option Bool) v (fun b => some b) (fun _ _ => none) (fun _ _ => none) (fun _ _ _ => none) (fun _ => none) (fun _ => none) (fun _ _ _ => none) (fun _ => none) (fun _ => none) (fun _ _ _ => none) none (fun _ _ => none) none (fun _ => none) (fun _ => none)
def boolQ (x : VV) : Option Bool := VV.casesOn (motive_1 := fun _ => Option Bool) x none (fun v => boolV v) (fun _ => none) (fun _ => none) (fun _ _ _ => none) (fun _ => none) (fun _ _ _ _ _ => none) (fun _ _ => none) (fun _ => none) (fun _ _ => none) (fun _ => none) (fun _ => none) (fun _ _ _ => none) (fun _ _ => none)
theorem yF {x : VV} {b : Bool} (h : boolQ x = some b) : x = .lit (.bool b) := by
 cases x <;> first | (cases h; done) | skip
 rename_i v
 cases v <;> first | (cases h; done) | skip
 cases h
 rfl
def tmQ (t : Trie VV) (n : Nat) : VV := Option.rec (motive := fun _ => VV) (.lit undef) (fun x => x) (getV t n)
theorem yG (t : Trie VV) (n : Nat) : tmQ t n = (t.get n).getD (.lit undef) := by
 unfold tmQ; rw [FP]; cases t.get n <;> rfl
def globQ (G : Gb) (g : Nat) : VV := match G g with
 | some cs => .tp cs
 | none => .lit (.pointer (some ⟨g, 0, none⟩))
def constQ (v : Value) : VV := match v with
 | .int k n => .lit (.int k n)
 | .bool b => .lit (.bool b)
 | v => ofVal v
theorem SD (v : Value) : constQ v = ofVal v := by cases v <;> rfl
def ρQ (G : Gb) (t : Trie VV) (y : Operand) : VV :=
 Operand.rec (motive := fun _ => VV) (fun n => tmQ t n) (fun v => constQ v) (fun g => globQ G g) (fun f => .fn (.func f) [] []) y
theorem ρQ_eq (G : Gb) (s : RS) : ρQ G s.tm = s.st.ρ G := by
 funext y
 cases y with
 | tmp n => exact yG s.tm n
 | const v => exact SD v
 | global g => rfl
 | func f => rfl
def q1 (x : Option VV) : Option (VV × Ve) := Option.rec (motive := fun _ => Option (VV × Ve)) none (fun y => some (y, .none)) x
theorem gP (x : Option VV) : q1 x = x.map fun y => (y, Ve.none) := by cases x <;> rfl
def pickQ (c a b : VV) : Option (VV × Ve) := match c with
 | .lit (.bool t) => some (Bool.rec (motive := fun _ => VV) b a t, .none)
 | _ => none
def binQ (P : Program) (H : Trie Vo) (op : BinOp) (t : TypeId) (x y : Operand) (a b : VV) : Option (VV × Ve) := match a with
 | .lit u => match b with
  | .lit v => match binQ2 P op t x y u v with
   | some w => some (constQ w, .none)
   | none => none
  | b => match b.val? with
   | some v => (vbin P op t x y u v).map fun v => (ofVal v, .none)
   | none => (vptrEq P H.get op t a b).map fun z => (z, .none)
 | a => match a.val?, b.val? with
  | some u, some v => (vbin P op t x y u v).map fun v => (ofVal v, .none)
  | _, _ => (vptrEq P H.get op t a b).map fun z => (z, .none)
def unQ (P : Program) (op : UnOp) (x : VV) : Option (VV × Ve) := match x.val? with
 | some a => (aA P (Op.unary op a)).map fun v => (ofVal v, .none)
 | none => none
def storeQ (P : Program) (H : Trie Vo) (t : TypeId) (a x : VV) : Option (VV × Ve) := match a with
 | .ptr β off => match H.get β, aW x, szT P t with
  | some (.cells el cs), some xs, some n => if xs.length = n ∧ off + n ≤ cs.length then some (.any, .upd β (.cells el (overwrite cs off xs))) else none
  | _, _, _ => none
 | _ => none
def nilQ (P : Program) (H : Trie Vo) (x : VV) : Option (VV × Ve) := match x with
 | .tp cs => some (.tp cs, .none)
 | .ptr β off => if (H.get β).isSome then some (.ptr β off, .none) else none
 | .fn (.func f) a b => some (.fn (.func f) a b, .none)
 | .fn (.method m) a b => if nilOkM P m a b then some (.fn (.method m) a b, .none) else none
 | .yl β => if (H.get β).isSome then some (.yl β, .none) else none
 | _ => none
def convQ (P : Program) (H : Trie Vo) (src dst : TypeId) (x : VV) : Option (VV × Ve) := match x.val? with
 | some a => (aA P (convert src dst a)).map fun v => (ofVal v, .none)
 | none => match vconv P H.get src dst x with
  | some y => some (y, .none)
  | none => (vptrConv P H.get src dst x).map fun y => (y, .none)
def mkIfcQ (P : Program) (t : TypeId) (x : VV) : Option (VV × Ve) := match P.underlying t with
 | some (.interface _) => none
 | some _ => some (.ifc t x, .none)
 | none => none
def rangeQ (P : Program) (γ : Nat) (t : TypeId) (x : VV) : Option (VV × Ve) := match P.underlying t, x with
 | some .string, .lit (.string s) => some (.it γ, .new (.stri s 0))
 | _, _ => none
def extractQ (x : VV) (i : Nat) : Option (VV × Ve) := match x with
 | .tup vs => q1 (headQ (dropQ i vs))
 | _ => none
def sliceQ (P : Program) (H : Trie Vo) (t : TypeId) (x : VV) (lo hi mx : Option VV) : Option (VV × Ve) :=
 match P.underlying t, x, mx with
 | some .string, .lit (.string s), none => (vstrSlice s lo hi).map fun y => (y, .none)
 | _, _, _ => match vslice P H.get t x lo hi mx with
  | some y => some (y, .none)
  | none => (vsliceX P H.get t x lo hi mx).map fun y => (y, .none)
def callQ (P : Program) (k : Call) (ρ : Operand → VV) (H : Trie Vo) (γ : Nat) : Option (VV × Ve) :=
 match k.callee with
 | .builtin .len => match k.args.toList, k.argTypes.toList with
  | [x], [t] => q1 (lenQ P H t (ρ x))
  | _, _ => vbuiltin P k ρ H.get γ
 | _ => vbuiltin P k ρ H.get γ
def boxQ (γ : Nat) (e : TypeId) (x : Option (List VV)) : Option (VV × Ve) := Option.rec (motive := fun _ => Option (VV × Ve)) none (fun cs => some (.ptr γ 0, .new (.cells (some e) cs))) x
def allocQ (P : Program) (γ : Nat) (e : TypeId) : Option (VV × Ve) := (vzero P e).map fun z => (.ptr γ 0, .new (.cells (some e) (z.toList.map ofVal1)))
def buildQ (P : Program) (t : TypeId) (parts : List (Nat × VV)) : Option (VV × Ve) := (vbuild P t parts).map fun y => (y, .none)
def buildSliceQ (P : Program) (γ : Nat) (t : TypeId) (len : Nat) (parts : List (Nat × VV)) : Option (VV × Ve) := (aq P t len parts).map fun p => (.ref γ 0 len p.2 len, .new (.cells (elemT P t) p.1))
def makeSliceQ (P : Program) (γ : Nat) (t : TypeId) (l k : VV) : Option (VV × Ve) := (vmakeSlice P t l k).map fun p => (.ref γ 0 p.2.1 p.2.2 p.2.1, .new (.cells (elemT P t) p.1))
def mapUpQ (P : Program) (H : Trie Vo) (t : TypeId) (m k x : VV) : Option (VV × Ve) := (vmapUpdate P H.get t m k x).map fun e => (.any, e)
def vopQ (P : Program) (o : Oper) (ρ : Operand → VV) (H : Trie Vo) (γ : Nat) : Option (VV × Ve) :=
 match o.op with
 | .move x => some (ρ x, .none)
 | .assign x => some (ρ x, .none)
 | .pick c a b => pickQ (ρ c) (ρ a) (ρ b)
 | .alloc e => allocQ P γ e
 | .box e x => boxQ γ e (aW (ρ x))
 | .build t parts => buildQ P t (parts.toList.map fun p => (p.1, ρ p.2))
 | .buildSlice t len parts => buildSliceQ P γ t len (parts.toList.map fun p => (p.1, ρ p.2))
 | .load t x => q1 (loadQ P H t (ρ x))
 | .store t a x => storeQ P H t (ρ a) (ρ x)
 | .nilCheck x => nilQ P H (ρ x)
 | .binOp op t x y _ => binQ P H op t x y (ρ x) (ρ y)
 | .unOp op _ x => unQ P op (ρ x)
 | .convert src dst x => convQ P H src dst (ρ x)
 | .makeInterface t x => mkIfcQ P t (ρ x)
 | .makeSlice t l k => makeSliceQ P γ t (ρ l) (ρ k)
 | .slice t x lo hi mx => sliceQ P H t (ρ x) (lo.map ρ) (hi.map ρ) (mx.map ρ)
 | .fieldAddr t x f => q1 (fieldAddrQ P H t (ρ x) f)
 | .field t x f => q1 (fieldQ P t (ρ x) f)
 | .indexAddr t x i => q1 (indexAddrQ P H t (ρ x) (ρ i))
 | .index t x i => q1 (vindex P t (ρ x) (ρ i))
 | .lookup t x k ok => q1 (vlookup P H.get t (ρ x) (ρ k) ok)
 | .mapUpdate t m k x => mapUpQ P H t (ρ m) (ρ k) (ρ x)
 | .range t x => rangeQ P γ t (ρ x)
 | .next it b => vnext H.get (ρ it) b
 | .typeAssert x _ a ok => q1 (vtypeAssert P (ρ x) a ok)
 | .extract t i => extractQ (ρ t) i
 | .call c => callQ P c ρ H γ
 | _ => vop P o ρ H.get γ
theorem yH (P : Program) (o : Oper) (ρ : Operand → VV) (H : Trie Vo) (γ : Nat) : vopQ P o ρ H γ = vop P o ρ H.get γ := by
 unfold vopQ
 cases hop : o.op <;> simp only <;> (try unfold vop) <;> simp only [hop]
 case pick c a b =>
  simp only [pickQ]
  cases ρ c <;> try rfl
  rename_i v
  cases v <;> try rfl
  rename_i t
  cases t <;> rfl
 case alloc => rfl
 case box => simp only [boxQ]; cases aW (ρ _) <;> rfl
 case build => rfl
 case buildSlice => rfl
 case load t x =>
  rw [gP, FM]
  cases tgt H.get (ρ x) <;> rfl
 case store => rfl
 case nilCheck => rfl
 case binOp op t x y _ =>
  simp only [binQ, FQ, SD]
  cases hx : ρ x with
  | lit u =>
   cases hy : ρ y with
   | lit v => simp only [VV.val?]; cases vbin P op t x y u v <;> rfl
   | _ =>
    rename_i hh
    simp only
    generalize VV.val? _ = q
    cases q <;> rfl
  | _ => rfl
 case unOp => rfl
 case convert => rfl
 case makeInterface => rfl
 case makeSlice => rfl
 case slice t x lo hi mx =>
  unfold sliceQ
  generalize ρ x = v
  cases P.underlying t with
  | none => rfl
  | some d => cases d <;> first | rfl | (cases v <;> first | rfl | (rename_i w; cases w <;> first | rfl | (cases mx <;> rfl)))
 case fieldAddr => rw [gP, Wu]
 case field => rw [gP, FN]
 case indexAddr => rw [gP, Wv]
 case index => rw [gP]
 case lookup => rw [gP]
 case mapUpdate => rfl
 case range => rfl
 case typeAssert => rw [gP]
 case extract t i =>
  simp only [extractQ]
  cases ρ t <;> try rfl
  simp only [gP, yD]
 case call c =>
  unfold callQ
  split
  ·rename_i hc
   split
   ·rename_i x t h1 h2
    rw [gP, FO]
    unfold vbuiltin
    simp only [hc, h1, h2]
   ·rfl
  ·rfl
end Go.V
end
