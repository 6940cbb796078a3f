/- Part of a proof. -/
import Derived.Test.YtmhlghgbfmcdaaaGreatDoorG4ag
set_option linter.all false
section
namespace Go.V
open Go
theorem jj (f : Nat → VV) (d : Nat) (x : VV) (i : Nat) : upd f d x i = if i = d then x else f i := rfl
theorem aF (H : Nat → Option VObj) (d : Nat) (o : VObj) (i : Nat) : updH H d o i = if i = d then some o else H i := rfl
theorem ba (H : Nat → Option VObj) (d i : Nat) : without H d i = if i = d then none else H i := rfl
def ev (G : Glob) (tm : Nat → VV) : Operand → VV
 | .tmp t => tm t
 | .const v => ofVal v
 | .global g => match G g with
  | some cs => .tp cs
  | none => .lit (.pointer (some ⟨g, 0, none⟩))
 | .func f => .fn (.func f) [] []
theorem ev_eq {G : Glob} {tm : Nat → VV} {H : Nat → Option VObj} {nx : Nat} {df : List VDef} : St.ρ G ⟨tm, H, nx, df⟩ = ev G tm := by
 funext y; cases y <;> rfl
def fin (d : Option Tmp) (γ : Nat) (tm : Nat → VV) (H : Nat → Option VObj) (nx : Nat) (df : List VDef) (K : St → Prop) (x : VV) : VEff → Prop
 | .none => match d with | some d => K ⟨upd tm d x, H, nx, df⟩ | none => K ⟨tm, H, nx, df⟩
 | .new o => match d with | some d => K ⟨upd tm d x, updH H γ o, nx, df⟩ | none => K ⟨tm, updH H γ o, nx, df⟩
 | .upd β o => match d with | some d => K ⟨upd tm d x, updH H β o, nx, df⟩ | none => K ⟨tm, updH H β o, nx, df⟩
 | .mv β el cs => match d with | some d => K ⟨upd tm d x, updH (without H β) γ (.cells el cs), nx, df⟩ | none => K ⟨tm, updH (without H β) γ (.cells el cs), nx, df⟩
 | .kill β => match d with | some d => K ⟨upd tm d x, without H β, nx, df⟩ | none => K ⟨tm, without H β, nx, df⟩
theorem dC {d : Option Tmp} {γ : Nat} {tm : Nat → VV} {H : Nat → Option VObj} {nx : Nat} {df : List VDef} {K : St → Prop} {x : VV} {eff : VEff} :
  K (aX ⟨tm, H, nx, df⟩ d x eff γ) = fin d γ tm H nx df K x eff := by
 cases d <;> cases eff <;> rfl
section
variable {P : Program} {G : Glob} {n : Nat} {γ : Nat} {tm : Nat → VV} {H : Nat → Option VObj} {nx : Nat} {df : List VDef} {K : St → Prop} {Qp : VV → St → Prop} {Q : VExit → St → Prop}
 {d : Option Tmp} {ty : TypeId} {pos : String} {af : Array Edge} {g : Option (Nat × Bool)} {l : List Oper}
theorem z3 {op : Op} {st : St} : stepK P G ⟨l⟩ γ ⟨d, op, ty, pos, af, none⟩ st K Qp = aN P G γ ⟨d, op, ty, pos, af, none⟩ st K Qp := by
 simp [stepK, aJ]
def guardK (x : VV) (w : Bool) (yes no : Prop) : Prop :=
 match x with
 | .lit (.bool b) => (b = w → yes) ∧ (b ≠ w → no)
 | .lit (.tuple _) => no
 | _ => False
theorem O9 {op : Op} {j : Nat} {w : Bool} {o' : Oper} {t : Tmp} (ho : l[j]? = some o') (hd : o'.dst = some t) : stepK P G ⟨l⟩ γ ⟨d, op, ty, pos, af, some (j, w)⟩ ⟨tm, H, nx, df⟩ K Qp =
  guardK (tm t) w (aN P G γ ⟨d, op, ty, pos, af, some (j, w)⟩ ⟨tm, H, nx, df⟩ K Qp) (fin d γ tm H nx df K (.lit undef) .none) := by
 have e : ((⟨l⟩ : Array Oper)[j]?).bind (·.dst) = some t := by simp [ho, hd]
 have e2 : ∀ st : St, K (st.put d (.lit undef)) = K (aX st d (.lit undef) .none γ) := fun st => by rw [fY]
 unfold stepK aJ
 simp only [e, e2, dC]
 unfold guardK
 cases htm : tm t with
 | lit v =>
  cases v with
  | bool b => cases b <;> cases w <;> simp
  | tuple a => simp
  | _ => simp
 | _ => simp
def oK (x : Option VV) (k : VV → Prop) : Prop := match x with | some y => k y | none => False
theorem z4 {y : VV} {k : VV → Prop} : oK (some y) k = k y := rfl
theorem z5 {k : VV → Prop} : oK none k = False := rfl
def oeK (x : Option (VV × VEff)) (k : VV → VEff → Prop) : Prop := match x with | some (y, e) => k y e | none => False
theorem z6 {y : VV} {e : VEff} {k : VV → VEff → Prop} : oeK (some (y, e)) k = k y e := rfl
theorem kJ {x : Option VV} {k : VV → VEff → Prop} : oeK (x.map fun y => (y, VEff.none)) k = oK x (fun y => k y .none) := by cases x <;> rfl
theorem sN {α : Type} {x : Option α} {f : α → VV} {k : VV → VEff → Prop} : oeK (x.map fun y => (f y, VEff.none)) k = oK (x.map f) (fun y => k y .none) := by cases x <;> rfl
def gK (t : Option Tmp) (tm : Nat → VV) (w : Bool) (yes no : Prop) : Prop := match t with
 | none => no
 | some t => guardK (tm t) w yes no
theorem z7 {t : Tmp} {w : Bool} {a b : Prop} : gK (some t) tm w a b = guardK (tm t) w a b := rfl
theorem z8 {op : Op} {j : Nat} {w : Bool} : stepK P G ⟨l⟩ γ ⟨d, op, ty, pos, af, some (j, w)⟩ ⟨tm, H, nx, df⟩ K Qp =
  gK ((l[j]?).bind (·.dst)) tm w (aN P G γ ⟨d, op, ty, pos, af, some (j, w)⟩ ⟨tm, H, nx, df⟩ K Qp) (fin d γ tm H nx df K (.lit undef) .none) := by
 cases ho : l[j]? with
 | none =>
  have e2 : ∀ st : St, K (st.put d (.lit undef)) = K (aX st d (.lit undef) .none γ) := fun st => by rw [fY]
  simp [stepK, aJ, ho, gK, e2, dC]
 | some o' =>
  cases hd : o'.dst with
  | none =>
   have e2 : ∀ st : St, K (st.put d (.lit undef)) = K (aX st d (.lit undef) .none γ) := fun st => by rw [fY]
   simp [stepK, aJ, ho, hd, gK, e2, dC]
  | some t => rw [O9 ho hd]; simp [hd, gK]
theorem eN {op : Op} (h : ∀ k, op ≠ .call k) (h' : ∀ x, op ≠ .panic x) (h'' : ∀ k, op ≠ .defer k) :
  aN P G γ ⟨d, op, ty, pos, af, g⟩ ⟨tm, H, nx, df⟩ K Qp = oeK (vop P ⟨d, op, ty, pos, af, g⟩ (ev G tm) H γ) (fun x eff => fin d γ tm H nx df K x eff) := by
 unfold aN
 cases op <;> first | exact absurd rfl (h _) | exact absurd rfl (h' _) | exact absurd rfl (h'' _) | (simp only [opK, ev_eq, dC, oeK]; rfl)
theorem z9 {x : Operand} : aN P G γ ⟨d, .move x, ty, pos, af, g⟩ ⟨tm, H, nx, df⟩ K Qp = fin d γ tm H nx df K (ev G tm x) .none := by
 rw [eN (by simp) (by simp) (by simp)]; rfl
theorem OA {x : Operand} : aN P G γ ⟨d, .assign x, ty, pos, af, g⟩ ⟨tm, H, nx, df⟩ K Qp = fin d γ tm H nx df K (ev G tm x) .none := by
 rw [eN (by simp) (by simp) (by simp)]; rfl
def pickK (c : VV) (a b : VV) (k : VV → Prop) : Prop := match c with
 | .lit (.bool t) => (t = true → k a) ∧ (t = false → k b)
 | _ => False
theorem zA {c a b : Operand} : aN P G γ ⟨d, .pick c a b, ty, pos, af, g⟩ ⟨tm, H, nx, df⟩ K Qp = pickK (ev G tm c) (ev G tm a) (ev G tm b) (fun x => fin d γ tm H nx df K x .none) := by
 rw [eN (by simp) (by simp) (by simp)]
 simp only [vop, pickK, oeK]
 cases ev G tm c with
 | lit v => cases v <;> first | rfl | (rename_i t; cases t <;> simp)
 | _ => rfl
theorem zB {t : TypeId} {x : Operand} : aN P G γ ⟨d, .load t x, ty, pos, af, g⟩ ⟨tm, H, nx, df⟩ K Qp = oK ((tgt H (ev G tm x)).bind (aD P t)) (fun x => fin d γ tm H nx df K x .none) := by
 rw [eN (by simp) (by simp) (by simp)]
 simp only [vop]
 cases tgt H (ev G tm x) with
 | none => rfl
 | some cs => simp only [Option.bind_some]; exact kJ
theorem OB {t f : Nat} {x : Operand} : aN P G γ ⟨d, .fieldAddr t x f, ty, pos, af, g⟩ ⟨tm, H, nx, df⟩ K Qp = oK (ak P H t (ev G tm x) f) (fun x => fin d γ tm H nx df K x .none) := by
 rw [eN (by simp) (by simp) (by simp)]; simp only [vop]; exact kJ
theorem zC {t f : Nat} {x : Operand} : aN P G γ ⟨d, .field t x f, ty, pos, af, g⟩ ⟨tm, H, nx, df⟩ K Qp = oK (aV P t (ev G tm x) f) (fun x => fin d γ tm H nx df K x .none) := by
 rw [eN (by simp) (by simp) (by simp)]; simp only [vop]; exact kJ
theorem OC {t : Nat} {x i : Operand} : aN P G γ ⟨d, .indexAddr t x i, ty, pos, af, g⟩ ⟨tm, H, nx, df⟩ K Qp = oK (aA P H t (ev G tm x) (ev G tm i)) (fun x => fin d γ tm H nx df K x .none) := by
 rw [eN (by simp) (by simp) (by simp)]; simp only [vop]; exact kJ
theorem KC {t : Nat} {x i : Operand} : aN P G γ ⟨d, .index t x i, ty, pos, af, g⟩ ⟨tm, H, nx, df⟩ K Qp = oK (vindex P t (ev G tm x) (ev G tm i)) (fun x => fin d γ tm H nx df K x .none) := by
 rw [eN (by simp) (by simp) (by simp)]; simp only [vop]; exact kJ
def binV (P : Program) (H : Nat → Option VObj) (op : BinOp) (t : TypeId) (x y : Operand) (a b : VV) : Option VV :=
 match a.val?, b.val? with
 | some a, some b => (vbin P op t x y a b).map ofVal
 | _, _ => vptrEq P H op t a b
theorem zD {op : BinOp} {t u : TypeId} {x y : Operand} : aN P G γ ⟨d, .binOp op t x y u, ty, pos, af, g⟩ ⟨tm, H, nx, df⟩ K Qp = oK (binV P H op t x y (ev G tm x) (ev G tm y)) (fun x => fin d γ tm H nx df K x .none) := by
 rw [eN (by simp) (by simp) (by simp)]
 simp only [vop, binV]
 cases (ev G tm x).val? with
 | none => simp only []; cases vptrEq P H op t (ev G tm x) (ev G tm y) <;> rfl
 | some a => cases (ev G tm y).val? with
  | none => simp only []; cases vptrEq P H op t (ev G tm x) (ev G tm y) <;> rfl
  | some b => exact sN
def unV (P : Program) (op : UnOp) (a : VV) : Option VV := match a.val? with | some a => (aC P (Op.unary op a)).map ofVal | none => none
theorem zE {op : UnOp} {t : TypeId} {x : Operand} : aN P G γ ⟨d, .unOp op t x, ty, pos, af, g⟩ ⟨tm, H, nx, df⟩ K Qp = oK (unV P op (ev G tm x)) (fun x => fin d γ tm H nx df K x .none) := by
 rw [eN (by simp) (by simp) (by simp)]
 simp only [vop, unV]
 cases (ev G tm x).val? with
 | none => rfl
 | some a => exact sN
theorem zF {t : TypeId} : aN P G γ ⟨d, .alloc t, ty, pos, af, g⟩ ⟨tm, H, nx, df⟩ K Qp = (match vzero P t with | some z => fin d γ tm H nx df K (.ptr γ 0) (.new (.cells (some t) (z.toList.map ofVal1))) | none => False) := by
 rw [eN (by simp) (by simp) (by simp)]; simp only [vop]; cases vzero P t <;> rfl
theorem zG {t : TypeId} {x : Operand} : aN P G γ ⟨d, .box t x, ty, pos, af, g⟩ ⟨tm, H, nx, df⟩ K Qp = (match aT (ev G tm x) with | some cs => fin d γ tm H nx df K (.ptr γ 0) (.new (.cells (some t) cs)) | none => False) := by
 rw [eN (by simp) (by simp) (by simp)]; simp only [vop]; cases aT (ev G tm x) <;> rfl
theorem zH {t : TypeId} {ps : Array (Nat × Operand)} : aN P G γ ⟨d, .build t ps, ty, pos, af, g⟩ ⟨tm, H, nx, df⟩ K Qp = oK (vbuild P t (ps.toList.map fun p => (p.1, ev G tm p.2))) (fun x => fin d γ tm H nx df K x .none) := by
 rw [eN (by simp) (by simp) (by simp)]; simp only [vop]; exact kJ
theorem OD {t k : Nat} {ps : Array (Nat × Operand)} : aN P G γ ⟨d, .buildSlice t k ps, ty, pos, af, g⟩ ⟨tm, H, nx, df⟩ K Qp =
  (match av P t k (ps.toList.map fun p => (p.1, ev G tm p.2)) with | some p => fin d γ tm H nx df K (.ref γ 0 k p.2 k) (.new (.cells (elemT P t) p.1)) | none => False) := by
 rw [eN (by simp) (by simp) (by simp)]; simp only [vop]; cases av P t k (ps.toList.map fun p => (p.1, ev G tm p.2)) <;> rfl
theorem zI {t : TypeId} {a x : Operand} : aN P G γ ⟨d, .store t a x, ty, pos, af, g⟩ ⟨tm, H, nx, df⟩ K Qp = oeK (vop P ⟨d, .store t a x, ty, pos, af, g⟩ (ev G tm) H γ) (fun x e => fin d γ tm H nx df K x e) := by
 rw [eN (by simp) (by simp) (by simp)]
theorem OE {t : Operand} {i : Nat} : aN P G γ ⟨d, .extract t i, ty, pos, af, g⟩ ⟨tm, H, nx, df⟩ K Qp = (match ev G tm t with | .tup vs => oK (vs[i]?) (fun x => fin d γ tm H nx df K x .none) | _ => False) := by
 rw [eN (by simp) (by simp) (by simp)]
 simp only [vop]
 cases ev G tm t <;> try rfl
 exact kJ
theorem zJ {t : TypeId} {x : Operand} {lo hi mx : Option Operand} : aN P G γ ⟨d, .slice t x lo hi mx, ty, pos, af, g⟩ ⟨tm, H, nx, df⟩ K Qp = oeK (vop P ⟨d, .slice t x lo hi mx, ty, pos, af, g⟩ (ev G tm) H γ) (fun x e => fin d γ tm H nx df K x e) := by
 rw [eN (by simp) (by simp) (by simp)]
theorem OF {t : TypeId} {x y : Operand} : aN P G γ ⟨d, .makeSlice t x y, ty, pos, af, g⟩ ⟨tm, H, nx, df⟩ K Qp = oeK (vop P ⟨d, .makeSlice t x y, ty, pos, af, g⟩ (ev G tm) H γ) (fun x e => fin d γ tm H nx df K x e) := by
 rw [eN (by simp) (by simp) (by simp)]
theorem w7 {b : Builtin} {as : Array Operand} {ats : Array TypeId} : aN P G γ ⟨d, .call ⟨.builtin b, as, ats⟩, ty, pos, af, g⟩ ⟨tm, H, nx, df⟩ K Qp = oeK (vbuiltin P ⟨.builtin b, as, ats⟩ (ev G tm) H γ) (fun x e => fin d γ tm H nx df K x e) := by
 simp only [aN, opK, vop, ev_eq, oeK, dC]
 rfl
theorem zK {t : TypeId} {x : Operand} : aN P G γ ⟨d, .call ⟨.builtin .len, #[x], #[t]⟩, ty, pos, af, g⟩ ⟨tm, H, nx, df⟩ K Qp = oK (vlen P H t (ev G tm x)) (fun x => fin d γ tm H nx df K x .none) := by
 rw [w7]; exact kJ
theorem OG {t t2 : TypeId} {x y : Operand} : aN P G γ ⟨d, .call ⟨.builtin .append, #[x, y], #[t, t2]⟩, ty, pos, af, g⟩ ⟨tm, H, nx, df⟩ K Qp = oeK (aQ P H γ t t2 (ev G tm x) (ev G tm y)) (fun x e => fin d γ tm H nx df K x e) := by
 rw [w7]; rfl
theorem zL {f : Nat} {as : Array Operand} {ats : Array TypeId} : aN P G γ ⟨d, .call ⟨.value (.func f), as, ats⟩, ty, pos, af, g⟩ ⟨tm, H, nx, df⟩ K Qp = callK P G f (as.toList.map (ev G tm)) ⟨tm, H, nx, df⟩ d γ K Qp := by
 simp only [aN, ev_eq, ev, List.nil_append, List.append_nil]
theorem ktree {f : FuncId} {args args0 : List VV} {x : VV} (hn : normL args = args0) (ht : treeL args = true) (hp : aj P G f args0 (.tree x)) (h : fin d γ tm H nx df K x .none) : callK P G f args ⟨tm, H, nx, df⟩ d γ K Qp := by
 subst hn
 refine .inl ⟨ht, .tree x, hp.norm, ?_⟩
 rw [← dC (K := K), fY] at h
 exact h
theorem kseen {f : FuncId} {args args0 : List VV} {x : VV} (hn : normL (args.map (showV H 3)) = args0) (ht : treeL (args.map (showV H 3)) = true) (hp : aj P G f args0 (.tree x)) (hf : x.flat = true) (h : fin d γ tm H nx df K x .none) : callK P G f args ⟨tm, H, nx, df⟩ d γ K Qp := by
 subst hn
 refine .inr (.inl ⟨ht, .tree x, hp.norm, hf, ?_⟩)
 rw [← dC (K := K), fY] at h
 exact h
theorem kown {f : FuncId} {args args0 cs : List VV} {len es : Nat} (hn : normL args = args0) (ht : treeL args = true) (hp : aj P G f args0 (.own cs len es)) (h : fin d γ tm H nx df K (.ref γ 0 len es len) (.new (.cells none cs))) : callK P G f args ⟨tm, H, nx, df⟩ d γ K Qp := by
 subst hn
 refine .inl ⟨ht, .own cs len es, hp.norm, ?_⟩
 rw [← dC (K := K)] at h
 exact h
theorem kopen {f : FuncId} {args : List VV} {st : St} (h : openK P G f args st d K Qp) : callK P G f args st d γ K Qp := .inr (.inr h)
theorem lv {f : FuncId} {args : List VV} : openK P G f args ⟨tm, H, nx, df⟩ d K Qp = aq P G f args H nx (fun x H' nx' => match d with | some d => K ⟨upd tm d x, H', nx', df⟩ | none => K ⟨tm, H', nx', df⟩) (fun x H' nx' => Qp x ⟨tm, H', nx', df⟩) := by
 cases d <;> rfl
theorem KD : treeL [] = true := rfl
theorem zM {x : VV} {xs : List VV} : treeL (x :: xs) = (x.tree && treeL xs) := rfl
theorem zN {v : Value} : (VV.lit v).tree = true := rfl
theorem KE {cs : List VV} : (VV.agg cs).tree = treeL cs := rfl
theorem sO {cs : List VV} : (VV.tup cs).tree = treeL cs := rfl
theorem sP {cs : List VV} {k : Nat} {b : Bool} : (VV.sl cs k b).tree = treeL cs := rfl
theorem zO {t : Nat} {x : VV} : fin (some t) γ tm H nx df K x .none = K ⟨upd tm t x, H, nx, df⟩ := rfl
theorem zP {t : Nat} {x : VV} {o : VObj} : fin (some t) γ tm H nx df K x (.new o) = K ⟨upd tm t x, updH H γ o, nx, df⟩ := rfl
theorem zQ {x : VV} {β : Nat} {o : VObj} : fin none γ tm H nx df K x (.upd β o) = K ⟨tm, updH H β o, nx, df⟩ := rfl
theorem zR {t : Nat} {x : VV} {β : Nat} {el : Option TypeId} {cs : List VV} : fin (some t) γ tm H nx df K x (.mv β el cs) = K ⟨upd tm t x, updH (without H β) γ (.cells el cs), nx, df⟩ := rfl
theorem zS {ops : Array Oper} {base i : Nat} {st : St} : seqK P G ops base Q i [] st = Q .normal st := rfl
theorem zT {ops : Array Oper} {base i : Nat} {o : Oper} {st : St} : seqK P G ops base Q i (o :: l) st = stepK P G ops (base + i) o st (seqK P G ops base Q (i + 1) l) (fun x st' => Q (.panic x) st') := rfl
theorem zU {a b : Code} {st : St} : CWp P G n (.seq a b) Q st = CWp P G n a (VExit.then (CWp P G n b Q) Q) st := rfl
theorem zV {st : St} : CWp P G n .skip Q st = Q .normal st := rfl
theorem zW {id : Nat} {st : St} : CWp P G n (.exit id) Q st = Q (.exit id) st := rfl
theorem zX {st : St} : CWp P G n .ret Q st = Q .ret st := rfl
theorem zY {id : Nat} {a : Code} {st : St} : CWp P G n (.block id a) Q st = CWp P G n a (VExit.inBlock id Q) st := rfl
def condK (x : VV) (a b : Prop) : Prop := match x with
 | .lit (.bool t) => (t = true → a) ∧ (t = false → b)
 | _ => False
theorem zZ {c : Operand} {a b : Code} : CWp P G n (.cond c a b) Q ⟨tm, H, nx, df⟩ = condK (ev G tm c) (CWp P G n a Q ⟨tm, H, nx, df⟩) (CWp P G n b Q ⟨tm, H, nx, df⟩) := by
 simp only [CWp, ev_eq, condK]
 rfl
theorem Aa {id : Nat} : CWp P G n (.region id ⟨l⟩ false) Q ⟨tm, H, nx, df⟩ = seqK P G ⟨l⟩ nx Q 0 l ⟨tm, H, nx + l.length, df⟩ := rfl
theorem OH {next : St → Prop} {st : St} : VExit.then next Q .normal st = next st := rfl
theorem Ab {next : St → Prop} {id : Nat} {st : St} : VExit.then next Q (.exit id) st = Q (.exit id) st := rfl
theorem Ac {next : St → Prop} {st : St} : VExit.then next Q .ret st = Q .ret st := rfl
theorem OI {next : St → Prop} {x : VV} {st : St} : VExit.then next Q (.panic x) st = Q (.panic x) st := rfl
theorem OJ {id : Nat} {st : St} : VExit.inBlock id Q .normal st = Q .normal st := rfl
theorem Ad {id : Nat} {st : St} : VExit.inBlock id Q .ret st = Q .ret st := rfl
theorem Ae {id id' : Nat} {st : St} : VExit.inBlock id Q (.exit id') st = if id' = id then Q .normal st else Q (.exit id') st := rfl
theorem OK {id : Nat} {x : VV} {st : St} : VExit.inBlock id Q (.panic x) st = Q (.panic x) st := rfl
theorem OL {w : Bool} {a b : Prop} {v : Array Value} : guardK (.lit (.tuple v)) w a b = b := rfl
theorem jA {t : Tmp} : ev G tm (.tmp t) = tm t := rfl
theorem oc {k : IntKind} {i : Int} : ev G tm (.const (.int k i)) = .lit (.int k i) := rfl
theorem Af {b : Bool} : ev G tm (.const (.bool b)) = .lit (.bool b) := rfl
theorem Ag {s : ByteArray} : ev G tm (.const (.string s)) = .lit (.string s) := rfl
theorem OM : ev G tm (.const (.slice none 0 0)) = .lit (.slice none 0 0) := rfl
theorem jB {f : FuncId} : ev G tm (.func f) = .fn (.func f) [] [] := rfl
theorem Ah {k : IntKind} {t : TypeId} {x y : Operand} {a b : Int} : binV P H .lss t x y (.lit (.int k a)) (.lit (.int k b)) = some (.lit (.bool (decide (a < b)))) := by simp [binV, VV.val?, vbin, ofVal, ofVal2, ofVal1]
theorem Ai {k : IntKind} {t : TypeId} {x y : Operand} {a b : Int} : binV P H .leq t x y (.lit (.int k a)) (.lit (.int k b)) = some (.lit (.bool (decide (a ≤ b)))) := by simp [binV, VV.val?, vbin, ofVal, ofVal2, ofVal1]
theorem Aj {k : IntKind} {t : TypeId} {x y : Operand} {a b : Int} : binV P H .gtr t x y (.lit (.int k a)) (.lit (.int k b)) = some (.lit (.bool (decide (a > b)))) := by simp [binV, VV.val?, vbin, ofVal, ofVal2, ofVal1]
theorem Ak {k : IntKind} {t : TypeId} {x y : Operand} {a b : Int} : binV P H .geq t x y (.lit (.int k a)) (.lit (.int k b)) = some (.lit (.bool (decide (a ≥ b)))) := by simp [binV, VV.val?, vbin, ofVal, ofVal2, ofVal1]
theorem Al {k : IntKind} {t : TypeId} {x y : Operand} {a b : Int} : binV P H .eql t x y (.lit (.int k a)) (.lit (.int k b)) = some (.lit (.bool (a == b))) := by simp [binV, VV.val?, vbin, ofVal, ofVal2, ofVal1]
theorem Am {k : IntKind} {t : TypeId} {x y : Operand} {a b : Int} : binV P H .neq t x y (.lit (.int k a)) (.lit (.int k b)) = some (.lit (.bool (a != b))) := by simp [binV, VV.val?, vbin, ofVal, ofVal2, ofVal1]
theorem An {k : IntKind} {t : TypeId} {x y : Operand} {a b : Int} : binV P H .add t x y (.lit (.int k a)) (.lit (.int k b)) = some (.lit (.int k (k.wrap (a + b)))) := by simp [binV, VV.val?, vbin, ofVal, ofVal2, ofVal1]
theorem Ao {k : IntKind} {t : TypeId} {x y : Operand} {a b : Int} : binV P H .sub t x y (.lit (.int k a)) (.lit (.int k b)) = some (.lit (.int k (k.wrap (a - b)))) := by simp [binV, VV.val?, vbin, ofVal, ofVal2, ofVal1]
theorem Ap {k : IntKind} {t : TypeId} {x y : Operand} {a b : Int} : binV P H .mul t x y (.lit (.int k a)) (.lit (.int k b)) = some (.lit (.int k (k.wrap (a * b)))) := by simp [binV, VV.val?, vbin, ofVal, ofVal2, ofVal1]
theorem Aq {b : Bool} : unV P .not (.lit (.bool b)) = some (.lit (.bool (!b))) := by simp [unV, VV.val?, Op.unary, fX, ofVal, ofVal2, ofVal1]
@[congr] theorem ON {x x' : Option VV} {k : VV → Prop} (h : x = x') : oK x k = oK x' k := by rw [h]
@[congr] theorem OO {x x' : Option (VV × VEff)} {k : VV → VEff → Prop} (h : x = x') : oeK x k = oeK x' k := by rw [h]
@[congr] theorem OP {code : Code} {st st' : St} (h : st = st') : CWp P G n code Q st = CWp P G n code Q st' := by rw [h]
@[congr] theorem OQ {ops : Array Oper} {base i : Nat} {st st' : St} (h : st = st') : seqK P G ops base Q i l st = seqK P G ops base Q i l st' := by rw [h]
@[congr] theorem OR {ops : Array Oper} {o : Oper} {st st' : St} (h : st = st') : stepK P G ops γ o st K Qp = stepK P G ops γ o st' K Qp := by rw [h]
@[congr] theorem OS {o : Oper} {st st' : St} (h : st = st') : aN P G γ o st K Qp = aN P G γ o st' K Qp := by rw [h]
@[congr] theorem OT {x x' : VV} {e e' : VEff} (h : x = x') (h2 : e = e') : fin d γ tm H nx df K x e = fin d γ tm H nx df K x' e' := by rw [h, h2]
@[congr] theorem OU {t t' : Option Tmp} {w : Bool} {a b : Prop} (h : t = t') : gK t tm w a b = gK t' tm w a b := by rw [h]
@[congr] theorem OV {x x' : VV} {w : Bool} {a b : Prop} (h : x = x') : guardK x w a b = guardK x' w a b := by rw [h]
@[congr] theorem OW {x x' : VV} {a b : Prop} (h : x = x') : condK x a b = condK x' a b := by rw [h]
@[congr] theorem OX {c c' a b : VV} {k : VV → Prop} (h : c = c') : pickK c a b k = pickK c' a b k := by rw [h]
@[congr] theorem OY {f : FuncId} {args args' : List VV} {st : St} (h : args = args') : callK P G f args st d γ K Qp = callK P G f args' st d γ K Qp := by rw [h]
theorem argsTm1 {a : VV} : aS [a] = upd (fun _ => .lit undef) 0 a := by
 funext t; rcases t with _ | t <;> simp [aS, upd]
theorem argsTm2 {a b : VV} : aS [a, b] = upd (upd (fun _ => .lit undef) 0 a) 1 b := by
 funext t; rcases t with _ | _ | t <;> simp [aS, upd]
theorem argsTm3 {a b c : VV} : aS [a, b, c] = upd (upd (upd (fun _ => .lit undef) 0 a) 1 b) 2 c := by
 funext t; rcases t with _ | _ | _ | t <;> simp [aS, upd]
theorem argsTm4 {a b c e : VV} : aS [a, b, c, e] = upd (upd (upd (upd (fun _ => .lit undef) 0 a) 1 b) 2 c) 3 e := by
 funext t; rcases t with _ | _ | _ | _ | t <;> simp [aS, upd]
theorem argsTm5 {a b c e f : VV} : aS [a, b, c, e, f] = upd (upd (upd (upd (upd (fun _ => .lit undef) 0 a) 1 b) 2 c) 3 e) 4 f := by
 funext t; rcases t with _ | _ | _ | _ | _ | t <;> simp [aS, upd]
end
end Go.V
end
