/- Part of a proof. -/
import Derived.Test.YtmhlghgbfmcdaaaGreatDoorG7ag
set_option linter.all false
section
namespace Go.V
open Go
theorem qO (f : Nat → VV) (d : Nat) (x : VV) (i : Nat) : upd f d x i = if i = d then x else f i := rfl
theorem aU (H : Nat → Option VObj) (d : Nat) (o : VObj) (i : Nat) : updH H d o i = if i = d then some o else H i := rfl
theorem bg (H : Nat → Option VObj) (d i : Nat) : without H d i = if i = d then none else H i := rfl
def ev (G : Glob) (tm : Nat → VV) : Operand → VV
 | .tmp t => tm t
 | .const v => ofVal v
 | .global g => match G g with
  | some cs => .tp cs
  | none => .lit (.pointer (some ⟨g, 0, none⟩))
 | .func f => .fn (.func f) [] []
theorem ev_eq {G : Glob} {tm : Nat → VV} {H : Nat → Option VObj} {nx : Nat} {df : List VDef} : St.ρ G ⟨tm, H, nx, df⟩ = ev G tm := by
 funext y; cases y <;> rfl
def fin (d : Option Tmp) (γ : Nat) (tm : Nat → VV) (H : Nat → Option VObj) (nx : Nat) (df : List VDef) (K : St → Prop) (x : VV) : VEff → Prop
 | .none => match d with | some d => K ⟨upd tm d x, H, nx, df⟩ | none => K ⟨tm, H, nx, df⟩
 | .new o => match d with | some d => K ⟨upd tm d x, updH H γ o, nx, df⟩ | none => K ⟨tm, updH H γ o, nx, df⟩
 | .upd β o => match d with | some d => K ⟨upd tm d x, updH H β o, nx, df⟩ | none => K ⟨tm, updH H β o, nx, df⟩
 | .mv β el cs => match d with | some d => K ⟨upd tm d x, updH (without H β) γ (.cells el cs), nx, df⟩ | none => K ⟨tm, updH (without H β) γ (.cells el cs), nx, df⟩
 | .kill β => match d with | some d => K ⟨upd tm d x, without H β, nx, df⟩ | none => K ⟨tm, without H β, nx, df⟩
theorem cR {d : Option Tmp} {γ : Nat} {tm : Nat → VV} {H : Nat → Option VObj} {nx : Nat} {df : List VDef} {K : St → Prop} {x : VV} {eff : VEff} :
  K (aS ⟨tm, H, nx, df⟩ d x eff γ) = fin d γ tm H nx df K x eff := by
 cases d <;> cases eff <;> rfl
section
variable {P : Program} {G : Glob} {n : Nat} {γ : Nat} {tm : Nat → VV} {H : Nat → Option VObj} {nx : Nat} {df : List VDef} {K : St → Prop} {Qp : VV → St → Prop} {Q : VExit → St → Prop}
 {d : Option Tmp} {ty : TypeId} {pos : String} {af : Array Edge} {g : Option (Nat × Bool)} {l : List Oper}
theorem Dg {op : Op} {st : St} : stepK P G ⟨l⟩ γ ⟨d, op, ty, pos, af, none⟩ st K Qp = aK P G γ ⟨d, op, ty, pos, af, none⟩ st K Qp := by
 simp [stepK, aG]
def guardK (x : VV) (w : Bool) (yes no : Prop) : Prop :=
 match x with
 | .lit (.bool b) => (b = w → yes) ∧ (b ≠ w → no)
 | .lit (.tuple _) => no
 | _ => False
theorem Qx {op : Op} {j : Nat} {w : Bool} {o' : Oper} {t : Tmp} (ho : l[j]? = some o') (hd : o'.dst = some t) : stepK P G ⟨l⟩ γ ⟨d, op, ty, pos, af, some (j, w)⟩ ⟨tm, H, nx, df⟩ K Qp =
  guardK (tm t) w (aK P G γ ⟨d, op, ty, pos, af, some (j, w)⟩ ⟨tm, H, nx, df⟩ K Qp) (fin d γ tm H nx df K (.lit undef) .none) := by
 have e : ((⟨l⟩ : Array Oper)[j]?).bind (·.dst) = some t := by simp [ho, hd]
 have e2 : ∀ st : St, K (st.put d (.lit undef)) = K (aS st d (.lit undef) .none γ) := fun st => by rw [fh]
 unfold stepK aG
 simp only [e, e2, cR]
 unfold guardK
 cases htm : tm t with
 | lit v =>
  cases v with
  | bool b => cases b <;> cases w <;> simp
  | tuple a => simp
  | _ => simp
 | _ => simp
def oK (x : Option VV) (k : VV → Prop) : Prop := match x with | some y => k y | none => False
theorem Dy {y : VV} {k : VV → Prop} : oK (some y) k = k y := rfl
theorem DN {k : VV → Prop} : oK none k = False := rfl
def oeK (x : Option (VV × VEff)) (k : VV → VEff → Prop) : Prop := match x with | some (y, e) => k y e | none => False
theorem Dz {y : VV} {e : VEff} {k : VV → VEff → Prop} : oeK (some (y, e)) k = k y e := rfl
theorem lD {x : Option VV} {k : VV → VEff → Prop} : oeK (x.map fun y => (y, VEff.none)) k = oK x (fun y => k y .none) := by cases x <;> rfl
theorem uX {α : Type} {x : Option α} {f : α → VV} {k : VV → VEff → Prop} : oeK (x.map fun y => (f y, VEff.none)) k = oK (x.map f) (fun y => k y .none) := by cases x <;> rfl
def gK (t : Option Tmp) (tm : Nat → VV) (w : Bool) (yes no : Prop) : Prop := match t with
 | none => no
 | some t => guardK (tm t) w yes no
theorem Di {t : Tmp} {w : Bool} {a b : Prop} : gK (some t) tm w a b = guardK (tm t) w a b := rfl
theorem Dh {op : Op} {j : Nat} {w : Bool} : stepK P G ⟨l⟩ γ ⟨d, op, ty, pos, af, some (j, w)⟩ ⟨tm, H, nx, df⟩ K Qp =
  gK ((l[j]?).bind (·.dst)) tm w (aK P G γ ⟨d, op, ty, pos, af, some (j, w)⟩ ⟨tm, H, nx, df⟩ K Qp) (fin d γ tm H nx df K (.lit undef) .none) := by
 cases ho : l[j]? with
 | none =>
  have e2 : ∀ st : St, K (st.put d (.lit undef)) = K (aS st d (.lit undef) .none γ) := fun st => by rw [fh]
  simp [stepK, aG, ho, gK, e2, cR]
 | some o' =>
  cases hd : o'.dst with
  | none =>
   have e2 : ∀ st : St, K (st.put d (.lit undef)) = K (aS st d (.lit undef) .none γ) := fun st => by rw [fh]
   simp [stepK, aG, ho, hd, gK, e2, cR]
  | some t => rw [Qx ho hd]; simp [hd, gK]
theorem dE {op : Op} (h : ∀ k, op ≠ .call k) (h' : ∀ x, op ≠ .panic x) (h'' : ∀ k, op ≠ .defer k) :
  aK P G γ ⟨d, op, ty, pos, af, g⟩ ⟨tm, H, nx, df⟩ K Qp = oeK (vop P ⟨d, op, ty, pos, af, g⟩ (ev G tm) H γ) (fun x eff => fin d γ tm H nx df K x eff) := by
 unfold aK
 cases op <;> first | exact absurd rfl (h _) | exact absurd rfl (h' _) | exact absurd rfl (h'' _) | (simp only [opK, ev_eq, cR, oeK]; rfl)
theorem Dj {x : Operand} : aK P G γ ⟨d, .move x, ty, pos, af, g⟩ ⟨tm, H, nx, df⟩ K Qp = fin d γ tm H nx df K (ev G tm x) .none := by
 rw [dE (by simp) (by simp) (by simp)]; rfl
theorem P7 {x : Operand} : aK P G γ ⟨d, .assign x, ty, pos, af, g⟩ ⟨tm, H, nx, df⟩ K Qp = fin d γ tm H nx df K (ev G tm x) .none := by
 rw [dE (by simp) (by simp) (by simp)]; rfl
def pickK (c : VV) (a b : VV) (k : VV → Prop) : Prop := match c with
 | .lit (.bool t) => (t = true → k a) ∧ (t = false → k b)
 | _ => False
theorem Dm {c a b : Operand} : aK P G γ ⟨d, .pick c a b, ty, pos, af, g⟩ ⟨tm, H, nx, df⟩ K Qp = pickK (ev G tm c) (ev G tm a) (ev G tm b) (fun x => fin d γ tm H nx df K x .none) := by
 rw [dE (by simp) (by simp) (by simp)]
 simp only [vop, pickK, oeK]
 cases ev G tm c with
 | lit v => cases v <;> first | rfl | (rename_i t; cases t <;> simp)
 | _ => rfl
theorem Dn {t : TypeId} {x : Operand} : aK P G γ ⟨d, .load t x, ty, pos, af, g⟩ ⟨tm, H, nx, df⟩ K Qp = oK ((tgt H (ev G tm x)).bind (vload P t)) (fun x => fin d γ tm H nx df K x .none) := by
 rw [dE (by simp) (by simp) (by simp)]
 simp only [vop]
 cases tgt H (ev G tm x) with
 | none => rfl
 | some cs => simp only [Option.bind_some]; exact lD
theorem PI {t f : Nat} {x : Operand} : aK P G γ ⟨d, .fieldAddr t x f, ty, pos, af, g⟩ ⟨tm, H, nx, df⟩ K Qp = oK (al P H t (ev G tm x) f) (fun x => fin d γ tm H nx df K x .none) := by
 rw [dE (by simp) (by simp) (by simp)]; simp only [vop]; exact lD
theorem D9 {t f : Nat} {x : Operand} : aK P G γ ⟨d, .field t x f, ty, pos, af, g⟩ ⟨tm, H, nx, df⟩ K Qp = oK (vfield P t (ev G tm x) f) (fun x => fin d γ tm H nx df K x .none) := by
 rw [dE (by simp) (by simp) (by simp)]; simp only [vop]; exact lD
theorem P8 {t : Nat} {x i : Operand} : aK P G γ ⟨d, .indexAddr t x i, ty, pos, af, g⟩ ⟨tm, H, nx, df⟩ K Qp = oK (aB P H t (ev G tm x) (ev G tm i)) (fun x => fin d γ tm H nx df K x .none) := by
 rw [dE (by simp) (by simp) (by simp)]; simp only [vop]; exact lD
theorem II {t : Nat} {x i : Operand} : aK P G γ ⟨d, .index t x i, ty, pos, af, g⟩ ⟨tm, H, nx, df⟩ K Qp = oK (vindex P t (ev G tm x) (ev G tm i)) (fun x => fin d γ tm H nx df K x .none) := by
 rw [dE (by simp) (by simp) (by simp)]; simp only [vop]; exact lD
def binV (P : Program) (H : Nat → Option VObj) (op : BinOp) (t : TypeId) (x y : Operand) (a b : VV) : Option VV :=
 match a.val?, b.val? with
 | some a, some b => (vbin P op t x y a b).map ofVal
 | _, _ => vptrEq P H op t a b
theorem Dk {op : BinOp} {t u : TypeId} {x y : Operand} : aK P G γ ⟨d, .binOp op t x y u, ty, pos, af, g⟩ ⟨tm, H, nx, df⟩ K Qp = oK (binV P H op t x y (ev G tm x) (ev G tm y)) (fun x => fin d γ tm H nx df K x .none) := by
 rw [dE (by simp) (by simp) (by simp)]
 simp only [vop, binV]
 cases (ev G tm x).val? with
 | none => simp only []; cases vptrEq P H op t (ev G tm x) (ev G tm y) <;> rfl
 | some a => cases (ev G tm y).val? with
  | none => simp only []; cases vptrEq P H op t (ev G tm x) (ev G tm y) <;> rfl
  | some b => exact uX
def unV (P : Program) (op : UnOp) (a : VV) : Option VV := match a.val? with | some a => (aD P (Op.unary op a)).map ofVal | none => none
theorem Dl {op : UnOp} {t : TypeId} {x : Operand} : aK P G γ ⟨d, .unOp op t x, ty, pos, af, g⟩ ⟨tm, H, nx, df⟩ K Qp = oK (unV P op (ev G tm x)) (fun x => fin d γ tm H nx df K x .none) := by
 rw [dE (by simp) (by simp) (by simp)]
 simp only [vop, unV]
 cases (ev G tm x).val? with
 | none => rfl
 | some a => exact uX
theorem Px {t : TypeId} : aK P G γ ⟨d, .alloc t, ty, pos, af, g⟩ ⟨tm, H, nx, df⟩ K Qp = (match vzero P t with | some z => fin d γ tm H nx df K (.ptr γ 0) (.new (.cells (some t) (z.toList.map ofVal1))) | none => False) := by
 rw [dE (by simp) (by simp) (by simp)]; simp only [vop]; cases vzero P t <;> rfl
theorem DH {t : TypeId} {x : Operand} : aK P G γ ⟨d, .box t x, ty, pos, af, g⟩ ⟨tm, H, nx, df⟩ K Qp = (match aR (ev G tm x) with | some cs => fin d γ tm H nx df K (.ptr γ 0) (.new (.cells (some t) cs)) | none => False) := by
 rw [dE (by simp) (by simp) (by simp)]; simp only [vop]; cases aR (ev G tm x) <;> rfl
theorem PJ {t : TypeId} {ps : Array (Nat × Operand)} : aK P G γ ⟨d, .build t ps, ty, pos, af, g⟩ ⟨tm, H, nx, df⟩ K Qp = oK (vbuild P t (ps.toList.map fun p => (p.1, ev G tm p.2))) (fun x => fin d γ tm H nx df K x .none) := by
 rw [dE (by simp) (by simp) (by simp)]; simp only [vop]; exact lD
theorem PO {t k : Nat} {ps : Array (Nat × Operand)} : aK P G γ ⟨d, .buildSlice t k ps, ty, pos, af, g⟩ ⟨tm, H, nx, df⟩ K Qp =
  (match aO P t k (ps.toList.map fun p => (p.1, ev G tm p.2)) with | some p => fin d γ tm H nx df K (.ref γ 0 k p.2 k) (.new (.cells (elemT P t) p.1)) | none => False) := by
 rw [dE (by simp) (by simp) (by simp)]; simp only [vop]; cases aO P t k (ps.toList.map fun p => (p.1, ev G tm p.2)) <;> rfl
theorem P1 {t : TypeId} {a x : Operand} : aK P G γ ⟨d, .store t a x, ty, pos, af, g⟩ ⟨tm, H, nx, df⟩ K Qp = oeK (vop P ⟨d, .store t a x, ty, pos, af, g⟩ (ev G tm) H γ) (fun x e => fin d γ tm H nx df K x e) := by
 rw [dE (by simp) (by simp) (by simp)]
theorem PK {t : Operand} {i : Nat} : aK P G γ ⟨d, .extract t i, ty, pos, af, g⟩ ⟨tm, H, nx, df⟩ K Qp = (match ev G tm t with | .tup vs => oK (vs[i]?) (fun x => fin d γ tm H nx df K x .none) | _ => False) := by
 rw [dE (by simp) (by simp) (by simp)]
 simp only [vop]
 cases ev G tm t <;> try rfl
 exact lD
theorem PM {t : TypeId} {x : Operand} {lo hi mx : Option Operand} : aK P G γ ⟨d, .slice t x lo hi mx, ty, pos, af, g⟩ ⟨tm, H, nx, df⟩ K Qp = oeK (vop P ⟨d, .slice t x lo hi mx, ty, pos, af, g⟩ (ev G tm) H γ) (fun x e => fin d γ tm H nx df K x e) := by
 rw [dE (by simp) (by simp) (by simp)]
theorem PN {t : TypeId} {x y : Operand} : aK P G γ ⟨d, .makeSlice t x y, ty, pos, af, g⟩ ⟨tm, H, nx, df⟩ K Qp = oeK (vop P ⟨d, .makeSlice t x y, ty, pos, af, g⟩ (ev G tm) H γ) (fun x e => fin d γ tm H nx df K x e) := by
 rw [dE (by simp) (by simp) (by simp)]
theorem vV {b : Builtin} {as : Array Operand} {ats : Array TypeId} : aK P G γ ⟨d, .call ⟨.builtin b, as, ats⟩, ty, pos, af, g⟩ ⟨tm, H, nx, df⟩ K Qp = oeK (vbuiltin P ⟨.builtin b, as, ats⟩ (ev G tm) H γ) (fun x e => fin d γ tm H nx df K x e) := by
 simp only [aK, opK, vop, ev_eq, oeK, cR]
 rfl
theorem Dp {t : TypeId} {x : Operand} : aK P G γ ⟨d, .call ⟨.builtin .len, #[x], #[t]⟩, ty, pos, af, g⟩ ⟨tm, H, nx, df⟩ K Qp = oK (vlen P H t (ev G tm x)) (fun x => fin d γ tm H nx df K x .none) := by
 rw [vV]; exact lD
theorem PL {t t2 : TypeId} {x y : Operand} : aK P G γ ⟨d, .call ⟨.builtin .append, #[x, y], #[t, t2]⟩, ty, pos, af, g⟩ ⟨tm, H, nx, df⟩ K Qp = oeK (vappend P H γ t t2 (ev G tm x) (ev G tm y)) (fun x e => fin d γ tm H nx df K x e) := by
 rw [vV]; rfl
theorem DG {f : Nat} {as : Array Operand} {ats : Array TypeId} : aK P G γ ⟨d, .call ⟨.value (.func f), as, ats⟩, ty, pos, af, g⟩ ⟨tm, H, nx, df⟩ K Qp = callK P G f (as.toList.map (ev G tm)) ⟨tm, H, nx, df⟩ d γ K Qp := by
 simp only [aK, ev_eq, ev, List.nil_append, List.append_nil]
theorem ktree {f : FuncId} {args args0 : List VV} {x : VV} (hn : normL args = args0) (ht : treeL args = true) (hp : aj P G f args0 (.tree x)) (h : fin d γ tm H nx df K x .none) : callK P G f args ⟨tm, H, nx, df⟩ d γ K Qp := by
 subst hn
 refine .inl ⟨ht, .tree x, hp.norm, ?_⟩
 rw [← cR (K := K), fh] at h
 exact h
theorem kseen {f : FuncId} {args args0 : List VV} {x : VV} (hn : normL (args.map (showV H 3)) = args0) (ht : treeL (args.map (showV H 3)) = true) (hp : aj P G f args0 (.tree x)) (hf : x.flat = true) (h : fin d γ tm H nx df K x .none) : callK P G f args ⟨tm, H, nx, df⟩ d γ K Qp := by
 subst hn
 refine .inr (.inl ⟨ht, .tree x, hp.norm, hf, ?_⟩)
 rw [← cR (K := K), fh] at h
 exact h
theorem kopen {f : FuncId} {args : List VV} {st : St} (h : openK P G f args st d K Qp) : callK P G f args st d γ K Qp := .inr (.inr h)
theorem pH {f : FuncId} {args : List VV} : openK P G f args ⟨tm, H, nx, df⟩ d K Qp = an P G f args H nx (fun x H' nx' => match d with | some d => K ⟨upd tm d x, H', nx', df⟩ | none => K ⟨tm, H', nx', df⟩) (fun x H' nx' => Qp x ⟨tm, H', nx', df⟩) := by
 cases d <;> rfl
theorem KP : treeL [] = true := rfl
theorem Dq {x : VV} {xs : List VV} : treeL (x :: xs) = (x.tree && treeL xs) := rfl
theorem Dr {v : Value} : (VV.lit v).tree = true := rfl
theorem KQ {cs : List VV} : (VV.agg cs).tree = treeL cs := rfl
theorem tJ {cs : List VV} : (VV.tup cs).tree = treeL cs := rfl
theorem tI {cs : List VV} {k : Nat} {b : Bool} : (VV.sl cs k b).tree = treeL cs := rfl
theorem Ds {t : Nat} {x : VV} : fin (some t) γ tm H nx df K x .none = K ⟨upd tm t x, H, nx, df⟩ := rfl
theorem DJ {t : Nat} {x : VV} {o : VObj} : fin (some t) γ tm H nx df K x (.new o) = K ⟨upd tm t x, updH H γ o, nx, df⟩ := rfl
theorem DK {x : VV} {β : Nat} {o : VObj} : fin none γ tm H nx df K x (.upd β o) = K ⟨tm, updH H β o, nx, df⟩ := rfl
theorem DL {t : Nat} {x : VV} {β : Nat} {el : Option TypeId} {cs : List VV} : fin (some t) γ tm H nx df K x (.mv β el cs) = K ⟨upd tm t x, updH (without H β) γ (.cells el cs), nx, df⟩ := rfl
theorem De {ops : Array Oper} {base i : Nat} {st : St} : seqK P G ops base Q i [] st = Q .normal st := rfl
theorem Df {ops : Array Oper} {base i : Nat} {o : Oper} {st : St} : seqK P G ops base Q i (o :: l) st = stepK P G ops (base + i) o st (seqK P G ops base Q (i + 1) l) (fun x st' => Q (.panic x) st') := rfl
theorem CU {a b : Code} {st : St} : CWp P G n (.seq a b) Q st = CWp P G n a (VExit.then (CWp P G n b Q) Q) st := rfl
theorem CX {st : St} : CWp P G n .skip Q st = Q .normal st := rfl
theorem Da {id : Nat} {st : St} : CWp P G n (.exit id) Q st = Q (.exit id) st := rfl
theorem CW {st : St} : CWp P G n .ret Q st = Q .ret st := rfl
theorem CZ {id : Nat} {a : Code} {st : St} : CWp P G n (.block id a) Q st = CWp P G n a (VExit.inBlock id Q) st := rfl
def condK (x : VV) (a b : Prop) : Prop := match x with
 | .lit (.bool t) => (t = true → a) ∧ (t = false → b)
 | _ => False
theorem CY {c : Operand} {a b : Code} : CWp P G n (.cond c a b) Q ⟨tm, H, nx, df⟩ = condK (ev G tm c) (CWp P G n a Q ⟨tm, H, nx, df⟩) (CWp P G n b Q ⟨tm, H, nx, df⟩) := by
 simp only [CWp, ev_eq, condK]
 rfl
theorem CV {id : Nat} : CWp P G n (.region id ⟨l⟩ false) Q ⟨tm, H, nx, df⟩ = seqK P G ⟨l⟩ nx Q 0 l ⟨tm, H, nx + l.length, df⟩ := rfl
theorem P4 {next : St → Prop} {st : St} : VExit.then next Q .normal st = next st := rfl
theorem Dc {next : St → Prop} {id : Nat} {st : St} : VExit.then next Q (.exit id) st = Q (.exit id) st := rfl
theorem Db {next : St → Prop} {st : St} : VExit.then next Q .ret st = Q .ret st := rfl
theorem DO {next : St → Prop} {x : VV} {st : St} : VExit.then next Q (.panic x) st = Q (.panic x) st := rfl
theorem P5 {id : Nat} {st : St} : VExit.inBlock id Q .normal st = Q .normal st := rfl
theorem Dd {id : Nat} {st : St} : VExit.inBlock id Q .ret st = Q .ret st := rfl
theorem KO {id id' : Nat} {st : St} : VExit.inBlock id Q (.exit id') st = if id' = id then Q .normal st else Q (.exit id') st := rfl
theorem PV {id : Nat} {x : VV} {st : St} : VExit.inBlock id Q (.panic x) st = Q (.panic x) st := rfl
theorem P6 {w : Bool} {a b : Prop} {v : Array Value} : guardK (.lit (.tuple v)) w a b = b := rfl
theorem kn {t : Tmp} : ev G tm (.tmp t) = tm t := rfl
theorem oM {k : IntKind} {i : Int} : ev G tm (.const (.int k i)) = .lit (.int k i) := rfl
theorem Dt {b : Bool} : ev G tm (.const (.bool b)) = .lit (.bool b) := rfl
theorem DM {s : ByteArray} : ev G tm (.const (.string s)) = .lit (.string s) := rfl
theorem PU : ev G tm (.const (.slice none 0 0)) = .lit (.slice none 0 0) := rfl
theorem sN {f : FuncId} : ev G tm (.func f) = .fn (.func f) [] [] := rfl
theorem Dv {k : IntKind} {t : TypeId} {x y : Operand} {a b : Int} : binV P H .lss t x y (.lit (.int k a)) (.lit (.int k b)) = some (.lit (.bool (decide (a < b)))) := by simp [binV, VV.val?, vbin, ofVal, ofVal2, ofVal1]
theorem Du {k : IntKind} {t : TypeId} {x y : Operand} {a b : Int} : binV P H .leq t x y (.lit (.int k a)) (.lit (.int k b)) = some (.lit (.bool (decide (a ≤ b)))) := by simp [binV, VV.val?, vbin, ofVal, ofVal2, ofVal1]
theorem DC {k : IntKind} {t : TypeId} {x y : Operand} {a b : Int} : binV P H .gtr t x y (.lit (.int k a)) (.lit (.int k b)) = some (.lit (.bool (decide (a > b)))) := by simp [binV, VV.val?, vbin, ofVal, ofVal2, ofVal1]
theorem DD {k : IntKind} {t : TypeId} {x y : Operand} {a b : Int} : binV P H .geq t x y (.lit (.int k a)) (.lit (.int k b)) = some (.lit (.bool (decide (a ≥ b)))) := by simp [binV, VV.val?, vbin, ofVal, ofVal2, ofVal1]
theorem DA {k : IntKind} {t : TypeId} {x y : Operand} {a b : Int} : binV P H .eql t x y (.lit (.int k a)) (.lit (.int k b)) = some (.lit (.bool (a == b))) := by simp [binV, VV.val?, vbin, ofVal, ofVal2, ofVal1]
theorem DB {k : IntKind} {t : TypeId} {x y : Operand} {a b : Int} : binV P H .neq t x y (.lit (.int k a)) (.lit (.int k b)) = some (.lit (.bool (a != b))) := by simp [binV, VV.val?, vbin, ofVal, ofVal2, ofVal1]
theorem Dw {k : IntKind} {t : TypeId} {x y : Operand} {a b : Int} : binV P H .add t x y (.lit (.int k a)) (.lit (.int k b)) = some (.lit (.int k (k.wrap (a + b)))) := by simp [binV, VV.val?, vbin, ofVal, ofVal2, ofVal1]
theorem DE {k : IntKind} {t : TypeId} {x y : Operand} {a b : Int} : binV P H .sub t x y (.lit (.int k a)) (.lit (.int k b)) = some (.lit (.int k (k.wrap (a - b)))) := by simp [binV, VV.val?, vbin, ofVal, ofVal2, ofVal1]
theorem DF {k : IntKind} {t : TypeId} {x y : Operand} {a b : Int} : binV P H .mul t x y (.lit (.int k a)) (.lit (.int k b)) = some (.lit (.int k (k.wrap (a * b)))) := by simp [binV, VV.val?, vbin, ofVal, ofVal2, ofVal1]
theorem Dx {b : Bool} : unV P .not (.lit (.bool b)) = some (.lit (.bool (!b))) := by simp [unV, VV.val?, Op.unary, fj, ofVal, ofVal2, ofVal1]
@[congr] theorem Qy {x x' : Option VV} {k : VV → Prop} (h : x = x') : oK x k = oK x' k := by rw [h]
@[congr] theorem Qz {x x' : Option (VV × VEff)} {k : VV → VEff → Prop} (h : x = x') : oeK x k = oeK x' k := by rw [h]
@[congr] theorem Q0 {code : Code} {st st' : St} (h : st = st') : CWp P G n code Q st = CWp P G n code Q st' := by rw [h]
@[congr] theorem Q1 {ops : Array Oper} {base i : Nat} {st st' : St} (h : st = st') : seqK P G ops base Q i l st = seqK P G ops base Q i l st' := by rw [h]
@[congr] theorem Q2 {ops : Array Oper} {o : Oper} {st st' : St} (h : st = st') : stepK P G ops γ o st K Qp = stepK P G ops γ o st' K Qp := by rw [h]
@[congr] theorem Q3 {o : Oper} {st st' : St} (h : st = st') : aK P G γ o st K Qp = aK P G γ o st' K Qp := by rw [h]
@[congr] theorem Q4 {x x' : VV} {e e' : VEff} (h : x = x') (h2 : e = e') : fin d γ tm H nx df K x e = fin d γ tm H nx df K x' e' := by rw [h, h2]
@[congr] theorem Q5 {t t' : Option Tmp} {w : Bool} {a b : Prop} (h : t = t') : gK t tm w a b = gK t' tm w a b := by rw [h]
@[congr] theorem Q6 {x x' : VV} {w : Bool} {a b : Prop} (h : x = x') : guardK x w a b = guardK x' w a b := by rw [h]
@[congr] theorem Q7 {x x' : VV} {a b : Prop} (h : x = x') : condK x a b = condK x' a b := by rw [h]
@[congr] theorem Q8 {c c' a b : VV} {k : VV → Prop} (h : c = c') : pickK c a b k = pickK c' a b k := by rw [h]
@[congr] theorem Q9 {f : FuncId} {args args' : List VV} {st : St} (h : args = args') : callK P G f args st d γ K Qp = callK P G f args' st d γ K Qp := by rw [h]
theorem argsTm1 {a : VV} : aP [a] = upd (fun _ => .lit undef) 0 a := by
 funext t; rcases t with _ | t <;> simp [aP, upd]
theorem argsTm2 {a b : VV} : aP [a, b] = upd (upd (fun _ => .lit undef) 0 a) 1 b := by
 funext t; rcases t with _ | _ | t <;> simp [aP, upd]
theorem argsTm3 {a b c : VV} : aP [a, b, c] = upd (upd (upd (fun _ => .lit undef) 0 a) 1 b) 2 c := by
 funext t; rcases t with _ | _ | _ | t <;> simp [aP, upd]
theorem argsTm4 {a b c e : VV} : aP [a, b, c, e] = upd (upd (upd (upd (fun _ => .lit undef) 0 a) 1 b) 2 c) 3 e := by
 funext t; rcases t with _ | _ | _ | _ | t <;> simp [aP, upd]
theorem argsTm5 {a b c e f : VV} : aP [a, b, c, e, f] = upd (upd (upd (upd (upd (fun _ => .lit undef) 0 a) 1 b) 2 c) 3 e) 4 f := by
 funext t; rcases t with _ | _ | _ | _ | _ | t <;> simp [aP, upd]
end
end Go.V
end
