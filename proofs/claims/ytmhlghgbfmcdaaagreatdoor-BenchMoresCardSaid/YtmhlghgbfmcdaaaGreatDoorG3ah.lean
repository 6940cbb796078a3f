/- Part of a proof. -/
import Derived.Test.YtmhlghgbfmcdaaaGreatDoorG3ag
set_option linter.all false
section
namespace Go.V
open Go
theorem jM (f : Nat → VV) (d : Nat) (x : VV) (i : Nat) : upd f d x i = if i = d then x else f i := rfl
theorem aK (H : Nat → Option VObj) (d : Nat) (o : VObj) (i : Nat) : updH H d o i = if i = d then some o else H i := rfl
theorem bk (H : Nat → Option VObj) (d i : Nat) : without H d i = if i = d then none else H i := rfl
def ev (G : Glob) (tm : Nat → VV) : Operand → VV
 | .tmp t => tm t
 | .const v => ofVal v
 | .global g => match G g with
  | some cs => .tp cs
  | none => .lit (.pointer (some ⟨g, 0, none⟩))
 | .func f => .fn (.func f) [] []
theorem ev_eq {G : Glob} {tm : Nat → VV} {H : Nat → Option VObj} {nx : Nat} {df : List VDef} : St.ρ G ⟨tm, H, nx, df⟩ = ev G tm := by
 funext y; cases y <;> rfl
def fin (d : Option Tmp) (γ : Nat) (tm : Nat → VV) (H : Nat → Option VObj) (nx : Nat) (df : List VDef) (K : St → Prop) (x : VV) : VEff → Prop
 | .none => match d with | some d => K ⟨upd tm d x, H, nx, df⟩ | none => K ⟨tm, H, nx, df⟩
 | .new o => match d with | some d => K ⟨upd tm d x, updH H γ o, nx, df⟩ | none => K ⟨tm, updH H γ o, nx, df⟩
 | .upd β o => match d with | some d => K ⟨upd tm d x, updH H β o, nx, df⟩ | none => K ⟨tm, updH H β o, nx, df⟩
 | .mv β el cs => match d with | some d => K ⟨upd tm d x, updH (without H β) γ (.cells el cs), nx, df⟩ | none => K ⟨tm, updH (without H β) γ (.cells el cs), nx, df⟩
 | .kill β => match d with | some d => K ⟨upd tm d x, without H β, nx, df⟩ | none => K ⟨tm, without H β, nx, df⟩
theorem dM {d : Option Tmp} {γ : Nat} {tm : Nat → VV} {H : Nat → Option VObj} {nx : Nat} {df : List VDef} {K : St → Prop} {x : VV} {eff : VEff} :
  K (aX ⟨tm, H, nx, df⟩ d x eff γ) = fin d γ tm H nx df K x eff := by
 cases d <;> cases eff <;> rfl
section
variable {P : Program} {G : Glob} {n : Nat} {γ : Nat} {tm : Nat → VV} {H : Nat → Option VObj} {nx : Nat} {df : List VDef} {K : St → Prop} {Qp : VV → St → Prop} {Q : VExit → St → Prop}
 {d : Option Tmp} {ty : TypeId} {pos : String} {af : Array Edge} {g : Option (Nat × Bool)} {l : List Oper}
theorem DY {op : Op} {st : St} : stepK P G ⟨l⟩ γ ⟨d, op, ty, pos, af, none⟩ st K Qp = aP P G γ ⟨d, op, ty, pos, af, none⟩ st K Qp := by
 simp [stepK, aI]
def guardK (x : VV) (w : Bool) (yes no : Prop) : Prop :=
 match x with
 | .lit (.bool b) => (b = w → yes) ∧ (b ≠ w → no)
 | .lit (.tuple _) => no
 | _ => False
theorem Pw {op : Op} {j : Nat} {w : Bool} {o' : Oper} {t : Tmp} (ho : l[j]? = some o') (hd : o'.dst = some t) : stepK P G ⟨l⟩ γ ⟨d, op, ty, pos, af, some (j, w)⟩ ⟨tm, H, nx, df⟩ K Qp =
  guardK (tm t) w (aP P G γ ⟨d, op, ty, pos, af, some (j, w)⟩ ⟨tm, H, nx, df⟩ K Qp) (fin d γ tm H nx df K (.lit undef) .none) := by
 have e : ((⟨l⟩ : Array Oper)[j]?).bind (·.dst) = some t := by simp [ho, hd]
 have e2 : ∀ st : St, K (st.put d (.lit undef)) = K (aX st d (.lit undef) .none γ) := fun st => by rw [fW]
 unfold stepK aI
 simp only [e, e2, dM]
 unfold guardK
 cases htm : tm t with
 | lit v =>
  cases v with
  | bool b => cases b <;> cases w <;> simp
  | tuple a => simp
  | _ => simp
 | _ => simp
def oK (x : Option VV) (k : VV → Prop) : Prop := match x with | some y => k y | none => False
theorem DZ {y : VV} {k : VV → Prop} : oK (some y) k = k y := rfl
theorem Ea {k : VV → Prop} : oK none k = False := rfl
def oeK (x : Option (VV × VEff)) (k : VV → VEff → Prop) : Prop := match x with | some (y, e) => k y e | none => False
theorem Eb {y : VV} {e : VEff} {k : VV → VEff → Prop} : oeK (some (y, e)) k = k y e := rfl
theorem kZ {x : Option VV} {k : VV → VEff → Prop} : oeK (x.map fun y => (y, VEff.none)) k = oK x (fun y => k y .none) := by cases x <;> rfl
theorem uC {α : Type} {x : Option α} {f : α → VV} {k : VV → VEff → Prop} : oeK (x.map fun y => (f y, VEff.none)) k = oK (x.map f) (fun y => k y .none) := by cases x <;> rfl
def gK (t : Option Tmp) (tm : Nat → VV) (w : Bool) (yes no : Prop) : Prop := match t with
 | none => no
 | some t => guardK (tm t) w yes no
theorem Ec {t : Tmp} {w : Bool} {a b : Prop} : gK (some t) tm w a b = guardK (tm t) w a b := rfl
theorem Ee {op : Op} {j : Nat} {w : Bool} : stepK P G ⟨l⟩ γ ⟨d, op, ty, pos, af, some (j, w)⟩ ⟨tm, H, nx, df⟩ K Qp =
  gK ((l[j]?).bind (·.dst)) tm w (aP P G γ ⟨d, op, ty, pos, af, some (j, w)⟩ ⟨tm, H, nx, df⟩ K Qp) (fin d γ tm H nx df K (.lit undef) .none) := by
 cases ho : l[j]? with
 | none =>
  have e2 : ∀ st : St, K (st.put d (.lit undef)) = K (aX st d (.lit undef) .none γ) := fun st => by rw [fW]
  simp [stepK, aI, ho, gK, e2, dM]
 | some o' =>
  cases hd : o'.dst with
  | none =>
   have e2 : ∀ st : St, K (st.put d (.lit undef)) = K (aX st d (.lit undef) .none γ) := fun st => by rw [fW]
   simp [stepK, aI, ho, hd, gK, e2, dM]
  | some t => rw [Pw ho hd]; simp [hd, gK]
theorem eP {op : Op} (h : ∀ k, op ≠ .call k) (h' : ∀ x, op ≠ .panic x) (h'' : ∀ k, op ≠ .defer k) :
  aP P G γ ⟨d, op, ty, pos, af, g⟩ ⟨tm, H, nx, df⟩ K Qp = oeK (vop P ⟨d, op, ty, pos, af, g⟩ (ev G tm) H γ) (fun x eff => fin d γ tm H nx df K x eff) := by
 unfold aP
 cases op <;> first | exact absurd rfl (h _) | exact absurd rfl (h' _) | exact absurd rfl (h'' _) | (simp only [opK, ev_eq, dM, oeK]; rfl)
theorem Ef {x : Operand} : aP P G γ ⟨d, .move x, ty, pos, af, g⟩ ⟨tm, H, nx, df⟩ K Qp = fin d γ tm H nx df K (ev G tm x) .none := by
 rw [eP (by simp) (by simp) (by simp)]; rfl
theorem Px {x : Operand} : aP P G γ ⟨d, .assign x, ty, pos, af, g⟩ ⟨tm, H, nx, df⟩ K Qp = fin d γ tm H nx df K (ev G tm x) .none := by
 rw [eP (by simp) (by simp) (by simp)]; rfl
def pickK (c : VV) (a b : VV) (k : VV → Prop) : Prop := match c with
 | .lit (.bool t) => (t = true → k a) ∧ (t = false → k b)
 | _ => False
theorem Eg {c a b : Operand} : aP P G γ ⟨d, .pick c a b, ty, pos, af, g⟩ ⟨tm, H, nx, df⟩ K Qp = pickK (ev G tm c) (ev G tm a) (ev G tm b) (fun x => fin d γ tm H nx df K x .none) := by
 rw [eP (by simp) (by simp) (by simp)]
 simp only [vop, pickK, oeK]
 cases ev G tm c with
 | lit v => cases v <;> first | rfl | (rename_i t; cases t <;> simp)
 | _ => rfl
theorem Eh {t : TypeId} {x : Operand} : aP P G γ ⟨d, .load t x, ty, pos, af, g⟩ ⟨tm, H, nx, df⟩ K Qp = oK ((tgt H (ev G tm x)).bind (aD P t)) (fun x => fin d γ tm H nx df K x .none) := by
 rw [eP (by simp) (by simp) (by simp)]
 simp only [vop]
 cases tgt H (ev G tm x) with
 | none => rfl
 | some cs => simp only [Option.bind_some]; exact kZ
theorem Py {t f : Nat} {x : Operand} : aP P G γ ⟨d, .fieldAddr t x f, ty, pos, af, g⟩ ⟨tm, H, nx, df⟩ K Qp = oK (aj P H t (ev G tm x) f) (fun x => fin d γ tm H nx df K x .none) := by
 rw [eP (by simp) (by simp) (by simp)]; simp only [vop]; exact kZ
theorem Ei {t f : Nat} {x : Operand} : aP P G γ ⟨d, .field t x f, ty, pos, af, g⟩ ⟨tm, H, nx, df⟩ K Qp = oK (aU P t (ev G tm x) f) (fun x => fin d γ tm H nx df K x .none) := by
 rw [eP (by simp) (by simp) (by simp)]; simp only [vop]; exact kZ
theorem Pz {t : Nat} {x i : Operand} : aP P G γ ⟨d, .indexAddr t x i, ty, pos, af, g⟩ ⟨tm, H, nx, df⟩ K Qp = oK (aA P H t (ev G tm x) (ev G tm i)) (fun x => fin d γ tm H nx df K x .none) := by
 rw [eP (by simp) (by simp) (by simp)]; simp only [vop]; exact kZ
theorem LM {t : Nat} {x i : Operand} : aP P G γ ⟨d, .index t x i, ty, pos, af, g⟩ ⟨tm, H, nx, df⟩ K Qp = oK (vindex P t (ev G tm x) (ev G tm i)) (fun x => fin d γ tm H nx df K x .none) := by
 rw [eP (by simp) (by simp) (by simp)]; simp only [vop]; exact kZ
def binV (P : Program) (H : Nat → Option VObj) (op : BinOp) (t : TypeId) (x y : Operand) (a b : VV) : Option VV :=
 match a.val?, b.val? with
 | some a, some b => (vbin P op t x y a b).map ofVal
 | _, _ => vptrEq P H op t a b
theorem Ej {op : BinOp} {t u : TypeId} {x y : Operand} : aP P G γ ⟨d, .binOp op t x y u, ty, pos, af, g⟩ ⟨tm, H, nx, df⟩ K Qp = oK (binV P H op t x y (ev G tm x) (ev G tm y)) (fun x => fin d γ tm H nx df K x .none) := by
 rw [eP (by simp) (by simp) (by simp)]
 simp only [vop, binV]
 cases (ev G tm x).val? with
 | none => simp only []; cases vptrEq P H op t (ev G tm x) (ev G tm y) <;> rfl
 | some a => cases (ev G tm y).val? with
  | none => simp only []; cases vptrEq P H op t (ev G tm x) (ev G tm y) <;> rfl
  | some b => exact uC
def unV (P : Program) (op : UnOp) (a : VV) : Option VV := match a.val? with | some a => (aC P (Op.unary op a)).map ofVal | none => none
theorem Ek {op : UnOp} {t : TypeId} {x : Operand} : aP P G γ ⟨d, .unOp op t x, ty, pos, af, g⟩ ⟨tm, H, nx, df⟩ K Qp = oK (unV P op (ev G tm x)) (fun x => fin d γ tm H nx df K x .none) := by
 rw [eP (by simp) (by simp) (by simp)]
 simp only [vop, unV]
 cases (ev G tm x).val? with
 | none => rfl
 | some a => exact uC
theorem El {t : TypeId} : aP P G γ ⟨d, .alloc t, ty, pos, af, g⟩ ⟨tm, H, nx, df⟩ K Qp = (match vzero P t with | some z => fin d γ tm H nx df K (.ptr γ 0) (.new (.cells (some t) (z.toList.map ofVal1))) | none => False) := by
 rw [eP (by simp) (by simp) (by simp)]; simp only [vop]; cases vzero P t <;> rfl
theorem Em {t : TypeId} {x : Operand} : aP P G γ ⟨d, .box t x, ty, pos, af, g⟩ ⟨tm, H, nx, df⟩ K Qp = (match aT (ev G tm x) with | some cs => fin d γ tm H nx df K (.ptr γ 0) (.new (.cells (some t) cs)) | none => False) := by
 rw [eP (by simp) (by simp) (by simp)]; simp only [vop]; cases aT (ev G tm x) <;> rfl
theorem Eo {t : TypeId} {ps : Array (Nat × Operand)} : aP P G γ ⟨d, .build t ps, ty, pos, af, g⟩ ⟨tm, H, nx, df⟩ K Qp = oK (vbuild P t (ps.toList.map fun p => (p.1, ev G tm p.2))) (fun x => fin d γ tm H nx df K x .none) := by
 rw [eP (by simp) (by simp) (by simp)]; simp only [vop]; exact kZ
theorem P0 {t k : Nat} {ps : Array (Nat × Operand)} : aP P G γ ⟨d, .buildSlice t k ps, ty, pos, af, g⟩ ⟨tm, H, nx, df⟩ K Qp =
  (match av P t k (ps.toList.map fun p => (p.1, ev G tm p.2)) with | some p => fin d γ tm H nx df K (.ref γ 0 k p.2 k) (.new (.cells (elemT P t) p.1)) | none => False) := by
 rw [eP (by simp) (by simp) (by simp)]; simp only [vop]; cases av P t k (ps.toList.map fun p => (p.1, ev G tm p.2)) <;> rfl
theorem Ep {t : TypeId} {a x : Operand} : aP P G γ ⟨d, .store t a x, ty, pos, af, g⟩ ⟨tm, H, nx, df⟩ K Qp = oeK (vop P ⟨d, .store t a x, ty, pos, af, g⟩ (ev G tm) H γ) (fun x e => fin d γ tm H nx df K x e) := by
 rw [eP (by simp) (by simp) (by simp)]
theorem P1 {t : Operand} {i : Nat} : aP P G γ ⟨d, .extract t i, ty, pos, af, g⟩ ⟨tm, H, nx, df⟩ K Qp = (match ev G tm t with | .tup vs => oK (vs[i]?) (fun x => fin d γ tm H nx df K x .none) | _ => False) := by
 rw [eP (by simp) (by simp) (by simp)]
 simp only [vop]
 cases ev G tm t <;> try rfl
 exact kZ
theorem Er {t : TypeId} {x : Operand} {lo hi mx : Option Operand} : aP P G γ ⟨d, .slice t x lo hi mx, ty, pos, af, g⟩ ⟨tm, H, nx, df⟩ K Qp = oeK (vop P ⟨d, .slice t x lo hi mx, ty, pos, af, g⟩ (ev G tm) H γ) (fun x e => fin d γ tm H nx df K x e) := by
 rw [eP (by simp) (by simp) (by simp)]
theorem P2 {t : TypeId} {x y : Operand} : aP P G γ ⟨d, .makeSlice t x y, ty, pos, af, g⟩ ⟨tm, H, nx, df⟩ K Qp = oeK (vop P ⟨d, .makeSlice t x y, ty, pos, af, g⟩ (ev G tm) H γ) (fun x e => fin d γ tm H nx df K x e) := by
 rw [eP (by simp) (by simp) (by simp)]
theorem xj {b : Builtin} {as : Array Operand} {ats : Array TypeId} : aP P G γ ⟨d, .call ⟨.builtin b, as, ats⟩, ty, pos, af, g⟩ ⟨tm, H, nx, df⟩ K Qp = oeK (vbuiltin P ⟨.builtin b, as, ats⟩ (ev G tm) H γ) (fun x e => fin d γ tm H nx df K x e) := by
 simp only [aP, opK, vop, ev_eq, oeK, dM]
 rfl
theorem Es {t : TypeId} {x : Operand} : aP P G γ ⟨d, .call ⟨.builtin .len, #[x], #[t]⟩, ty, pos, af, g⟩ ⟨tm, H, nx, df⟩ K Qp = oK (vlen P H t (ev G tm x)) (fun x => fin d γ tm H nx df K x .none) := by
 rw [xj]; exact kZ
theorem P3 {t t2 : TypeId} {x y : Operand} : aP P G γ ⟨d, .call ⟨.builtin .append, #[x, y], #[t, t2]⟩, ty, pos, af, g⟩ ⟨tm, H, nx, df⟩ K Qp = oeK (aS P H γ t t2 (ev G tm x) (ev G tm y)) (fun x e => fin d γ tm H nx df K x e) := by
 rw [xj]; rfl
theorem Et {f : Nat} {as : Array Operand} {ats : Array TypeId} : aP P G γ ⟨d, .call ⟨.value (.func f), as, ats⟩, ty, pos, af, g⟩ ⟨tm, H, nx, df⟩ K Qp = callK P G f (as.toList.map (ev G tm)) ⟨tm, H, nx, df⟩ d γ K Qp := by
 simp only [aP, ev_eq, ev, List.nil_append, List.append_nil]
theorem ktree {f : FuncId} {args args0 : List VV} {x : VV} (hn : normL args = args0) (ht : treeL args = true) (hp : ak P G f args0 (.tree x)) (h : fin d γ tm H nx df K x .none) : callK P G f args ⟨tm, H, nx, df⟩ d γ K Qp := by
 subst hn
 refine .inl ⟨ht, .tree x, hp.norm, ?_⟩
 rw [← dM (K := K), fW] at h
 exact h
theorem kseen {f : FuncId} {args args0 : List VV} {x : VV} (hn : normL (args.map (showV H 3)) = args0) (ht : treeL (args.map (showV H 3)) = true) (hp : ak P G f args0 (.tree x)) (hf : x.flat = true) (h : fin d γ tm H nx df K x .none) : callK P G f args ⟨tm, H, nx, df⟩ d γ K Qp := by
 subst hn
 refine .inr (.inl ⟨ht, .tree x, hp.norm, hf, ?_⟩)
 rw [← dM (K := K), fW] at h
 exact h
theorem kown {f : FuncId} {args args0 cs : List VV} {len es : Nat} (hn : normL args = args0) (ht : treeL args = true) (hp : ak P G f args0 (.own cs len es)) (h : fin d γ tm H nx df K (.ref γ 0 len es len) (.new (.cells none cs))) : callK P G f args ⟨tm, H, nx, df⟩ d γ K Qp := by
 subst hn
 refine .inl ⟨ht, .own cs len es, hp.norm, ?_⟩
 rw [← dM (K := K)] at h
 exact h
theorem kopen {f : FuncId} {args : List VV} {st : St} (h : openK P G f args st d K Qp) : callK P G f args st d γ K Qp := .inr (.inr h)
theorem ou {f : FuncId} {args : List VV} : openK P G f args ⟨tm, H, nx, df⟩ d K Qp = au P G f args H nx (fun x H' nx' => match d with | some d => K ⟨upd tm d x, H', nx', df⟩ | none => K ⟨tm, H', nx', df⟩) (fun x H' nx' => Qp x ⟨tm, H', nx', df⟩) := by
 cases d <;> rfl
theorem LN : treeL [] = true := rfl
theorem At {x : VV} {xs : List VV} : treeL (x :: xs) = (x.tree && treeL xs) := rfl
theorem Av {v : Value} : (VV.lit v).tree = true := rfl
theorem uD {cs : List VV} : (VV.agg cs).tree = treeL cs := rfl
theorem uE {cs : List VV} : (VV.tup cs).tree = treeL cs := rfl
theorem uF {cs : List VV} {k : Nat} {b : Bool} : (VV.sl cs k b).tree = treeL cs := rfl
theorem Eu {t : Nat} {x : VV} : fin (some t) γ tm H nx df K x .none = K ⟨upd tm t x, H, nx, df⟩ := rfl
theorem Ev {t : Nat} {x : VV} {o : VObj} : fin (some t) γ tm H nx df K x (.new o) = K ⟨upd tm t x, updH H γ o, nx, df⟩ := rfl
theorem Ew {x : VV} {β : Nat} {o : VObj} : fin none γ tm H nx df K x (.upd β o) = K ⟨tm, updH H β o, nx, df⟩ := rfl
theorem Ex {t : Nat} {x : VV} {β : Nat} {el : Option TypeId} {cs : List VV} : fin (some t) γ tm H nx df K x (.mv β el cs) = K ⟨upd tm t x, updH (without H β) γ (.cells el cs), nx, df⟩ := rfl
theorem Ey {ops : Array Oper} {base i : Nat} {st : St} : seqK P G ops base Q i [] st = Q .normal st := rfl
theorem Ez {ops : Array Oper} {base i : Nat} {o : Oper} {st : St} : seqK P G ops base Q i (o :: l) st = stepK P G ops (base + i) o st (seqK P G ops base Q (i + 1) l) (fun x st' => Q (.panic x) st') := rfl
theorem E0 {a b : Code} {st : St} : CWp P G n (.seq a b) Q st = CWp P G n a (VExit.then (CWp P G n b Q) Q) st := rfl
theorem E1 {st : St} : CWp P G n .skip Q st = Q .normal st := rfl
theorem E2 {id : Nat} {st : St} : CWp P G n (.exit id) Q st = Q (.exit id) st := rfl
theorem E3 {st : St} : CWp P G n .ret Q st = Q .ret st := rfl
theorem E4 {id : Nat} {a : Code} {st : St} : CWp P G n (.block id a) Q st = CWp P G n a (VExit.inBlock id Q) st := rfl
def condK (x : VV) (a b : Prop) : Prop := match x with
 | .lit (.bool t) => (t = true → a) ∧ (t = false → b)
 | _ => False
theorem E5 {c : Operand} {a b : Code} : CWp P G n (.cond c a b) Q ⟨tm, H, nx, df⟩ = condK (ev G tm c) (CWp P G n a Q ⟨tm, H, nx, df⟩) (CWp P G n b Q ⟨tm, H, nx, df⟩) := by
 simp only [CWp, ev_eq, condK]
 rfl
theorem E6 {id : Nat} : CWp P G n (.region id ⟨l⟩ false) Q ⟨tm, H, nx, df⟩ = seqK P G ⟨l⟩ nx Q 0 l ⟨tm, H, nx + l.length, df⟩ := rfl
theorem P4 {next : St → Prop} {st : St} : VExit.then next Q .normal st = next st := rfl
theorem E7 {next : St → Prop} {id : Nat} {st : St} : VExit.then next Q (.exit id) st = Q (.exit id) st := rfl
theorem E8 {next : St → Prop} {st : St} : VExit.then next Q .ret st = Q .ret st := rfl
theorem P5 {next : St → Prop} {x : VV} {st : St} : VExit.then next Q (.panic x) st = Q (.panic x) st := rfl
theorem P6 {id : Nat} {st : St} : VExit.inBlock id Q .normal st = Q .normal st := rfl
theorem E9 {id : Nat} {st : St} : VExit.inBlock id Q .ret st = Q .ret st := rfl
theorem EA {id id' : Nat} {st : St} : VExit.inBlock id Q (.exit id') st = if id' = id then Q .normal st else Q (.exit id') st := rfl
theorem P7 {id : Nat} {x : VV} {st : St} : VExit.inBlock id Q (.panic x) st = Q (.panic x) st := rfl
theorem P8 {w : Bool} {a b : Prop} {v : Array Value} : guardK (.lit (.tuple v)) w a b = b := rfl
theorem kV {t : Tmp} : ev G tm (.tmp t) = tm t := rfl
theorem pJ {k : IntKind} {i : Int} : ev G tm (.const (.int k i)) = .lit (.int k i) := rfl
theorem EB {b : Bool} : ev G tm (.const (.bool b)) = .lit (.bool b) := rfl
theorem EC {s : ByteArray} : ev G tm (.const (.string s)) = .lit (.string s) := rfl
theorem P9 : ev G tm (.const (.slice none 0 0)) = .lit (.slice none 0 0) := rfl
theorem kW {f : FuncId} : ev G tm (.func f) = .fn (.func f) [] [] := rfl
theorem ED {k : IntKind} {t : TypeId} {x y : Operand} {a b : Int} : binV P H .lss t x y (.lit (.int k a)) (.lit (.int k b)) = some (.lit (.bool (decide (a < b)))) := by simp [binV, VV.val?, vbin, ofVal, ofVal2, ofVal1]
theorem EF {k : IntKind} {t : TypeId} {x y : Operand} {a b : Int} : binV P H .leq t x y (.lit (.int k a)) (.lit (.int k b)) = some (.lit (.bool (decide (a ≤ b)))) := by simp [binV, VV.val?, vbin, ofVal, ofVal2, ofVal1]
theorem EG {k : IntKind} {t : TypeId} {x y : Operand} {a b : Int} : binV P H .gtr t x y (.lit (.int k a)) (.lit (.int k b)) = some (.lit (.bool (decide (a > b)))) := by simp [binV, VV.val?, vbin, ofVal, ofVal2, ofVal1]
theorem EH {k : IntKind} {t : TypeId} {x y : Operand} {a b : Int} : binV P H .geq t x y (.lit (.int k a)) (.lit (.int k b)) = some (.lit (.bool (decide (a ≥ b)))) := by simp [binV, VV.val?, vbin, ofVal, ofVal2, ofVal1]
theorem EI {k : IntKind} {t : TypeId} {x y : Operand} {a b : Int} : binV P H .eql t x y (.lit (.int k a)) (.lit (.int k b)) = some (.lit (.bool (a == b))) := by simp [binV, VV.val?, vbin, ofVal, ofVal2, ofVal1]
theorem EJ {k : IntKind} {t : TypeId} {x y : Operand} {a b : Int} : binV P H .neq t x y (.lit (.int k a)) (.lit (.int k b)) = some (.lit (.bool (a != b))) := by simp [binV, VV.val?, vbin, ofVal, ofVal2, ofVal1]
theorem EK {k : IntKind} {t : TypeId} {x y : Operand} {a b : Int} : binV P H .add t x y (.lit (.int k a)) (.lit (.int k b)) = some (.lit (.int k (k.wrap (a + b)))) := by simp [binV, VV.val?, vbin, ofVal, ofVal2, ofVal1]
theorem EL {k : IntKind} {t : TypeId} {x y : Operand} {a b : Int} : binV P H .sub t x y (.lit (.int k a)) (.lit (.int k b)) = some (.lit (.int k (k.wrap (a - b)))) := by simp [binV, VV.val?, vbin, ofVal, ofVal2, ofVal1]
theorem EM {k : IntKind} {t : TypeId} {x y : Operand} {a b : Int} : binV P H .mul t x y (.lit (.int k a)) (.lit (.int k b)) = some (.lit (.int k (k.wrap (a * b)))) := by simp [binV, VV.val?, vbin, ofVal, ofVal2, ofVal1]
theorem EN {b : Bool} : unV P .not (.lit (.bool b)) = some (.lit (.bool (!b))) := by simp [unV, VV.val?, Op.unary, gh, ofVal, ofVal2, ofVal1]
@[congr] theorem PA {x x' : Option VV} {k : VV → Prop} (h : x = x') : oK x k = oK x' k := by rw [h]
@[congr] theorem PB {x x' : Option (VV × VEff)} {k : VV → VEff → Prop} (h : x = x') : oeK x k = oeK x' k := by rw [h]
@[congr] theorem PC {code : Code} {st st' : St} (h : st = st') : CWp P G n code Q st = CWp P G n code Q st' := by rw [h]
@[congr] theorem PD {ops : Array Oper} {base i : Nat} {st st' : St} (h : st = st') : seqK P G ops base Q i l st = seqK P G ops base Q i l st' := by rw [h]
@[congr] theorem PE {ops : Array Oper} {o : Oper} {st st' : St} (h : st = st') : stepK P G ops γ o st K Qp = stepK P G ops γ o st' K Qp := by rw [h]
@[congr] theorem PF {o : Oper} {st st' : St} (h : st = st') : aP P G γ o st K Qp = aP P G γ o st' K Qp := by rw [h]
@[congr] theorem PG {x x' : VV} {e e' : VEff} (h : x = x') (h2 : e = e') : fin d γ tm H nx df K x e = fin d γ tm H nx df K x' e' := by rw [h, h2]
@[congr] theorem PH {t t' : Option Tmp} {w : Bool} {a b : Prop} (h : t = t') : gK t tm w a b = gK t' tm w a b := by rw [h]
@[congr] theorem PI {x x' : VV} {w : Bool} {a b : Prop} (h : x = x') : guardK x w a b = guardK x' w a b := by rw [h]
@[congr] theorem PJ {x x' : VV} {a b : Prop} (h : x = x') : condK x a b = condK x' a b := by rw [h]
@[congr] theorem PK {c c' a b : VV} {k : VV → Prop} (h : c = c') : pickK c a b k = pickK c' a b k := by rw [h]
@[congr] theorem PL {f : FuncId} {args args' : List VV} {st : St} (h : args = args') : callK P G f args st d γ K Qp = callK P G f args' st d γ K Qp := by rw [h]
theorem argsTm1 {a : VV} : aV [a] = upd (fun _ => .lit undef) 0 a := by
 funext t; rcases t with _ | t <;> simp [aV, upd]
theorem argsTm2 {a b : VV} : aV [a, b] = upd (upd (fun _ => .lit undef) 0 a) 1 b := by
 funext t; rcases t with _ | _ | t <;> simp [aV, upd]
theorem argsTm3 {a b c : VV} : aV [a, b, c] = upd (upd (upd (fun _ => .lit undef) 0 a) 1 b) 2 c := by
 funext t; rcases t with _ | _ | _ | t <;> simp [aV, upd]
theorem argsTm4 {a b c e : VV} : aV [a, b, c, e] = upd (upd (upd (upd (fun _ => .lit undef) 0 a) 1 b) 2 c) 3 e := by
 funext t; rcases t with _ | _ | _ | _ | t <;> simp [aV, upd]
theorem argsTm5 {a b c e f : VV} : aV [a, b, c, e, f] = upd (upd (upd (upd (upd (fun _ => .lit undef) 0 a) 1 b) 2 c) 3 e) 4 f := by
 funext t; rcases t with _ | _ | _ | _ | _ | t <;> simp [aV, upd]
end
end Go.V
end
